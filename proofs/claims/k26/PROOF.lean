import PyProof.Rows.All
import Wide.All
import OpenK.AllK
import Wide.FinOn
import Lean
import PyProof.EqAt
import PyProof.EqKinds
import PyProof.TupleCall
import PyProof.ZipIter
import PySem.Challenge.RW_blockfall_k26_papers_told
set_option bootstrap.genMatcherCode false
set_option genSizeOf false
set_option genSizeOfSpec false
set_option Elab.async false
set_option linter.all false
set_option maxRecDepth 100000
set_option maxHeartbeats 4000000
set_option maxHeartbeats 1000000
noncomputable section
open PySem.W (kitOne kia_one keepIn fnOf codeIn nsIn mg_of mg_none_of)
namespace L2
open PySem
noncomputable abbrev PKy:=Int×List Int
noncomputable def dI (b:Bool)(v u:Value):List Value:=match b with
 |false=>[v,u]
 |true=>[u,v]
noncomputable def cM (ks:List Int):Int:=reduceHash (Builtin.Tuple.tupleHashOf (ks.map hashInt))
def g8 (b:Bool)(k:PKy):Int:=match b with
 |false=>reduceHash (Builtin.Tuple.tupleHashOf [hashInt k.1,cM k.2])
 |true=>reduceHash (Builtin.Tuple.tupleHashOf [cM k.2,hashInt k.1])
section
variable {prog:Program}{w:World}
def IsPk (prog:Program)(w:World)(b:Bool)(h:Heap)(k:PKy)(a:Addr):Prop:=
 ∃o items n c v,h.get? a=some o/\o.cls=.type "tuple"/\o.data=.seq items n/\IsTupleKey (intKind prog w) h k.2 c/\Value.isInt k.1 v=true/\items.toList=dI b v (.ref c)
theorem IsPk.typeIs {b:Bool}{s:Shared}{k:PKy}{a:Addr}(x:IsPk prog w b s.heap k a):s.TypeIs (.ref a) "tuple":=let ⟨o,_,_,_,_,ho,hc,_⟩:=x;⟨o,ho,hc⟩
theorem IsPk.inj {b:Bool}{h:Heap}{a:Addr}{x y:PKy}(hx:IsPk prog w b h x a)(hy:IsPk prog w b h y a):x=y:=by
 obtain⟨o,items,n,c,v,ho,_,hd,hk,hv,hi⟩:=hx
 obtain⟨o',items',n',c',v',ho',_,hd',hk',hv',hi'⟩:=hy
 obtain rfl:o=o':=Option.some.inj (ho.symm.trans ho')
 rw[hd] at hd'
 injection hd' with h1 _
 subst h1
 rw[hi] at hi'
 have e:v=v'/\c=c':=by
  cases b with
  |false=>injection hi' with e1 e2;injection e2 with e2 _;injection e2 with e2;exact⟨e1,e2⟩
  |true=>injection hi' with e1 e2;injection e2 with e2 _;injection e1 with e1;exact⟨e2,e1⟩
 obtain⟨rfl,rfl⟩:=e
 exact Prod.ext (Value.isInt_inj v _ _ hv hv') (hk.inj hk')
theorem IsPk.keeps {b:Bool}{h h':Heap}{k:PKy}{a d:Addr}{o:Obj}{es ep}(x:IsPk prog w b h k a)(ho:h.get? d=some o)(hd:o.data=.dict es ep)(hs:Heap.SameBut d h h'):IsPk prog w b h' k a:=by
 obtain⟨o',items,n,c,v,ho',hc,hd',hk,hv,hi⟩:=x
 have hne:a≠d:=by
  rintro rfl
  obtain rfl:o'=o:=Option.some.inj (ho'.symm.trans ho)
  rw[hd] at hd';exact nomatch hd'
 exact⟨o',items,n,c,v,(hs.2 a hne).trans ho',hc,hd',hk.keeps ho hd hs,hv,hi⟩
variable {A:Around}{E:Value->Shared->Prop}{s:Shared}
theorem gz {b:Bool}{k:PKy}{a:Addr}{Q:Int->Shared->Prop}(hu:A.units+1<cLine)(hk:IsPk prog w b s.heap k a)(h:Q (g8 b k) {s with toks:=s.toks+(k.2.length+3)}):
  wpAny (model prog w) A (pyHash (.ref a)) Q E s:=by
 have hT:=hk.typeIs
 obtain⟨o,items,n,c,v,ho,_,hd,hk,hv,hi⟩:=hk
 obtain⟨i,ks⟩:=k
 unfold pyHash
 first|unfold pyHashByItsType|skip
 first|refine wpAny_bind (wpAny_cRoomFor_or (.inr (Nat.lt_of_succ_lt hu)) ?_)|skip
 refine wpAny_bind (wpAny_specialOf hT F.slot_tuple_hash.lookup ?_)
 show wpAny _ _ (if (some (Value.builtin "tuple.__hash__")==some Value.none)=true then _ else _) Q E s
 rw[if_neg (by rw[beq_builtin_none];exact Bool.false_ne_true)]
 refine wpAny_bind (wpAny_specialOf hT F.slot_tuple_hash.lookup ?_)
 show wpAny _ _ (callSpecialIfBoundUnlessNone? (.ref a) "__hash__" _>>=_) Q E s
 refine wpAny_bind (wpAny_callSpecialIfBoundUnlessNone?_slot hT F.slot_tuple_hash (wpAny_call_entry F.slot_tuple_hash hT F.entry_tuple_hash ?_ (F.args_tuple_hash_1 _)))
 show wpAny _ _ (Builtin.Tuple.tupleItemsOf (.ref a)>>=_) _ _ s
 refine wpAny_bind (wpAny_tupleItemsOf ho hd ?_)
 refine wpAny_bind ?_
 rw[<-Array.forIn_toList,hi]
 cases b with
 |false=>
  unfold dI
  simp only[List.forIn_cons,List.forIn_nil]
  refine wpAny_bind (wpAny_bind ((intKind prog w).pyHash (k:=i) hv ?_))
  refine wpAny_pure (wpAny_bind (wpAny_bind (wpAny_pyHash_tuple (knd:=intKind prog w) hu hk ?_)))
  refine wpAny_pure (wpAny_pure ?_)
  show wpAny _ _ (retInt (Builtin.Tuple.tupleHashOf [hashInt i,cM ks])) _ _ _
  refine wpAny_ret_mkInt ?_
  show wpAny _ _ (if (decide (-(2:Int) ^ 63<=Builtin.Tuple.tupleHashOf [hashInt i,cM ks]) && decide (Builtin.Tuple.tupleHashOf [hashInt i,cM ks]<2 ^ 63))=true then _ else _) Q E _
  unfold g8 reduceHash at h
  by_cases hr:(decide (-(2:Int) ^ 63<=Builtin.Tuple.tupleHashOf [hashInt i,cM ks]) && decide (Builtin.Tuple.tupleHashOf [hashInt i,cM ks]<2 ^ 63))=true
  ·rw[if_pos hr]
   simp only at h
   rw[if_pos hr] at h
   exact wpAny_pure (by simpa [Nat.add_assoc,Nat.add_comm,Nat.add_left_comm] using h)
  ·rw[if_neg hr]
   simp only at h
   rw[if_neg hr] at h
   exact wpAny_bind (wpAny_rule (wpAny_pure (by simpa [Nat.add_assoc,Nat.add_comm,Nat.add_left_comm] using h)))
 |true=>
  unfold dI
  simp only[List.forIn_cons,List.forIn_nil]
  refine wpAny_bind (wpAny_bind (wpAny_pyHash_tuple (knd:=intKind prog w) hu hk ?_))
  refine wpAny_pure (wpAny_bind (wpAny_bind ((intKind prog w).pyHash (k:=i) hv ?_)))
  refine wpAny_pure (wpAny_pure ?_)
  show wpAny _ _ (retInt (Builtin.Tuple.tupleHashOf [cM ks,hashInt i])) _ _ _
  refine wpAny_ret_mkInt ?_
  show wpAny _ _ (if (decide (-(2:Int) ^ 63<=Builtin.Tuple.tupleHashOf [cM ks,hashInt i]) && decide (Builtin.Tuple.tupleHashOf [cM ks,hashInt i]<2 ^ 63))=true then _ else _) Q E _
  unfold g8 reduceHash at h
  by_cases hr:(decide (-(2:Int) ^ 63<=Builtin.Tuple.tupleHashOf [cM ks,hashInt i]) && decide (Builtin.Tuple.tupleHashOf [cM ks,hashInt i]<2 ^ 63))=true
  ·rw[if_pos hr]
   simp only at h
   rw[if_pos hr] at h
   exact wpAny_pure (by simpa [Nat.add_assoc,Nat.add_comm,Nat.add_left_comm] using h)
  ·rw[if_neg hr]
   simp only at h
   rw[if_neg hr] at h
   exact wpAny_bind (wpAny_rule (wpAny_pure (by simpa [Nat.add_assoc,Nat.add_comm,Nat.add_left_comm] using h)))
theorem ly {b:Bool}{x y:PKy}{a c:Addr}{P:Fin->Shared->Prop}(hu:A.units<cLine)(hx:IsPk prog w b s.heap x a)(hy:IsPk prog w b s.heap y c)(h:P (.done (.ret (.bool (decide (x=y))))) s):
  wpAny (model prog w) A (Builtin.«tuple.__eq__» ⟨[.ref a,.ref c],[]⟩) P E s:=by
 have hTb:=hy.typeIs
 obtain⟨oa,xs,na,ca,va,hoa,_,hda,hka,hva,hia⟩:=hx
 obtain⟨ob,ys,nb,cb,vb,hob,_,hdb,hkb,hvb,hib⟩:=hy
 obtain⟨i,ks⟩:=x
 obtain⟨j,ls⟩:=y
 show wpAny _ _ (isInstance (.ref c) (.type "tuple")>>=_) _ _ s
 refine wpAny_bind (wpAny_isInstance hTb isSubtype_tuple_tuple ?_)
 simp only[Bool.not_true,Bool.false_eq_true,if_false]
 refine wpAny_bind (wpAny_tupleItemsOf hoa hda ?_)
 refine wpAny_bind (wpAny_tupleItemsOf hob hdb ?_)
 refine wpAny_bind ?_
 have hsz:(xs.size==ys.size)=true:=by
  have e1:xs.size=2:=by rw[<-Array.length_toList,hia];cases b<;>rfl
  have e2:ys.size=2:=by rw[<-Array.length_toList,hib];cases b<;>rfl
  rw[e1,e2];rfl
 have dd:decide ((i,ks)=(j,ls))=(decide (i=j) && decide (ks=ls)):=by
  rw[Bool.eq_iff_iff];simp
 rw[dd] at h
 rw[hia,hib]
 have ki: ∀ {A:Around}{Q:Bool->Shared->Prop},Q (decide (i=j)) s->wpAny (model prog w) A (eqBool va vb) Q E s:=fun{A Q} q=>(intKind prog w).eqBool (a:=i) (b:=j) hva hvb q
 have kt: ∀ {Q:Bool->Shared->Prop},Q (decide (ks=ls)) s->wpAny (model prog w) A (eqBool (.ref ca) (.ref cb)) Q E s:=fun{Q} q=>wpAny_eqBool_tuple (knd:=intKind prog w) hu hka hkb q
 generalize decide (i=j)=b1 at *
 generalize decide (ks=ls)=b2 at *
 cases b with
 |false=>
  unfold dI
  simp only[List.zip_cons_cons,List.zip_nil_right,List.forIn_cons,List.forIn_nil]
  refine wpAny_bind (wpAny_bind (ki ?_))
  cases b1 with
  |false=>exact wpAny_bind (wpAny_pure (wpAny_pure (wpAny_pure (wpAny_pure h))))
  |true=>
   refine wpAny_pure (wpAny_bind (wpAny_bind (kt ?_)))
   cases b2 with
   |false=>exact wpAny_bind (wpAny_pure (wpAny_pure (wpAny_pure (wpAny_pure h))))
   |true=>
    refine wpAny_pure (wpAny_pure (wpAny_pure ?_))
    show P (.done (.ret (.bool (xs.size==ys.size)))) s
    rw[hsz];exact h
 |true=>
  unfold dI
  simp only[List.zip_cons_cons,List.zip_nil_right,List.forIn_cons,List.forIn_nil]
  refine wpAny_bind (wpAny_bind (kt ?_))
  cases b2 with
  |false=>rw[Bool.and_false] at h;exact wpAny_bind (wpAny_pure (wpAny_pure (wpAny_pure (wpAny_pure h))))
  |true=>
   refine wpAny_pure (wpAny_bind (wpAny_bind (ki ?_)))
   cases b1 with
   |false=>exact wpAny_bind (wpAny_pure (wpAny_pure (wpAny_pure (wpAny_pure h))))
   |true=>
    refine wpAny_pure (wpAny_pure (wpAny_pure ?_))
    show P (.done (.ret (.bool (xs.size==ys.size)))) s
    rw[hsz];exact h
theorem gA {b:Bool}{x y:PKy}{a c:Addr}{Q:Bool->Shared->Prop}(hu:A.units+1<cLine)(hx:IsPk prog w b s.heap x a)(hy:IsPk prog w b s.heap y c)(h:Q (decide (x=y)) s):
  wpAny (model prog w) A (eqBool (.ref a) (.ref c)) Q E s:=by
 unfold eqBool
 try with_reducible refine wpAny_holding ?_
 show wpAny _ _ (if (Value.ref a==Value.ref c)=true then _ else _) Q E s
 by_cases hab:(Value.ref a==Value.ref c)=true
 ·rw[if_pos hab]
  have e:a=c:=by have:=eq_of_beq hab;injection this
  subst e
  obtain rfl:=hx.inj hy
  exact wpAny_bind (wpAny_rule (wpAny_pure (by simpa using h)))
 ·rw[if_neg hab]
  exact wpAny_bind (wpAny_richCompare_same_room (op:=.Eq) hx.typeIs hy.typeIs F.slot_tuple_eq
   (wpAny_call_entry F.slot_tuple_eq hx.typeIs F.entry_tuple_eq (ly hu hx hy ⟨_,rfl,(fun e=>nomatch e),wpAny_truthy_bool h⟩) (F.args_tuple_eq_2 _ _)) (Nat.lt_of_succ_lt hu))
theorem gR {b:Bool}{k:PKy}{a:Addr}{Q:Bool->Shared->Prop}(hk:IsPk prog w b s.heap k a)(h:Q true s):wpAny (model prog w) A (eqIsQuiet 8 (.ref a)) Q E s:=by
 have hT:=hk.typeIs
 obtain⟨o,items,n,c,v,ho,_,hd,hk,hv,hi⟩:=hk
 unfold eqIsQuiet
 refine wpAny_bind (wpAny_specialOf hT F.slot_tuple_eq.lookup ?_)
 show wpAny _ _ (isInstance (.ref a) (.type "tuple")>>=_) _ _ s
 refine wpAny_bind (wpAny_isInstance hT isSubtype_tuple_tuple ?_)
 simp only[Bool.not_true,Bool.false_eq_true,if_false]
 refine wpAny_bind (wpAny_seqItems ho hd ?_)
 refine wpAny_bind ?_
 show wpAny _ _ (forIn items _ _) _ _ s
 rw[<-Array.forIn_toList,hi]
 have qv:eqIsQuiet 7 v=pure true:=eqIsQuiet_byValue _ ((intKind prog w).byValue _ _ hv)
 have hTc:=hk.typeIs
 obtain⟨oc,ic,nc,hoc,_,hdc,hic⟩:=hk
 have qc: ∀ {Q:Bool->Shared->Prop},Q true s->wpAny (model prog w) A (eqIsQuiet 7 (.ref c)) Q E s:=by
  intro Q h
  unfold eqIsQuiet
  refine wpAny_bind (wpAny_specialOf hTc F.slot_tuple_eq.lookup ?_)
  show wpAny _ _ (isInstance (.ref c) (.type "tuple")>>=_) _ _ s
  refine wpAny_bind (wpAny_isInstance hTc isSubtype_tuple_tuple ?_)
  simp only[Bool.not_true,Bool.false_eq_true,if_false]
  refine wpAny_bind (wpAny_seqItems hoc hdc ?_)
  refine wpAny_bind ?_
  show wpAny _ _ (forIn ic _ _) _ _ s
  rw[<-Array.forIn_toList]
  refine wpAny_forIn_list _ (fun rest r s'=>r.1=none/\s'=s/\ ∀v∈rest,carriedByValue v=true) _ ?_ ?_ _ _ ⟨rfl,rfl,hic.byValue⟩
  ·rintro v rest r s' ⟨hr,rfl,hall⟩
   rw[eqIsQuiet_byValue _ (hall v List.mem_cons_self)]
   refine wpAny_bind (wpAny_pure ?_)
   simp only[Bool.not_true,Bool.false_eq_true,if_false]
   exact wpAny_pure ⟨rfl,rfl,fun u hu'=>hall u (List.mem_cons_of_mem _ hu')⟩
  ·rintro⟨r1,r2⟩ s' ⟨hr,rfl,_⟩
   simp only at hr
   subst hr
   exact wpAny_pure h
 cases b with
 |false=>
  unfold dI
  simp only[List.forIn_cons,List.forIn_nil]
  refine wpAny_bind ?_
  rw[qv]
  refine wpAny_bind (wpAny_pure ?_)
  simp only[Bool.not_true,Bool.false_eq_true,if_false]
  refine wpAny_pure (wpAny_bind (wpAny_bind (qc ?_)))
  simp only[Bool.not_true,Bool.false_eq_true,if_false]
  exact wpAny_pure (wpAny_pure (wpAny_pure h))
 |true=>
  unfold dI
  simp only[List.forIn_cons,List.forIn_nil]
  refine wpAny_bind (wpAny_bind (qc ?_))
  simp only[Bool.not_true,Bool.false_eq_true,if_false]
  refine wpAny_pure (wpAny_bind ?_)
  rw[qv]
  refine wpAny_bind (wpAny_pure ?_)
  simp only[Bool.not_true,Bool.false_eq_true,if_false]
  exact wpAny_pure (wpAny_pure (wpAny_pure h))
def ga (prog:Program)(w:World)(b:Bool):HeapKind prog w PKy where
 is:=IsPk prog w b
 hash:=g8 b
 draws:=fun k=>k.2.length+3
 room:=fun A=>A.units+1<cLine
 inj:=fun hx hy=>hx.inj hy
 keeps:=fun x ho hd hs=>x.keeps ho hd hs
 pyHash:=fun hu hk h=>gz hu hk h
 eqBool:=fun hu hx hy h=>gA hu hx hy h
 quiet:=fun hk h=>gR hk h
end
end L2
namespace L2
open PySem PySem.Spec PyProof.Rows
noncomputable abbrev Key:=Sum Int Str
def keyIs:Key->Value->Bool
 |.inl k,v=>Value.isInt k v
 |.inr x,v=>Value.isStrOf x v
def keyH (w:World):Key->Int
 |.inl k=>hashInt k
 |.inr x=>hashStr w x
theorem be: ∀ {k:Key}{v:Value},keyIs k v=true->(∃i t,k=Sum.inl i/\v=Value.int i t)\/(∃x t,k=Sum.inr x/\v=Value.str x t)
 |.inl i,v,h=>by
  obtain⟨t,e⟩:=Value.isInt_shape (k:=i) (v:=v) h
  exact .inl ⟨i,t,rfl,e⟩
 |.inr x,v,h=>by
  obtain⟨t,e⟩:=Value.isStrOf_shape (x:=x) (v:=v) h
  exact .inr ⟨x,t,rfl,e⟩
theorem nO (i:Int)(t:Tok):keyIs (.inl i) (.int i t)=true:=by simp [keyIs,Value.isInt]
theorem nN (x:Str)(t:Tok):keyIs (.inr x) (.str x t)=true:=by simp [keyIs,Value.isStrOf]
theorem tV (a b:Int):decide ((Sum.inl a:Key)=Sum.inl b)=(a==b):=by
 by_cases e:a=b
 ·subst e;simp
 ·have h: ¬(Sum.inl a:Key)=Sum.inl b:=fun q=>e (Sum.inl.inj q)
  rw[decide_eq_false h]
  exact (beq_eq_false_iff_ne.mpr e).symm
theorem tQ (a b:Str):decide ((Sum.inr a:Key)=Sum.inr b)=decide (a=b):=by
 by_cases e:a=b
 ·subst e;simp
 ·have h: ¬(Sum.inr a:Key)=Sum.inr b:=fun q=>e (Sum.inr.inj q)
  rw[decide_eq_false h,decide_eq_false e]
theorem tU (a:Int)(b:Str):decide ((Sum.inl a:Key)=Sum.inr b)=false:=decide_eq_false (fun q=>nomatch q)
theorem tR (a:Str)(b:Int):decide ((Sum.inr a:Key)=Sum.inl b)=false:=decide_eq_false (fun q=>nomatch q)
def bp (prog:Program)(w:World):PySem.KeyKind prog w Key where
 is:=keyIs
 hash:=keyH w
 inj:=fun v a b ha hb=>by
  rcases be ha with⟨i,t,rfl,rfl⟩|⟨x,t,rfl,rfl⟩
  ·rcases be hb with⟨j,u,rfl,e⟩|⟨y,u,rfl,e⟩
   ·injection e with e1 _;rw[e1]
   ·exact nomatch e
  ·rcases be hb with⟨j,u,rfl,e⟩|⟨y,u,rfl,e⟩
   ·exact nomatch e
   ·injection e with e1 _;rw[e1]
 byValue:=fun k v h=>by
  rcases be h with⟨i,t,rfl,rfl⟩|⟨x,t,rfl,rfl⟩<;>rfl
 pyHash:=fun hv h=>by
  rcases be hv with⟨i,t,rfl,rfl⟩|⟨x,t,rfl,rfl⟩
  ·exact wpAny_pyHash_int h
  ·exact wpAny_pyHash_str h
 eqBool:=fun hu hv h=>by
  rcases be hu with⟨i,t,rfl,rfl⟩|⟨x,t,rfl,rfl⟩
  ·rcases be hv with⟨j,u,rfl,rfl⟩|⟨y,u,rfl,rfl⟩
   ·rw[tV] at h;exact wpAny_eqBool_int h
   ·rw[tU] at h;exact SeqAt.EqAt.int_str i t y u _ _ _ _ h
  ·rcases be hv with⟨j,u,rfl,rfl⟩|⟨y,u,rfl,rfl⟩
   ·rw[tR] at h;exact SeqAt.EqAt.str_int x t j u _ _ _ _ h
   ·rw[tQ] at h;exact wpAny_eqBool_str h
 «strs»:=fun k x t v h=>by
  rcases be h with⟨i,u,rfl,e⟩|⟨y,u,rfl,e⟩
  ·exact nomatch e
  ·injection e with e1 _
   subst e1
   cases v<;>rfl
theorem kr (prog:Program)(w:World)(i:Int)(t:Tok):(bp prog w).is (.inl i) (.int i t)=true:=nO i t
theorem kq (prog:Program)(w:World)(x:Str)(t:Tok):(bp prog w).is (.inr x) (.str x t)=true:=nN x t
end L2
namespace L2
open PySem PySem.Spec PyProof.Rows
inductive V where
 |non|bl (b:Bool)|int (i:Int)|str (x:Str)|byt (b:Array UInt8)|flt (b:UInt64)|ref (a:Addr)|ty (n:String)
 deriving DecidableEq
noncomputable def RelV:V->Value->Prop
 |.non,u=>u=Value.none
 |.bl b,u=>u=Value.bool b
 |.int i,u=> ∃t,u=Value.int i t
 |.str x,u=> ∃t,u=Value.str x t
 |.byt b,u=> ∃t,u=Value.bytes b t
 |.flt b,u=> ∃t,u=Value.float b t
 |.ref a,u=>u=Value.ref a
 |.ty n,u=>u=Value.type n
noncomputable abbrev Vals:List V->List Value->Prop:=Paired RelV
theorem Vals.length {xs:List V}{us:List Value}(r:Vals xs us):xs.length=us.length:=Paired.length r
theorem Vals.get: ∀ {xs:List V}{us:List Value}{i:Nat}{x:V},Vals xs us->xs[i]?=some x-> ∃u,us[i]?=some u/\RelV x u
 |_,_,_,_,.nil,e=>by simp at e
 |_,_,0,_,.cons r _,e=>by simp at e;subst e;exact⟨_,rfl,r⟩
 |_,_,i+1,x,.cons _ t,e=>by
  obtain⟨u,h1,h2⟩:=Vals.get (i:=i) (x:=x) t (by simpa using e)
  exact⟨u,by simpa using h1,h2⟩
theorem Vals.set {x:V}{u:Value}(r:RelV x u): ∀ {xs:List V}{us:List Value} (i:Nat),Vals xs us->Vals (xs.set i x) (us.set i u)
 |_,_,_,.nil=>.nil
 |_,_,0,.cons _ t=>.cons r t
 |_,_,i+1,.cons q t=>.cons q (Vals.set r i t)
theorem Vals.append: ∀ {xs ys:List V}{us ws:List Value},Vals xs us->Vals ys ws->Vals (xs++ys) (us++ws)
 |_,_,_,_,.nil,s=>s
 |_,_,_,_,.cons r t,s=>.cons r (Vals.append t s)
theorem Vals.take: ∀ {xs:List V}{us:List Value} (n:Nat),Vals xs us->Vals (xs.take n) (us.take n)
 |_,_,0,_=>.nil
 |_,_,_+1,.nil=>.nil
 |_,_,n+1,.cons r t=>.cons r (Vals.take n t)
theorem Vals.drop: ∀ {xs:List V}{us:List Value} (n:Nat),Vals xs us->Vals (xs.drop n) (us.drop n)
 |_,_,0,r=>r
 |_,_,_+1,.nil=>.nil
 |_,_,n+1,.cons _ t=>Vals.drop n t
def RelO:Option V->Option Value->Prop
 |some v,some u=>RelV v u
 |none,none=>True
 |_,_=>False
def KV {κ:Type}:List (κ×V)->List (κ×Value)->Prop:=Paired fun (p:κ×V) (q:κ×Value)=>p.1=q.1/\RelV p.2 q.2
def kV:Key->V
 |.inl i=>.int i
 |.inr x=>.str x
inductive HO where
 |lst (xs:List V)
 |tup (xs:List V)
 |dK (kvs:List (Key×V))|dT (kvs:List (List Key×V))|dN (b:Bool)(xs:List (PKy×Addr×V))(ep:Nat)
 |set (S:Int->Bool)(n:Nat)
 |ins (C dx:Addr)(fs:List (Str×V))
 |own (x:Addr)
 |xd (fs:List (Str×V))
 |met (f x:Addr)
 |rng (lo hi:Int)
 |frz (o:Obj)(u:HO)
 |tbl (ps:Array Value)
 |ext (φ:Heap->Prop)
noncomputable abbrev Hp:=Addr->Option HO
def upd (H:Hp)(a:Addr)(o:HO):Hp:=fun b=>if b=a then some o else H b
theorem aR {H:Hp}{a:Addr}{o:HO}:upd H a o a=some o:=by unfold upd;rw[if_pos rfl]
theorem ap {H:Hp}{a b:Addr}{o:HO}(h:b≠a):upd H a o b=H b:=by unfold upd;rw[if_neg h]
theorem uN {H:Hp}{a b:Addr}{o u:HO}(h:H a=some o)(h':H b=some u)(d:o≠u):a≠b:=by
 intro e;subst e;rw[h] at h';exact d (Option.some.inj h')
theorem bC {H:Hp}{a b:Addr}{o:HO}(h:H a=some o)(h':H b=none):a≠b:=by
 intro e;subst e;rw[h] at h';cases h'
noncomputable def IsTupD (h:Heap)(a:Addr)(its:Array Value):Prop:=IsTup h a its/\ ∃o,h.get? a=some o/\o.dict=none
theorem IsTupD.new (h:Heap)(its:Array Value):IsTupD (h.push {cls:=.type "tuple",data:=.seq its}) h.objs.size its:=⟨IsTup.new _ _,_,Heap.get?_push_size _ rfl,rfl⟩
section
variable (P:Program)(w:World)
def ObjOk (H:Hp)(h:Heap)(a:Addr):HO->Prop
 |.lst xs=>xs.length<=sizeLine/\ ∃ (its:List Value) (n:Nat),Vals xs its/\h.get? a=some {cls:=.type "list",data:=.seq its.toArray n}
 |.tup xs=>xs.length<=sizeLine/\ ∃its:List Value,Vals xs its/\IsTupD h a its.toArray
 |.dK kvs=>kvs.length<=sizeLine/\(a==sysModules)=false/\ ∃vs,KV kvs vs/\h.DictOf (bp P w) a vs
 |.dT kvs=>kvs.length<=sizeLine/\(a==sysModules)=false/\ ∃xs:List (List Key×Addr×Value),
  Paired (fun (p:List Key×V) (q:List Key×Addr×Value)=>p.1=q.1/\H q.2.1=some (.tup (p.1.map kV))/\RelV p.2 q.2.2) kvs xs/\
  ∃o es ep,h.get? a=some o/\o.ExactDict/\o.data=.dict es ep/\es.toList=xs.map (entryOfKey (tupleKind (bp P w)))/\(xs.map (·.1)).Nodup
 |.dN b xs ep=>xs.length<=sizeLine/\(a==sysModules)=false/\ ∃ys:List (PKy×Addr×Value),Paired (fun (p:PKy×Addr×V) (q:PKy×Addr×Value)=>p.1=q.1/\p.2.1=q.2.1/\RelV p.2.2 q.2.2) xs ys/\
  ∃o es,h.get? a=some o/\o.ExactDict/\o.data=.dict es ep/\es.toList=ys.map (fun y=>(⟨g8 b y.1,.ref y.2.1,y.2.2⟩:DictEntry))/\(ys.map (·.1)).Nodup
 |.set S n=>h.SetOf (intKind P w) a S n
 |.ins C dx fs=>H dx=some (.own a)/\fs.length<=1000/\dx≠a/\h.get? a=some (PySem.W.instObj C dx)/\
  ∃mA,h.Ns1 dx mA/\(∀f,RelO (fs.lookup f) (mA f))/\PySem.Within mA (fs.map (·.1))
 |.own _=> ∃o,h.get? a=some o
 |.xd fs=> ∃mA,h.Ns1 a mA/\ ∀f,RelO (fs.lookup f) (mA f)
 |.rng lo hi=> ∃t u v,h.get? a=some {cls:=.type "range",data:=.fields #[.int lo t,.int hi u,.int 1 v]}
 |.frz o u=>h.get? a=some o/\ObjOk H h a u
 |.tbl ps=>h.get? a=some {cls:=.none,data:=.fields ps}
 |.met f x=>h.get? a=some (PySem.W.methodObj (.ref f) (.ref x))
 |.ext φ=>φ h/\(∃o,h.get? a=some o)/\ ∀h1 h2:Heap,φ h1->(∀o,h1.get? a=some o->h2.get? a=some o)->φ h2
def HOk (H:Hp)(h:Heap):Prop:= ∀a o,H a=some o->ObjOk P w H h a o
end
section
variable {P:Program}{w:World}{H H':Hp}{h h':Heap}{a:Addr}{o:HO}
theorem ObjOk.lt (x:ObjOk P w H h a o):a<h.objs.size:=by
 cases o with
 |lst xs=>obtain⟨_,_,_,_,e⟩:=x;exact Heap.lt_size e
 |tup xs=>obtain⟨_,_,_,p⟩:=x;exact p.1.lt
 |dK kvs=>obtain⟨_,_,_,_,o,_,_,e,_⟩:=x;exact Heap.lt_size e
 |dT kvs=>obtain⟨_,_,_,_,o,_,_,e,_⟩:=x;exact Heap.lt_size e
 |dN b xs ep=>obtain⟨_,_,_,_,o,_,e,_⟩:=x;exact Heap.lt_size e
 |set S n=>obtain⟨o,_,_,_,e,_⟩:=x;exact Heap.lt_size e
 |ins C dx fs=>obtain⟨_,_,_,e,_⟩:=x;exact Heap.lt_size e
 |own y=>obtain⟨_,e⟩:=x;exact Heap.lt_size e
 |xd fs=>obtain⟨_,⟨_,_,_,e,_⟩,_⟩:=x;exact Heap.lt_size e
 |rng lo hi=>obtain⟨_,_,_,e⟩:=x;exact Heap.lt_size e
 |frz ob u=>obtain⟨e,_⟩:=x;exact Heap.lt_size e
 |tbl ps=>exact Heap.lt_size (show h.get? a=some _ from x)
 |met f y=>exact Heap.lt_size (show h.get? a=some _ from x)
 |ext φ=>obtain⟨_,⟨_,e⟩,_⟩:=x;exact Heap.lt_size e
theorem Paired.mapP {α β:Type}{F G:α->β->Prop}: ∀ {l₁:List α}{l₂:List β},Paired F l₁ l₂->(∀a b,F a b->G a b)->Paired G l₁ l₂
 |_,_,.nil,_=>.nil
 |_,_,.cons r t,f=>.cons (f _ _ r) (Paired.mapP t f)
theorem ObjOk.stay (x:ObjOk P w H h a o)(k:∀b u,(b=a\/H b=some (.own a))->h.get? b=some u->h'.get? b=some u)
  (ho: ∀b,H b=some (.own a)->H' b=some (.own a))(ht: ∀b xs,H b=some (.tup xs)->H' b=some (.tup xs)):ObjOk P w H' h' a o:=by
 induction o with
 |lst xs=>obtain⟨z,its,n,r,e⟩:=x;exact⟨z,its,n,r,k _ _ (.inl rfl) e⟩
 |tup xs=>obtain⟨z,its,r,⟨ob,e,c⟩,o2,e2,c2⟩:=x;exact⟨z,its,r,⟨ob,k _ _ (.inl rfl) e,c⟩,o2,k _ _ (.inl rfl) e2,c2⟩
 |dK kvs=>obtain⟨z,y,vs,r,ob,es,ep,e,c⟩:=x;exact⟨z,y,vs,r,ob,es,ep,k _ _ (.inl rfl) e,c⟩
 |dT kvs=>
  obtain⟨z,y,xs,r,ob,es,ep,e,c⟩:=x
  exact⟨z,y,xs,Paired.mapP r fun p q z=>⟨z.1,ht _ _ z.2.1,z.2.2⟩,ob,es,ep,k _ _ (.inl rfl) e,c⟩
 |dN b xs ep=>obtain⟨z,y,ys,r,ob,es,e,c⟩:=x;exact⟨z,y,ys,r,ob,es,k _ _ (.inl rfl) e,c⟩
 |set S n=>obtain⟨ob,es,ep,t,e,c⟩:=x;exact⟨ob,es,ep,t,k _ _ (.inl rfl) e,c⟩
 |ins C dx fs=>
  obtain⟨d,z,ne,e,mA,⟨od,es,ep,e2,c⟩,r⟩:=x
  exact⟨ho _ d,z,ne,k _ _ (.inl rfl) e,mA,⟨od,es,ep,k _ _ (.inr d) e2,c⟩,r⟩
 |own y=>obtain⟨ob,e⟩:=x;exact⟨ob,k _ _ (.inl rfl) e⟩
 |xd fs=>obtain⟨mA,⟨od,es,ep,e,c⟩,r⟩:=x;exact⟨mA,⟨od,es,ep,k _ _ (.inl rfl) e,c⟩,r⟩
 |rng lo hi=>obtain⟨t,u,v,e⟩:=x;exact⟨t,u,v,k _ _ (.inl rfl) e⟩
 |frz ob u ih=>obtain⟨e,q⟩:=x;exact⟨k _ _ (.inl rfl) e,ih q⟩
 |tbl ps=>
  have e:h.get? a=some {cls:=.none,data:=.fields ps}:=x
  show h'.get? a=some {cls:=.none,data:=.fields ps}
  exact k a _ (.inl rfl) e
 |met f y=>
  have e:h.get? a=some (PySem.W.methodObj (.ref f) (.ref y)):=x
  show h'.get? a=some (PySem.W.methodObj (.ref f) (.ref y))
  exact k a _ (.inl rfl) e
 |ext φ=>obtain⟨p,⟨o,e⟩,st⟩:=x;exact⟨st _ _ p fun o q=>k _ _ (.inl rfl) q,⟨o,k _ _ (.inl rfl) e⟩,st⟩
theorem HOk.lt (x:HOk P w H h)(e:H a=some o):a<h.objs.size:=(x a o e).lt
theorem HOk.fresh (x:HOk P w H h)(e:h.objs.size<=a):H a=none:=by
 cases q:H a with
 |none=>rfl
 |some u=>exact absurd (Nat.lt_of_lt_of_le (x.lt q) e) (Nat.lt_irrefl _)
theorem HOk.kept (x:HOk P w H h)(k:∀b u,h.get? b=some u->h'.get? b=some u):HOk P w H h':=fun a o e=>
 (x a o e).stay (fun b u _ q=>k b u q) (fun _ q=>q) fun _ _ q=>q
theorem HOk.laid (x:HOk P w H h)(k:∀b u,h.get? b=some u->h'.get? b=some u)(hp:h.objs.size<=a)(new:ObjOk P w (upd H a o) h' a o):HOk P w (upd H a o) h':=fun b u e=>by
 have hn:=x.fresh hp
 by_cases hb:b=a
 ·subst hb;rw[aR] at e;cases e;exact new
 ·rw[ap hb] at e
  exact (x b u e).stay (fun c v _ q=>k c v q) (fun c q=>by rw[ap (bC q hn)];exact q) fun c xs q=>by rw[ap (bC q hn)];exact q
end
def Rd (H:Hp)(a:Addr)(u:HO):Prop:=H a=some u\/ ∃o,H a=some (.frz o u)
theorem Rd.ok {P:Program}{w:World}{H:Hp}{h:Heap}{a:Addr}{u:HO}(r:Rd H a u)(x:HOk P w H h):ObjOk P w H h a u:=by
 rcases r with r|⟨o,r⟩
 ·exact x a u r
 ·obtain⟨_,q⟩:=x a _ r
  exact q
noncomputable def Mut:Option HO->Prop
 |some (.lst _)=>True
 |some (.dK _)=>True
 |some (.dT _)=>True
 |some (.dN _ _ _)=>True
 |some (.set _ _)=>True
 |some (.ins _ _ _)=>True
 |some (.ext _)=>True
 |_=>False
section
variable {P:Program}{w:World}{H:Hp}{h h':Heap}{x e:Addr}{o':HO}
theorem HOk.write (ok:HOk P w H h)(mu:Mut (H x))(he:e=x\/H e=some (.own x))(k:∀b u,b≠e->h.get? b=some u->h'.get? b=some u)(heo: ∃u,h'.get? e=some u)
  (new:ObjOk P w (upd H x o') h' x o'):HOk P w (upd H x o') h':=fun b u q=>by
 have nown: ∀c y,H c=some (.own y)->c≠x:=fun c y r z=>by subst z;rw[r] at mu;exact mu
 have ntup: ∀c xs,H c=some (.tup xs)->c≠x:=fun c xs r z=>by subst z;rw[r] at mu;exact mu
 by_cases hb:b=x
 ·subst hb;rw[aR] at q;cases q;exact new
 ·rw[ap hb] at q
  by_cases hbe:b=e
  ·have q':H b=some (.own x):=by
    rcases he with z|z
    ·exact absurd (hbe.trans z) hb
    ·rw[hbe];exact z
   rw[q] at q';cases q'
   obtain⟨v,hv⟩:=heo
   exact⟨v,by rw[hbe];exact hv⟩
  ·refine (ok b u q).stay (fun c v hc r=>k c v ?_ r) (fun c r=>by rw[ap (nown c b r)];exact r) fun c xs r=>by rw[ap (ntup c xs r)];exact r
   rcases hc with rfl|hc
   ·exact hbe
   ·rintro rfl
    rcases he with z|z
    ·exact nown c b hc z
    ·rw[hc] at z;cases z;exact hb rfl
end
structure Un (fs ex:List Addr)(H H':Hp)(h h':Heap):Prop where
 keep: ∀b o,h.get? b=some o->H b=none->b ∉ fs->b ∉ ex->h'.get? b=some o
 slot: ∀b o,h.get? b=some o->H b=none->b∈fs->b ∉ ex-> ∃sl,h'.get? b=some {o with slots:=sl}
 free: ∀b o,h.get? b=some o->H b=none->b ∉ ex->H' b=none
 there: ∀b o,h.get? b=some o->b ∉ ex-> ∃o',h'.get? b=some o'
 tups: ∀b xs,H b=some (.tup xs)->H' b=some (.tup xs)
 frzs: ∀b o u,H b=some (.frz o u)->H' b=some (.frz o u)
 tbls: ∀b ps,H b=some (.tbl ps)-> ∃more,H' b=some (.tbl (ps++more))
section
variable {fs fs' ex ex':List Addr}{H H1 H2:Hp}{h h1 h2 h':Heap}{a x e:Addr}{o:HO}
theorem Un.any (u:Un fs ex H H1 h h1){b:Addr}{ob:Obj}(q:h.get? b=some ob)(n:H b=none)(hx:b ∉ ex): ∃sl,h1.get? b=some {ob with slots:=sl}:=by
 by_cases hb:b∈fs
 ·exact u.slot b ob q n hb hx
 ·exact⟨ob.slots,u.keep b ob q n hb hx⟩
theorem Un.kept (k:∀b u,h.get? b=some u->h'.get? b=some u):Un fs ex H H h h':=
 ⟨fun b ob q _ _ _=>k b ob q,fun b ob q _ _ _=>⟨ob.slots,k b ob q⟩,fun _ _ _ n _=>n,fun b ob q _=>⟨ob,k b ob q⟩,fun _ _ q=>q,fun _ _ _ q=>q,fun _ ps q=>⟨#[],by rw[q];simp⟩⟩
theorem Un.refl:Un fs ex H H h h:=Un.kept fun _ _ q=>q
theorem Un.laid (k:∀b u,h.get? b=some u->h'.get? b=some u)(hp:h.objs.size<=a)(hn:H a=none):Un fs ex H (upd H a o) h h' where
 keep:=fun b u q _ _ _=>k b u q
 slot:=fun b u q _ _ _=>⟨u.slots,k b u q⟩
 free:=fun b u q n _=>by rw[ap (Nat.ne_of_lt (Nat.lt_of_lt_of_le (Heap.lt_size q) hp))];exact n
 there:=fun b u q _=>⟨u,k b u q⟩
 tups:=fun b xs q=>by rw[ap (bC q hn)];exact q
 frzs:=fun b u xs q=>by rw[ap (bC q hn)];exact q
 tbls:=fun b ps q=>⟨#[],by rw[ap (bC q hn),q];simp⟩
theorem Un.write (mu:Mut (H x))(he:e=x\/H e=some (.own x))(k:∀b u,b≠e->h.get? b=some u->h'.get? b=some u)(heo: ∃u,h'.get? e=some u):Un fs ex H (upd H x o) h h':=by
 have hx: ∀b,H b=none->b≠x:=fun b n z=>by subst z;rw[n] at mu;exact mu
 have hb: ∀b,H b=none->b≠e:=fun b n z=>by
  subst z
  rcases he with r|r
  ·exact hx b n r
  ·rw[n] at r;cases r
 have hm: ∀b u,H b=some u-> ¬Mut (some u)->b≠x:=fun b u q nm z=>by subst z;rw[q] at mu;exact nm mu
 refine⟨fun b u q n _ _=>k b u (hb b n) q,fun b u q n _ _=>⟨u.slots,k b u (hb b n) q⟩,fun b u q n _=>by rw[ap (hx b n)];exact n,fun b u q _=>?_,
  fun b xs q=>by rw[ap (hm b _ q fun z=>z)];exact q,fun b u xs q=>by rw[ap (hm b _ q fun z=>z)];exact q,fun b ps q=>⟨#[],by rw[ap (hm b _ q fun z=>z),q];simp⟩⟩
 by_cases hbe:b=e
 ·subst hbe;exact heo
 ·exact⟨u,k b u hbe q⟩
end
def trk (h:Heap)(H:Hp):List Addr:=(List.range h.objs.size).filter fun a=>(H a).isSome
def hidT (h:Heap)(H:Hp):Heap:=PySem.W.hideAll h (trk h H)
theorem nU (h:Heap)(H:Hp):(hidT h H).objs.size=h.objs.size:=PySem.W.hideAll_size _ _
theorem pY {h:Heap}{H:Hp}{b:Addr}{o:Obj}(e:h.get? b=some o)(n:H b=none):(hidT h H).get? b=some o:=
 PySem.W.hideAll_get _ e fun hm=>by
  have q:(H b).isSome=true:=(List.mem_filter.mp hm).2
  rw[n] at q;simp at q
theorem rg {h:Heap}{H:Hp}{b:Addr}{o:Obj}(e:(hidT h H).get? b=some o):h.get? b=some o/\H b=none:=by
 have e':h.get? b=some o:=PySem.W.of_hideAll (trk h H) e
 refine⟨e',?_⟩
 cases q:H b with
 |none=>rfl
 |some x=>
  have hm:b∈trk h H:=List.mem_filter.mpr ⟨List.mem_range.mpr (Heap.lt_size e'),by simp [q]⟩
  have z:(hidT h H).get? b=none:=PySem.W.hideAll_none (trk h H) hm
  rw[z] at e;cases e
noncomputable def rR (g h:Heap)(L:Addr):List (Addr×Obj):=(List.range h.objs.size).filterMap fun a=>if a=L\/(g.get? a).isSome=true then none else (h.get? a).map fun o=>(a,o)
def rest (g h:Heap)(L d:Addr):List (Addr×Obj):=(rR g h L).filter fun p=>decide (p.1≠d)
end L2
namespace L2
open PySem PySem.Spec PyProof.Rows
structure Mod (K:PySem.W.Frag)(mg:Str->Option Value)(base:Heap):Prop where
 kin:K.In base
 glob:base.Ns mainGlobals mg
 blt: ∃mb,base.Ns builtinsNs mb/\ ∀x:Str,x≠ "__name__"->mb x=bootBuiltins x
 nolimit:base.NoLimit
structure Cx where
 prog:Program
 w:World
 K:PySem.W.Frag
 mg:Str->Option Value
 base:Heap
 A:Around
 N:List Str
 s₀:Shared
 H₀:Hp
 env:Env
 outer:List Env
 stack:List Env
 ex:List Addr
 fn:Str->Bool
 calm:Bool
 pn:List (Addr×Obj)
 xe:Value->Shared->Prop
noncomputable def frs (l:List Env):List Addr:=l.filterMap (·.frame)
noncomputable abbrev Cx.fs (X:Cx):List Addr:=frs X.outer
noncomputable def Vis (sc:Scope)(x:Str):Prop:=sc.names.lookup x=some .local \/sc.names.lookup x=some .cell\/sc.names.lookup x=some .free
noncomputable def Loc (sc:Scope)(x:Str):Prop:=sc.names.lookup x=some .local \/sc.names.lookup x=some .cell
noncomputable def Look (env:Env)(h:Heap)(m:Str->Option Value)(x:Str)(u:Value):Prop:=
 (env.kindOf x=some .local /\m x=some u)\/((env.kindOf x=some .cell\/env.kindOf x=some .free)/\ ∃c,env.cells.lookup x=some c/\h.IsCell c (some u))
structure Cx.Ok (X:Cx):Prop where
 mod:Mod X.K X.mg X.base
 kind:X.env.scope.kind=.function
 glob:X.env.globals=mainGlobals
 blt:X.env.builtins=builtinsNs
 above:X.s₀.heap.objs.size<=X.env.locals
 inj: ∀x y c,X.env.cells.lookup x=some c->X.env.cells.lookup y=some c->x=y
 has: ∀x,(X.env.kindOf x=some .cell\/X.env.kindOf x=some .free)-> ∃c,X.env.cells.lookup x=some c
 cab: ∀x c,X.fn x=true->X.env.cells.lookup x=some c->X.s₀.heap.objs.size<=c
 hd:X.calm=true->X.A.handled=none
 frames:X.A.frames=some X.stack
 stk:X.stack=X.outer\/(X.stack=X.env::X.outer/\X.env.frame=some X.env.locals)
 exf: ∀b∈X.ex,b≠X.env.locals/\ ∀x c,X.env.cells.lookup x=some c->c≠b
 bs: ∀b o,X.base.get? b=some o->X.s₀.heap.get? b=some o/\X.H₀ b=none
 bsz:X.base.objs.size<=X.s₀.heap.objs.size
 noex: ∀b o,X.base.get? b=some o->b ∉ X.ex
 exfs: ∀b∈X.ex,b ∉ X.fs
 funs:X.s₀.heap.FunFrames X.base X.outer
 frf: ∀b∈X.fs,X.H₀ b=none
structure Inv (X:Cx)(pins:List (Addr×Obj))(σ:List (Option V))(H:Hp)(s:Shared):Prop where
 ok:X.Ok
 os:s.os=X.s₀.os
 bare:AllBare s.gens
 base:Un X.fs X.ex X.H₀ H X.s₀.heap s.heap
 loc: ∃m,s.heap.Ns X.env.locals m/\ ∀ (i:Nat) (x:Str) (v:V),X.N[i]?=some x->σ[i]?=some (some v)->Vis X.env.scope x-> ∃u,RelV v u/\Look X.env s.heap m x u
 cell: ∀x c,X.env.cells.lookup x=some c-> ∃v,s.heap.IsCell c v
 free:H X.env.locals=none
 freeC: ∀x c,X.env.cells.lookup x=some c->H c=none
 pin: ∀p∈X.pn++pins,s.heap.get? p.1=some p.2/\H p.1=none/\p.1≠X.env.locals/\p.1 ∉ X.fs/\ ∀v,p.2.data≠.cell v
 hok:HOk X.prog X.w H s.heap
 len:σ.length=X.N.length
section
variable {X:Cx}{pins:List (Addr×Obj)}{σ:List (Option V)}{H H':Hp}{s:Shared}{h':Heap}
theorem Cx.Ok.nofr (ok:X.Ok){b:Addr}{o:Obj}(e:X.base.get? b=some o):b ∉ X.fs:=fun hb=>by
 have:=(ok.funs.mem hb).1
 rw[e] at this;cases this
theorem Inv.bs (I:Inv X pins σ H s): ∀b o,X.base.get? b=some o->s.heap.get? b=some o/\H b=none:=fun b o e=>
 ⟨I.base.keep b o (I.ok.bs b o e).1 (I.ok.bs b o e).2 (I.ok.nofr e) (I.ok.noex b o e),I.base.free b o (I.ok.bs b o e).1 (I.ok.bs b o e).2 (I.ok.noex b o e)⟩
theorem Inv.bk (I:Inv X pins σ H s): ∀b o,X.base.get? b=some o->s.heap.get? b=some o:=fun b o e=>(I.bs b o e).1
theorem Inv.mod (I:Inv X pins σ H s):Mod X.K X.mg X.base:=I.ok.mod
theorem Inv.kIn (I:Inv X pins σ H s):X.K.In s.heap:=I.ok.mod.kin.keeps I.bk
theorem Inv.fr (I:Inv X pins σ H s): ∃m,Fr X.base X.env.locals s.heap m:=
 let ⟨m,hn,_⟩:=I.loc
 ⟨m,hn,I.bk,Nat.le_trans I.ok.bsz I.ok.above⟩
theorem Inv.lt (I:Inv X pins σ H s):X.env.locals<s.heap.objs.size:=let ⟨_,hn,_⟩:=I.loc;hn.lt
theorem Inv.sz (I:Inv X pins σ H s):X.s₀.heap.objs.size<=s.heap.objs.size:=Nat.le_trans I.ok.above (Nat.le_of_lt I.lt)
theorem Inv.nofs (I:Inv X pins σ H s){a:Addr}(h:s.heap.objs.size<=a):a ∉ X.fs:=fun hb=>by
 obtain⟨_,o,ho,_⟩:=I.ok.funs.mem hb
 exact absurd (Nat.lt_of_lt_of_le (Heap.lt_size ho) (Nat.le_trans I.sz h)) (Nat.lt_irrefl _)
theorem Inv.cne (I:Inv X pins σ H s): ∀x c,X.env.cells.lookup x=some c->c≠X.env.locals:=fun x c e z=>by
 obtain⟨v,o,ho,hd⟩:=I.cell x c e
 obtain⟨m,⟨o',es,ep,ho',hd',_⟩,_⟩:=I.loc
 rw[z,ho'] at ho;cases ho;rw[hd'] at hd;cases hd
theorem Inv.funs (I:Inv X pins σ H s):s.heap.FunFrames X.base X.outer:=by
 have all: ∀ (l:List Env),(∀b∈frs l,b∈X.fs)->X.s₀.heap.FunFrames X.base l->s.heap.FunFrames X.base l:=by
  intro l
  induction l with
  |nil=>intro _ _;trivial
  |cons env r ih=>
   intro hs hl
   obtain⟨hk,⟨L,o,hf,hn,ho,hd⟩,hr⟩:=hl
   have hL:L∈X.fs:=hs L (by unfold frs;rw[List.filterMap_cons,hf];exact List.mem_cons_self)
   obtain⟨sl,e⟩:=I.base.slot L o ho (I.ok.frf L hL) hL fun z=>I.ok.exfs L z hL
   exact⟨hk,⟨L,_,hf,hn,e,hd⟩,ih (fun b hb=>hs b (by unfold frs;rw[List.filterMap_cons,hf];exact List.mem_cons_of_mem _ hb)) hr⟩
 exact all X.outer (fun _ hb=>hb) I.ok.funs
theorem Inv.stack (I:Inv X pins σ H s):s.heap.FunFrames X.base X.stack:=by
 rcases I.ok.stk with e|⟨e,hf⟩
 ·rw[e];exact I.funs
 ·rw[e]
  obtain⟨m,hn,_⟩:=I.loc
  refine .cons (by rw[I.ok.kind];decide) hf hn ?_ I.funs
  exact Heap.get?_none_of_le (Nat.le_trans I.ok.bsz I.ok.above)
theorem Inv.stkSub (I:Inv X pins σ H s): ∀b∈frs X.stack,b∈X.env.locals::X.fs:=fun b hb=>by
 rcases I.ok.stk with e|⟨e,hf⟩
 ·rw[e] at hb;exact List.mem_cons_of_mem _ hb
 ·rw[e] at hb
  unfold frs at hb
  rw[List.filterMap_cons,hf] at hb
  exact hb
theorem Inv.stkFree (I:Inv X pins σ H s): ∀b∈frs X.stack,H b=none:=fun b hb=>by
 rcases List.mem_cons.mp (I.stkSub b hb) with e|hb
 ·rw[e];exact I.free
 ·obtain⟨_,o,ho,_⟩:=I.ok.funs.mem hb
  exact I.base.free b o ho (I.ok.frf b hb) fun z=>I.ok.exfs b z hb
theorem Inv.step {g':Array GenState}{t':Nat}{d':Drawn}{ch:List Addr}(I:Inv X pins σ H s)
  (hch: ∀b∈ch,(b∈X.ex\/X.s₀.heap.objs.size<=b)/\b≠X.env.locals/\(∀x c,X.env.cells.lookup x=some c->c≠b)/\ ∀p∈X.pn++pins,p.1≠b)
  (keep: ∀b o,b≠X.env.locals->b ∉ X.fs->b ∉ ch->s.heap.get? b=some o->H b=none->h'.get? b=some o)
  (slot: ∀b o,b≠X.env.locals->b∈X.fs->b ∉ ch->s.heap.get? b=some o->H b=none-> ∃sl,h'.get? b=some {o with slots:=sl})(free: ∀b o,b ∉ ch->s.heap.get? b=some o->H b=none->H' b=none)
  (there: ∀b o,b ∉ ch->s.heap.get? b=some o-> ∃o',h'.get? b=some o')
  (tups: ∀b xs,H b=some (.tup xs)->H' b=some (.tup xs))(frzs: ∀b o u,H b=some (.frz o u)->H' b=some (.frz o u))(tbls: ∀b ps,H b=some (.tbl ps)-> ∃more,H' b=some (.tbl (ps++more)))
  (ns: ∀m,s.heap.Ns X.env.locals m->h'.Ns X.env.locals m)(hok:HOk X.prog X.w H' h')(hg:AllBare g'):
  Inv X pins σ H' {s with heap:=h',gens:=g',drawn:=d',toks:=t'}:=by
 have neL: ∀b o,X.s₀.heap.get? b=some o->b≠X.env.locals:=fun b o e=>Nat.ne_of_lt (Nat.lt_of_lt_of_le (Heap.lt_size e) I.ok.above)
 have neC: ∀b o,X.s₀.heap.get? b=some o->b ∉ X.ex->b ∉ ch:=fun b o e hx hb=>by
  rcases (hch b hb).1 with z|z
  ·exact hx z
  ·exact absurd (Nat.lt_of_lt_of_le (Heap.lt_size e) z) (Nat.lt_irrefl _)
 have cellK: ∀x c,X.env.cells.lookup x=some c-> ∀v,s.heap.IsCell c v->h'.IsCell c v:=fun x c e v ⟨o,ho,hd⟩=>by
  have nch:c ∉ ch:=fun z=>(hch c z).2.2.1 x c e rfl
  by_cases hc:c∈X.fs
  ·obtain⟨sl,q⟩:=slot c o (I.cne x c e) hc nch ho (I.freeC x c e)
   exact⟨_,q,hd⟩
  ·exact⟨o,keep c o (I.cne x c e) hc nch ho (I.freeC x c e),hd⟩
 refine⟨I.ok,I.os,hg,⟨fun b o e n hb hx=>?_,fun b o e n hb hx=>?_,fun b o e n hx=>?_,fun b o e hx=>?_,fun b xs e=>tups b xs (I.base.tups b xs e),fun b o xs e=>frzs b o xs (I.base.frzs b o xs e),fun b ps e=>?_⟩,?_,fun x c e=>?_,?_,fun x c e=>?_,fun p hp=>?_,hok,I.len⟩
 ·exact keep b o (neL b o e) hb (neC b o e hx) (I.base.keep b o e n hb hx) (I.base.free b o e n hx)
 ·obtain⟨sl,e1⟩:=I.base.slot b o e n hb hx
  obtain⟨sl',e2⟩:=slot b _ (neL b o e) hb (neC b o e hx) e1 (I.base.free b o e n hx)
  exact⟨sl',e2⟩
 ·obtain⟨o',e1⟩:=I.base.there b o e hx
  exact free b o' (neC b o e hx) e1 (I.base.free b o e n hx)
 ·obtain⟨o',e1⟩:=I.base.there b o e hx
  exact there b o' (neC b o e hx) e1
 ·obtain⟨m1,e1⟩:=I.base.tbls b ps e
  obtain⟨m2,e2⟩:=tbls b _ e1
  exact⟨m1++m2,by rw[e2,Array.append_assoc]⟩
 ·obtain⟨m,hn,hl⟩:=I.loc
  refine⟨m,ns m hn,fun i x v e1 e2 e3=>?_⟩
  obtain⟨u,r,l⟩:=hl i x v e1 e2 e3
  refine⟨u,r,?_⟩
  rcases l with l|⟨k,c,e,z⟩
  ·exact .inl l
  ·exact .inr ⟨k,c,e,cellK x c e _ z⟩
 ·obtain⟨v,z⟩:=I.cell x c e
  exact⟨v,cellK x c e v z⟩
 ·obtain⟨m,⟨o,_,_,ho,_⟩,_⟩:=I.loc
  exact free _ o (fun z=>(hch _ z).2.1 rfl) ho I.free
 ·obtain⟨v,o,ho,hd⟩:=I.cell x c e
  exact free c o (fun z=>(hch c z).2.2.1 x c e rfl) ho (I.freeC x c e)
 ·obtain⟨e,n,ne,nf,d⟩:=I.pin p hp
  have nch:p.1 ∉ ch:=fun z=>(hch p.1 z).2.2.2 p hp rfl
  exact⟨keep p.1 p.2 ne nf nch e n,free p.1 p.2 nch e n,ne,nf,d⟩
theorem Inv.un {t':Nat}(I:Inv X pins σ H s)(u:Un X.fs [] H H' s.heap h')(hok:HOk X.prog X.w H' h'):Inv X pins σ H' {s with heap:=h',toks:=t'}:=by
 obtain⟨m,⟨o,es,ep,ho,r⟩,_⟩:=id I.loc
 obtain⟨sl,hL⟩:=u.any ho I.free (by simp)
 exact I.step (g':=s.gens) (d':=s.drawn) (ch:=[]) (fun _ z=>nomatch z) (fun b o _ hb _ e n=>u.keep b o e n hb (by simp)) (fun b o _ hb _ e n=>u.slot b o e n hb (by simp)) (fun b o _ e n=>u.free b o e n (by simp)) (fun b o _ e=>u.there b o e (by simp)) u.tups u.frzs u.tbls (fun m' hm=>by
  obtain⟨o',es',ep',ho',r'⟩:=hm
  rw[ho] at ho';cases ho'
  exact⟨_,es',ep',hL,r'⟩) hok I.bare
theorem Inv.call {g':Array GenState}{t':Nat}{d':Drawn}{ch:List Addr}(I:Inv X pins σ H s)(u:Un (frs X.stack) ch H H' s.heap h')(hok:HOk X.prog X.w H' h')(hg:AllBare g')
  (hch: ∀b∈ch,(b∈X.ex\/X.s₀.heap.objs.size<=b)/\b≠X.env.locals/\(∀x c,X.env.cells.lookup x=some c->c≠b)/\ ∀p∈X.pn++pins,p.1≠b):
  Inv X pins σ H' {s with heap:=h',gens:=g',drawn:=d',toks:=t'}:=by
 obtain⟨m,⟨o,es,ep,ho,r⟩,_⟩:=id I.loc
 obtain⟨sl,hL⟩:=u.any ho I.free fun z=>(hch _ z).2.1 rfl
 exact I.step (ch:=ch) hch (fun b o hL hb hc e n=>u.keep b o e n (fun z=>(List.mem_cons.mp (I.stkSub b z)).elim hL hb) hc) (fun b o _ _ hc e n=>u.any e n hc) (fun b o hc e n=>u.free b o e n hc) (fun b o hc e=>u.there b o e hc) u.tups u.frzs u.tbls (fun m' hm=>by
  obtain⟨o',es',ep',ho',r'⟩:=hm
  rw[ho] at ho';cases ho'
  exact⟨_,es',ep',hL,r'⟩) hok hg
theorem Inv.turned {t':Nat}{it:Addr}(I:Inv X pins σ H s)(k:∀b o,b≠it->s.heap.get? b=some o->h'.get? b=some o)(hn:H it=none)(hL:it≠X.env.locals)
  (h1:it∈X.ex\/X.s₀.heap.objs.size<=it)(h2: ∀x c,X.env.cells.lookup x=some c->c≠it)(h3: ∀p∈X.pn++pins,p.1≠it):Inv X pins σ H {s with heap:=h',toks:=t'}:=by
 have nit: ∀b u,H b=some u->b≠it:=fun b u e z=>by rw[z,hn] at e;cases e
 refine I.step (g':=s.gens) (d':=s.drawn) (ch:=[it]) (fun b hb=>?_) (fun b o _ _ hc e _=>k b o (fun z=>hc (by simp [z])) e) (fun b o _ _ hc e _=>⟨o.slots,k b o (fun z=>hc (by simp [z])) e⟩) (fun _ _ _ _ n=>n)
  (fun b o hc e=>⟨o,k b o (fun z=>hc (by simp [z])) e⟩) (fun _ _ e=>e) (fun _ _ _ e=>e) (fun b ps e=>⟨#[],by rw[e];simp⟩) (fun m hm=>?_) (fun b u e=>?_) I.bare
 ·have e:b=it:=by simpa using hb
  subst e
  exact⟨h1,hL,h2,h3⟩
 ·obtain⟨o,es,ep,ho,r⟩:=hm
  exact⟨o,es,ep,k _ o (Ne.symm hL) ho,r⟩
 ·refine (I.hok b u e).stay (fun c v hc q=>k c v ?_ q) (fun _ q=>q) fun _ _ q=>q
  rcases hc with z|z
  ·rw[z];exact nit b u e
  ·exact nit c _ z
theorem Inv.tok (I:Inv X pins σ H s)(t:Nat):Inv X pins σ H {s with toks:=t}:=I.un (h':=s.heap) (t':=t) Un.refl I.hok
theorem Inv.kept {t':Nat}(I:Inv X pins σ H s)(k:∀b u,s.heap.get? b=some u->h'.get? b=some u):Inv X pins σ H {s with heap:=h',toks:=t'}:=I.un (Un.kept k) (I.hok.kept k)
theorem Inv.laid {a:Addr}{o:HO}{t':Nat}(I:Inv X pins σ H s)(k:∀b u,s.heap.get? b=some u->h'.get? b=some u)(hp:s.heap.objs.size<=a)(new:ObjOk X.prog X.w (upd H a o) h' a o):
 Inv X pins σ (upd H a o) {s with heap:=h',toks:=t'}:=I.un (Un.laid k hp (I.hok.fresh hp)) (I.hok.laid k hp new)
theorem Inv.write {x e:Addr}{o:HO}{t':Nat}(I:Inv X pins σ H s)(mu:Mut (H x))(he:e=x\/H e=some (.own x))(k:∀b u,b≠e->s.heap.get? b=some u->h'.get? b=some u)(heo: ∃u,h'.get? e=some u)
 (new:ObjOk X.prog X.w (upd H x o) h' x o):Inv X pins σ (upd H x o) {s with heap:=h',toks:=t'}:=I.un (Un.write mu he k heo) (I.hok.write mu he k heo new)
theorem Inv.weak {σ':List (Option V)}(I:Inv X pins σ H s)(hl:σ'.length=σ.length)(w:∀ (i:Nat) v,σ'[i]?=some (some v)->σ[i]?=some (some v)):Inv X pins σ' H s:=
 ⟨I.ok,I.os,I.bare,I.base,let ⟨m,hn,hl'⟩:=I.loc;⟨m,hn,fun i x v e1 e2 e3=>hl' i x v e1 (w i v e2) e3⟩,I.cell,I.free,I.freeC,I.pin,I.hok,hl.trans I.len⟩
theorem Inv.pins_of {pins':List (Addr×Obj)}(I:Inv X pins σ H s)(h:∀p∈pins',s.heap.get? p.1=some p.2/\H p.1=none/\p.1≠X.env.locals/\p.1 ∉ X.fs/\ ∀v,p.2.data≠.cell v):Inv X pins' σ H s:=
 ⟨I.ok,I.os,I.bare,I.base,I.loc,I.cell,I.free,I.freeC,fun p hp=>(List.mem_append.mp hp).elim (fun z=>I.pin p (List.mem_append_left _ z)) (h p),I.hok,I.len⟩
theorem ko {N:List Str}(hN:N.Nodup){i j:Nat}{x:Str}(a:N[i]?=some x)(b:N[j]?=some x):i=j:=by
 obtain⟨h1,e1⟩:=List.getElem?_eq_some_iff.mp a
 obtain⟨h2,e2⟩:=List.getElem?_eq_some_iff.mp b
 exact (List.getElem_inj hN).mp (e1.trans e2.symm)
theorem ng {M:Model}{A:Around}{E:Value->Shared->Prop}{i:Nat}{x:Str}{v:V}{u:Value}{Q:Unit->Shared->Prop}(I:Inv X pins σ H s)(hN:X.N.Nodup)(hi:X.N[i]?=some x)(hx:Loc X.env.scope x)(r:RelV v u)
  (h:∀s',Inv X pins (σ.set i (some v)) H s'->(∃a,Heap.SameBut a s.heap s'.heap/\(a=X.env.locals\/X.env.cells.lookup x=some a))->Q () s')(hf:X.fn x=true\/X.env.scope.names.lookup x=some .local :=by first|exact .inl rfl|exact .inr rfl|assumption):wpAny M A (storeName X.env x u) Q E s:=by
 obtain⟨m,hn,hl⟩:=id I.loc
 have hcls:(X.env.scope.kind==.class||(X.env.scope.kind==.module && X.env.locals !=X.env.globals))=false:=by rw[I.ok.kind];rfl
 have hiσ:i<σ.length:=by rw[I.len];exact (List.getElem?_eq_some_iff.mp hi).1
 have cne:=I.cne
 have tracked: ∀ {a:Addr}{h':Heap},(∃o,s.heap.get? a=some o/\H a=none)->Heap.SameBut a s.heap h'->HOk X.prog X.w H h':=fun{a h'} ha hs b ob e=>by
  obtain⟨_,_,hfree⟩:=ha
  refine (I.hok b ob e).stay (fun c w' hc q=>(hs.2 c ?_).trans q) (fun _ q=>q) fun _ _ q=>q
  rintro rfl
  rcases hc with rfl|hc
  ·rw[hfree] at e;cases e
  ·rw[hfree] at hc;cases hc
 rcases hx with hk|hk
 ·refine wpAny_storeName_local hk hn (fun h' hn' hs=>?_) hcls
  obtain⟨oL,_,_,hoL,_⟩:=id hn
  refine h _ ⟨I.ok,I.os,I.bare,⟨fun b o e n hb hx=>?_,fun b o e n hb hx=>?_,I.base.free,fun b o e hx=>?_,I.base.tups,I.base.frzs,I.base.tbls⟩,⟨_,hn',fun j y v' e1 e2 e3=>?_⟩,fun y c e=>?_,I.free,I.freeC,fun p hp=>?_,tracked ⟨oL,hoL,I.free⟩ hs,by simpa using I.len⟩ ⟨_,hs,.inl rfl⟩
  ·exact (hs.2 b (Nat.ne_of_lt (Nat.lt_of_lt_of_le (Heap.lt_size e) I.ok.above))).trans (I.base.keep b o e n hb hx)
  ·obtain⟨sl,e1⟩:=I.base.slot b o e n hb hx
   exact⟨sl,(hs.2 b (Nat.ne_of_lt (Nat.lt_of_lt_of_le (Heap.lt_size e) I.ok.above))).trans e1⟩
  ·obtain⟨o',e1⟩:=I.base.there b o e hx
   exact⟨o',(hs.2 b (Nat.ne_of_lt (Nat.lt_of_lt_of_le (Heap.lt_size e) I.ok.above))).trans e1⟩
  ·by_cases hj:j=i
   ·subst hj
    rw[hi] at e1;cases e1
    rw[List.getElem?_set_self hiσ] at e2
    cases e2
    exact⟨u,r,.inl ⟨hk,by simp⟩⟩
   ·rw[List.getElem?_set_ne (Ne.symm hj)] at e2
    obtain⟨u',r',q⟩:=hl j y v' e1 e2 e3
    refine⟨u',r',?_⟩
    rcases q with⟨k,e⟩|⟨k,c,e,z⟩
    ·refine .inl ⟨k,?_⟩
     have:y≠x:=fun e=>hj (ko hN e1 (e▸hi))
     simp [this,e]
    ·exact .inr ⟨k,c,e,z.sameBut hs (cne y c e)⟩
  ·obtain⟨w',z⟩:=I.cell y c e
   exact⟨w',z.sameBut hs (cne y c e)⟩
  ·obtain⟨e,n,ne,nf,d⟩:=I.pin p hp
   exact⟨(hs.2 p.1 ne).trans e,n,ne,nf,d⟩
 ·have hfn:X.fn x=true:=by
   rcases hf with z|z
   ·exact z
   ·rw[z] at hk;cases hk
  obtain⟨c,hc⟩:=I.ok.has x (.inl hk)
  obtain⟨w',z⟩:=I.cell x c hc
  refine wpAny_storeName_cell I.ok.kind hk hc z (fun h' hc' hs=>?_)
  obtain⟨oc,hoc,hocd⟩:=id z
  refine h {s with heap:=h'} ⟨I.ok,I.os,I.bare,⟨fun b o e n hb hx=>?_,fun b o e n hb hx=>?_,I.base.free,fun b o e hx=>?_,I.base.tups,I.base.frzs,I.base.tbls⟩,⟨m,hn.sameBut hs (Ne.symm (cne x c hc)),fun j y v' e1 e2 e3=>?_⟩,fun y c' e=>?_,I.free,I.freeC,fun p hp=>?_,tracked ⟨oc,hoc,I.freeC x c hc⟩ hs,by simpa using I.len⟩ ⟨c,hs,.inr hc⟩
  ·exact (hs.2 b (Nat.ne_of_lt (Nat.lt_of_lt_of_le (Heap.lt_size e) (I.ok.cab x c hfn hc)))).trans (I.base.keep b o e n hb hx)
  ·obtain⟨sl,e1⟩:=I.base.slot b o e n hb hx
   exact⟨sl,(hs.2 b (Nat.ne_of_lt (Nat.lt_of_lt_of_le (Heap.lt_size e) (I.ok.cab x c hfn hc)))).trans e1⟩
  ·obtain⟨o',e1⟩:=I.base.there b o e hx
   exact⟨o',(hs.2 b (Nat.ne_of_lt (Nat.lt_of_lt_of_le (Heap.lt_size e) (I.ok.cab x c hfn hc)))).trans e1⟩
  ·by_cases hj:j=i
   ·subst hj
    rw[hi] at e1;cases e1
    rw[List.getElem?_set_self hiσ] at e2
    cases e2
    exact⟨u,r,.inr ⟨.inl hk,c,hc,hc'⟩⟩
   ·rw[List.getElem?_set_ne (Ne.symm hj)] at e2
    obtain⟨u',r',q⟩:=hl j y v' e1 e2 e3
    refine⟨u',r',?_⟩
    rcases q with q|⟨k,c',e,z'⟩
    ·exact .inl q
    ·refine .inr ⟨k,c',e,z'.sameBut hs ?_⟩
     rintro rfl
     exact hj (ko hN e1 (I.ok.inj _ _ _ e hc▸hi))
  ·by_cases hcc:c'=c
   ·subst hcc;exact⟨_,hc'⟩
   ·obtain⟨w2,z2⟩:=I.cell y c' e
    exact⟨w2,z2.sameBut hs hcc⟩
  ·obtain⟨e,n,ne,nf,d⟩:=I.pin p hp
   refine⟨(hs.2 p.1 ?_).trans e,n,ne,nf,d⟩
   intro q
   rw[q,hoc] at e
   have q':oc=p.2:=Option.some.inj e
   exact d w' (by rw[<-q'];exact hocd)
theorem jR {M:Model}{A:Around}{E:Value->Shared->Prop}{i:Nat}{x:Str}{v:V}{u:Value}{Q:Unit->Shared->Prop}(I:Inv X pins σ H s)(hN:X.N.Nodup)(hi:X.N[i]?=some x)(hx:Loc X.env.scope x)(r:RelV v u)
  (h:∀s',Inv X pins (σ.set i (some v)) H s'->Q () s')(hf:X.fn x=true\/X.env.scope.names.lookup x=some .local :=by first|exact .inl rfl|exact .inr rfl|assumption):wpAny M A (storeName X.env x u) Q E s:=
 ng I hN hi hx r (fun s' I' _=>h s' I') hf
theorem Inv.call' {s':Shared}{ch:List Addr}(I:Inv X pins σ H s)(ho:s'.os=s.os)(u:Un (frs X.stack) ch H H' s.heap s'.heap)(hok:HOk X.prog X.w H' s'.heap)(hg:AllBare s'.gens)
  (hch: ∀b∈ch,(b∈X.ex\/X.s₀.heap.objs.size<=b)/\b≠X.env.locals/\(∀x c,X.env.cells.lookup x=some c->c≠b)/\ ∀p∈X.pn++pins,p.1≠b):Inv X pins σ H' s':=by
 obtain⟨h',g',d',t',o'⟩:=s'
 have e:o'=s.os:=ho
 subst e
 exact I.call (g':=g') (t':=t') (d':=d') u hok hg hch
end
noncomputable abbrev XK:=Value->Option Addr->Hp->Prop
noncomputable abbrev St:=List (Option V)
noncomputable abbrev VK:=V->Hp->Prop
noncomputable abbrev TE:=St->Hp->VK->Prop
noncomputable abbrev TT:=St->Hp->(Bool->Hp->Prop)->Prop
noncomputable abbrev TA:=St->Hp->(List V->Hp->Prop)->Prop
structure Ends where
 nx:St->Hp->Prop
 rt:VK
 bk:St->Hp->Prop:=fun _ _=>False
 ct:St->Hp->Prop:=fun _ _=>False
noncomputable abbrev TS:=Ends->St->Hp->Prop
def EP (X:Cx)(pins:List (Addr×Obj))(σ:St)(Q:VK)(u:Value)(s':Shared):Prop:= ∃v H',Inv X pins σ H' s'/\RelV v u/\Q v H'
def TP (X:Cx)(pins:List (Addr×Obj))(σ:St)(Q:Bool->Hp->Prop)(b:Bool)(s':Shared):Prop:= ∃H',Inv X pins σ H' s'/\Q b H'
def AP (X:Cx)(pins:List (Addr×Obj))(σ:St)(Q:List V->Hp->Prop)(us:List Value)(s':Shared):Prop:= ∃vs H',Inv X pins σ H' s'/\Vals vs us/\Q vs H'
def SP (X:Cx)(pins:List (Addr×Obj))(D:Ends)(f:Flow)(s':Shared):Prop:=
 match f with
 |.next=> ∃σ' H',Inv X pins σ' H' s'/\D.nx σ' H'
 |.brk=> ∃σ' H',Inv X pins σ' H' s'/\D.bk σ' H'
 |.cont=> ∃σ' H',Inv X pins σ' H' s'/\D.ct σ' H'
 |.ret u=> ∃v σ' H',Inv X pins σ' H' s'/\RelV v u/\D.rt v H'
def PE (X:Cx)(e:Expr)(t:TE):Prop:=
 ∀ (pins:List (Addr×Obj)) (s:Shared) (σ:St) (H:Hp) (Q:VK),Inv X pins σ H s->t σ H Q->wpAny (model X.prog X.w) X.A (eval e X.env) (EP X pins σ Q) X.xe s
def PT (X:Cx)(e:Expr)(t:TT):Prop:=
 ∀ (pins:List (Addr×Obj)) (s:Shared) (σ:St) (H:Hp) (Q:Bool->Hp->Prop),Inv X pins σ H s->t σ H Q->wpAny (model X.prog X.w) X.A (isTrue e X.env (eval e X.env)) (TP X pins σ Q) X.xe s
def PW (X:Cx)(e:Expr)(t:TT):Prop:=
 ∀ (whole:Sem Value) (pins:List (Addr×Obj)) (s:Shared) (σ:St) (H:Hp) (Q:Bool->Hp->Prop),Inv X pins σ H s->t σ H Q->wpAny (model X.prog X.w) X.A (isTrue e X.env whole) (TP X pins σ Q) X.xe s
theorem PW.pt {X:Cx}{e:Expr}{t:TT}(h:PW X e t):PT X e t:=h _
def PA (X:Cx)(es:List Expr)(t:TA):Prop:=
 ∀ (pos:Pos) (pins:List (Addr×Obj)) (s:Shared) (σ:St) (H:Hp) (Q:List V->Hp->Prop),Inv X pins σ H s->t σ H Q->wpAny (model X.prog X.w) X.A (spliced (backTo pos (starEach es X.env))) (AP X pins σ Q) X.xe s
def PS (X:Cx)(st:Stmt)(t:TS):Prop:=
 ∀ (pins:List (Addr×Obj)) (s:Shared) (σ:St) (H:Hp) (D:Ends),Inv X pins σ H s->t D σ H->wpAny (model X.prog X.w) X.A (exec st X.env) (SP X pins D) X.xe s
def PSs (X:Cx)(st:List Stmt)(t:TS):Prop:=
 ∀ (pins:List (Addr×Obj)) (s:Shared) (σ:St) (H:Hp) (D:Ends),Inv X pins σ H s->t D σ H->wpAny (model X.prog X.w) X.A (execs st X.env) (SP X pins D) X.xe s
theorem thn {α:Type}{t:Sem α}{Q Q':α->Shared->Prop}{M:Model}{A:Around}{E:Value->Shared->Prop}{s:Shared}(h:wpAny M A t Q E s)(hQ: ∀a s,Q a s->Q' a s):wpAny M A t Q' E s:=wpAny_mono h hQ fun _ _ x=>x
end L2
namespace L2
open PySem PySem.Spec PyProof.Rows
section
variable {X:Cx}
theorem bin {a b:Expr}{ta tb:TE}(ha:PE X a ta)(hb:PE X b tb){pins:List (Addr×Obj)}{s:Shared}{σ:St}{H:Hp}{R:V->V->Hp->Prop}(I:Inv X pins σ H s)(h:ta σ H fun x H1=>tb σ H1 fun y H2=>R x y H2)
  {α:Type}{Q:α->Shared->Prop}{f:Value->Value->Sem α}
  (hf: ∀v u s2 x y H2,Inv X pins σ H2 s2->RelV x v->RelV y u->R x y H2->wpAny (model X.prog X.w) X.A (f v u) Q X.xe s2):
  wpAny (model X.prog X.w) X.A (eval a X.env) (fun v s₁=>wpAny (model X.prog X.w) X.A (eval b X.env) (fun u s₂=>wpAny (model X.prog X.w) X.A (f v u) Q X.xe s₂) X.xe s₁) X.xe s:=by
 refine thn (ha pins s σ H _ I h) fun v s1 qz=>?_
 obtain⟨x,H1,I1,r1,q1⟩:=qz
 refine thn (hb pins s1 σ H1 _ I1 q1) fun u s2 qz=>?_
 obtain⟨y,H2,I2,r2,q2⟩:=qz
 exact hf v u s2 x y H2 I2 r1 r2 q2
def tVar (i:Nat):TE:=fun σ H Q=> ∃v,σ[i]?=some (some v)/\Q v H
def tC (v:V):TE:=fun _ H Q=>Q v H
theorem sU {i:Nat}{x:Str}{pos:Pos}(hN:X.N[i]?=some x)(hv:Vis X.env.scope x)(hd:(x==("__debug__":Str))=false:=by decide)(hcd:(x==("__classdict__":Str))=false:=by decide):PE X (.Name x pos) (tVar i):=by
 intro pins s σ H Q I h
 obtain⟨v,e,h⟩:=h
 obtain⟨m,hn,hl⟩:=I.loc
 obtain⟨u,r,l⟩:=hl i x v hN e hv
 have fin:EP X pins σ Q u s:=⟨v,H,I,r,h⟩
 rcases l with⟨hk,hm⟩|⟨hk,c,hc,hcell⟩
 ·exact wpAny_Name (wpAny_loadName_local I.ok.kind hk hn hm fin) hd
 ·rcases hk with hk|hk
  ·exact wpAny_Name (wpAny_loadName_cell I.ok.kind hk hc hcell fin) hd
  ·exact wpAny_Name (wpAny_loadName_free I.ok.kind hk hc hcell fin hcd) hd
theorem pe_int {i j pos}:PE X (.Constant (.int i) j pos) (tC (.int i)):=fun _ _ _ H _ I h=>wpAny_Constant_int ⟨.int i,H,I.tok _,⟨_,rfl⟩,h⟩
theorem pe_bl {b j pos}:PE X (.Constant (.bool b) j pos) (tC (.bl b)):=fun _ _ _ H _ I h=>Constant_bool ⟨.bl b,H,I,rfl,h⟩
theorem pe_str {x j pos}:PE X (.Constant (.str x) j pos) (tC (.str x)):=fun _ _ _ H _ I h=>Calls.Constant_str ⟨.str x,H,I.tok _,⟨_,rfl⟩,h⟩
noncomputable def Gl (X:Cx)(x:Str):Prop:=X.env.kindOf x=some .globalImplicit
theorem mt {E:Value->Shared->Prop}{pins:List (Addr×Obj)}{s:Shared}{σ:St}{H:Hp}{x:Str}{u:Value}{pos:Pos}{Q:Value->Shared->Prop}(I:Inv X pins σ H s)(hg:Gl X x)(hm:X.mg x=some u)(h:Q u s)
  (hd:(x==("__debug__":Str))=false:=by decide):wpAny (model X.prog X.w) X.A (eval (.Name x pos) X.env) Q E s:=
 Calls.Name_function_global I.ok.kind hg (Calls.loadGlobal_global (by rw[I.ok.glob];exact I.mod.glob.keeps I.bk) hm h) hd
theorem dj {E:Value->Shared->Prop}{pins:List (Addr×Obj)}{s:Shared}{σ:St}{H:Hp}{x:Str}{u:Value}{pos:Pos}{Q:Value->Shared->Prop}(I:Inv X pins σ H s)(hg:Gl X x)(hm:X.mg x=none)(hv:bootBuiltins x=some u)(h:Q u s)
  (hn:x≠ "__name__":=by decide)(hd:(x==("__debug__":Str))=false:=by decide):wpAny (model X.prog X.w) X.A (eval (.Name x pos) X.env) Q E s:=by
 obtain⟨mb,h1,h2⟩:=I.mod.blt
 exact Calls.Name_function_global I.ok.kind hg (Calls.loadGlobal_builtin (by rw[I.ok.glob];exact I.mod.glob.keeps I.bk) hm (by rw[I.ok.blt];exact h1.keeps I.bk) ((h2 x hn).trans hv) h) hd
theorem qO {x:Str}{v:V}{u:Value}{pos:Pos}(hg:Gl X x)(hm:X.mg x=some u)(r:RelV v u)(hd:(x==("__debug__":Str))=false:=by decide):PE X (.Name x pos) (tC v):=
 fun _ _ _ H _ I h=>mt I hg hm ⟨v,H,I,r,h⟩ hd
theorem qS {x:Str}{v:V}{u:Value}{pos:Pos}(hg:Gl X x)(hm:X.mg x=none)(hv:bootBuiltins x=some u)(r:RelV v u)(hn:x≠ "__name__":=by decide)(hd:(x==("__debug__":Str))=false:=by decide):PE X (.Name x pos) (tC v):=
 fun _ _ _ H _ I h=>dj I hg hm hv ⟨v,H,I,r,h⟩ hn hd
variable {a b:Expr}{ta tb:TE}{pos:Pos}
def PC (X:Cx)(op:CmpOp)(a b:Expr)(t:TE):Prop:=
 ∀ (pins:List (Addr×Obj)) (s:Shared) (σ:St) (H:Hp) (Q:VK),Inv X pins σ H s->t σ H Q->
   wpAny (model X.prog X.w) X.A (eval a X.env) (fun v s₁=>wpAny (model X.prog X.w) X.A (eval b X.env) (fun u s₂=>wpAny (model X.prog X.w) X.A (compareOp op v u) (EP X pins σ Q) X.xe s₂) X.xe s₁) X.xe s
def tB (t:TE):TT:=fun σ H Q=>t σ H fun x H1=> ∃c,x=.bl c/\Q c H1
theorem uU {op:CmpOp}{t:TE}(h:PC X op a b t)(h1:behindInMarks op b=false:=by first|exact nobehind _ (by decide) (by decide)|rfl):PT X (.Compare a [op] [b] pos) (tB t):=by
 intro pins s σ H Q I hw
 refine wpAny_isTrue_Compare1 (thn (h pins s σ H _ I hw) fun v s1 h1=>thn h1 fun u s2 h2=>thn h2 fun c s3 qz=>?_) h1
 obtain⟨x,H1,I1,r1,q1⟩:=qz
 obtain⟨d,rfl,q⟩:=q1
 cases r1
 exact wpAny_truthy_bool ⟨H1,I1,q⟩
theorem sN {e:Expr}{t:TE}(h:PE X e t)(he: ∀whole,isTrue e X.env whole=(do let v<-whole;standAt e.pos;holding [v] (truthy v)):=by intro _;rfl):PT X e (tB t):=by
 intro pins s σ H Q I hw
 refine isTrue_plain (thn (h pins s σ H _ I hw) fun v s1 qz=>?_) (he _)
 obtain⟨x,H1,I1,r1,q1⟩:=qz
 obtain⟨d,rfl,q⟩:=q1
 cases r1
 exact wpAny_truthy_bool ⟨H1,I1,q⟩
variable {tA tB':TT}{rest:List Expr}
def tOr (t u:TT):TT:=fun σ H Q=>t σ H fun c H1=>if c=true then Q true H1 else u σ H1 Q
def tNot (t:TT):TT:=fun σ H Q=>t σ H fun c H1=>Q (!c) H1
theorem sM (ha:PT X a tA):PW X (.BoolOp .Or [a] pos) tA:=by
 intro wh pins s σ H Q I h
 refine isTrue_or (thn (ha pins s σ H Q I h) fun c s1 e=>?_)
 cases c with
 |false=>exact isTrue_or_nil e
 |true=>exact e
theorem uD (ha:PT X a tA)(hb:PW X (.BoolOp .Or (b::rest) pos) tB'):PW X (.BoolOp .Or (a::b::rest) pos) (tOr tA tB'):=by
 intro wh pins s σ H Q I h
 refine isTrue_or (thn (ha pins s σ H _ I h) fun c s1 qz=>?_)
 obtain⟨H1,I1,q1⟩:=qz
 cases c with
 |true=>exact⟨H1,I1,q1⟩
 |false=>exact hb wh pins s1 σ H1 Q I1 q1
theorem sO (ha:PT X a tA):PT X (.UnaryOp .Not a pos) (tNot tA):=by
 intro pins s σ H Q I h
 exact isTrue_not (ha pins s σ H (fun c H1=>Q (!c) H1) I h)
def tAndV (ta tb:TE):TE:=fun σ H Q=>ta σ H fun x H1=> ∃c,x=.bl c/\if c=true then tb σ H1 Q else Q (.bl false) H1
theorem sV {op}{t:TE}(h:PE X a t):PE X (.BoolOp op [a] pos) t:=fun pins s σ H Q I hw=>BoolOp_one (h pins s σ H Q I hw)
theorem sX (ha:PE X a ta)(hb:PE X (.BoolOp .And (b::rest) pos) tb):PE X (.BoolOp .And (a::b::rest) pos) (tAndV ta tb):=by
 intro pins s σ H Q I h
 refine BoolOp_and (thn (ha pins s σ H _ I h) fun v s1 qz=>?_)
 obtain⟨x,H1,I1,r1,q1⟩:=qz
 obtain⟨c,rfl,q1⟩:=q1
 cases r1
 refine wpAny_truthy_bool ?_
 cases c with
 |true=>exact hb pins s1 σ H1 Q I1 q1
 |false=>exact⟨.bl false,H1,I1,rfl,q1⟩
def tIf (t:TT)(ta tb:TE):TE:=fun σ H Q=>t σ H fun c H1=>if c=true then ta σ H1 Q else tb σ H1 Q
theorem oX {c:Expr}(hc:PT X c tA)(ha:PE X a ta)(hb:PE X b tb):PE X (.IfExp c a b pos) (tIf tA ta tb):=by
 intro pins s σ H Q I h
 refine wpAny_IfExp (thn (hc pins s σ H _ I h) fun d s1 qz=>?_)
 obtain⟨H1,I1,q1⟩:=qz
 cases d with
 |true=>exact ha pins s1 σ H1 Q I1 q1
 |false=>exact hb pins s1 σ H1 Q I1 q1
end
end L2
namespace L2
open PySem PySem.Spec PyProof.Rows
def SqL (K:PySem.W.Frag)(H:Hp)(a:Addr)(xs:List V):Prop:=
 Rd H a (.lst xs)\/
  ∃ (o:Obj) (its:Array Value) (n:Nat),K.lookup a=some o/\o.cls=.type "list"/\o.dict=none/\o.data=.seq its n/\its.size<=sizeLine/\Vals xs its.toList
def SqT (K:PySem.W.Frag)(H:Hp)(a:Addr)(xs:List V):Prop:=
 Rd H a (.tup xs)\/
  ∃ (o:Obj) (its:Array Value) (n:Nat),K.lookup a=some o/\o.cls=.type "tuple"/\o.data=.seq its n/\its.size<=sizeLine/\Vals xs its.toList
noncomputable def absV:Value->Option V
 |.none=>some .non
 |.bool b=>some (.bl b)
 |.int i _=>some (.int i)
 |.str x _=>some (.str x)
 |.bytes b _=>some (.byt b)
 |.float b _=>some (.flt b)
 |.ref a=>some (.ref a)
 |.type n=>some (.ty n)
 |_=>none
theorem RelV.abs {x:V}{u:Value}(r:RelV x u):absV u=some x:=by
 cases x with
 |non=>cases r;rfl
 |bl _=>cases r;rfl
 |int _=>obtain⟨t,rfl⟩:=r;rfl
 |str _=>obtain⟨t,rfl⟩:=r;rfl
 |byt _=>obtain⟨t,rfl⟩:=r;rfl
 |flt _=>obtain⟨t,rfl⟩:=r;rfl
 |ref _=>cases r;rfl
 |ty _=>cases r;rfl
theorem RelV.inj {x y:V}{u:Value}(r:RelV x u)(q:RelV y u):x=y:=Option.some.inj (r.abs.symm.trans q.abs)
theorem Vals.inj: ∀ {xs ys:List V}{us:List Value},Vals xs us->Vals ys us->xs=ys
 :=by
 intro xs ys us h
 induction h generalizing ys with
 |nil=>intro g;cases g;rfl
 |cons r t ih=>
  intro g
  cases g with
  |cons r' t'=>rw[r.inj r',ih t']
section
variable {X:Cx}{pins:List (Addr×Obj)}{σ:St}{H:Hp}{s:Shared}{a:Addr}{xs ys:List V}
theorem SqL.of {K:PySem.W.Frag}(h:H a=some (.lst xs)):SqL K H a xs:=.inl (.inl h)
theorem SqT.of {K:PySem.W.Frag}(h:H a=some (.tup xs)):SqT K H a xs:=.inl (.inl h)
theorem Inv.list (I:Inv X pins σ H s)(h:SqL X.K H a xs): ∃its:List Value,Vals xs its/\PlainL s.heap a its.toArray/\xs.length<=sizeLine:=by
 rcases h with h|⟨o,its,n,hk,hc,hd,hs,hz,r⟩
 ·obtain⟨z,its,n,r,e⟩:=h.ok I.hok
  exact⟨its,r,⟨_,n,e,rfl,rfl,rfl⟩,z⟩
 ·refine⟨its.toList,r,⟨o,n,I.kIn a o hk,hc,hd,by simpa using hs⟩,?_⟩
  have e:=r.length
  simp only[Array.length_toList] at e
  omega
theorem Inv.tuple (I:Inv X pins σ H s)(h:SqT X.K H a xs): ∃its:List Value,Vals xs its/\IsTup s.heap a its.toArray/\xs.length<=sizeLine:=by
 rcases h with h|⟨o,its,n,hk,hc,hs,hz,r⟩
 ·obtain⟨z,its,r,p⟩:=h.ok I.hok
  exact⟨its,r,p.1,z⟩
 ·refine⟨its.toList,r,⟨o,I.kIn a o hk,hc,n,by simpa using hs⟩,?_⟩
  have e:=r.length
  simp only[Array.length_toList] at e
  omega
theorem Inv.list_inj (I:Inv X pins σ H s)(h:SqL X.K H a xs)(h':SqL X.K H a ys):xs=ys:=by
 obtain⟨its,r,⟨o,n,e,_,_,d⟩,_⟩:=I.list h
 obtain⟨its',r',⟨o',n',e',_,_,d'⟩,_⟩:=I.list h'
 rw[e] at e';cases e'
 rw[d] at d'
 injection d' with d1 _
 have:its=its':=by simpa using congrArg Array.toList d1
 subst this
 exact r.inj r'
theorem Inv.tuple_inj (I:Inv X pins σ H s)(h:SqT X.K H a xs)(h':SqT X.K H a ys):xs=ys:=by
 obtain⟨its,r,⟨o,e,_,n,d⟩,_⟩:=I.tuple h
 obtain⟨its',r',⟨o',e',_,n',d'⟩,_⟩:=I.tuple h'
 rw[e] at e';cases e'
 rw[d] at d'
 injection d' with d1 _
 have:its=its':=by simpa using congrArg Array.toList d1
 subst this
 exact r.inj r'
end
noncomputable abbrev Cx.wish (X:Cx)(E:Value->Shared->Prop):Cx:={X with xe:=E}
noncomputable abbrev Cx.nox (X:Cx):Cx:=X.wish fun _ _=>False
theorem Cx.Ok.wish {X:Cx}(ok:X.Ok)(E:Value->Shared->Prop):(X.wish E).Ok:=
 ⟨ok.mod,ok.kind,ok.glob,ok.blt,ok.above,ok.inj,ok.has,ok.cab,ok.hd,ok.frames,ok.stk,ok.exf,ok.bs,ok.bsz,ok.noex,ok.exfs,ok.funs,ok.frf⟩
theorem Cx.Ok.unwish {X:Cx}{E:Value->Shared->Prop}(ok:(X.wish E).Ok):X.Ok:=
 ⟨ok.mod,ok.kind,ok.glob,ok.blt,ok.above,ok.inj,ok.has,ok.cab,ok.hd,ok.frames,ok.stk,ok.exf,ok.bs,ok.bsz,ok.noex,ok.exfs,ok.funs,ok.frf⟩
section
variable {X:Cx}{pins:List (Addr×Obj)}{σ:St}{H:Hp}{s:Shared}{E:Value->Shared->Prop}
theorem Inv.wish (I:Inv X pins σ H s)(E:Value->Shared->Prop):Inv (X.wish E) pins σ H s:=⟨I.ok.wish E,I.os,I.bare,I.base,I.loc,I.cell,I.free,I.freeC,I.pin,I.hok,I.len⟩
theorem Inv.unwish (I:Inv (X.wish E) pins σ H s):Inv X pins σ H s:=⟨I.ok.unwish,I.os,I.bare,I.base,I.loc,I.cell,I.free,I.freeC,I.pin,I.hok,I.len⟩
theorem SP.unwish {D:Ends}{f:Flow}{s':Shared}(h:SP (X.wish E) pins D f s'):SP X pins D f s':=by
 cases f with
 |next=>obtain⟨σ',H',I,q⟩:=h;exact⟨σ',H',I.unwish,q⟩
 |brk=>obtain⟨σ',H',I,q⟩:=h;exact⟨σ',H',I.unwish,q⟩
 |cont=>obtain⟨σ',H',I,q⟩:=h;exact⟨σ',H',I.unwish,q⟩
 |ret u=>obtain⟨v,σ',H',I,r,q⟩:=h;exact⟨v,σ',H',I.unwish,r,q⟩
theorem PSs.nox {st:List Stmt}{t:TS}(h:PSs X.nox st t):PSs X st t:=fun pins s σ H D I hw=>
 wpAny_mono (h pins s σ H D (I.wish _) hw) (fun _ _ q=>q.unwish) fun _ _ z=>False.elim z
end
section
variable {X:Cx}{st:Stmt}{rest:List Stmt}{t u:TS}{e:Expr}{te:TE}{pos:Pos}
def tNext:TS:=fun D σ H=>D.nx σ H
def tSeq (t u:TS):TS:=fun D σ H=>t {D with nx:=u D} σ H
theorem pss_nil:PSs X [] tNext:=fun _ _ σ H _ I h=>wpAny_execs_nil ⟨σ,H,I,h⟩
theorem oO (h1:PS X st t)(h2:PSs X rest u):PSs X (st::rest) (tSeq t u):=by
 intro pins s σ H D I h
 refine wpAny_execs_cons (thn (h1 pins s σ H {D with nx:=u D} I h) fun f s1 q=>?_)
 cases f with
 |next=>
  obtain⟨σ',H',I',q⟩:=q
  exact h2 pins s1 σ' H' D I' q
 |ret v=>exact q
 |brk=>exact q
 |cont=>exact q
theorem qG (h1:PS X st t):PSs X [st] t:=by
 intro pins s σ H D I h
 refine wpAny_execs_cons (thn (h1 pins s σ H D I h) fun f s1 q=>?_)
 cases f with
 |next=>exact wpAny_execs_nil q
 |ret v=>exact q
 |brk=>exact q
 |cont=>exact q
theorem Inv.quiet {pins:List (Addr×Obj)}{σ:St}{H:Hp}{s:Shared}(I:Inv X pins σ H s):interactive X.env=false:=by simp [interactive,I.ok.kind]
def tDrop (te:TE):TS:=fun D σ H=>te σ H fun _ H1=>D.nx σ H1
theorem qH (he:PE X e te)(hs:swapsWith e none pos.line X.env=pure false:=by rfl):PS X (.Expr e pos) (tDrop te):=by
 intro pins s σ H D I h
 exact wpAny_Expr_any (thn (he pins s σ H _ I h) fun v s1 ⟨x,H1,I1,r1,q1⟩=>⟨σ,H1,I1,q1⟩) I.quiet hs
def tRet (te:TE):TS:=fun D σ H=>te σ H D.rt
theorem sQ (he:PE X e te):PS X (.Return (some e) pos) (tRet te):=by
 intro pins s σ H D I h
 exact wpAny_Return_some (thn (he pins s σ H _ I h) fun v s1 ⟨x,H1,I1,r1,q1⟩=>⟨x,σ,H1,I1,r1,q1⟩)
def tIfS (c:TT)(t u:TS):TS:=fun D σ H=>c σ H fun b H1=>if b=true then t D σ H1 else u D σ H1
theorem uE {c:Expr}{a b:List Stmt}{tc:TT}(hc:PT X c tc)(ha:PSs X a t)(hb:PSs X b u):PS X (.If c a b pos) (tIfS tc t u):=by
 intro pins s σ H D I h
 refine wpAny_If (thn (hc pins s σ H _ I h) fun d s1 qz=>?_)
 obtain⟨H1,I1,q1⟩:=qz
 cases d with
 |true=>exact ha pins s1 σ H1 D I1 q1
 |false=>exact hb pins s1 σ H1 D I1 q1
end
noncomputable abbrev TG:=V->St->Hp->(St->Hp->Prop)->Prop
noncomputable abbrev TGs:=List V->St->Hp->(St->Hp->Prop)->Prop
def PG (X:Cx)(target:Expr)(t:TG):Prop:=
 ∀ (pins:List (Addr×Obj)) (s:Shared) (σ:St) (H:Hp) (v:V) (u:Value) (Q:St->Hp->Prop),Inv X pins σ H s->RelV v u->t v σ H Q->
   wpAny (model X.prog X.w) X.A (assign target X.env u) (fun _ s'=> ∃σ' H',Inv X pins σ' H' s'/\Q σ' H') X.xe s
def PGs (X:Cx)(ts:List Expr)(t:TGs):Prop:=
 ∀ (pins:List (Addr×Obj)) (s:Shared) (σ:St) (H:Hp) (vs:List V) (us:List Value) (Q:St->Hp->Prop),Inv X pins σ H s->Vals vs us->t vs σ H Q->
   wpAny (model X.prog X.w) X.A (assignInOrder ((assignEach ts X.env).map (·.2)) us) (fun _ s'=> ∃σ' H',Inv X pins σ' H' s'/\Q σ' H') X.xe s
noncomputable abbrev TSet:=V->V->V->Hp->(Hp->Prop)->Prop
def PSet (X:Cx)(t:TSet):Prop:=
 ∀ (pins:List (Addr×Obj)) (s:Shared) (σ:St) (H:Hp) (o i v:V) (ov iv u:Value) (Q:Hp->Prop),Inv X pins σ H s->RelV o ov->RelV i iv->RelV v u->t o i v H Q->
   wpAny (model X.prog X.w) X.A (setItem ov iv u) (fun _ s'=> ∃H',Inv X pins σ H' s'/\Q H') X.xe s
section
variable {X:Cx}{pos:Pos}
def gName (i:Nat):TG:=fun v σ H Q=>Q (σ.set i (some v)) H
theorem au {i:Nat}{x:Str}(hN:X.N.Nodup)(hi:X.N[i]?=some x)(hx:Loc X.env.scope x)(hf:X.fn x=true\/X.env.scope.names.lookup x=some .local :=by first|exact .inl rfl|exact .inr rfl|assumption):PG X (.Name x pos) (gName i):=by
 intro pins s σ H v u Q I r h
 exact wpAny_assign_Name (jR I hN hi hx r (fun s' I'=>⟨_,H,I',h⟩) hf)
def gNil:TGs:=fun vs σ H Q=>vs=[]/\Q σ H
def gCons (t:TG)(u:TGs):TGs:=fun vs σ H Q=> ∃v r,vs=v::r/\t v σ H fun σ' H'=>u r σ' H' Q
theorem bV:PGs X [] gNil:=by
 intro pins s σ H vs us Q I r h
 obtain⟨e,h⟩:=h
 subst e
 cases r
 exact assignInOrder_nil ⟨σ,H,I,h⟩
theorem aD {e:Expr}{es:List Expr}{t:TG}{u:TGs}(h1:PG X e t)(h2:PGs X es u)
  (hs:(assignEach (e::es) X.env).map (·.2)=assign e X.env::(assignEach es X.env).map (·.2):=by rfl):PGs X (e::es) (gCons t u):=by
 intro pins s σ H vs us Q I r h
 obtain⟨v,vr,e1,h⟩:=h
 subst e1
 cases r with
 |cons r rr=>
  rw[hs]
  refine assignInOrder_cons (thn (h1 pins s σ H _ _ _ I r h) fun _ s1 qz=>?_)
  obtain⟨σ1,H1,I1,q1⟩:=qz
  exact h2 pins s1 σ1 H1 _ _ Q I1 rr q1
def gTup (K:PySem.W.Frag)(n:Nat)(t:TGs):TG:=fun v σ H Q=> ∃a xs,v=.ref a/\SqT K H a xs/\xs.length=n/\t xs σ H Q
theorem cV {es:List Expr}{k:Nat}{t:TGs}{n:Nat}(hc:X.calm=true)(h:PGs X es t)
  (hn:(assignEach es X.env).length=n:=by rfl)(hst:(assignEach es X.env).findIdx? (·.1)=none:=by rfl):PG X (.Tuple es k pos) (gTup X.K n t):=by
 intro pins s σ H v u Q I r hw
 obtain⟨a,xs,e1,hq,hl,hw⟩:=hw
 subst e1
 cases r
 obtain⟨its,rv,ht,hz⟩:=I.tuple hq
 refine assign_Tuple_tuple (I.ok.hd hc) ht (by simp [hn,<-hl,rv.length]) hst fun h' hx=>?_
 have I1:Inv X pins σ H {s with heap:=h'}:=I.kept (t':=s.toks) fun b o e=>hx b o (Nat.ne_of_lt (Heap.lt_size e)) e
 exact h pins _ σ H xs _ Q I1 (by simpa using rv) hw
def gSub (to ti:TE)(t:TSet):TG:=fun v σ H Q=>to σ H fun o H1=>ti σ H1 fun i H2=>t o i v H2 fun H3=>Q σ H3
theorem oT {o i:Expr}{to ti:TE}{t:TSet}(ho:PE X o to)(hi:PE X i ti)(hs:PSet X t)
  (ha: ∀v,assign (.Subscript o i pos) X.env v=(do
   let ov<-holding [v] (eval o X.env)
   let iv<-holding [v,ov] (eval i X.env)
   standAt pos
   holding [v,ov,iv] (setItem ov iv v)
   release [v,ov,iv] []):=by intro _;rfl):PG X (.Subscript o i pos) (gSub to ti t):=by
 intro pins s σ H v u Q I r h
 rw[ha]
 refine wpAny_bind (wpAny_holding (thn (ho pins s σ H _ I h) fun ov s1 qz=>?_))
 obtain⟨x,H1,I1,r1,q1⟩:=qz
 refine wpAny_bind (wpAny_holding (thn (hi pins s1 σ H1 _ I1 q1) fun iv s2 qz=>?_))
 obtain⟨y,H2,I2,r2,q2⟩:=qz
 refine wpAny_bind (wpAny_standAt (wpAny_bind (wpAny_holding (thn (hs pins s2 σ H2 x y v ov iv u _ I2 r1 r2 r q2) fun _ s3 qz=>?_))))
 obtain⟨H3,I3,q3⟩:=qz
 exact wpAny_release ⟨σ,H3,I3,q3⟩
def tAsg (te:TE)(g:TG):TS:=fun D σ H=>te σ H fun x H1=>g x σ H1 D.nx
theorem oP {tg e:Expr}{te:TE}{g:TG}(he:PE X e te)(hg:PG X tg g)(hs:swapsWithSole [tg] e pos.line X.env=pure false:=by rfl)(hw:swappedStores [tg] e X.env=pure none:=by rfl)
  (h1:(assignEach [tg] X.env).map (·.2)=[assign tg X.env]:=by rfl):PS X (.Assign [tg] e pos) (tAsg te g):=by
 intro pins s σ H D I h
 refine wpAny_Assign_stores (thn (he pins s σ H _ I h) fun v s1 qz=>?_) hs hw
 obtain⟨x,H1,I1,r1,q1⟩:=qz
 rw[h1]
 exact thn (hg pins s1 σ H1 x v _ I1 r1 q1) fun _ s2 q=>q
theorem sP {i:Nat}{x:Str}{e:Expr}{te:TE}{pos':Pos}(hN:X.N.Nodup)(hi:X.N[i]?=some x)(hx:Loc X.env.scope x)(he:PE X e te)(hs:swapsWith e (some (.Name x pos')) pos.line X.env=pure false:=by rfl)(hf:X.fn x=true\/X.env.scope.names.lookup x=some .local :=by first|exact .inl rfl|exact .inr rfl|assumption):
  PS X (.Assign [.Name x pos'] e pos) (tAsg te (gName i)):=by
 intro pins s σ H D I h
 refine wpAny_Assign_Name (thn (he pins s σ H _ I h) fun v s1 qz=>?_) hs
 obtain⟨y,H1,I1,r1,q1⟩:=qz
 exact jR I1 hN hi hx r1 (fun s2 I2=>⟨_,H1,I2,q1⟩) hf
end
section
variable {X:Cx}{pos:Pos}
end
structure It where
 go:Nat->Hp->Prop
 yld:Nat->Hp->V->Hp->Prop
 stop:Nat->Hp->Prop
def FpOk (X:Cx)(pins:List (Addr×Obj))(H:Hp)(b:Addr):Prop:=
 H b=none/\b≠X.env.locals/\b ∉ X.fs/\(b∈X.ex\/X.s₀.heap.objs.size<=b)/\(∀x c,X.env.cells.lookup x=some c->c≠b)/\ ∀p∈X.pn++pins,p.1≠b
theorem Inv.fpOk {X:Cx}{pins:List (Addr×Obj)}{σ:St}{H H':Hp}{s:Shared}{b:Addr}(I:Inv X pins σ H s)(hb:s.heap.objs.size<=b)(hn:H' b=none):FpOk X pins H' b:=by
 refine⟨hn,Nat.ne_of_gt (Nat.lt_of_lt_of_le I.lt hb),I.nofs hb,.inr (Nat.le_trans I.sz hb),fun x c e z=>?_,fun p hp z=>?_⟩
 ·obtain⟨v,q⟩:=I.cell x c e
  exact absurd (Nat.lt_of_lt_of_le q.lt (by rw[z];exact hb)) (Nat.lt_irrefl _)
 ·exact absurd (Nat.lt_of_lt_of_le (Heap.lt_size (I.pin p hp).1) (by rw[z];exact hb)) (Nat.lt_irrefl _)
structure Turn (P:Program)(w:World)(K:PySem.W.Frag)(tg:Expr)(J:It)(fp:List Addr)(it:Addr)(tn:Nat->Heap->Prop):Prop where
 mem:it∈fp
 obj: ∀i h,tn i h-> ∀b∈fp,∃o,h.get? b=some o/\ ∀v,o.data≠.cell v
 keep: ∀i h h',tn i h->(∀b∈fp,∀o,h.get? b=some o->h'.get? b=some o)->tn i h'
 item: ∀ (X:Cx),X.prog=P->X.w=w->X.K=K->X.calm=true-> ∀ (i:Nat) (pins:List (Addr×Obj)) (s:Shared) (σ:St) (H:Hp) (E:Value->Shared->Prop),Inv X pins σ H s->(∀b∈fp,FpOk X pins H b)->tn i s.heap->J.go i H->
  wpAny (model P w) X.A (pyNext (.ref it)) (fun r s1=> ∃u,r=some u/\
   wpAny (model P w) X.A (letOwnedTupleGo tg (.ref it) u) (fun _ s2=> ∃x H',Inv X pins σ H' s2/\RelV x u/\J.yld i H x H'/\tn (i+1) s2.heap/\ ∀b∈fp,H' b=none) E s1) E s
 done: ∀ (X:Cx),X.prog=P->X.w=w->X.K=K->X.calm=true-> ∀ (i:Nat) (pins:List (Addr×Obj)) (s:Shared) (σ:St) (H:Hp) (E:Value->Shared->Prop),Inv X pins σ H s->(∀b∈fp,FpOk X pins H b)->tn i s.heap->J.stop i H->
  wpAny (model P w) X.A (pyNext (.ref it)) (fun r s1=>r=none/\Inv X pins σ H s1) E s
 self: ∀ (A:Around) (i:Nat) (s:Shared) (Q:Value->Shared->Prop) (E:Value->Shared->Prop),tn i s.heap->Q (.ref it) s->wpAny (model P w) A (pyIter (.ref it)) Q E s
noncomputable abbrev TI:=St->Hp->(It->Hp->Prop)->Prop
def PIE (X:Cx)(pins:List (Addr×Obj))(σ:St)(tg:Expr)(R:It->Hp->Prop)(itv:Value)(s2:Shared):Prop:=
 ∃ (it:Addr) (fp:List Addr) (tn:Nat->Heap->Prop) (J:It) (H':Hp),itv=.ref it/\Inv X pins σ H' s2/\Turn X.prog X.w X.K tg J fp it tn/\tn 0 s2.heap/\(∀b∈fp,FpOk X pins H' b)/\R J H'
def PI (X:Cx)(tg iter:Expr)(wi:TI):Prop:=
 ∀ (pins:List (Addr×Obj)) (s:Shared) (σ:St) (H:Hp) (R:It->Hp->Prop),Inv X pins σ H s->wi σ H R->
   wpAny (model X.prog X.w) X.A (eval iter X.env) (fun v s1=>wpAny (model X.prog X.w) X.A (pyIter v) (PIE X pins σ tg R) X.xe s1) X.xe s
theorem pZ {M:Model}{A:Around}{E:Value->Shared->Prop}{s:Shared}{tg:Expr}{it:Addr}{u:Value}{o:Obj}{n:String}{vs:Array Value}{Q:Unit->Shared->Prop}(ho:s.heap.get? it=some o)(hc:o.cls=.type n)(hd:o.data=.fields vs)
  (hn:["enumerate", "zip", "dict_itemiterator", "dict_reverseitemiterator", "odict_iterator", "itertools.zip_longest", "itertools.pairwise"].contains n=false)(hQ:Q () s):wpAny M A (letOwnedTupleGo tg (.ref it) u) Q E s:=by
 unfold letOwnedTupleGo
 cases tg<;>first
  |exact wpAny_pure hQ
  |(cases u<;>first
   |exact wpAny_pure hQ
   |(refine wpAny_bind (wpAny_load ho ?_)
     rw[hc,hd]
     show wpAny M A (if (["enumerate", "zip", "dict_itemiterator", "dict_reverseitemiterator", "odict_iterator", "itertools.zip_longest", "itertools.pairwise"].contains n && vs[0]?==some (rawInt _))=true then _ else _) Q E s
     rw[if_neg (by intro h;rw[hn,Bool.false_and] at h;cases h)]
     exact wpAny_pure hQ))
def Itl (K:PySem.W.Frag)(a:Addr):It:=
 ⟨fun i H=> ∃xs x,SqL K H a xs/\xs[i]?=some x,fun i H x H'=>H'=H/\ ∀xs,SqL K H a xs->xs[i]?=some x,fun i H=> ∃xs,SqL K H a xs/\xs.length<=i⟩
def Itt (K:PySem.W.Frag)(a:Addr):It:=
 ⟨fun i H=> ∃xs x,SqT K H a xs/\xs[i]?=some x,fun i H x H'=>H'=H/\ ∀xs,SqT K H a xs->xs[i]?=some x,fun i H=> ∃xs,SqT K H a xs/\xs.length<=i⟩
noncomputable def Itr (lo:Int)(n:Nat):It:=⟨fun i _=>i<n,fun i H x H'=>H'=H/\x=.int (lo+i),fun i _=>n<=i⟩
theorem mY {P:Program}{w:World}{K:PySem.W.Frag}{tg:Expr}(a it:Addr):Turn P w K tg (Itl K a) [it] it (fun i h=>h.IsListIter it a i) where
 mem:=by simp
 obj:=fun i h st b hb=>by
  have e:b=it:=by simpa using hb
  subst e
  obtain⟨o,e,c,d⟩:=st
  exact⟨o,e,fun v z=>by rw[d] at z;cases z⟩
 keep:=fun i h h' st k=>st.at fun o e=>k it (by simp) o e
 item:=by
  intro X hP hw hK hc i pins s σ H E I hf st hg
  subst hP hw hK
  obtain⟨xs,x,hq,hx⟩:=hg
  obtain⟨its,rv,p,hz⟩:=I.list hq
  obtain⟨u,hu,ru⟩:=rv.get hx
  obtain⟨f0,f1,f2,f3,f4,f5⟩:=hf it (by simp)
  refine wpAny_pyNext_list_item st p.isList (x:=u) (by simpa using hu) fun h' st' sb=>?_
  have I1:Inv X pins σ H {s with heap:=h'}:=I.turned (t':=s.toks) (fun b o hb e=>(sb.2 b hb).trans e) f0 f1 f3 f4 f5
  obtain⟨o,e,c,d⟩:=id st'
  exact⟨u,rfl,pZ (s:={s with heap:=h'}) e c d (by decide) ⟨x,H,I1,ru,⟨rfl,fun ys hy=>by rw[I.list_inj hy hq];exact hx⟩,st',fun b hb=>(hf b hb).1⟩⟩
 done:=by
  intro X hP hw hK hc i pins s σ H E I hf st hg
  subst hP hw hK
  obtain⟨xs,hq,hx⟩:=hg
  obtain⟨its,rv,p,hz⟩:=I.list hq
  obtain⟨f0,f1,f2,f3,f4,f5⟩:=hf it (by simp)
  have hl:=rv.length
  exact wpAny_pyNext_list_end (I.ok.hd hc) st p.isList (by simp;omega) fun h' eb=>⟨rfl,I.turned (t':=s.toks) (fun b o hb e=>eb b o hb e) f0 f1 f3 f4 f5⟩
 self:=fun _ _ _ _ _ st h=>wpAny_pyIter_listiter st h
theorem kW {P:Program}{w:World}{K:PySem.W.Frag}{tg:Expr}(a it:Addr):Turn P w K tg (Itt K a) [it] it (fun i h=>h.IsTupleIter it a i) where
 mem:=by simp
 obj:=fun i h st b hb=>by
  have e:b=it:=by simpa using hb
  subst e
  obtain⟨o,e,c,d⟩:=st
  exact⟨o,e,fun v z=>by rw[d] at z;cases z⟩
 keep:=fun i h h' st k=>st.at fun o e=>k it (by simp) o e
 item:=by
  intro X hP hw hK hc i pins s σ H E I hf st hg
  subst hP hw hK
  obtain⟨xs,x,hq,hx⟩:=hg
  obtain⟨its,rv,p,hz⟩:=I.tuple hq
  obtain⟨u,hu,ru⟩:=rv.get hx
  obtain⟨f0,f1,f2,f3,f4,f5⟩:=hf it (by simp)
  refine wpAny_pyNext_tuple_item st (show s.heap.IsTuple a its.toArray from p) (x:=u) (by simpa using hu) fun h' st' sb=>?_
  have I1:Inv X pins σ H {s with heap:=h'}:=I.turned (t':=s.toks) (fun b o hb e=>(sb.2 b hb).trans e) f0 f1 f3 f4 f5
  obtain⟨o,e,c,d⟩:=id st'
  exact⟨u,rfl,pZ (s:={s with heap:=h'}) e c d (by decide) ⟨x,H,I1,ru,⟨rfl,fun ys hy=>by rw[I.tuple_inj hy hq];exact hx⟩,st',fun b hb=>(hf b hb).1⟩⟩
 done:=by
  intro X hP hw hK hc i pins s σ H E I hf st hg
  subst hP hw hK
  obtain⟨xs,hq,hx⟩:=hg
  obtain⟨its,rv,p,hz⟩:=I.tuple hq
  obtain⟨f0,f1,f2,f3,f4,f5⟩:=hf it (by simp)
  have hl:=rv.length
  exact wpAny_pyNext_tuple_end (I.ok.hd hc) st (show s.heap.IsTuple a its.toArray from p) (by simp;omega) fun h' eb=>⟨rfl,I.turned (t':=s.toks) (fun b o hb e=>eb b o hb e) f0 f1 f3 f4 f5⟩
 self:=fun _ _ _ _ _ st h=>wpAny_pyIter_tupleiter st h
theorem kX {P:Program}{w:World}{K:PySem.W.Frag}{tg:Expr}(it:Addr)(lo:Int)(n:Nat):Turn P w K tg (Itr lo n) [it] it (fun i h=>IsRangeIter h it (lo+(i:Nat) * 1) ((n:Int) - (i:Nat)) 1) where
 mem:=by simp
 obj:=fun i h st b hb=>by
  have e:b=it:=by simpa using hb
  subst e
  exact⟨_,st,fun v z=>by
   have z':Data.fields _=Data.cell v:=z
   cases z'⟩
 keep:=fun i h h' st k=>k it (by simp) _ st
 item:=by
  intro X hP hw hK hc i pins s σ H E I hf st hg
  subst hP hw hK
  obtain⟨f0,f1,f2,f3,f4,f5⟩:=hf it (by simp)
  have W:=Walks.range (prog:=X.prog) (w:=X.w) (I.ok.hd hc) it lo 1 n
  refine W.item i s _ _ hg st fun v h' tk hv st' kk=>?_
  obtain⟨t,rfl⟩:=hv
  have I1:Inv X pins σ H {s with heap:=h',toks:=tk}:=I.turned (fun b o hb e=>kk b o (by simpa using hb) e) f0 f1 f3 f4 f5
  refine⟨_,rfl,pZ (s:={s with heap:=h',toks:=tk}) (n:= "range_iterator") st' rfl rfl (by decide) ⟨.int (lo+i),H,I1,⟨t,?_⟩,⟨rfl,rfl⟩,st',fun b hb=>(hf b hb).1⟩⟩
  rw[Int.mul_one]
 done:=by
  intro X hP hw hK hc i pins s σ H E I hf st hg
  subst hP hw hK
  obtain⟨f0,f1,f2,f3,f4,f5⟩:=hf it (by simp)
  exact wpAny_pyNext_range_end (I.ok.hd hc) st (by have:n<=i:=hg;omega) fun h' eb=>⟨rfl,I.turned (t':=s.toks) (fun b o hb e=>eb b o hb e) f0 f1 f3 f4 f5⟩
 self:=fun _ _ _ _ _ st h=>wpAny_pyIter_rangeiter st h
end L2
namespace L2
open PySem PySem.Spec PyProof.Rows
section
variable {X:Cx}{tg:Expr}
def iList (K:PySem.W.Frag)(tl:TE):TI:=fun σ H R=>tl σ H fun x H1=> ∃a,x=.ref a/\(∃xs,SqL K H1 a xs)/\R (Itl K a) H1
def iTup (K:PySem.W.Frag)(tl:TE):TI:=fun σ H R=>tl σ H fun x H1=> ∃a,x=.ref a/\(∃xs,SqT K H1 a xs)/\R (Itt K a) H1
theorem qM {l:Expr}{tl:TE}(hl:PE X l tl):PI X tg l (iList X.K tl):=by
 intro pins s σ H R I h
 refine thn (hl pins s σ H _ I h) fun v s1 qz=>?_
 obtain⟨x,H1,I1,r1,q1⟩:=qz
 obtain⟨a,e,⟨xs,hq⟩,q⟩:=q1
 subst e
 cases r1
 obtain⟨its,rv,p,hz⟩:=I1.list hq
 refine wpAny_pyIter_list p.isList ?_
 refine⟨s1.heap.objs.size,[s1.heap.objs.size],_,_,H1,rfl,I1.kept (t':=s1.toks) fun b o e=>Heap.get?_push_of_some _ e,mY a _,⟨_,Heap.get?_push_size _ rfl,rfl,rfl⟩,fun b hb=>?_,q⟩
 have e:b=s1.heap.objs.size:=by simpa using hb
 subst e
 exact I1.fpOk (Nat.le_refl _) (I1.hok.fresh (Nat.le_refl _))
theorem sT {l:Expr}{tl:TE}(hl:PE X l tl):PI X tg l (iTup X.K tl):=by
 intro pins s σ H R I h
 refine thn (hl pins s σ H _ I h) fun v s1 qz=>?_
 obtain⟨x,H1,I1,r1,q1⟩:=qz
 obtain⟨a,e,⟨xs,hq⟩,q⟩:=q1
 subst e
 cases r1
 obtain⟨its,rv,p,hz⟩:=I1.tuple hq
 refine wpAny_pyIter_tuple (show s1.heap.IsTuple a its.toArray from p) ?_
 refine⟨s1.heap.objs.size,[s1.heap.objs.size],_,_,H1,rfl,I1.kept (t':=s1.toks) fun b o e=>Heap.get?_push_of_some _ e,kW a _,⟨_,Heap.get?_push_size _ rfl,rfl,rfl⟩,fun b hb=>?_,q⟩
 have e:b=s1.heap.objs.size:=by simpa using hb
 subst e
 exact I1.fpOk (Nat.le_refl _) (I1.hok.fresh (Nat.le_refl _))
theorem j1 {pins:List (Addr×Obj)}{σ:St}{H:Hp}{s:Shared}{R:It->Hp->Prop}{E:Value->Shared->Prop}{lo hi:Int}{t u v:Tok}{tk:Nat}(I:Inv X pins σ H s)(h1: -(2 ^ 62)<=lo)(h2:lo<2 ^ 62)(h3: -(2 ^ 62)<=hi)(h4:hi<2 ^ 62)
  (q:R (Itr lo (hi - lo).toNat) H):wpAny (model X.prog X.w) X.A (pyIter (.ref s.heap.objs.size)) (PIE X pins σ tg R) E {s with heap:=s.heap.push {cls:=.type "range",data:=.fields #[.int lo t,.int hi u,.int 1 v]},toks:=tk}:=by
 refine wpAny_pyIter_range (IsRange.new ..) (small_one h1 h2 h3 h4) ?_
 have I1:Inv X pins σ H {s with heap:=s.heap.push {cls:=.type "range",data:=.fields #[.int lo t,.int hi u,.int 1 v]},toks:=tk}:=I.kept fun b o e=>Heap.get?_push_of_some _ e
 refine⟨(s.heap.push {cls:=.type "range",data:=.fields #[.int lo t,.int hi u,.int 1 v]}).objs.size,[(s.heap.push {cls:=.type "range",data:=.fields #[.int lo t,.int hi u,.int 1 v]}).objs.size],_,_,H,rfl,
  I1.kept (t':=tk) fun b o e=>Heap.get?_push_of_some _ e,kX _ lo (hi - lo).toNat,?_,fun b hb=>?_,q⟩
 ·have e1:lo+((0:Nat):Int) * 1=lo:=by simp
  have e2:(((hi - lo).toNat:Nat):Int) - ((0:Nat):Int)=Builtin.Range.rangeSize lo hi 1:=by rw[rangeSize_one];split<;>omega
  show IsRangeIter _ _ (lo+((0:Nat):Int) * 1) ((((hi - lo).toNat:Nat):Int) - ((0:Nat):Int)) 1
  rw[e1,e2]
  exact Heap.get?_push_size _ rfl
 ·have e:b=(s.heap.push {cls:=.type "range",data:=.fields #[.int lo t,.int hi u,.int 1 v]}).objs.size:=by simpa using hb
  subst e
  exact I1.fpOk (Nat.le_refl _) (I1.hok.fresh (Nat.le_refl _))
def iRng1 (ta:TA):TI:=fun σ H R=>ta σ H fun vs H1=> ∃j:Int,vs=[.int j]/\ -(2 ^ 62)<=j/\j<2 ^ 62/\R (Itr 0 j.toNat) H1
def iRng2 (ta:TA):TI:=fun σ H R=>ta σ H fun vs H1=> ∃i j:Int,vs=[.int i,.int j]/\(-(2 ^ 62)<=i/\i<2 ^ 62/\ -(2 ^ 62)<=j/\j<2 ^ 62)/\R (Itr i (j - i).toNat) H1
theorem nB {a:Expr}{ta:TA}{p pos:Pos}(hg:Gl X "range")(hm:X.mg "range"=none)(ha:PA X [a] ta)(hs:starEach [a] X.env=[(false,eval a X.env)]:=by rfl):PI X tg (.Call (.Name "range" p) [a] [] pos) (iRng1 ta):=by
 intro pins s σ H R I h
 refine Call_ (dj I hg hm boot_range (PyProof.Rows.callWith_type1 (thn (ha pos pins s σ H _ I h) fun us s1 qz=>?_) hs rfl))
 obtain⟨vs,H1,I1,r1,q1⟩:=qz
 obtain⟨j,e,q1,q2,q⟩:=q1
 subst e
 cases r1 with
 |cons r rr=>
  cases rr
  obtain⟨t,rfl⟩:=r
  exact call_range_1 (j1 I1 (by omega) (by omega) q1 q2 (by simpa using q))
theorem nA {a b:Expr}{ta:TA}{p pos:Pos}(hg:Gl X "range")(hm:X.mg "range"=none)(ha:PA X [a,b] ta)(hs:starEach [a,b] X.env=[(false,eval a X.env),(false,eval b X.env)]:=by rfl)(hs2:starEach [b] X.env=[(false,eval b X.env)]:=by rfl):
  PI X tg (.Call (.Name "range" p) [a,b] [] pos) (iRng2 ta):=by
 intro pins s σ H R I h
 refine Call_ (dj I hg hm boot_range (PyProof.Rows.callWith_type1 (thn (ha pos pins s σ H _ I h) fun us s1 qz=>?_) (by rw[hs,hs2]) (by rw[hs2];rfl)))
 obtain⟨vs,H1,I1,r1,q1⟩:=qz
 obtain⟨i,j,e,⟨q1,q2,q3,q4⟩,q⟩:=q1
 subst e
 cases r1 with
 |cons r rr=>
  cases rr with
  |cons r' rr=>
   cases rr
   obtain⟨t,rfl⟩:=r
   obtain⟨t',rfl⟩:=r'
   exact call_range_2 (j1 I1 q1 q2 q3 q4 q)
def tFor (wi:TI)(g:TG)(tb:TS):TS:=fun D σ H=>wi σ H fun J H1=> ∃W:Nat->Nat->St->Hp->Prop,(∃m,W 0 m σ H1)/\ ∀i m σ H,W i m σ H->
 (J.stop i H/\D.nx σ H)\/(J.go i H/\ ∃N:St->Hp->Prop,(∀σ' H',N σ' H'-> ∃m',m'<m/\W (i+1) m' σ' H')/\ ∀x H',J.yld i H x H'->g x σ H' fun σ2 H2=>tb {D with nx:=N,ct:=N,bk:=D.nx} σ2 H2)
noncomputable def g9 (fp:List Addr)(h:Heap):List (Addr×Obj):=fp.filterMap fun b=>(h.get? b).map fun o=>(b,o)
theorem eZ {fp:List Addr}{h:Heap}{b:Addr}{o:Obj}(hb:b∈fp)(e:h.get? b=some o):(b,o)∈g9 fp h:=List.mem_filterMap.mpr ⟨b,hb,by rw[e];rfl⟩
theorem nC {fp:List Addr}{h:Heap}{p:Addr×Obj}(hp:p∈g9 fp h):p.1∈fp/\h.get? p.1=some p.2:=by
 obtain⟨b,hb,e⟩:=List.mem_filterMap.mp hp
 cases q:h.get? b with
 |none=>rw[q] at e;cases e
 |some o=>
  rw[q] at e
  have e':(b,o)=p:=Option.some.inj e
  subst e'
  exact⟨hb,q⟩
theorem Inv.pinned {pins:List (Addr×Obj)}{σ:St}{H:Hp}{s:Shared}{fp:List Addr}(I:Inv X pins σ H s)(hf: ∀b∈fp,FpOk X pins H b)(ho: ∀b∈fp,∃o,s.heap.get? b=some o/\ ∀v,o.data≠.cell v):Inv X (pins++g9 fp s.heap) σ H s:=
 I.pins_of fun p hp=>(List.mem_append.mp hp).elim (fun z=>I.pin p (List.mem_append_right _ z)) fun z=>by
  obtain⟨hb,e⟩:=nC z
  obtain⟨f0,f1,f2,_⟩:=hf p.1 hb
  obtain⟨o,e',d⟩:=ho p.1 hb
  rw[e] at e';cases e'
  exact⟨e,f0,f1,f2,d⟩
theorem Inv.unpinned {pins pl:List (Addr×Obj)}{σ:St}{H:Hp}{s:Shared}(I:Inv X (pins++pl) σ H s):Inv X pins σ H s:=I.pins_of fun p hp=>I.pin p (List.mem_append_right _ (List.mem_append_left _ hp))
theorem sR {iter:Expr}{body:List Stmt}{wi:TI}{g:TG}{tb:TS}{pos:Pos}(hp:PassesOwn (model X.prog X.w) X.A X.env X.xe)(hc:X.calm=true)(hi:PI X tg iter wi)(hg:PG X tg g)(hb:PSs X body tb)
  (hs: ∀x,foldedSetIterable iter X.env x=pure x:=by intro _;rfl):PS X (.For tg iter body [] pos) (tFor wi g tb):=by
 intro pins s σ H D I h
 refine wpAny_For (thn (hi pins s σ H _ I h) fun v s1 h1=>thn h1 fun itv s2 h2=>?_) hs
 obtain⟨it,fp,tn,J,H2,e,I2,T,st2,f2,W,⟨m0,w0⟩,turn⟩:=h2
 subst e
 have stat: ∀ {H':Hp},(∀b∈fp,H' b=none)-> ∀b∈fp,FpOk X pins H' b:=fun hn b hb=>⟨hn b hb,(f2 b hb).2⟩
 refine codeAny_forLoop_any (fun n s'=> ∃i σ' H',Inv X pins σ' H' s'/\tn i s'.heap/\(∀b∈fp,H' b=none)/\W i n σ' H') ?_ m0 ⟨0,σ,H2,I2,st2,fun b hb=>(f2 b hb).1,w0⟩
 rintro n s3 ⟨i,σ3,H3,I3,st3,fr3,w3⟩
 rcases turn i n σ3 H3 w3 with⟨stop,qn⟩|⟨go,N,hN,step⟩
 ·refine wpAny_passesOwn hp (thn (T.done X rfl rfl rfl hc i pins s3 σ3 H3 X.xe I3 (stat fr3) st3 stop) fun r s4 qz=>?_)
  obtain⟨hr,I4⟩:=qz
  subst hr
  exact wpAny_execs_nil ⟨σ3,H3,I4,qn⟩
 ·refine wpAny_passesOwn hp (thn (T.item X rfl rfl rfl hc i pins s3 σ3 H3 X.xe I3 (stat fr3) st3 go) fun r s4 qz=>?_)
  obtain⟨u,hr,h4⟩:=qz
  subst hr
  refine wpAny_passesOwn hp (thn h4 fun _ s5 qz=>?_)
  obtain⟨x,H5,I5,r5,y5,st5,fr5⟩:=qz
  have I5':=I5.pinned (stat fr5) (T.obj _ _ st5)
  refine wpAny_passesOwn hp (thn (hg _ s5 σ3 H5 x u _ I5' r5 (step x H5 y5)) fun _ s6 qz=>?_)
  obtain⟨σ6,H6,I6,q6⟩:=qz
  refine wpAny_passesOwn hp (thn (hb _ s6 σ6 H6 _ I6 q6) fun f s7 q7=>?_)
  have again: ∀ {σ7:St}{H7:Hp},Inv X (pins++g9 fp s5.heap) σ7 H7 s7->N σ7 H7-> ∃m,m<n/\ ∃i σ' H',Inv X pins σ' H' s7/\tn i s7.heap/\(∀b∈fp,H' b=none)/\W i m σ' H':=fun{σ7 H7} I7 n7=>by
   obtain⟨m',hm,w7⟩:=hN σ7 H7 n7
   refine⟨m',hm,i+1,σ7,H7,I7.unpinned,T.keep _ _ _ st5 fun b hb o e=>(I7.pin (b,o) (List.mem_append_right _ (List.mem_append_right _ (eZ hb e)))).1,fun b hb=>?_,w7⟩
   obtain⟨o,e,d⟩:=T.obj _ _ st5 b hb
   exact (I7.pin (b,o) (List.mem_append_right _ (List.mem_append_right _ (eZ hb e)))).2.1
  cases f with
  |next=>obtain⟨σ7,H7,I7,n7⟩:=q7;exact again I7 n7
  |cont=>obtain⟨σ7,H7,I7,n7⟩:=q7;exact again I7 n7
  |brk=>obtain⟨σ7,H7,I7,q7⟩:=q7;exact⟨σ7,H7,I7.unpinned,q7⟩
  |ret v=>obtain⟨x7,σ7,H7,I7,r7,q7⟩:=q7;exact⟨x7,σ7,H7,I7.unpinned,r7,q7⟩
end
end L2
namespace L2
open PySem PySem.Spec PyProof.Rows
noncomputable abbrev R2:=V->V->Hp->VK->Prop
def OpR (X:Cx)(f:Value->Value->Sem Value)(r:R2):Prop:=
 ∀ (pins:List (Addr×Obj)) (s:Shared) (σ:St) (H:Hp) (x y:V) (v u:Value) (Q:VK),Inv X pins σ H s->RelV x v->RelV y u->r x y H Q->
   wpAny (model X.prog X.w) X.A (f v u) (EP X pins σ Q) X.xe s
def CallR (X:Cx)(f:Value)(r:List V->Hp->VK->Prop):Prop:=
 ∀ (pins:List (Addr×Obj)) (s:Shared) (σ:St) (H:Hp) (xs:List V) (us:List Value) (Q:VK),Inv X pins σ H s->Vals xs us->r xs H Q->
   wpAny (model X.prog X.w) X.A (call f us) (EP X pins σ Q) X.xe s
def tOp (r:R2)(ta tb:TE):TE:=fun σ H Q=>ta σ H fun x H1=>tb σ H1 fun y H2=>r x y H2 Q
def rI (C:Int->Int->Prop)(g:Int->Int->V):R2:=fun x y H Q=> ∃i j,x=.int i/\y=.int j/\C i j/\Q (g i j) H
def rI0 (g:Int->Int->V):R2:=fun x y H Q=> ∃i j,x=.int i/\y=.int j/\Q (g i j) H
section
variable {X:Cx}{a b c:Expr}{ta tb tc:TE}{pos:Pos}
theorem binT (ha:PE X a ta)(hb:PE X b tb){pins:List (Addr×Obj)}{s:Shared}{σ:St}{H:Hp}{R:V->V->Hp->Prop}(I:Inv X pins σ H s)
  (h:ta σ H fun x H1=>tb σ H1 fun y H2=>R x y H2){Q:Value->Shared->Prop}{f:Value->Value->Sem Value}
  (hf: ∀v u s2 x y H2,Inv X pins σ H2 s2->RelV x v->RelV y u->R x y H2->wpAny (model X.prog X.w) X.A (f v u) Q X.xe s2):
  wpAny (model X.prog X.w) X.A (eval a X.env) (fun v s₁=>wpAny (model X.prog X.w) X.A (eval b X.env) (fun u s₂=>wpAny (model X.prog X.w) X.A (f v u) Q X.xe s₂) X.xe s₁) X.xe s:=by
 refine thn (ha pins s σ H _ I h) fun v s1 qz=>?_
 obtain⟨x,H1,I1,r1,q1⟩:=qz
 refine thn (hb pins s1 σ H1 _ I1 q1) fun u s2 qz=>?_
 obtain⟨y,H2,I2,r2,q2⟩:=qz
 exact hf v u s2 x y H2 I2 r1 r2 q2
theorem uF {op:Operator}{r:R2}(ho:OpR X (binaryOp op) r)(ha:PE X a ta)(hb:PE X b tb):PE X (.BinOp a op b pos) (tOp r ta tb):=by
 intro pins s σ H Q I h
 exact wpAny_BinOp (binT ha hb I h fun v u s2 x y H2 I2 rx ry q=>ho pins s2 σ H2 x y v u Q I2 rx ry q)
theorem opI {f:Value->Value->Sem Value}{C:Int->Int->Prop}{g:Int->Int->Int}
  (rule: ∀ (i j:Int) (t u:Tok) (s:Shared) (Q:Value->Shared->Prop) (E:Value->Shared->Prop),C i j->Q (.int (g i j) s.toks) {s with toks:=s.toks+1}->wpAny (model X.prog X.w) X.A (f (.int i t) (.int j u)) Q E s):
  OpR X f (rI C fun i j=>.int (g i j)):=by
 intro pins s σ H x y v u Q I rx ry h
 obtain⟨i,j,rfl,rfl,hc,q⟩:=h
 obtain⟨t,rfl⟩:=rx
 obtain⟨t',rfl⟩:=ry
 exact rule i j t t' s _ _ hc ⟨.int (g i j),H,I.tok _,⟨_,rfl⟩,q⟩
theorem opI0 {f:Value->Value->Sem Value}{g:Int->Int->Int}
  (rule: ∀ (i j:Int) (t u:Tok) (s:Shared) (Q:Value->Shared->Prop) (E:Value->Shared->Prop),Q (.int (g i j) s.toks) {s with toks:=s.toks+1}->wpAny (model X.prog X.w) X.A (f (.int i t) (.int j u)) Q E s):
  OpR X f (rI0 fun i j=>.int (g i j)):=by
 intro pins s σ H x y v u Q I rx ry h
 obtain⟨i,j,rfl,rfl,q⟩:=h
 obtain⟨t,rfl⟩:=rx
 obtain⟨t',rfl⟩:=ry
 exact rule i j t t' s _ _ ⟨.int (g i j),H,I.tok _,⟨_,rfl⟩,q⟩
theorem opB0 {f:Value->Value->Sem Value}{g:Int->Int->Bool}
  (rule: ∀ (i j:Int) (t u:Tok) (s:Shared) (Q:Value->Shared->Prop) (E:Value->Shared->Prop),Q (.bool (g i j)) s->wpAny (model X.prog X.w) X.A (f (.int i t) (.int j u)) Q E s):
  OpR X f (rI0 fun i j=>.bl (g i j)):=by
 intro pins s σ H x y v u Q I rx ry h
 obtain⟨i,j,rfl,rfl,q⟩:=h
 obtain⟨t,rfl⟩:=rx
 obtain⟨t',rfl⟩:=ry
 exact rule i j t t' s _ _ ⟨.bl (g i j),H,I,rfl,q⟩
noncomputable def CPow (i j:Int):Prop:=0<=j/\j<=1000000/\i.natAbs<2 ^ 64
noncomputable def CMul (i j:Int):Prop:=(-(2 ^ 64)<i/\i<2 ^ 64)\/(-(2 ^ 64)<j/\j<2 ^ 64)
theorem CMul.ok {i j:Int}(h:CMul i j):IntMulOk i j:=by
 rcases h with⟨h1,h2⟩|⟨h1,h2⟩
 ·exact .of_left (intBits_le_64 h1 h2)
 ·exact .of_right (intBits_le_64 h1 h2)
theorem op_add:OpR X (binaryOp .Add) (rI0 fun i j=>.int (i+j)):=opI0 fun _ _ _ _ _ _ _ q=>add_int q
theorem tm:OpR X (binaryOp .Mod) (rI (fun _ j=>0<j) fun i j=>.int (i % j)):=opI fun i j _ _ _ _ _ hc q=>by
 have h1:(0:Int)<j:=hc
 exact mod_int' (by omega) (by rw[Int.fmod_eq_emod_of_nonneg i (by omega)];exact q)
theorem tf:OpR X (binaryOp .Pow) (rI CPow fun i j=>.int (i ^ j.toNat)):=opI fun _ _ _ _ _ _ _ hc q=>pow_int_small hc.1 hc.2.1 hc.2.2 q
end
noncomputable def scal:V->V->Bool
 |.non,.non=>true|.non,.int _=>true|.int _,.non=>true|.non,.bl _=>true|.bl _,.non=>true|.non,.str _=>true|.str _,.non=>true
 |.int _,.int _=>true|.bl _,.bl _=>true|.str _,.str _=>true|.byt _,.byt _=>true
 |.int _,.str _=>true|.str _,.int _=>true|.bl _,.str _=>true|.str _,.bl _=>true
 |_,_=>false
def rEq:R2:=fun x y H Q=>scal x y=true/\Q (.bl (decide (x=y))) H
def rNe:R2:=fun x y H Q=>scal x y=true/\Q (.bl (!decide (x=y))) H
theorem mN {i j:Int}:decide (V.int i=V.int j)=(i==j):=by
 rw[Bool.eq_iff_iff]
 simp
theorem qe {i j:Bool}:decide (V.bl i=V.bl j)=(i==j):=by
 rw[Bool.eq_iff_iff]
 simp
theorem mM {i j:Str}:decide (V.str i=V.str j)=(i==j):=by
 rw[Bool.eq_iff_iff]
 simp
theorem mO {i j:Array UInt8}:decide (V.byt i=V.byt j)=(i.toList==j.toList):=by
 rw[Bool.eq_iff_iff]
 cases i
 cases j
 simp
section
variable {X:Cx}{a b c:Expr}{ta tb tc:TE}{pos:Pos}
theorem aM {pins:List (Addr×Obj)}{σ:St}{H:Hp}{s:Shared}{Q:VK}{k k':Bool}(I:Inv X pins σ H s)(q:Q (.bl k) H)(e:k=k'):EP X pins σ Q (.bool k') s:=by
 subst e
 exact⟨.bl k,H,I,rfl,q⟩
theorem op_eq:OpR X (compareOp .Eq) rEq:=by
 intro pins s σ H x y v u Q I rx ry h
 obtain⟨hs,q⟩:=h
 cases x with
 |non=>
  cases rx
  cases y with
  |non=>cases ry;exact PySem.EqNone.eq_none_none (aM I q (by simp))
  |bl j=>cases ry;exact PySem.EqNone.eq_none_bool (aM I q (by simp))
  |int j=>obtain⟨t',rfl⟩:=ry;exact PySem.EqNone.eq_none_int (aM I q (by simp))
  |str j=>obtain⟨t',rfl⟩:=ry;exact PySem.EqNone.eq_none_str (aM I q (by simp))
  |_=>exact absurd (show false=true from hs) Bool.false_ne_true
 |bl i=>
  cases rx
  cases y with
  |non=>cases ry;exact PySem.EqNone.eq_bool_none (aM I q (by simp))
  |bl j=>cases ry;exact eq_bool (aM I q qe)
  |str j=>obtain⟨t',rfl⟩:=ry;exact PySem.EqMixed.eq_bool_str (aM I q (by simp))
  |_=>exact absurd (show false=true from hs) Bool.false_ne_true
 |int i=>
  obtain⟨t,rfl⟩:=rx
  cases y with
  |non=>cases ry;exact PySem.EqNone.eq_int_none (aM I q (by simp))
  |int j=>obtain⟨t',rfl⟩:=ry;exact eq_int (aM I q mN)
  |str j=>obtain⟨t',rfl⟩:=ry;exact PySem.EqMixed.eq_int_str (aM I q (by simp))
  |_=>exact absurd (show false=true from hs) Bool.false_ne_true
 |str i=>
  obtain⟨t,rfl⟩:=rx
  cases y with
  |non=>cases ry;exact PySem.EqNone.eq_str_none (aM I q (by simp))
  |bl j=>cases ry;exact PySem.EqMixed.eq_str_bool (aM I q (by simp))
  |int j=>obtain⟨t',rfl⟩:=ry;exact PySem.EqMixed.eq_str_int (aM I q (by simp))
  |str j=>obtain⟨t',rfl⟩:=ry;exact eq_str (aM I q mM)
  |_=>exact absurd (show false=true from hs) Bool.false_ne_true
 |byt i=>
  obtain⟨t,rfl⟩:=rx
  cases y with
  |byt j=>obtain⟨t',rfl⟩:=ry;exact PySem.W.eq_bytes (aM I q mO)
  |_=>exact absurd (show false=true from hs) Bool.false_ne_true
 |_=>cases y<;>exact absurd (show false=true from hs) Bool.false_ne_true
theorem op_ne:OpR X (compareOp .NotEq) rNe:=by
 intro pins s σ H x y v u Q I rx ry h
 obtain⟨hs,q⟩:=h
 cases x with
 |non=>
  cases rx
  cases y with
  |non=>cases ry;exact PySem.EqNone.ne_none_none (aM I q (by simp))
  |bl j=>cases ry;exact PySem.EqNone.ne_none_bool (aM I q (by simp))
  |int j=>obtain⟨t',rfl⟩:=ry;exact PySem.EqNone.ne_none_int (aM I q (by simp))
  |str j=>obtain⟨t',rfl⟩:=ry;exact PySem.EqNone.ne_none_str (aM I q (by simp))
  |_=>exact absurd (show false=true from hs) Bool.false_ne_true
 |bl i=>
  cases rx
  cases y with
  |non=>cases ry;exact PySem.EqNone.ne_bool_none (aM I q (by simp))
  |bl j=>cases ry;exact ne_bool (aM I q (congrArg not qe))
  |str j=>obtain⟨t',rfl⟩:=ry;exact PySem.EqMixed.ne_bool_str (aM I q (by simp))
  |_=>exact absurd (show false=true from hs) Bool.false_ne_true
 |int i=>
  obtain⟨t,rfl⟩:=rx
  cases y with
  |non=>cases ry;exact PySem.EqNone.ne_int_none (aM I q (by simp))
  |int j=>obtain⟨t',rfl⟩:=ry;exact ne_int (aM I q (congrArg not mN))
  |str j=>obtain⟨t',rfl⟩:=ry;exact PySem.EqMixed.ne_int_str (aM I q (by simp))
  |_=>exact absurd (show false=true from hs) Bool.false_ne_true
 |str i=>
  obtain⟨t,rfl⟩:=rx
  cases y with
  |non=>cases ry;exact PySem.EqNone.ne_str_none (aM I q (by simp))
  |bl j=>cases ry;exact PySem.EqMixed.ne_str_bool (aM I q (by simp))
  |int j=>obtain⟨t',rfl⟩:=ry;exact PySem.EqMixed.ne_str_int (aM I q (by simp))
  |str j=>obtain⟨t',rfl⟩:=ry;exact ne_str (aM I q (congrArg not mM))
  |_=>exact absurd (show false=true from hs) Bool.false_ne_true
 |byt i=>
  obtain⟨t,rfl⟩:=rx
  cases y with
  |byt j=>obtain⟨t',rfl⟩:=ry;exact PySem.W.ne_bytes (aM I q (congrArg not mO))
  |_=>exact absurd (show false=true from hs) Bool.false_ne_true
 |_=>cases y<;>exact absurd (show false=true from hs) Bool.false_ne_true
theorem uI:OpR X (compareOp .Lt) (rI0 fun i j=>.bl (decide (i<j))):=opB0 fun _ _ _ _ _ _ _ q=>lt_int q
theorem uJ:OpR X (compareOp .GtE) (rI0 fun i j=>.bl (decide (j<=i))):=opB0 fun _ _ _ _ _ _ _ q=>ge_int q
theorem OpR.or {f:Value->Value->Sem Value}{r r':R2}(h:OpR X f r)(h':OpR X f r'):OpR X f (fun x y H Q=>r x y H Q\/r' x y H Q):=by
 intro pins s σ H x y v u Q I rx ry q
 rcases q with q|q
 ·exact h pins s σ H x y v u Q I rx ry q
 ·exact h' pins s σ H x y v u Q I rx ry q
theorem aN (b:Expr){op:CmpOp}(h:op≠.In:=by decide)(h2:op≠.NotIn:=by decide):behindInMarks op b=false:=by
 have e1:(op==CmpOp.In)=false:=by cases op<;>first|rfl|exact absurd rfl h
 have e2:(op==CmpOp.NotIn)=false:=by cases op<;>first|rfl|exact absurd rfl h2
 cases b<;>simp [behindInMarks,e1,e2]
theorem qQ {op:CmpOp}{r:R2}(ho:OpR X (compareOp op) r)(ha:PE X a ta)(hb:PE X b tb)(hm:behindInMarks op b=false):PE X (.Compare a [op] [b] pos) (tOp r ta tb):=by
 intro pins s σ H Q I h
 exact wpAny_Compare1 (binT ha hb I h fun v u s2 x y H2 I2 rx ry q=>ho pins s2 σ H2 x y v u Q I2 rx ry q) hm
def tTest (t:TE):TT:=fun σ H Q=>t σ H fun x H'=> ∃k,x=.bl k/\Q k H'
theorem qF {op:CmpOp}{r:R2}(ho:OpR X (compareOp op) r)(ha:PE X a ta)(hb:PE X b tb)(hm:behindInMarks op b=false):PT X (.Compare a [op] [b] pos) (tTest (tOp r ta tb)):=by
 intro pins s σ H Q I h
 refine wpAny_isTrue_Compare1 (thn (ha pins s σ H _ I h) fun v s1 ⟨x,H1,I1,r1,q1⟩=>thn (hb pins s1 σ H1 _ I1 q1) fun u s2 ⟨y,H2,I2,r2,q2⟩=>
  thn (ho pins s2 σ H2 x y v u _ I2 r1 r2 q2) fun c s3 ⟨z,H3,I3,r3,k,e,q3⟩=>?_) hm
 subst e
 cases r3
 exact wpAny_truthy_bool ⟨H3,I3,q3⟩
theorem fj:(sizeLine:Nat)<2 ^ 63:=by rw[sizeLine_eq];decide
theorem op_add_str:OpR X (binaryOp .Add) (fun x y H Q=> ∃i j,x=.str i/\y=.str j/\i.length+j.length<=sizeLine/\Q (.str (i++j)) H):=by
 intro pins s σ H x y v u Q I rx ry h
 obtain⟨i,j,rfl,rfl,hz,q⟩:=h
 obtain⟨t,rfl⟩:=rx
 obtain⟨t',rfl⟩:=ry
 exact add_str (fun t' tk=>⟨.str (i++j),H,I.tok _,⟨_,rfl⟩,q⟩) hz
theorem vals1 {x:V}{us:List Value}(r:Vals [x] us): ∃u,us=[u]/\RelV x u:=by
 cases r with
 |cons r1 r2=>cases r2;exact⟨_,rfl,r1⟩
theorem vals2 {x y:V}{us:List Value}(r:Vals [x,y] us): ∃u w',us=[u,w']/\RelV x u/\RelV y w':=by
 cases r with
 |cons r1 r2=>
  cases r2 with
  |cons r3 r4=>cases r4;exact⟨_,_,rfl,r1,r3⟩
end
end L2
namespace L2
open PySem PySem.Spec PyProof.Rows
structure ObjM (h:Heap)(x dx C:Addr)(mA:Str->Option Value):Prop where
 obj:h.get? x=some (PySem.W.instObj C dx)
 ns:h.Ns1 dx mA
 ne:dx≠x
theorem nK {h:Heap}{dx:Addr}{mA:Str->Option Value}(n:h.Ns1 dx mA): ∃od,h.get? dx=some od/\ ∀name,PySem.W.lookIn name od=some (mA name):=by
 obtain⟨o,es,ep,ho,hd,hk,_,hm⟩:=n
 refine⟨o,ho,fun name=>?_⟩
 have e:=hm name
 unfold nsFind findBy at e
 rw[<-Array.find?_toList] at e
 unfold PySem.W.lookIn
 rw[hd]
 dsimp only
 split
 ·rename_i y q
  rw[q] at e
  exact congrArg some e
 ·rename_i q
  rw[q] at e
  have a:es.toList.any (·.refKey)=false:=by
   rw[List.any_eq_false]
   intro y hy
   obtain⟨z,t,hkey⟩:=hk y (Array.mem_toList_iff.mp hy)
   simp [DictEntry.refKey,hkey]
  have a': ¬es.toList.any (·.refKey)=true:=by rw[a];exact Bool.false_ne_true
  rw[if_neg a']
  exact congrArg some e
theorem ObjM.look {h:Heap}{x dx C:Addr}{mA:Str->Option Value}(I:ObjM h x dx C mA): ∃od,PySem.W.InstAt h x (PySem.W.instObj C dx) C (some od)/\ ∀name,PySem.W.lookIn name od=some (mA name):=
 let ⟨od,ho,hl⟩:=nK I.ns
 ⟨od,⟨I.obj,rfl,rfl,ho⟩,hl⟩
section
variable {prog:Program}{w:World}{A:Around}{E:Value->Shared->Prop}{s:Shared}{K:PySem.W.Frag}{x dx C f:Addr}{mA:Str->Option Value}{name:Str}{v:Value}
end
theorem RelO.some_of {v:V}{o:Option Value}(r:RelO (some v) o): ∃u,o=some u/\RelV v u:=by
 cases o with
 |none=>exact (show False from r).elim
 |some u=>exact⟨u,rfl,r⟩
section
variable {P:Program}{w:World}{H H':Hp}{h h':Heap}{a C dx:Addr}{fs fs':List (Str×V)}
theorem rK (hok:HOk P w H h)(e:H a=some (.ins C dx fs)): ∃mA,ObjM h a dx C mA/\(∀f,RelO (fs.lookup f) (mA f))/\PySem.Within mA (fs.map (·.1))/\fs.length<=1000/\H dx=some (.own a):=by
 obtain⟨d,z,ne,ob,mA,n,r,q⟩:=(show ObjOk P w H h a (.ins C dx fs) from hok a _ e)
 exact⟨mA,⟨ob,n,ne⟩,r,q,z,d⟩
end
structure Cls (K:PySem.W.Frag)(C:Addr):Prop where
 pg:PySem.W.plainGet K C Str.empty=true
 hd:PySem.W.hasDictIn K C=true
 po:PySem.W.plainOver K C=true
 sa:PySem.W.findIn K (.ref C) "__setattr__"=some (some (.builtin "object.__setattr__"))
theorem Cls.get {K:PySem.W.Frag}{C:Addr}(c:Cls K C)(f:Str):PySem.W.plainGet K C f=true:=c.pg
section
variable {X:Cx}{pins:List (Addr×Obj)}{σ:St}{H:Hp}{s:Shared}{a C dx:Addr}{fs:List (Str×V)}{f:Str}{v:V}{A:Around}{E:Value->Shared->Prop}
end
section
variable {X:Cx}{o e value:Expr}{f:Str}{pos pos' tpos:Pos}{ta tv:TE}
end
section
variable {X:Cx}{pins:List (Addr×Obj)}{σ:St}{H:Hp}{s:Shared}{A:Around}{E:Value->Shared->Prop}{Q:Value->Shared->Prop}{c:Value}{b:Bool}
inductive TyOf (K:PySem.W.Frag)(H:Hp):V->Value->Prop where
 |non:TyOf K H .non (.type "NoneType")
 |bl (x:Bool):TyOf K H (.bl x) (.type "bool")
 |int (i:Int):TyOf K H (.int i) (.type "int")
 |str (x:Str):TyOf K H (.str x) (.type "str")
 |flt (x:UInt64):TyOf K H (.flt x) (.type "float")
 |lst {a:Addr}{xs:List V} (e:H a=some (.lst xs)):TyOf K H (.ref a) (.type "list")
 |frz {a:Addr}{o:Obj}{xs:List V} (e:H a=some (.frz o (.lst xs))):TyOf K H (.ref a) (.type "list")
 |tup {a:Addr}{xs:List V} (e:H a=some (.tup xs)):TyOf K H (.ref a) (.type "tuple")
 |dK {a:Addr}{kvs:List (Key×V)} (e:H a=some (.dK kvs)):TyOf K H (.ref a) (.type "dict")
 |dT {a:Addr}{kvs:List (List Key×V)} (e:H a=some (.dT kvs)):TyOf K H (.ref a) (.type "dict")
 |ins {a C dx:Addr}{fs:List (Str×V)} (e:H a=some (.ins C dx fs)) (cl:Cls K C) (ha:PySem.W.findIn K (.ref C) "__class__"=some (some (.builtin "object.__class__")))
  (hn:PySem.W.specialIn K (.builtin "object.__class__") "__get__"=some (some (.builtin "getset_descriptor.__get__"))) (htk:PySem.W.takesIn K (.builtin "object.__class__")=some true)
  (hm:PySem.W.mroIn K C (.type "object")=some true):TyOf K H (.ref a) (.ref C)
theorem nQ {x:V}{u t:Value}(I:Inv X pins σ H s)(rx:RelV x u)(ty:TyOf X.K H x t)(e:kitOne X.K t c=some b)(h:∀tk,Q (.bool b) {s with toks:=tk}):
  wpAny (model X.prog X.w) A (call (.builtin "isinstance") [u,c]) Q E s:=by
 cases ty with
 |non=>cases (show u=Value.none from rx);exact kia_one PySem.W.kitx_none I.kIn True.intro e (fun z=>nomatch z) h
 |bl y=>cases (show u=Value.bool y from rx);exact kia_one PySem.W.kitx_bool I.kIn True.intro e (fun z=>nomatch z) h
 |int i=>obtain⟨t,q⟩:=(show∃t,u=Value.int i t from rx);cases q;exact kia_one PySem.W.kitx_int I.kIn True.intro e (fun z=>nomatch z) h
 |str y=>obtain⟨t,q⟩:=(show∃t,u=Value.str y t from rx);cases q;exact kia_one PySem.W.kitx_str I.kIn True.intro e (fun z=>nomatch z) h
 |flt y=>obtain⟨t,q⟩:=(show∃t,u=Value.float y t from rx);cases q;exact kia_one PySem.W.kitx_float I.kIn True.intro e (fun z=>nomatch z) h
 | @lst a xs ea=>
   cases (show u=Value.ref a from rx)
   obtain⟨_,_,n,_,h1⟩:=(show ObjOk X.prog X.w H s.heap a (.lst xs) from I.hok a _ ea)
   exact kia_one PySem.W.kitx_list I.kIn ⟨_,h1,rfl⟩ e (fun z=>nomatch z) h
 | @frz a ob xs ea=>
   cases (show u=Value.ref a from rx)
   obtain⟨_,_,_,n,_,h1⟩:=(show ObjOk X.prog X.w H s.heap a (.frz ob (.lst xs)) from I.hok a _ ea)
   exact kia_one PySem.W.kitx_list I.kIn ⟨_,h1,rfl⟩ e (fun z=>nomatch z) h
 | @tup a xs ea=>
   cases (show u=Value.ref a from rx)
   obtain⟨_,_,_,p⟩:=(show ObjOk X.prog X.w H s.heap a (.tup xs) from I.hok a _ ea)
   obtain⟨o,h1,h2,_⟩:=p.1
   exact kia_one PySem.W.kitx_tuple I.kIn ⟨o,h1,h2⟩ e (fun z=>nomatch z) h
 | @dK a kvs ea=>
   cases (show u=Value.ref a from rx)
   obtain⟨_,_,vs,_,p⟩:=(show ObjOk X.prog X.w H s.heap a (.dK kvs) from I.hok a _ ea)
   obtain⟨o,es,ep,h1,h2,_⟩:=p
   exact kia_one PySem.W.kitx_dict I.kIn ⟨o,h1,h2.1⟩ e (fun z=>nomatch z) h
 | @dT a kvs ea=>
   cases (show u=Value.ref a from rx)
   obtain⟨_,_,xs,_,o,es,ep,h1,h2,_⟩:=(show ObjOk X.prog X.w H s.heap a (.dT kvs) from I.hok a _ ea)
   exact kia_one PySem.W.kitx_dict I.kIn ⟨o,h1,h2.1⟩ e (fun z=>nomatch z) h
 | @ins a C dx fs ea cl ha hn htk hm=>
   cases (show u=Value.ref a from rx)
   obtain⟨mA,O,_⟩:=rK I.hok ea
   obtain⟨od,J,_⟩:=O.look
   exact kia_one (PySem.W.kitx_own (cl.get _) cl.hd ha hn htk hm) I.kIn J e (fun z=>nomatch z) h
end
end L2
namespace L2
open PySem PySem.Spec PyProof.Rows
structure Room (k:Nat)(A:Around):Prop where
 hd:A.handled=none
 dp:A.depth+3 * k+5<recursionLimit
 un:A.units+16 * k+200<cLine
theorem Room.mono {j k:Nat}{A:Around}(r:Room k A)(h:j<=k):Room j A:=⟨r.hd,by have:=r.dp;omega,by have:=r.un;omega⟩
theorem Room.deeper {k:Nat}{A:Around}(r:Room (k+1) A)(env:Env):Room k (A.deeper env):=
 ⟨r.hd,by have:=r.dp;show A.depth+1+3 * k+5<_;omega,by have:=r.un;show A.units+3+16 * k+200<_;omega⟩
theorem Room.depth {k:Nat}{A:Around}(r:Room k A):A.depth<recursionLimit:=by have:=r.dp;omega
theorem Room.units {k:Nat}{A:Around}(r:Room k A):A.units+64<cLine:=by have:=r.un;omega
def tNil:TA:=fun _ H Q=>Q [] H
def tCons (ta:TE)(tr:TA):TA:=fun σ H Q=>ta σ H fun x H1=>tr σ H1 fun xs H2=>Q (x::xs) H2
section
variable {X:Cx}{e:Expr}{es:List Expr}{te:TE}{t:TA}{pos:Pos}
theorem pa_nil:PA X [] tNil:=fun _ _ _ _ H Q I h=>Calls.spliced_nil ⟨[],H,I,.nil,h⟩
theorem qT (ha:PE X e te)(hr:PA X es t)(hs:starEach (e::es) X.env=(false,eval e X.env)::starEach es X.env:=by rfl):PA X (e::es) (tCons te t):=by
 intro pos pins s σ H Q I h
 rw[hs]
 show wpAny _ _ (spliced ((false,eval e X.env)::backTo pos (starEach es X.env))) _ _ s
 refine Calls.spliced_cons (thn (ha pins s σ H _ I h) fun u s1 qz=>?_)
 obtain⟨x,H1,I1,r1,q1⟩:=qz
 exact thn (hr pos pins s1 σ H1 _ I1 q1) fun us s2 ⟨xs,H2,I2,r2,q2⟩=>⟨x::xs,H2,I2,.cons r1 r2,q2⟩
def tTup (t:TA):TE:=fun σ H Q=>t σ H fun xs H1=>xs.length<=sizeLine/\ ∀p,H1 p=none->Q (.ref p) (upd H1 p (.tup xs))
def tLst (t:TA):TE:=fun σ H Q=>t σ H fun xs H1=>xs.length<=sizeLine/\ ∀p,H1 p=none->Q (.ref p) (upd H1 p (.lst xs))
theorem oU {x1}(h:PA X es t):PE X (.Tuple es x1 pos) (tTup t):=by
 intro pins s σ H Q I hq
 refine wpAny_Tuple_spliced (thn (h pos pins s σ H _ I hq) fun us s1 ⟨xs,H1,I1,r,z,q⟩=>⟨by rw[<-r.length];exact z,?_⟩)
 have hf:H1 s1.heap.objs.size=none:=I1.hok.fresh (Nat.le_refl _)
 refine⟨.ref s1.heap.objs.size,upd H1 s1.heap.objs.size (.tup xs),I1.laid (t':=s1.toks) (fun b u e=>Heap.get?_push_of_some _ e) (Nat.le_refl _) ?_,rfl,q _ hf⟩
 exact⟨z,us,r,IsTupD.new _ _⟩
theorem sW (h:PA X es t):PE X (.List es pos) (tLst t):=by
 intro pins s σ H Q I hq
 refine wpAny_List_spliced (thn (h pos pins s σ H _ I hq) fun us s1 ⟨xs,H1,I1,r,z,q⟩=>⟨by rw[<-r.length];exact z,?_⟩)
 have hf:H1 s1.heap.objs.size=none:=I1.hok.fresh (Nat.le_refl _)
 refine⟨.ref s1.heap.objs.size,upd H1 s1.heap.objs.size (.lst xs),I1.laid (t':=s1.toks) (fun b u e=>Heap.get?_push_of_some _ e) (Nat.le_refl _) ?_,rfl,q _ hf⟩
 exact⟨z,us,0,r,Heap.get?_push_size _ rfl⟩
end
noncomputable abbrev Sp:=List V->Hp->VK->XK->Prop
noncomputable abbrev CXT:=List Env->Hp->Shared->XK->Value->Shared->Prop
structure Env0 (P:Program)(w:World)(K:PySem.W.Frag)(mg:Str->Option Value)(base:Heap)(A:Around)(outer:List Env)(s:Shared)(H:Hp):Prop where
 frames:A.frames=some outer
 mod:Mod K mg base
 bs: ∀b o,base.get? b=some o->s.heap.get? b=some o/\H b=none
 bsz:base.objs.size<=s.heap.objs.size
 funs:s.heap.FunFrames base outer
 frf: ∀b∈frs outer,H b=none
 hok:HOk P w H s.heap
 bare:AllBare s.gens
def CE (outer:List Env)(P:Program)(w:World)(H:Hp)(s:Shared)(Q:VK)(u:Value)(s':Shared):Prop:=
 ∃v H',s'.os=s.os/\AllBare s'.gens/\Un (frs outer) [] H H' s.heap s'.heap/\HOk P w H' s'.heap/\RelV v u/\Q v H'
def CR (CX:CXT)(outer:List Env)(P:Program)(w:World)(H:Hp)(s:Shared)(Q:VK)(E:XK)(r:Result)(s':Shared):Prop:=
 match r with
 |.ok (.ret u)=>CE outer P w H s Q u s'
 |.ok _=>False
 |.error e=>CX outer H s E e s'
structure FnOk (P:Program)(w:World)(K:PySem.W.Frag)(mg:Str->Option Value)(base:Heap)(CX:CXT)(k:Nat)(f:Addr)(fd:FuncData)(ps:List Str)(sp:Sp):Prop where
 len: ∀vs H Q E,sp vs H Q E->vs.length=ps.length
 run: ∀ (A:Around) (outer:List Env) (s:Shared) (H:Hp) (args:Args) (us:List Value) (vs:List V) (Q:VK) (E:XK),Room k A->Env0 P w K mg base A outer s H->BindsTo s fd args (ps.zip us)->Vals vs us->sp vs H Q E->
  codeAny (model P w) A (.call (.ref f) args) (CR CX outer P w H s Q E) s
theorem FnOk.imp {P:Program}{w:World}{K:PySem.W.Frag}{mg:Str->Option Value}{base:Heap}{CX:CXT}{k:Nat}{f:Addr}{fd:FuncData}{ps:List Str}{sp sp':Sp}(F:FnOk P w K mg base CX k f fd ps sp)
  (h:∀vs H Q E,sp' vs H Q E->sp vs H Q E):FnOk P w K mg base CX k f fd ps sp':=
 ⟨fun vs H Q E q=>F.len vs H Q E (h _ _ _ _ q),fun A outer s H args us vs Q E hr he hb hv hs=>F.run A outer s H args us vs Q E hr he hb hv (h _ _ _ _ hs)⟩
section
variable {X:Cx}{pins:List (Addr×Obj)}{σ:St}{H:Hp}{s s':Shared}
theorem Inv.env0 (I:Inv X pins σ H s):Env0 X.prog X.w X.K X.mg X.base X.A X.stack s H:=
 ⟨I.ok.frames,I.ok.mod,I.bs,Nat.le_trans I.ok.bsz I.sz,I.stack,I.stkFree,I.hok,I.bare⟩
theorem Inv.after {Q:VK}{u:Value}(I:Inv X pins σ H s)(h:CE X.stack X.prog X.w H s Q u s'):EP X pins σ Q u s':=by
 obtain⟨v,H',os,bare,un,hok,r,q⟩:=h
 obtain⟨hh,g,d,t,os'⟩:=s'
 obtain rfl:os'=s.os:=os
 exact⟨v,H',I.call (h':=hh) (g':=g) (d':=d) (t':=t) (ch:=[]) un hok bare (fun b z=>absurd z (by simp)),r,q⟩
end
def tCall (sp:Sp)(dvs:List V)(E:XK)(t:TA):TE:=fun σ H Q=>t σ H fun vs H1=>sp (vs++dvs) H1 Q E
noncomputable def Binds (K:PySem.W.Frag)(fd:FuncData)(ps:List Str)(ds:List Value):Prop:=
 ∀ (s:Shared) (us:List Value),K.In s.heap->(us++ds).length=ps.length->BindsTo s fd ⟨us,[]⟩ (ps.zip (us++ds))
theorem Binds.all {K:PySem.W.Frag}{fd:FuncData}{ps:List Str}(h:∀us:List Value,us.length=ps.length->bindArgs fd ⟨us,[]⟩=pure (ps.zip us)):Binds K fd ps []:=fun s us _ hl=>by
 rw[List.append_nil] at hl ⊢
 exact .of_eq (h us hl)
def lV (CX:CXT)(X:Cx)(E:XK):Prop:= ∀ (pins:List (Addr×Obj)) (σ:St) (H:Hp) (s:Shared) (e:Value) (s':Shared),Inv X pins σ H s->CX X.stack H s E e s'->X.xe e s'
section
variable {X:Cx}{CX:CXT}{k:Nat}{f C:Addr}{fd:FuncData}{ps:List Str}{sp:Sp}{dvs:List V}{ds:List Value}{E:XK}{x m:Str}{p pos apos:Pos}{e o:Expr}{es:List Expr}{ta:TE}{t:TA}
theorem sH {pins:List (Addr×Obj)}{σ:St}{H:Hp}{s:Shared}{Q:VK}{us:List Value}{vs:List V}(F:FnOk X.prog X.w X.K X.mg X.base CX k f fd ps sp)(hr:Room k X.A)(hb:Binds X.K fd ps ds)(hd:Vals dvs ds)(hx:lV CX X E)
  (I:Inv X pins σ H s)(r:Vals vs us)(h:sp (vs++dvs) H Q E):wpAny (model X.prog X.w) X.A (call (.ref f) us) (EP X pins σ Q) X.xe s:=by
 have r2:Vals (vs++dvs) (us++ds):=r.append hd
 have hl:(us++ds).length=ps.length:=by rw[<-r2.length];exact F.len _ _ _ _ h
 refine wpAny_call (codeAny_mono (F.run X.A X.stack s H ⟨us,[]⟩ (us++ds) (vs++dvs) Q E hr I.env0 (hb s us I.kIn hl) r2 h) fun r s' hq=>?_)
 cases r with
 |error e=>exact hx pins σ H s e s' I hq
 |ok fl=>
  cases fl with
  |ret u=>exact I.after hq
  |next=>exact False.elim hq
  |brk=>exact False.elim hq
  |cont=>exact False.elim hq
theorem qR (F:FnOk X.prog X.w X.K X.mg X.base CX k f fd ps sp)(hr:Room k X.A)(hg:Gl X x)(hm:X.mg x=some (.ref f))(hk:keepIn X.K (.ref f)=true)(hb:Binds X.K fd ps ds)(hd:Vals dvs ds)(hx:lV CX X E)
  (ha:PA X (e::es) t)(hdb:(x==("__debug__":Str))=false:=by decide)(he:starEach (e::es) X.env=(false,eval e X.env)::starEach es X.env:=by rfl)(hpl:(backTo pos (starEach es X.env)).any (·.1)=false:=by rfl):
  PE X (.Call (.Name x p) (e::es) [] pos) (tCall sp dvs E t):=by
 intro pins s σ H Q I h
 refine wpAny_Call_Name_kw (mt I hg hm ?_ hdb)
 refine PySem.W.callWith_K (h₀:=X.base) I.ok.mod.kin hk (thn (ha pos pins s σ H _ I h) fun us s1 ⟨vs,H1,I1,r,q⟩=>⟨I1.kIn,?_⟩) he hpl
 exact sH F hr hb hd hx I1 r q
end
section
variable {X:Cx}{CX:CXT}{k:Nat}{f C:Addr}{fd:FuncData}{ps ks:List Str}{sp:Sp}{E:XK}{x m:Str}{p pos apos kpos:Pos}{e o:Expr}{es:List Expr}{kws:List Keyword}{te ta:TE}{t tk:TA}{nm:Option Str}
variable {g:List Value->List Value->List Value}{gV:List V->List V->List V}
end
structure FnScope (N P:List Str)(sc:Scope):Prop where
 kind:sc.kind=.function
 co:sc.isCoroutine=false
 gen:sc.isGenerator=false
 nd:N.Nodup
 pre:N.take P.length=P
 par: ∀x∈P,sc.names.lookup x=some .local \/sc.names.lookup x=some .cell
 nofree: ∀y∈sc.names,y.2≠.free
theorem i9 {kindOf:Str->Option NameKind}{x:Str}: ∀ {binds:List (Str×Value)}{m:Str->Option Value},(∀v,(x,v) ∉ binds)->bindL kindOf binds m x=m x
 |[],_,_=>rfl
 |(n,v)::r,m,h=>by
  unfold bindL
  rw[i9 fun w hw=>h w (List.mem_cons_of_mem _ hw)]
  split
  ·have:x≠n:=by rintro rfl;exact h v List.mem_cons_self
   simp [this]
  ·rfl
theorem jb {kindOf:Str->Option NameKind}{x:Str}: ∀ {binds:List (Str×Value)}{m:Str->Option Value},(∀v,(x,v) ∉ binds)->bindC kindOf binds m x=m x
 |[],_,_=>rfl
 |(n,v)::r,m,h=>by
  unfold bindC
  rw[jb fun w hw=>h w (List.mem_cons_of_mem _ hw)]
  split
  ·rfl
  ·have:x≠n:=by rintro rfl;exact h v List.mem_cons_self
   simp [this]
theorem ja {kindOf:Str->Option NameKind}{x:Str}{v:Value}: ∀ {P:List Str}{vs:List Value}{i:Nat}{m:Str->Option Value},P.Nodup->P[i]?=some x->vs[i]?=some v->kindOf x=some .local ->
  bindL kindOf (P.zip vs) m x=some v
 |[],_,_,_,_,h,_,_=>by simp at h
 |_::_,[],_,_,_,_,h,_=>by simp at h
 |p::P,w::vs,0,m,nd,h1,h2,hk=>by
  simp at h1 h2;subst h1;subst h2
  show bindL kindOf ((p,w)::P.zip vs) m p=_
  unfold bindL
  rw[i9 fun v hv=>(List.nodup_cons.mp nd).1 (List.of_mem_zip hv).1,if_pos hk]
  simp
 |p::P,w::vs,i+1,m,nd,h1,h2,hk=>by
  show bindL kindOf ((p,w)::P.zip vs) m x=_
  unfold bindL
  exact ja (i:=i) (List.nodup_cons.mp nd).2 (by simpa using h1) (by simpa using h2) hk
theorem jc {kindOf:Str->Option NameKind}{x:Str}{v:Value}: ∀ {P:List Str}{vs:List Value}{i:Nat}{m:Str->Option Value},P.Nodup->P[i]?=some x->vs[i]?=some v->kindOf x≠some .local ->
  bindC kindOf (P.zip vs) m x=some v
 |[],_,_,_,_,h,_,_=>by simp at h
 |_::_,[],_,_,_,_,h,_=>by simp at h
 |p::P,w::vs,0,m,nd,h1,h2,hk=>by
  simp at h1 h2;subst h1;subst h2
  show bindC kindOf ((p,w)::P.zip vs) m p=_
  unfold bindC
  rw[jb fun v hv=>(List.nodup_cons.mp nd).1 (List.of_mem_zip hv).1,if_neg hk]
  simp
 |p::P,w::vs,i+1,m,nd,h1,h2,hk=>by
  show bindC kindOf ((p,w)::P.zip vs) m x=_
  unfold bindC
  exact jc (i:=i) (List.nodup_cons.mp nd).2 (by simpa using h1) (by simpa using h2) hk
def start (N:List Str)(vs:List V):St:=vs.map some++List.replicate (N.length - vs.length) none
def cxOf (CX:CXT)(P:Program)(w:World)(K:PySem.W.Frag)(mg:Str->Option Value)(base:Heap)(N:List Str)(qual:Str)(scope:Scope)(f:Addr)(cd:Value)(A:Around)(outer:List Env)(s:Shared)(H:Hp)(E:XK):Cx where
 prog:=P
 w:=w
 K:=K
 mg:=mg
 base:=base
 A:=A.deeper (envOfC qual scope s.heap.objs.size f cd)
 N:=N
 s₀:=s
 H₀:=H
 env:=envOfC qual scope s.heap.objs.size f cd
 outer:=outer
 stack:=envOfC qual scope s.heap.objs.size f cd::outer
 ex:=[]
 calm:=true
 fn:=fun _=>true
 pn:=[]
 xe:=fun e s'=>wpAny (model P w) (A.deeper (envOfC qual scope s.heap.objs.size f cd)) (leaving (envOfC qual scope s.heap.objs.size f cd) e) (fun _ s''=>CX outer H s E e s'') (fun e' s''=>CX outer H s E e' s'') s'
theorem kQ {sc:Scope}{n:Nat}{x:Str}(h:sc.names.lookup x=some .cell): ∃c,(cellsFrom n sc.names []).lookup x=some c:=by
 have q:=PySem.W.cellsFrom_some sc.names n [] (.inl h)
 exact Option.isSome_iff_exists.mp q
theorem nR {CX:CXT}{P:Program}{w:World}{K:PySem.W.Frag}{mg:Str->Option Value}{base:Heap}{N ps:List Str}{qual:Str}{scope:Scope}{f:Addr}{cd:Value}{A:Around}{outer:List Env}{s s1:Shared}{H:Hp}{E:XK}{us:List Value}{vs:List V}
  (S:FnScope N ps scope)(hd:A.handled=none)(e0:Env0 P w K mg base A outer s H)(hl:vs.length=ps.length)(r:Vals vs us)
  (x:InCallC s s.heap.objs.size (bindL (envOfC qual scope s.heap.objs.size f cd).kindOf (ps.zip us) fun _=>none) (cellsFrom (s.heap.objs.size+1) scope.names []) (bindC (envOfC qual scope s.heap.objs.size f cd).kindOf (ps.zip us) fun _=>none) s1):
  Inv (cxOf CX P w K mg base N qual scope f cd A outer s H E) [] (start N vs) H s1:=by
 have hpl:ps.length<=N.length:=by have:=congrArg List.length S.pre;rw[List.length_take] at this;omega
 obtain⟨h1,tk,rfl,hk⟩:=x.done
 have noA: ∀b:Addr,b ∉ (cxOf CX P w K mg base N qual scope f cd A outer s H E).ex:=fun b z=>absurd (show b∈([]:List Addr) from z) (by simp)
 refine⟨⟨e0.mod,S.kind,rfl,rfl,Nat.le_refl _,fun y z c h1 h2=>?_,fun y hy=>?_,fun y c _ h=>?_,fun _=>hd,Around.frames_deeper e0.frames,.inr ⟨rfl,rfl⟩,fun b z=>absurd z (noA b),e0.bs,e0.bsz,fun b _ _=>noA b,fun b z=>absurd z (noA b),e0.funs,e0.frf⟩,
  rfl,e0.bare,Un.kept hk,⟨_,x.toInCall.ns,fun i y v h1 h2 h3=>?_⟩,fun y c h=>⟨_,x.cell y c h⟩,e0.hok.fresh (Nat.le_refl _),fun y c h=>?_,fun p hp=>absurd (show p∈([]:List (Addr×Obj)) from hp) (by simp),e0.hok.kept hk,?_⟩
 ·exact name_of_addr x.apart (PySem.mem_of_lookup h1) (PySem.mem_of_lookup h2)
 ·have hy:scope.names.lookup y=some .cell\/scope.names.lookup y=some .free:=hy
  rcases hy with hy|hy
  ·exact kQ hy
  ·exact absurd rfl (S.nofree _ (PySem.mem_of_lookup hy))
 ·exact Nat.le_of_lt (x.above y c (PySem.mem_of_lookup h))
 ·have hi:i<vs.length:=by
   unfold start at h2
   by_cases hi:i<vs.length
   ·exact hi
   ·rw[List.getElem?_append_right (by simpa using hi)] at h2
    rw[List.getElem?_replicate] at h2
    split at h2<;>cases h2
  have ha:vs[i]?=some v:=by
   unfold start at h2
   rw[List.getElem?_append_left (by simpa using hi),List.getElem?_map] at h2
   cases e:vs[i]? with
   |none=>rw[e] at h2;cases h2
   |some a=>rw[e] at h2;cases h2;rfl
  obtain⟨u,hu,rv⟩:=r.get ha
  have hp:ps[i]?=some y:=by
   rw[<-S.pre,List.getElem?_take_of_lt (by omega)];exact h1
  have ndP:ps.Nodup:=by rw[<-S.pre];exact S.nd.sublist (List.take_sublist _ _)
  refine⟨u,rv,?_⟩
  rcases S.par y (List.mem_of_getElem? hp) with k|k
  ·exact .inl ⟨k,ja ndP hp hu k⟩
  ·obtain⟨c,e⟩:=kQ (n:=s.heap.objs.size+1) k
   refine .inr ⟨.inl k,c,e,?_⟩
   have q:=x.cell y c e
   rw[jc ndP hp hu (by show scope.names.lookup y≠_;rw[k];decide)] at q
   exact q
 ·exact e0.hok.fresh (Nat.le_of_lt (x.above y c (PySem.mem_of_lookup h)))
 ·unfold start
  show _=N.length
  rw[List.length_append,List.length_map,List.length_replicate]
  omega
theorem uO {CX:CXT}{P:Program}{w:World}{K:PySem.W.Frag}{mg:Str->Option Value}{base:Heap}{k:Nat}{f:Addr}{name qual:Str}{params:Arguments}{body:List Stmt}{scope:Scope}{dV kV doc pm cdv ct oc:Value}{an od:Option Addr}
  {osl:Array (Option Value)}{N ps:List Str}{sp:Sp}(lk:K.lookup f=some ⟨oc,od,.func (fnOf name qual params body scope dV kV doc pm an cdv ct),osl⟩)(hcd:codeIn K cdv qual=true)(S:FnScope N ps scope)
  (len: ∀vs H Q E,sp vs H Q E->vs.length=ps.length)
  (hbody: ∀ (A:Around) (outer:List Env) (s:Shared) (H:Hp) (vs:List V) (Q:VK) (E:XK),Room k (A.deeper (envOfC qual scope s.heap.objs.size f cdv))->sp vs H Q E->
   ∃t,PSs (cxOf CX P w K mg base N qual scope f cdv A outer s H E) body t/\t {nx:=fun _ H'=>Q .non H',rt:=Q} (start N vs) H):
  FnOk P w K mg base CX (k+1) f (fnOf name qual params body scope dV kV doc pm an cdv ct) ps sp:=by
 refine⟨len,fun A outer s H args us vs Q E hr e0 hb r hsp=>?_⟩
 have hl:=len _ _ _ _ hsp
 have KX:K.In s.heap:=e0.mod.kin.keeps fun b o e=>(e0.bs b o e).1
 have lim:s.heap.NoLimit:=e0.mod.nolimit.keeps fun b o e=>(e0.bs b o e).1
 have hkind: ∀y∈ps.zip us,scope.names.lookup y.1=some .local \/(scope.names.lookup y.1=some .cell/\((cellsFrom (s.heap.objs.size+1) scope.names []).lookup y.1).isSome=true):=fun⟨n,v⟩ hy=>by
  rcases S.par n (List.of_mem_zip hy).1 with q|q
  ·exact .inl q
  ·exact .inr ⟨q,PySem.W.cellsFrom_some _ _ _ (.inl q)⟩
 refine codeAny_call_function hr.depth (KX _ _ lk) rfl S.co S.gen rfl (PySem.W.codeRec_of KX hcd) (hb _ _ _ _ ?_)
 refine wpAny_newFunctionEnv_cells S.kind hkind fun env he s1 x=>?_
 subst he
 refine⟨lim.keeps x.toInCall.keep,codeAny_func ?_⟩
 obtain⟨t,ht,hq⟩:=hbody A outer s H vs Q E (hr.deeper _) hsp
 have I:Inv (cxOf CX P w K mg base N qual scope f cdv A outer s H E) [] (start N vs) H s1:=nR S hr.hd e0 hl r x
 refine wpAny_mono (ht [] s1 (start N vs) H _ I hq) (fun fl s' hs=>?_) fun e s' hs=>hs
 have fin: ∀ {σ':St}{H':Hp}{v:V}{u:Value},Inv (cxOf CX P w K mg base N qual scope f cdv A outer s H E) [] σ' H' s'->RelV v u->Q v H'->CE outer P w H s Q u s':=
  fun{σ' H' v u} J rv q=>⟨v,H',J.os,J.bare,J.base,J.hok,rv,q⟩
 cases fl with
 |ret u=>
  obtain⟨v,σ',H',J,rv,q⟩:=hs
  exact fin J rv q
 |next=>
  obtain⟨σ',H',J,q⟩:=hs
  exact fin (v:=V.non) (u:=Value.none) J rfl q
 |brk=>
  obtain⟨_,_,_,q⟩:=hs
  exact False.elim q
 |cont=>
  obtain⟨_,_,_,q⟩:=hs
  exact False.elim q
end L2
namespace L2
open PySem PySem.Spec PyProof.Rows
section
variable {X:Cx}{x:Str}{p pos:Pos}{e:Expr}{es:List Expr}{t:TA}{id T:String}{r:List V->Hp->VK->Prop}
def tCB (r:List V->Hp->VK->Prop)(t:TA):TE:=fun σ H Q=>t σ H fun vs H1=>r vs H1 Q
theorem o4 (hc:CallR X (.builtin id) r)(hg:Gl X x)(hm:X.mg x=none)(hv:bootBuiltins x=some (.builtin id))(ha:PA X (e::es) t)(hn:x≠ "__name__":=by decide)(hdb:(x==("__debug__":Str))=false:=by decide)
  (he:starEach (e::es) X.env=(false,eval e X.env)::starEach es X.env:=by rfl)(hpl:(backTo pos (starEach es X.env)).any (·.1)=false:=by rfl):PE X (.Call (.Name x p) (e::es) [] pos) (tCB r t):=by
 intro pins s σ H Q I h
 refine wpAny_Call_Name_kw (dj I hg hm hv ?_ hn hdb)
 exact PyProof.Rows.callWith_builtin1 (thn (ha pos pins s σ H _ I h) fun us s1 ⟨vs,H1,I1,r1,q1⟩=>hc pins s1 σ H1 vs us Q I1 r1 q1) he hpl
theorem iU (hc:CallR X (.type T) r)(hg:Gl X x)(hm:X.mg x=none)(hv:bootBuiltins x=some (.type T))(ha:PA X (e::es) t)(hn:x≠ "__name__":=by decide)(hdb:(x==("__debug__":Str))=false:=by decide)
  (he:starEach (e::es) X.env=(false,eval e X.env)::starEach es X.env:=by rfl)(hpl:(backTo pos (starEach es X.env)).any (·.1)=false:=by rfl):PE X (.Call (.Name x p) (e::es) [] pos) (tCB r t):=by
 intro pins s σ H Q I h
 refine wpAny_Call_Name_kw (dj I hg hm hv ?_ hn hdb)
 exact PyProof.Rows.callWith_type1 (thn (ha pos pins s σ H _ I h) fun us s1 ⟨vs,H1,I1,r1,q1⟩=>hc pins s1 σ H1 vs us Q I1 r1 q1) he hpl
end
end L2
namespace HT
open PySem PyProof.Rows
noncomputable def lexLt:List Int->List Int->Bool
 |[],[]=>false
 |[],_::_=>true
 |_::_,[]=>false
 |x::xs,y::ys=>if x=y then lexLt xs ys else decide (x<y)
theorem lJ (x y:Int)(xs ys:List Int):lexLt (x::xs) (y::ys)=if x=y then lexLt xs ys else decide (x<y):=rfl
theorem iO:lexLt [] []=false:=rfl
theorem iu (y:Int)(ys:List Int):lexLt [] (y::ys)=true:=rfl
theorem iw (x:Int)(xs:List Int):lexLt (x::xs) []=false:=rfl
theorem p7 (A:Around)(s:Shared)(a:Int)(t:Tok)(c:Int)(u:Tok): ∃e,SeqAt.EqAt A s (.int a t) (.int c u) e/\(e=true↔a=c):=
 ⟨(a==c),SeqAt.EqAt.int_int a t c u,by simp⟩
theorem oN (A:Around)(s:Shared)(a:Int)(t:Tok)(c:Int)(u:Tok)(prog:Program)(w:World)(E:Value->Shared->Prop)(Q:Value->Shared->Prop)(h:Q (.bool (decide (a<c))) s):
  wpAny (model prog w) A (richCompare .Lt (.int a t) (.int c u)) Q E s:=
 (PyProof.Rows.lt_int h:wpAny (model prog w) A (compareOp .Lt (.int a t) (.int c u)) Q E s)
section
open PySem.SeqAt
open PySem.AutoSeq1 (wpAny_loadPart')
open PySem.MeetsSeq PySem.MeetsSeq2 PySem.MeetsSeq3
theorem iI (l b:Addr)(items items2:Array Value)(n n2:Nat)(dd dd2:Option Addr)(sl sl2:Array (Option Value))(ns ms:List Int)(hi:IntsAre items.toList ns)(hj:IntsAre items2.toList ms):
  Meets (Builtin.«tuple.__lt__» ⟨[.ref l,.ref b],[]⟩)
   (fun _ R s=>s.heap.get? l=some {cls:=.type "tuple",dict:=dd,data:=.seq items n,slots:=sl}/\s.heap.get? b=some {cls:=.type "tuple",dict:=dd2,data:=.seq items2 n2,slots:=sl2}/\
    R (.ok (.ret (.bool (lexLt ns ms)))) s):=
 .of_wp fun prog w A R s h=>by
  obtain⟨hp,g,d,tk,os⟩:=s;obtain⟨hl,hb,h⟩:=h
  have f2:=AutoSeq1.sub_tuple_tuple
  have z1:items.size=ns.length:=by rw[<-hi.length];simp
  have z2:items2.size=ms.length:=by rw[<-hj.length];simp
  wp_walk using wpAny_loadPart' hl,wpAny_loadPart' hb,wpAny_forIn_list _ (fun rest b s'=>b.1=none/\s'=⟨hp,g,d,tk,os⟩/\ ∃ (vs ws:List Value) (ns' ms':List Int),rest=vs.zip ws/\
   IntsAre vs ns'/\IntsAre ws ms'/\ns'.length+items2.size=ms'.length+items.size/\R (.ok (.ret (.bool (lexLt ns' ms')))) ⟨hp,g,d,tk,os⟩) _
  case turn=>
   rintro⟨y,x⟩ rest b s' ⟨hb',rfl,vs,ws,ns',ms',hz,hvi,hwi,hlen,hR⟩
   cases hvi with
   |nil=>rw[List.zip_nil_left] at hz;cases hz
   |cons a t hvi'=>
    cases hwi with
    |nil=>rw[List.zip_nil_right] at hz;cases hz
    |cons c u hwi'=>
     rw[List.zip_cons_cons] at hz
     injection hz with hyx hrest
     injection hyx with hy hx
     subst hy hx
     rw[lJ] at hR
     simp only[List.length_cons] at hlen
     obtain⟨e,he,hiff⟩:=p7 A.in1 ⟨hp,g,d,tk,os⟩ a t c u
     refine wpAny_bind (he prog w _ _ ?_)
     cases e with
     |true=>
      rw[if_pos (hiff.mp rfl)] at hR
      wp_walk
      exact⟨rfl,rfl,_,_,_,_,hrest,hvi',hwi',by omega,hR⟩
     |false=>
      rw[if_neg (fun q=>absurd (hiff.mpr q) Bool.false_ne_true)] at hR
      have hri:=oN A.in1 ⟨hp,g,d,tk,os⟩ a t c u prog w
      wp_walk using hri
      exact⟨_,rfl,by simpa using hR⟩
  case fin=>
   rintro⟨b1,b2⟩ s' ⟨hb',rfl,vs,ws,ns',ms',hz,hvi,hwi,hlen,hR⟩
   simp only at hb'
   subst hb'
   have hv:lexLt ns' ms'=decide (items.size<items2.size):=by
    cases hvi with
    |nil=>
     cases hwi with
     |nil=>
      simp only[List.length_nil] at hlen
      rw[iO]
      exact (decide_eq_false (by omega)).symm
     |cons c u hw=>
      simp only[List.length_nil,List.length_cons] at hlen
      rw[iu]
      exact (decide_eq_true (by omega)).symm
    |cons a t hv=>
     cases hwi with
     |nil=>
      simp only[List.length_nil,List.length_cons] at hlen
      rw[iw]
      exact (decide_eq_false (by omega)).symm
     |cons c u hw=>
      rw[List.zip_cons_cons] at hz
      cases hz
   rw[hv] at hR
   wp_walk
   exact⟨_,rfl,by simpa [Builtin.Tuple.tupleCompareSizes] using hR⟩
  case h=>
   exact⟨rfl,rfl,items.toList,items2.toList,ns,ms,rfl,hi,hj,by omega,h⟩
end
section
variable {prog:Program}{w:World}{A:Around}{E:Value->Shared->Prop}{s:Shared}
theorem lt_tupInts {l b:Addr}{items items2:Array Value}{ns ms:List Int}{Q:Value->Shared->Prop}(hl:IsTup s.heap l items)(hb:IsTup s.heap b items2)(hi:IntsAre items.toList ns)(hj:IntsAre items2.toList ms)
  (hu:A.units<cLine)(h:Q (.bool (lexLt ns ms)) s):wpAny (model prog w) A (compareOp .Lt (.ref l) (.ref b)) Q E s:=by
 obtain⟨⟨cls,dd,data,sl⟩,ho,hc,n,hd⟩:=id hl
 obtain⟨⟨cls2,dd2,data2,sl2⟩,ho2,hc2,n2,hd2⟩:=id hb
 simp only at hc hd hc2 hd2
 subst hc hd hc2 hd2
 exact richCompare_meets_room (op:=.Lt) ⟨_,ho,rfl⟩ ⟨_,ho2,rfl⟩ PySem.F.slot_tuple_lt PySem.F.entry_tuple_lt (PySem.F.args_tuple_lt_2 _ _) (iI l b items items2 n n2 dd dd2 sl sl2 ns ms hi hj)
  ⟨ho,ho2,show Value.bool (lexLt ns ms)≠Value.notImplemented/\Q (.bool (lexLt ns ms)) s from⟨(fun x=>nomatch x),h⟩⟩ hu
theorem cat_tup {t b:Addr}{vs ws:List Value}{Q:Value->Shared->Prop}(ht:IsTup s.heap t vs.toArray)(hb:IsTup s.heap b ws.toArray)(hv:vs≠ [])
  (h1:ws=[]->Q (.ref t) s)(h2:ws≠ []->Q (.ref s.heap.objs.size) {s with heap:=s.heap.push {cls:=.type "tuple",data:=.seq (vs++ws).toArray}})
  (hsz:vs.length+ws.length<=sizeLine):wpAny (model prog w) A (binaryOp .Add (.ref t) (.ref b)) Q E s:=by
 obtain⟨⟨cls,dd,data,sl⟩,ho,hc,n,hd⟩:=id ht
 obtain⟨⟨cls2,dd2,data2,sl2⟩,ho2,hc2,n2,hd2⟩:=id hb
 simp only at hc hd hc2 hd2
 subst hc hd hc2 hd2
 have e:vs.toArray++ws.toArray=(vs++ws).toArray:=by simp
 by_cases hw:ws=[]
 ·exact concat_meets ⟨_,ho,rfl⟩ ⟨_,ho2,rfl⟩ noFill_tuple_add seq_tuple_add PySem.F.slot_tuple_add PySem.F.entry_tuple_add (PySem.F.args_tuple_add_2 _ _)
   (tuple_addW1 t b vs.toArray ws.toArray n n2 dd dd2 sl sl2 (by simpa using hv) (by simp [hw])) ⟨ho,ho2,h1 hw⟩
 ·refine concat_meets ⟨_,ho,rfl⟩ ⟨_,ho2,rfl⟩ noFill_tuple_add seq_tuple_add PySem.F.slot_tuple_add PySem.F.entry_tuple_add (PySem.F.args_tuple_add_2 _ _)
   (tuple_addW2 t b vs.toArray ws.toArray n n2 dd dd2 sl sl2 (by simpa using hv) (by simpa using hw) (by rw[List.size_toArray,List.size_toArray];exact hsz)) ⟨ho,ho2,?_⟩
  rw[e]
  exact h2 hw
noncomputable def sIx (n d:Nat):Option Int->Nat
 |none=>d
 |some v=>if v<0 then (v+(n:Int)).toNat else min v.toNat n
theorem sG (n d:Nat)(hd:d<=n)(o:Option Int):sIx n d o<=n:=by
 cases o with
 |none=>exact hd
 |some v=>
  show (if v<0 then (v+(n:Int)).toNat else min v.toNat n)<=n
  by_cases hv:v<0
  ·rw[if_pos hv];omega
  ·rw[if_neg hv];exact Nat.min_le_right _ _
theorem mS (v:Int)(n d:Nat):(if v<0 then max (v+(n:Int)) 0 else min v (n:Int))=((sIx n d (some v):Nat):Int):=by
 show (if v<0 then max (v+(n:Int)) 0 else min v (n:Int))=(((if v<0 then (v+(n:Int)).toNat else min v.toNat n):Nat):Int)
 by_cases hv:v<0
 ·simp only[if_pos hv];omega
 ·simp only[if_neg hv];omega
theorem lU (lo hi:Option Int)(n:Nat):Builtin.Slice.sliceAdjust lo hi 1 (n:Int)=(((sIx n 0 lo:Nat):Int),((sIx n n hi:Nat):Int)):=by
 have h1: ¬((1:Int)<0):=by omega
 unfold Builtin.Slice.sliceAdjust
 simp only[h1,if_false]
 refine Prod.ext ?_ ?_
 ·cases lo with
  |none=>rfl
  |some v=>exact mS v n 0
 ·cases hi with
  |none=>rfl
  |some v=>exact mS v n n
theorem lx (i j:Nat):Builtin.Slice.slicePlaces (i:Int) (j:Int) 1=j - i:=by
 unfold Builtin.Slice.slicePlaces
 have h1:(1:Int)>0:=by omega
 simp only[h1,if_true,Int.ediv_one]
 split<;>omega
theorem gX {v:Value}{o:Option Int}{Q:Option Int->Shared->Prop}(p:IsPart v o)(h:Q o s):wpAny (model prog w) A (Builtin.Slice.slicePartIndex v) Q E s:=by
 cases p with
 |none=>exact slicePart_none h
 |int i t=>exact slicePart_int h
theorem fW {sl:Addr}{vl vu:Value}{lo hi:Option Int}{n:Nat}{Q:Int×Int×Nat->Shared->Prop}(hs:s.heap.IsSliceOf sl vl vu .none)(pl:IsPart vl lo)(pu:IsPart vu hi)
  (h:Q (((sIx n 0 lo:Nat):Int),1,sIx n n hi - sIx n 0 lo) s):wpAny (model prog w) A (Builtin.Slice.sliceApplied (.ref sl) (pure (n:Int))) Q E s:=by
 obtain⟨os,hos,hcs,hds⟩:=id hs
 unfold Builtin.Slice.sliceApplied Builtin.Slice.sliceFields
 refine wpAny_bind (wpAny_bind (wpAny_field hos hds (x:=vl) rfl (wpAny_bind (wpAny_field hos hds (x:=vu) rfl (wpAny_bind (wpAny_field hos hds (x:=.none) rfl (wpAny_pure ?_)))))))
 refine wpAny_bind (slicePart_none ?_)
 show wpAny _ _ (if ((1:Int)==0)=true then _ else _) _ _ s
 rw[if_neg (by decide)]
 refine wpAny_bind (gX pl (wpAny_bind (gX pu (wpAny_bind (wpAny_pure ?_)))))
 show wpAny _ _ (match Builtin.Slice.sliceAdjust lo hi 1 (n:Int) with|(lo,hi)=>pure (lo,(1:Int),Builtin.Slice.slicePlaces lo hi 1)) _ _ s
 rw[lU lo hi n]
 show wpAny _ _ (pure (((sIx n 0 lo:Nat):Int),(1:Int),Builtin.Slice.slicePlaces ((sIx n 0 lo:Nat):Int) ((sIx n n hi:Nat):Int) 1)) _ _ s
 rw[lx]
 exact wpAny_pure h
theorem oQ (xs:Array Value)(i k:Nat):((List.range k).filterMap fun (m:Nat)=>xs[((i:Int)+(m:Int) * 1).toNat]?).toArray=((xs.toList.drop i).take k).toArray:=by
 have e:(fun (m:Nat)=>xs[((i:Int)+(m:Int) * 1).toNat]?)=fun m=>xs[i+m]?:=by
  funext m
  have:((i:Int)+(m:Int) * 1).toNat=i+m:=by omega
  rw[this]
 rw[e]
 have:=pick_run xs i k
 rw[List.filterMap_map] at this
 have e2:((fun x=>xs[x]?)∘fun x=>i+x)=fun m=>xs[i+m]?:=rfl
 rw[e2] at this
 rw[this]
theorem getItem_tuple_cut {t sl:Addr}{items:Array Value}{vl vu:Value}{lo hi:Option Int}{Q:Value->Shared->Prop}(ht:IsTup s.heap t items)(hs:s.heap.IsSliceOf sl vl vu .none)(pl:IsPart vl lo)(pu:IsPart vu hi)
  (hw: ¬(sIx items.size 0 lo=0/\sIx items.size items.size hi=items.size))
  (h:Q (.ref s.heap.objs.size) {s with heap:=s.heap.push {cls:=.type "tuple",data:=.seq ((items.toList.drop (sIx items.size 0 lo)).take (sIx items.size items.size hi - sIx items.size 0 lo)).toArray}})
  (hsz:items.size<=sizeLine):wpAny (model prog w) A (getItem (.ref t) (.ref sl)) Q E s:=by
 have htake:sizeOk (.seq ((items.toList.drop (sIx items.size 0 lo)).take (sIx items.size items.size hi - sIx items.size 0 lo)).toArray):=by
  show ((items.toList.drop (sIx items.size 0 lo)).take (sIx items.size items.size hi - sIx items.size 0 lo)).toArray.size<=sizeLine
  rw[List.size_toArray,List.length_take,List.length_drop,Array.length_toList]
  omega
 have hj:sIx items.size items.size hi<=items.size:=sG _ _ (Nat.le_refl _) hi
 obtain⟨os,hos,hcs,hds⟩:=id hs
 have hTs:s.TypeIs (.ref sl) "slice":=⟨os,hos,hcs⟩
 unfold getItem
 try with_reducible refine wpAny_holding ?_
 first|refine wpAny_bind (wpAny_pure ?_)|skip
 refine wpAny_bind (wpAny_sequenceKey ht.typeIs (by decide) ?_)
 refine wpAny_bind (wpAny_callSpecial?_slot (name:=Str.ofString "__getitem__") ht.typeIs PyProof.Rows.slot_tuple_getitem
  (wpAny_call_entry PyProof.Rows.slot_tuple_getitem ht.typeIs entry_tuple_getitem ?_ (args_tuple_getitem _ _)))
 show wpAny _ _ (Builtin.Tuple.tupleItemsOf (.ref t)>>=_) _ _ s
 refine wpAny_bind (tupleItemsOf_ ht ?_)
 refine wpAny_bind (wpAny_typeOf hTs ?_)
 rw[if_pos (by decide)]
 refine wpAny_bind (fW hs pl pu ?_)
 have hno: ¬((((sIx items.size 0 lo:Nat):Int)==0 && (1:Int)==1 && (sIx items.size items.size hi - sIx items.size 0 lo)==items.size)=true):=by
  intro q
  rw[Bool.and_eq_true,Bool.and_eq_true] at q
  have q1:((sIx items.size 0 lo:Nat):Int)=0:=eq_of_beq q.1.1
  have q2:sIx items.size items.size hi - sIx items.size 0 lo=items.size:=eq_of_beq q.2
  exact hw ⟨by omega,by omega⟩
 show wpAny _ _ (if (((sIx items.size 0 lo:Nat):Int)==0 && (1:Int)==1 && (sIx items.size items.size hi - sIx items.size 0 lo)==items.size)=true then _ else _) _ _ s
 rw[if_neg hno,oQ]
 first
  |exact wpAny_bind (m:=Builtin.Tuple.tupleExact _) (wpAny_newObj_type (wpAny_pure ⟨_,rfl,wpAny_pure h⟩) htake)
  |exact wpAny_bind (m:=Builtin.Tuple.tupleExact _) (wpAny_newObj_type (wpAny_bind (wpAny_pure (wpAny_pure ⟨_,rfl,wpAny_pure h⟩))) htake)
  |exact wpAny_bind (wpAny_bind (m:=Builtin.Tuple.tupleExact _) (wpAny_newObj_type (wpAny_pure (wpAny_pure ⟨_,rfl,wpAny_pure h⟩)) htake))
  |exact wpAny_bind (wpAny_bind (m:=Builtin.Tuple.tupleExact _) (wpAny_newObj_type (wpAny_pure ⟨_,rfl,wpAny_pure h⟩) htake))
end
end HT
namespace L2
open PySem PySem.Spec PyProof.Rows
noncomputable abbrev TO:=St->Hp->(Option Int->Hp->Prop)->Prop
def PO (X:Cx)(e:Option Expr)(t:TO):Prop:=
 ∀ (pins:List (Addr×Obj)) (s:Shared) (σ:St) (H:Hp) (Q:Option Int->Hp->Prop),Inv X pins σ H s->t σ H Q->
   wpAny (model X.prog X.w) X.A (evalPart e X.env) (fun u s'=> ∃o H',Inv X pins σ H' s'/\IsPart u o/\Q o H') X.xe s
def qr:TO:=fun _ H Q=>Q none H
def tPart (t:TE):TO:=fun σ H Q=>t σ H fun x H1=> ∃i,x=.int i/\Q (some i) H1
section
variable {X:Cx}{e:Expr}{te:TE}{lo hi:Option Expr}{tl th:TO}{pos p2:Pos}
theorem po_none:PO X none qr:=by
 intro pins s σ H Q I h
 rw[evalPart_none]
 exact wpAny_pure ⟨none,H,I,.none,h⟩
theorem qJ (h:PE X e te):PO X (some e) (tPart te):=by
 intro pins s σ H Q I hw
 rw[evalPart_some]
 refine thn (h pins s σ H _ I hw) fun u s1 qz=>?_
 obtain⟨x,H1,I1,r1,q1⟩:=qz
 obtain⟨i,rfl,q⟩:=q1
 obtain⟨t,rfl⟩:=r1
 exact⟨some i,H1,I1,.int i t,q⟩
def SlR (X:Cx)(r:V->Option Int->Option Int->Hp->VK->Prop):Prop:=
 ∀ (pins:List (Addr×Obj)) (s:Shared) (σ:St) (H:Hp) (x:V) (v vl vu:Value) (lo hi:Option Int) (sl:Addr) (Q:VK),Inv X pins σ H s->RelV x v->s.heap.IsSliceOf sl vl vu .none->IsPart vl lo->IsPart vu hi->r x lo hi H Q->
   ∃T id,typeLookup (.type T) "__getitem__"=pure (some (.builtin id))/\s.TypeIs v T/\wpAny (model X.prog X.w) X.A (getItem v (.ref sl)) (EP X pins σ Q) X.xe s
theorem SlR.or {r r':V->Option Int->Option Int->Hp->VK->Prop}(h:SlR X r)(h':SlR X r'):SlR X (fun x lo hi H Q=>r x lo hi H Q\/r' x lo hi H Q):=by
 intro pins s σ H x v vl vu lo hi sl Q I rx hs pl pu q
 rcases q with q|q
 ·exact h pins s σ H x v vl vu lo hi sl Q I rx hs pl pu q
 ·exact h' pins s σ H x v vl vu lo hi sl Q I rx hs pl pu q
def tSl (r:V->Option Int->Option Int->Hp->VK->Prop)(te:TE)(tl th:TO):TE:=fun σ H Q=>te σ H fun x H1=>tl σ H1 fun l H2=>th σ H2 fun u H3=>r x l u H3 Q
theorem oW {r:V->Option Int->Option Int->Hp->VK->Prop}(hr:SlR X r)(he:PE X e te)(hl:PO X lo tl)(hu:PO X hi th):PE X (.Subscript e (.Slice lo hi none p2) pos) (tSl r te tl th):=by
 intro pins s σ H Q I h
 refine Subscript_ (thn (he pins s σ H _ I h) fun v s1 qz=>?_)
 obtain⟨x,H1,I1,r1,q1⟩:=qz
 refine wpAny_Slice (thn (hl pins s1 σ H1 _ I1 q1) fun vl s2 ⟨l,H2,I2,pl,q2⟩=>thn (hu pins s2 σ H2 _ I2 q2) fun vu s3 qz=>?_)
 obtain⟨u,H3,I3,pu,q3⟩:=qz
 rw[evalPart_none]
 refine wpAny_pure ?_
 have I4:Inv X pins σ H3 {s3 with heap:=s3.heap.push {cls:=.type "slice",data:=.fields #[vl,vu,.none]}}:=I3.kept (t':=s3.toks) fun b ob q=>Heap.get?_push_of_some _ q
 obtain⟨T,id,hT,ht,hg⟩:=hr pins {s3 with heap:=s3.heap.push {cls:=.type "slice",data:=.fields #[vl,vu,.none]}} σ H3 x v vl vu l u s3.heap.objs.size Q I4 r1 (Heap.IsSliceOf.new ..) pl pu q3
 show wpAny (model X.prog X.w) X.A (subscriptTail e (.Slice lo hi none p2) v (.ref s3.heap.objs.size)) (EP X pins σ Q) X.xe {s3 with heap:=s3.heap.push {cls:=.type "slice",data:=.fields #[vl,vu,.none]}}
 exact tail_any (ops:=[.ref s3.heap.objs.size,v]) ht hT hg (by with_unfolding_all rfl)
def cutV (xs:List V)(lo hi:Option Int):List V:=(xs.drop (HT.sIx xs.length 0 lo)).take (HT.sIx xs.length xs.length hi - HT.sIx xs.length 0 lo)
theorem gy (xs:List V)(lo hi:Option Int):(cutV xs lo hi).length<=xs.length:=by
 unfold cutV
 rw[List.length_take,List.length_drop]
 omega
def rSlT (K:PySem.W.Frag):V->Option Int->Option Int->Hp->VK->Prop:=fun x lo hi H Q=> ∃a xs,x=.ref a/\SqT K H a xs/\
 ¬(HT.sIx xs.length 0 lo=0/\HT.sIx xs.length xs.length hi=xs.length)/\ ∀p,H p=none->Q (.ref p) (upd H p (.tup (cutV xs lo hi)))
theorem sl_tup:SlR X (rSlT X.K):=by
 intro pins s σ H x v vl vu lo hi sl Q I rx hs pl pu h
 obtain⟨a,xs,rfl,hx,hw,q⟩:=h
 cases rx
 obtain⟨its,r,ht,hz⟩:=I.tuple hx
 have hlen:its.toArray.size=xs.length:=by rw[List.size_toArray];exact r.length.symm
 refine⟨"tuple",_,PyProof.Rows.slot_tuple_getitem.lookup,ht.typeIs,?_⟩
 refine HT.getItem_tuple_cut ht hs pl pu (by rw[hlen];exact hw) ?_ (by rw[hlen];exact hz)
 rw[hlen]
 refine⟨.ref s.heap.objs.size,_,I.laid (t':=s.toks) (o:=.tup (cutV xs lo hi)) (fun b ob q=>Heap.get?_push_of_some _ q) (Nat.le_refl _) ?_,rfl,q _ (I.hok.fresh (Nat.le_refl _))⟩
 exact⟨Nat.le_trans (gy xs lo hi) hz,_,(r.drop (HT.sIx xs.length 0 lo)).take (HT.sIx xs.length xs.length hi - HT.sIx xs.length 0 lo),IsTupD.new _ _⟩
def rCatT (K:PySem.W.Frag):R2:=fun x y H Q=> ∃a b xs ys,x=.ref a/\y=.ref b/\SqT K H a xs/\SqT K H b ys/\xs≠ []/\xs.length+ys.length<=sizeLine/\
 (ys=[]->Q (.ref a) H)/\(ys≠ []-> ∀p,H p=none->Q (.ref p) (upd H p (.tup (xs++ys))))
theorem Vals.nil_iff {xs:List V}{us:List Value}(r:Vals xs us):us=[]↔xs=[]:=by
 cases r with
 |nil=>simp
 |cons _ _=>simp
theorem op_catT:OpR X (binaryOp .Add) (rCatT X.K):=by
 intro pins s σ H x y v u Q I rx ry h
 obtain⟨a,b,xs,ys,rfl,rfl,ha,hb,hx,hz,q1,q2⟩:=h
 cases rx
 cases ry
 obtain⟨its,r1,p1,_⟩:=I.tuple ha
 obtain⟨its2,r2,p2,_⟩:=I.tuple hb
 refine HT.cat_tup p1 p2 (fun z=>hx (r1.nil_iff.mp z)) (fun z=>⟨.ref a,H,I,rfl,q1 (r2.nil_iff.mp z)⟩) (fun z=>?_) (by rw[<-r1.length,<-r2.length];exact hz)
 refine⟨.ref s.heap.objs.size,_,I.laid (t':=s.toks) (o:=.tup (xs++ys)) (fun b ob q=>Heap.get?_push_of_some _ q) (Nat.le_refl _) ?_,rfl,q2 (fun w=>z (r2.nil_iff.mpr w)) _ (I.hok.fresh (Nat.le_refl _))⟩
 exact⟨by rw[List.length_append];exact hz,_,r1.append r2,IsTupD.new _ _⟩
end
end L2
namespace L2
open PySem PySem.Spec PyProof.Rows
noncomputable def ixN (n:Nat)(i:Int):Option Nat:=if 0<=i then (if i<n then some i.toNat else none) else if -(n:Int)<=i then some (i+n).toNat else none
def atI {α:Type}(xs:List α)(i:Int):Option α:=(ixN xs.length i).bind fun j=>xs[j]?
theorem mF {n:Nat}{i:Int}{j:Nat}(h:ixN n i=some j):seqIndex? i n=some j/\j<n/\ -(n:Int)<=i/\i<n:=by
 unfold ixN at h
 by_cases h0:0<=i
 ·rw[if_pos h0] at h
  by_cases h1:i<n
  ·rw[if_pos h1] at h
   have e:i.toNat=j:=Option.some.inj h
   exact⟨by rw[seqIndex_of h0 h1,e],by omega,by omega,h1⟩
  ·rw[if_neg h1] at h;cases h
 ·rw[if_neg h0] at h
  by_cases h1: -(n:Int)<=i
  ·rw[if_pos h1] at h
   have e:(i+n).toNat=j:=Option.some.inj h
   exact⟨by rw[seqIndex_neg (by omega) h1,e],by omega,h1,by omega⟩
  ·rw[if_neg h1] at h;cases h
theorem jM {α:Type}{xs:List α}{i:Int}{v:α}(h:atI xs i=some v): ∃j,seqIndex? i xs.length=some j/\xs[j]?=some v/\j<xs.length/\ -(xs.length:Int)<=i/\i<xs.length:=by
 unfold atI at h
 cases e:ixN xs.length i with
 |none=>rw[e] at h;cases h
 |some j=>
  rw[e] at h
  obtain⟨h1,h2,h3,h4⟩:=mF e
  exact⟨j,h1,h,h2,h3,h4⟩
theorem rQ {α:Type}{xs:List α}{j:Nat}{v:α}(h:xs[j]?=some v):atI xs (j:Int)=some v:=by
 have hj:j<xs.length:=(List.getElem?_eq_some_iff.mp h).1
 have e:ixN xs.length (j:Int)=some j:=by
  unfold ixN
  rw[if_pos (by omega),if_pos (by omega)];simp
 unfold atI;rw[e];exact h
noncomputable def jN (b:Expr):Prop:= ∀o i,subscripted b false o i=operate [o,i] (getItem o i)
def IxR (X:Cx)(r:R2):Prop:=
 ∀ (value slice:Expr) (pins:List (Addr×Obj)) (s:Shared) (σ:St) (H:Hp) (x y:V) (v u:Value) (Q:VK),Inv X pins σ H s->RelV x v->RelV y u->r x y H Q->
   subscripted slice false v u=operate [v,u] (getItem v u)->wpAny (model X.prog X.w) X.A (subscriptTail value slice v u) (EP X pins σ Q) X.xe s
def MtR (X:Cx)(id:String)(r:V->List V->Hp->VK->Prop):Prop:=
 ∀ (pins:List (Addr×Obj)) (s:Shared) (σ:St) (H:Hp) (x:V) (xs:List V) (v:Value) (us:List Value) (Q:VK),Inv X pins σ H s->RelV x v->Vals xs us->r x xs H Q->
   wpAny (model X.prog X.w) X.A (call (.builtin id) (v::us)) (EP X pins σ Q) X.xe s
section
variable {X:Cx}{a b:Expr}{ta tb:TE}{pos:Pos}
theorem IxR.or {r r':R2}(h:IxR X r)(h':IxR X r'):IxR X (fun x y H Q=>r x y H Q\/r' x y H Q):=by
 intro value slice pins s σ H x y v u Q I rx ry q hs
 rcases q with q|q
 ·exact h value slice pins s σ H x y v u Q I rx ry q hs
 ·exact h' value slice pins s σ H x y v u Q I rx ry q hs
theorem r6 {r:R2}(hr:IxR X r)(ha:PE X a ta)(hb:PE X b tb)(hs:jN b):PE X (.Subscript a b pos) (tOp r ta tb):=by
 intro pins s σ H Q I h
 exact Subscript_ (binT ha hb I h fun v u s2 x y H2 I2 rx ry q=>hr a b pins s2 σ H2 x y v u Q I2 rx ry q (hs _ _))
def rIxL (K:PySem.W.Frag):R2:=fun x y H Q=> ∃p xs i v,x=.ref p/\y=.int i/\SqL K H p xs/\atI xs i=some v/\Q v H
def rIxT (K:PySem.W.Frag):R2:=fun x y H Q=> ∃p xs i v,x=.ref p/\y=.int i/\SqT K H p xs/\atI xs i=some v/\Q v H
def rIxS:R2:=fun x y H Q=> ∃z i c,x=.str z/\y=.int i/\z.length<=sizeLine/\atI z.cps.toList i=some c/\Q (.str ⟨#[c]⟩) H
theorem ix_list:IxR X (rIxL X.K):=by
 intro value slice pins s σ H x y v u Q I rx ry h hs
 obtain⟨p,xs,i,z,rfl,rfl,hq,he,q⟩:=h
 cases rx
 obtain⟨t,rfl⟩:=ry
 obtain⟨its,r,pl,hz⟩:=I.list hq
 obtain⟨j,h1,h2,h3,h4,h5⟩:=jM he
 obtain⟨w,ew,rw'⟩:=r.get h2
 have hl:=r.length
 have hn:=fj
 have fin:EP X pins σ Q w s:=⟨z,H,I,rw',q⟩
 by_cases h0:0<=i
 ·have hj:i.toNat=j:=by
   rw[seqIndex_of h0 h5] at h1
   exact Option.some.inj h1
  exact item_listR pl.isList h0 (by omega) (by rw[hj];simpa using ew) fin hs
 ·have hj:(i+(its.toArray.size:Int)).toNat=j:=by
   rw[seqIndex_neg (by omega) h4] at h1
   rw[List.size_toArray,<-hl]
   exact Option.some.inj h1
  exact subscriptTail_builtinR (x:=w) pl.isList.typeIs slot_list_getitem.lookup
   (wpAny_getItem_list_neg (Q:=fun r s'=>r=w/\EP X pins σ Q r s') pl.isList (by omega) (by rw[List.size_toArray]<;>omega) (by omega) (by rw[hj];simpa using ew) ⟨rfl,fin⟩) hs
theorem ix_tup:IxR X (rIxT X.K):=by
 intro value slice pins s σ H x y v u Q I rx ry h hs
 obtain⟨p,xs,i,z,rfl,rfl,hq,he,q⟩:=h
 cases rx
 obtain⟨t,rfl⟩:=ry
 obtain⟨its,r,pl,hz⟩:=I.tuple hq
 obtain⟨j,h1,h2,h3,h4,h5⟩:=jM he
 obtain⟨w,ew,rw'⟩:=r.get h2
 have hl:=r.length
 have hn:=fj
 have fin:EP X pins σ Q w s:=⟨z,H,I,rw',q⟩
 exact subscriptTail_builtinR (x:=w) pl.typeIs slot_tuple_getitem.lookup
  (getItem_tuple (j:=j) (Q:=fun r s'=>r=w/\EP X pins σ Q r s') pl (by omega) (by omega) (by rw[List.size_toArray,<-hl];exact h1) (by simpa using ew) ⟨rfl,fin⟩) hs
theorem tX:IxR X rIxS:=by
 intro value slice pins s σ H x y v u Q I rx ry h hs
 obtain⟨z,i,c,rfl,rfl,hz,he,q⟩:=h
 obtain⟨t,rfl⟩:=rx
 obtain⟨t',rfl⟩:=ry
 obtain⟨j,h1,h2,h3,h4,h5⟩:=jM he
 have hl:z.cps.toList.length=z.length:=by simp [Str.length]
 rw[hl] at h1 h4 h5
 have hn:=fj
 exact tail_any (typeIs_str s z t) slot_str_getitem.lookup (getItem_str (c:=c) (by
  have e1:decide (i< -(2 ^ 63:Int))=false:=decide_eq_false (by omega)
  have e2:decide (i≥2 ^ 63)=false:=decide_eq_false (by omega)
  rw[e1,e2,Bool.or_false]) (by rw[h1];simpa using h2) ⟨.str ⟨#[c]⟩,H,I.tok _,⟨_,rfl⟩,q⟩) hs
def rIx (K:PySem.W.Frag):R2:=fun x y H Q=>rIxL K x y H Q\/rIxT K x y H Q\/rIxS x y H Q
theorem ix_seq:IxR X (rIx X.K):=ix_list.or (ix_tup.or tX)
theorem lI (its:List Value)(n j:Nat)(u:Value):Obj.mapSeq (·.setIfInBounds j u) {cls:=.type "list",data:=.seq its.toArray n}={cls:=.type "list",data:=.seq (its.set j u).toArray n}:=by
 simp [Obj.mapSeq]
theorem Inv.lst {pins:List (Addr×Obj)}{σ:St}{H:Hp}{s:Shared}{p:Addr}{xs:List V}(I:Inv X pins σ H s)(h:H p=some (.lst xs)):
  ∃ (its:List Value) (n:Nat),Vals xs its/\s.heap.get? p=some {cls:=.type "list",data:=.seq its.toArray n}/\xs.length<=sizeLine:=by
 obtain⟨z,its,n,r,e⟩:=I.hok p _ h
 exact⟨its,n,r,e,z⟩
theorem Inv.lstUpd {pins:List (Addr×Obj)}{σ:St}{H:Hp}{s:Shared}{p:Addr}{xs ys:List V}{its its':List Value}{n n':Nat}{f:Obj->Obj}(I:Inv X pins σ H s)(h:H p=some (.lst xs))
  (ho:s.heap.get? p=some {cls:=.type "list",data:=.seq its.toArray n})(hf:f {cls:=.type "list",data:=.seq its.toArray n}={cls:=.type "list",data:=.seq its'.toArray n'})(r:Vals ys its')(hz:ys.length<=sizeLine)(t:Nat):
  Inv X pins σ (upd H p (.lst ys)) {s with heap:=s.heap.update p f,toks:=t}:=by
 have e:(s.heap.update p f).get? p=some {cls:=.type "list",data:=.seq its'.toArray n'}:=by
  rw[Heap.get?_update_self f ho (by rw[hf]<;>rfl),hf]
 refine I.write (x:=p) (e:=p) (by rw[h];trivial) (.inl rfl) (fun b u hb q=>(Heap.get?_update_other _ _ (Ne.symm hb)).trans q) ⟨_,e⟩ ?_
 exact⟨hz,its',n',r,e⟩
def rSetL:V->V->V->Hp->(Hp->Prop)->Prop:=fun o i v H Q=> ∃p xs k j,o=.ref p/\i=.int k/\H p=some (.lst xs)/\ixN xs.length k=some j/\Q (upd H p (.lst (xs.set j v)))
theorem set_list:PSet X rSetL:=by
 intro pins s σ H o i v ov iv u Q I ro ri rv h
 obtain⟨p,xs,k,j,rfl,rfl,hp,hj,q⟩:=h
 cases ro
 obtain⟨t,rfl⟩:=ri
 obtain⟨its,n,r,ho,hz⟩:=I.lst hp
 obtain⟨h1,h2,h3,h4⟩:=mF hj
 have hl:=r.length
 have hn:=fj
 have I':Inv X pins σ (upd H p (.lst (xs.set j v))) {s with heap:=s.heap.update p (Obj.mapSeq (·.setIfInBounds j u))}:=
  I.lstUpd hp ho (lI its n j u) (r.set rv j) (by rw[List.length_set];exact hz) s.toks
 by_cases h0:0<=k
 ·have hk:k.toNat=j:=by
   rw[seqIndex_of h0 h4] at h1
   exact Option.some.inj h1
  exact PySem.W.ki_setAt ho h0 (by omega) (by rw[List.size_toArray,<-hl];exact h4) (by rw[hk];exact⟨_,I',q⟩)
 ·have hk:(k+(its.toArray.size:Int)).toNat=j:=by
   rw[seqIndex_neg (by omega) h3] at h1
   rw[List.size_toArray,<-hl]
   exact Option.some.inj h1
  exact PySem.W.ki_setBack ho (by omega) (by rw[List.size_toArray,<-hl];exact h3) (by omega) (by rw[hk];exact⟨_,I',q⟩)
theorem je (lo hi:Option Int)(n:Nat):(sliceBounds lo hi none n).1=((HT.sIx n 0 lo:Nat):Int)/\(sliceBounds lo hi none n).2.1=((HT.sIx n n hi:Nat):Int)/\(sliceBounds lo hi none n).2.2=1:=by
 refine⟨?_,?_,rfl⟩
 ·cases lo with
  |none=>simp [sliceBounds,HT.sIx]
  |some i=>
   simp only[sliceBounds,HT.sIx,Option.getD_none,show (1:Int)>0 by decide,if_true]
   by_cases h:i<0
   ·simp only[h,if_true]<;>omega
   ·simp only[h,if_false]<;>omega
 ·cases hi with
  |none=>simp [sliceBounds,HT.sIx]
  |some i=>
   simp only[sliceBounds,HT.sIx,Option.getD_none,show (1:Int)>0 by decide,if_true]
   by_cases h:i<0
   ·simp only[h,if_true]<;>omega
   ·simp only[h,if_false]<;>omega
theorem iJ (its:List Value)(lo hi:Option Int):slicePick its.toArray lo hi none=((its.drop (HT.sIx its.length 0 lo)).take (HT.sIx its.length its.length hi - HT.sIx its.length 0 lo)).toArray:=by
 obtain⟨h1,h2,h3⟩:=je lo hi its.toArray.size
 unfold slicePick
 rw[h1,h2,h3]
 simp only[sliceRange_one,pick_run,List.size_toArray]<;>rfl
def rSlL (K:PySem.W.Frag):V->Option Int->Option Int->Hp->VK->Prop:=fun x lo hi H Q=> ∃a xs,x=.ref a/\SqL K H a xs/\ ∀p,H p=none->Q (.ref p) (upd H p (.lst (cutV xs lo hi)))
theorem qu:SlR X (rSlL X.K):=by
 intro pins s σ H x v vl vu lo hi sl Q I rx hs pl pu h
 obtain⟨a,xs,rfl,hx,q⟩:=h
 cases rx
 obtain⟨its,r,ht,hz⟩:=I.list hx
 have hlen:=r.length
 refine⟨"list",_,slot_list_getitem.lookup,ht.isList.typeIs,?_⟩
 refine wpAny_getItem_list_slice ht.isList hs pl pu .none (by simp) ?_ (by rw[List.size_toArray]<;>omega)
 rw[iJ,<-hlen]
 refine⟨.ref s.heap.objs.size,_,I.laid (t':=s.toks) (o:=.lst (cutV xs lo hi)) (fun b ob q=>Heap.get?_push_of_some _ q) (Nat.le_refl _) ?_,rfl,q _ (I.hok.fresh (Nat.le_refl _))⟩
 exact⟨Nat.le_trans (gy xs lo hi) hz,_,0,(r.drop (HT.sIx xs.length 0 lo)).take (HT.sIx xs.length xs.length hi - HT.sIx xs.length 0 lo),Heap.get?_push_size _ rfl⟩
noncomputable def eqV:V->V->Bool
 |.non,.non=>true
 |.bl a,.bl b=>a==b
 |.bl a,.int b=>(if a then 1 else 0)==b
 |.int a,.bl b=>a==(if b then 1 else 0)
 |.int a,.int b=>a==b
 |.str a,.str b=>a==b
 |_,_=>false
def inV (x:V)(xs:List V):Bool:=xs.any fun y=>eqV y x
theorem jK:CallR X (.builtin "len") (fun xs H Q=> ∃p ys,xs=[.ref p]/\(SqL X.K H p ys\/SqT X.K H p ys)/\Q (.int ys.length) H):=by
 intro pins s σ H xs us Q I r h
 obtain⟨p,ys,rfl,hq,q⟩:=h
 obtain⟨u,rfl,rx⟩:=vals1 r
 cases rx
 have hn:=fj
 rcases hq with hq|hq
 ·obtain⟨its,r',pl,hz⟩:=I.list hq
  have hlen:=r'.length
  exact Calls.call_len_list pl.isList (by simp only[List.size_toArray]<;>omega) ⟨.int ys.length,H,I.tok _,⟨s.toks+1,by rw[List.size_toArray,hlen]⟩,q⟩
 ·obtain⟨its,r',pl,hz⟩:=I.tuple hq
  have hlen:=r'.length
  exact len_tuple pl (by simp only[List.size_toArray]<;>omega) ⟨.int ys.length,H,I.tok _,⟨s.toks+1,by rw[List.size_toArray,hlen]⟩,q⟩
theorem call_len_str:CallR X (.builtin "len") (fun xs H Q=> ∃z,xs=[.str z]/\z.length<=sizeLine/\Q (.int z.length) H):=by
 intro pins s σ H xs us Q I r h
 obtain⟨z,rfl,hz,q⟩:=h
 obtain⟨u,rfl,t,rfl⟩:=vals1 r
 have hn:=fj
 exact len_str (by omega) ⟨.int z.length,H,I.tok _,⟨_,rfl⟩,q⟩
theorem CallR.or {f:Value}{r r':List V->Hp->VK->Prop}(h:CallR X f r)(h':CallR X f r'):CallR X f (fun xs H Q=>r xs H Q\/r' xs H Q):=by
 intro pins s σ H xs us Q I rs q
 rcases q with q|q
 ·exact h pins s σ H xs us Q I rs q
 ·exact h' pins s σ H xs us Q I rs q
theorem jJ:CallR X (.type "list") (fun xs H Q=> ∃p ys,xs=[.ref p]/\(SqL X.K H p ys\/SqT X.K H p ys)/\ ∀l,H l=none->Q (.ref l) (upd H l (.lst ys))):=by
 intro pins s σ H xs us Q I r h
 obtain⟨p,ys,rfl,hq,q⟩:=h
 obtain⟨u,rfl,rx⟩:=vals1 r
 cases rx
 have fin: ∀ (its:List Value),Vals ys its->ys.length<=sizeLine-> ∀ (h':Heap) (c':Nat),(∀b o',s.heap.get? b=some o'->h'.get? b=some o')->
   h'.get? s.heap.objs.size=some {cls:=.type "list",dict:=none,data:=.seq its.toArray c',slots:= #[]}->EP X pins σ Q (.ref s.heap.objs.size) {s with heap:=h'}:=fun its r' hz h' c' kp e=>
  ⟨.ref s.heap.objs.size,_,I.laid (t':=s.toks) kp (Nat.le_refl _) (show ObjOk X.prog X.w _ h' _ (.lst ys) from⟨hz,its,c',r',e⟩),rfl,q _ (I.hok.fresh (Nat.le_refl _))⟩
 rcases hq with hq|hq
 ·obtain⟨its,r',pl,hz⟩:=I.list hq
  have hlen:=r'.length
  obtain⟨o,ho,hc,n,hd⟩:=pl.isList
  exact call_list_seq p (.inl rfl) ho hc hd (fun h' c' kp e=>fin its r' hz h' c' kp e) (by simp only[List.size_toArray]<;>omega)
 ·obtain⟨its,r',pl,hz⟩:=I.tuple hq
  have hlen:=r'.length
  obtain⟨o,ho,hc,n,hd⟩:=pl
  exact call_list_seq p (.inr rfl) ho hc hd (fun h' c' kp e=>fin its r' hz h' c' kp e) (by simp only[List.size_toArray]<;>omega)
theorem iP:CallR X (.type "tuple") (fun xs H Q=> ∃p ys,xs=[.ref p]/\((SqL X.K H p ys/\ ∀l,H l=none->Q (.ref l) (upd H l (.tup ys)))\/(SqT X.K H p ys/\Q (.ref p) H))):=by
 intro pins s σ H xs us Q I r h
 obtain⟨p,ys,rfl,h⟩:=h
 obtain⟨u,rfl,rx⟩:=vals1 r
 cases rx
 rcases h with⟨hq,q⟩|⟨hq,q⟩
 ·obtain⟨its,r',pl,hz⟩:=I.list hq
  have hlen:=r'.length
  refine call_tuple_list pl.isList (fun h' kp=>?_) (by simp only[List.size_toArray]<;>omega)
  have I1:Inv X pins σ H {s with heap:=h'}:=I.kept (t':=s.toks) kp
  have I2:Inv X pins σ (upd H h'.objs.size (.tup ys)) {s with heap:=h'.push {cls:=.type "tuple",data:=.seq its.toArray}}:=
   I1.laid (t':=s.toks) (fun b o e=>Heap.get?_push_of_some _ e) (Nat.le_refl _) (show ObjOk X.prog X.w _ _ _ (.tup ys) from⟨hz,its,r',IsTupD.new _ _⟩)
  exact⟨.ref h'.objs.size,_,I2,rfl,q _ (I1.hok.fresh (Nat.le_refl _))⟩
 ·obtain⟨its,r',pl,hz⟩:=I.tuple hq
  exact call_tuple_same pl ⟨.ref p,H,I,rfl,q⟩
def tyV (K:PySem.W.Frag)(T:String)(x:V)(H:Hp):Prop:=match x with
 |.str _=>T= "str"
 |.int _=>T= "int"
 |.ref p=>(T= "list"/\ ∃xs,SqL K H p xs)\/(T= "tuple"/\ ∃o,K.lookup p=some o/\o.cls=.type "tuple"/\o.dict=none)\/
  (T= "dict"/\((∃kvs,H p=some (.dK kvs))\/ ∃kvs,H p=some (.dT kvs)))\/(T= "set"/\ ∃S n,H p=some (.set S n))
 |_=>False
theorem sj {pins:List (Addr×Obj)}{σ:St}{H:Hp}{s:Shared}{T:String}{x:V}{v:Value}(I:Inv X pins σ H s)(r:RelV x v)(ty:tyV X.K T x H):
  s.TypeIs v T/\ ∀a,v=.ref a-> ∃ob,s.heap.get? a=some ob/\ob.dict=none:=by
 cases x with
 |str z=>
  obtain⟨t,rfl⟩:=r
  cases (show T= "str" from ty)
  exact⟨typeIs_str s z t,fun _ e=>nomatch e⟩
 |int i=>
  obtain⟨t,rfl⟩:=r
  cases (show T= "int" from ty)
  exact⟨typeIs_int s i t,fun _ e=>nomatch e⟩
 |ref p=>
  cases r
  rcases ty with⟨rfl,xs,hq⟩|⟨rfl,o,hk,hc,hd⟩|⟨rfl,hk⟩|⟨rfl,S,n,hk⟩
  ·obtain⟨its,_,pl,_⟩:=I.list hq
   refine⟨pl.isList.typeIs,fun a e=>?_⟩
   cases e
   obtain⟨o,n,e,c,hd,_⟩:=pl
   exact⟨o,e,hd⟩
  ·refine⟨⟨o,I.kIn p o hk,hc⟩,fun a e=>?_⟩
   cases e
   exact⟨o,I.kIn _ o hk,hd⟩
  ·have z: ∃o,s.heap.get? p=some o/\o.ExactDict:=by
    rcases hk with⟨kvs,hk⟩|⟨kvs,hk⟩
    ·obtain⟨_,_,_,_,o,_,_,e,ex,_⟩:=I.hok p _ hk
     exact⟨o,e,ex⟩
    ·obtain⟨_,_,_,_,o,_,_,e,ex,_⟩:=I.hok p _ hk
     exact⟨o,e,ex⟩
   obtain⟨o,e,ex⟩:=z
   refine⟨⟨o,e,ex.1⟩,fun a e2=>?_⟩
   cases e2
   exact⟨o,e,ex.2.1⟩
  ·obtain⟨o,_,_,_,e,ex,_⟩:=I.hok p _ hk
   refine⟨⟨o,e,ex.1⟩,fun a e2=>?_⟩
   cases e2
   exact⟨o,e,ex.2.1⟩
 |_=>exact False.elim ty
def tBM (K:PySem.W.Frag)(T:String)(r:V->List V->Hp->VK->Prop)(to:TE)(t:TA):TE:=fun σ H Q=>to σ H fun x H1=>tyV K T x H1/\t σ H1 fun xs H2=>r x xs H2 Q
variable {o e:Expr}{es:List Expr}{to:TE}{t:TA}{name:Str}{apos cpos:Pos}{T id:String}{r:V->List V->Hp->VK->Prop}
theorem r9 (pa:PlainAttrs T)(slot:Slot T name id)(hty:typeOf (.builtin id)=pure (.type "method_descriptor"))(hm:MtR X id r)(ho:PE X o to)(ha:PA X (e::es) t)
  (hbase:attributeBase o name X.env (eval o X.env)=eval o X.env:=by rfl)
  (hfew:((backTo cpos (starEach (e::es) X.env)).all (fun x=>!x.1) && (backToKw cpos (keywordEach [] X.env)).all (fun x=>x.1.isSome)
   && decide ((e::es).length+([]:List Keyword).length+(if ([]:List Keyword).isEmpty then 0 else 1)<30))=true:=by rfl)
  (hline:(apos.endLine==cpos.line)=true:=by rfl)(hs:starEach (e::es) X.env=(false,eval e X.env)::starEach es X.env:=by rfl)(hplain:(backTo cpos (starEach es X.env)).any (·.1)=false:=by rfl):
  PE X (.Call (.Attribute o name apos) (e::es) [] cpos) (tBM X.K T r to t):=by
 intro pins s σ H Q I h
 refine wpAny_Call_method_late hbase hfew hline rfl (thn (ho pins s σ H _ I h) fun v s1 qz=>?_)
 obtain⟨x,H1,I1,r1,ty,q1⟩:=qz
 obtain⟨h1,h2⟩:=sj I1 r1 ty
 refine⟨T,id,pa,slot,hty,h1,h2,?_⟩
 have hA:=ha cpos pins s1 σ H1 _ I1 q1
 rw[hs] at hA ⊢
 refine Calls.callWith_builtin (by show (false||(backTo cpos (starEach es X.env)).any (·.1))=false;rw[hplain]<;>rfl) (Calls.evalArgs_plain ?_)
 exact thn hA fun us s2 ⟨vs,H2,I2,r2,q2⟩=>hm pins s2 σ H2 x vs v us Q I2 r1 r2 q2
end
end L2
namespace L2
open PySem PySem.Spec PyProof.Rows
def MtM (X:Cx)(id:String)(r:V->List V->Hp->VK->Prop):Prop:=
 ∀ (pins:List (Addr×Obj)) (s:Shared) (σ:St) (H:Hp) (x:V) (xs:List V) (v:Value) (us:List Value) (Q:VK),Inv X pins σ H s->RelV x v->Vals xs us->r x xs H Q->
   wpAny (model X.prog X.w) X.A (call (.builtin id) (v::us)) (EP X pins σ Q) X.xe s
theorem Vals.one: ∀ {x:V}{us:List Value},Vals [x] us-> ∃u,us=[u]/\RelV x u
 :=by
 intro x us h
 cases h with
 |cons r q=>cases q;exact⟨_,rfl,r⟩
theorem Vals.two: ∀ {x y:V}{us:List Value},Vals [x,y] us-> ∃u v,us=[u,v]/\RelV x u/\RelV y v
 :=by
 intro x y us h
 cases h with
 |cons r q=>
  cases q with
  |cons q z=>cases z;exact⟨_,_,rfl,r,q⟩
theorem Vals.rep {xs:List V}{us:List Value}(h:Vals xs us): ∀k:Nat,Vals (List.replicate k xs).flatten (List.replicate k us).flatten
 |0=>.nil
 |k+1=>by
  rw[List.replicate_succ,List.replicate_succ,List.flatten_cons,List.flatten_cons]
  exact Vals.append h (Vals.rep h k)
theorem i4 (its:List Value): ∀ (k:Nat) (acc:List Value),
  List.foldl (fun x1 x2=>x1++x2) acc.toArray (List.replicate k its.toArray)=(acc++(List.replicate k its).flatten).toArray
 |0,acc=>by simp
 |k+1,acc=>by
  have e:acc.toArray++its.toArray=(acc++its).toArray:=by simp
  have e2:(acc++its)++(List.replicate k its).flatten=acc++(List.replicate (k+1) its).flatten:=by
   rw[List.replicate_succ,List.flatten_cons,List.append_assoc]
  rw[<-e2,<-i4 its k (acc++its),<-e,List.replicate_succ,List.foldl_cons]
section
variable {X:Cx}{pins:List (Addr×Obj)}{σ:St}{H:Hp}{s:Shared}{l b:Addr}{xs ys zs:List V}
theorem Inv.lset {its its':List Value}{n:Nat}{f:Array Value->Array Value}{t':Nat}(I:Inv X pins σ H s)(hH:H l=some (.lst xs))
  (e:s.heap.get? l=some {cls:=.type "list",data:=.seq its.toArray n})(hf:f its.toArray=its'.toArray)(hv:Vals ys its')(hz:ys.length<=sizeLine):
  Inv X pins σ (upd H l (.lst ys)) {s with heap:=s.heap.update l (Obj.mapSeq f),toks:=t'}:=by
 have q:=PySem.IsL.update e f
 rw[hf] at q
 refine I.write (x:=l) (e:=l) (by rw[hH];exact trivial) (.inl rfl) (fun b' u hb hu=>(Heap.get?_update_other s.heap (Obj.mapSeq f) (Ne.symm hb)).trans hu) ⟨_,q⟩ ?_
 exact⟨hz,its',_,hv,q⟩
theorem Inv.lnew {its:List Value}{t':Nat}(I:Inv X pins σ H s)(hv:Vals ys its)(hz:ys.length<=sizeLine):
  Inv X pins σ (upd H s.heap.objs.size (.lst ys)) {s with heap:=s.heap.push {cls:=.type "list",data:=.seq its.toArray},toks:=t'}:=
 I.laid (fun _ _ q=>Heap.get?_push_of_some _ q) (Nat.le_refl _) ⟨hz,its,0,hv,Heap.get?_push_size _ rfl⟩
theorem Inv.fresh (I:Inv X pins σ H s):H s.heap.objs.size=none:=I.hok.fresh (Nat.le_refl _)
theorem Inv.lstM (I:Inv X pins σ H s)(hH:H l=some (.lst xs)):xs.length<=sizeLine/\ ∃ (its:List Value) (n:Nat),Vals xs its/\xs.length=its.length/\s.heap.get? l=some {cls:=.type "list",data:=.seq its.toArray n}:=by
 obtain⟨z,its,n,r,e⟩:=I.hok l _ hH
 exact⟨z,its,n,r,r.length,e⟩
theorem kj {n:Nat}(h:n<=sizeLine):Builtin.List.listTooLong n=false:=by
 unfold Builtin.List.listTooLong
 exact decide_eq_false (by omega)
end
section
variable {X:Cx}
def qD:V->List V->Hp->VK->Prop:=fun x vs H Q=> ∃l xs y,x=.ref l/\vs=[y]/\H l=some (.lst xs)/\xs.length<sizeLine/\Q .non (upd H l (.lst (xs++[y])))
theorem nH:MtM X "list.append" qD:=by
 intro pins s σ H x vs v us Q I rx rv h
 obtain⟨l,xs,y,rfl,rfl,hH,hz,q⟩:=h
 cases rx
 obtain⟨u,rfl,ru⟩:=rv.one
 obtain⟨z,its,n,r,hl,e⟩:=I.lstM hH
 refine call_meets F.slot_list_append ⟨_,e,rfl⟩ F.entry_list_append (F.args_list_append_2 _ _) (PySem.list_append l its.toArray n u (by rw[List.size_toArray];omega)) ⟨e,?_⟩
 refine⟨.non,_,I.lset (its':=its++[u]) hH e (by simp) (r.append (.cons ru .nil)) ?_,rfl,q⟩
 rw[List.length_append,List.length_singleton]
 omega
def qC:V->List V->Hp->VK->Prop:=fun x vs H Q=> ∃l b xs zs,x=.ref l/\vs=[.ref b]/\H l=some (.lst xs)/\H b=some (.lst zs)/\xs.length+zs.length<=sizeLine/\Q .non (upd H l (.lst (xs++zs)))
theorem nG:MtM X "list.extend" qC:=by
 intro pins s σ H x vs v us Q I rx rv h
 obtain⟨l,b,xs,zs,rfl,rfl,hH,hB,hz,q⟩:=h
 cases rx
 obtain⟨u,rfl,ru⟩:=rv.one
 cases ru
 obtain⟨z,its,n,r,hl,e⟩:=I.lstM hH
 obtain⟨z2,its2,n2,r2,hl2,e2⟩:=I.lstM hB
 have hsz:its.toArray.size+its2.toArray.size<=sizeLine:=by rw[List.size_toArray,List.size_toArray];omega
 have hlong: ¬(!its.toArray.isEmpty && Builtin.List.listTooLong (its.toArray.size+its2.toArray.size))=true:=by
  rw[kj hsz,Bool.and_false]
  exact Bool.false_ne_true
 refine call_meets F.slot_list_extend ⟨_,e,rfl⟩ F.entry_list_extend (F.args_list_extend_2 _ _)
  (AutoSeq1.list_extend_list_list_0 l its.toArray n b its2.toArray n2 hlong (by rw[List.size_toArray];omega) (by omega)) ⟨e,e2,?_⟩
 refine⟨.non,_,I.lset (its':=its++its2) hH e (by simp) (r.append r2) ?_,rfl,q⟩
 rw[List.length_append]
 omega
def rCat:R2:=fun x y H Q=> ∃l b xs zs,x=.ref l/\y=.ref b/\H l=some (.lst xs)/\H b=some (.lst zs)/\xs.length+zs.length<=sizeLine/\ ∀p,H p=none->Q (.ref p) (upd H p (.lst (xs++zs)))
theorem tq:OpR X (binaryOp .Add) rCat:=by
 intro pins s σ H x y v u Q I rx ry h
 obtain⟨l,b,xs,zs,rfl,rfl,hH,hB,hz,q⟩:=h
 cases rx
 cases ry
 obtain⟨z,its,n,r,hl,e⟩:=I.lstM hH
 obtain⟨z2,its2,n2,r2,hl2,e2⟩:=I.lstM hB
 refine PySem.P.add_list e e2 ?_ (by rw[List.size_toArray,List.size_toArray];omega)
 have ea:its.toArray++its2.toArray=(its++its2).toArray:=by simp
 rw[ea]
 exact⟨.ref _,_,I.lnew (t':=s.toks) (r.append r2) (by rw[List.length_append];omega),rfl,q _ I.fresh⟩
def rRep:R2:=fun x y H Q=> ∃l k xs,x=.ref l/\y=.int k/\H l=some (.lst xs)/\ -(2 ^ 63)<=k/\k<2 ^ 63/\xs.length * k.toNat<=sizeLine/\
 ∀p,H p=none->Q (.ref p) (upd H p (.lst (List.replicate k.toNat xs).flatten))
theorem rC {α:Type}(xs:List α)(k:Nat):(List.replicate k xs).flatten.length=k * xs.length:=by
 induction k with
 |zero=>simp
 |succ k ih=>rw[List.replicate_succ,List.flatten_cons,List.length_append,ih,Nat.succ_mul,Nat.add_comm]
theorem s9:OpR X (binaryOp .Mult) rRep:=by
 intro pins s σ H x y v u Q I rx ry h
 obtain⟨l,k,xs,rfl,rfl,hH,h1,h2,hz,q⟩:=h
 cases rx
 obtain⟨t,rfl⟩:=ry
 obtain⟨z,its,n,r,hl,e⟩:=I.lstM hH
 have hlen:its.toArray.size * k.toNat<=sizeLine:=by rw[List.size_toArray,<-hl];exact hz
 have hcap: ¬its.toArray.size * k.toNat>(2 ^ 63 - 1) / 8:=by
  have:(sizeLine:Nat)<=(2 ^ 63 - 1) / 8:=by decide
  omega
 have hfit: ¬(!Builtin.List.listFitsIndex k)=true:=by
  rw[fitsIndex_both h1 h2]
  exact Bool.false_ne_true
 have hlong: ¬Builtin.List.listTooLong (its.toArray.size * k.toNat)=true:=by
  rw[kj hlen]
  exact Bool.false_ne_true
 have hnew:List.foldl (fun x1 x2=>x1++x2) #[] (List.replicate (if its.toArray.isEmpty=true then 0 else k.toNat) its.toArray)=(List.replicate k.toNat its).flatten.toArray:=by
  have f0: ∀m:Nat,List.foldl (fun x1 x2=>x1++x2) #[] (List.replicate m its.toArray)=(List.replicate m its).flatten.toArray:=fun m=>by
   have:=i4 its m []
   rw[List.nil_append] at this
   exact this
  rw[f0]
  cases its with
  |nil=>simp
  |cons a r'=>rw[if_neg (by simp)]
 refine wpAny_binaryOp_repeat_ref (T:= "list") (U:= "int") (by decide) ⟨_,e,rfl⟩ (fun s'=>typeIs_int s' k t) noFill_list_mul F.fills_int_mul F.slot_int_rmul repeat_list F.slot_int_index.lookup
  (call_meets F.slot_int_rmul (typeIs_int s k t) F.entry_int_rmul (F.args_int_rmul_2 _ _) (int___rmul___int_list k t l its.toArray n)
   ⟨e,rfl,⟨_,e,rfl⟩,call_meets F.slot_list_mul ⟨_,e,rfl⟩ F.entry_list_mul (F.args_list_mul_2 _ _) (AutoListH.list___mul___list_int_3 l its.toArray n k t hfit hcap hlong) ⟨e,?_⟩⟩)
 rw[hnew]
 exact⟨.ref _,_,I.lnew (t':=s.toks) (r.rep k.toNat) (by rw[rC,Nat.mul_comm];exact hz),rfl,q _ I.fresh⟩
end
section
variable {prog:Program}{w:World}{A:Around}{E:Value->Shared->Prop}{s:Shared}
end
section
variable {X:Cx}
end
end L2
namespace L2
open PySem PySem.Spec PyProof.Rows
section
variable {κ:Type} [DecidableEq κ]
noncomputable def valV (kvs:List (κ×V))(k:κ):Option V:=(kvs.find? fun kv=>decide (kv.1=k)).map (·.2)
noncomputable def putK (kvs:List (κ×V))(k:κ)(v:V):List (κ×V):=
 if (kvs.any fun kv=>decide (kv.1=k))=true then kvs.map (fun kv=>if kv.1=k then (kv.1,v) else kv) else kvs++[(k,v)]
theorem fk {p:κ×V}{r:List (κ×V)}{k:κ}(e:p.1=k):valV (p::r) k=some p.2:=by simp [valV,List.find?_cons,e]
theorem fm {p:κ×V}{r:List (κ×V)}{k:κ}(e:¬p.1=k):valV (p::r) k=valV r k:=by simp [valV,List.find?_cons,e]
theorem gS (k:κ): ∀kvs:List (κ×V),(kvs.any fun kv=>decide (kv.1=k))=(valV kvs k).isSome
 |[]=>rfl
 |p::r=>by
  rw[List.any_cons]
  by_cases e:p.1=k
  ·simp only[fk e,decide_eq_true e,Bool.true_or,Option.isSome_some]
  ·rw[fm e,decide_eq_false e,Bool.false_or];exact gS k r
theorem d4 (kvs:List (κ×V))(k:κ)(v:V):(putK kvs k v).length<=kvs.length+1:=by
 unfold putK
 split
 ·rw[List.length_map];omega
 ·rw[List.length_append,List.length_cons,List.length_nil];omega
theorem RelO.isSome_eq {o:Option V}{u:Option Value}(r:RelO o u):o.isSome=u.isSome:=by
 cases o with
 |none=>cases u with
  |none=>rfl
  |some _=>exact (show False from r).elim
 |some _=>cases u with
  |none=>exact (show False from r).elim
  |some _=>rfl
theorem RelO.getD {o:Option V}{u:Option Value}{d:V}{d':Value}(r:RelO o u)(rd:RelV d d'):RelV (o.getD d) (u.getD d'):=by
 cases o with
 |none=>cases u with
  |none=>exact rd
  |some _=>exact (show False from r).elim
 |some _=>cases u with
  |none=>exact (show False from r).elim
  |some _=>exact r
theorem KV.val {kvs:List (κ×V)}{vs:List (κ×Value)}(r:KV kvs vs)(k:κ):RelO (valV kvs k) (valueAt vs k):=by
 unfold KV at r
 induction r with
 |nil=>exact True.intro
 | @cons p q ps qs h t ih=>
   obtain⟨h1,h2⟩:=h
   by_cases e:p.1=k
   ·have e':q.1=k:=h1.symm.trans e
    have b:valueAt (q::qs) k=some q.2:=by simp [valueAt,List.find?_cons,e']
    rw[fk e,b];exact h2
   ·have e': ¬q.1=k:=fun z=>e (h1.trans z)
    have b:valueAt (q::qs) k=valueAt qs k:=by simp [valueAt,List.find?_cons,e']
    rw[fm e,b];exact ih
theorem KV.any {kvs:List (κ×V)}{vs:List (κ×Value)}(r:KV kvs vs)(k:κ):(kvs.any fun kv=>decide (kv.1=k))=vs.any fun kv=>decide (kv.1=k):=by
 unfold KV at r
 induction r with
 |nil=>rfl
 |cons h t ih=>rw[List.any_cons,List.any_cons,ih,h.1]
theorem KV.repl {kvs:List (κ×V)}{vs:List (κ×Value)}(r:KV kvs vs)(k:κ){y:V}{u:Value}(ry:RelV y u):
  KV (kvs.map fun kv=>if kv.1=k then (kv.1,y) else kv) (vs.map fun kv=>if kv.1=k then (kv.1,u) else kv):=by
 unfold KV at r ⊢
 induction r with
 |nil=>exact .nil
 | @cons p q ps qs h t ih=>
   rw[List.map_cons,List.map_cons]
   refine .cons ?_ ih
   obtain⟨h1,h2⟩:=h
   by_cases e:p.1=k
   ·rw[if_pos e,if_pos (h1.symm.trans e)];exact⟨h1,ry⟩
   ·rw[if_neg e,if_neg (fun z=>e (h1.trans z))];exact⟨h1,h2⟩
theorem KV.put {kvs:List (κ×V)}{vs:List (κ×Value)}(r:KV kvs vs)(k:κ){y:V}{u:Value}(ry:RelV y u):KV (putK kvs k y) (stored vs k u):=by
 unfold putK stored
 rw[r.any k]
 by_cases e:(vs.any fun kv=>decide (kv.1=k))=true
 ·rw[if_pos e,if_pos e];exact r.repl k ry
 ·rw[if_neg e,if_neg e];exact Paired.snoc r ⟨rfl,ry⟩
theorem KV.length {kvs:List (κ×V)}{vs:List (κ×Value)}(r:KV kvs vs):kvs.length=vs.length:=Paired.length r
end
theorem pT {P:Program}{w:World}{k:Key}{u:Value}(r:RelV (kV k) u):(bp P w).is k u=true:=by
 cases k with
 |inl i=>obtain⟨t,e⟩:=(show∃t,u=Value.int i t from r);subst e;exact kr P w i t
 |inr x=>obtain⟨t,e⟩:=(show∃t,u=Value.str x t from r);subst e;exact kq P w x t
theorem gr {P:Program}{w:World}: ∀ {ks:List Key}{us:List Value},Vals (ks.map kV) us->ItemsAre (bp P w) ks us
 |[],_,r=>by rw[List.map_nil] at r;cases r;exact .nil
 |k::ks,_,r=>by
  rw[List.map_cons] at r
  cases r with
  |cons h t=>exact .cons (pT h) (gr t)
noncomputable abbrev KT (H:Hp):List (List Key×V)->List (List Key×Addr×Value)->Prop:=Paired fun p q=>p.1=q.1/\H q.2.1=some (.tup (p.1.map kV))/\RelV p.2 q.2.2
theorem KT.val {H:Hp}{kvs:List (List Key×V)}{xs:List (List Key×Addr×Value)}(r:KT H kvs xs)(k:List Key):RelO (valV kvs k) ((atKey xs k).map (·.2)):=by
 induction r with
 |nil=>exact True.intro
 | @cons p q ps qs h t ih=>
   obtain⟨h1,_,h2⟩:=h
   by_cases e:p.1=k
   ·have e':q.1=k:=h1.symm.trans e
    have b:atKey (q::qs) k=some q.2:=by simp [atKey,List.find?_cons,e']
    rw[fk e,b];exact h2
   ·have e': ¬q.1=k:=fun z=>e (h1.trans z)
    have b:atKey (q::qs) k=atKey qs k:=by simp [atKey,List.find?_cons,e']
    rw[fm e,b];exact ih
theorem KT.repl {H:Hp}{kvs:List (List Key×V)}{xs:List (List Key×Addr×Value)}(r:KT H kvs xs)(k:List Key){y:V}{u:Value}(ry:RelV y u):
  KT H (kvs.map fun kv=>if kv.1=k then (kv.1,y) else kv) (xs.map (putAt k u)):=by
 induction r with
 |nil=>exact .nil
 | @cons p q ps qs h t ih=>
   rw[List.map_cons,List.map_cons]
   refine .cons ?_ ih
   obtain⟨h1,h2,h3⟩:=h
   unfold putAt
   by_cases e:p.1=k
   ·rw[if_pos e,if_pos (h1.symm.trans e)];exact⟨h1,h2,ry⟩
   ·rw[if_neg e,if_neg (fun z=>e (h1.trans z))];exact⟨h1,h2,h3⟩
theorem KT.put {H:Hp}{kvs:List (List Key×V)}{xs:List (List Key×Addr×Value)}(r:KT H kvs xs)(k:List Key){b:Addr}{y:V}{u:Value}(hb:H b=some (.tup (k.map kV)))(ry:RelV y u):
  KT H (putK kvs k y) (storedH xs k b u):=by
 have e:(kvs.any fun kv=>decide (kv.1=k))=(atKey xs k).isSome:=by
  rw[gS,(r.val k).isSome_eq,Option.isSome_map]
 unfold putK storedH
 rw[e]
 by_cases q:(atKey xs k).isSome=true
 ·rw[if_pos q,if_pos q];exact r.repl k ry
 ·rw[if_neg q,if_neg q];exact Paired.snoc r ⟨rfl,hb,ry⟩
theorem KT.keeps {H H':Hp}{kvs:List (List Key×V)}{xs:List (List Key×Addr×Value)}(r:KT H kvs xs)(ht: ∀b ys,H b=some (.tup ys)->H' b=some (.tup ys)):KT H' kvs xs:=
 Paired.mapP r fun _ _ z=>⟨z.1,ht _ _ z.2.1,z.2.2⟩
section
variable {P:Program}{w:World}{H:Hp}{h:Heap}{a:Addr}
theorem rZ {u:HO}(ok:HOk P w H h)(e:Rd H a u):ObjOk P w H h a u:=e.ok ok
theorem mL {kvs:List (Key×V)}(ok:HOk P w H h)(e:Rd H a (.dK kvs)):kvs.length<=sizeLine/\(a==sysModules)=false/\ ∃vs,KV kvs vs/\h.DictOf (bp P w) a vs:=
 show ObjOk P w H h a (.dK kvs) from rZ ok e
theorem uR {kvs:List (Key×V)}(ok:HOk P w H h)(e:H a=some (.dK kvs)):kvs.length<=sizeLine/\(a==sysModules)=false/\ ∃vs,KV kvs vs/\h.DictOf (bp P w) a vs:=mL ok (.inl e)
theorem lK {ks:List Key}(ok:HOk P w H h)(e:H a=some (.tup (ks.map kV))):(tupleKind (bp P w)).is h ks a:=by
 obtain⟨_,its,r,⟨o,h1,h2,n,h3⟩,_⟩:=(show ObjOk P w H h a (.tup (ks.map kV)) from ok a _ e)
 exact⟨o,its.toArray,n,h1,h2,h3,by simpa using gr r⟩
theorem kM {kvs:List (List Key×V)}(ok:HOk P w H h)(e:Rd H a (.dT kvs)):kvs.length<=sizeLine/\(a==sysModules)=false/\
  ∃xs,KT H kvs xs/\h.DictOfH (tupleKind (bp P w)) a xs:=by
 obtain⟨z,y,xs,r,o,es,ep,h1,h2,h3,h4,h5⟩:=(show ObjOk P w H h a (.dT kvs) from rZ ok e)
 refine⟨z,y,xs,r,o,es,ep,h1,h2,h3,h4,fun x hx=>?_,h5⟩
 have all: ∀ {l:List (List Key×V)}{m:List (List Key×Addr×Value)},KT H l m-> ∀x∈m,(tupleKind (bp P w)).is h x.1 x.2.1:=by
  intro l m q
  induction q with
  |nil=>intro x hx;exact nomatch hx
  | @cons p q ps qs hq t ih=>
    intro x hx
    rcases List.mem_cons.mp hx with e|hx
    ·subst e
     exact lK ok (by rw[<-hq.1];exact hq.2.1)
    ·exact ih x hx
 exact all r x hx
theorem uQ {kvs:List (List Key×V)}(ok:HOk P w H h)(e:H a=some (.dT kvs)):kvs.length<=sizeLine/\(a==sysModules)=false/\
 ∃xs,KT H kvs xs/\h.DictOfH (tupleKind (bp P w)) a xs:=kM ok (.inl e)
end
def DGet (H:Hp)(a:Addr)(y:V)(r:Option V):Prop:=
 (∃kvs k,Rd H a (.dK kvs)/\y=kV k/\r=valV kvs k)\/ ∃kvs k b,Rd H a (.dT kvs)/\y=.ref b/\H b=some (.tup (k.map kV))/\r=valV kvs k
def DPut (H:Hp)(a:Addr)(y v:V)(H':Hp):Prop:=
 (∃kvs k,H a=some (.dK kvs)/\y=kV k/\kvs.length<sizeLine/\H'=upd H a (.dK (putK kvs k v)))\/
 ∃kvs k b,H a=some (.dT kvs)/\y=.ref b/\H b=some (.tup (k.map kV))/\kvs.length<sizeLine/\H'=upd H a (.dT (putK kvs k v))
section
variable {X:Cx}{pins:List (Addr×Obj)}{σ:St}{H:Hp}{s:Shared}{a:Addr}{y v:V}{u r:Value}{o:Option V}{A:Around}{E:Value->Shared->Prop}
theorem Inv.big (I:Inv X pins σ H s):sysModules<s.heap.objs.size:=by
 have h:mainGlobals<s.heap.objs.size:=(I.mod.glob.keeps I.bk).lt
 exact Nat.lt_trans (by decide) h
theorem nY {Q:Value->Shared->Prop}(hu:A.units+1<cLine)(I:Inv X pins σ H s)(g:DGet H a y (some v))(ry:RelV y u)(h:∀w' s',Inv X pins σ H s'->RelV v w'->Q w' s'):
  wpAny (model X.prog X.w) A (getItem (.ref a) u) Q E s:=by
 rcases g with⟨kvs,k,e,ey,l⟩|⟨kvs,k,b,e,ey,eb,l⟩
 ·subst ey
  obtain⟨z,hd,vs,rel,dd⟩:=mL I.hok e
  obtain⟨w',hw,rw'⟩:=RelO.some_of (v:=v) (o:=valueAt vs k) (by rw[l];exact rel.val k)
  exact wpAny_getItem_of (pT ry) dd.mapOf hw (h w' _ (I.tok _) rw')
 ·subst ey
  cases (show u=Value.ref b from ry)
  obtain⟨z,hd,xs,rel,dd⟩:=kM I.hok e
  obtain⟨w',hw,rw'⟩:=RelO.some_of (v:=v) (o:=(atKey xs k).map (·.2)) (by rw[l];exact rel.val k)
  obtain⟨p,hp,hp2⟩:=Option.map_eq_some_iff.mp hw
  refine wpAny_getItem_heap (tupleKind_room_in1 hu) (lK I.hok eb) dd hp ?_
  rw[hp2]
  exact h w' _ (I.tok _) rw'
theorem jI {h':Heap}{t':Nat}{ob:HO}(I:Inv X pins σ H s)(mu:Mut (H a))(hs:Heap.SameBut a s.heap h')(he: ∃q,h'.get? a=some q)(new:ObjOk X.prog X.w (upd H a ob) h' a ob):
  Inv X pins σ (upd H a ob) {s with heap:=h',toks:=t'}:=
 I.write (x:=a) (e:=a) mu (.inl rfl) (fun b q hb z=>(hs.2 b hb).trans z) he new
theorem t9 {P:Program}{w:World}{H':Hp}{h':Heap}{kvs:List (Key×V)}{vs:List (Key×Value)}(z:kvs.length<=sizeLine)(hd:(a==sysModules)=false)(rel:KV kvs vs)(dd:h'.DictOf (bp P w) a vs):
 ObjOk P w H' h' a (.dK kvs):=⟨z,hd,vs,rel,dd⟩
theorem nX {H':Hp}{Q:Unit->Shared->Prop}(hu:A.units+1<cLine)(I:Inv X pins σ H s)(g:DPut H a y v H')(ry:RelV y u)(rv:RelV v r)(h:∀s',Inv X pins σ H' s'->Q () s'):
  wpAny (model X.prog X.w) A (setItem (.ref a) u r) Q E s:=by
 rcases g with⟨kvs,k,e,ey,l,eH⟩|⟨kvs,k,b,e,ey,eb,l,eH⟩
 ·subst ey eH
  obtain⟨z,hd,vs,rel,dd⟩:=uR I.hok e
  have hz:vs.length<=sizeLine:=by rw[<-rel.length];exact z
  have hl:(putK kvs k v).length<=sizeLine:=by have:=d4 kvs k v;omega
  refine wpAny_setItem_pairs (hsz:=hz) (pT ry) dd fun h' dd' hs=>h _ ?_
  have he: ∃q,h'.get? a=some q:=let ⟨q,_,_,hq,_⟩:=dd';⟨q,hq⟩
  exact jI I (by rw[e];exact True.intro) hs he (t9 hl hd (rel.put k rv) dd')
 ·subst ey eH
  cases (show u=Value.ref b from ry)
  obtain⟨z,hd,xs,rel,dd⟩:=uQ I.hok e
  have hz:xs.length<=sizeLine:=by rw[<-Paired.length rel];exact z
  have hl:(putK kvs k v).length<=sizeLine:=by have:=d4 kvs k v;omega
  refine wpAny_setItem_heap (hsz:=hz) (tupleKind_room_in1 hu) (lK I.hok eb) dd fun h' dd' hs=>h _ ?_
  obtain⟨q,es,ep,hq,h2,h3,h4,_,h5⟩:=dd'
  refine jI I (by rw[e];exact True.intro) hs ⟨q,hq⟩ ⟨hl,hd,_,(rel.put k eb rv).keeps fun c ys ec=>?_,q,es,ep,hq,h2,h3,h4,h5⟩
  rw[ap (uN ec e (fun z=>nomatch z))]
  exact ec
end
section
variable {X:Cx}{pins:List (Addr×Obj)}{σ:St}{H:Hp}{s:Shared}{a:Addr}{kvs:List (Key×V)}{k:Key}{u:Value}{A:Around}{E:Value->Shared->Prop}
end
theorem kO {X:Cx}{pins:List (Addr×Obj)}{σ:St}{H:Hp}{s:Shared}{a:Addr}{y:V}{o:Option V}(I:Inv X pins σ H s)(g:DGet H a y o):s.TypeIs (.ref a) "dict":=by
 rcases g with⟨kvs,k,e,_,_⟩|⟨kvs,k,b,e,_,_,_⟩
 ·obtain⟨_,_,vs,_,dd⟩:=mL I.hok e
  exact dd.typeIs
 ·obtain⟨_,_,xs,_,dd⟩:=kM I.hok e
  exact dd.typeIs
section
variable {X:Cx}{o i e value:Expr}{pos pos' tpos:Pos}{td ty tv:TE}
end
theorem qa {P:Program}{w:World}{H:Hp}(h:Heap)(hb:sysModules<h.objs.size):ObjOk P w H (h.push {cls:=.type "dict",data:=.dict #[]}) h.objs.size (.dT []):=
 ⟨Nat.zero_le _,beq_eq_false_iff_ne.mpr (Ne.symm (Nat.ne_of_lt hb)),[],.nil,_,#[],0,Heap.get?_push_size _ rfl,⟨rfl,rfl,rfl⟩,rfl,rfl,List.nodup_nil⟩
def sv:TE:=fun _ H Q=> ∀p,H p=none->Q (.ref p) (upd H p (.dT []))
section
variable {X:Cx}{pos:Pos}
theorem pe_dnewT:PE X (.Dict [] [] pos) sv:=fun pins s σ H Q I h=>
 wpAny_Dict_empty ⟨.ref s.heap.objs.size,_,I.laid (a:=s.heap.objs.size) (o:=.dT []) (t':=s.toks) (fun _ _ q=>Heap.get?_push_of_some _ q) (Nat.le_refl _) (qa s.heap I.big),rfl,h _ (I.hok.fresh (Nat.le_refl _))⟩
end
structure M2 (X:Cx)(o:Expr)(m:Str)(apos:Pos)(e f:Expr)(cpos:Pos):Prop where
 base:attributeBase o m X.env (eval o X.env)=eval o X.env
 few:((backTo cpos (starEach [e,f] X.env)).all (fun x=>!x.1) && (backToKw cpos (keywordEach [] X.env)).all (fun x=>x.1.isSome)
  && decide (([e,f]:List Expr).length+([]:List Keyword).length+(if ([]:List Keyword).isEmpty then 0 else 1)<30))=true
 line:(apos.endLine==cpos.line)=true
 trees:backTo cpos (starEach [e,f] X.env)=[(false,eval e X.env),(false,eval f X.env)]
def IsD (H:Hp)(a:Addr):Prop:=(∃kvs,Rd H a (.dK kvs))\/ ∃kvs,Rd H a (.dT kvs)
theorem tY {X:Cx}{pins:List (Addr×Obj)}{σ:St}{H:Hp}{s:Shared}{a:Addr}(I:Inv X pins σ H s)(d:IsD H a):
  s.TypeIs (.ref a) "dict"/\(∀b,Value.ref a=.ref b-> ∃ob,s.heap.get? b=some ob/\ob.dict=none)/\(a==sysModules)=false:=by
 rcases d with⟨kvs,e⟩|⟨kvs,e⟩
 ·obtain⟨_,hd,vs,_,dd⟩:=mL I.hok e
  refine⟨dd.typeIs,fun b q=>?_,hd⟩
  cases q
  obtain⟨ob,_,_,h1,h2,_⟩:=dd
  exact⟨ob,h1,h2.2.1⟩
 ·obtain⟨_,hd,xs,_,dd⟩:=kM I.hok e
  refine⟨dd.typeIs,fun b q=>?_,hd⟩
  cases q
  obtain⟨ob,_,_,h1,h2,_⟩:=dd
  exact⟨ob,h1,h2.2.1⟩
section
variable {X:Cx}{pins:List (Addr×Obj)}{σ:St}{H:Hp}{s:Shared}{a:Addr}{y d:V}{u r:Value}{o:Option V}{A:Around}{E:Value->Shared->Prop}
end
section
variable {X:Cx}{o e f:Expr}{apos cpos:Pos}{td ty tx:TE}
end
section
variable {X:Cx}{pins:List (Addr×Obj)}{σ:St}{H:Hp}{s:Shared}{a:Addr}{kvs:List (Key×V)}{A:Around}{E:Value->Shared->Prop}
end
section
variable {X:Cx}{pins:List (Addr×Obj)}{σ:St}{H:Hp}{s:Shared}{a:Addr}{y:V}{u:Value}{A:Around}{E:Value->Shared->Prop}
end
end L2
namespace Att
open PySem PySem.W PySem.Calls PyProof.Rows
theorem gG {P:Params}{h:Heap}: ∀ (ns:List Int) (vs:List Value),WellAll P h vs (ns.map WData.int)->IntsAre vs ns:=by
 intro ns
 induction ns with
 |nil=>
  intro vs w
  rw[List.map_nil] at w
  cases w
  exact .nil
 |cons n ns ih=>
  intro vs w
  rw[List.map_cons] at w
  cases w with
  |cons a b=>
   cases a
   exact .cons _ _ (ih _ b)
theorem nq {l:OpenLaw}{n:Nat}(hn:l.most=some n){P:Params}{h:Heap}{args:List WData}{vals:List Value}
  (hpre:l.row.toRowW.claim.pre args=true)(hwl:WellAll P h vals args):
  ∃a vs ns,vals=[Value.ref a]/\args=[WData.list (ns.map WData.int)]/\h.get? a=some {cls:=.type "list",data:=.seq vs.toArray}/\IntsAre vs ns/\ns.length<=n:=by
 have hsh:WShape.hasAll [] args [.list .int]=true:=(pre_splitW hpre).1
 have hc:l.pre.holds [] {args:=args}=true:=(pre_splitW hpre).2
 obtain⟨d,r,rfl,h1,h2⟩:=hasAllW_cons hsh
 obtain rfl:=hasAllW_nil h2
 obtain⟨xs,rfl,h3⟩:=hasW_list h1
 obtain⟨ns,rfl⟩:=items_int h3
 have hlen:ns.length<=n:=by
  unfold OpenLaw.pre at hc
  have h4:(WTm.not (.lt (.lit (.int (n:Int))) (.len (.arg 0)))).holds [] {args:=[.list (ns.map .int)]}=true:=by
   have h4:=(holds_andW hc).1
   rw[hn] at h4
   exact h4
  have h5:=condW_of h4 (w_not (w_lt w_lit (w_len_list (w_arg rfl))))
  rw[List.length_map] at h5
  refine Nat.le_of_not_lt fun q=>?_
  have q':(n:Int)<((ns.length:Nat):Int):=by omega
  first
   |(rw[decide_eq_true q'] at h5;exact absurd h5 (by decide))
   |(simp at h5;omega)
 cases hwl with
 |cons w1 w2=>
  cases w2
  cases w1 with
  |list ho hall=>exact⟨_,_,ns,rfl,rfl,ho,gG ns _ hall,hlen⟩
theorem nz (l:OpenLaw)(args:List WData):l.row.toRowW.claim.post args (.bool true) args=true:=
 postW_of (r:=l.row.toRowW) (X:=(true==true))
  (show WShape.has [] (.bool true) .bool=true by first|rfl|decide|simp [WShape.has,WShape.arms,WShape.armsAll])
  (show (WTm.eq .res (.lit (.bool true))).value [] {args:=args,res:=some (.bool true),after:=args}=some (.bool (true==true)) from w_eq_bool (w_res rfl) w_lit) rfl
theorem attach_call {l:OpenLaw}{n:Nat}{q:Program}{loose:List Str}{XP:(Str->Option Value)->Heap->Prop}{YP:World->Heap->Prop}{d:DefRec}
  (hn:l.most=some n)(hdf:d.params.defaults=[])
  (call: ∀ (w:World) (s₀ s₁:Shared) (mg mb:Str->Option Value) (fa:Addr) (o:Obj) (pm cd doc:Value) (a:Addr) (vs:List Value) (ns:List Int),
   Ground q loose [] XP w s₀ mg mb s₁.heap->YP w s₁.heap->
   s₁.heap.get? fa=some o->o.data=.func (docDef d.name d.params d.body d.scope pm cd doc)->s₁.heap.CodeRec cd d.name->mg d.name=some (.ref fa)->
   s₁.heap.get? a=some {cls:=.type "list",data:=.seq vs.toArray}->IntsAre vs ns->ns.length<=n->s₁.gens= #[]->
   codeAny (model l.prog w) callerA (.call (.ref fa) ⟨[.ref a],[]⟩) (fun r s'=>r=.ok (.ret (.bool true))/\OldK s₁.heap s'.heap/\s'.os=s₁.os/\AllBare s'.gens) s₁):
  WalkO q loose XP YP l.row.toRowW d [] (fun f vs=>PySem.call f vs):=by
 intro w s₀ s₁ mg mb G Y fa o pm cd doc dV kV ho hd hcd hD hmg hg args vals as hpre hlay hrd hwl hlo
 obtain rfl:dV=.none:=Dflts.none hD hdf
 obtain rfl:kV=.none:=Dflts.noKw hD
 obtain⟨a,vs,ns,rfl,rfl,hobj,hints,hlen⟩:=nq hn hpre hwl
 refine enter_call (codeAny_mono (call w s₀ s₁ mg mb fa o pm cd doc a vs ns G Y ho (fd_plain hd) hcd hmg hobj hints hlen hg) fun r s' hq=>?_)
 obtain⟨rfl,h2,h3,h4⟩:=hq
 exact⟨.inl ⟨.bool true,.bool true,[],rfl,fun _=>rfl,.bool true,nz l _,fun _=>⟨List.Pairwise.nil,fun _ hm=>(nomatch hm)⟩⟩,h2,h3,h4⟩
section
variable {prog:Program}{w:World}{A:Around}{E:Value->Shared->Prop}{s:Shared}{K:Frag}
noncomputable def uV (h:Heap)(L d:Addr):List (Addr×Obj):=(List.range h.objs.size).filterMap fun a=>if a=L\/a=d then none else (h.get? a).map fun o=>(a,o)
end
end Att
namespace L2
open PySem PySem.Spec PyProof.Rows
theorem iQ: ∀ {vs:List Value}{ns:List Int},IntsAre vs ns->Vals (ns.map V.int) vs
 |_,_,.nil=>.nil
 |_,_,.cons n t h=>.cons ⟨t,rfl⟩ (iQ h)
def Only (H:Hp):Prop:= ∀b,H b=none\/ ∃o xs,H b=some (.frz o (.lst xs))
theorem pR {P:Program}{w:World}{K:PySem.W.Frag}{mg mb:Str->Option Value}{CX:CXT}{k:Nat}{fa a:Addr}{fd:FuncData}{x:Str}{sp:Sp}{s₁:Shared}{vs:List Value}{ns:List Int}
  (KX:K.In s₁.heap)(hns:s₁.heap.Ns mainGlobals mg)(hb:s₁.heap.Ns builtinsNs mb)(hbb: ∀x:Str,x≠ "__name__"->mb x=bootBuiltins x)(hlim:s₁.heap.NoLimit)(hg:s₁.gens= #[])
  (ha:s₁.heap.get? a=some {cls:=.type "list",data:=.seq vs.toArray})(hi:IntsAre vs ns)(hl:ns.length<=sizeLine)(hr:Room k callerA)
  (F:∀base:Heap,K.In base->base.Ns mainGlobals mg->FnOk P w K mg base CX k fa fd [x] sp)(hbind: ∀ (s:Shared) (u:Value),BindsTo s fd ⟨[u],[]⟩ [(x,u)])
  (hsp: ∀H:Hp,Only H->SqL K H a (ns.map V.int)->sp [.ref a] H (fun v _=>v=.bl true) fun _ _ _=>False)
  (hCX: ∀H e s',CX [] H s₁ (fun _ _ _=>False) e s'->False):
  codeAny (model P w) callerA (.call (.ref fa) ⟨[.ref a],[]⟩) (fun r s'=>r=.ok (.ret (.bool true))/\OldK s₁.heap s'.heap/\s'.os=s₁.os/\AllBare s'.gens) s₁:=by
 have rv:=iQ hi
 have lenV:=hi.length
 have core: ∀H:Hp,Only H->SqL K H a (ns.map V.int)->HOk P w H s₁.heap->(∀b,H b≠none->b=a)->(H a≠none->K.lookup a=none)->
   codeAny (model P w) callerA (.call (.ref fa) ⟨[.ref a],[]⟩) (fun r s'=>r=.ok (.ret (.bool true))/\OldK s₁.heap s'.heap/\s'.os=s₁.os/\AllBare s'.gens) s₁:=by
  intro H hO hS hok hA hK
  have base_of: ∀ {b:Addr}{o:Obj},s₁.heap.get? b=some o->H b=none->(hidT s₁.heap H).get? b=some o:=fun e n=>pY e n
  have noA: ∀ {b:Addr}{o:Obj}{es:Array DictEntry}{ep:Nat},s₁.heap.get? b=some o->o.data=.dict es ep->H b=none:=fun{b o es ep} e d=>by
   cases q:H b with
   |none=>rfl
   |some u=>
    have e':b=a:=hA b (by rw[q];simp)
    subst e'
    rw[ha] at e;cases e
    have d':Data.seq vs.toArray _=Data.dict es ep:=d
    cases d'
  have nsK: ∀ {b:Addr}{m:Str->Option Value},s₁.heap.Ns b m->(hidT s₁.heap H).Ns b m:=fun{b m} ⟨o,es,ep,e,d,r⟩=>⟨o,es,ep,base_of e (noA e d),d,r⟩
  have hKb:K.In (hidT s₁.heap H):=fun b o e=>base_of (KX b o e) (by
   cases q:H b with
   |none=>rfl
   |some u=>
    have e':b=a:=hA b (by rw[q];simp)
    subst e'
    rw[hK (by rw[q];simp)] at e;cases e)
  have hM:Mod K mg (hidT s₁.heap H):=⟨hKb,nsK hns,⟨mb,nsK hb,hbb⟩,let ⟨mc,h1,h2⟩:=hlim;⟨mc,nsK h1,h2⟩⟩
  have e0:Env0 P w K mg (hidT s₁.heap H) callerA [] s₁ H:=⟨rfl,hM,fun b o e=>rg e,Nat.le_of_eq (nU _ _),trivial,fun b hb=>absurd (show b∈([]:List Addr) from hb) (by simp),hok,.of_eq hg⟩
  refine codeAny_mono ((F _ hKb (nsK hns)).run callerA [] s₁ H ⟨[.ref a],[]⟩ [.ref a] [.ref a] _ _ hr e0 (hbind s₁ (.ref a)) (.cons rfl .nil) (hsp H hO hS)) fun r s' h=>?_
  cases r with
  |error e=>exact (hCX H e s' h).elim
  |ok fl=>
   cases fl with
   |next=>exact False.elim h
   |brk=>exact False.elim h
   |cont=>exact False.elim h
   |ret u=>
    obtain⟨v,H',os,bare,un,hok',r',q⟩:=h
    have q':v=.bl true:=q
    subst q'
    obtain rfl:u=Value.bool true:=r'
    refine⟨rfl,OldK.of_keep fun b o e=>?_,os,bare⟩
    cases q:H b with
    |none=>exact un.keep b o e q (by intro z;exact absurd (show b∈([]:List Addr) from z) (by simp)) (by simp)
    |some u=>
     rcases hO b with z|⟨ob,xs,z⟩
     ·rw[q] at z;cases z
     ·have z2:=un.frzs b ob _ z
      obtain⟨e1,_⟩:=hok b _ z
      obtain⟨e2,_⟩:=hok' b _ z2
      rw[e] at e1;cases e1
      exact e2
 cases hk:K.lookup a with
 |some o=>
  have e:=KX a o hk
  rw[ha] at e
  cases e
  refine core (fun _=>none) (fun _=>.inl rfl) (.inr ⟨_,vs.toArray,_,hk,rfl,rfl,rfl,by rw[List.size_toArray,lenV];exact hl,by simpa using rv⟩) (fun b u z=>by have z':(none:Option HO)=some u:=z;cases z') (fun b z=>absurd rfl z) fun z=>absurd rfl z
 |none=>
  refine core (fun b=>if b=a then some (.frz {cls:=.type "list",data:=.seq vs.toArray} (.lst (ns.map V.int))) else none) (fun b=>?_) (.inl (.inr ⟨{cls:=.type "list",data:=.seq vs.toArray},if_pos rfl⟩)) (fun b u z=>?_) (fun b z=>?_) fun _=>hk
  ·by_cases hb:b=a
   ·exact .inr ⟨_,_,if_pos hb⟩
   ·exact .inl (if_neg hb)
  ·by_cases hb:b=a
   ·have z':=(if_pos hb).symm.trans z
    cases z'
    subst hb
    exact⟨ha,by rw[List.length_map];exact hl,vs,_,rv,ha⟩
   ·have z':=(if_neg hb).symm.trans z
    cases z'
  ·by_cases hb:b=a
   ·exact hb
   ·exact absurd (if_neg hb) z
end L2
namespace L2
open PySem PySem.Spec PyProof.Rows
noncomputable abbrev KOf {K:PySem.W.Frag}{h:Heap}(_:K.In h):PySem.W.Frag:=K
theorem walk_of {l:PySem.W.OpenLaw}{n k:Nat}{q:Program}{loose:List Str}{XP:(Str->Option Value)->Heap->Prop}{YP:World->Heap->Prop}{d:DefRec}{K:Params->PySem.W.Frag}{CX:World->CXT}{sp:World->Sp}{x:Str}
  (hn:l.most=some n)(hn2:n<=sizeLine)(hdf:d.params.defaults=[])(hr:Room k callerA)
  (hY: ∀ (w:World) (h:Heap),YP w h->(K w.params).In h)
  (F:∀ (w:World) (mg:Str->Option Value) (fa:Addr) (h:Heap),(K w.params).In h->h.Ns mainGlobals mg->mg d.name=some (.ref fa)->
    ∃fd:FuncData,(∀ (s:Shared) (u:Value),BindsTo s fd ⟨[u],[]⟩ [(x,u)])/\
     ∀base:Heap,(K w.params).In base->base.Ns mainGlobals mg->FnOk l.prog w (K w.params) mg base (CX w) k fa fd [x] (sp w))
  (hsp: ∀ (w:World) (H:Hp) (a:Addr) (ns:List Int),ns.length<=n->Only H->SqL (K w.params) H a (ns.map V.int)->sp w [.ref a] H (fun v _=>v=.bl true) fun _ _ _=>False)
  (hCX: ∀ (w:World) (H:Hp) (s:Shared) (e:Value) (s':Shared),CX w [] H s (fun _ _ _=>False) e s'->False):
  PySem.W.WalkO q loose XP YP l.row.toRowW d [] (fun f vs=>PySem.call f vs):=by
 refine Att.attach_call hn hdf fun w s₀ s₁ mg mb fa o pm cd doc a vs ns G Y ho hd hcd hmg hobj hints hlen hg=>?_
 have KX:=hY w _ Y
 obtain⟨fd,hb,hF⟩:=F w mg fa _ KX G.T.g hmg
 exact pR KX G.T.g G.T.b G.T.builtins G.T.nolimit hg hobj hints (Nat.le_trans hlen hn2) hr hF hb (fun H hO hS=>hsp w H a ns hlen hO hS) fun H e s'=>hCX w H s₁ e s'
end L2
namespace L2
open PySem PySem.Spec PyProof.Rows
noncomputable def aJ (s:Stmt):Arguments:=match s with
 |.FunctionDef _ a _ _ _ _ _ _ _ _=>a
 |_=>{posonlyargs:=[],args:=[],vararg:=none,kwonlyargs:=[],kw_defaults:=[],kwarg:=none,defaults:=[]}
noncomputable def aG (s:Stmt):List Stmt:=match s with
 |.FunctionDef _ _ b _ _ _ _ _ _ _=>b
 |_=>[]
noncomputable def aj (s:Stmt):Scope:=match s with
 |.FunctionDef _ _ _ _ _ _ sc _ _ _=>sc
 |_=>{kind:=.function,names:=[],isGenerator:=false,isCoroutine:=false}
noncomputable abbrev CX0:CXT:=fun _ _ _ _ _ _=>False
noncomputable abbrev E0:XK:=fun _ _ _=>False
theorem pass0 {X:Cx}:lV CX0 X E0:=fun _ _ _ _ _ _ _ h=>h.elim
structure Fun (K:PySem.W.Frag)(x qual:Str)(st:Stmt)(f:Addr)(fd:FuncData):Prop where
 ex: ∃ (oc:Value) (od:Option Addr) (kV doc pm:Value) (an:Option Addr) (cdv ct:Value) (osl:Array (Option Value)),
  fd=fnOf x qual (aJ st) (aG st) (aj st) .none kV doc pm an cdv ct/\K.lookup f=some ⟨oc,od,.func fd,osl⟩/\codeIn K cdv qual=true
 kp:keepIn K (.ref f)=true
section
variable {P:Program}{w:World}{K:PySem.W.Frag}{mg:Str->Option Value}{base:Heap}
theorem Fun.ok {x qual:Str}{st:Stmt}{f:Addr}{fd:FuncData}{N ps:List Str}{k:Nat}{sp:Sp}(F:Fun K x qual st f fd)(S:FnScope N ps (aj st))(len: ∀vs H Q E,sp vs H Q E->vs.length=ps.length)
  (hbody: ∀ (cdv:Value) (A:Around) (outer:List Env) (s:Shared) (H:Hp) (vs:List V) (Q:VK) (E:XK),Room k (A.deeper (envOfC qual (aj st) s.heap.objs.size f cdv))->sp vs H Q E->
   ∃t,PSs (cxOf CX0 P w K mg base N qual (aj st) f cdv A outer s H E).nox (aG st) t/\t {nx:=fun _ H'=>Q .non H',rt:=Q} (start N vs) H):FnOk P w K mg base CX0 (k+1) f fd ps sp:=by
 obtain⟨oc,od,kV,doc,pm,an,cdv,ct,osl,rfl,lk,hcd⟩:=F.ex
 refine uO lk hcd S len fun A outer s H vs Q E hr hsp=>?_
 obtain⟨t,h,q⟩:=hbody cdv A outer s H vs Q E hr hsp
 exact⟨t,h.nox,q⟩
theorem Fun.binds {x qual:Str}{st:Stmt}{f:Addr}{fd:FuncData}{ps:List Str}(F:Fun K x qual st f fd)
  (h:∀ (kV doc pm:Value) (an:Option Addr) (cdv ct:Value) (us:List Value),us.length=ps.length->bindArgs (fnOf x qual (aJ st) (aG st) (aj st) .none kV doc pm an cdv ct) ⟨us,[]⟩=pure (ps.zip us)):Binds K fd ps []:=by
 obtain⟨oc,od,kV,doc,pm,an,cdv,ct,osl,rfl,lk,hcd⟩:=F.ex
 exact .all (h kV doc pm an cdv ct)
theorem bg {x qual:Str}{st:Stmt}{f:Addr}{oc:Value}{od an:Option Addr}{osl:Array (Option Value)}{kV doc pm cdv ct:Value}(l:K.lookup f=some ⟨oc,od,.func (fnOf x qual (aJ st) (aG st) (aj st) .none kV doc pm an cdv ct),osl⟩)
 (c:codeIn K cdv qual=true)(k:keepIn K (.ref f)=true):Fun K x qual st f (fnOf x qual (aJ st) (aG st) (aj st) .none kV doc pm an cdv ct):=⟨⟨oc,od,kV,doc,pm,an,cdv,ct,osl,rfl,l,c⟩,k⟩
end
theorem bG {A:Around}{k:Nat}(hr:Room k A):A.units+1<cLine:=Nat.lt_of_le_of_lt (Nat.add_le_add_left (by decide:1<=64) _) hr.units
section
variable {X:Cx}
theorem pv (i:Nat){x:Str}{pos:Pos}(hN:X.N[i]?=some x:=by rfl)(hv:Vis X.env.scope x:=by first|exact Or.inl rfl|exact Or.inr (Or.inl rfl)|exact Or.inr (Or.inr rfl))(hd:(x==("__debug__":Str))=false:=by decide)
 (hcd:(x==("__classdict__":Str))=false:=by decide):PE X (.Name x pos) (tVar i):=sU hN hv hd hcd
end
theorem iteF {A B:Prop}(h:B):if false=true then A else B:=by
 rw[if_neg Bool.false_ne_true]
 exact h
theorem iteT {A B:Prop}(h:A):if true=true then A else B:=by
 rw[if_pos rfl]
 exact h
section
variable {κ:Type} [DecidableEq κ]
end
end L2
namespace L2
open PySem PySem.Spec PyProof.Rows
theorem iA {α β:Type}{f:α->β->Sem (ForInStep β)}(g:α->β->β): ∀ (l:List α) (c:β),(∀x∈l,∀c,f x c=pure (.yield (g x c)))->forIn l c f=pure (l.foldl (fun c x=>g x c) c)
 |[],_,_=>rfl
 |x::l,c,h=>by
  rw[List.forIn_cons,h x List.mem_cons_self,pure_bind]
  exact iA g l (g x c) fun y hy=>h y (List.mem_cons_of_mem _ hy)
noncomputable def bE (env:Env)(p:Str×NameKind)(cs:List (Str×Addr)):List (Str×Addr):=if (p.2==NameKind.free)=true then (p.1,(env.cells.lookup p.1).getD 0)::cs else cs
def cloOf (scope:Scope)(env:Env):List (Str×Addr):=scope.names.foldl (fun c x=>bE env x c) []
theorem lQ {scope:Scope}{env:Env}(h:∀p∈scope.names,p.2=.free-> ∃c,env.cells.lookup p.1=some c):closureFor scope env=pure (cloOf scope env):=by
 unfold cloOf
 simp only[closureFor]
 rw[iA (bE env)]
 ·rfl
 ·intro x hx c
  obtain⟨n,k⟩:=x
  by_cases hk:k=.free
  ·subst hk
   obtain⟨a,ha⟩:=h _ hx rfl
   have ha:env.cells.lookup n=some a:=ha
   simp [bE,cellOf,ha]
  ·have:(k==NameKind.free)=false:=by simpa using hk
   simp [bE,this]
theorem iE (env:Env): ∀ (l:List (Str×NameKind)) (c:List (Str×Addr)),(∀p∈l,p.2=.free-> ∃a,env.cells.lookup p.1=some a)->
  (∀y a,c.lookup y=some a->env.cells.lookup y=some a)-> ∀y a,(l.foldl (fun c x=>bE env x c) c).lookup y=some a->env.cells.lookup y=some a
 |[],_,_,h,y,a,e=>h y a e
 |(n,k)::r,c,hf,h,y,a,e=>by
  refine iE env r (bE env (n,k) c) (fun p hp=>hf p (List.mem_cons_of_mem _ hp)) (fun z b q=>?_) y a e
  unfold bE at q
  split at q
  ·rename_i hk
   obtain⟨d,hd⟩:=hf (n,k) List.mem_cons_self (by simpa using hk)
   have hd:env.cells.lookup n=some d:=hd
   rw[List.lookup_cons] at q
   split at q
   ·rename_i hz
    have:z=n:=by simpa using hz
    subst this
    rw[hd] at q ⊢
    simpa using q
   ·exact h z b q
  ·exact h z b q
theorem kP (env:Env): ∀ (l:List (Str×NameKind)) (c:List (Str×Addr)) (y:Str),(∃a,c.lookup y=some a)-> ∃a,(l.foldl (fun c x=>bE env x c) c).lookup y=some a
 |[],_,_,h=>h
 |(n,k)::r,c,y,h=>by
  refine kP env r _ y ?_
  show∃a,(bE env (n,k) c).lookup y=some a
  unfold bE
  split
  ·rw[List.lookup_cons]
   split
   ·exact⟨_,rfl⟩
   ·exact h
  ·exact h
theorem mR (env:Env): ∀ (l:List (Str×NameKind)) (c:List (Str×Addr)) (y:Str),(y,NameKind.free)∈l-> ∃a,(l.foldl (fun c x=>bE env x c) c).lookup y=some a
 |(n,k)::r,c,y,h=>by
  rcases List.mem_cons.mp h with e|h
  ·obtain⟨rfl,rfl⟩:=Prod.mk.inj e
   refine kP env r _ y ⟨(env.cells.lookup y).getD 0,?_⟩
   show (bE env (y,.free) c).lookup y=_
   unfold bE
   rw[if_pos (by rfl),List.lookup_cons]
   simp
  ·exact mR env r _ y h
structure CScope (X:Cx)(ls:List Str)(scope:Scope):Prop where
 kind:scope.kind=.function
 nocell: ∀y∈scope.names,y.2≠.cell
 names: ∀y∈scope.names,y.2=.local ->scope.names.lookup y.1=some .local
 loc: ∀y,scope.names.lookup y=some .local ->y∈ls
 free: ∀y∈scope.names,y.2=.free->X.env.kindOf y.1=some .cell\/X.env.kindOf y.1=some .free
 noq: ∀y∈ls,∀k,scope.names.lookup ⟨#[63]++y.cps⟩≠some k
noncomputable def hid (ls:List Str)(y:Str):Str:=if ls.contains y then⟨#[63]++y.cps⟩ else y
def cxC (X:Cx)(ls:List Str)(scope:Scope)(C:Addr)(s2:Shared)(H2:Hp)(fp:List Addr):Cx where
 prog:=X.prog
 w:=X.w
 K:=X.K
 mg:=X.mg
 base:=X.base
 A:=X.A
 N:=ls++X.N.map (hid ls)
 s₀:=s2
 H₀:=H2
 env:=compEnvC scope (cloOf scope X.env) C X.env
 outer:=X.stack
 stack:=X.stack
 ex:=fp
 calm:=X.calm
 fn:=fun _=>false
 pn:=[]
 xe:=fun _ _=>False
theorem bA {env:Env}{y:Str}: ∀ {names:List (Str×NameKind)}{k:NameKind},(names.map fun (n,k)=>if (k==NameKind.free && env.scope.kind==.function && env.kindOf n==some .cell) then (n,NameKind.cell) else (n,k)).lookup y=some k->
  names.lookup y=some k\/(names.lookup y=some .free/\k=.cell)
 |[],_,h=>by simp at h
 |(n,j)::r,k,h=>by
  have ih:= @bA env y r k
  replace h:List.lookup y ((if (j==NameKind.free && env.scope.kind==.function && env.kindOf n==some .cell)=true then (n,NameKind.cell) else (n,j))::(r.map fun (n,k)=>if (k==NameKind.free && env.scope.kind==.function && env.kindOf n==some .cell) then (n,NameKind.cell) else (n,k)))=some k:=h
  by_cases hc:(j==NameKind.free && env.scope.kind==.function && env.kindOf n==some .cell)=true
  ·rw[if_pos hc,List.lookup_cons] at h
   rw[List.lookup_cons]
   cases hx:y==n with
   |true=>
    rw[hx] at h
    simp only[Bool.and_eq_true] at hc
    have hj:j=.free:=by simpa using hc.1.1
    subst hj
    have h:some NameKind.cell=some k:=h
    cases h
    exact .inr ⟨rfl,rfl⟩
   |false=>
    rw[hx] at h
    exact ih h
  ·rw[if_neg hc,List.lookup_cons] at h
   rw[List.lookup_cons]
   cases hx:y==n with
   |true=>rw[hx] at h;exact .inl h
   |false=>rw[hx] at h;exact ih h
def hides (N ls:List Str)(σ:St):Bool:=true
theorem nS {X:Cx}{pins:List (Addr×Obj)}{σ:St}{H2:Hp}{s2:Shared}{ls:List Str}{scope:Scope}{fp:List Addr}{C:Addr}{h1:Heap}{m:Str->Option Value}{tk:Nat}
  (I:Inv X pins σ H2 s2)(S:CScope X ls scope)(hh:hides X.N ls σ=true)(f2: ∀b∈fp,FpOk X pins H2 b)(ho: ∀b∈fp,∃o,s2.heap.get? b=some o)(hC:s2.heap.objs.size<=C)(hn:h1.Ns C m)
  (old: ∀b o,s2.heap.get? b=some o->h1.get? b=some o):
  Inv (cxC X ls scope C s2 H2 fp) [] (List.replicate ls.length none++σ) H2 {s2 with heap:=h1,toks:=tk}:=by
 have cf: ∀p∈scope.names,p.2=.free-> ∃c,X.env.cells.lookup p.1=some c:=fun p hp e=>I.ok.has _ (S.free p hp e)
 have c1: ∀y a,(cloOf scope X.env).lookup y=some a->X.env.cells.lookup y=some a:=iE X.env scope.names [] cf (fun y a e=>by simp at e)
 have c2: ∀y,scope.names.lookup y=some .free-> ∃a,(cloOf scope X.env).lookup y=some a:=fun y hy=>mR X.env scope.names [] y (PySem.mem_of_lookup hy)
 have lt2: ∀b∈fp,b<s2.heap.objs.size:=fun b hb=>let ⟨o,e⟩:=ho b hb;Heap.lt_size e
 have kinds: ∀y k,(relabel scope X.env).names.lookup y=some k->k=.cell\/k=.free->scope.names.lookup y=some .free:=fun y k h hk=>by
  rcases bA (env:=X.env) h with q|⟨q,_⟩
  ·rcases hk with rfl|rfl
   ·exact absurd rfl (S.nocell _ (PySem.mem_of_lookup q))
   ·exact q
  ·exact q
 refine⟨⟨I.ok.mod,S.kind,I.ok.glob,I.ok.blt,hC,fun x y c e1 e2=>I.ok.inj x y c (c1 x c e1) (c1 y c e2),fun x hx=>?_,fun x c h=>absurd h Bool.false_ne_true,I.ok.hd,I.ok.frames,.inl rfl,fun b hb=>⟨?_,fun x c e=>(f2 b hb).2.2.2.2.1 x c (c1 x c e)⟩,I.bs,Nat.le_trans I.ok.bsz I.sz,fun b o e hb=>?_,fun b hb hz=>?_,I.stack,I.stkFree⟩,
  rfl,I.bare,Un.kept old,⟨m,hn,fun i y v e1 e2 e3=>?_⟩,fun x c e=>?_,I.hok.fresh hC,fun x c e=>I.freeC x c (c1 x c e),fun p hp=>absurd (show p∈([]:List (Addr×Obj)) from hp) (by simp),I.hok.kept old,?_⟩
 ·have hx:(relabel scope X.env).names.lookup x=some .cell\/(relabel scope X.env).names.lookup x=some .free:=hx
  rcases hx with hx|hx
  ·exact c2 x (kinds x _ hx (.inl rfl))
  ·exact c2 x (kinds x _ hx (.inr rfl))
 ·exact Nat.ne_of_lt (Nat.lt_of_lt_of_le (lt2 b hb) hC)
 ·rcases (f2 b hb).2.2.2.1 with z|z
  ·exact I.ok.noex b o e z
  ·exact absurd (Nat.lt_of_lt_of_le (Heap.lt_size e) (Nat.le_trans I.ok.bsz z)) (Nat.lt_irrefl _)
 ·rcases List.mem_cons.mp (I.stkSub b hz) with z|z
  ·exact (f2 b hb).2.1 z
  ·exact (f2 b hb).2.2.1 z
 ·have e1:(ls++X.N.map (hid ls))[i]?=some y:=e1
  by_cases hi:i<ls.length
  ·rw[List.getElem?_append_left (by simpa using hi),List.getElem?_replicate] at e2
   rw[if_pos hi] at e2
   cases e2
  ·rw[List.getElem?_append_right (by omega)] at e1
   rw[List.getElem?_append_right (by simpa using hi),List.length_replicate] at e2
   rw[List.getElem?_map] at e1
   obtain⟨y0,e1',ey⟩:=Option.map_eq_some_iff.mp e1
   have e3:(relabel scope X.env).names.lookup y=some .local \/(relabel scope X.env).names.lookup y=some .cell\/(relabel scope X.env).names.lookup y=some .free:=e3
   have ny:y0 ∉ ls:=fun hm=>by
    unfold hid at ey
    rw[if_pos (by simpa using hm)] at ey
    subst ey
    have no: ∀k,(relabel scope X.env).names.lookup ⟨#[63]++y0.cps⟩=some k->False:=fun k q=>by
     rcases bA (env:=X.env) q with z|⟨z,_⟩
     ·exact S.noq y0 hm _ z
     ·exact S.noq y0 hm _ z
    rcases e3 with q|q|q<;>exact no _ q
   unfold hid at ey
   rw[if_neg (by simpa using ny)] at ey
   rw[ey] at e1' ny
   have e1:=e1'
   have fr:scope.names.lookup y=some .free:=by
    rcases e3 with q|q|q
    ·rcases bA (env:=X.env) q with z|⟨_,z⟩
     ·exact absurd (S.loc y z) ny
     ·cases z
    ·exact kinds y _ q (.inl rfl)
    ·exact kinds y _ q (.inr rfl)
   have kx:=S.free _ (PySem.mem_of_lookup fr) rfl
   obtain⟨m2,_,hl⟩:=I.loc
   obtain⟨u,r,l⟩:=hl _ y v e1 e2 (.inr kx)
   refine⟨u,r,?_⟩
   have knd:(relabel scope X.env).names.lookup y=some .cell\/(relabel scope X.env).names.lookup y=some .free:=by
    rcases e3 with q|q
    ·rcases bA (env:=X.env) q with z|⟨_,z⟩
     ·exact absurd (S.loc y z) ny
     ·cases z
    ·exact q
   rcases l with⟨k1,_⟩|⟨_,c,hc,hcell⟩
   ·have kx:X.env.kindOf y=some .cell\/X.env.kindOf y=some .free:=kx
    rcases kx with z|z<;>(rw[k1] at z;cases z)
   ·obtain⟨c',hc'⟩:=c2 y fr
    have:=c1 y c' hc'
    rw[hc] at this
    cases this
    refine .inr ⟨knd,c,hc',?_⟩
    obtain⟨o,ho,hd⟩:=hcell
    exact⟨o,old _ _ ho,hd⟩
 ·obtain⟨v,o,ho,hd⟩:=I.cell x c (c1 x c e)
  exact⟨v,o,old _ _ ho,hd⟩
 ·show (List.replicate ls.length none++σ).length=(ls++X.N.map (hid ls)).length
  rw[List.length_append,List.length_append,List.length_replicate,List.length_map,I.len]
theorem pX {X:Cx}{pins:List (Addr×Obj)}{σ σ':St}{H2 H3:Hp}{s2 s':Shared}{ls:List Str}{scope:Scope}{fp:List Addr}{C D:Addr}{h':Heap}{ys:List V}{its:List Value}{n:Nat}{pl:List (Addr×Obj)}
  (I:Inv X pins σ H2 s2)(f2: ∀b∈fp,FpOk X pins H2 b)(J:Inv (cxC X ls scope C s2 H2 fp) pl σ' H3 s')(hD:s2.heap.objs.size<=D)(hC:s2.heap.objs.size<=C)(hDC:D≠C)
  (sb:Heap.SameBut C s'.heap h')(hD3:H3 D=none)(e:s'.heap.get? D=some {cls:=.type "list",data:=.seq its.toArray n})(r:Vals ys its)(z:ys.length<=sizeLine):Inv X pins σ (upd H3 D (.lst ys)) {s' with heap:=h'}:=by
 have ext: ∀b o,b≠C->s'.heap.get? b=some o->h'.get? b=some o:=fun b o hb e=>sb.extBut b o hb e
 have neD: ∀b,b<s2.heap.objs.size->b≠D:=fun b hb=>Nat.ne_of_lt (Nat.lt_of_lt_of_le hb hD)
 have neC: ∀b,b<s2.heap.objs.size->b≠C:=fun b hb=>Nat.ne_of_lt (Nat.lt_of_lt_of_le hb hC)
 have lt: ∀b u,H2 b=some u->b<s2.heap.objs.size:=fun b u q=>by
  apply Classical.byContradiction
  intro hb
  have:=I.hok.fresh (Nat.le_of_not_lt hb)
  rw[this] at q
  cases q
 have fC:H3 C=none:=J.free
 refine I.call' (s':={s' with heap:=h'}) (ch:=fp) J.os ⟨fun b o q n hb hx=>?_,fun b o q n hb hx=>?_,fun b o q n hx=>?_,fun b o q hx=>?_,fun b xs q=>?_,fun b o u q=>?_,fun b ps q=>?_⟩ (fun b u q=>?_) J.bare fun b hb=>?_
 ·exact ext b o (neC b (Heap.lt_size q)) (J.base.keep b o q n hb hx)
 ·obtain⟨sl,w⟩:=J.base.slot b o q n hb hx
  exact⟨sl,ext b _ (neC b (Heap.lt_size q)) w⟩
 ·rw[ap (neD b (Heap.lt_size q))]
  exact J.base.free b o q n hx
 ·obtain⟨o',w⟩:=J.base.there b o q hx
  exact⟨o',ext b _ (neC b (Heap.lt_size q)) w⟩
 ·rw[ap (neD b (lt b _ q))];exact J.base.tups b xs q
 ·rw[ap (neD b (lt b _ q))];exact J.base.frzs b o u q
 ·rw[ap (neD b (lt b _ q))];exact J.base.tbls b ps q
 ·by_cases hb:b=D
  ·subst hb
   rw[aR] at q
   cases q
   exact⟨z,its,n,r,ext _ _ hDC e⟩
  ·rw[ap hb] at q
   have ne1:b≠C:=fun w=>by rw[w,fC] at q;cases q
   have ow: ∀c u,H3 c=some u->c≠D:=fun c u w z=>by rw[z,hD3] at w;cases w
   have oc: ∀c u,H3 c=some u->c≠C:=fun c u w z=>by rw[z,fC] at w;cases w
   refine (J.hok b u q).stay (fun c v hc w=>ext c v ?_ w) (fun c w=>by rw[ap (ow c _ w)];exact w) fun c xs w=>by rw[ap (ow c _ w)];exact w
   rcases hc with rfl|hc
   ·exact ne1
   ·exact oc c _ hc
 ·obtain⟨a1,a2,a3,a4,a5,a6⟩:=f2 b hb
  exact⟨a4,a2,a5,a6⟩
def PIfs (X:Cx)(ifs:List Expr)(t:TT):Prop:=
 ∀ (pins:List (Addr×Obj)) (s:Shared) (σ:St) (H:Hp) (Q:Bool->Hp->Prop),Inv X pins σ H s->t σ H Q->
   wpAny (model X.prog X.w) X.A (forIn ifs true fun c r=>if r=true then do let ok<-isTrue c X.env (eval c X.env);pure (ForInStep.yield ok) else pure (ForInStep.yield r)) (TP X pins σ Q) X.xe s
def tYes:TT:=fun _ H Q=>Q true H
theorem qL {X:Cx}:PIfs X [] tYes:=fun _ _ _ H _ I h=>wpAny_tests_nil ⟨H,I,h⟩
theorem qK {X:Cx}{c:Expr}{t:TT}(h:PT X c t):PIfs X [c] t:=fun pins s σ H Q I q=>wpAny_tests_one (h pins s σ H Q I q)
def CompW (J:It)(ls:List Str)(g:TG)(tt:TT)(te:TE)(σ:St)(H1:Hp)(Q:VK):Prop:= ∃W:Nat->Nat->List V->Hp->Prop,(∃m,W 0 m [] H1)/\ ∀i m ys H,W i m ys H->
 (J.stop i H/\ ∀D,H D=none->Q (.ref D) (upd H D (.lst ys)))\/
 (J.go i H/\ ∃R:List V->Hp->Prop,(∀ys' H',R ys' H'-> ∃m',m'<m/\W (i+1) m' ys' H')/\ ∀y H',J.yld i H y H'->
  g y (List.replicate ls.length none++σ) H' fun σ2 H2=>σ2.drop ls.length=σ/\σ2.length=ls.length+σ.length/\tt σ2 H2 fun b H3=>if b=true then te σ2 H3 fun v H4=>ys.length<sizeLine/\R (ys++[v]) H4 else R ys H3)
def tComp (N ls:List Str)(wi:TI)(g:TG)(tt:TT)(te:TE):TE:=fun σ H Q=>hides N ls σ=true/\wi σ H fun J H1=>CompW J ls g tt te σ H1 Q
theorem d6 {prog:Program}{w:World}{A:Around}{R:Result->Shared->Prop}{s:Shared}{elt target iter:Expr}{ifs:List Expr}{scope:Scope}{pos:Pos}{it acc:Value}{env:Env}(I:Nat->Shared->Prop)
  (turn: ∀n s,I n s->wpAny (model prog w) A (pyNext it) (fun r s₁=>match r with
   |none=>R (.ok .next) s₁
   |some v=>wpAny (model prog w) A (letOwnedTupleGo target it v) (fun _ s₁=>wpAny (model prog w) A (assign target env v) (fun _ s₂=>
    wpAny (model prog w) A (forIn ifs true fun c r=>if r=true then do let ok<-isTrue c env (eval c env);pure (ForInStep.yield ok) else pure (ForInStep.yield r)) (fun ok s₃=>
     if ok=true then wpAny (model prog w) A (eval elt env) (fun x s₄=>
      wpAny (model prog w) A (call (.builtin "list.append") [acc,x]) (fun _ s₅=> ∃m,m<n/\I m s₅) (notedBy (model prog w) A env fun e s'=>R (.error e) s') s₄) (notedBy (model prog w) A env fun e s'=>R (.error e) s') s₃
     else∃m,m<n/\I m s₃) (notedBy (model prog w) A env fun e s'=>R (.error e) s') s₂) (notedBy (model prog w) A env fun e s'=>R (.error e) s') s₁) (notedBy (model prog w) A env fun e s'=>R (.error e) s') s₁) (notedBy (model prog w) A env fun e s'=>R (.error e) s') s)
  (n:Nat)(h:I n s):
  codeAny (model prog w) A (.compLoop (.ListComp elt [⟨target,iter,ifs,0⟩] scope pos) 0 it acc env) R s:=by
 refine codeAny_loop rfl I (fun n s hI=>?_) n h
 show wpAny _ A ((compTurn (.ListComp elt [⟨target,iter,ifs,0⟩] scope pos) 0 it acc env).onRaise (fun x=>do noteFrame x env;theTreesLotGoes x)) _ _ s
 refine wpAny_noted ?_
 rw[compTurn_list]
 refine wpAny_bind (wpAny_standAt (wpAny_bind (wpAny_mono (turn n s hI) (fun r s₁ h₁=>?_) fun _ _ h'=>h')))
 cases r with
 |none=>exact wpAny_pure h₁
 |some v=>
  refine wpAny_bind (wpAny_mono h₁ (fun _ s₁ h₁=>?_) fun _ _ h'=>h')
  refine wpAny_bind (wpAny_mono h₁ (fun _ s₂ h₂=>wpAny_bind (wpAny_mono h₂ (fun ok s₃ h₃=>?_) fun _ _ h'=>h')) fun _ _ h'=>h')
  cases ok with
  |false=>exact wpAny_pure ⟨rfl,h₃⟩
  |true=>
   exact wpAny_bind (wpAny_bind (wpAny_mono h₃ (fun x s₄ h₄=>wpAny_bind (wpAny_mono h₄ (fun _ s₅ h₅=>wpAny_pure (wpAny_pure ⟨rfl,h₅⟩)) fun _ _ h'=>h')) fun _ _ h'=>h'))
theorem thx {α:Type}{t:Sem α}{Q Q':α->Shared->Prop}{M:Model}{A:Around}{E:Value->Shared->Prop}{s:Shared}(h:wpAny M A t Q (fun _ _=>False) s)(hQ: ∀a s,Q a s->Q' a s):wpAny M A t Q' E s:=wpAny_mono h hQ fun _ _ x=>x.elim
section
variable {X:Cx}{elt iter tg:Expr}{ifs:List Expr}{scope:Scope}{pos:Pos}{ls:List Str}{wi:TI}{g:TG}{tt:TT}{te:TE}
theorem n9 {use:Option (Value->Sem Unit)}{pins:List (Addr×Obj)}{s:Shared}{σ:St}{H:Hp}{Q:VK}{QQ:Value->Shared->Prop}{pos':Pos}(hcalm:X.calm=true)(S:CScope X ls scope)(hi:PI X tg iter wi)
  (hg: ∀C s2 H2 fp,PG (cxC X ls scope C s2 H2 fp) tg g)(ht: ∀C s2 H2 fp,PIfs (cxC X ls scope C s2 H2 fp) ifs tt)(he: ∀C s2 H2 fp,PE (cxC X ls scope C s2 H2 fp) elt te)
  (hs: ∀x,foldedSetIterable iter X.env x=pure x)(I:Inv X pins σ H s)(h:tComp X.N ls wi g tt te σ H Q)
  (hQQ: ∀ (D C:Addr) (s':Shared) (H':Hp),(∃m,s'.heap.Ns C m)->FpOk X pins H' C->(∀h',Heap.SameBut C s'.heap h'->Inv X pins σ H' {s' with heap:=h'})->Q (.ref D) H'->compPost (model X.prog X.w) X.A X.xe use QQ (.ref D) C (.ok .next) s'):
  wpAny (model X.prog X.w) X.A (comprehension (.ListComp elt [⟨tg,iter,ifs,0⟩] scope pos) scope X.env pos' (newList []) false (eval iter X.env) use) QQ X.xe s:=by
 obtain⟨hh,h⟩:=h
 have cf: ∀p∈scope.names,p.2=.free-> ∃c,X.env.cells.lookup p.1=some c:=fun p hp e=>I.ok.has _ (S.free p hp e)
 refine wpAny_comprehension_free (use:=use) rfl hs (lQ cf) S.kind S.names (thn (hi pins s σ H _ I h) fun v s1 h1=>thn h1 fun itv s2 h2=>?_)
 obtain⟨it,fp,tn,J,H2,rfl,I2,T,st2,f2,W,⟨m0,w0⟩,turn⟩:=h2
 refine wpAny_newObj_type (wpAny_newFunctionEnv S.nocell (by intro y hy;simp at hy) (fun h₁ hns₁ hsb₁=>?_) S.kind)
 dsimp only at hns₁ hsb₁ ⊢
 generalize hH2:s2.heap.push {cls:=.type "list",dict:=none,data:=.seq ([]:List Value).toArray}=G2 at hns₁ hsb₁ ⊢
 have hC:G2.objs.size=s2.heap.objs.size+1:=by rw[<-hH2,Heap.size_push]
 have hDC:s2.heap.objs.size≠G2.objs.size:=by rw[hC];exact Nat.ne_of_lt (Nat.lt_succ_self _)
 have hCle:s2.heap.objs.size<=G2.objs.size:=by rw[hC];exact Nat.le_succ _
 have old: ∀b o,s2.heap.get? b=some o->h₁.get? b=some o:=fun b o e=>hsb₁.extBut b o (Nat.ne_of_lt (Nat.lt_of_lt_of_le (Heap.lt_size e) hCle)) (Heap.get?_push_of_some _ (hH2▸Heap.get?_push_of_some _ e))
 have hacc:h₁.get? s2.heap.objs.size=some {cls:=.type "list",data:=.seq ([]:List Value).toArray}:=hsb₁.extBut _ _ hDC (Heap.get?_push_of_some _ (hH2▸Heap.get?_push_size _ rfl))
 have hobj: ∀b∈fp,∃o,s2.heap.get? b=some o:=fun b hb=>let ⟨o,e,_⟩:=T.obj 0 _ st2 b hb;⟨o,e⟩
 have ltf: ∀b∈fp,b<s2.heap.objs.size:=fun b hb=>let ⟨o,e⟩:=hobj b hb;Heap.lt_size e
 have nofD:s2.heap.objs.size ∉ (cxC X ls scope G2.objs.size s2 H2 fp).fs:=fun z=>by
  rcases List.mem_cons.mp (I2.stkSub _ z) with z|z
  ·exact absurd I2.lt (by rw[<-z];exact Nat.lt_irrefl _)
  ·exact I2.nofs (Nat.le_refl _) z
 have st1:tn 0 h₁:=T.keep 0 _ _ st2 fun b _ o e=>old b o e
 have J0: ∀tk,Inv (cxC X ls scope G2.objs.size s2 H2 fp) [] (List.replicate ls.length none++σ) H2 {s2 with heap:=h₁,toks:=tk}:=fun tk=>nS I2 S hh f2 hobj hCle hns₁ old
 have fpY: ∀ (Hx:Hp) (pl:List (Addr×Obj)),(∀b∈fp,Hx b=none)->(∀p∈pl,s2.heap.objs.size<=p.1)-> ∀b∈fp,FpOk (cxC X ls scope G2.objs.size s2 H2 fp) pl Hx b:=fun Hx pl hx hp b hb=>
  ⟨hx b hb,((J0 0).ok.exf b hb).1,(J0 0).ok.exfs b hb,.inl hb,((J0 0).ok.exf b hb).2,fun p hpp=>by
   have hpp:p∈pl:=by simpa [cxC] using hpp
   exact Nat.ne_of_gt (Nat.lt_of_lt_of_le (ltf b hb) (hp p hpp))⟩
 have loop: ∀s₃:Shared,s₃={s2 with heap:=h₁,toks:=s2.toks+([]:List (Str×Value)).length}->
   codeAny (model X.prog X.w) X.A (.compLoop (.ListComp elt [⟨tg,iter,ifs,0⟩] scope pos) 0 (.ref it) (.ref s2.heap.objs.size) (compEnvC scope (cloOf scope X.env) G2.objs.size X.env))
    (compPost (model X.prog X.w) X.A X.xe use QQ (.ref s2.heap.objs.size) G2.objs.size) s₃:=by
  rintro s₃ rfl
  refine d6 (fun n s'=> ∃ (i:Nat) (ys:List V) (its:List Value) (k:Nat) (H':Hp),Inv (cxC X ls scope G2.objs.size s2 H2 fp) [] (List.replicate ls.length none++σ) H' s'/\tn i s'.heap/\(∀b∈fp,H' b=none)/\H' s2.heap.objs.size=none/\
   s'.heap.get? s2.heap.objs.size=some {cls:=.type "list",data:=.seq its.toArray k}/\Vals ys its/\ys.length<=sizeLine/\W i n ys H') ?_ m0
   ⟨0,[],[],0,H2,J0 _,st1,fun b hb=>(f2 b hb).1,I2.hok.fresh (Nat.le_refl _),hacc,.nil,Nat.zero_le _,w0⟩
  rintro n s3 ⟨i,ys,its,k,H3,I3,st3,fr3,d3,e3,r3,z3,w3⟩
  have big: ∀p∈[((s2.heap.objs.size:Addr),({cls:=.type "list",data:=.seq its.toArray k}:Obj))],s2.heap.objs.size<=p.1:=fun p hp=>by
   have this:=List.mem_singleton.mp hp
   subst this
   exact Nat.le_refl _
  rcases turn i n ys H3 w3 with⟨stop,qn⟩|⟨go,R,hR,step⟩
  ·
   have P3:Inv (cxC X ls scope G2.objs.size s2 H2 fp) [(s2.heap.objs.size,{cls:=.type "list",data:=.seq its.toArray k})] (List.replicate ls.length none++σ) H3 s3:=I3.pins_of fun p hp=>by
    have this:=List.mem_singleton.mp hp
    subst this
    exact⟨e3,d3,hDC,nofD,fun v z=>by cases z⟩
   refine thx (T.done (cxC X ls scope G2.objs.size s2 H2 fp) rfl rfl rfl hcalm i _ s3 _ H3 (fun _ _=>False) P3 (fpY H3 _ fr3 big) st3 stop) fun r s4 qz=>?_
   obtain⟨hr,I4⟩:=qz
   subst hr
   obtain⟨m,hm,_⟩:=I4.loc
   have e4:=(I4.pin _ (List.mem_append_right _ (List.mem_singleton.mpr rfl))).1
   exact hQQ _ _ s4 _ ⟨m,hm⟩ (I2.fpOk hCle (by rw[ap (Ne.symm hDC)];exact I4.free)) (fun h' sb=>pX I2 f2 I4 (Nat.le_refl _) hCle hDC sb d3 e4 r3 z3) (qn _ d3)
  ·
   have P3:Inv (cxC X ls scope G2.objs.size s2 H2 fp) [(s2.heap.objs.size,{cls:=.type "list",data:=.seq its.toArray k})] (List.replicate ls.length none++σ) H3 s3:=I3.pins_of fun p hp=>by
    have this:=List.mem_singleton.mp hp
    subst this
    exact⟨e3,d3,hDC,nofD,fun v z=>by cases z⟩
   refine thx (T.item (cxC X ls scope G2.objs.size s2 H2 fp) rfl rfl rfl hcalm i _ s3 _ H3 (fun _ _=>False) P3 (fpY H3 _ fr3 big) st3 go) fun r s4 qz=>?_
   obtain⟨u,hr,h4⟩:=qz
   subst hr
   refine thx h4 fun _ s5 qz=>?_
   obtain⟨x,H5,I5,r5,y5,st5,fr5⟩:=qz
   have I5':=I5.pinned (fpY H5 _ fr5 big) (T.obj _ _ st5)
   refine thx (hg _ _ _ _ _ s5 _ H5 x u _ I5' r5 (step x H5 y5)) fun _ s6 qz=>?_
   obtain⟨σ6,H6,I6,q6⟩:=qz
   obtain⟨dr,ln,q6⟩:=q6
   have back: ∀ {s7:Shared}{H7:Hp},Inv (cxC X ls scope G2.objs.size s2 H2 fp) ([((s2.heap.objs.size:Addr),({cls:=.type "list",data:=.seq its.toArray k}:Obj))]++g9 fp s5.heap) σ6 H7 s7->
     Inv (cxC X ls scope G2.objs.size s2 H2 fp) [] (List.replicate ls.length none++σ) H7 s7/\tn (i+1) s7.heap/\(∀b∈fp,H7 b=none)/\H7 s2.heap.objs.size=none/\s7.heap.get? s2.heap.objs.size=some {cls:=.type "list",data:=.seq its.toArray k}:=fun{s7 H7} I7=>by
    have pD:=I7.pin _ (List.mem_append_right _ (List.mem_append_left _ (List.mem_singleton.mpr rfl)))
    have pF: ∀b∈fp,∀o,s5.heap.get? b=some o->s7.heap.get? b=some o/\H7 b=none:=fun b hb o e=>by
     have q:=I7.pin (b,o) (List.mem_append_right _ (List.mem_append_right _ (eZ hb e)))
     exact⟨q.1,q.2.1⟩
    refine⟨(I7.pins_of (pins':=[]) fun p hp=>absurd hp (by simp)).weak ?_ ?_,T.keep _ _ _ st5 fun b hb o e=>(pF b hb o e).1,fun b hb=>?_,pD.2.1,pD.1⟩
    ·rw[ln,List.length_append,List.length_replicate]
    ·intro j v ej
     by_cases hj:j<ls.length
     ·rw[List.getElem?_append_left (by simpa using hj),List.getElem?_replicate,if_pos hj] at ej
      cases ej
     ·rw[List.getElem?_append_right (by simpa using hj),List.length_replicate,<-dr,List.getElem?_drop] at ej
      rw[<-ej]
      congr 1
      omega
    ·obtain⟨o,e,_⟩:=T.obj _ _ st5 b hb
     exact (pF b hb o e).2
   refine thx (ht _ _ _ _ _ s6 σ6 H6 _ I6 q6) fun b s7 qz=>?_
   obtain⟨H7,I7,q7⟩:=qz
   cases b with
   |false=>
    rw[if_neg Bool.false_ne_true] at q7 ⊢
    obtain⟨m',hm,w7⟩:=hR _ _ q7
    obtain⟨a1,a2,a3,a4,a5⟩:=back I7
    exact⟨m',hm,i+1,ys,its,k,H7,a1,a2,a3,a4,a5,r3,z3,w7⟩
   |true=>
    rw[if_pos rfl] at q7 ⊢
    refine thx (he _ _ _ _ _ s7 σ6 H7 _ I7 q7) fun y s8 qz=>?_
    obtain⟨v,H8,I8,r8,z8,q8⟩:=qz
    obtain⟨m',hm,w8⟩:=hR _ _ q8
    obtain⟨a1,a2,a3,a4,a5⟩:=back I8
    have pl:s8.heap.PlainList s2.heap.objs.size its.toArray:=⟨k,a5⟩
    refine wpAny_list_append_plain (hsz:=by rw[List.size_toArray,<-r3.length];exact z3) pl fun h9 hl9 hs9=>?_
    obtain⟨k9,e9⟩:=hl9
    have cellN: ∀ (y:Str) (c:Addr),(cxC X ls scope G2.objs.size s2 H2 fp).env.cells.lookup y=some c->c≠s2.heap.objs.size:=fun y c e=>by
     have e1:X.env.cells.lookup y=some c:=iE X.env scope.names [] cf (fun y a e=>by simp at e) y c e
     obtain⟨v,o,ho,_⟩:=I2.cell y c e1
     exact Nat.ne_of_lt (Heap.lt_size ho)
    have I9:Inv (cxC X ls scope G2.objs.size s2 H2 fp) [] (List.replicate ls.length none++σ) H8 {s8 with heap:=h9}:=
     a1.turned (t':=s8.toks) (fun b o hb e=>hs9.extBut b o hb e) a4 hDC (.inr (Nat.le_refl _)) cellN (fun p hp=>absurd (show p∈([]:List (Addr×Obj)) from hp) (by simp))
    refine⟨m',hm,i+1,ys++[v],its++[y],k9,H8,I9,T.keep _ _ _ a2 fun b hb o e=>hs9.extBut b o (Nat.ne_of_lt (ltf b hb)) e,a3,a4,?_,r3.append (.cons r8 .nil),?_,w8⟩
    ·simpa using e9
    ·rw[List.length_append,List.length_singleton];exact z8
 exact codeAny_compStart_list (loop _ rfl) (T.self _ 0 _ _ _ st1 (loop _ rfl))
theorem qP (hcalm:X.calm=true)(S:CScope X ls scope)(hi:PI X tg iter wi)
  (hg: ∀C s2 H2 fp,PG (cxC X ls scope C s2 H2 fp) tg g)(ht: ∀C s2 H2 fp,PIfs (cxC X ls scope C s2 H2 fp) ifs tt)(he: ∀C s2 H2 fp,PE (cxC X ls scope C s2 H2 fp) elt te)
  (hs: ∀x,foldedSetIterable iter X.env x=pure x:=by intro _;rfl):PE X (.ListComp elt [⟨tg,iter,ifs,0⟩] scope pos) (tComp X.N ls wi g tt te):=by
 intro pins s σ H Q I h
 rw[eval_ListComp]
 refine n9 (use:=none) hcalm S hi hg ht he hs I h fun D C s' H' hm _ hI q=>?_
 obtain⟨m,hm⟩:=hm
 exact⟨m,hm,fun h' sb=>⟨.ref D,H',hI h' sb,rfl,q⟩⟩
end
end L2
namespace L2
open PySem PySem.Spec PyProof.Rows
noncomputable def mP (ls:List Str)(sc outer:Scope):Bool:=(sc.kind==.function && ls.all fun y=>(sc.names.lookup ⟨#[63]++y.cps⟩).isNone) && sc.names.all fun y=>(y.2 !=.cell) && (y.2 !=.local ||(sc.names.lookup y.1==some .local && ls.contains y.1)) && (y.2 !=.free||outer.names.lookup y.1==some .cell||outer.names.lookup y.1==some .free)
theorem CScope.of {X:Cx}{ls:List Str}{scope:Scope}(outer:Scope)(h:mP ls scope outer=true:=by decide+kernel)(ho:X.env.scope=outer:=by rfl):CScope X ls scope:=by
 unfold mP at h
 rw[Bool.and_eq_true,List.all_eq_true] at h
 obtain⟨h0,h⟩:=h
 rw[Bool.and_eq_true,List.all_eq_true] at h0
 obtain⟨h0,hq⟩:=h0
 refine⟨by simpa using h0,fun y hy e=>?_,fun y hy e=>?_,fun y hy=>?_,fun y hy e=>?_,fun y hy k e=>by have q:=hq y hy;rw[e] at q;cases q⟩
 ·have q:=h y hy
  simp [e] at q
 ·have q:=h y hy
  simp [e] at q
  exact q.1
 ·have q:=h _ (PySem.mem_of_lookup hy)
  simp at q
  exact q.2
 ·have q:=h y hy
  simp [e] at q
  show X.env.scope.names.lookup y.1=_\/X.env.scope.names.lookup y.1=_
  rw[ho]
  exact q
noncomputable def CMulB (i j:Int):Prop:=i.natAbs<2 ^ 65536/\j.natAbs<2 ^ 65536
theorem mT {i:Int}{n:Nat}(h:i.natAbs<2 ^ n):Builtin.Int.intBits i<=n:=by
 unfold Builtin.Int.intBits
 split
 ·exact Nat.zero_le _
 ·rename_i hz
  have hz':i.natAbs≠0:=by
   intro e
   exact hz (by simp_all)
  have:=(Nat.log2_lt hz').mpr h
  omega
theorem CMulB.ok {i j:Int}(h:CMulB i j):IntMulOk i j:=.of_bits (Nat.le_trans (mT h.1) (by decide)) (Nat.le_trans (mT h.2) (by decide))
section
variable {X:Cx}
theorem gv: ∀ {ns:List Int}{us:List Value},Vals (ns.map V.int) us->IntsAre us ns
 |[],_,.nil=>.nil
 |n::r,_,.cons h t=>by
  obtain⟨tk,rfl⟩:=h
  exact .cons n tk (gv t)
theorem call_isinst:CallR X (.builtin "isinstance") (fun xs H Q=> ∃ (x c:V) (cv t:Value) (b:Bool),xs=[x,c]/\RelV c cv/\TyOf X.K H x t/\kitOne X.K t cv=some b/\Q (.bl b) H):=by
 intro pins s σ H xs us Q I r h
 obtain⟨x,c,cv,t,b,rfl,rc,ty,e,q⟩:=h
 obtain⟨u,u',rfl,ru,ru'⟩:=vals2 r
 have:u'=cv:=by
  cases c with
  |ref a=>cases rc;cases ru';rfl
  |ty n=>cases rc;cases ru';rfl
  |non=>cases rc;cases ru';rfl
  |bl _=>cases rc;cases ru';rfl
  |int _=>obtain⟨t1,rfl⟩:=rc;exact absurd e (by simp [kitOne,PySem.W.kitCls];intro h;cases ty<;>cases h)
  |str _=>obtain⟨t1,rfl⟩:=rc;exact absurd e (by simp [kitOne,PySem.W.kitCls];intro h;cases ty<;>cases h)
  |byt _=>obtain⟨t1,rfl⟩:=rc;exact absurd e (by simp [kitOne,PySem.W.kitCls];intro h;cases ty<;>cases h)
  |flt _=>obtain⟨t1,rfl⟩:=rc;exact absurd e (by simp [kitOne,PySem.W.kitCls];intro h;cases ty<;>cases h)
 subst this
 exact nQ I ru ty e fun tk=>⟨.bl b,H,I.tok tk,rfl,q⟩
mutual
inductive Den (K:PySem.W.Frag)(H:Hp):V->PyData->Prop
 |non:Den K H .non .none
 |bl (b):Den K H (.bl b) (.bool b)
 |int (i):Den K H (.int i) (.int i)
 |str (x):Den K H (.str x) (.str x)
 |lst {a xs ds}:SqL K H a xs->DenAll K H xs ds->Den K H (.ref a) (.list ds)
 |tup {a xs ds}:SqT K H a xs->DenAll K H xs ds->Den K H (.ref a) (.tuple ds)
inductive DenAll (K:PySem.W.Frag)(H:Hp):List V->List PyData->Prop
 |nil:DenAll K H [] []
 |cons {x xs d ds}:Den K H x d->DenAll K H xs ds->DenAll K H (x::xs) (d::ds)
end
mutual
theorem dA {pins:List (Addr×Obj)}{σ:St}{H:Hp}{s:Shared}(I:Inv X pins σ H s): ∀ {x:V}{d:PyData}{u:Value},Den X.K H x d->RelV x u-> ∃as,Reads s.heap u d as
 |_,_,_,.non,r=>by cases r;exact⟨_,.none⟩
 |_,_,_,.bl b,r=>by cases r;exact⟨_,.bool b⟩
 |_,_,_,.int i,r=>by obtain⟨t,rfl⟩:=r;exact⟨_,.int i t⟩
 |_,_,_,.str i,r=>by obtain⟨t,rfl⟩:=r;exact⟨_,.str i t⟩
 |_,_,_,.lst hq ha,r=>by
  cases r
  obtain⟨its,rv,⟨o,n,e1,e2,e3,e4⟩,hz⟩:=I.list hq
  obtain⟨as,h⟩:=dU I ha rv
  exact⟨_,.list e1 e2 e4 (by simpa using h)⟩
 |_,_,_,.tup hq ha,r=>by
  cases r
  obtain⟨its,rv,⟨o,e1,e2,n,e3⟩,hz⟩:=I.tuple hq
  obtain⟨as,h⟩:=dU I ha rv
  exact⟨_,.tuple e1 e2 e3 (by simpa using h)⟩
theorem dU {pins:List (Addr×Obj)}{σ:St}{H:Hp}{s:Shared}(I:Inv X pins σ H s): ∀ {xs:List V}{ds:List PyData}{us:List Value},DenAll X.K H xs ds->Vals xs us-> ∃as,ReadsAll s.heap us ds as
 |_,_,_,.nil,.nil=>⟨_,.nil⟩
 |_,_,_,.cons h t,.cons r rs=>by
  obtain⟨as,h1⟩:=dA I h r
  obtain⟨bs,h2⟩:=dU I t rs
  exact⟨_,.cons h1 h2⟩
end
def rEqD (K:PySem.W.Frag)(A:Around)(neg:Bool):R2:=fun x y H Q=> ∃d e,Den K H x d/\Den K H y e/\d.canLay0=true/\e.canLay0=true/\A.units+min d.depth e.depth<cLine/\Q (.bl (if neg then !PyData.eqv d e else PyData.eqv d e)) H
theorem tp:OpR X (compareOp .Eq) (rEqD X.K X.A false):=by
 intro pins s σ H x y v u Q I rx ry h
 obtain⟨d,e,hd,he,cd,ce,hu,q⟩:=h
 obtain⟨as,ra⟩:=dA I hd rx
 obtain⟨bs,rb⟩:=dA I he ry
 exact SeqAt.compareEq_reads ra rb cd ce hu ⟨.bl _,H,I,rfl,q⟩
theorem tj:OpR X (compareOp .NotEq) (rEqD X.K X.A true):=by
 intro pins s σ H x y v u Q I rx ry h
 obtain⟨d,e,hd,he,cd,ce,hu,q⟩:=h
 obtain⟨as,ra⟩:=dA I hd rx
 obtain⟨bs,rb⟩:=dA I he ry
 exact SeqAt.compareNe_reads ra rb cd ce hu ⟨.bl _,H,I,rfl,q⟩
end
end L2
namespace L2
open PySem PySem.Spec PyProof.Rows
section
variable {X:Cx}{pins:List (Addr×Obj)}{σ:St}{H:Hp}{s:Shared}
end
section
variable {P:Program}{w:World}{K:PySem.W.Frag}{mg:Str->Option Value}{base:Heap}{N:List Str}{qual:Str}{scope:Scope}{f:Addr}{cd:Value}{A:Around}{outer:List Env}{s:Shared}{H:Hp}{E:XK}
end
end L2
namespace L2
open PySem PySem.Spec PyProof.Rows
section
variable {X:Cx}{tg:Expr}
end
section
variable {X:Cx}
theorem kT: ∀ {bs:List Bool}{us:List Value},Vals (bs.map V.bl) us->LSm.BoolsAre us bs
 |[],_,.nil=>.nil
 |b::r,_,.cons h t=>by
  have h:_=Value.bool b:=h
  subst h
  exact .cons b (kT t)
theorem qj (hc:X.calm=true):CallR X (.builtin "all") (fun xs H Q=> ∃ (p:Addr) (bs:List Bool),xs=[.ref p]/\SqL X.K H p (bs.map V.bl)/\Q (.bl (bs.all id)) H):=by
 intro pins s σ H xs us Q I r h
 obtain⟨p,bs,rfl,hq,q⟩:=h
 obtain⟨u,rfl,ru⟩:=vals1 r
 cases ru
 obtain⟨its,rv,pl,hz⟩:=I.list hq
 have hb:=kT rv
 have hl:=pl.isList
 have hlt:p<s.heap.objs.size:=by obtain⟨_,e,_⟩:=hl;exact Heap.lt_size e
 refine call_all_walk (wpAny_pyIter_list hl ?_)
 refine⟨s.heap.objs.size,[s.heap.objs.size,p],[s.heap.objs.size],its.toArray.size,_,_,fun i=>(bs[i]?).getD true,rfl,Walks.list (A:=X.A.in1) (I.ok.hd hc) _ p (Nat.ne_of_lt hlt) its.toArray,
  ⟨⟨_,Heap.get?_push_size _ rfl,rfl,rfl⟩,hl.push _⟩,fun i v s' Q' E' hP hQ=>?_,fun h' tk hk=>?_⟩
 ·obtain⟨b,e,rfl⟩:=hb.get i v (by simpa using hP)
  simp only[e,Option.getD_some] at hQ
  exact wpAny_truthy_bool hQ
 ·have e:((List.range its.toArray.size).all fun i=>(bs[i]?).getD true)=bs.all id:=by
   rw[List.size_toArray,hb.length];exact LSm.range_all bs
  rw[e]
  exact⟨.bl _,H,I.kept (t':=tk) (LSm.kept_iter hk),rfl,q⟩
theorem sl_str:SlR X (fun x lo hi H Q=> ∃z,x=.str z/\z.length<=sizeLine/\Q (.str (StrLaws.sliceText z lo hi)) H):=by
 intro pins s σ H x v vl vu lo hi sl Q I rx hs pl pu h
 obtain⟨z,rfl,hz,q⟩:=h
 obtain⟨t,rfl⟩:=rx
 have part: ∀ {v:Value}{o:Option Int},IsPart v o-> ∃p:Option (Int×Tok),v=partValue p/\p.map (·.1)=o:=fun{v o} h=>by
  cases h with
  |none=>exact⟨none,rfl,rfl⟩
  |int i t=>exact⟨some (i,t),rfl,rfl⟩
 obtain⟨l,rfl,el⟩:=part pl
 obtain⟨u,rfl,eu⟩:=part pu
 refine⟨"str",_,slot_str_getitem.lookup,typeIs_str s z t,?_⟩
 obtain⟨o,h1,h2,h3⟩:=hs
 refine wpAny_getItem_str_slice (l:=l) (u:=u) (st:=none) ⟨o,h1,h2,h3⟩ rfl ?_
 subst el eu
 unfold sliceMade slicePicked
 unfold StrLaws.sliceText at q
 simp only[Option.map_none,Option.getD_none]
 split
 ·rename_i hc
  rw[if_pos hc] at q
  exact⟨.str z,H,I,⟨t,rfl⟩,q⟩
 ·rename_i hc
  rw[if_neg hc] at q
  refine⟨?_,.str _,H,I.tok _,⟨_,rfl⟩,q⟩
  show ((_:List Nat).toArray).size<=sizeLine
  rw[List.size_toArray]
  exact Nat.le_trans (List.length_filterMap_le _ _) (Nat.le_trans (sliceIndices_le _ _ _) hz)
theorem op_mul_str:OpR X (binaryOp .Mult) (fun x y H Q=> ∃ (z:Str) (n:Int),x=.str z/\y=.int n/\MulOk z n/\Q (.str (Txt.mul z n)) H):=by
 intro pins s σ H x y v u Q I rx ry h
 obtain⟨z,n,rfl,rfl,ho,q⟩:=h
 obtain⟨t,rfl⟩:=rx
 obtain⟨t',rfl⟩:=ry
 exact SB.mul ho fun t' k=>⟨.str _,H,I.tok k,⟨_,rfl⟩,q⟩
end
section
variable {X:Cx}{C:Addr}{E:XK}{x:Str}{np cpos pos:Pos}{a:Expr}{es:List Expr}{t:TA}
end
end L2
namespace L2
open PySem PySem.Spec PyProof.Rows
noncomputable def excO (ea:Addr)(cls:Value):HO:=.ext fun h=> ∃o vs,h.get? ea=some o/\o.cls=cls/\o.data=.fields vs
section
variable {X:Cx}{pins:List (Addr×Obj)}{σ:St}{H:Hp}{s:Shared}{pn:List (Addr×Obj)}{xe:Value->Shared->Prop}
end
section
variable {X:Cx}{CX:CXT}{k:Nat}{f C:Addr}{fd:FuncData}{ps:List Str}{sp:Sp}{dvs:List V}{ds:List Value}{Z:St->XK}{x m:Str}{p pos apos:Pos}{e o:Expr}{es:List Expr}{ta:TE}{t:TA}
end
section
variable {X:Cx}{x:Str}{C:Value}{body suite:List Stmt}{b0:Stmt}{np hpos pos:Pos}{tb:(St->XK)->TS}{ts:TS}
end
section
variable {P:Program}{w:World}{K:PySem.W.Frag}{mg:Str->Option Value}{base:Heap}
end
end L2
namespace L2
open PySem PySem.Spec PyProof.Rows
section
variable {X:Cx}
end
end L2
namespace L2
open PySem PySem.Spec PyProof.Rows
section
variable {X:Cx}
end
def Ite (K:PySem.W.Frag)(a:Addr):It:=
 ⟨fun i H=> ∃xs x,SqL K H a xs/\xs[i]?=some x,fun i H v H'=> ∃T x,H T=none/\v=.ref T/\(∀xs,SqL K H a xs->xs[i]?=some x)/\H'=upd H T (.tup [.int i,x]),fun i H=> ∃xs,SqL K H a xs/\xs.length=i⟩
theorem mZ {P:Program}{w:World}{K:PySem.W.Frag}{elts:List Expr}{x1}{tpos:Pos}(a e it:Addr)(hei:e≠it):Turn P w K (.Tuple elts x1 tpos) (Ite K a) [e,it] e (fun i h=>(∃old,IsEnum h e it i old)/\h.IsListIter it a i) where
 mem:=by simp
 obj:=fun i h st b hb=>by
  obtain⟨⟨old,he⟩,st⟩:=st
  rcases List.mem_cons.mp hb with rfl|hb
  ·exact⟨_,he,fun v z=>by cases z⟩
  ·have e':b=it:=by simpa using hb
   subst e'
   obtain⟨o,e,c,d⟩:=st
   exact⟨o,e,fun v z=>by rw[d] at z;cases z⟩
 keep:=fun i h h' st k=>⟨let ⟨old,he⟩:=st.1;⟨old,k e (by simp) _ he⟩,st.2.at fun o e=>k it (by simp) o e⟩
 item:=by
  intro X hP hw hK hc i pins s σ H E I hf st hg
  subst hP hw hK
  obtain⟨⟨old,he⟩,st⟩:=st
  obtain⟨xs,x,hq,hx⟩:=hg
  obtain⟨its,rv,p,hz⟩:=I.list hq
  obtain⟨u,hu,ru⟩:=rv.get hx
  have fe:=hf e (by simp)
  have fi:=hf it (by simp)
  obtain⟨oi,hoi,hoc,hod⟩:=id st
  have nai:a≠it:=fun z=>by
   obtain⟨o,h1,h2,_⟩:=p.isList
   rw[z,hoi] at h1
   cases h1
   rw[hoc] at h2
   exact absurd h2 (by decide)
  have nae:e≠a:=fun z=>by
   obtain⟨o,h1,h2,_⟩:=p.isList
   rw[<-z,show s.heap.get? e=_ from he] at h1
   cases h1
   exact absurd (show Value.type "enumerate"=Value.type "list" from h2) (by decide)
  have D:=Draws.list (prog:=X.prog) (w:=X.w) (A:=X.A.in1) (I.ok.hd hc) it a nai its.toArray
  refine wpAny_pyNext_enum_itemD D he ⟨st,p.isList⟩ (by
   have:=List.getElem?_eq_some_iff.mp hu
   obtain⟨z,_⟩:=this
   simpa using z) hei (by simp [hei,nae]) fun v h' tk hP hout hst hT hsz hk=>?_
  have hv:v=u:=by
   have hP:its.toArray[i]?=some v:=hP
   rw[List.getElem?_toArray,hu] at hP
   exact (Option.some.inj hP).symm
  subst hv
  have nT:H s.heap.objs.size=none:=I.hok.fresh (Nat.le_refl _)
  have lt: ∀b o,s.heap.get? b=some o->b≠s.heap.objs.size:=fun b o q=>Nat.ne_of_lt (Heap.lt_size q)
  have ltH: ∀b o,H b=some o->b≠s.heap.objs.size:=fun b o q z=>by rw[z,nT] at q;cases q
  have neH: ∀b o,H b=some o->b≠e/\b≠it:=fun b o q=>⟨fun z=>by (rw[z,fe.1] at q;cases q),fun z=>by (rw[z,fi.1] at q;cases q)⟩
  have I1:Inv X pins σ (upd H s.heap.objs.size (.tup [.int i,x])) {s with heap:=h',toks:=tk+1}:=by
   refine I.call' (s':={s with heap:=h',toks:=tk+1}) (ch:=[e,it]) rfl ⟨fun b o q n hb hx=>?_,fun b o q n hb hx=>?_,fun b o q n hx=>?_,fun b o q hx=>?_,fun b xs q=>?_,fun b o u q=>?_,fun b ps q=>?_⟩ (fun b o q=>?_) I.bare fun b hb=>?_
   ·exact hk b o (fun z=>hx (by simp [z])) (fun z=>hx (by simp [z])) q
   ·exact⟨o.slots,hk b o (fun z=>hx (by simp [z])) (fun z=>hx (by simp [z])) q⟩
   ·rw[ap (lt b o q)];exact n
   ·exact⟨o,hk b o (fun z=>hx (by simp [z])) (fun z=>hx (by simp [z])) q⟩
   ·rw[ap (ltH b _ q)];exact q
   ·rw[ap (ltH b _ q)];exact q
   ·exact⟨#[],by rw[ap (ltH b _ q),q];simp⟩
   ·by_cases hb:b=s.heap.objs.size
    ·subst hb
     rw[aR] at q
     cases q
     exact⟨by show 2<=sizeLine;decide,_,.cons ⟨tk,rfl⟩ (.cons ru .nil),⟨_,hT,rfl,_,rfl⟩,_,hT,rfl⟩
    ·rw[ap hb] at q
     refine (I.hok b o q).stay (fun c v hc r=>?_) (fun c r=>by rw[ap (ltH c _ r)];exact r) fun c xs r=>by rw[ap (ltH c _ r)];exact r
     have: ∃o,H c=some o:=by
      rcases hc with rfl|hc
      ·exact⟨o,q⟩
      ·exact⟨_,hc⟩
     obtain⟨o',qo⟩:=this
     exact hk c v (neH c o' qo).1 (neH c o' qo).2 r
   ·have fb:FpOk X pins H b:=by
     rcases List.mem_cons.mp hb with rfl|hb
     ·exact fe
     ·have e':b=it:=by simpa using hb
      subst e';exact fi
    exact⟨fb.2.2.2.1,fb.2.1,fb.2.2.2.2.1,fb.2.2.2.2.2⟩
  refine⟨_,rfl,wpAny_letOwnedTupleGo_enum (s:={s with heap:=h',toks:=tk+1}) hout fun h2 he2 hs2=>?_⟩
  have neT: ∀b∈[e,it],b≠s.heap.objs.size:=fun b hb=>by
   rcases List.mem_cons.mp hb with rfl|hb
   ·exact lt _ _ he
   ·have e':b=it:=by simpa using hb
    subst e';exact lt _ _ hoi
  have fe':(upd H s.heap.objs.size (.tup [.int i,x])) e=none:=by rw[ap (neT e (by simp))];exact fe.1
  refine⟨.ref s.heap.objs.size,upd H s.heap.objs.size (.tup [.int i,x]),?_,rfl,⟨s.heap.objs.size,x,nT,rfl,fun ys hy=>by rw[I.list_inj hy hq];exact hx,rfl⟩,⟨⟨_,by simpa using he2⟩,hst.1.at fun o eo=>(hs2.2 it (Ne.symm hei)).trans eo⟩,fun b hb=>?_⟩
  ·exact I1.turned (t':=tk+1) (fun b o hb eo=>(hs2.2 b hb).trans eo) fe' fe.2.1 fe.2.2.2.1 fe.2.2.2.2.1 fe.2.2.2.2.2
  ·rw[ap (neT b hb)]
   exact (hf b hb).1
 done:=by
  intro X hP hw hK hc i pins s σ H E I hf st hg
  subst hP hw hK
  obtain⟨⟨old,he⟩,st⟩:=st
  obtain⟨xs,hq,hx⟩:=hg
  obtain⟨its,rv,p,hz⟩:=I.list hq
  have fi:=hf it (by simp)
  obtain⟨oi,hoi,hoc,hod⟩:=id st
  have nai:a≠it:=fun z=>by
   obtain⟨o,h1,h2,_⟩:=p.isList
   rw[z,hoi] at h1
   cases h1
   rw[hoc] at h2
   exact absurd h2 (by decide)
  have D:=Draws.list (prog:=X.prog) (w:=X.w) (A:=X.A.in1) (I.ok.hd hc) it a nai its.toArray
  have ei:i=its.toArray.size:=by rw[List.size_toArray,<-rv.length];exact hx.symm
  refine wpAny_pyNext_enum_endD D he (by rw[<-ei];exact⟨st,p.isList⟩) fun h' eb=>⟨rfl,I.turned (t':=s.toks) (fun b o hb e=>eb b o hb e) fi.1 fi.2.1 fi.2.2.2.1 fi.2.2.2.2.1 fi.2.2.2.2.2⟩
 self:=fun _ _ _ _ _ st h=>let ⟨_,he⟩:=st.1;wpAny_pyIter_enum he h
section
variable {X:Cx}
def iEnum (K:PySem.W.Frag)(ta:TA):TI:=fun σ H R=>ta σ H fun vs H1=> ∃a,vs=[.ref a]/\(∃xs,SqL K H1 a xs)/\R (Ite K a) H1
theorem qN {a:Expr}{ta:TA}{p pos:Pos}{elts:List Expr}{x1}{tpos:Pos}(hg:Gl X "enumerate")(hm:X.mg "enumerate"=none)(ha:PA X [a] ta)(hs:starEach [a] X.env=[(false,eval a X.env)]:=by rfl):PI X (.Tuple elts x1 tpos) (.Call (.Name "enumerate" p) [a] [] pos) (iEnum X.K ta):=by
 intro pins s σ H R I h
 refine Call_ (dj I hg hm boot_enumerate (PyProof.Rows.callWith_type1 (thn (ha pos pins s σ H _ I h) fun us s1 qz=>?_) hs rfl))
 obtain⟨vs,H1,I1,r1,q1⟩:=qz
 obtain⟨b,e,⟨xs,hq⟩,q⟩:=q1
 subst e
 cases r1 with
 |cons r rr=>
  cases rr
  cases r
  obtain⟨its,rv,pl,hz⟩:=I1.list hq
  refine call_enumerate_list pl.isList fun h' he hi hsz hk=>?_
  refine wpAny_pyIter_enum he ?_
  have I2:Inv X pins σ H1 {s1 with heap:=h'}:=I1.kept (t':=s1.toks) hk
  refine⟨s1.heap.objs.size+1,[s1.heap.objs.size+1,s1.heap.objs.size],_,_,H1,rfl,I2,mZ b _ _ (by simp),⟨⟨_,he⟩,hi⟩,fun c hc=>?_,q⟩
  have hc':s1.heap.objs.size<=c:=by
   rcases List.mem_cons.mp hc with rfl|hc
   ·exact Nat.le_succ _
   ·have:c=s1.heap.objs.size:=by simpa using hc
    exact Nat.le_of_eq this.symm
  exact I1.fpOk hc' (I1.hok.fresh hc')
end
end L2
set_option maxHeartbeats 1000000
namespace L2
open PySem PySem.Spec PyProof.Rows PySem.W
section
variable {prog:Program}{w:World}{A:Around}{E:Value->Shared->Prop}{h:Heap}{g:Array GenState}{d:Drawn}{t:Nat}{os:OsState}{a C:Addr}{o:Obj}{K:PySem.W.Frag}
end
section
variable {X:Cx}
end
end L2
set_option maxHeartbeats 1000000
namespace L2
open PySem PySem.Spec PyProof.Rows PySem.W
section
variable {X:Cx}{pins:List (Addr×Obj)}{σ:St}{H:Hp}{s:Shared}
end
section
variable {X:Cx}{x n:Str}{C:Value}{body suite:List Stmt}{b0:Stmt}{np hpos pos:Pos}{tb:(St->XK)->TS}{ts:TS}{i:Nat}
end
end L2
set_option maxHeartbeats 1000000
namespace L2
open PySem PySem.Spec PyProof.Rows
section
variable {X:Cx}
end
section
variable {X:Cx}
end
end L2
namespace L2
open PySem
end L2
set_option maxHeartbeats 1000000
namespace L2
open PySem PySem.Spec PyProof.Rows
open Sem (wp)
open Builtin
section
variable {prog:Program}{w:World}{A:Around}{E:Value->Shared->Prop}{s:Shared}
theorem ox {j t:Addr}{i:Nat}{its:Array Value}{x:Value}{Q:Value->Shared->Prop}(g:s.heap.IsTupleIter j t i)(gt:s.heap.IsTuple t its)(hx:its[i]?=some x)(k:∀h',h'.IsTupleIter j t (i+1)->Heap.SameBut j s.heap h'->Q x {s with heap:=h'}):wpAny (model prog w) A (SmallTypes.nextOf (.ref j)) Q E s:=by
 obtain⟨o,q1,q2,q3⟩:=id g
 obtain⟨u,z1,_,n,z2⟩:=gt
 unfold SmallTypes.nextOf
 refine wpAny_bind (wpAny_callSpecial?_slot (name:=Str.ofString "__next__") g.typeIs F.slot_tuple_iterator_next (wpAny_call_entry F.slot_tuple_iterator_next g.typeIs F.entry_tuple_iterator_next ?_ (F.args_tuple_iterator_next_1 _)))
 show wpAny _ _ (field (.ref j) 0>>=_) _ _ s
 refine wpAny_bind (wpAny_field q1 q3 (x:=.ref t) rfl ?_)
 show wpAny _ _ (if (Value.ref t==Value.none)=true then _ else _) _ _ s;rw[if_neg (show¬((Value.ref t==Value.none)=true) from Bool.false_ne_true)]
 show wpAny _ _ (field (.ref j) 1>>=_) _ _ s
 refine wpAny_bind (wpAny_field q1 q3 (x:=.int i 0) rfl ?_)
 show wpAny _ _ (seqItems? (.ref t)>>=_) _ _ s;refine wpAny_bind (wpAny_seqItems z1 z2 ?_)
 simp only[Int.toNat_natCast,hx]
 refine wpAny_bind (wpAny_setField q1 q3 (by simp) (wpAny_pure ⟨x,rfl,wpAny_pure (k _ ?_ (Heap.SameBut.update ..))⟩))
 exact⟨_,Heap.get?_update_self _ q1 (Obj.isFreed_of_fields (Obj.data_mapFields q3 _)),(Obj.cls_mapFields ..).trans q2,by rw[Obj.data_mapFields q3];simp [rawInt]⟩
theorem oz {j t:Addr}{i:Nat}{its:Array Value}{Q:Value->Shared->Prop}(hh:A.handled=none)(g:s.heap.IsTupleIter j t i)(gt:s.heap.IsTuple t its)(hx:its[i]?=none)(k:∀h' e,Heap.ExtBut j s.heap h'->(∃o,h'.get? e=some o/\o.cls=.type "StopIteration")->E (.ref e) {s with heap:=h'}):wpAny (model prog w) A (SmallTypes.nextOf (.ref j)) Q E s:=by
 obtain⟨o,q1,q2,q3⟩:=id g
 obtain⟨u,z1,_,n,z2⟩:=gt
 unfold SmallTypes.nextOf
 refine wpAny_bind (wpAny_callSpecial?_slot (name:=Str.ofString "__next__") g.typeIs F.slot_tuple_iterator_next (wpAny_call_entry F.slot_tuple_iterator_next g.typeIs F.entry_tuple_iterator_next ?_ (F.args_tuple_iterator_next_1 _)))
 show wpAny _ _ (field (.ref j) 0>>=_) _ _ s
 refine wpAny_bind (wpAny_field q1 q3 (x:=.ref t) rfl ?_)
 show wpAny _ _ (if (Value.ref t==Value.none)=true then _ else _) _ _ s;rw[if_neg (show¬((Value.ref t==Value.none)=true) from Bool.false_ne_true)]
 show wpAny _ _ (field (.ref j) 1>>=_) _ _ s
 refine wpAny_bind (wpAny_field q1 q3 (x:=.int i 0) rfl ?_)
 show wpAny _ _ (seqItems? (.ref t)>>=_) _ _ s;refine wpAny_bind (wpAny_seqItems z1 z2 ?_)
 simp only[Int.toNat_natCast,hx]
 refine wpAny_bind (wpAny_rule (wpAny_bind (wpAny_setField q1 q3 (by simp) ?_)))
 show wpAny _ _ (newExc (.type "StopIteration") []>>=_) _ _ _;refine wpAny_bind ?_
 simp only[newExc,newTuple];refine wpAny_bind (wpAny_newObj_type ?_ (by size_fits))
 refine wpAny_bind (m:=firstArgMember _ _) (wpAny_of_eq (a:=Value.none) (by first|rfl|(simp only[firstArgMember];rfl)) (wpAny_newObj_type ?_ (by size_fits)))
 simp only[raiseNew];refine wpAny_bind (wpAny_handled ?_)
 first|rw[show A.in1.handled=none from hh]|rw[hh]
 exact wpAny_bind (wpAny_pure (wpAny_throw (k _ _ (((Heap.SameBut.update ..).extBut.push _).push _) ⟨_,Heap.get?_push_size _ rfl,rfl⟩)))
end
theorem eK {prog:Program}{w:World}{A:Around}(hh:A.handled=none)(j t:Addr)(hne:t≠j)(its:Array Value):Draws prog w A j [j,t] its.size (fun i v=>its[i]?=some v) (fun i h=>h.IsTupleIter j t i/\h.IsTuple t its) where
 live:=fun _ _ st=>let ⟨o,q,_⟩:=st.1;⟨o,q⟩
 frame:=fun _ _ _ st k=>⟨let ⟨o,q,r⟩:=st.1;⟨o,k j (by simp) o q,r⟩,let ⟨o,q,r⟩:=st.2;⟨o,k t (by simp) o q,r⟩⟩
 item:=fun i s Q E hi st k=>ox st.1 st.2 (x:=its[i]) (by simp [hi]) fun h' a b=>k _ h' s.toks (by simp [hi]) ⟨a,st.2.extBut b.extBut hne⟩ b
 done:=fun s Q E st k=>oz hh st.1 st.2 (by simp) k
theorem tupOf {h:Heap}{a:Addr}{its:Array Value}(p:IsTup h a its):h.IsTuple a its:=p
set_option maxRecDepth 100000 in
theorem ku (l:Addr)(its:Array Value)(n:Nat)(dct:Option Addr)(sl:Array (Option Value)):
  Meets (Builtin.«enumerate.__new__» ⟨[.type "enumerate",.ref l],[]⟩) (fun _ R s=>s.heap.get? l=some {cls:=.type "tuple",dict:=dct,data:=.seq its n,slots:=sl}/\
   R (.ok (.ret (.ref (s.heap.push {cls:=.type "tuple_iterator",data:=.fields #[.ref l,.int 0 0]}).objs.size))) {s with heap:=(s.heap.push {cls:=.type "tuple_iterator",data:=.fields #[.ref l,.int 0 0]}).push {cls:=.type "enumerate",data:=.fields #[.none,.bool false,.ref s.heap.objs.size,rawInt 0,.none,.none]}}):=
 .of_wp fun prog w A R s h=>by
  obtain⟨hp,g,d,tk,os⟩:=s;obtain⟨hl,h⟩:=h
  have hsub:=sub_enumerate
  have hT:Heap.IsTuple (Shared.heap ⟨hp,g,d,tk,os⟩) l its:=⟨_,hl,rfl,n,rfl⟩
  wp_walk using AutoSeq1.wpAny_loadPart' hl
  refine wpAny_stack_any fun st=>wpAny_pure ?_
  split
  ·rename_i c _ _ _ _ _
   cases (c==Value.type "enumerate")<;>(wp_walk using AutoSeq1.wpAny_loadPart' hl,wpAny_pyIter_tuple hT;exact⟨_,rfl,h⟩)
  ·wp_walk using AutoSeq1.wpAny_loadPart' hl,wpAny_pyIter_tuple hT
   exact⟨_,rfl,h⟩
section
variable {prog:Program}{w:World}{A:Around}{E:Value->Shared->Prop}{s:Shared}
theorem lT {l:Addr}{its:Array Value}{Q:Value->Shared->Prop}(hT:s.heap.IsTuple l its)
  (k:∀h',IsEnum h' (s.heap.objs.size+1) s.heap.objs.size 0 .none->h'.IsTupleIter s.heap.objs.size l 0->h'.objs.size=s.heap.objs.size+2->(∀b o,s.heap.get? b=some o->h'.get? b=some o)->Q (.ref (s.heap.objs.size+1)) {s with heap:=h'}):
  wpAny (model prog w) A (call (.type "enumerate") [.ref l]) Q E s:=by
 obtain⟨⟨c,dct,dt,sl⟩,hl,hc,n,hd⟩:=hT
 replace hc:c=.type "tuple":=hc
 replace hd:dt=.seq its n:=hd
 subst hc hd
 refine callType_new F.called_enumerate (by decide) (F.typeCall_enumerate_1 _) (F.newCall_enumerate_1 _) (fun obj=>F.args_object_init_2 obj _) F.entry_enumerate_new (ku l its n dct sl) ⟨hl,?_⟩
 have hz:(s.heap.push {cls:=.type "tuple_iterator",data:=.fields #[.ref l,.int 0 0]}).objs.size=s.heap.objs.size+1:=Heap.size_push ..
 show _/\_
 rw[hz]
 have he:IsEnum ((s.heap.push {cls:=.type "tuple_iterator",data:=.fields #[.ref l,.int 0 0]}).push {cls:=.type "enumerate",data:=.fields #[.none,.bool false,.ref s.heap.objs.size,rawInt 0,.none,.none]}) (s.heap.objs.size+1) s.heap.objs.size 0 .none:=by
  have z:=Heap.get?_push_size (s.heap.push {cls:=.type "tuple_iterator",data:=.fields #[.ref l,.int 0 0]}) (o:={cls:=.type "enumerate",data:=.fields #[.none,.bool false,.ref s.heap.objs.size,rawInt 0,.none,.none]}) rfl
  rw[hz] at z;exact z
 refine⟨⟨_,he,rfl⟩,k _ he ⟨_,Heap.get?_push_of_some _ (Heap.get?_push_size _ rfl),rfl,rfl⟩ (by rw[Heap.size_push,hz]) fun b o x=>Heap.get?_push_of_some _ (Heap.get?_push_of_some _ x)⟩
end
def IteT (K:PySem.W.Frag)(a:Addr):It:=
 ⟨fun i H=> ∃xs x,SqT K H a xs/\xs[i]?=some x,fun i H v H'=> ∃T x,H T=none/\v=.ref T/\(∀xs,SqT K H a xs->xs[i]?=some x)/\H'=upd H T (.tup [.int i,x]),fun i H=> ∃xs,SqT K H a xs/\xs.length=i⟩
theorem kZ {P:Program}{w:World}{K:PySem.W.Frag}{elts:List Expr}{x1}{tpos:Pos}(a e it:Addr)(hei:e≠it):Turn P w K (.Tuple elts x1 tpos) (IteT K a) [e,it] e (fun i h=>(∃old,IsEnum h e it i old)/\h.IsTupleIter it a i) where
 mem:=by simp
 obj:=fun i h st b hb=>by
  obtain⟨⟨old,he⟩,st⟩:=st
  rcases List.mem_cons.mp hb with rfl|hb
  ·exact⟨_,he,fun v z=>by cases z⟩
  ·have e':b=it:=by simpa using hb
   subst e'
   obtain⟨o,e,c,d⟩:=st
   exact⟨o,e,fun v z=>by rw[d] at z;cases z⟩
 keep:=fun i h h' st k=>⟨let ⟨old,he⟩:=st.1;⟨old,k e (by simp) _ he⟩,st.2.at fun o e=>k it (by simp) o e⟩
 item:=by
  intro X hP hw hK hc i pins s σ H E I hf st hg
  subst hP hw hK
  obtain⟨⟨old,he⟩,st⟩:=st
  obtain⟨xs,x,hq,hx⟩:=hg
  obtain⟨its,rv,p,hz⟩:=I.tuple hq
  obtain⟨u,hu,ru⟩:=rv.get hx
  have fe:=hf e (by simp)
  have fi:=hf it (by simp)
  obtain⟨oi,hoi,hoc,hod⟩:=id st
  have nai:a≠it:=fun z=>by
   obtain⟨o,h1,h2,_⟩:=(tupOf p)
   rw[z,hoi] at h1
   cases h1
   rw[hoc] at h2
   exact absurd h2 (by decide)
  have nae:e≠a:=fun z=>by
   obtain⟨o,h1,h2,_⟩:=(tupOf p)
   rw[<-z,show s.heap.get? e=_ from he] at h1
   cases h1
   exact absurd (show Value.type "enumerate"=Value.type "tuple" from h2) (by decide)
  have D:=eK (prog:=X.prog) (w:=X.w) (A:=X.A.in1) (I.ok.hd hc) it a nai its.toArray
  refine wpAny_pyNext_enum_itemD D he ⟨st,(tupOf p)⟩ (by
   have:=List.getElem?_eq_some_iff.mp hu
   obtain⟨z,_⟩:=this
   simpa using z) hei (by simp [hei,nae]) fun v h' tk hP hout hst hT hsz hk=>?_
  have hv:v=u:=by
   have hP:its.toArray[i]?=some v:=hP
   rw[List.getElem?_toArray,hu] at hP
   exact (Option.some.inj hP).symm
  subst hv
  have nT:H s.heap.objs.size=none:=I.hok.fresh (Nat.le_refl _)
  have lt: ∀b o,s.heap.get? b=some o->b≠s.heap.objs.size:=fun b o q=>Nat.ne_of_lt (Heap.lt_size q)
  have ltH: ∀b o,H b=some o->b≠s.heap.objs.size:=fun b o q z=>by rw[z,nT] at q;cases q
  have neH: ∀b o,H b=some o->b≠e/\b≠it:=fun b o q=>⟨fun z=>by (rw[z,fe.1] at q;cases q),fun z=>by (rw[z,fi.1] at q;cases q)⟩
  have I1:Inv X pins σ (upd H s.heap.objs.size (.tup [.int i,x])) {s with heap:=h',toks:=tk+1}:=by
   refine I.call' (s':={s with heap:=h',toks:=tk+1}) (ch:=[e,it]) rfl ⟨fun b o q n hb hx=>?_,fun b o q n hb hx=>?_,fun b o q n hx=>?_,fun b o q hx=>?_,fun b xs q=>?_,fun b o u q=>?_,fun b ps q=>?_⟩ (fun b o q=>?_) I.bare fun b hb=>?_
   ·exact hk b o (fun z=>hx (by simp [z])) (fun z=>hx (by simp [z])) q
   ·exact⟨o.slots,hk b o (fun z=>hx (by simp [z])) (fun z=>hx (by simp [z])) q⟩
   ·rw[ap (lt b o q)];exact n
   ·exact⟨o,hk b o (fun z=>hx (by simp [z])) (fun z=>hx (by simp [z])) q⟩
   ·rw[ap (ltH b _ q)];exact q
   ·rw[ap (ltH b _ q)];exact q
   ·exact⟨#[],by rw[ap (ltH b _ q),q];simp⟩
   ·by_cases hb:b=s.heap.objs.size
    ·subst hb
     rw[aR] at q
     cases q
     exact⟨by show 2<=sizeLine;decide,_,.cons ⟨tk,rfl⟩ (.cons ru .nil),⟨_,hT,rfl,_,rfl⟩,_,hT,rfl⟩
    ·rw[ap hb] at q
     refine (I.hok b o q).stay (fun c v hc r=>?_) (fun c r=>by rw[ap (ltH c _ r)];exact r) fun c xs r=>by rw[ap (ltH c _ r)];exact r
     have: ∃o,H c=some o:=by
      rcases hc with rfl|hc
      ·exact⟨o,q⟩
      ·exact⟨_,hc⟩
     obtain⟨o',qo⟩:=this
     exact hk c v (neH c o' qo).1 (neH c o' qo).2 r
   ·have fb:FpOk X pins H b:=by
     rcases List.mem_cons.mp hb with rfl|hb
     ·exact fe
     ·have e':b=it:=by simpa using hb
      subst e';exact fi
    exact⟨fb.2.2.2.1,fb.2.1,fb.2.2.2.2.1,fb.2.2.2.2.2⟩
  refine⟨_,rfl,wpAny_letOwnedTupleGo_enum (s:={s with heap:=h',toks:=tk+1}) hout fun h2 he2 hs2=>?_⟩
  have neT: ∀b∈[e,it],b≠s.heap.objs.size:=fun b hb=>by
   rcases List.mem_cons.mp hb with rfl|hb
   ·exact lt _ _ he
   ·have e':b=it:=by simpa using hb
    subst e';exact lt _ _ hoi
  have fe':(upd H s.heap.objs.size (.tup [.int i,x])) e=none:=by rw[ap (neT e (by simp))];exact fe.1
  refine⟨.ref s.heap.objs.size,upd H s.heap.objs.size (.tup [.int i,x]),?_,rfl,⟨s.heap.objs.size,x,nT,rfl,fun ys hy=>by rw[I.tuple_inj hy hq];exact hx,rfl⟩,⟨⟨_,by simpa using he2⟩,hst.1.at fun o eo=>(hs2.2 it (Ne.symm hei)).trans eo⟩,fun b hb=>?_⟩
  ·exact I1.turned (t':=tk+1) (fun b o hb eo=>(hs2.2 b hb).trans eo) fe' fe.2.1 fe.2.2.2.1 fe.2.2.2.2.1 fe.2.2.2.2.2
  ·rw[ap (neT b hb)]
   exact (hf b hb).1
 done:=by
  intro X hP hw hK hc i pins s σ H E I hf st hg
  subst hP hw hK
  obtain⟨⟨old,he⟩,st⟩:=st
  obtain⟨xs,hq,hx⟩:=hg
  obtain⟨its,rv,p,hz⟩:=I.tuple hq
  have fi:=hf it (by simp)
  obtain⟨oi,hoi,hoc,hod⟩:=id st
  have nai:a≠it:=fun z=>by
   obtain⟨o,h1,h2,_⟩:=(tupOf p)
   rw[z,hoi] at h1
   cases h1
   rw[hoc] at h2
   exact absurd h2 (by decide)
  have D:=eK (prog:=X.prog) (w:=X.w) (A:=X.A.in1) (I.ok.hd hc) it a nai its.toArray
  have ei:i=its.toArray.size:=by rw[List.size_toArray,<-rv.length];exact hx.symm
  refine wpAny_pyNext_enum_endD D he (by rw[<-ei];exact⟨st,(tupOf p)⟩) fun h' eb=>⟨rfl,I.turned (t':=s.toks) (fun b o hb e=>eb b o hb e) fi.1 fi.2.1 fi.2.2.2.1 fi.2.2.2.2.1 fi.2.2.2.2.2⟩
 self:=fun _ _ _ _ _ st h=>let ⟨_,he⟩:=st.1;wpAny_pyIter_enum he h
section
variable {X:Cx}
def tZ (K:PySem.W.Frag)(ta:TA):TI:=fun σ H R=>ta σ H fun vs H1=> ∃a,vs=[.ref a]/\(∃xs,SqT K H1 a xs)/\R (IteT K a) H1
theorem oS {a:Expr}{ta:TA}{p pos:Pos}{elts:List Expr}{x1}{tpos:Pos}(hg:Gl X "enumerate")(hm:X.mg "enumerate"=none)(ha:PA X [a] ta)(hs:starEach [a] X.env=[(false,eval a X.env)]:=by rfl):PI X (.Tuple elts x1 tpos) (.Call (.Name "enumerate" p) [a] [] pos) (tZ X.K ta):=by
 intro pins s σ H R I h
 refine Call_ (dj I hg hm boot_enumerate (PyProof.Rows.callWith_type1 (thn (ha pos pins s σ H _ I h) fun us s1 qz=>?_) hs rfl))
 obtain⟨vs,H1,I1,r1,q1⟩:=qz
 obtain⟨b,e,⟨xs,hq⟩,q⟩:=q1
 subst e
 cases r1 with
 |cons r rr=>
  cases rr
  cases r
  obtain⟨its,rv,pl,hz⟩:=I1.tuple hq
  refine lT (tupOf pl) fun h' he hi hsz hk=>?_
  refine wpAny_pyIter_enum he ?_
  have I2:Inv X pins σ H1 {s1 with heap:=h'}:=I1.kept (t':=s1.toks) hk
  refine⟨s1.heap.objs.size+1,[s1.heap.objs.size+1,s1.heap.objs.size],_,_,H1,rfl,I2,kZ b _ _ (by simp),⟨⟨_,he⟩,hi⟩,fun c hc=>?_,q⟩
  have hc':s1.heap.objs.size<=c:=by
   rcases List.mem_cons.mp hc with rfl|hc
   ·exact Nat.le_succ _
   ·have:c=s1.heap.objs.size:=by simpa using hc
    exact Nat.le_of_eq this.symm
  exact I1.fpOk hc' (I1.hok.fresh hc')
end
end L2
set_option maxHeartbeats 1000000
namespace L2
open PySem PySem.Spec PyProof.Rows
inductive W where
 |ty (n:String)|exc (c:Str)|cls (c:Str)|non|bl (b:Bool)|int (i:Int)|str (x:Str)
 |tup (l:List W)|tl (l:List W)|cl (l:List W)|dv (ks:List Key)(ws:List W)|dn (b:Bool)(ks:List PKy)(ws:List W)|kt (ks:List Key)|loc (k:Nat)
inductive Ob where
 |lst (l:List W)|dic (ks:List Key)(ws:List W)|dit (ks:List (List Key))(ws:List W)|din (b:Bool)(ks:List PKy)(ws:List W)|ins (c:Str)(ns:List Str)(ws:List W)|gone
structure Wo where
 mu:Nat->Addr
 h:List Ob
 H:Hp
noncomputable def Lv (o:Wo)(a:Addr):Prop:= ∃k b,o.h[k]?=some b/\b≠.gone/\o.mu k=a
def FrL (K:PySem.W.Frag)(a:Addr)(xs:List V):Prop:= ∃ (o:Obj) (its:Array Value) (n:Nat),K.lookup a=some o/\o.cls=.type "list"/\o.dict=none/\o.data=.seq its n/\its.size<=sizeLine/\Vals xs its.toList
def KeyN (K:PySem.W.Frag)(H:Hp)(b:Bool)(c:Addr)(k:PKy):Prop:= ∃d,SqT K H c (match b with
 |false=>[.int k.1,.ref d]
 |true=>[.ref d,.int k.1])/\SqT K H d (k.2.map V.int)
mutual
def Rv (K:PySem.W.Frag)(o:Wo):W->V->Prop
 |.ty n,v=>v=.ty n
 |.exc c,v=> ∃a C,v=.ref a/\nsIn K mainGlobals c=some (some (.ref C))/\o.H a=some (excO a (.ref C))
 |.cls c,v=> ∃C,v=.ref C/\nsIn K mainGlobals c=some (some (.ref C))
 |.non,v=>v=.non
 |.bl b,v=>v=.bl b
 |.int i,v=>v=.int i
 |.str x,v=>v=.str x
 |.tup l,v=> ∃a vs,v=.ref a/\SqT K o.H a vs/\Rvs K o l vs
 |.tl l,v=> ∃a vs,v=.ref a/\o.H a=some (.lst vs)/\ ¬Lv o a/\Rvs K o l vs
 |.cl l,v=> ∃a vs,v=.ref a/\((Rd o.H a (.lst vs)/\ ¬Lv o a)\/FrL K a vs)/\Rvs K o l vs
 |.dv ks ws,v=> ∃a kvs,v=.ref a/\Rd o.H a (.dK kvs)/\ ¬Lv o a/\kvs.map (·.1)=ks/\Rvs K o ws (kvs.map (·.2))
 |.dn b ks ws,v=> ∃a,∃xs:List (PKy×Addr×V)×Nat,v=.ref a/\o.H a=some (.dN b xs.1 xs.2)/\ ¬Lv o a/\xs.1.map (·.1)=ks/\(∀x∈xs.1,KeyN K o.H b x.2.1 x.1)/\Rvs K o ws (xs.1.map (·.2.2))
 |.kt ks,v=> ∃a,v=.ref a/\o.H a=some (.tup (ks.map kV))
 |.loc k,v=>k<o.h.length/\v=.ref (o.mu k)
def Rvs (K:PySem.W.Frag)(o:Wo):List W->List V->Prop
 |[],vs=>vs=[]
 |w::l,vs=> ∃v r,vs=v::r/\Rv K o w v/\Rvs K o l r
end
def Ro (K:PySem.W.Frag)(o:Wo)(a:Addr):Ob->Prop
 |.lst l=> ∃vs,o.H a=some (.lst vs)/\Rvs K o l vs
 |.dic ks ws=> ∃kvs,o.H a=some (.dK kvs)/\kvs.map (·.1)=ks/\Rvs K o ws (kvs.map (·.2))
 |.dit ks ws=> ∃kvs,o.H a=some (.dT kvs)/\kvs.map (·.1)=ks/\Rvs K o ws (kvs.map (·.2))
 |.din b ks ws=> ∃xs:List (PKy×Addr×V)×Nat,o.H a=some (.dN b xs.1 xs.2)/\xs.1.map (·.1)=ks/\(∀x∈xs.1,KeyN K o.H b x.2.1 x.1)/\Rvs K o ws (xs.1.map (·.2.2))
 |.ins c ns ws=> ∃C dx fs,nsIn K mainGlobals c=some (some (.ref C))/\o.H a=some (.ins C dx fs)/\fs.map (·.1)=ns/\Rvs K o ws (fs.map (·.2))
 |.gone=>True
structure Rel (K:PySem.W.Frag)(o:Wo):Prop where
 ob: ∀k b,o.h[k]?=some b->Ro K o (o.mu k) b
 inj: ∀j k b c,o.h[j]?=some b->o.h[k]?=some c->b≠.gone->c≠.gone->o.mu j=o.mu k->j=k
structure Ex (o p:Wo):Prop where
 le:o.h.length<=p.h.length
 mu: ∀k,k<o.h.length->p.mu k=o.mu k
 fr: ∀a u,o.H a=some u-> ¬Lv o a->p.H a=some u/\ ¬Lv p a
theorem Ex.refl (o:Wo):Ex o o:=⟨Nat.le_refl _,fun _ _=>rfl,fun _ _ h n=>⟨h,n⟩⟩
theorem Ex.trans {o p q:Wo}(a:Ex o p)(b:Ex p q):Ex o q:=⟨Nat.le_trans a.le b.le,fun k h=>(b.mu k (Nat.lt_of_lt_of_le h a.le)).trans (a.mu k h),fun c u h n=>let ⟨h1,n1⟩:=a.fr c u h n;b.fr c u h1 n1⟩
section
variable {K:PySem.W.Frag}{o p:Wo}
theorem Lv.kind (R:Rel K o){a:Addr}(h:Lv o a):(∃vs,o.H a=some (.lst vs))\/(∃kvs,o.H a=some (.dK kvs))\/(∃C dx fs,o.H a=some (.ins C dx fs))\/(∃kvs,o.H a=some (.dT kvs))\/ ∃b,∃xs:List (PKy×Addr×V)×Nat,o.H a=some (.dN b xs.1 xs.2):=by
 obtain⟨k,b,hk,hb,rfl⟩:=h
 have q:=R.ob k b hk
 cases b with
 |lst l=>exact .inl (let ⟨vs,e,_⟩:=q;⟨vs,e⟩)
 |dic ks ws=>exact .inr (.inl (let ⟨vs,e,_⟩:=q;⟨vs,e⟩))
 |ins c ns ws=>exact .inr (.inr (.inl (let ⟨C,dx,fs,_,e,_⟩:=q;⟨C,dx,fs,e⟩)))
 |dit ks ws=>exact .inr (.inr (.inr (.inl (let ⟨vs,e,_⟩:=q;⟨vs,e⟩))))
 |din b ks ws=>exact .inr (.inr (.inr (.inr (let ⟨vs,e,_⟩:=q;⟨b,vs,e⟩))))
 |gone=>exact absurd rfl hb
theorem Ex.keep (X:Ex o p)(R:Rel K o){a:Addr}{u:HO}(h:o.H a=some u)(n1: ∀vs,u≠.lst vs)(n2: ∀kvs,u≠.dK kvs)(n3: ∀C dx fs,u≠.ins C dx fs)(n4: ∀kvs,u≠.dT kvs)(n5: ∀b (xs:List (PKy×Addr×V)×Nat),u≠.dN b xs.1 xs.2):p.H a=some u:=by
 refine (X.fr a u h fun l=>?_).1
 rcases l.kind R with⟨vs,e⟩|⟨vs,e⟩|⟨C,dx,fs,e⟩|⟨vs,e⟩|⟨b,vs,e⟩
 ·rw[h] at e;exact n1 vs (Option.some.inj e)
 ·rw[h] at e;exact n2 vs (Option.some.inj e)
 ·rw[h] at e;exact n3 C dx fs (Option.some.inj e)
 ·rw[h] at e;exact n4 vs (Option.some.inj e)
 ·rw[h] at e;exact n5 b vs (Option.some.inj e)
theorem Ex.rdT (X:Ex o p)(R:Rel K o){a:Addr}{vs:List V}(h:SqT K o.H a vs):SqT K p.H a vs:=by
 rcases h with (h|⟨ob,h⟩)|h
 ·exact .inl (.inl (X.keep R h (fun _ z=>nomatch z) (fun _ z=>nomatch z) (fun _ _ _ z=>nomatch z) (fun _ z=>nomatch z) fun _ _ z=>nomatch z))
 ·exact .inl (.inr ⟨ob,X.keep R h (fun _ z=>nomatch z) (fun _ z=>nomatch z) (fun _ _ _ z=>nomatch z) (fun _ z=>nomatch z) fun _ _ z=>nomatch z⟩)
 ·exact .inr h
theorem KeyN.mono (X:Ex o p)(R:Rel K o){b:Bool}{c:Addr}{k:PKy}(h:KeyN K o.H b c k):KeyN K p.H b c k:=by
 obtain⟨d,h1,h2⟩:=h
 exact⟨d,X.rdT R h1,X.rdT R h2⟩
theorem Ex.rd (X:Ex o p){a:Addr}{u:HO}(h:Rd o.H a u)(n:¬Lv o a):Rd p.H a u/\ ¬Lv p a:=by
 rcases h with h|⟨ob,h⟩
 ·exact⟨.inl (X.fr a _ h n).1,(X.fr a _ h n).2⟩
 ·exact⟨.inr ⟨ob,(X.fr a _ h n).1⟩,(X.fr a _ h n).2⟩
mutual
theorem Rv.mono (R:Rel K o)(X:Ex o p): ∀ (w:W) (v:V),Rv K o w v->Rv K p w v
 |.ty n,v,h=>h
 |.exc c,v,h=>by
  unfold Rv at h ⊢
  obtain⟨a,C,e,h1,h2⟩:=h
  exact⟨a,C,e,h1,X.keep R h2 (fun _ z=>nomatch z) (fun _ z=>nomatch z) (fun _ _ _ z=>nomatch z) (fun _ z=>nomatch z) fun _ _ z=>nomatch z⟩
 |.cls c,v,h=>by
  unfold Rv at h ⊢
  exact h
 |.non,v,h=>h
 |.bl b,v,h=>h
 |.int i,v,h=>h
 |.str x,v,h=>h
 |.tup l,v,h=>by
  unfold Rv at h ⊢
  obtain⟨a,vs,e,h1,h2⟩:=h
  exact⟨a,vs,e,X.rdT R h1,Rvs.mono R X l vs h2⟩
 |.tl l,v,h=>by
  unfold Rv at h ⊢
  obtain⟨a,vs,e,h1,n,h2⟩:=h
  exact⟨a,vs,e,(X.fr a _ h1 n).1,(X.fr a _ h1 n).2,Rvs.mono R X l vs h2⟩
 |.cl l,v,h=>by
  unfold Rv at h ⊢
  obtain⟨a,vs,e,h1,h2⟩:=h
  refine⟨a,vs,e,?_,Rvs.mono R X l vs h2⟩
  rcases h1 with⟨h1,n⟩|h1
  ·exact .inl (X.rd h1 n)
  ·exact .inr h1
 |.dv ks ws,v,h=>by
  unfold Rv at h ⊢
  obtain⟨a,vs,e,h1,n,h2,h3⟩:=h
  exact⟨a,vs,e,(X.rd h1 n).1,(X.rd h1 n).2,h2,Rvs.mono R X ws _ h3⟩
 |.dn b ks ws,v,h=>by
  unfold Rv at h ⊢
  obtain⟨a,xs,e,h1,n,h2,hn,h3⟩:=h
  exact⟨a,xs,e,(X.fr a _ h1 n).1,(X.fr a _ h1 n).2,h2,fun x hx=>(hn x hx).mono X R,Rvs.mono R X ws _ h3⟩
 |.kt ks,v,h=>by
  unfold Rv at h ⊢
  obtain⟨a,e,h⟩:=h
  exact⟨a,e,X.keep R h (fun _ z=>nomatch z) (fun _ z=>nomatch z) (fun _ _ _ z=>nomatch z) (fun _ z=>nomatch z) fun _ _ z=>nomatch z⟩
 |.loc k,v,h=>by
  unfold Rv at h ⊢
  exact⟨Nat.lt_of_lt_of_le h.1 X.le,by rw[X.mu k h.1];exact h.2⟩
theorem Rvs.mono (R:Rel K o)(X:Ex o p): ∀ (l:List W) (vs:List V),Rvs K o l vs->Rvs K p l vs
 |[],vs,h=>h
 |w::l,vs,h=>by
  unfold Rvs at h ⊢
  obtain⟨v,r,e,h1,h2⟩:=h
  exact⟨v,r,e,Rv.mono R X w v h1,Rvs.mono R X l r h2⟩
end
theorem Rel.keep (R:Rel K o)(X:Ex o p)(e1:p.h=o.h)(e2:p.mu=o.mu)(e3: ∀k b,o.h[k]?=some b->b≠.gone->p.H (o.mu k)=o.H (o.mu k)):Rel K p:=by
 refine⟨fun k b hk=>?_,fun j k b c h1 h2=>?_⟩
 ·rw[e1] at hk
  rw[e2]
  have q:=R.ob k b hk
  cases b with
  |lst l=>obtain⟨vs,h1,h2⟩:=q;exact⟨vs,by rw[e3 k _ hk (by simp)];exact h1,h2.mono R X⟩
  |dic ks ws=>obtain⟨vs,h1,h2,h3⟩:=q;exact⟨vs,by rw[e3 k _ hk (by simp)];exact h1,h2,h3.mono R X⟩
  |dit ks ws=>obtain⟨vs,h1,h2,h3⟩:=q;exact⟨vs,by rw[e3 k _ hk (by simp)];exact h1,h2,h3.mono R X⟩
  |din b ks ws=>obtain⟨vs,h1,h2,hn,h3⟩:=q;exact⟨vs,by rw[e3 k _ hk (by simp)];exact h1,h2,fun x hx=>(hn x hx).mono X R,h3.mono R X⟩
  |ins c ns ws=>obtain⟨C,dx,fs,h0,h1,h2,h3⟩:=q;exact⟨C,dx,fs,h0,by rw[e3 k _ hk (by simp)];exact h1,h2,h3.mono R X⟩
  |gone=>trivial
 ·rw[e1] at h1 h2
  rw[e2]
  exact R.inj j k b c h1 h2
theorem Lv.there (R:Rel K o){a:Addr}(h:Lv o a):o.H a≠none:=by
 rcases h.kind R with⟨vs,e⟩|⟨vs,e⟩|⟨C,dx,fs,e⟩|⟨vs,e⟩|⟨b,vs,e⟩<;>(rw[e];simp)
theorem Ex.new {q:Addr}{u:HO}(h:o.H q=none):Ex o ⟨o.mu,o.h,upd o.H q u⟩:=by
 refine⟨Nat.le_refl _,fun _ _=>rfl,fun a w e n=>⟨?_,n⟩⟩
 show upd o.H q u a=some w
 rw[ap (bC e h)];exact e
theorem Rel.new (R:Rel K o){q:Addr}{u:HO}(h:o.H q=none):Rel K ⟨o.mu,o.h,upd o.H q u⟩:=by
 refine R.keep (Ex.new h) rfl rfl fun k b hk hb=>?_
 have l:Lv o (o.mu k):=⟨k,b,hk,hb,rfl⟩
 show upd o.H q u (o.mu k)=_
 rw[ap fun z=>l.there R (by rw[z];exact h)]
def Wo.add (o:Wo)(q:Addr)(b:Ob)(u:HO):Wo:=⟨fun k=>if k=o.h.length then q else o.mu k,o.h++[b],upd o.H q u⟩
theorem Ex.add {q:Addr}{b:Ob}{u:HO}(h:o.H q=none):Ex o (o.add q b u):=by
 refine⟨by show _<=(o.h++[b]).length;simp,fun k hk=>?_,fun a w e n=>⟨?_,fun l=>?_⟩⟩
 ·show (if k=o.h.length then q else o.mu k)=_
  rw[if_neg (by omega)]
 ·show upd o.H q u a=some w
  rw[ap (bC e h)];exact e
 ·obtain⟨k,c,hk,hc,ha⟩:=l
  have ha:(if k=o.h.length then q else o.mu k)=a:=ha
  have hk:(o.h++[b])[k]?=some c:=hk
  by_cases z:k=o.h.length
  ·rw[if_pos z] at ha
   exact absurd ha.symm (bC e h)
  ·rw[if_neg z] at ha
   have hl:k<o.h.length:=by
    have:=(List.getElem?_eq_some_iff.mp hk).1
    rw[List.length_append,List.length_singleton] at this
    omega
   rw[List.getElem?_append_left hl] at hk
   exact n ⟨k,c,hk,hc,ha⟩
theorem Rel.add (R:Rel K o){q:Addr}{b:Ob}{u:HO}(h:o.H q=none)(hb:Ro K (o.add q b u) q b):Rel K (o.add q b u):=by
 have X:Ex o (o.add q b u):=Ex.add h
 have old: ∀ {k:Nat}{c:Ob},(o.add q b u).h[k]?=some c->k≠o.h.length->o.h[k]?=some c/\(o.add q b u).mu k=o.mu k:=fun{k c} hk z=>by
  have hk:(o.h++[b])[k]?=some c:=hk
  have hl:k<o.h.length:=by
   have:=(List.getElem?_eq_some_iff.mp hk).1
   rw[List.length_append,List.length_singleton] at this
   omega
  rw[List.getElem?_append_left hl] at hk
  exact⟨hk,X.mu k hl⟩
 have new: ∀ {k:Nat}{c:Ob},(o.add q b u).h[k]?=some c->k=o.h.length->c=b/\(o.add q b u).mu k=q:=fun{k c} hk z=>by
  subst z
  have hk:(o.h++[b])[o.h.length]?=some c:=hk
  rw[List.getElem?_append_right (Nat.le_refl _),Nat.sub_self] at hk
  exact⟨(Option.some.inj hk).symm,if_pos rfl⟩
 have ne: ∀ {k:Nat}{c:Ob},o.h[k]?=some c->c≠.gone->o.mu k≠q:=fun{k c} hk hc z=>Lv.there R ⟨k,c,hk,hc,rfl⟩ (by rw[z];exact h)
 refine⟨fun k c hk=>?_,fun j k c d h1 h2 n1 n2 e=>?_⟩
 ·by_cases z:k=o.h.length
  ·obtain⟨rfl,e⟩:=new hk z
   rw[e];exact hb
  ·obtain⟨hk,e⟩:=old hk z
   rw[e]
   have r:=R.ob k c hk
   have st: ∀ {w:HO},c≠.gone->o.H (o.mu k)=some w->(o.add q b u).H (o.mu k)=some w:=fun{w} hc e=>by
    show upd o.H q u (o.mu k)=some w
    rw[ap (ne hk hc)];exact e
   cases c with
   |lst l=>obtain⟨vs,h1,h2⟩:=r;exact⟨vs,st (by simp) h1,h2.mono R X⟩
   |dic ks ws=>obtain⟨vs,h1,h2,h3⟩:=r;exact⟨vs,st (by simp) h1,h2,h3.mono R X⟩
   |dit ks ws=>obtain⟨vs,h1,h2,h3⟩:=r;exact⟨vs,st (by simp) h1,h2,h3.mono R X⟩
   |din b ks ws=>obtain⟨vs,h1,h2,hn,h3⟩:=r;exact⟨vs,st (by simp) h1,h2,fun x hx=>(hn x hx).mono X R,h3.mono R X⟩
   |ins c ns ws=>obtain⟨C,dx,fs,h0,h1,h2,h3⟩:=r;exact⟨C,dx,fs,h0,st (by simp) h1,h2,h3.mono R X⟩
   |gone=>trivial
 ·by_cases z1:j=o.h.length
  ·by_cases z2:k=o.h.length
   ·omega
   ·obtain⟨_,e1⟩:=new h1 z1
    obtain⟨hk,e2⟩:=old h2 z2
    rw[e1,e2] at e
    exact absurd e.symm (ne hk n2)
  ·obtain⟨hj,e1⟩:=old h1 z1
   by_cases z2:k=o.h.length
   ·obtain⟨_,e2⟩:=new h2 z2
    rw[e1,e2] at e
    exact absurd e (ne hj n1)
   ·obtain⟨hk,e2⟩:=old h2 z2
    rw[e1,e2] at e
    exact R.inj j k c d hj hk n1 n2 e
theorem Rel.addL (R:Rel K o){q:Addr}{l:List W}{vs:List V}(h:o.H q=none)(hl:Rvs K o l vs):Rel K (o.add q (.lst l) (.lst vs)):=R.add h ⟨vs,aR,hl.mono R (Ex.add h)⟩
theorem Rel.addT (R:Rel K o){q:Addr}{ks:List (List Key)}{ws:List W}{kvs:List (List Key×V)}(h:o.H q=none)(hk:kvs.map (·.1)=ks)(hl:Rvs K o ws (kvs.map (·.2))):Rel K (o.add q (.dit ks ws) (.dT kvs)):=R.add h ⟨kvs,aR,hk,hl.mono R (Ex.add h)⟩
def Wo.put (o:Wo)(k:Nat)(b:Ob)(u:HO):Wo:=⟨o.mu,o.h.set k b,upd o.H (o.mu k) u⟩
theorem Lv.put {k:Nat}{b c:Ob}{u:HO}{a:Addr}(hk:o.h[k]?=some c)(hc:c≠.gone)(h:Lv (o.put k b u) a):Lv o a:=by
 obtain⟨j,d,hj,hd,rfl⟩:=h
 have hj:(o.h.set k b)[j]?=some d:=hj
 by_cases z:j=k
 ·subst z;exact⟨j,c,hk,hc,rfl⟩
 ·rw[List.getElem?_set_ne (Ne.symm z)] at hj
  exact⟨j,d,hj,hd,rfl⟩
theorem Ex.put {k:Nat}{b c:Ob}{u:HO}(hk:o.h[k]?=some c)(hc:c≠.gone):Ex o (o.put k b u):=by
 refine⟨by show _<=(o.h.set k b).length;simp,fun _ _=>rfl,fun a w e n=>⟨?_,fun l=>n (l.put hk hc)⟩⟩
 show upd o.H (o.mu k) u a=some w
 rw[ap fun z=>n ⟨k,c,hk,hc,z.symm⟩];exact e
theorem Rel.put (R:Rel K o){k:Nat}{b c:Ob}{u:HO}(hk:o.h[k]?=some c)(hc:c≠.gone)(hb:Ro K (o.put k b u) (o.mu k) b):Rel K (o.put k b u):=by
 have X:Ex o (o.put k b u):=Ex.put hk hc
 have old: ∀ {j:Nat}{d:Ob},(o.put k b u).h[j]?=some d->j≠k->o.h[j]?=some d:=fun{j d} hj z=>by
  have hj:(o.h.set k b)[j]?=some d:=hj
  rw[List.getElem?_set_ne (Ne.symm z)] at hj
  exact hj
 refine⟨fun j d hj=>?_,fun i j d e h1 h2 n1 n2 q=>?_⟩
 ·by_cases z:j=k
  ·subst z
   have hl:=(List.getElem?_eq_some_iff.mp hk).1
   have hj:(o.h.set j b)[j]?=some d:=hj
   rw[List.getElem?_set_self hl] at hj
   cases hj
   exact hb
  ·have hj:=old hj z
   have r:=R.ob j d hj
   have st: ∀ {w:HO},d≠.gone->o.H (o.mu j)=some w->(o.put k b u).H (o.mu j)=some w:=fun{w} hd e=>by
    show upd o.H (o.mu k) u (o.mu j)=some w
    rw[ap fun q=>z (R.inj j k d c hj hk hd hc q)];exact e
   cases d with
   |lst l=>obtain⟨vs,h1,h2⟩:=r;exact⟨vs,st (by simp) h1,h2.mono R X⟩
   |dic ks ws=>obtain⟨vs,h1,h2,h3⟩:=r;exact⟨vs,st (by simp) h1,h2,h3.mono R X⟩
   |dit ks ws=>obtain⟨vs,h1,h2,h3⟩:=r;exact⟨vs,st (by simp) h1,h2,h3.mono R X⟩
   |din b ks ws=>obtain⟨vs,h1,h2,hn,h3⟩:=r;exact⟨vs,st (by simp) h1,h2,fun x hx=>(hn x hx).mono X R,h3.mono R X⟩
   |ins c ns ws=>obtain⟨C,dx,fs,h0,h1,h2,h3⟩:=r;exact⟨C,dx,fs,h0,st (by simp) h1,h2,h3.mono R X⟩
   |gone=>trivial
 ·have ex: ∀ {j:Nat}{d:Ob},(o.put k b u).h[j]?=some d->d≠.gone-> ∃d',o.h[j]?=some d'/\d'≠.gone:=fun{j d} hj n=>by
   by_cases z:j=k
   ·subst z;exact⟨c,hk,hc⟩
   ·exact⟨d,old hj z,n⟩
  obtain⟨d',h1',n1'⟩:=ex h1 n1
  obtain⟨e',h2',n2'⟩:=ex h2 n2
  exact R.inj i j d' e' h1' h2' n1' n2' q
theorem Rel.putL (R:Rel K o){k:Nat}{c:Ob}{l:List W}{vs:List V}(hk:o.h[k]?=some c)(hc:c≠.gone)(hl:Rvs K o l vs):Rel K (o.put k (.lst l) (.lst vs)):=R.put hk hc ⟨vs,aR,hl.mono R (Ex.put hk hc)⟩
theorem Rel.putD (R:Rel K o){k:Nat}{c:Ob}{ks:List Key}{ws:List W}{kvs:List (Key×V)}(hk:o.h[k]?=some c)(hc:c≠.gone)(h1:kvs.map (·.1)=ks)(hl:Rvs K o ws (kvs.map (·.2))):Rel K (o.put k (.dic ks ws) (.dK kvs)):=R.put hk hc ⟨kvs,aR,h1,hl.mono R (Ex.put hk hc)⟩
theorem Rel.putT (R:Rel K o){k:Nat}{c:Ob}{ks:List (List Key)}{ws:List W}{kvs:List (List Key×V)}(hk:o.h[k]?=some c)(hc:c≠.gone)(h1:kvs.map (·.1)=ks)(hl:Rvs K o ws (kvs.map (·.2))):Rel K (o.put k (.dit ks ws) (.dT kvs)):=R.put hk hc ⟨kvs,aR,h1,hl.mono R (Ex.put hk hc)⟩
theorem Rel.putN (R:Rel K o){k:Nat}{c:Ob}{b:Bool}{ks:List PKy}{ws:List W}{xs:List (PKy×Addr×V)}{ep:Nat}(hk:o.h[k]?=some c)(hc:c≠.gone)(h1:xs.map (·.1)=ks)(hn: ∀x∈xs,KeyN K o.H b x.2.1 x.1)(hl:Rvs K o ws (xs.map (·.2.2))):Rel K (o.put k (.din b ks ws) (.dN b xs ep)):=R.put hk hc ⟨(xs,ep),aR,h1,fun x hx=>(hn x hx).mono (Ex.put hk hc) R,hl.mono R (Ex.put hk hc)⟩
noncomputable def Wo.ice (o:Wo)(k:Nat):Wo:=⟨o.mu,o.h.set k .gone,o.H⟩
theorem Lv.ice {k:Nat}{a:Addr}(h:Lv (o.ice k) a): ∃j b,j≠k/\o.h[j]?=some b/\b≠.gone/\o.mu j=a:=by
 obtain⟨j,d,hj,hd,e⟩:=h
 have hj:(o.h.set k .gone)[j]?=some d:=hj
 by_cases z:j=k
 ·subst z
  have hl:=(List.getElem?_eq_some_iff.mp hj).1
  rw[List.length_set] at hl
  rw[List.getElem?_set_self hl] at hj
  cases hj
  exact absurd rfl hd
 ·rw[List.getElem?_set_ne (Ne.symm z)] at hj
  exact⟨j,d,z,hj,hd,e⟩
theorem Ex.ice {k:Nat}:Ex o (o.ice k):=by
 refine⟨by show _<=(o.h.set k .gone).length;simp,fun _ _=>rfl,fun a w e n=>⟨e,fun l=>?_⟩⟩
 obtain⟨j,b,_,h1,h2,h3⟩:=l.ice
 exact n ⟨j,b,h1,h2,h3⟩
theorem Rel.ice (R:Rel K o){k:Nat}:Rel K (o.ice k):=by
 have X:Ex o (o.ice k):=Ex.ice
 have old: ∀ {j:Nat}{d:Ob},(o.ice k).h[j]?=some d->d≠.gone->o.h[j]?=some d:=fun{j d} hj n=>by
  have hj:(o.h.set k .gone)[j]?=some d:=hj
  by_cases z:j=k
  ·subst z
   have hl:=(List.getElem?_eq_some_iff.mp hj).1
   rw[List.length_set] at hl
   rw[List.getElem?_set_self hl] at hj
   cases hj
   exact absurd rfl n
  ·rw[List.getElem?_set_ne (Ne.symm z)] at hj
   exact hj
 refine⟨fun j d hj=>?_,fun i j d e h1 h2 n1 n2 q=>R.inj i j d e (old h1 n1) (old h2 n2) n1 n2 q⟩
 cases d with
 |lst l=>obtain⟨vs,h1,h2⟩:=R.ob j _ (old hj (by simp));exact⟨vs,h1,h2.mono R X⟩
 |dic ks ws=>obtain⟨vs,h1,h2,h3⟩:=R.ob j _ (old hj (by simp));exact⟨vs,h1,h2,h3.mono R X⟩
 |dit ks ws=>obtain⟨vs,h1,h2,h3⟩:=R.ob j _ (old hj (by simp));exact⟨vs,h1,h2,h3.mono R X⟩
 |din b ks ws=>obtain⟨vs,h1,h2,hn,h3⟩:=R.ob j _ (old hj (by simp));exact⟨vs,h1,h2,fun x hx=>(hn x hx).mono X R,h3.mono R X⟩
 |ins c ns ws=>obtain⟨C,dx,fs,h0,h1,h2,h3⟩:=R.ob j _ (old hj (by simp));exact⟨C,dx,fs,h0,h1,h2,h3.mono R X⟩
 |gone=>trivial
theorem Rv.iceL (R:Rel K o){k:Nat}{l:List W}(hk:o.h[k]?=some (.lst l)):Rv K (o.ice k) (.tl l) (.ref (o.mu k)):=by
 obtain⟨vs,h1,h2⟩:=R.ob k _ hk
 unfold Rv
 refine⟨_,vs,rfl,h1,fun z=>?_,h2.mono R Ex.ice⟩
 obtain⟨j,b,n,q1,q2,q3⟩:=z.ice
 exact n (R.inj j k b _ q1 hk q2 (by simp) q3)
theorem Rv.iceD (R:Rel K o){k:Nat}{ks:List Key}{ws:List W}(hk:o.h[k]?=some (.dic ks ws)):Rv K (o.ice k) (.dv ks ws) (.ref (o.mu k)):=by
 obtain⟨vs,h1,h0,h2⟩:=R.ob k _ hk
 unfold Rv
 refine⟨_,vs,rfl,.inl h1,fun z=>?_,h0,h2.mono R Ex.ice⟩
 obtain⟨j,b,n,q1,q2,q3⟩:=z.ice
 exact n (R.inj j k b _ q1 hk q2 (by simp) q3)
theorem Rv.iceN (R:Rel K o){k:Nat}{b:Bool}{ks:List PKy}{ws:List W}(hk:o.h[k]?=some (.din b ks ws)):Rv K (o.ice k) (.dn b ks ws) (.ref (o.mu k)):=by
 obtain⟨vs,h1,h0,hn,h2⟩:=R.ob k _ hk
 unfold Rv
 refine⟨_,vs,rfl,h1,fun z=>?_,h0,fun x hx=>(hn x hx).mono Ex.ice R,h2.mono R Ex.ice⟩
 obtain⟨j,b,n,q1,q2,q3⟩:=z.ice
 exact n (R.inj j k b _ q1 hk q2 (by simp) q3)
theorem Rvs.len: ∀ {l:List W}{vs:List V},Rvs K o l vs->vs.length=l.length
 |[],_,h=>by unfold Rvs at h;rw[h];rfl
 |w::l,_,h=>by unfold Rvs at h;obtain⟨v,r,rfl,_,h2⟩:=h;rw[List.length_cons,List.length_cons,Rvs.len h2]
theorem Rvs.get: ∀ {l:List W}{vs:List V}{i:Nat}{w:W},Rvs K o l vs->l[i]?=some w-> ∃v,vs[i]?=some v/\Rv K o w v
 |[],_,_,_,_,e=>by simp at e
 |x::l,_,0,w,h,e=>by unfold Rvs at h;obtain⟨v,r,rfl,h1,h2⟩:=h;cases e;exact⟨v,rfl,h1⟩
 |x::l,_,i+1,w,h,e=>by unfold Rvs at h;obtain⟨v,r,rfl,h1,h2⟩:=h;obtain⟨u,q1,q2⟩:=Rvs.get (l:=l) (i:=i) (w:=w) h2 (by simpa using e);exact⟨u,by simpa using q1,q2⟩
theorem Rvs.nil:Rvs K o [] []:=by unfold Rvs;rfl
theorem Rvs.cons {w:W}{v:V}{l:List W}{vs:List V}(h:Rv K o w v)(t:Rvs K o l vs):Rvs K o (w::l) (v::vs):=by unfold Rvs;exact⟨v,vs,rfl,h,t⟩
theorem Rvs.app: ∀ {l m:List W}{vs us:List V},Rvs K o l vs->Rvs K o m us->Rvs K o (l++m) (vs++us)
 |[],_,_,_,h,t=>by unfold Rvs at h;rw[h];exact t
 |w::l,m,_,us,h,t=>by unfold Rvs at h;obtain⟨v,r,rfl,h1,h2⟩:=h;exact Rvs.cons h1 (Rvs.app h2 t)
theorem Rvs.take: ∀ {l:List W}{vs:List V} (n:Nat),Rvs K o l vs->Rvs K o (l.take n) (vs.take n)
 |[],_,n,h=>by unfold Rvs at h;rw[h,List.take_nil,List.take_nil];exact Rvs.nil
 |w::l,_,0,h=>by rw[List.take_zero,List.take_zero];exact Rvs.nil
 |w::l,_,n+1,h=>by unfold Rvs at h;obtain⟨v,r,rfl,h1,h2⟩:=h;exact Rvs.cons h1 (Rvs.take n h2)
theorem Rvs.drop: ∀ {l:List W}{vs:List V} (n:Nat),Rvs K o l vs->Rvs K o (l.drop n) (vs.drop n)
 |[],_,n,h=>by unfold Rvs at h;rw[h,List.drop_nil,List.drop_nil];exact Rvs.nil
 |w::l,_,0,h=>h
 |w::l,_,n+1,h=>by unfold Rvs at h;obtain⟨v,r,rfl,h1,h2⟩:=h;exact Rvs.drop n h2
theorem Rvs.set {x:W}{y:V}(hx:Rv K o x y): ∀ {l:List W}{vs:List V} (i:Nat),Rvs K o l vs->Rvs K o (l.set i x) (vs.set i y)
 |[],_,n,h=>by unfold Rvs at h;rw[h];exact Rvs.nil
 |w::l,_,0,h=>by unfold Rvs at h;obtain⟨v,r,rfl,h1,h2⟩:=h;exact Rvs.cons hx h2
 |w::l,_,n+1,h=>by unfold Rvs at h;obtain⟨v,r,rfl,h1,h2⟩:=h;exact Rvs.cons h1 (Rvs.set hx n h2)
noncomputable abbrev Env':=List (Option W)
def RvO (K:PySem.W.Frag)(o:Wo):Option W->Option V->Prop
 |some w,s=> ∃v,s=some v/\Rv K o w v
 |none,s=>s=none
def Re (K:PySem.W.Frag)(o:Wo):Env'->St->Prop
 |[],s=>s=[]
 |w::r,s=> ∃x t,s=x::t/\RvO K o w x/\Re K o r t
theorem RvO.mono (R:Rel K o)(X:Ex o p): ∀ {w:Option W}{s:Option V},RvO K o w s->RvO K p w s
 |some w,_,⟨v,e,h⟩=>⟨v,e,h.mono R X⟩
 |none,_,h=>h
theorem Re.mono (R:Rel K o)(X:Ex o p): ∀ {r:Env'}{s:St},Re K o r s->Re K p r s
 |[],_,h=>h
 |w::r,_,⟨x,t,e,h1,h2⟩=>⟨x,t,e,h1.mono R X,Re.mono R X h2⟩
theorem Re.get: ∀ {r:Env'}{s:St}{i:Nat}{w:W},Re K o r s->r[i]?=some (some w)-> ∃v,s[i]?=some (some v)/\Rv K o w v
 |[],_,_,_,_,e=>by simp at e
 |x::r,_,0,w,⟨y,t,rfl,h1,h2⟩,e=>by cases e;obtain⟨v,rfl,q⟩:=h1;exact⟨v,rfl,q⟩
 |x::r,_,i+1,w,⟨y,t,rfl,h1,h2⟩,e=>by obtain⟨u,q1,q2⟩:=Re.get (r:=r) (i:=i) (w:=w) h2 (by simpa using e);exact⟨u,by simpa using q1,q2⟩
theorem Re.set {w:W}{v:V}(q:Rv K o w v): ∀ {r:Env'}{s:St} (i:Nat),Re K o r s->Re K o (r.set i (some w)) (s.set i (some v))
 |[],_,_,h=>by rw[show _=[] from h];rfl
 |x::r,_,0,⟨y,t,rfl,h1,h2⟩=>⟨_,_,rfl,⟨v,rfl,q⟩,h2⟩
 |x::r,_,i+1,⟨y,t,rfl,h1,h2⟩=>⟨_,_,rfl,h1,Re.set q i h2⟩
theorem Re.front: ∀ {r:Env'}{s:St} (n:Nat),Re K o r s->Re K o (List.replicate n none++r) (List.replicate n none++s)
 |_,_,0,h=>h
 |_,_,n+1,h=>⟨none,_,rfl,rfl,Re.front n h⟩
theorem Re.args: ∀ {ws:List W}{vs:List V} (n:Nat),Rvs K o ws vs->Re K o (ws.map some++List.replicate n none) (vs.map some++List.replicate n none)
 |[],_,n,h=>by
  unfold Rvs at h;rw[h]
  induction n with
  |zero=>rfl
  |succ n ih=>exact⟨none,_,rfl,rfl,ih⟩
 |w::l,_,n,h=>by unfold Rvs at h;obtain⟨v,r,rfl,h1,h2⟩:=h;exact⟨_,_,rfl,⟨v,rfl,h1⟩,Re.args n h2⟩
end
inductive Rs (α:Type) where
 |ok (a:α)(h:List Ob)|ex (c:Str)(h:List Ob)|bad
noncomputable abbrev M (α:Type):=List Ob->Rs α
def bd {α β:Type}(f:M α)(g:α->M β):M β:=fun h=>match f h with
 |.ok a h'=>g a h'
 |.ex c h'=>.ex c h'
 |.bad=>.bad
def pr {α:Type}(a:α):M α:=fun h=>.ok a h
def no {α:Type}:M α:=fun _=>.bad
def gd {α:Type}(p:Prop) [Decidable p] (m:M α):M α:=fun h=>if p then m h else .bad
structure Cg where
 K:PySem.W.Frag
 mg:Str->Option Value
 E:XK
def Ps {α β:Type}(c:Cg)(r:Wo->α->β->Prop)(o:Wo)(R:Rs α)(Q:β->Hp->Prop):Prop:=match R with
 |.ok a h'=> ∀p b,p.h=h'->Ex o p->Rel c.K p->r p a b->Q b p.H
 |.ex x h'=> ∃u,c.mg x=some u/\ ∀p,p.h=h'->Ex o p->Rel c.K p->c.E u none p.H
 |.bad=>False
def tG {α β:Type}(c:Cg)(r:Wo->α->β->Prop)(f:Env'->M α)(σ:St)(H:Hp)(Q:β->Hp->Prop):Prop:= ∃o ρ,o.H=H/\Rel c.K o/\Re c.K o ρ σ/\Ps c r o (f ρ o.h) Q
noncomputable abbrev tM (c:Cg)(f:Env'->M W):TE:=tG c (Rv c.K) f
noncomputable abbrev tT (c:Cg)(f:Env'->M Bool):TT:=tG c (fun _ a b=>a=b) f
noncomputable abbrev tA (c:Cg)(f:Env'->M (List W)):TA:=tG c (Rvs c.K) f
section
variable {c:Cg}{o p:Wo}{α β γ δ:Type}{r:Wo->α->β->Prop}{r2:Wo->γ->δ->Prop}
theorem Ps.after {R:Rs α}{Q:β->Hp->Prop}(X:Ex o p)(h:Ps c r o R Q):Ps c r p R Q:=by
 cases R with
 |ok a h'=>exact fun q b e X2 Rq rq=>h q b e (X.trans X2) Rq rq
 |ex x h'=>obtain⟨u,hu,h⟩:=h;exact⟨u,hu,fun q e X2 Rq=>h q e (X.trans X2) Rq⟩
 |bad=>exact h
theorem Ps.bd {f:M α}{g:α->M γ}{Q:δ->Hp->Prop}{N:β->Hp->Prop}(h:Ps c r2 o (bd f g o.h) Q)(k:∀p a b,Ex o p->Rel c.K p->r p a b->Ps c r2 p (g a p.h) Q->N b p.H):Ps c r o (f o.h) N:=by
 unfold L2.bd at h
 cases e:f o.h with
 |ok a h'=>
  rw[e] at h
  intro p b hp X R rb
  subst hp
  exact k p a b X R rb (h.after X)
 |ex x h'=>
  rw[e] at h
  exact h
 |bad=>
  rw[e] at h
  exact h
theorem Ps.pr {a:α}{Q:β->Hp->Prop}{b:β}(h:Ps c r o (pr a o.h) Q)(R:Rel c.K o)(hb:r o a b):Q b o.H:=h o b rfl (Ex.refl _) R hb
theorem Ps.at {a:α}{h':List Ob}{Q:β->Hp->Prop}{b:β}(h:Ps c r o (.ok a h') Q)(e:p.h=h')(X:Ex o p)(R:Rel c.K p)(hb:r p a b):Q b p.H:=h p b e X R hb
theorem Ps.gd {P:Prop} [Decidable P] {m:M α}{Q:β->Hp->Prop}(h:Ps c r o (gd P m o.h) Q):P/\Ps c r o (m o.h) Q:=by
 unfold L2.gd at h
 by_cases q:P
 ·rw[if_pos q] at h;exact⟨q,h⟩
 ·rw[if_neg q] at h;exact h.elim
end
end L2
set_option maxHeartbeats 1000000
namespace L2
open PySem PySem.Spec PyProof.Rows
noncomputable abbrev cg (X:Cx)(E:XK):Cg:=⟨X.K,X.mg,E⟩
def tF (c:Cg)(f:Env'->M (List W)):TE:=fun σ H Q=>tG c (Rvs c.K) f σ H fun vs H1=> ∀q,H1 q=none->Q (.ref q) (upd H1 q (.lst vs))
structure JE (X:Cx)(E:XK)(e:Expr)(f:Env'->M W):Prop where
 h:PE X e (tM (cg X E) f)
structure JT (X:Cx)(E:XK)(e:Expr)(f:Env'->M Bool):Prop where
 h:PT X e (tT (cg X E) f)
structure JW (X:Cx)(E:XK)(e:Expr)(f:Env'->M Bool):Prop where
 h:PW X e (tT (cg X E) f)
structure JA (X:Cx)(E:XK)(es:List Expr)(f:Env'->M (List W)):Prop where
 h:PA X es (tA (cg X E) f)
structure JF (X:Cx)(E:XK)(e:Expr)(f:Env'->M (List W)):Prop where
 h:PE X e (tF (cg X E) f)
theorem PE.imp {X:Cx}{E:XK}{e:Expr}{t:TE}{f:Env'->M W}(h:PE X e t)(k:∀σ H Q,tM (cg X E) f σ H Q->t σ H Q):JE X E e f:=⟨fun pins s σ H Q I q=>h pins s σ H Q I (k σ H Q q)⟩
theorem PE.impF {X:Cx}{E:XK}{e:Expr}{t:TE}{f:Env'->M (List W)}(h:PE X e t)(k:∀σ H Q,tF (cg X E) f σ H Q->t σ H Q):JF X E e f:=⟨fun pins s σ H Q I q=>h pins s σ H Q I (k σ H Q q)⟩
theorem PT.imp {X:Cx}{E:XK}{e:Expr}{t:TT}{f:Env'->M Bool}(h:PT X e t)(k:∀σ H Q,tT (cg X E) f σ H Q->t σ H Q):JT X E e f:=⟨fun pins s σ H Q I q=>h pins s σ H Q I (k σ H Q q)⟩
theorem PW.imp {X:Cx}{E:XK}{e:Expr}{t:TT}{f:Env'->M Bool}(h:PW X e t)(k:∀σ H Q,tT (cg X E) f σ H Q->t σ H Q):JW X E e f:=⟨fun w pins s σ H Q I q=>h w pins s σ H Q I (k σ H Q q)⟩
theorem PA.imp {X:Cx}{E:XK}{e:List Expr}{t:TA}{f:Env'->M (List W)}(h:PA X e t)(k:∀σ H Q,tA (cg X E) f σ H Q->t σ H Q):JA X E e f:=⟨fun pos pins s σ H Q I q=>h pos pins s σ H Q I (k σ H Q q)⟩
theorem mD {X:Cx}{E:XK}{e:Expr}{f:Env'->M Bool}(q:JW X E e f):JT X E e f:=⟨(q.h).pt⟩
section
variable {X:Cx}{E:XK}
def mVar (i:Nat):Env'->M W:=fun ρ=>match ρ[i]? with
 |some (some w)=>pr w
 |_=>no
def mC (w:W):Env'->M W:=fun _=>pr w
theorem sr {i:Nat}{σ:St}{H:Hp}{Q:VK}(h:tM (cg X E) (mVar i) σ H Q):tVar i σ H Q:=by
 obtain⟨o,ρ,rfl,R,S,h⟩:=h
 unfold mVar at h
 cases e:ρ[i]? with
 |none=>rw[e] at h;exact h.elim
 |some x=>
  cases x with
  |none=>rw[e] at h;exact h.elim
  |some w=>
   rw[e] at h
   obtain⟨v,e1,r⟩:=S.get e
   exact⟨v,e1,h.pr R r⟩
theorem af (i:Nat){x:Str}{pos:Pos}(hN:X.N[i]?=some x:=by rfl)(hv:Vis X.env.scope x:=by first|exact Or.inl rfl|exact Or.inr (Or.inl rfl)|exact Or.inr (Or.inr rfl))(hd:(x==("__debug__":Str))=false:=by decide)
 (hcd:(x==("__classdict__":Str))=false:=by decide):JE X E (.Name x pos) (mVar i):=(pv i hN hv hd hcd).imp fun _ _ _ h=>sr h
theorem oA {w:W}{v:V}(hr: ∀o,Rv X.K o w v){σ:St}{H:Hp}{Q:VK}(h:tM (cg X E) (mC w) σ H Q):tC v σ H Q:=by
 obtain⟨o,ρ,rfl,R,S,h⟩:=h
 exact Ps.pr (c:=cg X E) h R (hr o)
theorem ah {i j pos}:JE X E (.Constant (.int i) j pos) (mC (.int i)):=pe_int.imp fun _ _ _ h=>oA (fun o=>by unfold Rv;rfl) h
theorem iq {i j pos}:JE X E (.Constant (.bool i) j pos) (mC (.bl i)):=pe_bl.imp fun _ _ _ h=>oA (fun o=>by unfold Rv;rfl) h
theorem aK {i j pos}:JE X E (.Constant (.str i) j pos) (mC (.str i)):=pe_str.imp fun _ _ _ h=>oA (fun o=>by unfold Rv;rfl) h
theorem rk {x:Str}{w:W}{v:V}{u:Value}{pos:Pos}(hg:Gl X x)(hm:X.mg x=some u)(r:RelV v u)(hr: ∀o,Rv X.K o w v)(hd:(x==("__debug__":Str))=false:=by decide):JE X E (.Name x pos) (mC w):=
 (qO hg hm r hd).imp fun _ _ _ h=>oA hr h
def m2 (f:W->W->M W)(fa fb:Env'->M W):Env'->M W:=fun ρ=>bd (fa ρ) fun x=>bd (fb ρ) fun y=>f x y
def OpM (X:Cx)(E:XK)(r:R2)(f:W->W->M W):Prop:= ∀ (o:Wo) (x y:W) (vx vy:V) (Q:VK),Rel X.K o->Rv X.K o x vx->Rv X.K o y vy->Ps (cg X E) (Rv X.K) o (f x y o.h) Q->r vx vy o.H Q
theorem oB {r:R2}{f:W->W->M W}(hf:OpM X E r f){fa fb:Env'->M W}{σ:St}{H:Hp}{Q:VK}(h:tM (cg X E) (m2 f fa fb) σ H Q):tOp r (tM (cg X E) fa) (tM (cg X E) fb) σ H Q:=by
 obtain⟨o,ρ,rfl,R,S,h⟩:=h
 exact⟨o,ρ,rfl,R,S,Ps.bd h fun p x vx e1 R1 r1 h1=>⟨p,ρ,rfl,R1,S.mono R e1,Ps.bd h1 fun q y vy e2 R2 r2 h2=>hf q x y vx vy Q R2 (r1.mono R1 e2) r2 h2⟩⟩
theorem kC {a b:Expr}{pos:Pos}{op:Operator}{r:R2}{f:W->W->M W}{fa fb:Env'->M W}(ho:OpR X (binaryOp op) r)(hf:OpM X E r f)(ha:JE X E a fa)(hb:JE X E b fb):
 JE X E (.BinOp a op b pos) (m2 f fa fb):=(uF ho ha.h hb.h).imp fun _ _ _ h=>oB hf h
theorem lH {a b:Expr}{pos:Pos}{op:CmpOp}{r:R2}{f:W->W->M W}{fa fb:Env'->M W}(ho:OpR X (compareOp op) r)(hf:OpM X E r f)(ha:JE X E a fa)(hb:JE X E b fb)(hm:behindInMarks op b=false):
 JE X E (.Compare a [op] [b] pos) (m2 f fa fb):=(qQ ho ha.h hb.h hm).imp fun _ _ _ h=>oB hf h
def asB (w:W):M Bool:=match w with
 |.bl b=>pr b
 |_=>no
def mB (f:Env'->M W):Env'->M Bool:=fun ρ=>bd (f ρ) asB
theorem uj {f:Env'->M W}{σ:St}{H:Hp}{Q:Bool->Hp->Prop}(h:tT (cg X E) (mB f) σ H Q):tM (cg X E) f σ H fun x H'=> ∃k,x=.bl k/\Q k H':=by
 obtain⟨o,ρ,rfl,R,S,h⟩:=h
 refine⟨o,ρ,rfl,R,S,Ps.bd h fun p x vx e1 R1 r1 h1=>?_⟩
 unfold asB at h1
 split at h1
 ·rename_i b
  unfold Rv at r1
  exact⟨b,r1,h1.pr R1 rfl⟩
 ·exact h1.elim
theorem aP {a b:Expr}{pos:Pos}{op:CmpOp}{r:R2}{f:W->W->M W}{fa fb:Env'->M W}(ho:OpR X (compareOp op) r)(hf:OpM X E r f)(ha:JE X E a fa)(hb:JE X E b fb)(hm:behindInMarks op b=false):
 JT X E (.Compare a [op] [b] pos) (mB (m2 f fa fb)):=(qF ho ha.h hb.h hm).imp fun _ _ _ h=>oB hf (uj h)
theorem gh {e:Expr}{f:Env'->M W}(h:JE X E e f)(he: ∀whole,isTrue e X.env whole=(do let v<-whole;standAt e.pos;holding [v] (truthy v)):=by intro _;rfl):JT X E e (mB f):=
 (sN h.h he).imp fun _ _ _ h=>uj h
def mAnd (f g:Env'->M Bool):Env'->M Bool:=fun ρ=>bd (f ρ) fun b=>if b=true then g ρ else pr false
def mOr (f g:Env'->M Bool):Env'->M Bool:=fun ρ=>bd (f ρ) fun b=>if b=true then pr true else g ρ
def mNot (f:Env'->M Bool):Env'->M Bool:=fun ρ=>bd (f ρ) fun b=>pr (!b)
variable {a b:Expr}{rest:List Expr}{pos:Pos}{f g:Env'->M Bool}
theorem ui {σ:St}{H:Hp}{Q:Bool->Hp->Prop}(h:tT (cg X E) (mOr f g) σ H Q):tOr (tT (cg X E) f) (tT (cg X E) g) σ H Q:=by
 obtain⟨o,ρ,rfl,R,S,h⟩:=h
 refine⟨o,ρ,rfl,R,S,Ps.bd h fun p x vx e1 R1 r1 h1=>?_⟩
 subst r1
 cases x with
 |false=>exact iteF ⟨p,ρ,rfl,R1,S.mono R e1,h1⟩
 |true=>exact iteT (h1.pr R1 rfl)
theorem ik (ha:JT X E a f):JT X E (.UnaryOp .Not a pos) (mNot f):=(sO ha.h).imp fun σ H Q h=>by
 obtain⟨o,ρ,rfl,R,S,h⟩:=h
 refine⟨o,ρ,rfl,R,S,Ps.bd h fun p x vx e1 R1 r1 h1=>?_⟩
 subst r1
 exact h1.pr R1 rfl
theorem jy (ha:JT X E a f):JW X E (.BoolOp .Or [a] pos) f:=⟨sM ha.h⟩
theorem iW (ha:JT X E a f)(hb:JW X E (.BoolOp .Or (b::rest) pos) g):JW X E (.BoolOp .Or (a::b::rest) pos) (mOr f g):=(uD ha.h hb.h).imp fun _ _ _ h=>ui h
def mAndV (f g:Env'->M W):Env'->M W:=fun ρ=>bd (f ρ) fun w=>bd (asB w) fun b=>if b=true then g ρ else pr (.bl false)
def mOrV (f g:Env'->M W):Env'->M W:=fun ρ=>bd (f ρ) fun w=>bd (asB w) fun b=>if b=true then pr (.bl true) else g ρ
def mNotV (f:Env'->M W):Env'->M W:=fun ρ=>bd (f ρ) fun w=>bd (asB w) fun b=>pr (.bl (!b))
theorem ug {α β:Type}{r:Wo->α->β->Prop}{o:Wo}{w:W}{v:V}{k:Bool->M α}{Q:β->Hp->Prop}(hr:Rv X.K o w v)(h:Ps (cg X E) r o (bd (asB w) k o.h) Q): ∃b,w=.bl b/\v=.bl b/\Ps (cg X E) r o (k b o.h) Q:=by
 cases w with
 |bl b=>unfold Rv at hr;exact⟨b,rfl,hr,h⟩
 |_=>exact h.elim
variable {u v:Env'->M W}
theorem tK {op}(h:JE X E a u):JE X E (.BoolOp op [a] pos) u:=⟨sV h.h⟩
theorem pK (ha:JE X E a u)(hb:JE X E (.BoolOp .And (b::rest) pos) v):JE X E (.BoolOp .And (a::b::rest) pos) (mAndV u v):=(sX ha.h hb.h).imp fun σ H Q h=>by
 obtain⟨o,ρ,rfl,R,S,h⟩:=h
 refine⟨o,ρ,rfl,R,S,Ps.bd h fun p x vx e1 R1 r1 h1=>?_⟩
 obtain⟨k,rfl,rfl,h2⟩:=ug r1 h1
 refine⟨k,rfl,?_⟩
 cases k with
 |true=>exact iteT ⟨p,ρ,rfl,R1,S.mono R e1,h2⟩
 |false=>exact iteF (h2.pr R1 (by unfold Rv;rfl))
def mIf (f:Env'->M Bool)(u v:Env'->M W):Env'->M W:=fun ρ=>bd (f ρ) fun b=>if b=true then u ρ else v ρ
theorem pJ {c:Expr}(hc:JT X E c f)(ha:JE X E a u)(hb:JE X E b v):JE X E (.IfExp c a b pos) (mIf f u v):=(oX hc.h ha.h hb.h).imp fun σ H Q h=>by
 obtain⟨o,ρ,rfl,R,S,h⟩:=h
 refine⟨o,ρ,rfl,R,S,Ps.bd h fun p x vx e1 R1 r1 h1=>?_⟩
 subst r1
 cases x with
 |true=>exact iteT ⟨p,ρ,rfl,R1,S.mono R e1,h1⟩
 |false=>exact iteF ⟨p,ρ,rfl,R1,S.mono R e1,h1⟩
def m1 (f:W->M W)(fa:Env'->M W):Env'->M W:=fun ρ=>bd (fa ρ) f
def negW (w:W):M W:=match w with
 |.int i=>pr (.int (-i))
 |_=>no
def mNil:Env'->M (List W):=fun _=>pr []
def mCons (fa:Env'->M W)(fr:Env'->M (List W)):Env'->M (List W):=fun ρ=>bd (fa ρ) fun x=>bd (fr ρ) fun l=>pr (x::l)
variable {es:List Expr}{l:Env'->M (List W)}{e:Expr}
theorem ag:JA X E [] mNil:=pa_nil.imp fun σ H Q h=>by
 obtain⟨o,ρ,rfl,R,S,h⟩:=h
 exact h.pr R Rvs.nil
theorem ae (ha:JE X E e u)(hr:JA X E es l)(hs:starEach (e::es) X.env=(false,eval e X.env)::starEach es X.env:=by rfl):JA X E (e::es) (mCons u l):=(qT ha.h hr.h hs).imp fun σ H Q h=>by
 obtain⟨o,ρ,rfl,R,S,h⟩:=h
 exact⟨o,ρ,rfl,R,S,Ps.bd h fun p x vx e1 R1 r1 h1=>⟨p,ρ,rfl,R1,S.mono R e1,Ps.bd h1 fun q y vy e2 R2 r2 h2=>h2.pr R2 (Rvs.cons (r1.mono R1 e2) r2)⟩⟩
def tupW (l:List W):M W:=gd (l.length<=sizeLine) (pr (.tup l))
def mTup (l:Env'->M (List W)):Env'->M W:=fun ρ=>bd (l ρ) tupW
theorem Rv.newT {K:PySem.W.Frag}{o:Wo}(R:Rel K o){q:Addr}{l:List W}{vs:List V}(h:o.H q=none)(hl:Rvs K o l vs):Rv K ⟨o.mu,o.h,upd o.H q (.tup vs)⟩ (.tup l) (.ref q):=by
 unfold Rv;exact⟨q,vs,rfl,.of aR,hl.mono R (Ex.new h)⟩
theorem Rv.newL {K:PySem.W.Frag}{o:Wo}(R:Rel K o){q:Addr}{l:List W}{vs:List V}(h:o.H q=none)(hl:Rvs K o l vs):Rv K ⟨o.mu,o.h,upd o.H q (.lst vs)⟩ (.tl l) (.ref q):=by
 unfold Rv
 exact⟨q,vs,rfl,aR,fun z=>Lv.there R (show Lv o q from z) h,hl.mono R (Ex.new h)⟩
theorem aA {x1}(h:JA X E es l):JE X E (.Tuple es x1 pos) (mTup l):=(oU h.h).imp fun σ H Q h=>by
 obtain⟨o,ρ,rfl,R,S,h⟩:=h
 refine⟨o,ρ,rfl,R,S,Ps.bd h fun p x vx e1 R1 r1 h1=>?_⟩
 obtain⟨hz,h1⟩:=h1.gd
 exact⟨by rw[r1.len];exact hz,fun q hq=>Ps.at (p:=⟨p.mu,p.h,upd p.H q (.tup vx)⟩) h1 rfl (Ex.new hq) (R1.new hq) (Rv.newT R1 hq r1)⟩
def mTl (l:Env'->M (List W)):Env'->M W:=fun ρ=>bd (l ρ) fun x=>pr (.tl x)
def newW (x:List W):M W:=fun h=>.ok (.loc h.length) (h++[.lst x])
def mNew (l:Env'->M (List W)):Env'->M W:=fun ρ=>bd (l ρ) newW
theorem ba (h:JF X E e l):JE X E e (mTl l):=h.h.imp fun σ H Q h=>by
 obtain⟨o,ρ,rfl,R,S,h⟩:=h
 exact⟨o,ρ,rfl,R,S,Ps.bd h fun p x vx e1 R1 r1 h1=>fun q hq=>Ps.at (p:=⟨p.mu,p.h,upd p.H q (.lst vx)⟩) h1 rfl (Ex.new hq) (R1.new hq) (Rv.newL R1 hq r1)⟩
theorem fg (h:JF X E e l):JE X E e (mNew l):=h.h.imp fun σ H Q h=>by
 obtain⟨o,ρ,rfl,R,S,h⟩:=h
 refine⟨o,ρ,rfl,R,S,Ps.bd h fun p x vx e1 R1 r1 h1=>fun q hq=>?_⟩
 refine Ps.at (p:=p.add q (.lst x) (.lst vx)) h1 rfl (Ex.add hq) (R1.addL hq r1) ?_
 unfold Rv
 exact⟨by show _<(p.h++[_]).length;simp,by show V.ref q=V.ref (if p.h.length=p.h.length then q else _);rw[if_pos rfl]⟩
def lenG (l:Env'->M (List W)):Env'->M (List W):=fun ρ=>bd (l ρ) fun x=>gd (x.length<=sizeLine) (pr x)
theorem bf (h:JA X E es l):JF X E (.List es pos) (lenG l):=(sW h.h).impF fun σ H Q h=>by
 obtain⟨o,ρ,rfl,R,S,h⟩:=h
 refine⟨o,ρ,rfl,R,S,Ps.bd h fun p x vx e1 R1 r1 h1=>?_⟩
 obtain⟨hz,h1⟩:=h1.gd
 exact⟨by rw[r1.len];exact hz,h1.pr R1 r1⟩
end
end L2
set_option maxHeartbeats 1000000
namespace L2
open PySem PySem.Spec PyProof.Rows
section
variable {X:Cx}{E:XK}
theorem rv_int {K:PySem.W.Frag}{o:Wo}{i:Int}{v:V}:Rv K o (.int i) v↔v=.int i:=by unfold Rv;exact Iff.rfl
theorem rv_str {K:PySem.W.Frag}{o:Wo}{i:Str}{v:V}:Rv K o (.str i) v↔v=.str i:=by unfold Rv;exact Iff.rfl
theorem rv_bl {K:PySem.W.Frag}{o:Wo}{i:Bool}{v:V}:Rv K o (.bl i) v↔v=.bl i:=by unfold Rv;exact Iff.rfl
theorem rv_non {K:PySem.W.Frag}{o:Wo}{v:V}:Rv K o .non v↔v=.non:=by unfold Rv;exact Iff.rfl
theorem rv_ty {K:PySem.W.Frag}{o:Wo}{n:String}{v:V}:Rv K o (.ty n) v↔v=.ty n:=by unfold Rv;exact Iff.rfl
def lstOf (w:W):M (List W):=match w with
 |.tl l=>pr l
 |.cl l=>pr l
 |.loc k=>fun h=>match h[k]? with
  |some (.lst l)=>.ok l h
  |_=>.bad
 |_=>no
theorem bZ {α β:Type}{r:Wo->α->β->Prop}{o:Wo}{w:W}{v:V}{k:List W->M α}{Q:β->Hp->Prop}(R:Rel X.K o)(hr:Rv X.K o w v)(h:Ps (cg X E) r o (bd (lstOf w) k o.h) Q):
  ∃l a vs,v=.ref a/\SqL X.K o.H a vs/\Rvs X.K o l vs/\Ps (cg X E) r o (k l o.h) Q:=by
 cases w with
 |tl l=>unfold Rv at hr;obtain⟨a,vs,e,h1,_,h2⟩:=hr;exact⟨l,a,vs,e,.of h1,h2,h⟩
 |cl l=>
  unfold Rv at hr
  obtain⟨a,vs,e,h1,h2⟩:=hr
  rcases h1 with⟨h1,_⟩|h1
  ·exact⟨l,a,vs,e,.inl h1,h2,h⟩
  ·exact⟨l,a,vs,e,.inr h1,h2,h⟩
 |loc j=>
  unfold Rv at hr
  unfold lstOf bd at h
  cases e:o.h[j]? with
  |none=>simp only[e] at h;exact h.elim
  |some b=>
   cases b with
   |lst l=>
    simp only[e] at h
    obtain⟨vs,h1,h2⟩:=R.ob j _ e
    exact⟨l,_,vs,hr.2,.of h1,h2,h⟩
   |_=>simp only[e] at h;exact h.elim
 |_=>exact h.elim
def lstO (w:W):M (List W):=match w with
 |.tl l=>pr l
 |.loc k=>fun h=>match h[k]? with
  |some (.lst l)=>.ok l h
  |_=>.bad
 |_=>no
theorem gL {α β:Type}{r:Wo->α->β->Prop}{o:Wo}{w:W}{v:V}{k:List W->M α}{Q:β->Hp->Prop}(R:Rel X.K o)(hr:Rv X.K o w v)(h:Ps (cg X E) r o (bd (lstO w) k o.h) Q):
  ∃l a vs,v=.ref a/\o.H a=some (.lst vs)/\Rvs X.K o l vs/\Ps (cg X E) r o (k l o.h) Q:=by
 cases w with
 |tl l=>unfold Rv at hr;obtain⟨a,vs,e,h1,_,h2⟩:=hr;exact⟨l,a,vs,e,h1,h2,h⟩
 |loc j=>
  unfold Rv at hr
  unfold lstO bd at h
  cases e:o.h[j]? with
  |none=>simp only[e] at h;exact h.elim
  |some b=>
   cases b with
   |lst l=>
    simp only[e] at h
    obtain⟨vs,h1,h2⟩:=R.ob j _ e
    exact⟨l,_,vs,hr.2,h1,h2,h⟩
   |_=>simp only[e] at h;exact h.elim
 |_=>exact h.elim
theorem jn {o:Wo}{q:Addr}{l:List W}{vs:List V}{Q:VK}(R:Rel X.K o)(hq:o.H q=none)(hl:Rvs X.K o l vs)(h:Ps (cg X E) (Rv X.K) o (pr (.tup l) o.h) Q):Q (.ref q) (upd o.H q (.tup vs)):=
 Ps.at (p:=⟨o.mu,o.h,upd o.H q (.tup vs)⟩) h rfl (Ex.new hq) (R.new hq) (Rv.newT R hq hl)
theorem fx {o:Wo}{q:Addr}{l:List W}{vs:List V}{Q:VK}(R:Rel X.K o)(hq:o.H q=none)(hl:Rvs X.K o l vs)(h:Ps (cg X E) (Rv X.K) o (pr (.tl l) o.h) Q):Q (.ref q) (upd o.H q (.lst vs)):=
 Ps.at (p:=⟨o.mu,o.h,upd o.H q (.lst vs)⟩) h rfl (Ex.new hq) (R.new hq) (Rv.newL R hq hl)
def addW (x y:W):M W:=match x,y with
 |.int i,.int j=>pr (.int (i+j))
 |.str a,.str b=>gd (a.length+b.length<=sizeLine) (pr (.str (a++b)))
 |.tup a,.tup b=>gd (a.isEmpty=false/\a.length+b.length<=sizeLine) (pr (.tup (a++b)))
 |x,y=>bd (lstO x) fun a=>bd (lstO y) fun b=>gd (a.length+b.length<=sizeLine) (pr (.tl (a++b)))
theorem qX:OpM X E (fun x y H Q=>rI0 (fun i j=>.int (i+j)) x y H Q\/(fun x y H Q=>(fun x y H Q=> ∃i j,x=.str i/\y=.str j/\i.length+j.length<=sizeLine/\Q (.str (i++j)) H) x y H Q\/(fun x y H Q=>rCatT X.K x y H Q\/rCat x y H Q) x y H Q) x y H Q) addW:=by
 intro o x y vx vy Q R rx ry h
 unfold addW at h
 split at h
 ·exact .inl ⟨_,_,rv_int.mp rx,rv_int.mp ry,h.pr R (rv_int.mpr rfl)⟩
 ·obtain⟨hz,h⟩:=h.gd
  exact .inr (.inl ⟨_,_,rv_str.mp rx,rv_str.mp ry,hz,h.pr R (rv_str.mpr rfl)⟩)
 ·obtain⟨hz,h⟩:=h.gd
  unfold Rv at rx ry
  obtain⟨a,vs,e1,s1,r1⟩:=rx
  obtain⟨b,us,e2,s2,r2⟩:=ry
  have n1:vs≠ []:=fun z=>by
   have:=r1.len
   rw[z] at this
   have q:=hz.1
   rw[List.eq_nil_of_length_eq_zero this.symm] at q
   cases q
  refine .inr (.inr (.inl ⟨a,b,vs,us,e1,e2,s1,s2,n1,by rw[r1.len,r2.len];exact hz.2,fun z=>?_,fun _ q hq=>jn R hq (r1.app r2) h⟩))
  refine h.pr R ?_
  unfold Rv
  exact⟨a,vs,rfl,s1,by have:=r1.app r2;rw[z,List.append_nil] at this;exact this⟩
 ·obtain⟨l,a,vs,e1,s1,r1,h⟩:=gL R rx h
  obtain⟨m,b,us,e2,s2,r2,h⟩:=gL R ry h
  obtain⟨hz,h⟩:=h.gd
  exact .inr (.inr (.inr ⟨a,b,vs,us,e1,e2,s1,s2,by rw[r1.len,r2.len];exact hz,fun q hq=>fx R hq (r1.app r2) h⟩))
theorem bq {a b:Expr}{pos:Pos}{fa fb:Env'->M W}(ha:JE X E a fa)(hb:JE X E b fb):JE X E (.BinOp a .Add b pos) (m2 addW fa fb):=
 kC (op_add.or (op_add_str.or (op_catT.or tq))) qX ha hb
def iiW (C:Int->Int->Prop) [∀i j,Decidable (C i j)] (g:Int->Int->W)(x y:W):M W:=match x,y with
 |.int i,.int j=>gd (C i j) (pr (g i j))
 |_,_=>no
theorem hW {C:Int->Int->Prop} [∀i j,Decidable (C i j)] {g:Int->Int->W}{g':Int->Int->V}(hg: ∀o i j,Rv X.K o (g i j) (g' i j)):OpM X E (rI C g') (iiW C g):=by
 intro o x y vx vy Q R rx ry h
 unfold iiW at h
 split at h
 ·obtain⟨hz,h⟩:=h.gd
  exact⟨_,_,rv_int.mp rx,rv_int.mp ry,hz,h.pr R (hg _ _ _)⟩
 ·exact h.elim
theorem opR0 {f:Value->Value->Sem Value}{g':Int->Int->V}(h:OpR X f (rI0 g')):OpR X f (rI (fun _ _=>True) g'):=fun pins s σ H x y v u Q I rx ry q=>h pins s σ H x y v u Q I rx ry (let ⟨i,j,e1,e2,_,q⟩:=q;⟨i,j,e1,e2,q⟩)
noncomputable abbrev CT:Int->Int->Prop:=fun _ _=>True
def subW:W->W->M W:=iiW CT fun i j=>.int (i - j)
noncomputable def CDivB (i j:Int):Prop:=0<j/\j<2 ^ 200
instance (i j:Int):Decidable (CDivB i j):=by unfold CDivB;infer_instance
theorem o9:OpR X (binaryOp .FloorDiv) (rI CDivB fun i j=>.int (i / j)):=opI fun i j _ _ _ _ _ hc q=>by
 have h1:(0:Int)<j:=hc.1
 have h2:j<2 ^ 200:=hc.2
 refine floordiv_int (by omega) (by rw[Int.fdiv_eq_ediv_of_nonneg i (by omega)];exact q) (.inl (PyProof.noPylong_of_log2 ?_))
 have h3:j.natAbs<2 ^ 200:=by omega
 exact Nat.lt_of_lt_of_le ((Nat.log2_lt (by omega)).mpr h3) (by decide)
def fdivW:W->W->M W:=iiW CDivB fun i j=>.int (i / j)
theorem mo {a b:Expr}{pos:Pos}{fa fb:Env'->M W}(ha:JE X E a fa)(hb:JE X E b fb):JE X E (.BinOp a .FloorDiv b pos) (m2 fdivW fa fb):=
 kC o9 (hW fun _ _ _=>rv_int.mpr rfl) ha hb
noncomputable abbrev CMod:Int->Int->Prop:=fun _ j=>0<j
def modW:W->W->M W:=iiW CMod fun i j=>.int (i % j)
theorem gp {a b:Expr}{pos:Pos}{fa fb:Env'->M W}(ha:JE X E a fa)(hb:JE X E b fb):JE X E (.BinOp a .Mod b pos) (m2 modW fa fb):=
 kC tm (hW fun _ _ _=>rv_int.mpr rfl) ha hb
instance (i j:Int):Decidable (CPow i j):=by unfold CPow;infer_instance
def powW:W->W->M W:=iiW CPow fun i j=>.int (i ^ j.toNat)
theorem jA {a b:Expr}{pos:Pos}{fa fb:Env'->M W}(ha:JE X E a fa)(hb:JE X E b fb):JE X E (.BinOp a .Pow b pos) (m2 powW fa fb):=
 kC tf (hW fun _ _ _=>rv_int.mpr rfl) ha hb
theorem rj {z:Str}{n:Int}(h0:0<=n)(h1:n<=10000)(h:z.length<=30000)(hz:z.length * n.toNat<=1000000):MulOk z n:=by
 refine⟨?_,fun a b=>?_,fun a b=>?_⟩
 ·rw[Bool.or_eq_false_iff,decide_eq_false_iff_not,decide_eq_false_iff_not];omega
 ·have:(100000000000000:Int)<=(2 ^ 63 - 1) / n:=Int.le_ediv_of_mul_le (by omega) (by omega)
  omega
 ·unfold Builtin.Str.tooLong
  have:sizeLine=16777216:=by decide
  exact decide_eq_false (by omega)
instance (i j:Int):Decidable (CMul i j):=by unfold CMul;infer_instance
instance (i j:Int):Decidable (CMulB i j):=by unfold CMulB;infer_instance
def CMulA (i j:Int):Prop:=CMul i j\/CMulB i j
instance (i j:Int):Decidable (CMulA i j):=by unfold CMulA;infer_instance
theorem op_mulA:OpR X (binaryOp .Mult) (rI CMulA fun i j=>.int (i * j)):=opI fun _ _ _ _ _ _ _ hc q=>mul_int q (by rcases hc with h|h;exact h.ok;exact h.ok)
def mulW (x y:W):M W:=match x,y with
 |.int i,.int j=>gd (CMulA i j) (pr (.int (i * j)))
 |.str z,.int n=>gd (0<=n/\n<=10000/\z.length<=30000/\z.length * n.toNat<=1000000) (pr (.str (Txt.mul z n)))
 |x,.int n=>bd (lstO x) fun l=>gd (0<=n/\n<=1000000/\l.length * n.toNat<=sizeLine) (pr (.tl (List.replicate n.toNat l).flatten))
 |_,_=>no
theorem Rvs.rep {K:PySem.W.Frag}{o:Wo}{l:List W}{vs:List V}(h:Rvs K o l vs): ∀n:Nat,Rvs K o (List.replicate n l).flatten (List.replicate n vs).flatten
 |0=>Rvs.nil
 |n+1=>by rw[List.replicate_succ,List.replicate_succ,List.flatten_cons,List.flatten_cons];exact h.app (Rvs.rep h n)
theorem qU:OpM X E (fun x y H Q=>rI CMulA (fun i j=>.int (i * j)) x y H Q\/(fun x y H Q=>(fun x y H Q=> ∃ (z:Str) (n:Int),x=.str z/\y=.int n/\MulOk z n/\Q (.str (Txt.mul z n)) H) x y H Q\/rRep x y H Q) x y H Q) mulW:=by
 intro o x y vx vy Q R rx ry h
 unfold mulW at h
 split at h
 ·obtain⟨hz,h⟩:=h.gd
  exact .inl ⟨_,_,rv_int.mp rx,rv_int.mp ry,hz,h.pr R (rv_int.mpr rfl)⟩
 ·obtain⟨hz,h⟩:=h.gd
  exact .inr (.inl ⟨_,_,rv_str.mp rx,rv_int.mp ry,rj hz.1 hz.2.1 hz.2.2.1 hz.2.2.2,h.pr R (rv_str.mpr rfl)⟩)
 ·obtain⟨l,a,vs,e1,s1,r1,h⟩:=gL R rx h
  obtain⟨hz,h⟩:=h.gd
  exact .inr (.inr ⟨a,_,vs,e1,rv_int.mp ry,s1,by omega,by omega,by rw[r1.len];exact hz.2.2,fun q hq=>fx R hq (r1.rep _) h⟩)
 ·exact h.elim
theorem gm {a b:Expr}{pos:Pos}{fa fb:Env'->M W}(ha:JE X E a fa)(hb:JE X E b fb):JE X E (.BinOp a .Mult b pos) (m2 mulW fa fb):=
 kC (op_mulA.or (op_mul_str.or s9)) qU ha hb
def ltW:W->W->M W:=iiW CT fun i j=>.bl (decide (i<j))
def leW:W->W->M W:=iiW CT fun i j=>.bl (decide (i<=j))
def gtW:W->W->M W:=iiW CT fun i j=>.bl (decide (j<i))
def geW:W->W->M W:=iiW CT fun i j=>.bl (decide (j<=i))
theorem o8:OpM X E (rI CT fun i j=>.bl (decide (i<j))) ltW:=hW fun _ _ _=>rv_bl.mpr rfl
theorem sZ:OpM X E (rI CT fun i j=>.bl (decide (j<=i))) geW:=hW fun _ _ _=>rv_bl.mpr rfl
theorem sd:OpR X (compareOp .Lt) (rI CT fun i j=>.bl (decide (i<j))):=opR0 uI
theorem uH:OpR X (compareOp .GtE) (rI CT fun i j=>.bl (decide (j<=i))):=opR0 uJ
noncomputable def vOf:W->Option V
 |.non=>some .non
 |.bl b=>some (.bl b)
 |.int i=>some (.int i)
 |.str x=>some (.str x)
 |_=>none
theorem ot {K:PySem.W.Frag}{o:Wo}{x:W}{v u:V}(e:vOf x=some u)(h:Rv K o x v):v=u:=by
 cases x with
 |non=>cases e;exact rv_non.mp h
 |bl _=>cases e;exact rv_bl.mp h
 |int _=>cases e;exact rv_int.mp h
 |str _=>cases e;exact rv_str.mp h
 |_=>cases e
def vsOf:List W->Option (List V)
 |[]=>some []
 |w::l=>match vOf w,vsOf l with
  |some v,some vs=>some (v::vs)
  |_,_=>none
end
end L2
set_option maxHeartbeats 1000000
namespace L2
open PySem PySem.Spec PyProof.Rows
noncomputable def optL {α β:Type}(f:α->Option β):List α->Option (List β)
 |[]=>some []
 |a::l=>match f a,optL f l with
  |some b,some r=>some (b::r)
  |_,_=>none
def dataH (h:List Ob):Nat->W->Option PyData
 |0,_=>none
 |_+1,.non=>some .none
 |_+1,.bl b=>some (.bool b)
 |_+1,.int i=>some (.int i)
 |_+1,.str x=>some (.str x)
 |n+1,.tup l=>(optL (dataH h n) l).map .tuple
 |n+1,.tl l=>(optL (dataH h n) l).map .list
 |n+1,.cl l=>(optL (dataH h n) l).map .list
 |n+1,.loc k=>match h[k]? with
  |some (.lst l)=>(optL (dataH h n) l).map .list
  |_=>none
 |_+1,_=>none
section
variable {K:PySem.W.Frag}{o:Wo}
theorem hU {n:Nat}(ih: ∀w v d,dataH o.h n w=some d->Rv K o w v->Den K o.H v d/\d.depth<=n): ∀ {l:List W}{vs:List V}{ds:List PyData},optL (dataH o.h n) l=some ds->Rvs K o l vs->DenAll K o.H vs ds/\PyData.depthAll ds<=n
 |[],vs,ds,e,h=>by unfold Rvs at h;cases e;rw[h];exact⟨.nil,by simp [PyData.depthAll]⟩
 |w::l,vs,ds,e,h=>by
  unfold Rvs at h
  obtain⟨v,r,rfl,h1,h2⟩:=h
  unfold optL at e
  split at e
  ·rename_i d ds' e1 e2
   cases e
   obtain⟨a1,a2⟩:=ih w v d e1 h1
   obtain⟨b1,b2⟩:=hU ih e2 h2
   exact⟨.cons a1 b1,by rw[PyData.depthAll];omega⟩
  ·cases e
theorem gu (R:Rel K o): ∀ (n:Nat) (w:W) (v:V) (d:PyData),dataH o.h n w=some d->Rv K o w v->Den K o.H v d/\d.depth<=n
 |0,_,_,_,e,_=>by cases e
 |n+1,w,v,d,e,h=>by
  have ih:=gu R n
  have seq: ∀ {l:List W}{a:Addr}{vs:List V}{ds:List PyData},optL (dataH o.h n) l=some ds->SqL K o.H a vs->Rvs K o l vs->Den K o.H (.ref a) (.list ds)/\(PyData.list ds).depth<=n+1:=fun{l a vs ds} e s r=>by
   obtain⟨b1,b2⟩:=hU ih e r
   refine⟨.lst s b1,?_⟩
   rw[PyData.depth];omega
  cases w with
  |non=>cases e;rw[rv_non.mp h];exact⟨.non,by simp [PyData.depth]⟩
  |bl b=>cases e;rw[rv_bl.mp h];exact⟨.bl b,by simp [PyData.depth]⟩
  |int b=>cases e;rw[rv_int.mp h];exact⟨.int b,by simp [PyData.depth]⟩
  |str b=>cases e;rw[rv_str.mp h];exact⟨.str b,by simp [PyData.depth]⟩
  |ty b=>cases e
  |exc b=>cases e
  |cls b=>cases e
  |dv a b=>cases e
  |dn a b c=>cases e
  |kt a=>cases e
  |tup l=>
   unfold dataH at e
   obtain⟨ds,e1,rfl⟩:=Option.map_eq_some_iff.mp e
   unfold Rv at h
   obtain⟨a,vs,rfl,s,r⟩:=h
   obtain⟨b1,b2⟩:=hU ih e1 r
   refine⟨.tup s b1,?_⟩
   rw[PyData.depth];omega
  |tl l=>
   unfold dataH at e
   obtain⟨ds,e1,rfl⟩:=Option.map_eq_some_iff.mp e
   unfold Rv at h
   obtain⟨a,vs,rfl,s,_,r⟩:=h
   exact seq e1 (.of s) r
  |cl l=>
   unfold dataH at e
   obtain⟨ds,e1,rfl⟩:=Option.map_eq_some_iff.mp e
   unfold Rv at h
   obtain⟨a,vs,rfl,s,r⟩:=h
   refine seq e1 ?_ r
   rcases s with⟨s,_⟩|s
   ·exact .inl s
   ·exact .inr s
  |loc k=>
   unfold dataH at e
   split at e
   ·rename_i l hk
    obtain⟨ds,e1,rfl⟩:=Option.map_eq_some_iff.mp e
    unfold Rv at h
    obtain⟨vs,h1,h2⟩:=R.ob k _ hk
    rw[h.2]
    exact seq e1 (.of h1) h2
   ·cases e
end
def eqB (x y:W)(h:List Ob):Option Bool:=match vOf x,vOf y with
 |some a,some b=>if scal a b=true then some (decide (a=b)) else match dataH h 50 x,dataH h 50 y with
  |some d,some e=>if d.canLay0=true/\e.canLay0=true then some (PyData.eqv d e) else none
  |_,_=>none
 |_,_=>match dataH h 50 x,dataH h 50 y with
  |some d,some e=>if d.canLay0=true/\e.canLay0=true then some (PyData.eqv d e) else none
  |_,_=>none
def eqW (x y:W):M W:=fun h=>match eqB x y h with
 |some b=>.ok (.bl b) h
 |none=>.bad
def neW (x y:W):M W:=fun h=>match eqB x y h with
 |some b=>.ok (.bl (!b)) h
 |none=>.bad
section
variable {X:Cx}{E:XK}
theorem p6 {o:Wo}{x y:W}{vx vy:V}{b:Bool}(hu:X.A.units+64<cLine)(R:Rel X.K o)(rx:Rv X.K o x vx)(ry:Rv X.K o y vy)(e:eqB x y o.h=some b):
  (scal vx vy=true/\b=decide (vx=vy))\/ ∃d e,Den X.K o.H vx d/\Den X.K o.H vy e/\d.canLay0=true/\e.canLay0=true/\X.A.units+min d.depth e.depth<cLine/\b=PyData.eqv d e:=by
 have deep:(match dataH o.h 50 x,dataH o.h 50 y with
  |some d,some e=>if d.canLay0=true/\e.canLay0=true then some (PyData.eqv d e) else none
  |_,_=>none)=some b-> ∃d e,Den X.K o.H vx d/\Den X.K o.H vy e/\d.canLay0=true/\e.canLay0=true/\X.A.units+min d.depth e.depth<cLine/\b=PyData.eqv d e:=fun q=>by
  split at q
  ·rename_i d e' e1 e2
   split at q
   ·rename_i hc
    obtain⟨a1,a2⟩:=gu R _ _ _ _ e1 rx
    obtain⟨b1,b2⟩:=gu R _ _ _ _ e2 ry
    exact⟨d,e',a1,b1,hc.1,hc.2,by omega,(Option.some.inj q).symm⟩
   ·cases q
  ·cases q
 unfold eqB at e
 split at e
 ·rename_i a c e1 e2
  split at e
  ·rename_i hs
   rw[ot e1 rx,ot e2 ry]
   exact .inl ⟨hs,(Option.some.inj e).symm⟩
  ·exact .inr (deep e)
 ·exact .inr (deep e)
theorem bB (hu:X.A.units+64<cLine):OpM X E (fun x y H Q=>rEq x y H Q\/rEqD X.K X.A false x y H Q) eqW:=by
 intro o x y vx vy Q R rx ry h
 unfold eqW at h
 cases e:eqB x y o.h with
 |none=>rw[e] at h;exact h.elim
 |some b=>
  rw[e] at h
  have q:Q (.bl b) o.H:=Ps.pr (c:=cg X E) (r:=Rv X.K) (a:=W.bl b) h R (rv_bl.mpr rfl)
  rcases p6 hu R rx ry e with⟨s,rfl⟩|⟨d,e',a1,a2,a3,a4,a5,rfl⟩
  ·exact .inl ⟨s,q⟩
  ·exact .inr ⟨d,e',a1,a2,a3,a4,a5,by rw[if_neg Bool.false_ne_true];exact q⟩
theorem dJ (hu:X.A.units+64<cLine):OpM X E (fun x y H Q=>rNe x y H Q\/rEqD X.K X.A true x y H Q) neW:=by
 intro o x y vx vy Q R rx ry h
 unfold neW at h
 cases e:eqB x y o.h with
 |none=>rw[e] at h;exact h.elim
 |some b=>
  rw[e] at h
  have q:Q (.bl (!b)) o.H:=Ps.pr (c:=cg X E) (r:=Rv X.K) (a:=W.bl (!b)) h R (rv_bl.mpr rfl)
  rcases p6 hu R rx ry e with⟨s,rfl⟩|⟨d,e',a1,a2,a3,a4,a5,rfl⟩
  ·exact .inl ⟨s,q⟩
  ·exact .inr ⟨d,e',a1,a2,a3,a4,a5,by rw[if_pos rfl];exact q⟩
theorem cH:OpR X (compareOp .Eq) (fun x y H Q=>rEq x y H Q\/rEqD X.K X.A false x y H Q):=op_eq.or tp
theorem fE:OpR X (compareOp .NotEq) (fun x y H Q=>rNe x y H Q\/rEqD X.K X.A true x y H Q):=op_ne.or tj
def keyOf:W->Option Key
 |.int i=>some (.inl i)
 |.str x=>some (.inr x)
 |_=>none
theorem iy {K:PySem.W.Frag}{o:Wo}{x:W}{v:V}{k:Key}(e:keyOf x=some k)(h:Rv K o x v):v=kV k:=by
 cases x with
 |int _=>cases e;exact rv_int.mp h
 |str _=>cases e;exact rv_str.mp h
 |_=>cases e
def dicOf (w:W)(h:List Ob):Option (List Key×List W):=match w with
 |.dv ks ws=>some (ks,ws)
 |.loc k=>match h[k]? with
  |some (.dic ks ws)=>some (ks,ws)
  |_=>none
 |_=>none
theorem qd {o:Wo}{w:W}{v:V}{ks:List Key}{ws:List W}(R:Rel X.K o)(e:dicOf w o.h=some (ks,ws))(h:Rv X.K o w v): ∃a kvs,v=.ref a/\Rd o.H a (.dK kvs)/\kvs.map (·.1)=ks/\Rvs X.K o ws (kvs.map (·.2)):=by
 cases w with
 |dv a b=>
  cases e
  unfold Rv at h
  obtain⟨a,kvs,e,h1,_,h2,h3⟩:=h
  exact⟨a,kvs,e,h1,h2,h3⟩
 |loc k=>
  unfold dicOf at e
  dsimp only at e
  split at e
  ·rename_i a b hk
   cases e
   unfold Rv at h
   obtain⟨kvs,h1,h2,h3⟩:=R.ob k _ hk
   exact⟨_,kvs,h.2,.inl h1,h2,h3⟩
  ·cases e
 |_=>cases e
noncomputable def atK {κ:Type} [DecidableEq κ]:List κ->List W->κ->Option W
 |k::ks,w::ws,x=>if k=x then some w else atK ks ws x
 |_,_,_=>none
theorem eP {κ:Type} [DecidableEq κ] {K:PySem.W.Frag}{o:Wo}{x:κ}: ∀ {ks:List κ}{ws:List W}{kvs:List (κ×V)},kvs.map (·.1)=ks->Rvs K o ws (kvs.map (·.2))->match atK ks ws x with
  |some w=> ∃v,valV kvs x=some v/\Rv K o w v
  |none=>valV kvs x=none
 |[],_,[],_,_=>rfl
 |_,_,(k,v)::r,e,h=>by
  subst e
  cases ‹List W› with
  |nil=>unfold Rvs at h;cases h
  |cons w ws=>
   unfold Rvs at h
   obtain⟨v',r',e',h1,h2⟩:=h
   cases e'
   have ih:=eP (x:=x) (ks:=r.map (·.1)) (ws:=ws) (kvs:=r) rfl h2
   show match (if k=x then some w else atK (r.map (·.1)) ws x) with
    |some w=> ∃v',valV ((k,v)::r) x=some v'/\Rv K o w v'
    |none=>valV ((k,v)::r) x=none
   by_cases z:k=x
   ·rw[if_pos z]
    exact⟨v,by unfold valV;rw[List.find?_cons_of_pos (by simpa using z)];rfl,h1⟩
   ·rw[if_neg z]
    have ev:valV ((k,v)::r) x=valV r x:=by unfold valV;rw[List.find?_cons_of_neg (by simpa using z)]
    rw[ev]
    exact ih
def inB (x y:W)(h:List Ob):Option Bool:=match y with
 |.str b=>match x with
  |.str a=>some (!(Builtin.Str.occurrences b a 0 b.length 1).isEmpty)
  |_=>none
 |.tup l=>match vOf x,vsOf l with
  |some v,some vs=>some (inV v vs)
  |_,_=>none
 |y=>match dicOf y h with
  |some (ks,ws)=>match keyOf x with
   |some k=>some (atK ks ws k).isSome
   |none=>none
  |none=>match lstOf y h with
   |.ok l _=>match vOf x,vsOf l with
    |some v,some vs=>some (inV v vs)
    |_,_=>none
   |_=>none
theorem pL {o:Wo}{w:W}{v:V}{l:List W}{h':List Ob}(R:Rel X.K o)(hr:Rv X.K o w v)(e:lstOf w o.h=.ok l h'):h'=o.h/\ ∃a vs,v=.ref a/\SqL X.K o.H a vs/\Rvs X.K o l vs:=by
 have hh:h'=o.h:=by
  cases w with
  |tl l'=>cases e;rfl
  |cl l'=>cases e;rfl
  |loc j=>
   unfold lstOf at e
   dsimp only at e
   split at e
   ·cases e;rfl
   ·cases e
  |_=>cases e
 subst hh
 have h:Ps (cg X (fun _ _ _=>False)) (fun (_:Wo) (a:List W) (b:List W)=>a=b) o (bd (lstOf w) (fun l=>pr l) o.h) (fun b _=>b=l):=by
  unfold bd
  rw[e]
  intro p b _ _ _ q
  exact q.symm
 obtain⟨m,a,vs,e1,e2,e3,h⟩:=bZ R hr h
 have:m=l:=h.pr R rfl
 subst this
 exact⟨rfl,a,vs,e1,e2,e3⟩
theorem Rvs.atI {K:PySem.W.Frag}{o:Wo}{l:List W}{vs:List V}{i:Int}{w:W}(h:Rvs K o l vs)(e:L2.atI l i=some w): ∃v,L2.atI vs i=some v/\Rv K o w v:=by
 unfold L2.atI at e ⊢
 rw[h.len]
 cases q:ixN l.length i with
 |none=>rw[q] at e;cases e
 |some j=>rw[q] at e;exact h.get e
def ixO (x y:W)(h:List Ob):Option W:=match dicOf x h with
 |some (ks,ws)=>match keyOf y with
  |some k=>atK ks ws k
  |none=>none
 |none=>match y with
  |.int i=>match x with
   |.str z=>if z.length<=sizeLine then (atI z.cps.toList i).map fun c=>.str ⟨#[c]⟩ else none
   |.tup l=>atI l i
   |x=>match lstOf x h with
    |.ok l _=>atI l i
    |_=>none
  |_=>none
def ixW (x y:W):M W:=fun h=>match ixO x y h with
 |some w=>.ok w h
 |none=>.bad
def rIxD:R2:=fun x y H Q=> ∃a v,x=.ref a/\DGet H a y (some v)/\Q v H
theorem rG (hu:X.A.units+1<cLine):IxR X rIxD:=by
 intro value slice pins s σ H x y v u Q I rx ry h hs
 obtain⟨a,z,rfl,g,q⟩:=h
 cases rx
 exact tail_any (kO I g) PySem.F.slot_dict_getitem.lookup (nY hu I g ry fun w' s3 I3 rw'=>⟨z,H,I3,rw',q⟩) hs
theorem sY:OpM X E (fun x y H Q=>rIx X.K x y H Q\/rIxD x y H Q) ixW:=by
 intro o x y vx vy Q R rx ry h
 unfold ixW at h
 cases e:ixO x y o.h with
 |none=>rw[e] at h;exact h.elim
 |some w=>
  rw[e] at h
  have q: ∀ {v:V},Rv X.K o w v->Q v o.H:=fun{v} hv=>Ps.pr (c:=cg X E) (r:=Rv X.K) (a:=w) h R hv
  unfold ixO at e
  split at e
  ·rename_i ks ws hd
   split at e
   ·rename_i k hk
    obtain⟨a,kvs,rfl,h1,h2,h3⟩:=qd R hd rx
    have:=eP (x:=k) h2 h3
    rw[e] at this
    obtain⟨v,hv,rv⟩:=this
    rw[iy hk ry]
    exact .inr ⟨a,v,rfl,.inl ⟨kvs,k,h1,rfl,hv.symm⟩,q rv⟩
   ·cases e
  ·split at e
   ·split at e
    ·split at e
     ·rename_i hz
      obtain⟨c,hc,rfl⟩:=Option.map_eq_some_iff.mp e
      exact .inl (.inr (.inr ⟨_,_,c,rv_str.mp rx,rv_int.mp ry,hz,hc,q (rv_str.mpr rfl)⟩))
     ·cases e
    ·unfold Rv at rx
     obtain⟨a,vs,rfl,s,r⟩:=rx
     obtain⟨v,hv,rv⟩:=r.atI e
     exact .inl (.inr (.inl ⟨a,vs,_,v,rfl,rv_int.mp ry,s,hv,q rv⟩))
    ·split at e
     ·rename_i l h' hl
      obtain⟨rfl,a,vs,rfl,s,r⟩:=pL R rx hl
      obtain⟨v,hv,rv⟩:=r.atI e
      exact .inl (.inl ⟨a,vs,_,v,rfl,rv_int.mp ry,s,hv,q rv⟩)
     ·cases e
   ·cases e
theorem aH {a b:Expr}{pos:Pos}{fa fb:Env'->M W}(hu:X.A.units+1<cLine)(ha:JE X E a fa)(hb:JE X E b fb)(hs:jN b):JE X E (.Subscript a b pos) (m2 ixW fa fb):=
 (r6 (ix_seq.or (rG hu)) ha.h hb.h hs).imp fun _ _ _ h=>oB sY h
def cutW {α:Type}(xs:List α)(lo hi:Option Int):List α:=(xs.drop (HT.sIx xs.length 0 lo)).take (HT.sIx xs.length xs.length hi - HT.sIx xs.length 0 lo)
theorem Rvs.cut {K:PySem.W.Frag}{o:Wo}{l:List W}{vs:List V}(h:Rvs K o l vs)(lo hi:Option Int):Rvs K o (cutW l lo hi) (cutV vs lo hi):=by
 unfold cutW cutV
 rw[h.len]
 exact (h.drop _).take _
def aW:Env'->M (Option Int):=fun _=>pr none
def mPart (f:Env'->M W):Env'->M (Option Int):=fun ρ=>bd (f ρ) fun w=>match w with
 |.int i=>pr (some i)
 |_=>no
noncomputable abbrev tP (c:Cg)(f:Env'->M (Option Int)):TO:=tG c (fun _ a b=>a=b) f
structure JO (X:Cx)(E:XK)(e:Option Expr)(f:Env'->M (Option Int)):Prop where
 h:PO X e (tP (cg X E) f)
theorem PO.imp {e:Option Expr}{t:TO}{f:Env'->M (Option Int)}(h:PO X e t)(k:∀σ H Q,tP (cg X E) f σ H Q->t σ H Q):JO X E e f:=⟨fun pins s σ H Q I q=>h pins s σ H Q I (k σ H Q q)⟩
theorem fJ:JO X E none aW:=po_none.imp fun σ H Q h=>by
 obtain⟨o,ρ,rfl,R,S,h⟩:=h
 exact h.pr R rfl
theorem fI {e:Expr}{f:Env'->M W}(he:JE X E e f):JO X E (some e) (mPart f):=(qJ he.h).imp fun σ H Q h=>by
 obtain⟨o,ρ,rfl,R,S,h⟩:=h
 refine⟨o,ρ,rfl,R,S,Ps.bd h fun p x vx e1 R1 r1 h1=>?_⟩
 cases x with
 |int i=>exact⟨i,rv_int.mp r1,h1.pr R1 rfl⟩
 |_=>exact h1.elim
def slW (x:W)(lo hi:Option Int):M W:=match x with
 |.str z=>gd (z.length<=sizeLine) (pr (.str (StrLaws.sliceText z lo hi)))
 |.tup l=>gd (¬(HT.sIx l.length 0 lo=0/\HT.sIx l.length l.length hi=l.length)) (pr (.tup (cutW l lo hi)))
 |x=>bd (lstOf x) fun l=>pr (.tl (cutW l lo hi))
def m3 (f:W->Option Int->Option Int->M W)(fa:Env'->M W)(fl fh:Env'->M (Option Int)):Env'->M W:=fun ρ=>bd (fa ρ) fun x=>bd (fl ρ) fun a=>bd (fh ρ) fun b=>f x a b
theorem kB {e:Expr}{lo hi:Option Expr}{p2 pos:Pos}{fa:Env'->M W}{fl fh:Env'->M (Option Int)}(he:JE X E e fa)(hl:JO X E lo fl)(hh:JO X E hi fh):
  JE X E (.Subscript e (.Slice lo hi none p2) pos) (m3 slW fa fl fh):=(oW (sl_str.or (sl_tup.or qu)) he.h hl.h hh.h).imp fun σ H Q h=>by
 obtain⟨o,ρ,rfl,R,S,h⟩:=h
 refine⟨o,ρ,rfl,R,S,Ps.bd h fun p x vx e1 R1 r1 h1=>⟨p,ρ,rfl,R1,S.mono R e1,Ps.bd h1 fun q a va e2 R2 r2 h2=>⟨q,ρ,rfl,R2,(S.mono R e1).mono R1 e2,Ps.bd h2 fun w b vb e3 R3 r3 h3=>?_⟩⟩⟩
 subst r2 r3
 have rx:=(r1.mono R1 e2).mono R2 e3
 unfold slW at h3
 split at h3
 ·obtain⟨hz,h3⟩:=h3.gd
  exact .inl ⟨_,rv_str.mp rx,hz,h3.pr R3 (rv_str.mpr rfl)⟩
 ·obtain⟨hz,h3⟩:=h3.gd
  unfold Rv at rx
  obtain⟨a',vs,rfl,s,r⟩:=rx
  refine .inr (.inl ⟨a',vs,rfl,s,by rw[r.len];exact hz,fun q' hq=>jn R3 hq (r.cut _ _) h3⟩)
 ·obtain⟨l,a',vs,rfl,s,r,h3⟩:=bZ R3 rx h3
  exact .inr (.inr ⟨a',vs,rfl,s,fun q' hq=>fx R3 hq (r.cut _ _) h3⟩)
def mCall (f:List W->M W)(l:Env'->M (List W)):Env'->M W:=fun ρ=>bd (l ρ) f
def CallM (X:Cx)(E:XK)(r:List V->Hp->VK->Prop)(f:List W->M W):Prop:= ∀ (o:Wo) (ws:List W) (vs:List V) (Q:VK),Rel X.K o->Rvs X.K o ws vs->Ps (cg X E) (Rv X.K) o (f ws o.h) Q->r vs o.H Q
variable {x:Str}{p pos:Pos}{e:Expr}{es:List Expr}{l:Env'->M (List W)}{f:List W->M W}{r:List V->Hp->VK->Prop}{id T:String}
theorem rT (hf:CallM X E r f){σ:St}{H:Hp}{Q:VK}(h:tM (cg X E) (mCall f l) σ H Q):tCB r (tA (cg X E) l) σ H Q:=by
 obtain⟨o,ρ,rfl,R,S,h⟩:=h
 exact⟨o,ρ,rfl,R,S,Ps.bd h fun p x vx e1 R1 r1 h1=>hf p x vx Q R1 r1 h1⟩
theorem d0 (hc:CallR X (.builtin id) r)(hf:CallM X E r f)(hg:Gl X x)(hm:X.mg x=none)(hv:bootBuiltins x=some (.builtin id))(ha:JA X E (e::es) l)(hn:x≠ "__name__":=by decide)(hdb:(x==("__debug__":Str))=false:=by decide)
  (he:starEach (e::es) X.env=(false,eval e X.env)::starEach es X.env:=by rfl)(hpl:(backTo pos (starEach es X.env)).any (·.1)=false:=by rfl):JE X E (.Call (.Name x p) (e::es) [] pos) (mCall f l):=
 (o4 hc hg hm hv ha.h hn hdb he hpl).imp fun _ _ _ h=>rT hf h
theorem nJ (hc:CallR X (.type T) r)(hf:CallM X E r f)(hg:Gl X x)(hm:X.mg x=none)(hv:bootBuiltins x=some (.type T))(ha:JA X E (e::es) l)(hn:x≠ "__name__":=by decide)(hdb:(x==("__debug__":Str))=false:=by decide)
  (he:starEach (e::es) X.env=(false,eval e X.env)::starEach es X.env:=by rfl)(hpl:(backTo pos (starEach es X.env)).any (·.1)=false:=by rfl):JE X E (.Call (.Name x p) (e::es) [] pos) (mCall f l):=
 (iU hc hg hm hv ha.h hn hdb he hpl).imp fun _ _ _ h=>rT hf h
variable {CX:CXT}{k:Nat}{fA:Addr}{fd:FuncData}{ps:List Str}
end
end L2
set_option maxHeartbeats 1000000
namespace L2
open PySem PySem.Spec PyProof.Rows
inductive Fl where
 |nx (r:Env')|bk (r:Env')|ct (r:Env')|rt (w:W)
inductive FlV where
 |nx (s:St)|bk (s:St)|ct (s:St)|rt (v:V)
def RFl (K:PySem.W.Frag)(o:Wo):Fl->FlV->Prop
 |.nx r,f=> ∃s,f=.nx s/\Re K o r s
 |.bk r,f=> ∃s,f=.bk s/\Re K o r s
 |.ct r,f=> ∃s,f=.ct s/\Re K o r s
 |.rt w,f=> ∃v,f=.rt v/\Rv K o w v
def DQ (D:Ends):FlV->Hp->Prop
 |.nx s,H=>D.nx s H
 |.bk s,H=>D.bk s H
 |.ct s,H=>D.ct s H
 |.rt v,H=>D.rt v H
def tS (c:Cg)(g:Env'->M Fl):TS:=fun D σ H=>tG c (RFl c.K) g σ H (DQ D)
structure JS (X:Cx)(E:XK)(e:Stmt)(f:Env'->M Fl):Prop where
 h:PS X e (tS (cg X E) f)
structure JSs (X:Cx)(E:XK)(e:List Stmt)(f:Env'->M Fl):Prop where
 h:PSs X e (tS (cg X E) f)
theorem PSs.imp {X:Cx}{E:XK}{e:List Stmt}{t:TS}{f:Env'->M Fl}(h:PSs X e t)(k:∀D σ H,tS (cg X E) f D σ H->t D σ H):JSs X E e f:=⟨fun pins s σ H D I q=>h pins s σ H D I (k D σ H q)⟩
theorem PS.imp {X:Cx}{E:XK}{e:Stmt}{t:TS}{f:Env'->M Fl}(h:PS X e t)(k:∀D σ H,tS (cg X E) f D σ H->t D σ H):JS X E e f:=⟨fun pins s σ H D I q=>h pins s σ H D I (k D σ H q)⟩
theorem aa {α β γ:Type}(a:M α)(b:α->M β)(d:β->M γ):bd (bd a b) d=bd a fun x=>bd (b x) d:=by
 funext h
 unfold bd
 cases a h<;>rfl
section
variable {X:Cx}{E:XK}{pos:Pos}
def sNil:Env'->M Fl:=fun ρ=>pr (.nx ρ)
def sSeq (f g:Env'->M Fl):Env'->M Fl:=fun ρ=>bd (f ρ) fun x=>match x with
 |.nx r=>g r
 |x=>pr x
theorem aL:JSs X E [] sNil:=pss_nil.imp fun D σ H h=>by
 obtain⟨o,ρ,rfl,R,S,h⟩:=h
 exact h.pr R ⟨σ,rfl,S⟩
theorem so {f g:Env'->M Fl}{D:Ends}{σ:St}{H:Hp}(h:tS (cg X E) (sSeq f g) D σ H):tSeq (tS (cg X E) f) (tS (cg X E) g) D σ H:=by
 obtain⟨o,ρ,rfl,R,S,h⟩:=h
 refine⟨o,ρ,rfl,R,S,Ps.bd h fun p x b e1 R1 r1 h1=>?_⟩
 cases x with
 |nx r=>obtain⟨s,rfl,re⟩:=r1;exact⟨p,r,rfl,R1,re,h1⟩
 |bk r=>have q:=h1.pr R1 r1;obtain⟨s,rfl,re⟩:=r1;exact q
 |ct r=>have q:=h1.pr R1 r1;obtain⟨s,rfl,re⟩:=r1;exact q
 |rt r=>have q:=h1.pr R1 r1;obtain⟨s,rfl,re⟩:=r1;exact q
theorem ai {st:Stmt}{rest:List Stmt}{f g:Env'->M Fl}(h1:JS X E st f)(h2:JSs X E rest g):JSs X E (st::rest) (sSeq f g):=(oO h1.h h2.h).imp fun D σ H h=>so h
theorem ao {st:Stmt}{f:Env'->M Fl}(h1:JS X E st f):JSs X E [st] f:=⟨qG h1.h⟩
variable {e:Expr}{f:Env'->M W}
def sSet (i:Nat)(f:Env'->M W):Env'->M Fl:=fun ρ=>bd (f ρ) fun w=>pr (.nx (ρ.set i (some w)))
theorem az {i:Nat}{x:Str}{pos':Pos}(hN:X.N.Nodup)(hi:X.N[i]?=some x)(hx:Loc X.env.scope x)(he:JE X E e f)(hs:swapsWith e (some (.Name x pos')) pos.line X.env=pure false:=by rfl)(hf:X.fn x=true\/X.env.scope.names.lookup x=some .local :=by first|exact .inl rfl|exact .inr rfl|assumption):
  JS X E (.Assign [.Name x pos'] e pos) (sSet i f):=(sP hN hi hx he.h hs hf).imp fun D σ H h=>by
 obtain⟨o,ρ,rfl,R,S,h⟩:=h
 exact⟨o,ρ,rfl,R,S,Ps.bd h fun p x b e1 R1 r1 h1=>Ps.pr (b:=FlV.nx (σ.set i (some b))) h1 R1 ⟨_,rfl,(S.mono R e1).set r1 i⟩⟩
def sRet (f:Env'->M W):Env'->M Fl:=fun ρ=>bd (f ρ) fun w=>pr (.rt w)
theorem aE (he:JE X E e f):JS X E (.Return (some e) pos) (sRet f):=(sQ he.h).imp fun D σ H h=>by
 obtain⟨o,ρ,rfl,R,S,h⟩:=h
 exact⟨o,ρ,rfl,R,S,Ps.bd h fun p x b e1 R1 r1 h1=>Ps.pr (b:=FlV.rt b) h1 R1 ⟨_,rfl,r1⟩⟩
def sEx (f:Env'->M W):Env'->M Fl:=fun ρ=>bd (f ρ) fun _=>pr (.nx ρ)
theorem fH (he:JE X E e f)(hs:swapsWith e none pos.line X.env=pure false:=by rfl):JS X E (.Expr e pos) (sEx f):=(qH he.h hs).imp fun D σ H h=>by
 obtain⟨o,ρ,rfl,R,S,h⟩:=h
 exact⟨o,ρ,rfl,R,S,Ps.bd h fun p x b e1 R1 r1 h1=>Ps.pr (b:=FlV.nx σ) h1 R1 ⟨_,rfl,S.mono R e1⟩⟩
def sIf (t:Env'->M Bool)(f g:Env'->M Fl):Env'->M Fl:=fun ρ=>bd (t ρ) fun b=>if b=true then f ρ else g ρ
theorem bw {c:Expr}{a b:List Stmt}{t:Env'->M Bool}{f g:Env'->M Fl}(hc:JT X E c t)(ha:JSs X E a f)(hb:JSs X E b g):JS X E (.If c a b pos) (sIf t f g):=(uE hc.h ha.h hb.h).imp fun D σ H h=>by
 obtain⟨o,ρ,rfl,R,S,h⟩:=h
 refine⟨o,ρ,rfl,R,S,Ps.bd h fun p x vx e1 R1 r1 h1=>?_⟩
 subst r1
 cases x with
 |true=>exact iteT ⟨p,ρ,rfl,R1,S.mono R e1,h1⟩
 |false=>exact iteF ⟨p,ρ,rfl,R1,S.mono R e1,h1⟩
def sPass:Env'->M Fl:=fun ρ=>pr (.nx ρ)
def cx:Env'->M Fl:=fun ρ=>pr (.bk ρ)
def sCont:Env'->M Fl:=fun ρ=>pr (.ct ρ)
def oq (t:Env'->M Bool)(g:Env'->M Fl):Nat->Env'->M Fl
 |0,_=>no
 |n+1,ρ=>bd (t ρ) fun b=>if b=true then bd (g ρ) fun x=>match x with
   |.nx r=>oq t g n r
   |.ct r=>oq t g n r
   |.bk r=>pr (.nx r)
   |.rt w=>pr (.rt w)
  else pr (.nx ρ)
structure TgOk (K:PySem.W.Frag)(m:Nat)(g:TG)(t:W->Env'->Option Env'):Prop where
 ok: ∀ (o:Wo) (w:W) (v:V) (ρ ρ2:Env') (σ:St),Rv K o w v->Re K o ρ σ->t w ρ=some ρ2-> ∃σ2,(∀Q:St->Hp->Prop,Q σ2 o.H->g v σ o.H Q)/\Re K o ρ2 σ2/\σ2.drop m=σ.drop m/\σ2.length=σ.length
def tgN (i:Nat):W->Env'->Option Env':=fun w ρ=>some (ρ.set i (some w))
theorem aU {K:PySem.W.Frag}(m i:Nat)(h:i<m):TgOk K m (gName i) (tgN i):=⟨fun o w v ρ ρ2 σ rv re e=>by
 cases e
 exact⟨_,fun Q q=>q,re.set rv i,by rw[List.drop_set_of_lt h],by rw[List.length_set]⟩⟩
def gNs:List Nat->TGs
 |[]=>gNil
 |i::r=>gCons (gName i) (gNs r)
def setW:List Nat->List W->Env'->Option Env'
 |[],[],ρ=>some ρ
 |i::r,w::l,ρ=>setW r l (ρ.set i (some w))
 |_,_,_=>none
theorem rS {K:PySem.W.Frag}{m:Nat}{o:Wo}: ∀ (is:List Nat) (l:List W) (vs:List V) (ρ ρ2:Env') (σ:St),(∀i∈is,i<m)->Rvs K o l vs->Re K o ρ σ->setW is l ρ=some ρ2-> ∃σ2,(∀Q:St->Hp->Prop,Q σ2 o.H->gNs is vs σ o.H Q)/\Re K o ρ2 σ2/\σ2.drop m=σ.drop m/\σ2.length=σ.length
 |[],[],vs,ρ,ρ2,σ,_,rv,re,e=>by
  unfold Rvs at rv
  cases e
  exact⟨σ,fun Q q=>⟨rv,q⟩,re,rfl,rfl⟩
 |[],_::_,_,_,_,_,_,_,_,e=>by cases e
 |_::_,[],_,_,_,_,_,_,_,e=>by cases e
 |i::is,w::l,vs,ρ,ρ2,σ,hm,rv,re,e=>by
  unfold Rvs at rv
  obtain⟨v,r,rfl,h1,h2⟩:=rv
  obtain⟨σ2,a,b,c,d⟩:=rS is l r (ρ.set i (some w)) ρ2 (σ.set i (some v)) (fun j hj=>hm j (List.mem_cons_of_mem _ hj)) h2 (re.set h1 i) e
  refine⟨σ2,fun Q q=>⟨v,r,rfl,a Q q⟩,b,?_,?_⟩
  ·rw[c,List.drop_set_of_lt (hm i List.mem_cons_self)]
  ·rw[d,List.length_set]
def tgT (is:List Nat):W->Env'->Option Env':=fun w ρ=>match w with
 |.tup l=>setW is l ρ
 |_=>none
theorem jT: ∀ {is:List Nat}{l:List W}{ρ ρ2:Env'},setW is l ρ=some ρ2->l.length=is.length
 |[],[],_,_,_=>rfl
 |[],_::_,_,_,e=>by cases e
 |_::_,[],_,_,e=>by cases e
 |_::is,_::l,_,_,e=>by rw[List.length_cons,List.length_cons,jT (is:=is) (l:=l) e]
theorem dG {K:PySem.W.Frag}(m:Nat)(is:List Nat)(h:∀i∈is,i<m):TgOk K m (gTup K is.length (gNs is)) (tgT is):=⟨fun o w v ρ ρ2 σ rv re e=>by
 cases w with
 |tup l=>
  unfold Rv at rv
  obtain⟨a,vs,rfl,s,r⟩:=rv
  have e:setW is l ρ=some ρ2:=e
  obtain⟨σ2,a1,a2,a3,a4⟩:=rS is l vs ρ ρ2 σ h r re e
  exact⟨σ2,fun Q q=>⟨a,vs,rfl,s,by rw[r.len,jT e],a1 Q q⟩,a2,a3,a4⟩
 |_=>cases e⟩
open Classical in
def gdh {α:Type}(G:List Ob->Prop)(m:M α):M α:=fun h=>if G h then m h else .bad
theorem dL {α:Type}{G:List Ob->Prop}{m:M α}{h:List Ob}(q:G h):gdh G m h=m h:=by unfold gdh;rw[if_pos q]
theorem Ps.gdh {α β:Type}{c:Cg}{r:Wo->α->β->Prop}{o:Wo}{G:List Ob->Prop}{m:M α}{Q:β->Hp->Prop}(h:Ps c r o (gdh G m o.h) Q):G o.h/\Ps c r o (m o.h) Q:=by
 unfold L2.gdh at h
 by_cases q:G o.h
 ·rw[if_pos q] at h;exact⟨q,h⟩
 ·rw[if_neg q] at h;exact h.elim
structure Sr where
 l:List W
 G:List Ob->Prop
structure SrcOk (K:PySem.W.Frag)(o0:Wo)(J:It)(s:Sr):Prop where
 stop: ∀o,Ex o0 o->Rel K o->s.G o.h->J.stop s.l.length o.H
 go: ∀o i w,Ex o0 o->Rel K o->s.G o.h->s.l[i]?=some w->J.go i o.H/\ ∀x H',J.yld i o.H x H'-> ∃p,p.H=H'/\p.h=o.h/\Ex o p/\Rel K p/\Rv K p w x
def tI (c:Cg)(src:Env'->M Sr):TI:=fun σ H R=>tG c (fun p s J=>SrcOk c.K p J s) src σ H R
structure JI (X:Cx)(E:XK)(tg iter:Expr)(f:Env'->M Sr):Prop where
 h:PI X tg iter (tI (cg X E) f)
theorem PI.imp {tg iter:Expr}{t:TI}{f:Env'->M Sr}(h:PI X tg iter t)(k:∀σ H R,tI (cg X E) f σ H R->t σ H R):JI X E tg iter f:=⟨fun pins s σ H R I q=>h pins s σ H R I (k σ H R q)⟩
def srcL (w:W):M Sr:=match w with
 |.tl l=>pr ⟨l,fun _=>True⟩
 |.cl l=>pr ⟨l,fun _=>True⟩
 |.loc k=>fun h=>match h[k]? with
  |some (.lst l)=>.ok ⟨l,fun h=>h[k]?=some (.lst l)⟩ h
  |_=>.bad
 |_=>no
def mSrc (f:Env'->M W)(g:W->M Sr):Env'->M Sr:=fun ρ=>bd (f ρ) g
theorem gU {K:PySem.W.Frag}{o0:Wo}{a:Addr}{s:Sr}(h:∀o,Ex o0 o->Rel K o->s.G o.h-> ∃vs,SqL K o.H a vs/\Rvs K o s.l vs):SrcOk K o0 (Itl K a) s:=by
 refine⟨fun o X R g=>?_,fun o i w X R g e=>?_⟩
 ·obtain⟨vs,s,r⟩:=h o X R g
  exact⟨vs,s,Nat.le_of_eq r.len⟩
 ·obtain⟨vs,s,r⟩:=h o X R g
  obtain⟨v,hv,rv⟩:=r.get e
  refine⟨⟨vs,v,s,hv⟩,fun x H' y=>?_⟩
  obtain⟨rfl,y⟩:=y
  have:x=v:=by have:=y vs s;rw[hv] at this;exact (Option.some.inj this).symm
  subst this
  exact⟨o,rfl,rfl,Ex.refl _,R,rv⟩
theorem dc {tg l:Expr}{fl:Env'->M W}(hl:JE X E l fl):JI X E tg l (mSrc fl srcL):=(qM hl.h).imp fun σ H Q h=>by
 obtain⟨o,ρ,rfl,R,S,h⟩:=h
 refine⟨o,ρ,rfl,R,S,Ps.bd h fun p x vx e1 R1 r1 h1=>?_⟩
 cases x with
 |tl l=>
  have r1':=r1
  unfold Rv at r1
  obtain⟨a,vs,rfl,s,n,r⟩:=r1
  refine⟨a,rfl,⟨vs,.of s⟩,h1.pr R1 (gU fun o X R g=>?_)⟩
  exact⟨vs,.of (X.fr a _ s n).1,r.mono R1 X⟩
 |cl l=>
  unfold Rv at r1
  obtain⟨a,vs,rfl,s,r⟩:=r1
  have sq: ∀o,Ex p o->SqL X.K o.H a vs:=fun o X=>by
   rcases s with⟨s,n⟩|s
   ·exact .inl (X.rd s n).1
   ·exact .inr s
  exact⟨a,rfl,⟨vs,sq p (Ex.refl _)⟩,h1.pr R1 (gU fun o X R g=>⟨vs,sq o X,r.mono R1 X⟩)⟩
 |loc k=>
  unfold Rv at r1
  obtain⟨hk,rfl⟩:=r1
  unfold srcL at h1
  dsimp only at h1
  split at h1
  ·rename_i l hl
   obtain⟨vs,h3,h4⟩:=R1.ob k _ hl
   refine⟨_,rfl,⟨vs,.of h3⟩,Ps.at (p:=p) h1 rfl (Ex.refl _) R1 (gU fun o X R g=>?_)⟩
   obtain⟨vs',h5,h6⟩:=R.ob k _ g
   rw[X.mu k hk] at h5
   exact⟨vs',.of h5,h6⟩
  ·exact h1.elim
 |_=>exact h1.elim
def srcT (w:W):M Sr:=match w with
 |.tup l=>pr ⟨l,fun _=>True⟩
 |_=>no
theorem eY {tg l:Expr}{fl:Env'->M W}(hl:JE X E l fl):JI X E tg l (mSrc fl srcT):=(sT hl.h).imp fun σ H Q h=>by
 obtain⟨o,ρ,rfl,R,S,h⟩:=h
 refine⟨o,ρ,rfl,R,S,Ps.bd h fun p x vx e1 R1 r1 h1=>?_⟩
 cases x with
 |tup l=>
  unfold Rv at r1
  obtain⟨a,vs,rfl,s,r⟩:=r1
  refine⟨a,rfl,⟨vs,s⟩,h1.pr R1 ⟨fun o X R g=>⟨vs,X.rdT R1 s,Nat.le_of_eq r.len⟩,fun o i w X R g e=>?_⟩⟩
  obtain⟨v,hv,rv⟩:=(r.mono R1 X).get e
  have sq:=X.rdT R1 s
  refine⟨⟨vs,v,sq,hv⟩,fun x H' y=>?_⟩
  obtain⟨rfl,y⟩:=y
  have:x=v:=by have:=y vs sq;rw[hv] at this;exact (Option.some.inj this).symm
  subst this
  exact⟨o,rfl,rfl,Ex.refl _,R,rv⟩
 |_=>exact h1.elim
noncomputable def intsW (lo:Int):Nat->List W
 |0=>[]
 |n+1=>.int lo::intsW (lo+1) n
theorem ci: ∀ (n:Nat) (lo:Int),(intsW lo n).length=n
 |0,_=>rfl
 |n+1,lo=>by rw[intsW,List.length_cons,ci n]
theorem du: ∀ (n:Nat) (lo:Int) (i:Nat) (w:W),(intsW lo n)[i]?=some w->w=.int (lo+i)/\i<n
 |0,_,_,_,h=>by simp [intsW] at h
 |n+1,lo,0,w,h=>by rw[intsW] at h;cases h;exact⟨by simp,Nat.succ_pos _⟩
 |n+1,lo,i+1,w,h=>by
  rw[intsW,List.getElem?_cons_succ] at h
  obtain⟨e,l⟩:=du n (lo+1) i w h
  exact⟨by rw[e];congr 1;omega,by omega⟩
theorem iR {K:PySem.W.Frag}{o0:Wo}{lo:Int}{n:Nat}:SrcOk K o0 (Itr lo n) ⟨intsW lo n,fun _=>True⟩:=by
 refine⟨fun o X R g=>?_,fun o i w X R g e=>?_⟩
 ·show n<=(intsW lo n).length
  rw[ci];exact Nat.le_refl _
 ·obtain⟨rfl,hi⟩:=du n lo i w e
  refine⟨hi,fun x H' y=>?_⟩
  obtain⟨rfl,rfl⟩:=y
  exact⟨o,rfl,rfl,Ex.refl _,R,rv_int.mpr rfl⟩
def rng1 (l:List W):M Sr:=match l with
 |[.int j]=>gd (-(2 ^ 62)<=j/\j<2 ^ 62) (pr ⟨intsW 0 j.toNat,fun _=>True⟩)
 |_=>no
def rng2 (l:List W):M Sr:=match l with
 |[.int i,.int j]=>gd (-(2 ^ 62)<=i/\i<2 ^ 62/\ -(2 ^ 62)<=j/\j<2 ^ 62) (pr ⟨intsW i (j - i).toNat,fun _=>True⟩)
 |_=>no
def mSrcA (f:Env'->M (List W))(g:List W->M Sr):Env'->M Sr:=fun ρ=>bd (f ρ) g
theorem gj {tg a:Expr}{p pos:Pos}{fl:Env'->M (List W)}(hg:Gl X "range")(hm:X.mg "range"=none)(ha:JA X E [a] fl)(hs:starEach [a] X.env=[(false,eval a X.env)]:=by rfl):JI X E tg (.Call (.Name "range" p) [a] [] pos) (mSrcA fl rng1):=
 (nB hg hm ha.h hs).imp fun σ H Q h=>by
 obtain⟨o,ρ,rfl,R,S,h⟩:=h
 refine⟨o,ρ,rfl,R,S,Ps.bd h fun p x vx e1 R1 r1 h1=>?_⟩
 unfold rng1 at h1
 split at h1
 ·obtain⟨hz,h1⟩:=h1.gd
  unfold Rvs Rvs at r1
  obtain⟨v,r,rfl,a1,rfl⟩:=r1
  exact⟨_,by rw[rv_int.mp a1],hz.1,hz.2,h1.pr R1 iR⟩
 ·exact h1.elim
theorem iY {tg a b:Expr}{p pos:Pos}{fl:Env'->M (List W)}(hg:Gl X "range")(hm:X.mg "range"=none)(ha:JA X E [a,b] fl)(hs:starEach [a,b] X.env=[(false,eval a X.env),(false,eval b X.env)]:=by rfl)(hs2:starEach [b] X.env=[(false,eval b X.env)]:=by rfl):
  JI X E tg (.Call (.Name "range" p) [a,b] [] pos) (mSrcA fl rng2):=(nA hg hm ha.h hs hs2).imp fun σ H Q h=>by
 obtain⟨o,ρ,rfl,R,S,h⟩:=h
 refine⟨o,ρ,rfl,R,S,Ps.bd h fun p x vx e1 R1 r1 h1=>?_⟩
 unfold rng2 at h1
 split at h1
 ·obtain⟨hz,h1⟩:=h1.gd
  unfold Rvs Rvs Rvs at r1
  obtain⟨v,r,rfl,a1,v',r',rfl,a2,rfl⟩:=r1
  exact⟨_,_,by rw[rv_int.mp a1,rv_int.mp a2],hz,h1.pr R1 iR⟩
 ·exact h1.elim
def forM (G:List Ob->Prop)(t:W->Env'->Option Env')(g:Env'->M Fl):List W->Env'->M Fl
 |[],ρ=>gdh G (pr (.nx ρ))
 |w::l,ρ=>gdh G (match t w ρ with
  |none=>no
  |some r=>bd (g r) fun x=>match x with
   |.nx r'=>forM G t g l r'
   |.ct r'=>forM G t g l r'
   |.bk r'=>pr (.nx r')
   |.rt v=>pr (.rt v))
def sFor (src:Env'->M Sr)(t:W->Env'->Option Env')(g:Env'->M Fl):Env'->M Fl:=fun ρ=>bd (src ρ) fun s=>forM s.G t g s.l ρ
theorem bF {tg iter:Expr}{body:List Stmt}{src:Env'->M Sr}{t:W->Env'->Option Env'}{gT:TG}{g:Env'->M Fl}{m:Nat}(hp:PassesOwn (model X.prog X.w) X.A X.env X.xe)(hc:X.calm=true)(hi:JI X E tg iter src)(hg:PG X tg gT)(ht:TgOk X.K m gT t)(hb:JSs X E body g)
  (hs: ∀x,foldedSetIterable iter X.env x=pure x:=by intro _;rfl):JS X E (.For tg iter body [] pos) (sFor src t g):=(sR hp hc hi.h hg hb.h hs).imp fun D σ H h=>by
 obtain⟨o,ρ,rfl,R,S,h⟩:=h
 refine⟨o,ρ,rfl,R,S,Ps.bd h fun o1 s J e1 R1 sk h1=>?_⟩
 refine⟨fun i n σ H=>n=s.l.length - i/\i<=s.l.length/\ ∃o ρ,o.H=H/\Ex o1 o/\Rel X.K o/\Re X.K o ρ σ/\Ps (cg X E) (RFl X.K) o (forM s.G t g (s.l.drop i) ρ o.h) (DQ D),⟨_,rfl,Nat.zero_le _,o1,ρ,rfl,Ex.refl _,R1,S.mono R e1,h1⟩,?_⟩
 rintro i n σ H ⟨rfl,hi,o,ρ,rfl,X1,R,S,h⟩
 by_cases hlt:i<s.l.length
 ·obtain⟨w,hw⟩: ∃w,s.l[i]?=some w:=⟨_,List.getElem?_eq_getElem hlt⟩
  have hd:s.l.drop i=w::s.l.drop (i+1):=by
   rw[List.drop_eq_getElem_cons hlt]
   rw[List.getElem?_eq_getElem hlt] at hw
   rw[Option.some.inj hw]
  rw[hd] at h
  unfold forM at h
  obtain⟨hG,h⟩:=h.gdh
  obtain⟨hgo,hy⟩:=sk.go o i w X1 R hG hw
  refine .inr ⟨hgo,fun σ' H'=> ∃o ρ,o.H=H'/\Ex o1 o/\Rel X.K o/\Re X.K o ρ σ'/\Ps (cg X E) (RFl X.K) o (forM s.G t g (s.l.drop (i+1)) ρ o.h) (DQ D),fun σ' H' q=>⟨_,by omega,rfl,hlt,q⟩,fun x H' y=>?_⟩
  obtain⟨p,rfl,eh,X2,R2,rv⟩:=hy x H' y
  cases et:t w ρ with
  |none=>rw[et] at h;exact h.elim
  |some r=>
   rw[et] at h
   obtain⟨σ2,k1,k2,_,_⟩:=ht.ok p w x ρ r σ rv (S.mono R X2) et
   refine k1 _ ?_
   have h2:Ps (cg X E) (RFl X.K) p (bd (g r) (fun x=>match x with
    |.nx r'=>forM s.G t g (s.l.drop (i+1)) r'
    |.ct r'=>forM s.G t g (s.l.drop (i+1)) r'
    |.bk r'=>pr (.nx r')
    |.rt v=>pr (.rt v)) p.h) (DQ D):=by rw[eh];exact h.after X2
   refine⟨p,r,rfl,R2,k2,Ps.bd h2 fun q x b e3 R3 r3 h3=>?_⟩
   cases x with
   |nx r=>obtain⟨s',rfl,re⟩:=r3;exact⟨q,r,rfl,(X1.trans X2).trans e3,R3,re,h3⟩
   |ct r=>obtain⟨s',rfl,re⟩:=r3;exact⟨q,r,rfl,(X1.trans X2).trans e3,R3,re,h3⟩
   |bk r=>obtain⟨s',rfl,re⟩:=r3;exact h3.pr R3 (b:=.nx s') ⟨s',rfl,re⟩
   |rt w=>obtain⟨v,rfl,rv⟩:=r3;exact h3.pr R3 (b:=.rt v) ⟨v,rfl,rv⟩
 ·have e:i=s.l.length:=by omega
  subst e
  rw[List.drop_length] at h
  unfold forM at h
  obtain⟨hG,h⟩:=h.gdh
  exact .inl ⟨sk.stop o X1 R hG,Ps.pr (b:=FlV.nx σ) h R ⟨σ,rfl,S⟩⟩
end
end L2
set_option maxHeartbeats 1000000
namespace L2
open PySem PySem.Spec PyProof.Rows
section
variable {X:Cx}{E:XK}{pos:Pos}
def compM (G:List Ob->Prop)(t:W->Env'->Option Env')(f:Env'->M Bool)(e:Env'->M W)(n:Nat):List W->Env'->M (List W)
 |[],ρ=>gdh G (pr [])
 |w::l,ρ=>gdh G (match t w (List.replicate n none++ρ) with
  |none=>no
  |some r=>bd (f r) fun b=>if b=true then bd (e r) fun x=>bd (compM G t f e n l ρ) fun m=>pr (x::m) else compM G t f e n l ρ)
def mComp (hs:List Nat)(src:Env'->M Sr)(t:W->Env'->Option Env')(f:Env'->M Bool)(e:Env'->M W)(n:Nat):Env'->M (List W):=fun ρ=>
 gd ((hs.all fun i=>(ρ[i]?.join).isNone)=true) (bd (src ρ) fun s=>gd (s.l.length<=sizeLine) (compM s.G t f e n s.l ρ))
variable {elt iter tg:Expr}{ifs:List Expr}{scope:Scope}{ls:List Str}{gT:TG}{t:W->Env'->Option Env'}{f:Env'->M Bool}{e:Env'->M W}{src:Env'->M Sr}{hs:List Nat}{wh:Prop}
theorem qt (ht:TgOk X.K ls.length gT t){σ:St}{H:Hp}{Q:VK}(h:tF (cg X E) (mComp hs src t f e ls.length) σ H Q):tComp X.N ls (tI (cg X E) src) gT (tT (cg X E) f) (tM (cg X E) e) σ H Q:=by
 obtain⟨o,ρ,rfl,R,S,h⟩:=h
 unfold mComp at h
 obtain⟨h0,h⟩:=h.gd
 refine⟨rfl,o,ρ,rfl,R,S,Ps.bd h fun o1 s J e1 R1 sk h1=>?_⟩
 obtain⟨hz,h1⟩:=h1.gd
 have S1:=S.mono R e1
 refine⟨fun i n ys H=>n=s.l.length - i/\i<=s.l.length/\ ∃o acc,o.H=H/\Ex o1 o/\Rel X.K o/\Rvs X.K o acc ys/\acc.length<=i/\Ps (cg X E) (Rvs X.K) o (bd (compM s.G t f e ls.length (s.l.drop i) ρ) (fun m=>pr (acc++m)) o.h) (fun vs H1=> ∀q,H1 q=none->Q (.ref q) (upd H1 q (.lst vs))),
  ⟨_,rfl,Nat.zero_le _,o1,[],rfl,Ex.refl _,R1,Rvs.nil,Nat.le_refl _,?_⟩,?_⟩
 ·have:bd (compM s.G t f e ls.length (s.l.drop 0) ρ) (fun m=>pr ([]++m))=compM s.G t f e ls.length s.l ρ:=by
   funext h
   rw[List.drop_zero]
   unfold bd
   cases compM s.G t f e ls.length s.l ρ h<;>rfl
  rw[this];exact h1
 rintro i n ys H ⟨rfl,hi,o,acc,rfl,X1,R,A,ha,h⟩
 have S2:=S1.mono R1 X1
 have gs: ∀ {α β γ:Type}{r:Wo->β->γ->Prop}{m:M α}{k:α->M β}{Q':γ->Hp->Prop},Ps (cg X E) r o (bd (gdh s.G m) k o.h) Q'->s.G o.h/\Ps (cg X E) r o (bd m k o.h) Q':=fun{α β γ r m k Q'} q=>by
  have:bd (gdh s.G m) k o.h=gdh s.G (bd m k) o.h:=by
   unfold bd L2.gdh
   by_cases z:s.G o.h
   ·simp only[if_pos z]
   ·simp only[if_neg z]
  rw[this] at q
  exact q.gdh
 by_cases hlt:i<s.l.length
 ·obtain⟨w,hw⟩: ∃w,s.l[i]?=some w:=⟨_,List.getElem?_eq_getElem hlt⟩
  have hd:s.l.drop i=w::s.l.drop (i+1):=by
   rw[List.drop_eq_getElem_cons hlt]
   rw[List.getElem?_eq_getElem hlt] at hw
   rw[Option.some.inj hw]
  rw[hd] at h
  unfold compM at h
  obtain⟨hG,h⟩:=gs h
  obtain⟨hgo,hy⟩:=sk.go o i w X1 R hG hw
  refine .inr ⟨hgo,fun ys' H'=> ∃o acc,o.H=H'/\Ex o1 o/\Rel X.K o/\Rvs X.K o acc ys'/\acc.length<=i+1/\Ps (cg X E) (Rvs X.K) o (bd (compM s.G t f e ls.length (s.l.drop (i+1)) ρ) (fun m=>pr (acc++m)) o.h) (fun vs H1=> ∀q,H1 q=none->Q (.ref q) (upd H1 q (.lst vs))),fun ys' H' q=>⟨_,by omega,rfl,hlt,q⟩,fun x H' y=>?_⟩
  obtain⟨p,rfl,eh,X2,R2,rv⟩:=hy x H' y
  cases et:t w (List.replicate ls.length none++ρ) with
  |none=>rw[et] at h;exact h.elim
  |some r=>
   rw[et] at h
   obtain⟨σ2,k1,k2,k3,k4⟩:=ht.ok p w x _ r (List.replicate ls.length none++σ) rv ((S2.mono R X2).front _) et
   refine k1 _ ⟨?_,?_,?_⟩
   ·rw[k3,List.drop_left' (by rw[List.length_replicate])]
   ·rw[k4,List.length_append,List.length_replicate]
   have h2:Ps (cg X E) (Rvs X.K) p (bd (f r) (fun b=>bd (if b=true then bd (e r) fun x=>bd (compM s.G t f e ls.length (s.l.drop (i+1)) ρ) fun m=>pr (x::m) else compM s.G t f e ls.length (s.l.drop (i+1)) ρ) fun m=>pr (acc++m)) p.h) (fun vs H1=> ∀q,H1 q=none->Q (.ref q) (upd H1 q (.lst vs))):=by
    rw[eh]
    rw[aa] at h
    exact h.after X2
   refine⟨p,r,rfl,R2,k2,Ps.bd h2 fun q b vb e3 R3 r3 h3=>?_⟩
   subst r3
   have A3:=(A.mono R X2).mono R2 e3
   cases b with
   |false=>
    exact iteF ⟨q,acc,rfl,(X1.trans X2).trans e3,R3,A3,by omega,h3⟩
   |true=>
    rw[if_pos rfl,aa] at h3
    refine iteT ⟨q,r,rfl,R3,k2.mono R2 e3,Ps.bd h3 fun q2 x vx e4 R4 r4 h4=>⟨?_,q2,acc++[x],rfl,((X1.trans X2).trans e3).trans e4,R4,(A3.mono R3 e4).app (Rvs.cons r4 Rvs.nil),?_,?_⟩⟩
    ·rw[(A3.mono R3 e4).len];omega
    ·rw[List.length_append,List.length_singleton];omega
    ·rw[aa] at h4
     have ee:(fun m=>bd (pr (x::m)) fun m=>pr (acc++m))=(fun m:List W=>(pr (acc++[x]++m):M (List W))):=by
      funext m h
      show Rs.ok (acc++(x::m)) h=Rs.ok (acc++[x]++m) h
      rw[List.append_assoc];rfl
     rw[ee] at h4
     exact h4
 ·have ei:i=s.l.length:=by omega
  subst ei
  rw[List.drop_length] at h
  unfold compM at h
  obtain⟨hG,h⟩:=gs h
  have h:Ps (cg X E) (Rvs X.K) o (pr (acc++[]) o.h) (fun vs H1=> ∀q,H1 q=none->Q (.ref q) (upd H1 q (.lst vs))):=h
  rw[List.append_nil] at h
  exact .inl ⟨sk.stop o X1 R hG,h.pr R A⟩
structure JQ (X:Cx)(E:XK)(ifs:List Expr)(f:Env'->M Bool):Prop where
 h:PIfs X ifs (tT (cg X E) f)
def mYes:Env'->M Bool:=fun _=>pr true
theorem cP:JQ X E [] mYes:=⟨fun pins s σ H Q I h=>qL pins s σ H Q I (by
 obtain⟨o,ρ,rfl,R,S,h⟩:=h
 exact Ps.pr (b:=true) h R rfl)⟩
theorem ml {c:Expr}(h:JT X E c f):JQ X E [c] f:=⟨qK h.h⟩
theorem bY (hcalm:X.calm=true)(S:CScope X ls scope)(hi:JI X E tg iter src)(hg: ∀C s2 H2 fp,PG (cxC X ls scope C s2 H2 fp) tg gT)(ht:TgOk X.K ls.length gT t)
  (hf: ∀C s2 H2 fp,JQ (cxC X ls scope C s2 H2 fp) E ifs f)(he: ∀C s2 H2 fp,JE (cxC X ls scope C s2 H2 fp) E elt e)(hh:wh)
  (hs': ∀x,foldedSetIterable iter X.env x=pure x:=by intro _;rfl):JF X E (.ListComp elt [⟨tg,iter,ifs,0⟩] scope pos) (mComp hs src t f e ls.length):=
 (qP hcalm S hi.h hg (fun C s2 H2 fp=>(hf C s2 H2 fp).h) (fun C s2 H2 fp=>(he C s2 H2 fp).h) hs').impF fun σ H Q h=>qt ht h
end
end L2
set_option maxHeartbeats 1000000
namespace L2
open PySem PySem.Spec PyProof.Rows
section
variable {X:Cx}{E:XK}{pos p:Pos}{a b:Expr}{l:Env'->M (List W)}
theorem Rvs.one {K:PySem.W.Frag}{o:Wo}{w:W}{vs:List V}(h:Rvs K o [w] vs): ∃v,vs=[v]/\Rv K o w v:=by
 unfold Rvs Rvs at h;obtain⟨v,r,rfl,h1,rfl⟩:=h;exact⟨v,rfl,h1⟩
theorem Rvs.two {K:PySem.W.Frag}{o:Wo}{w x:W}{vs:List V}(h:Rvs K o [w,x] vs): ∃v u,vs=[v,u]/\Rv K o w v/\Rv K o x u:=by
 unfold Rvs Rvs Rvs at h;obtain⟨v,r,rfl,h1,u,r2,rfl,h2,rfl⟩:=h;exact⟨v,u,rfl,h1,h2⟩
def lenW (ws:List W):M W:=match ws with
 |[.str z]=>gd (z.length<=sizeLine) (pr (.int z.length))
 |[.tup l]=>pr (.int l.length)
 |[w]=>bd (lstOf w) fun l=>pr (.int l.length)
 |_=>no
theorem ub:CallM X E (fun xs H Q=>(fun xs H Q=> ∃z,xs=[.str z]/\z.length<=sizeLine/\Q (.int z.length) H) xs H Q\/(fun xs H Q=> ∃p ys,xs=[.ref p]/\(SqL X.K H p ys\/SqT X.K H p ys)/\Q (.int ys.length) H) xs H Q) lenW:=by
 intro o ws vs Q R rv h
 unfold lenW at h
 split at h
 ·obtain⟨v,rfl,r⟩:=rv.one
  obtain⟨hz,h⟩:=h.gd
  exact .inl ⟨_,by rw[rv_str.mp r],hz,h.pr R (rv_int.mpr rfl)⟩
 ·obtain⟨v,rfl,r⟩:=rv.one
  unfold Rv at r
  obtain⟨a,us,rfl,s,r⟩:=r
  exact .inr ⟨a,us,rfl,.inr s,by rw[r.len];exact h.pr R (rv_int.mpr rfl)⟩
 ·obtain⟨v,rfl,r⟩:=rv.one
  obtain⟨l,a,us,rfl,s,r,h⟩:=bZ R r h
  exact .inr ⟨a,us,rfl,.inl s,by rw[r.len];exact h.pr R (rv_int.mpr rfl)⟩
 ·exact h.elim
theorem dZ (hm:X.mg "len"=none)(ha:JA X E [a] l)(hg:Gl X "len":=by rfl)(he:starEach [a] X.env=(false,eval a X.env)::starEach [] X.env:=by rfl)(hpl:(backTo pos (starEach [] X.env)).any (·.1)=false:=by rfl):JE X E (.Call (.Name "len" p) [a] [] pos) (mCall lenW l):=
 d0 (call_len_str.or jK) ub hg hm PySem.boot_len ha (he:=he) (hpl:=hpl)
def absW (ws:List W):M W:=match ws with
 |[.int i]=>pr (.int (if i<0 then -i else i))
 |_=>no
noncomputable def iOf:W->Option Int
 |.int i=>some i
 |_=>none
noncomputable def bOf:W->Option Bool
 |.bl i=>some i
 |_=>none
theorem eC {K:PySem.W.Frag}{o:Wo}{α:Type}{f:W->Option α}{g:α->V}(hf: ∀w a v,f w=some a->Rv K o w v->v=g a): ∀ {l:List W}{xs:List α}{vs:List V},optL f l=some xs->Rvs K o l vs->vs=xs.map g
 |[],xs,vs,e,h=>by unfold Rvs at h;cases e;exact h
 |w::l,xs,vs,e,h=>by
  unfold Rvs at h
  obtain⟨v,r,rfl,h1,h2⟩:=h
  unfold optL at e
  split at e
  ·rename_i d ds e1 e2
   cases e
   rw[hf w d v e1 h1,eC hf e2 h2];rfl
  ·cases e
theorem jF {K:PySem.W.Frag}{o:Wo}: ∀ (w:W) (a:Int) (v:V),iOf w=some a->Rv K o w v->v=.int a:=fun w a v e h=>by
 cases w<;>first|(cases e;exact rv_int.mp h)|cases e
theorem ue {K:PySem.W.Frag}{o:Wo}: ∀ (w:W) (a:Bool) (v:V),bOf w=some a->Rv K o w v->v=.bl a:=fun w a v e h=>by
 cases w<;>first|(cases e;exact rv_bl.mp h)|cases e
def sumW (ws:List W):M W:=match ws with
 |[w]=>bd (lstOf w) fun l=>match optL iOf l with
  |some ns=>pr (.int ns.sum)
  |none=>no
 |_=>no
def allW (ws:List W):M W:=match ws with
 |[w]=>bd (lstOf w) fun l=>match optL bOf l with
  |some ns=>pr (.bl (ns.all id))
  |none=>no
 |_=>no
theorem tL (hc:X.calm=true)(hm:X.mg "all"=none)(ha:JA X E [a] l)(hg:Gl X "all":=by rfl)(he:starEach [a] X.env=(false,eval a X.env)::starEach [] X.env:=by rfl)(hpl:(backTo pos (starEach [] X.env)).any (·.1)=false:=by rfl):JE X E (.Call (.Name "all" p) [a] [] pos) (mCall allW l):=
 d0 (qj hc) (fun o ws vs Q R rv h=>by
  unfold allW at h
  split at h
  ·obtain⟨v,rfl,r⟩:=rv.one
   obtain⟨l,a,us,rfl,s,r,h⟩:=bZ R r h
   cases e:optL bOf l with
   |none=>rw[e] at h;exact h.elim
   |some ns=>
    rw[e] at h
    rw[eC ue e r] at s
    exact⟨a,ns,rfl,s,h.pr R (rv_bl.mpr rfl)⟩
  ·exact h.elim) hg hm PyProof.Rows.boot_all ha (he:=he) (hpl:=hpl)
def eU (ws:List W):M W:=match ws with
 |[.tup l]=>pr (.tup l)
 |[w]=>bd (lstOf w) fun l=>pr (.tup l)
 |_=>no
theorem im (hm:X.mg "tuple"=none)(ha:JA X E [a] l)(hg:Gl X "tuple":=by rfl)(he:starEach [a] X.env=(false,eval a X.env)::starEach [] X.env:=by rfl)(hpl:(backTo pos (starEach [] X.env)).any (·.1)=false:=by rfl):JE X E (.Call (.Name "tuple" p) [a] [] pos) (mCall eU l):=
 nJ iP (fun o ws vs Q R rv h=>by
  unfold eU at h
  split at h
  ·obtain⟨v,rfl,r⟩:=rv.one
   have r0:=r
   unfold Rv at r
   obtain⟨a,us,rfl,s,r⟩:=r
   exact⟨a,us,rfl,.inr ⟨s,h.pr R r0⟩⟩
  ·obtain⟨v,rfl,r⟩:=rv.one
   obtain⟨l,a,us,rfl,s,r,h⟩:=bZ R r h
   exact⟨a,us,rfl,.inl ⟨s,fun q hq=>jn R hq r h⟩⟩
  ·exact h.elim) hg hm PyProof.Rows.boot_tuple ha (he:=he) (hpl:=hpl)
def listL (l:Env'->M (List W)):Env'->M (List W):=fun ρ=>bd (l ρ) fun ws=>match ws with
 |[.tup l]=>pr l
 |[w]=>lstOf w
 |_=>no
theorem pM {o:Wo}{w:W}{v:V}{Q:List V->Hp->Prop}(R:Rel X.K o)(hr:Rv X.K o w v)(h:Ps (cg X E) (Rvs X.K) o (lstOf w o.h) Q): ∃l a vs,v=.ref a/\SqL X.K o.H a vs/\Rvs X.K o l vs/\Q vs o.H:=by
 have e:lstOf w=bd (lstOf w) fun l=>pr l:=by
  funext h
  unfold bd
  cases lstOf w h<;>rfl
 rw[e] at h
 obtain⟨l,a,vs,e1,e2,e3,h⟩:=bZ R hr h
 exact⟨l,a,vs,e1,e2,e3,h.pr R e3⟩
theorem fK (hm:X.mg "list"=none)(ha:JA X E [a] l)(hg:Gl X "list":=by rfl)(he:starEach [a] X.env=(false,eval a X.env)::starEach [] X.env:=by rfl)(hpl:(backTo pos (starEach [] X.env)).any (·.1)=false:=by rfl):JF X E (.Call (.Name "list" p) [a] [] pos) (listL l):=
 (iU jJ hg hm PyProof.Rows.boot_list ha.h (he:=he) (hpl:=hpl)).impF fun σ H Q h=>by
  obtain⟨o,ρ,rfl,R,S,h⟩:=h
  refine⟨o,ρ,rfl,R,S,Ps.bd h fun p x vx e1 R1 r1 h1=>?_⟩
  split at h1
  ·obtain⟨v,rfl,r⟩:=r1.one
   unfold Rv at r
   obtain⟨a,us,rfl,s,r⟩:=r
   exact⟨a,us,rfl,.inr s,h1.pr R1 r⟩
  ·obtain⟨v,rfl,r⟩:=r1.one
   obtain⟨l,a,us,rfl,s,r,q⟩:=pM R1 r h1
   exact⟨a,us,rfl,.inl s,q⟩
  ·exact h1.elim
def isS (w:W):M W:=match w with
 |.str z=>pr (.str z)
 |_=>no
def mMeth (chk:W->M W)(f:W->List W->M W)(fo:Env'->M W)(l:Env'->M (List W)):Env'->M W:=fun ρ=>bd (fo ρ) fun x=>bd (chk x) fun x=>bd (l ρ) fun ws=>f x ws
variable {o e:Expr}{es:List Expr}{apos cpos:Pos}{fo:Env'->M W}
def isL (w:W):M W:=match w with
 |.loc k=>fun h=>match h[k]? with
  |some (.lst _)=>.ok (.loc k) h
  |_=>.bad
 |_=>no
theorem pW {α β:Type}{r:Wo->α->β->Prop}{o:Wo}{w:W}{v:V}{k:W->M α}{Q:β->Hp->Prop}(R:Rel X.K o)(hr:Rv X.K o w v)(h:Ps (cg X E) r o (bd (isL w) k o.h) Q):
  ∃j l vs,w=.loc j/\o.h[j]?=some (.lst l)/\v=.ref (o.mu j)/\j<o.h.length/\o.H (o.mu j)=some (.lst vs)/\Rvs X.K o l vs/\Ps (cg X E) r o (k (.loc j) o.h) Q:=by
 cases w with
 |loc j=>
  unfold Rv at hr
  unfold isL bd at h
  cases e:o.h[j]? with
  |none=>simp only[e] at h;exact h.elim
  |some b=>
   cases b with
   |lst l=>
    simp only[e] at h
    obtain⟨vs,h1,h2⟩:=R.ob j _ e
    exact⟨j,l,vs,rfl,e,hr.2,hr.1,h1,h2,h⟩
   |_=>simp only[e] at h;exact h.elim
 |_=>exact h.elim
def cG (x:W)(ws:List W):M W:=match x,ws with
 |.loc k,[w]=>fun h=>match h[k]? with
  |some (.lst l)=>if l.length<sizeLine then .ok .non (h.set k (.lst (l++[w]))) else .bad
  |_=>.bad
 |_,_=>no
theorem eD (ho:JE X E o fo)(ha:JA X E [e] l)(hbase:attributeBase o "append" X.env (eval o X.env)=eval o X.env:=by rfl)
  (hfew:((backTo cpos (starEach [e] X.env)).all (fun x=>!x.1) && (backToKw cpos (keywordEach [] X.env)).all (fun x=>x.1.isSome) && decide (([e]:List Expr).length+([]:List Keyword).length+(if ([]:List Keyword).isEmpty then 0 else 1)<30))=true:=by rfl)
  (hline:(apos.endLine==cpos.line)=true:=by rfl)(hs:starEach [e] X.env=(false,eval e X.env)::starEach [] X.env:=by rfl)(hplain:(backTo cpos (starEach [] X.env)).any (·.1)=false:=by rfl):
  JE X E (.Call (.Attribute o "append" apos) [e] [] cpos) (mMeth isL cG fo l):=
 (r9 PySem.F.plainAttrs_list PySem.F.slot_list_append PySem.F.type_list_append nH ho.h ha.h hbase hfew hline hs hplain).imp fun σ H Q h=>by
  obtain⟨w,ρ,rfl,R,S,h⟩:=h
  refine⟨w,ρ,rfl,R,S,Ps.bd h fun p x vx e1 R1 r1 h1=>?_⟩
  obtain⟨j,l0,vs0,rfl,hj,rfl,hlt,hH,hl0,h1⟩:=pW R1 r1 h1
  refine⟨.inl ⟨rfl,vs0,.of hH⟩,p,ρ,rfl,R1,S.mono R e1,Ps.bd h1 fun q ws vs e2 R2 r2 h2=>?_⟩
  rcases ws with _|⟨w',_|⟨_,_⟩⟩
  ·exact h2.elim
  ·unfold cG at h2
   cases e:q.h[j]? with
   |none=>simp only[e] at h2;exact h2.elim
   |some b=>
    cases b with
    |lst l'=>
     simp only[e] at h2
     obtain⟨v,rfl,r⟩:=r2.one
     obtain⟨us,k1,k2⟩:=R2.ob j _ e
     by_cases z:l'.length<sizeLine
     ·rw[if_pos z] at h2
      rw[e2.mu j hlt] at k1
      refine⟨p.mu j,us,v,rfl,rfl,k1,by rw[k2.len];exact z,?_⟩
      have:=Ps.at (p:=q.put j (.lst (l'++[w'])) (.lst (us++[v]))) (b:=V.non) h2 rfl (Ex.put e (by simp)) (R2.putL e (by simp) (k2.app (Rvs.cons r Rvs.nil))) (rv_non.mpr rfl)
      have em:q.mu j=p.mu j:=e2.mu j hlt
      have ew:(q.put j (.lst (l'++[w'])) (.lst (us++[v]))).H=upd q.H (p.mu j) (.lst (us++[v])):=by
       show upd q.H (q.mu j) _=_
       rw[em]
      rw[ew] at this
      exact this
     ·rw[if_neg z] at h2;exact h2.elim
    |_=>simp only[e] at h2;exact h2.elim
  ·exact h2.elim
def iceW (w:W):M W:=match w with
 |.loc k=>fun h=>match h[k]? with
  |some (.lst l)=>.ok (.tl l) (h.set k .gone)
  |some (.dic ks ws)=>.ok (.dv ks ws) (h.set k .gone)
  |some (.din b ks ws)=>.ok (.dn b ks ws) (h.set k .gone)
  |_=>.bad
 |w=>pr w
theorem su {f:Env'->M W}{σ:St}{H:Hp}{Q:VK}(h:tM (cg X E) (m1 iceW f) σ H Q):tM (cg X E) f σ H Q:=by
 obtain⟨o,ρ,rfl,R,S,h⟩:=h
 refine⟨o,ρ,rfl,R,S,Ps.bd h fun p x vx e1 R1 r1 h1=>?_⟩
 cases x with
 |loc k=>
  unfold Rv at r1
  obtain⟨_,rfl⟩:=r1
  unfold iceW at h1
  dsimp only at h1
  split at h1
  ·rename_i l hl
   exact Ps.at (p:=p.ice k) h1 rfl Ex.ice R1.ice (Rv.iceL R1 hl)
  ·rename_i ks ws hl
   exact Ps.at (p:=p.ice k) h1 rfl Ex.ice R1.ice (Rv.iceD R1 hl)
  ·rename_i b ks ws hl
   exact Ps.at (p:=p.ice k) h1 rfl Ex.ice R1.ice (Rv.iceN R1 hl)
  ·exact h1.elim
 |_=>exact Ps.pr (c:=cg X E) h1 R1 r1
theorem ip {f:Env'->M W}{e:Expr}(h:JE X E e f):JE X E e (m1 iceW f):=h.h.imp fun _ _ _ q=>su q
noncomputable def mapAt {κ:Type} [DecidableEq κ]:List κ->List W->κ->W->List W
 |k::ks,w::ws,x,y=>(if k=x then y else w)::mapAt ks ws x y
 |_,_,_,_=>[]
def putW {κ:Type} [DecidableEq κ] (ks:List κ)(ws:List W)(x:κ)(y:W):List κ×List W:=if (ks.any fun k=>decide (k=x))=true then (ks,mapAt ks ws x y) else (ks++[x],ws++[y])
def fV (x i v:W):M Unit:=match x with
 |.loc k=>fun h=>match h[k]? with
  |some (.lst l)=>match i with
   |.int n=>match ixN l.length n with
    |some j=>.ok () (h.set k (.lst (l.set j v)))
    |none=>.bad
   |_=>.bad
  |some (.dic ks ws)=>match keyOf i with
   |some q=>if ks.length<sizeLine then .ok () (h.set k (.dic (putW ks ws q v).1 (putW ks ws q v).2)) else .bad
   |none=>.bad
  |some (.dit ks ws)=>match i with
   |.kt q=>if ks.length<sizeLine then .ok () (h.set k (.dit (putW ks ws q v).1 (putW ks ws q v).2)) else .bad
   |_=>.bad
  |_=>.bad
 |_=>no
def rSetD:TSet:=fun o i v H Q=> ∃a H',o=.ref a/\DPut H a i v H'/\Q H'
theorem oG (hu:X.A.units+1<cLine):PSet X rSetD:=by
 intro pins s σ H o i v ov iv u Q I ro ri rv h
 obtain⟨a,H',rfl,g,q⟩:=h
 cases ro
 exact nX hu I g ri rv fun s4 I4=>⟨H',I4,q⟩
theorem PSet.or {t t':TSet}(h:PSet X t)(h':PSet X t'):PSet X (fun o i v H Q=>t o i v H Q\/t' o i v H Q):=by
 intro pins s σ H o i v ov iv u Q I ro ri rv q
 rcases q with q|q
 ·exact h pins s σ H o i v ov iv u Q I ro ri rv q
 ·exact h' pins s σ H o i v ov iv u Q I ro ri rv q
theorem kH {κ:Type} [DecidableEq κ] {K:PySem.W.Frag}{o:Wo}{x:κ}{y:W}{v:V}(hy:Rv K o y v): ∀ {ks:List κ}{ws:List W}{kvs:List (κ×V)},kvs.map (·.1)=ks->Rvs K o ws (kvs.map (·.2))->Rvs K o (mapAt ks ws x y) ((kvs.map fun kv=>if kv.1=x then (kv.1,v) else kv).map (·.2))
 |_,ws,[],e,h=>by subst e;unfold mapAt;exact Rvs.nil
 |_,ws,(k,u)::r,e,h=>by
  subst e
  cases ws with
  |nil=>unfold Rvs at h;cases h
  |cons w ws=>
   unfold Rvs at h
   obtain⟨u',r',e',h1,h2⟩:=h
   cases e'
   have ih:=kH (x:=x) hy (ks:=r.map (·.1)) (ws:=ws) (kvs:=r) rfl h2
   show Rvs K o ((if k=x then y else w)::mapAt (r.map (·.1)) ws x y) ((if k=x then (k,v) else (k,u)).2::_)
   by_cases z:k=x
   ·rw[if_pos z,if_pos z];exact Rvs.cons hy ih
   ·rw[if_neg z,if_neg z];exact Rvs.cons h1 ih
theorem jm {κ:Type} [DecidableEq κ] {K:PySem.W.Frag}{o:Wo}{x:κ}{y:W}{v:V}{ks:List κ}{ws:List W}{kvs:List (κ×V)}(hy:Rv K o y v)(hk:kvs.map (·.1)=ks)(h:Rvs K o ws (kvs.map (·.2))):
  (putK kvs x v).map (·.1)=(putW ks ws x y).1/\Rvs K o (putW ks ws x y).2 ((putK kvs x v).map (·.2)):=by
 subst hk
 have ea:((kvs.map (·.1)).any fun k=>decide (k=x))=(kvs.any fun kv=>decide (kv.1=x)):=by rw[List.any_map];rfl
 unfold putK putW
 rw[ea]
 by_cases z:(kvs.any fun kv=>decide (kv.1=x))=true
 ·rw[if_pos z,if_pos z]
  refine⟨?_,kH hy rfl h⟩
  rw[List.map_map]
  refine List.map_congr_left fun kv _=>?_
  show (if kv.1=x then (kv.1,v) else kv).1=kv.1
  split<;>rfl
 ·rw[if_neg z,if_neg z]
  refine⟨by simp,?_⟩
  show Rvs K o (ws++[y]) ((kvs++[(x,v)]).map (·.2))
  rw[List.map_append]
  exact h.app (Rvs.cons hy Rvs.nil)
def bv (fo fi fv:Env'->M W):Env'->M Fl:=fun ρ=>bd (fv ρ) fun v=>bd (fo ρ) fun x=>bd (fi ρ) fun i=>bd (fV x i v) fun _=>pr (.nx ρ)
variable {i value:Expr}{tpos:Pos}{fi fv:Env'->M W}
theorem fG (hu:X.A.units+1<cLine)(ho:JE X E o fo)(hi:JE X E i fi)(hv:JE X E value fv)
  (ha: ∀v,assign (.Subscript o i tpos) X.env v=(do
   let ov<-holding [v] (eval o X.env)
   let iv<-holding [v,ov] (eval i X.env)
   standAt tpos
   holding [v,ov,iv] (setItem ov iv v)
   release [v,ov,iv] []):=by intro _;rfl)
  (hs:swapsWithSole [.Subscript o i tpos] value pos.line X.env=pure false:=by rfl)(hw:swappedStores [.Subscript o i tpos] value X.env=pure none:=by rfl)
  (h1:(assignEach [.Subscript o i tpos] X.env).map (·.2)=[assign (.Subscript o i tpos) X.env]:=by rfl):JS X E (.Assign [.Subscript o i tpos] value pos) (bv fo fi fv):=
 (oP hv.h (oT ho.h hi.h (set_list.or (oG hu)) ha) hs hw h1).imp fun D σ H h=>by
  obtain⟨w,ρ,rfl,R,S,h⟩:=h
  refine⟨w,ρ,rfl,R,S,Ps.bd h fun p v vv e1 R1 r1 h1=>⟨p,ρ,rfl,R1,S.mono R e1,Ps.bd h1 fun q x vx e2 R2 r2 h2=>⟨q,ρ,rfl,R2,(S.mono R e1).mono R1 e2,Ps.bd h2 fun s i vi e3 R3 r3 h3=>?_⟩⟩⟩
  have S3:=((S.mono R e1).mono R1 e2).mono R2 e3
  have rv:=(r1.mono R1 e2).mono R2 e3
  have rx:=r2.mono R2 e3
  cases x with
  |loc k=>
   unfold Rv at rx
   obtain⟨hk,rfl⟩:=rx
   unfold fV bd at h3
   cases e:s.h[k]? with
   |none=>simp only[e] at h3;exact h3.elim
   |some b=>
    cases b with
    |ins c ns ws=>simp only[e] at h3;exact h3.elim
    |din b ks ws=>simp only[e] at h3;exact h3.elim
    |gone=>simp only[e] at h3;exact h3.elim
    |lst l=>
     simp only[e] at h3
     cases i with
     |int n=>
      simp only at h3
      cases ej:ixN l.length n with
      |none=>simp only[ej] at h3;exact h3.elim
      |some j=>
       simp only[ej] at h3
       obtain⟨us,k1,k2⟩:=R3.ob k _ e
       refine .inl ⟨_,us,n,j,rfl,rv_int.mp r3,k1,by rw[k2.len];exact ej,?_⟩
       exact Ps.at (p:=s.put k (.lst (l.set j v)) (.lst (us.set j vv))) (b:=FlV.nx σ) h3 rfl (Ex.put e (by simp)) (R3.putL e (by simp) (k2.set rv j)) ⟨σ,rfl,S3.mono R3 (Ex.put e (by simp))⟩
     |_=>exact h3.elim
    |dit ks ws=>
     simp only[e] at h3
     cases i with
     |kt x=>
      simp only at h3
      by_cases z:ks.length<sizeLine
      ·simp only[if_pos z] at h3
       obtain⟨kvs,k1,k2,k3⟩:=R3.ob k _ e
       unfold Rv at r3
       obtain⟨b,rfl,hb⟩:=r3
       obtain⟨b1,b2⟩:=jm (x:=x) rv k2 k3
       refine .inr ⟨_,_,rfl,.inr ⟨kvs,x,b,k1,rfl,hb,by rw[<-k2,List.length_map] at z;exact z,rfl⟩,?_⟩
       exact Ps.at (p:=s.put k (.dit (putW ks ws x v).1 (putW ks ws x v).2) (.dT (putK kvs x vv))) (b:=FlV.nx σ) h3 rfl (Ex.put e (by simp)) (R3.putT e (by simp) b1 b2) ⟨σ,rfl,S3.mono R3 (Ex.put e (by simp))⟩
      ·simp only[if_neg z] at h3;exact h3.elim
     |_=>exact h3.elim
    |dic ks ws=>
     simp only[e] at h3
     cases ej:keyOf i with
     |none=>simp only[ej] at h3;exact h3.elim
     |some x=>
      simp only[ej] at h3
      by_cases z:ks.length<sizeLine
      ·simp only[if_pos z] at h3
       obtain⟨kvs,k1,k2,k3⟩:=R3.ob k _ e
       rw[iy ej r3]
       obtain⟨b1,b2⟩:=jm (x:=x) rv k2 k3
       refine .inr ⟨_,_,rfl,.inl ⟨kvs,x,k1,rfl,by rw[<-k2,List.length_map] at z;exact z,rfl⟩,?_⟩
       exact Ps.at (p:=s.put k (.dic (putW ks ws x v).1 (putW ks ws x v).2) (.dK (putK kvs x vv))) (b:=FlV.nx σ) h3 rfl (Ex.put e (by simp)) (R3.putD e (by simp) b1 b2) ⟨σ,rfl,S3.mono R3 (Ex.put e (by simp))⟩
      ·simp only[if_neg z] at h3;exact h3.elim
  |_=>exact h3.elim
end
end L2
set_option maxHeartbeats 1000000
namespace L2
open PySem PySem.Spec PyProof.Rows
def runF (n:Nat)(g:Env'->M Fl)(ws:List W):M W:=bd (g (ws.map some++List.replicate (n - ws.length) none)) fun x=>match x with
 |.rt w=>pr w
 |.nx _=>pr .non
 |_=>no
section
variable {P:Program}{w:World}{K:PySem.W.Frag}{mg:Str->Option Value}{base:Heap}{x qual:Str}{st:Stmt}{f:Addr}{fd:FuncData}{N ps:List Str}{k:Nat}{g:Env'->M Fl}
def spM0 (K:PySem.W.Frag)(mg:Str->Option Value)(n:Nat)(f:List W->M W):Sp:=fun vs H Q _=> ∃o ws,o.H=H/\ws.length=n/\Rel K o/\Rvs K o ws vs/\Ps ⟨K,mg,E0⟩ (Rv K) o (f ws o.h) Q
theorem bI {n m:Nat}{fn:List W->M W}(F:Fun K x qual st f fd)(S:FnScope N ps (aj st))(hn:N.length=n)(hm:ps.length=m)(hf:fn=runF n g)
  (hb: ∀ (cdv:Value) (A:Around) (outer:List Env) (s:Shared) (H:Hp) (E:XK),Room k (A.deeper (envOfC qual (aj st) s.heap.objs.size f cdv))->JSs (cxOf CX0 P w K mg base N qual (aj st) f cdv A outer s H E).nox E0 (aG st) g):
  FnOk P w K mg base CX0 (k+1) f fd ps (spM0 K mg m fn):=by
 subst hn hm hf
 refine F.ok S (fun vs H Q E h=>?_) (fun cdv A outer s H vs Q E hr h=>?_)
 ·obtain⟨o,ws,_,hl,_,rv,_⟩:=h
  rw[rv.len,hl]
 ·obtain⟨o,ws,rfl,hl,R,rv,h⟩:=h
  refine⟨_,(hb cdv A outer s o.H E hr).h,?_⟩
  have e:start N vs=vs.map some++List.replicate (N.length - ws.length) none:=by unfold start;rw[rv.len]
  rw[e]
  refine⟨o,_,rfl,R,Re.args _ rv,Ps.bd h fun p x b e1 R1 r1 h1=>?_⟩
  cases x with
  |rt w=>obtain⟨v,rfl,r⟩:=r1;exact h1.pr R1 r
  |nx r=>obtain⟨s,rfl,r⟩:=r1;exact h1.pr R1 (rv_non.mpr rfl)
  |bk r=>exact h1.elim
  |ct r=>exact h1.elim
structure CG (P:Program)(w:World)(K:PySem.W.Frag)(mg:Str->Option Value)(base:Heap)(k:Nat)(x:Str)(f:Addr)(fd:FuncData)(ps:List Str)(m:Nat)(fn:List W->M W):Prop where
 ok:FnOk P w K mg base CX0 k f fd ps (spM0 K mg m fn)
 bi:Binds K fd ps []
 kp:keepIn K (.ref f)=true
 mg:mg x=some (.ref f)
end
def arW (n:Nat)(f:List W->M W)(ws:List W):M W:=if ws.length=n then f ws else no
section
variable {X:Cx}{p pos:Pos}{e:Expr}{es:List Expr}{l:Env'->M (List W)}{f:List W->M W}{k:Nat}{fA:Addr}{fd:FuncData}{ps:List Str}{x:Str}
theorem aV {m:Nat}(C:CG X.prog X.w X.K X.mg X.base k x fA fd ps m f)(hr:Room k X.A)(ha:JA X E0 (e::es) l)(hg:Gl X x:=by rfl)
  (hdb:(x==("__debug__":Str))=false:=by decide)(he:starEach (e::es) X.env=(false,eval e X.env)::starEach es X.env:=by rfl)(hpl:(backTo pos (starEach es X.env)).any (·.1)=false:=by rfl):
  JE X E0 (.Call (.Name x p) (e::es) [] pos) (mCall (arW m f) l):=(qR C.ok hr hg C.mg C.kp C.bi .nil pass0 ha.h hdb he hpl).imp fun σ H Q h=>by
 obtain⟨o,ρ,rfl,R,S,h⟩:=h
 refine⟨o,ρ,rfl,R,S,Ps.bd h fun p x vx e1 R1 r1 h1=>?_⟩
 unfold arW at h1
 by_cases z:x.length=m
 ·rw[if_pos z] at h1
  exact⟨p,x,rfl,z,R1,by rw[List.append_nil];exact r1,h1⟩
 ·rw[if_neg z] at h1
  exact h1.elim
end
section
variable {X:Cx}{E:XK}{p pos:Pos}
noncomputable def chars (z:Str):List W:=z.cps.toList.map fun c=>.str ⟨#[c]⟩
def srcS (w:W):M Sr:=match w with
 |.str z=>pr ⟨chars z,fun _=>True⟩
 |_=>no
noncomputable def numd (n:Int):List W->List W
 |[]=>[]
 |w::l=>.tup [.int n,w]::numd (n+1) l
theorem cI: ∀ (l:List W) (n:Int),(numd n l).length=l.length
 |[],_=>rfl
 |w::l,n=>by rw[numd,List.length_cons,List.length_cons,cI l]
theorem cW: ∀ (l:List W) (n:Int) (i:Nat) (w:W),(numd n l)[i]?=some w-> ∃x,l[i]?=some x/\w=.tup [.int (n+i),x]
 |[],_,_,_,h=>by simp [numd] at h
 |x::l,n,0,w,h=>by rw[numd] at h;cases h;exact⟨x,rfl,by simp⟩
 |x::l,n,i+1,w,h=>by
  rw[numd,List.getElem?_cons_succ] at h
  obtain⟨y,e1,e2⟩:=cW l (n+1) i w h
  exact⟨y,by simpa using e1,by rw[e2];congr 3;omega⟩
def enumL (ws:List W):M Sr:=match ws with
 |[w]=>bd (srcL w) fun s=>pr ⟨numd 0 s.l,s.G⟩
 |_=>no
theorem ma {α β:Type}{r:Wo->α->β->Prop}{o:Wo}{w:W}{v:V}{k:Sr->M α}{Q:β->Hp->Prop}(R:Rel X.K o)(hr:Rv X.K o w v)(h:Ps (cg X E) r o (bd (srcL w) k o.h) Q):
  ∃s a,v=.ref a/\(∃vs,SqL X.K o.H a vs)/\(∀p,Ex o p->Rel X.K p->s.G p.h-> ∃vs,SqL X.K p.H a vs/\Rvs X.K p s.l vs)/\Ps (cg X E) r o (k s o.h) Q:=by
 cases w with
 |tl l=>
  unfold Rv at hr
  obtain⟨a,vs,rfl,s,n,r⟩:=hr
  exact⟨⟨l,fun _=>True⟩,a,rfl,⟨vs,.of s⟩,fun p X _ _=>⟨vs,.of (X.fr a _ s n).1,r.mono R X⟩,h⟩
 |cl l=>
  unfold Rv at hr
  obtain⟨a,vs,rfl,s,r⟩:=hr
  have sq: ∀q,Ex o q->SqL X.K q.H a vs:=fun q X=>by
   rcases s with⟨s,n⟩|s
   ·exact .inl (X.rd s n).1
   ·exact .inr s
  exact⟨⟨l,fun _=>True⟩,a,rfl,⟨vs,sq o (Ex.refl _)⟩,fun p X _ _=>⟨vs,sq p X,r.mono R X⟩,h⟩
 |loc j=>
  unfold Rv at hr
  obtain⟨hj,rfl⟩:=hr
  unfold srcL bd at h
  cases e:o.h[j]? with
  |none=>simp only[e] at h;exact h.elim
  |some b=>
   cases b with
   |lst l=>
    simp only[e] at h
    obtain⟨vs,h1,h2⟩:=R.ob j _ e
    refine⟨⟨l,fun h=>h[j]?=some (.lst l)⟩,_,rfl,⟨vs,.of h1⟩,fun p X Rp g=>?_,h⟩
    obtain⟨vs',h5,h6⟩:=Rp.ob j _ g
    rw[X.mu j hj] at h5
    exact⟨vs',.of h5,h6⟩
   |_=>simp only[e] at h;exact h.elim
 |_=>exact h.elim
theorem jz {a:Expr}{elts:List Expr}{x1}{tpos:Pos}{fl:Env'->M (List W)}(hm:X.mg "enumerate"=none)(ha:JA X E [a] fl)(hg:Gl X "enumerate":=by rfl)(hs:starEach [a] X.env=[(false,eval a X.env)]:=by rfl):
  JI X E (.Tuple elts x1 tpos) (.Call (.Name "enumerate" p) [a] [] pos) (mSrcA fl enumL):=(qN hg hm ha.h hs).imp fun σ H Q h=>by
 obtain⟨o,ρ,rfl,R,S,h⟩:=h
 refine⟨o,ρ,rfl,R,S,Ps.bd h fun p x vx e1 R1 r1 h1=>?_⟩
 rcases x with _|⟨w,_|⟨_,_⟩⟩
 ·exact h1.elim
 ·have h1:Ps (cg X E) (fun p s J=>SrcOk X.K p J s) p (bd (srcL w) (fun s=>pr ⟨numd 0 s.l,s.G⟩) p.h) Q:=h1
  obtain⟨v,rfl,r⟩:=r1.one
  obtain⟨s,a,rfl,hq,sk,h1⟩:=ma R1 r h1
  refine⟨a,rfl,hq,h1.pr R1 ⟨fun o X R g=>?_,fun o i w X R g e=>?_⟩⟩
  ·obtain⟨vs,k1,k2⟩:=sk o X R g
   exact⟨vs,k1,by rw[k2.len];exact (cI _ _).symm⟩
  ·obtain⟨vs,k1,k2⟩:=sk o X R g
   obtain⟨x,e1,rfl⟩:=cW _ _ _ _ e
   obtain⟨v,hv,rv⟩:=k2.get e1
   refine⟨⟨vs,v,k1,hv⟩,fun y H' q=>?_⟩
   obtain⟨T,z,hT,rfl,hz,rfl⟩:=q
   have:z=v:=by have:=hz vs k1;rw[hv] at this;exact (Option.some.inj this).symm
   subst this
   refine⟨⟨o.mu,o.h,upd o.H T (.tup [.int i,z])⟩,rfl,rfl,Ex.new hT,R.new hT,Rv.newT R hT (Rvs.cons (rv_int.mpr (by simp)) (Rvs.cons rv Rvs.nil))⟩
 ·exact h1.elim
def sUnp (t:W->Env'->Option Env')(f:Env'->M W):Env'->M Fl:=fun ρ=>bd (f ρ) fun w=>match t w ρ with
 |some r=>pr (.nx r)
 |none=>no
noncomputable def tyN (w:W)(h:List Ob):Option String:=match w with
 |.non=>some "NoneType"
 |.bl _=>some "bool"
 |.int _=>some "int"
 |.str _=>some "str"
 |.tl _=>some "list"
 |.loc k=>match h[k]? with
  |some (.lst _)=>some "list"
  |some (.dic _ _)=>some "dict"
  |_=>none
 |_=>none
noncomputable def isT (t c:String):Bool:=t==c||(t== "bool" && c== "int")
noncomputable def tys:List String:=["int", "str", "bool", "list", "tuple", "dict"]
def isiW (ws:List W):M W:=match ws with
 |[.tup _,.ty c]=>gd (c∈tys) (pr (.bl (isT "tuple" c)))
 |[x,.ty c]=>fun h=>match tyN x h with
  |some t=>if c∈tys then .ok (.bl (isT t c)) h else .bad
  |none=>.bad
 |_=>no
theorem pS {K:PySem.W.Frag}{t c:String}(ht:t∈ "NoneType"::tys)(hc:c∈tys):kitOne K (.type t) (.type c)=some (isT t c):=by
 simp only[tys,List.mem_cons,List.not_mem_nil,or_false] at ht hc
 rcases ht with rfl|rfl|rfl|rfl|rfl|rfl|rfl<;>rcases hc with rfl|rfl|rfl|rfl|rfl|rfl<;>kernel_rfl
end
end L2
set_option maxHeartbeats 1000000
namespace L2
open PySem PySem.Spec PyProof.Rows
section
variable {X:Cx}{E:XK}{p pos:Pos}{a b:Expr}{l:Env'->M (List W)}
def rIsT (K:PySem.W.Frag):List V->Hp->VK->Prop:=fun xs H Q=> ∃ (a:Addr) (ys:List V) (c:String) (k:Bool),xs=[.ref a,.ty c]/\SqT K H a ys/\kitOne K (.type "tuple") (.type c)=some k/\Q (.bl k) H
theorem oj:CallR X (.builtin "isinstance") (rIsT X.K):=by
 intro pins s σ H xs us Q I r h
 obtain⟨a,ys,c,k,rfl,hq,e,q⟩:=h
 obtain⟨u,u',rfl,ru,ru'⟩:=vals2 r
 cases ru
 cases ru'
 obtain⟨its,rv,⟨o,e1,e2,n,e3⟩,hz⟩:=I.tuple hq
 exact kia_one PySem.W.kitx_tuple I.kIn ⟨o,e1,e2⟩ e (fun z=>nomatch z) fun tk=>⟨.bl k,H,I.tok tk,rfl,q⟩
theorem sm {o:Wo}{w:W}{v:V}{t:String}(R:Rel X.K o)(h:Rv X.K o w v)(e:tyN w o.h=some t):TyOf X.K o.H v (.type t)/\t∈ "NoneType"::tys:=by
 cases w with
 |non=>cases e;rw[rv_non.mp h];exact⟨.non,by decide⟩
 |bl _=>cases e;rw[rv_bl.mp h];exact⟨.bl _,by decide⟩
 |int _=>cases e;rw[rv_int.mp h];exact⟨.int _,by decide⟩
 |str _=>cases e;rw[rv_str.mp h];exact⟨.str _,by decide⟩
 |tl _=>cases e;unfold Rv at h;obtain⟨a,vs,rfl,s,_⟩:=h;exact⟨.lst s,by decide⟩
 |loc k=>
  unfold Rv at h
  obtain⟨_,rfl⟩:=h
  unfold tyN at e
  dsimp only at e
  split at e
  ·rename_i l hl
   cases e
   obtain⟨vs,h1,_⟩:=R.ob k _ hl
   exact⟨.lst h1,by decide⟩
  ·rename_i ks ws hl
   cases e
   obtain⟨vs,h1,_⟩:=R.ob k _ hl
   exact⟨.dK h1,by decide⟩
  ·cases e
 |_=>cases e
theorem io (hm:X.mg "isinstance"=none)(ha:JA X E [a,b] l)(hg:Gl X "isinstance":=by rfl)(he:starEach [a,b] X.env=(false,eval a X.env)::starEach [b] X.env:=by rfl)(hpl:(backTo pos (starEach [b] X.env)).any (·.1)=false:=by rfl):JE X E (.Call (.Name "isinstance" p) [a,b] [] pos) (mCall isiW l):=
 d0 (call_isinst.or oj) (fun o ws vs Q R rv h=>by
  unfold isiW at h
  split at h
  ·rename_i l c
   obtain⟨v,u,rfl,r1,r2⟩:=rv.two
   obtain⟨hc,h⟩:=h.gd
   unfold Rv at r1
   obtain⟨a,us,rfl,s,r⟩:=r1
   rw[rv_ty.mp r2]
   exact .inr ⟨a,us,c,_,rfl,s,pS (by decide) hc,h.pr R (rv_bl.mpr rfl)⟩
  ·rename_i x c _
   obtain⟨v,u,rfl,r1,r2⟩:=rv.two
   dsimp only at h
   cases e:tyN x o.h with
   |none=>rw[e] at h;exact h.elim
   |some t=>
    rw[e] at h
    by_cases hc:c∈tys
    ·simp only[if_pos hc] at h
     obtain⟨ty,hm⟩:=sm R r1 e
     rw[rv_ty.mp r2]
     exact .inl ⟨v,.ty c,.type c,.type t,_,rfl,rfl,ty,pS hm hc,Ps.pr (c:=cg X E) (r:=Rv X.K) (a:=W.bl (isT t c)) h R (rv_bl.mpr rfl)⟩
    ·simp only[if_neg hc] at h;exact h.elim
  ·exact h.elim) hg hm PyProof.Rows.boot_isinstance ha (he:=he) (hpl:=hpl)
theorem ky {x:Str}{T:String}(hm:X.mg x=none)(hv:bootBuiltins x=some (.type T))(hg:Gl X x:=by rfl)(hn:x≠ "__name__":=by decide)(hd:(x==("__debug__":Str))=false:=by decide):JE X E (.Name x pos) (mC (.ty T)):=
 (qS (v:=.ty T) hg hm hv rfl hn hd).imp fun _ _ _ h=>oA (fun o=>rv_ty.mpr rfl) h
theorem Rv.addLoc {K:PySem.W.Frag}{o:Wo}{q:Addr}{b:Ob}{u:HO}:Rv K (o.add q b u) (.loc o.h.length) (.ref q):=by
 unfold Rv
 exact⟨by show _<(o.h++[b]).length;simp,by show V.ref q=V.ref (if o.h.length=o.h.length then q else _);rw[if_pos rfl]⟩
end
end L2
set_option maxHeartbeats 1000000
namespace L2
open PySem PySem.Spec PyProof.Rows
section
variable {X:Cx}{E:XK}{p pos:Pos}{a b c:Expr}{fa fb fc:Env'->M W}
def cA (f g:W->W->M W)(fa fb fc:Env'->M W):Env'->M W:=fun ρ=>bd (fa ρ) fun x=>bd (fb ρ) fun y=>bd (f x y) fun z=>bd (asB z) fun k=>if k=true then bd (fc ρ) fun w=>g y w else pr (.bl false)
end
section
variable {es:List Expr}{env:Env}{pos:Pos}
theorem aS {c k p}:starEach (.Constant c k p::es) env=(false,eval (.Constant c k p) env)::starEach es env:=by rfl
theorem ak {c p}:starEach (.Name c p::es) env=(false,eval (.Name c p) env)::starEach es env:=by rfl
theorem lh {a o b p}:starEach (.BinOp a o b p::es) env=(false,eval (.BinOp a o b p) env)::starEach es env:=by rfl
theorem dY {a o b p}:starEach (.Call a o b p::es) env=(false,eval (.Call a o b p) env)::starEach es env:=by rfl
theorem bm {a o p}:starEach (.Subscript a o p::es) env=(false,eval (.Subscript a o p) env)::starEach es env:=by rfl
theorem eQ {a o p}:starEach (.Tuple a o p::es) env=(false,eval (.Tuple a o p) env)::starEach es env:=by rfl
theorem ni {a p}:starEach (.List a p::es) env=(false,eval (.List a p) env)::starEach es env:=by rfl
theorem gB {a g s p}:starEach (.ListComp a g s p::es) env=(false,eval (.ListComp a g s p) env)::starEach es env:=by rfl
theorem ar:(backTo pos (starEach [] env)).any (·.1)=false:=by rfl
theorem ay {e:Expr}(hs:starEach (e::es) env=(false,eval e env)::starEach es env)(h:(backTo pos (starEach es env)).any (·.1)=false):(backTo pos (starEach (e::es) env)).any (·.1)=false:=by
 rw[hs]
 show ((false||(backTo pos (starEach es env)).any (·.1)):Bool)=false
 rw[h];rfl
end
section
variable {P:Program}{w:World}{K:PySem.W.Frag}{mg:Str->Option Value}{base:Heap}{x:Str}{f:Addr}{fd:FuncData}{ps:List Str}{k:Nat}{sp:Sp}{fn:List W->M W}
end
end L2
set_option maxHeartbeats 1000000
namespace L2
open PySem PySem.Spec PyProof.Rows
section
variable {X:Cx}{E:XK}{p pos:Pos}{a b:Expr}{l:Env'->M (List W)}{CF:Addr}{raised:List Str}
variable {x n f:Str}{e b0:Expr}{es:List Expr}{s0:Stmt}{suite:List Stmt}{np hpos tpos epos:Pos}{fn:List W->M W}{g:Env'->M Fl}{k i m:Nat}{fA:Addr}{fd:FuncData}{ps:List Str}
end
end L2
set_option maxHeartbeats 1000000
namespace L2
open PySem
theorem dX {α β:Type}{f:M α}{g:α->M β}{h h':List Ob}{a:α}(e:f h=.ok a h'):bd f g h=g a h':=by unfold bd;rw[e]
@[simp] theorem bd_pr {α β:Type}(a:α)(g:α->M β):bd (pr a) g=g a:=rfl
@[simp] theorem bd_no {α β:Type}(g:α->M β):bd (no:M α) g=no:=rfl
theorem aq {α:Type}{p:Prop} [Decidable p] {m:M α}(hp:p):gd p m=m:=by funext h;unfold gd;rw[if_pos hp]
@[simp] theorem addW_int (i j:Int):addW (.int i) (.int j)=pr (.int (i+j)):=rfl
theorem qm {a b:Str}(h:a.length+b.length<=sizeLine):addW (.str a) (.str b)=pr (.str (a++b)):=by unfold addW;exact aq h
@[simp] theorem subW_int (i j:Int):subW (.int i) (.int j)=pr (.int (i - j)):=aq trivial
theorem dl {i j:Int}(h:CMulA i j):mulW (.int i) (.int j)=pr (.int (i * j)):=by unfold mulW;exact aq h
theorem tJ {i j:Int}(h1: -(2 ^ 64)<i)(h2:i<2 ^ 64):CMulA i j:=.inl (.inl ⟨h1,h2⟩)
theorem ij {i j:Int}(h1: -(2 ^ 64)<j)(h2:j<2 ^ 64):CMulA i j:=.inl (.inr ⟨h1,h2⟩)
theorem i5 {i j:Int}(h1:0<j)(h2:j<2 ^ 200):fdivW (.int i) (.int j)=pr (.int (i / j)):=aq ⟨h1,h2⟩
theorem dm {i j:Int}(h1:0<j):modW (.int i) (.int j)=pr (.int (i % j)):=aq h1
theorem fB {i j:Int}(h:CPow i j):powW (.int i) (.int j)=pr (.int (i ^ j.toNat)):=aq h
@[simp] theorem ltW_int (i j:Int):ltW (.int i) (.int j)=pr (.bl (decide (i<j))):=aq trivial
@[simp] theorem leW_int (i j:Int):leW (.int i) (.int j)=pr (.bl (decide (i<=j))):=aq trivial
@[simp] theorem gtW_int (i j:Int):gtW (.int i) (.int j)=pr (.bl (decide (j<i))):=aq trivial
@[simp] theorem geW_int (i j:Int):geW (.int i) (.int j)=pr (.bl (decide (j<=i))):=aq trivial
@[simp] theorem asB_bl (b:Bool):asB (.bl b)=pr b:=rfl
@[simp] theorem eqW_int (i j:Int):eqW (.int i) (.int j)=pr (.bl (decide (i=j))):=by
  funext h
  show Rs.ok (W.bl (decide (V.int i=V.int j))) h=Rs.ok (W.bl (decide (i=j))) h
  congr 2
  rw[decide_eq_decide]
  exact⟨V.int.inj,congrArg _⟩
@[simp] theorem eqW_str (i j:Str):eqW (.str i) (.str j)=pr (.bl (decide (i=j))):=by
  funext h
  show Rs.ok (W.bl (decide (V.str i=V.str j))) h=Rs.ok (W.bl (decide (i=j))) h
  congr 2
  rw[decide_eq_decide]
  exact⟨V.str.inj,congrArg _⟩
@[simp] theorem neW_int (i j:Int):neW (.int i) (.int j)=pr (.bl (!decide (i=j))):=by
  funext h
  show Rs.ok (W.bl (!decide (V.int i=V.int j))) h=Rs.ok (W.bl (!decide (i=j))) h
  congr 3
  rw[decide_eq_decide]
  exact⟨V.int.inj,congrArg _⟩
@[simp] theorem neW_str (i j:Str):neW (.str i) (.str j)=pr (.bl (!decide (i=j))):=by
  funext h
  show Rs.ok (W.bl (!decide (V.str i=V.str j))) h=Rs.ok (W.bl (!decide (i=j))) h
  congr 3
  rw[decide_eq_decide]
  exact⟨V.str.inj,congrArg _⟩
@[simp] theorem neW_bl (i j:Bool):neW (.bl i) (.bl j)=pr (.bl (!decide (i=j))):=by
  funext h
  show Rs.ok (W.bl (!decide (V.bl i=V.bl j))) h=Rs.ok (W.bl (!decide (i=j))) h
  congr 3
  rw[decide_eq_decide]
  exact⟨V.bl.inj,congrArg _⟩
theorem gq {l:List W}{i:Int}{w:W}(h:atI l i=some w):ixW (.tl l) (.int i)=pr w:=by
 funext hh
 unfold ixW
 have:ixO (.tl l) (.int i) hh=some w:=h
 rw[this];rfl
theorem fL {l:List W}{i:Int}{w:W}(h:atI l i=some w):ixW (.tup l) (.int i)=pr w:=by
 funext hh
 unfold ixW
 have:ixO (.tup l) (.int i) hh=some w:=h
 rw[this];rfl
theorem rH {z:Str}{i:Int}{c:Nat}(hz:z.length<=sizeLine)(h:atI z.cps.toList i=some c):ixW (.str z) (.int i)=pr (.str ⟨#[c]⟩):=by
 funext hh
 unfold ixW
 have:ixO (.str z) (.int i) hh=some (.str ⟨#[c]⟩):=by
  show (if z.length<=sizeLine then (atI z.cps.toList i).map fun c=>W.str ⟨#[c]⟩ else none)=_
  rw[if_pos hz,h];rfl
 rw[this];rfl
@[simp] theorem slW_tl (l:List W)(lo hi:Option Int):slW (.tl l) lo hi=pr (.tl (cutW l lo hi)):=rfl
@[simp] theorem slW_cl (l:List W)(lo hi:Option Int):slW (.cl l) lo hi=pr (.tl (cutW l lo hi)):=rfl
@[simp] theorem lenW_tl (l:List W):lenW [.tl l]=pr (.int l.length):=rfl
@[simp] theorem lenW_tup (l:List W):lenW [.tup l]=pr (.int l.length):=rfl
theorem di {α:Type}{xs:List α}{i:Int}{v:α}(h0:0<=i)(h:xs[i.toNat]?=some v):atI xs i=some v:=by
 have q:=rQ h
 have e:((i.toNat:Nat):Int)=i:=by omega
 rw[e] at q;exact q
def finF:Fl->M W:=fun x=>match x with
 |.rt w=>pr w
 |.nx _=>pr .non
 |_=>no
theorem gdn0 {α:Type}(m:M α):gd (0<=sizeLine) m=m:=aq (by decide)
theorem gdn1 {α:Type}(m:M α):gd (0+1<=sizeLine) m=m:=aq (by decide)
theorem gdn2 {α:Type}(m:M α):gd (0+1+1<=sizeLine) m=m:=aq (by decide)
theorem gdn3 {α:Type}(m:M α):gd (0+1+1+1<=sizeLine) m=m:=aq (by decide)
theorem gdn4 {α:Type}(m:M α):gd (0+1+1+1+1<=sizeLine) m=m:=aq (by decide)
theorem gdn5 {α:Type}(m:M α):gd (0+1+1+1+1+1<=sizeLine) m=m:=aq (by decide)
theorem gdn6 {α:Type}(m:M α):gd (0+1+1+1+1+1+1<=sizeLine) m=m:=aq (by decide)
theorem gdn7 {α:Type}(m:M α):gd (0+1+1+1+1+1+1+1<=sizeLine) m=m:=aq (by decide)
theorem gdn8 {α:Type}(m:M α):gd (0+1+1+1+1+1+1+1+1<=sizeLine) m=m:=aq (by decide)
theorem gdn9 {α:Type}(m:M α):gd (0+1+1+1+1+1+1+1+1+1<=sizeLine) m=m:=aq (by decide)
theorem gdn10 {α:Type}(m:M α):gd (0+1+1+1+1+1+1+1+1+1+1<=sizeLine) m=m:=aq (by decide)
theorem gdn11 {α:Type}(m:M α):gd (0+1+1+1+1+1+1+1+1+1+1+1<=sizeLine) m=m:=aq (by decide)
theorem gdn12 {α:Type}(m:M α):gd (0+1+1+1+1+1+1+1+1+1+1+1+1<=sizeLine) m=m:=aq (by decide)
theorem gdn13 {α:Type}(m:M α):gd (0+1+1+1+1+1+1+1+1+1+1+1+1+1<=sizeLine) m=m:=aq (by decide)
theorem gdn14 {α:Type}(m:M α):gd (0+1+1+1+1+1+1+1+1+1+1+1+1+1+1<=sizeLine) m=m:=aq (by decide)
theorem gdn15 {α:Type}(m:M α):gd (0+1+1+1+1+1+1+1+1+1+1+1+1+1+1+1<=sizeLine) m=m:=aq (by decide)
theorem gdn16 {α:Type}(m:M α):gd (0+1+1+1+1+1+1+1+1+1+1+1+1+1+1+1+1<=sizeLine) m=m:=aq (by decide)
theorem gdn17 {α:Type}(m:M α):gd (0+1+1+1+1+1+1+1+1+1+1+1+1+1+1+1+1+1<=sizeLine) m=m:=aq (by decide)
theorem gdn18 {α:Type}(m:M α):gd (0+1+1+1+1+1+1+1+1+1+1+1+1+1+1+1+1+1+1<=sizeLine) m=m:=aq (by decide)
theorem gdn19 {α:Type}(m:M α):gd (0+1+1+1+1+1+1+1+1+1+1+1+1+1+1+1+1+1+1+1<=sizeLine) m=m:=aq (by decide)
theorem gdn20 {α:Type}(m:M α):gd (0+1+1+1+1+1+1+1+1+1+1+1+1+1+1+1+1+1+1+1+1<=sizeLine) m=m:=aq (by decide)
theorem gdn21 {α:Type}(m:M α):gd (0+1+1+1+1+1+1+1+1+1+1+1+1+1+1+1+1+1+1+1+1+1<=sizeLine) m=m:=aq (by decide)
theorem gdn22 {α:Type}(m:M α):gd (0+1+1+1+1+1+1+1+1+1+1+1+1+1+1+1+1+1+1+1+1+1+1<=sizeLine) m=m:=aq (by decide)
theorem gdn23 {α:Type}(m:M α):gd (0+1+1+1+1+1+1+1+1+1+1+1+1+1+1+1+1+1+1+1+1+1+1+1<=sizeLine) m=m:=aq (by decide)
theorem gdn24 {α:Type}(m:M α):gd (0+1+1+1+1+1+1+1+1+1+1+1+1+1+1+1+1+1+1+1+1+1+1+1+1<=sizeLine) m=m:=aq (by decide)
theorem dw {α:Type}{m:M α}{inst:Decidable (true=true)}: @gd α (true=true) inst m=m:= @aq α (true=true) inst m rfl
theorem aQ {src:Env'->M Sr}{t:W->Env'->Option Env'}{f:Env'->M Bool}{e:Env'->M W}{n:Nat}{ρ:Env'}:mComp [] src t f e n ρ=bd (src ρ) fun s=>gd (s.l.length<=sizeLine) (compM s.G t f e n s.l ρ):=by unfold mComp;exact aq rfl
end L2
set_option maxHeartbeats 1000000
namespace L2
open PySem
theorem o7 {α:Type}{f:W->Option α}{g:α->W}(hf: ∀a,f (g a)=some a): ∀l:List α,optL f (l.map g)=some l
 |[]=>rfl
 |a::l=>by
  show (match f (g a),optL f (l.map g) with
   |some b,some r=>some (b::r)
   |_,_=>none)=_
  rw[hf,o7 hf l]
theorem cy {β:Type}{α:Type}{f:W->Option β}{g:α->W}{k:α->β}(hf: ∀a,f (g a)=some (k a)): ∀l:List α,optL f (l.map g)=some (l.map k)
 |[]=>rfl
 |a::l=>by
  show (match f (g a),optL f (l.map g) with
   |some b,some r=>some (b::r)
   |_,_=>none)=_
  rw[hf,cy hf l];rfl
theorem nV {l m:List W}{ds es:List PyData}{h:List Ob}(h1:optL (dataH h 49) l=some ds)(h2:optL (dataH h 49) m=some es)(c1:PyData.canLayAll0 ds=true)(c2:PyData.canLayAll0 es=true):eqB (.tl l) (.tl m) h=some (PyData.eqvAll ds es):=by
 show (match (optL (dataH h 49) l).map PyData.list,(optL (dataH h 49) m).map PyData.list with
  |some d,some e=>if d.canLay0=true/\e.canLay0=true then some (PyData.eqv d e) else none
  |_,_=>none)=_
 rw[h1,h2]
 show (if (PyData.list ds).canLay0=true/\(PyData.list es).canLay0=true then some (PyData.eqv (.list ds) (.list es)) else none)=_
 rw[if_pos ⟨by rw[PyData.canLay0];exact c1,by rw[PyData.canLay0];exact c2⟩,PyData.eqv]
theorem jH {x y:W}{b:Bool}(h:∀h,eqB x y h=some b):eqW x y=pr (.bl b):=by funext hh;unfold eqW;rw[h];rfl
mutual
theorem kK: ∀d:PyData,d.canLay0=true->PyData.eqv d d=true
 |.none,_=>by rw[PyData.eqv]
 |.bool b,_=>by rw[PyData.eqv];simp
 |.int b,_=>by rw[PyData.eqv];simp
 |.str b,_=>by rw[PyData.eqv];simp
 |.list l,h=>by rw[PyData.eqv];exact dh l (by rw[PyData.canLay0] at h;exact h)
 |.tuple l,h=>by rw[PyData.eqv];exact dh l (by rw[PyData.canLay0] at h;exact h)
 |.dict l,h=>by rw[PyData.canLay0] at h;cases h
theorem dh: ∀l:List PyData,PyData.canLayAll0 l=true->PyData.eqvAll l l=true
 |[],_=>by rw[PyData.eqvAll]
 |d::l,h=>by
  rw[PyData.canLayAll0,Bool.and_eq_true] at h
  rw[PyData.eqvAll,kK d h.1,dh l h.2];rfl
end
theorem qi {α:Type}{k:α->PyData}: ∀ (l:List α),(∀a∈l,(k a).canLay0=true)->PyData.canLayAll0 (l.map k)=true
 |[],_=>by rw[List.map_nil,PyData.canLayAll0]
 |a::l,h=>by rw[List.map_cons,PyData.canLayAll0,h a List.mem_cons_self,qi l fun b hb=>h b (List.mem_cons_of_mem _ hb)];rfl
end L2
set_option maxHeartbeats 1000000
namespace L2
open PySem PySem.Spec PyProof.Rows
section
variable {X:Cx}{E:XK}{p pos:Pos}
def enumT (ws:List W):M Sr:=match ws with
 |[w]=>bd (srcT w) fun s=>pr ⟨numd 0 s.l,s.G⟩
 |_=>no
theorem pG {a:Expr}{elts:List Expr}{x1}{tpos:Pos}{fl:Env'->M (List W)}(hm:X.mg "enumerate"=none)(ha:JA X E [a] fl)(hg:Gl X "enumerate":=by rfl)(hs:starEach [a] X.env=[(false,eval a X.env)]:=by rfl):
  JI X E (.Tuple elts x1 tpos) (.Call (.Name "enumerate" p) [a] [] pos) (mSrcA fl enumT):=(oS hg hm ha.h hs).imp fun σ H Q h=>by
 obtain⟨o,ρ,rfl,R,S,h⟩:=h
 refine⟨o,ρ,rfl,R,S,Ps.bd h fun p x vx e1 R1 r1 h1=>?_⟩
 rcases x with _|⟨w,_|⟨_,_⟩⟩
 ·exact h1.elim
 ·have h1:Ps (cg X E) (fun p s J=>SrcOk X.K p J s) p (bd (srcT w) (fun s=>pr ⟨numd 0 s.l,s.G⟩) p.h) Q:=h1
  obtain⟨v,rfl,r⟩:=r1.one
  cases w with
  |tup l=>
   unfold Rv at r
   obtain⟨a,vs,rfl,s,r⟩:=r
   have h1:Ps (cg X E) (fun p s J=>SrcOk X.K p J s) p (pr ⟨numd 0 l,fun _=>True⟩ p.h) Q:=h1
   refine⟨a,rfl,⟨vs,s⟩,h1.pr R1 ⟨fun o X R g=>⟨vs,X.rdT R1 s,by rw[r.len];exact (cI _ _).symm⟩,fun o i w X R g e=>?_⟩⟩
   obtain⟨x,e1,rfl⟩:=cW _ _ _ _ e
   obtain⟨v,hv,rv⟩:=(r.mono R1 X).get e1
   have sq:=X.rdT R1 s
   refine⟨⟨vs,v,sq,hv⟩,fun y H' q=>?_⟩
   obtain⟨T,z,hT,rfl,hz,rfl⟩:=q
   have:z=v:=by have:=hz vs sq;rw[hv] at this;exact (Option.some.inj this).symm
   subst this
   refine⟨⟨o.mu,o.h,upd o.H T (.tup [.int i,z])⟩,rfl,rfl,Ex.new hT,R.new hT,Rv.newT R hT (Rvs.cons (rv_int.mpr (by simp)) (Rvs.cons rv Rvs.nil))⟩
  |_=>exact h1.elim
 ·exact h1.elim
variable {o e:Expr}{apos cpos:Pos}{fo:Env'->M W}{l:Env'->M (List W)}
end
end L2
set_option maxHeartbeats 1000000
namespace L2
open PySem
theorem br {α β:Type}(a:α)(g:α->M β):bd (pr a) g=g a:=funext fun h=>dX (f:=pr a) (a:=a) (h:=h) (h':=h) rfl
def Ok {α:Type}(m:M α)(h:List Ob)(Q:α->List Ob->Prop):Prop:= ∃a h',m h=.ok a h'/\Q a h'
section
variable {α β:Type}{m:M α}{k:α->M β}{h h':List Ob}{a:α}
theorem Ok.imp {P Q:α->List Ob->Prop}(p:Ok m h P)(q:∀a h',P a h'->Q a h'):Ok m h Q:=let ⟨a,h',e,r⟩:=p;⟨a,h',e,q a h' r⟩
theorem bS {P:α->List Ob->Prop}{Q:β->List Ob->Prop}(p:Ok m h P)(q:∀a h',P a h'->Ok (k a) h' Q):Ok (bd m k) h Q:=by
 obtain⟨a,h',e,r⟩:=p
 obtain⟨b,h2,e2,r2⟩:=q a h' r
 exact⟨b,h2,(dX e).trans e2,r2⟩
theorem aX {Q:β->List Ob->Prop}(e:m h=.ok a h')(q:Ok (k a) h' Q):Ok (bd m k) h Q:=by
 obtain⟨b,h2,e2,r2⟩:=q
 exact⟨b,h2,(dX e).trans e2,r2⟩
theorem aw {Q:α->List Ob->Prop}(q:Q a h):Ok (pr a) h Q:=⟨a,h,rfl,q⟩
end
section
variable {β:Type}{h:List Ob}{Q:β->List Ob->Prop}{j:Nat}{l:List W}
theorem ka {i:Int}{w:W}{k:W->M β}(e:h[j]?=some (.lst l))(e2:atI l i=some w)(q:Ok (k w) h Q):Ok (bd (ixW (.loc j) (.int i)) k) h Q:=by
 refine aX (a:=w) (h':=h) ?_ q
 have d:dicOf (.loc j) h=none:=by unfold dicOf;simp only[e]
 have lo:lstOf (.loc j) h=.ok l h:=by unfold lstOf;simp only[e]
 have:ixO (.loc j) (.int i) h=some w:=by
  unfold ixO
  simp only[d,lo,e2]
 unfold ixW
 rw[this]
theorem se {n:Int}{i:Nat}{v:W}{k:Unit->M β}(e:h[j]?=some (.lst l))(e2:ixN l.length n=some i)(q:Ok (k ()) (h.set j (.lst (l.set i v))) Q):Ok (bd (fV (.loc j) (.int n) v) k) h Q:=by
 refine aX (a:=()) (h':=h.set j (.lst (l.set i v))) ?_ q
 unfold fV
 simp only[e,e2]
theorem jv {w:W}{k:W->M β}(e:h[j]?=some (.lst l))(z:l.length<sizeLine)(q:Ok (k .non) (h.set j (.lst (l++[w]))) Q):Ok (bd (cG (.loc j) [w]) k) h Q:=by
 refine aX (a:=.non) (h':=h.set j (.lst (l++[w]))) ?_ q
 unfold cG
 simp only[e,if_pos z]
theorem ie {k:W->M β}(e:h[j]?=some (.lst l))(q:Ok (k (.loc j)) h Q):Ok (bd (isL (.loc j)) k) h Q:=by
 refine aX (a:=.loc j) (h':=h) ?_ q
 unfold isL
 simp only[e]
theorem gf {k:W->M β}(q:Ok (k (.loc h.length)) (h++[.lst l]) Q):Ok (bd (newW l) k) h Q:=aX (a:=.loc h.length) (h':=h++[.lst l]) rfl q
theorem js {k:W->M β}(e:h[j]?=some (.lst l))(q:Ok (k (.tl l)) (h.set j .gone) Q):Ok (bd (iceW (.loc j)) k) h Q:=by
 refine aX (a:=.tl l) (h':=h.set j .gone) ?_ q
 unfold iceW
 simp only[e]
theorem tu {k:Sr->M β}(e:h[j]?=some (.lst l))(q:Ok (k ⟨l,fun h=>h[j]?=some (.lst l)⟩) h Q):Ok (bd (srcL (.loc j)) k) h Q:=by
 refine aX (a:=⟨l,fun h=>h[j]?=some (.lst l)⟩) (h':=h) ?_ q
 unfold srcL
 simp only[e]
noncomputable def Lw (h:List Ob)(x:W)(l:List W):Prop:=x=.tl l\/ ∃j,x=.loc j/\h[j]?=some (.lst l)
theorem Lw.of {x:W}(p:Lw h x l):lstOf x h=.ok l h:=by
 rcases p with rfl|⟨j,rfl,e⟩
 ·rfl
 ·unfold lstOf;simp only[e]
theorem Lw.len {x:W}{k:W->M β}(p:Lw h x l)(q:Ok (k (.int l.length)) h Q):Ok (bd (lenW [x]) k) h Q:=by
 refine aX (a:=.int l.length) (h':=h) ?_ q
 have e:=p.of
 rcases p with rfl|⟨j,rfl,_⟩
 ·rfl
 ·show bd (lstOf (.loc j)) (fun l=>pr (W.int l.length)) h=_
  rw[dX e];rfl
theorem Lw.ix {x w:W}{i:Int}{k:W->M β}(p:Lw h x l)(e2:atI l i=some w)(q:Ok (k w) h Q):Ok (bd (ixW x (.int i)) k) h Q:=by
 rcases p with rfl|⟨j,rfl,e⟩
 ·rw[gq e2,bd_pr];exact q
 ·exact ka e e2 q
theorem Lw.isi {x:W}{c:String}{b:Bool}{k:W->M β}(p:Lw h x l)(hc:c∈tys)(hb:isT "list" c=b)(q:Ok (k (.bl b)) h Q):Ok (bd (isiW [x,.ty c]) k) h Q:=by
 refine aX (a:=.bl b) (h':=h) ?_ q
 subst hb
 rcases p with rfl|⟨j,rfl,e⟩
 ·show (if c∈tys then Rs.ok (W.bl (isT "list" c)) h else .bad)=_
  rw[if_pos hc]
 ·unfold isiW
  have:tyN (.loc j) h=some "list":=by unfold tyN;simp only[e]
  simp only[this,if_pos hc]
theorem mG {i:Int}{c:String}{b:Bool}(hc:c∈tys)(hb:isT "int" c=b):isiW [.int i,.ty c]=pr (.bl b):=by
 funext h
 subst hb
 show (if c∈tys then Rs.ok (W.bl (isT "int" c)) h else .bad)=_
 rw[if_pos hc];rfl
theorem rJ {i:List W}{c:String}{b:Bool}(hc:c∈tys)(hb:isT "tuple" c=b):isiW [.tup i,.ty c]=pr (.bl b):=by
 subst hb
 show gd (c∈tys) (pr (W.bl (isT "tuple" c)))=_
 rw[aq hc]
end
theorem g7 {i:Int}(h0: -(2 ^ 62)<=i)(h1:i<2 ^ 62):rng1 [.int i]=pr ⟨intsW 0 i.toNat,fun _=>True⟩:=aq ⟨h0,h1⟩
theorem j0 {i j:Int}(h0: -(2 ^ 62)<=i)(h1:i<2 ^ 62)(h2: -(2 ^ 62)<=j)(h3:j<2 ^ 62):rng2 [.int i,.int j]=pr ⟨intsW i (j - i).toNat,fun _=>True⟩:=aq ⟨h0,h1,h2,h3⟩
theorem lP {G:List Ob->Prop}{t:W->Env'->Option Env'}{g:Env'->M Fl}(I:Nat->Env'->List Ob->Prop)(l:List W)(hG: ∀i ρ h,I i ρ h->G h)
  (hs: ∀i w ρ h,l[i]?=some w->I i ρ h-> ∃r,t w ρ=some r/\Ok (g r) h fun x h'=> ∃r',x=.nx r'/\I (i+1) r' h'):
  ∀ (m:List W) (n:Nat) (ρ:Env') (h:List Ob),l.drop n=m->n<=l.length->I n ρ h->Ok (forM G t g m ρ) h fun x h'=> ∃r',x=.nx r'/\I l.length r' h'
 |[],n,ρ,h,e,hn,i=>by
  have:l.length<=n:=List.drop_eq_nil_iff.mp e
  have hn:n=l.length:=by omega
  subst hn
  refine⟨.nx ρ,h,?_,ρ,rfl,i⟩
  unfold forM
  rw[dL (hG _ _ _ i)];rfl
 |w::m,n,ρ,h,e,hn,i=>by
  have hw:l[n]?=some w:=by
   have:=congrArg List.head? e
   rw[List.head?_drop,List.head?_cons] at this
   exact this
  have hl:n<l.length:=(List.getElem?_eq_some_iff.mp hw).1
  have em:l.drop (n+1)=m:=by rw[<-List.tail_drop,e];rfl
  obtain⟨r,e1,x,h',e2,r',rfl,i'⟩:=hs n w ρ h hw i
  obtain⟨y,h2,e3,q⟩:=lP I l hG hs m (n+1) r' h' em hl i'
  refine⟨y,h2,?_,q⟩
  unfold forM
  rw[dL (hG _ _ _ i),e1]
  dsimp only
  rw[dX e2]
  exact e3
theorem cz {β:Type}{G:List Ob->Prop}{t:W->Env'->Option Env'}{g:Env'->M Fl}{l:List W}{ρ:Env'}{h:List Ob}{k:Fl->M β}{Q:β->List Ob->Prop}(I:Nat->Env'->List Ob->Prop)(h0:I 0 ρ h)(hG: ∀i ρ h,I i ρ h->G h)
  (hs: ∀i w ρ h,l[i]?=some w->I i ρ h-> ∃r,t w ρ=some r/\Ok (g r) h fun x h'=> ∃r',x=.nx r'/\I (i+1) r' h')(hd: ∀ρ h,I l.length ρ h->Ok (k (.nx ρ)) h Q):Ok (bd (forM G t g l ρ) k) h Q:=
 bS (lP I l hG hs l 0 ρ h rfl (Nat.zero_le _) h0) fun x h' ⟨r',e,i⟩=>by subst e;exact hd r' h' i
theorem mQ {G:List Ob->Prop}{t:W->Env'->Option Env'}{f:Env'->M Bool}{g:Env'->M W}{c:Nat}{ρ:Env'}(I:Nat->List W->List Ob->Prop)(l:List W)(hf: ∀r,f r=pr true)(hG: ∀i a h,I i a h->G h)
  (hs: ∀i w a h,l[i]?=some w->I i a h-> ∃r,t w (List.replicate c none++ρ)=some r/\Ok (g r) h fun v h'=>I (i+1) (a++[v]) h'):
  ∀ (m:List W) (n:Nat) (a:List W) (h:List Ob),l.drop n=m->n<=l.length->I n a h->Ok (compM G t f g c m ρ) h fun r h'=>I l.length (a++r) h'
 |[],n,a,h,e,hn,i=>by
  have:l.length<=n:=List.drop_eq_nil_iff.mp e
  have hn:n=l.length:=by omega
  subst hn
  refine⟨[],h,?_,by show I l.length (a++[]) h;rw[List.append_nil];exact i⟩
  unfold compM
  rw[dL (hG _ _ _ i)];rfl
 |w::m,n,a,h,e,hn,i=>by
  have hw:l[n]?=some w:=by
   have:=congrArg List.head? e
   rw[List.head?_drop,List.head?_cons] at this
   exact this
  have hl:n<l.length:=(List.getElem?_eq_some_iff.mp hw).1
  have em:l.drop (n+1)=m:=by rw[<-List.tail_drop,e];rfl
  obtain⟨r,e1,v,h',e2,i'⟩:=hs n w a h hw i
  obtain⟨y,h2,e3,q⟩:=mQ I l hf hG hs m (n+1) (a++[v]) h' em hl i'
  refine⟨v::y,h2,?_,by show I l.length (a++v::y) h2;have q:I l.length (a++[v]++y) h2:=q;rw[List.append_assoc] at q;exact q⟩
  unfold compM
  rw[dL (hG _ _ _ i),e1]
  dsimp only
  rw[hf,bd_pr,if_pos rfl,dX e2,dX e3];rfl
theorem cO {β:Type}{G:List Ob->Prop}{t:W->Env'->Option Env'}{f:Env'->M Bool}{g:Env'->M W}{c:Nat}{ρ:Env'}{l:List W}{h:List Ob}{k:List W->M β}{Q:β->List Ob->Prop}(I:Nat->List W->List Ob->Prop)(h0:I 0 [] h)(hf: ∀r,f r=pr true)(hG: ∀i a h,I i a h->G h)
  (hs: ∀i w a h,l[i]?=some w->I i a h-> ∃r,t w (List.replicate c none++ρ)=some r/\Ok (g r) h fun v h'=>I (i+1) (a++[v]) h')(hd: ∀a h,I l.length a h->Ok (k a) h Q):Ok (bd (compM G t f g c l ρ) k) h Q:=
 bS (mQ I l hf hG hs l 0 [] h rfl (Nat.zero_le _) h0) fun r h' i=>hd r h' i
theorem dE (r:Env'):mYes r=pr true:=rfl
structure Fr (j:Nat)(h h':List Ob):Prop where
 len:h'.length=h.length
 eq: ∀i,i≠j->h'[i]?=h[i]?
theorem Fr.trans {j:Nat}{a b c:List Ob}(x:Fr j a b)(y:Fr j b c):Fr j a c:=⟨y.len.trans x.len,fun i hi=>(y.eq i hi).trans (x.eq i hi)⟩
theorem Fr.set {j:Nat}{h:List Ob}{b:Ob}:Fr j h (h.set j b):=⟨List.length_set ..,fun i hi=>by rw[List.getElem?_set_ne (Ne.symm hi)]⟩
theorem fu {j:Nat}{h:List Ob}{a b:Ob}(e:h[j]?=some a):(h.set j b)[j]?=some b:=by
 rw[List.getElem?_set_self (List.getElem?_eq_some_iff.mp e).1]
theorem d5 {j:Nat}{h:List Ob}{a:Ob}(e:h[j]?=some a):j<h.length:=(List.getElem?_eq_some_iff.mp e).1
theorem mI {j:Nat}{h r:List Ob}{a:Ob}(e:h[j]?=some a):(h++r)[j]?=some a:=by
 rw[List.getElem?_append_left (d5 e)];exact e
theorem fM {h:List Ob}{a:Ob}:(h++[a])[h.length]?=some a:=by simp
theorem least {p:Nat->Prop}: ∀ {n:Nat},(∃r,r<n/\p r)-> ∃r,r<n/\p r/\ ∀j,j<r-> ¬p j
 |0,⟨_,h,_⟩=>absurd h (Nat.not_lt_zero _)
 |n+1,⟨r,h,q⟩=>by
  by_cases z: ∃r,r<n/\p r
  ·obtain⟨r,h1,h2,h3⟩:=least z
   exact⟨r,by omega,h2,h3⟩
  ·have:r=n:=by
    by_cases e:r<n
    ·exact absurd ⟨r,e,q⟩ z
    ·omega
   subst this
   exact⟨r,h,q,fun j hj hp=>z ⟨j,hj,hp⟩⟩
end L2
namespace L2
open PySem
theorem jt {G:List Ob->Prop}{t:W->Env'->Option Env'}{g:Env'->M Fl}{l:List W}{ρ:Env'}{h:List Ob}{Q:Fl->List Ob->Prop}(I:Nat->Env'->List Ob->Prop)(h0:I 0 ρ h)(hG: ∀i ρ h,I i ρ h->G h)
  (hs: ∀i w ρ h,l[i]?=some w->I i ρ h-> ∃r,t w ρ=some r/\Ok (g r) h fun x h'=> ∃r',x=.nx r'/\I (i+1) r' h')(hd: ∀ρ h,I l.length ρ h->Q (.nx ρ) h):Ok (forM G t g l ρ) h Q:=
 (lP I l hG hs l 0 ρ h rfl (Nat.zero_le _) h0).imp fun x h' ⟨r',e,i⟩=>by subst e;exact hd r' h' i
theorem p8 (l:List W):enumL [.tl l]=pr ⟨numd 0 l,fun _=>True⟩:=rfl
theorem nW (l:List W):enumT [.tup l]=pr ⟨numd 0 l,fun _=>True⟩:=rfl
theorem dq (l:List W):lstOf (.tl l)=pr l:=rfl
theorem ix0 (a:W)(l:List W):ixW (.tup (a::l)) (.int 0)=pr a:=fL (di (by decide) rfl)
theorem ix1 (a b:W)(l:List W):ixW (.tup (a::b::l)) (.int 1)=pr b:=fL (di (by decide) rfl)
theorem ix2 (a b c:W)(l:List W):ixW (.tup (a::b::c::l)) (.int 2)=pr c:=fL (di (by decide) rfl)
theorem ix4 (a b c d e:W)(l:List W):ixW (.tup (a::b::c::d::e::l)) (.int 4)=pr e:=fL (di (by decide) rfl)
theorem ix5 (a b c d e f:W)(l:List W):ixW (.tup (a::b::c::d::e::f::l)) (.int 5)=pr f:=fL (di (by decide) rfl)
theorem rO {α:Type}(f:α->W)(l:List α)(lo hi:Option Int):cutW (l.map f) lo hi=(cutW l lo hi).map f:=by
 unfold cutW
 rw[List.length_map,List.map_take,List.map_drop]
end L2
set_option maxHeartbeats 2000000
namespace L2
open PySem PySem.Spec PyProof.Rows
open Sem (wp)
open Builtin
noncomputable def ItAt (h:Heap)(T:String)(j l:Addr)(i:Nat):Prop:= ∃o,h.get? j=some o/\o.cls=.type T/\o.data=.fields #[.ref l,.int i 0]
noncomputable def SeqAt (h:Heap)(T:String)(l:Addr)(its:Array Value):Prop:=(T= "list_iterator"/\h.IsList l its)\/(T= "tuple_iterator"/\h.IsTuple l its)
theorem SeqAt.keep {h h':Heap}{T:String}{l:Addr}{its:Array Value}(x:SeqAt h T l its)(k:∀o,h.get? l=some o->h'.get? l=some o):SeqAt h' T l its:=
 x.imp (fun⟨e,o,a,b⟩=>⟨e,o,k o a,b⟩) fun⟨e,o,a,b⟩=>⟨e,o,k o a,b⟩
theorem ItAt.keep {h h':Heap}{T:String}{j l:Addr}{i:Nat}(x:ItAt h T j l i)(k:∀o,h.get? j=some o->h'.get? j=some o):ItAt h' T j l i:=let ⟨o,a,b⟩:=x;⟨o,k o a,b⟩
theorem dz {prog:Program}{w:World}{A:Around}(hh:A.handled=none)(T:String)(j l:Addr)(hne:l≠j)(its:Array Value):Draws prog w A j [j,l] its.size (fun i v=>its[i]?=some v) (fun i h=>ItAt h T j l i/\SeqAt h T l its) where
 live:=fun _ _ st=>let ⟨o,q,_⟩:=st.1;⟨o,q⟩
 frame:=fun _ _ _ st k=>⟨st.1.keep fun o q=>k j (by simp) o q,st.2.keep fun o q=>k l (by simp) o q⟩
 item:=fun i s Q E hi st k=>by
  obtain⟨a,⟨rfl,b⟩|⟨rfl,b⟩⟩:=st
  ·exact (Draws.list (prog:=prog) (w:=w) hh j l hne its).item i s Q E hi ⟨a,b⟩ fun x h' tk p st sb=>k x h' tk p ⟨st.1,.inl ⟨rfl,st.2⟩⟩ sb
  ·exact (eK (prog:=prog) (w:=w) hh j l hne its).item i s Q E hi ⟨a,b⟩ fun x h' tk p st sb=>k x h' tk p ⟨st.1,.inr ⟨rfl,st.2⟩⟩ sb
 done:=fun s Q E st k=>by
  obtain⟨a,⟨rfl,b⟩|⟨rfl,b⟩⟩:=st
  ·exact (Draws.list (prog:=prog) (w:=w) hh j l hne its).done s Q E ⟨a,b⟩ k
  ·exact (eK (prog:=prog) (w:=w) hh j l hne its).done s Q E ⟨a,b⟩ k
section
variable {prog:Program}{w:World}{A:Around}{E:Value->Shared->Prop}{s:Shared}
theorem kJ {l:Addr}{T:String}{its:Array Value}{Q:Value->Shared->Prop}(hl:SeqAt s.heap T l its)(k:Q (.ref s.heap.objs.size) {s with heap:=s.heap.push {cls:=.type T,data:=.fields #[.ref l,.int 0 0]}}):wpAny (model prog w) A (pyIter (.ref l)) Q E s:=by
 obtain⟨rfl,hl⟩|⟨rfl,hl⟩:=hl
 ·exact wpAny_pyIter_list hl k
 ·exact wpAny_pyIter_tuple hl k
structure ZA (z TI TO i1 i2 l1 l2:Addr):Prop where
 a1:TI≠z
 a2:TO≠z
 a3:i1≠z
 a4:i2≠z
 a5:TI≠TO
 a6:TI≠i1
 a7:TI≠i2
 a8:TO≠i1
 a9:TO≠i2
 b1:i1≠i2
 b2:l1≠z
 b3:l1≠TO
 b4:l1≠i1
 b5:l1≠i2
 b6:l2≠z
 b7:l2≠TO
 b8:l2≠i1
 b9:l2≠i2
structure ZS (h:Heap)(z TI TO i1 i2 l1 l2:Addr)(T1 T2:String)(xs ys:Array Value)(n:Nat)(f0:Value):Prop where
 z:IsZip h z TI TO f0
 ti:IsPair h TI (.ref i1) (.ref i2)
 to: ∃a b,IsPair h TO a b
 u1:ItAt h T1 i1 l1 n
 u2:ItAt h T2 i2 l2 n
 s1:SeqAt h T1 l1 xs
 s2:SeqAt h T2 l2 ys
theorem on {z TI TO i1 i2 l1 l2:Addr}{T1 T2:String}{n:Nat}{xs ys:Array Value}{x y:Value}{Q:Value->Shared->Prop}(hh:A.handled=none)(D:ZA z TI TO i1 i2 l1 l2)(Z:ZS s.heap z TI TO i1 i2 l1 l2 T1 T2 xs ys n .none)(hx:xs[n]?=some x)(hy:ys[n]?=some y)
  (k:∀h' tk,ZS h' z TI TO i1 i2 l1 l2 T1 T2 xs ys (n+1) (rawInt s.heap.objs.size)->IsPair h' s.heap.objs.size x y->h'.objs.size=s.heap.objs.size+1->(∀c o,c≠z->c≠TO->c≠i1->c≠i2->s.heap.get? c=some o->h'.get? c=some o)->Q (.ref s.heap.objs.size) {s with heap:=h',toks:=tk}):
  wpAny (model prog w) A (Builtin.«zip.__next__» ⟨[.ref z],[]⟩) (fun fin s'=> ∃v,fin=.done (.ret v)/\Q v s') E s:=by
 obtain⟨hz,hti,⟨a,b,hto⟩,u1,u2,s1,s2⟩:=Z
 have nx:n<xs.size:=(Array.getElem?_eq_some_iff.mp hx).1
 have ny:n<ys.size:=(Array.getElem?_eq_some_iff.mp hy).1
 show wpAny _ _ (field (.ref z) 2>>=_) _ _ s;refine wpAny_bind (wpAny_field hz rfl (x:=.bool false) rfl ?_)
 show wpAny _ _ (field (.ref z) 3>>=_) _ _ s;refine wpAny_bind (wpAny_field hz rfl (x:=.ref TI) rfl (wpAny_bind (wpAny_seqItems hti rfl ?_)))
 show wpAny _ _ (SmallTypes.ownedTupleIsFree (.ref z)>>=_) _ _ s
 refine wpAny_bind ?_;unfold SmallTypes.ownedTupleIsFree
 refine wpAny_bind (wpAny_field hz rfl (x:=.none) rfl (wpAny_pure ?_));simp only[if_true]
 refine wpAny_bind (wpAny_rule (wpAny_bind (wpAny_field hz rfl (x:=.ref TO) rfl (wpAny_bind (wpAny_setField_rec hz (by simp) fun h1 z1 e1=>?_)))))
 replace z1:IsZip h1 z TI TO .ellipsis:=z1
 refine wpAny_bind ?_;simp only[List.zipIdx_cons,List.zipIdx_nil,List.forIn_cons,List.forIn_nil]
 refine wpAny_bind (wpAny_bind (wpAny_onRaise ?_));show wpAny _ _ (SmallTypes.nextOf (.ref i1)>>=_) _ _ _
 refine wpAny_bind ((dz (prog:=prog) (w:=w) hh T1 i1 l1 D.b4 xs).item n _ _ _ nx ⟨u1.keep fun o q=>e1.extBut _ _ D.a3 q,s1.keep fun o q=>e1.extBut _ _ D.b2 q⟩ fun x' h2 tk2 px st2 e2=>wpAny_pure ?_)
 have:x'=x:=Option.some.inj (px.symm.trans hx)
 subst this
 have to2:IsPair h2 TO a b:=e2.extBut _ _ D.a8 (e1.extBut _ _ D.a2 hto)
 refine wpAny_bind (wpAny_seqItems to2 rfl (wpAny_bind (wpAny_updateSeq_pair to2 fun h3 to3 e3=>?_)))
 replace to3:IsPair h3 TO x' b:=to3
 refine wpAny_bind (wpAny_letGo (wpAny_pure (wpAny_bind (wpAny_bind (wpAny_onRaise ?_)))));show wpAny _ _ (SmallTypes.nextOf (.ref i2)>>=_) _ _ _
 refine wpAny_bind ((dz (prog:=prog) (w:=w) hh T2 i2 l2 D.b9 ys).item n _ _ _ ny ⟨u2.keep fun o q=>e3.extBut _ _ (Ne.symm D.a9) (e2.extBut _ _ (Ne.symm D.b1) (e1.extBut _ _ D.a4 q)),s2.keep fun o q=>e3.extBut _ _ D.b7 (e2.extBut _ _ D.b8 (e1.extBut _ _ D.b6 q))⟩ fun y' h4 tk4 py st4 e4=>wpAny_pure ?_)
 have:y'=y:=Option.some.inj (py.symm.trans hy)
 subst this
 have to4:IsPair h4 TO x' b:=e4.extBut _ _ D.a9 to3
 refine wpAny_bind (wpAny_seqItems to4 rfl (wpAny_bind (wpAny_updateSeq_pair to4 fun h5 to5 e5=>?_)))
 replace to5:IsPair h5 TO x' y':=to5
 refine wpAny_bind (wpAny_letGo (wpAny_pure (wpAny_pure ?_)));refine wpAny_bind (wpAny_seqItems to5 rfl (wpAny_bind (wpAny_newTuple ?_)))
 have zs:h5.objs.size=s.heap.objs.size:=by rw[e5.1,e4.1,e3.1,e2.1,e1.1]
 have z5:IsZip h5 z TI TO .ellipsis:=e5.extBut _ _ (Ne.symm D.a2) (e4.extBut _ _ (Ne.symm D.a4) (e3.extBut _ _ (Ne.symm D.a2) (e2.extBut _ _ (Ne.symm D.a3) z1)))
 have k5: ∀c o,c≠z->c≠TO->c≠i1->c≠i2->s.heap.get? c=some o->h5.get? c=some o:=fun c o c1 c2 c3 c4 e=>e5.extBut _ _ c2 (e4.extBut _ _ c4 (e3.extBut _ _ c2 (e2.extBut _ _ c3 (e1.extBut _ _ c1 e))))
 have zl:z<h5.objs.size:=Heap.lt_size z5
 show wpAny _ _ (SmallTypes.ownedTupleHandOut (.ref z) (.ref h5.objs.size)>>=_) _ _ _
 refine wpAny_bind ?_;unfold SmallTypes.ownedTupleHandOut
 have z6:IsZip (h5.push {cls:=.type "tuple",data:=.seq #[x',y']}) z TI TO .ellipsis:=Heap.get?_push_of_some _ z5
 refine wpAny_bind (wpAny_setField_rec z6 (by simp) fun h7 z7 e7=>?_)
 replace z7:IsZip h7 z TI TO (rawInt h5.objs.size):=z7
 refine wpAny_setField_rec z7 (by simp) fun h8 z8 e8=>?_
 replace z8:IsZip h8 z TI TO (rawInt h5.objs.size):=z8
 have up: ∀c o,c≠z->h5.get? c=some o->h8.get? c=some o:=fun c o c1 e=>e8.extBut _ _ c1 (e7.extBut _ _ c1 (Heap.get?_push_of_some _ e))
 have pr8:IsPair h8 h5.objs.size x' y':=e8.extBut _ _ (Nat.ne_of_gt zl) (e7.extBut _ _ (Nat.ne_of_gt zl) (Heap.get?_push_size _ rfl))
 have sz8:h8.objs.size=h5.objs.size+1:=by rw[e8.1,e7.1,Heap.size_push]
 rw[zs] at z8 pr8 sz8
 refine wpAny_pure ⟨_,rfl,?_⟩
 show Q (.ref h5.objs.size) _
 rw[zs]
 refine k h8 _ ⟨z8,up _ _ D.a1 (k5 _ _ D.a1 D.a5 D.a6 D.a7 hti),⟨_,_,up _ _ D.a2 to5⟩,?_,?_,s1.keep fun o q=>up _ _ D.b2 (k5 _ _ D.b2 D.b3 D.b4 D.b5 q),s2.keep fun o q=>up _ _ D.b6 (k5 _ _ D.b6 D.b7 D.b8 D.b9 q)⟩ pr8 sz8 fun c o c1 c2 c3 c4 e=>up c o c1 (k5 c o c1 c2 c3 c4 e)
 ·exact st2.1.keep fun o q=>up _ _ D.a3 (e5.extBut _ _ (Ne.symm D.a8) (e4.extBut _ _ D.b1 (e3.extBut _ _ (Ne.symm D.a8) q)))
 ·exact st4.1.keep fun o q=>up _ _ D.a4 (e5.extBut _ _ (Ne.symm D.a9) q)
theorem qq {z TI TO i1 i2 l1 l2:Addr}{T1 T2:String}{n:Nat}{xs ys:Array Value}{Q:Fin->Shared->Prop}(hh:A.handled=none)(D:ZA z TI TO i1 i2 l1 l2)(Z:ZS s.heap z TI TO i1 i2 l1 l2 T1 T2 xs ys n .none)(he:(n=xs.size/\n<=ys.size)\/(n<xs.size/\n=ys.size))
  (k:∀h' tk e,(∀c o,c≠z->c≠TO->c≠i1->c≠i2->s.heap.get? c=some o->h'.get? c=some o)->(∃o,h'.get? e=some o/\o.cls=.type "StopIteration")->E (.ref e) {s with heap:=h',toks:=tk}):
  wpAny (model prog w) A (Builtin.«zip.__next__» ⟨[.ref z],[]⟩) Q E s:=by
 obtain⟨hz,hti,⟨a,b,hto⟩,u1,u2,s1,s2⟩:=Z
 show wpAny _ _ (field (.ref z) 2>>=_) _ _ s;refine wpAny_bind (wpAny_field hz rfl (x:=.bool false) rfl ?_)
 show wpAny _ _ (field (.ref z) 3>>=_) _ _ s;refine wpAny_bind (wpAny_field hz rfl (x:=.ref TI) rfl (wpAny_bind (wpAny_seqItems hti rfl ?_)))
 show wpAny _ _ (SmallTypes.ownedTupleIsFree (.ref z)>>=_) _ _ s
 refine wpAny_bind ?_;unfold SmallTypes.ownedTupleIsFree
 refine wpAny_bind (wpAny_field hz rfl (x:=.none) rfl (wpAny_pure ?_));simp only[if_true]
 refine wpAny_bind (wpAny_rule (wpAny_bind (wpAny_field hz rfl (x:=.ref TO) rfl (wpAny_bind (wpAny_setField_rec hz (by simp) fun h1 z1 e1=>?_)))))
 replace z1:IsZip h1 z TI TO .ellipsis:=z1
 refine wpAny_bind ?_;simp only[List.zipIdx_cons,List.zipIdx_nil,List.forIn_cons,List.forIn_nil]
 refine wpAny_bind (wpAny_bind (wpAny_onRaise ?_));show wpAny _ _ (SmallTypes.nextOf (.ref i1)>>=_) _ _ _
 have st1:ItAt h1 T1 i1 l1 n/\SeqAt h1 T1 l1 xs:=⟨u1.keep fun o q=>e1.extBut _ _ D.a3 q,s1.keep fun o q=>e1.extBut _ _ D.b2 q⟩
 rcases he with⟨rfl,_⟩|⟨nx,hy⟩
 ·refine wpAny_bind ((dz (prog:=prog) (w:=w) hh T1 i1 l1 D.b4 xs).done _ _ _ st1 fun h2 e e2 he=>?_)
  obtain⟨oe,g1,g2⟩:=he
  have z2:IsZip h2 z TI TO .ellipsis:=e2 _ _ (Ne.symm D.a3) z1
  have ez:e≠z:=fun q=>by subst q;rw[z2] at g1;cases g1;simp at g2
  exact wpAny_setField_rec z2 (by simp) fun h3 _ e3=>k h3 _ e (fun c o c1 _ c3 _ q=>e3.extBut _ _ c1 (e2 _ _ c3 (e1.extBut _ _ c1 q))) ⟨oe,e3.extBut _ _ ez g1,g2⟩
 ·refine wpAny_bind ((dz (prog:=prog) (w:=w) hh T1 i1 l1 D.b4 xs).item n _ _ _ nx st1 fun x' h2 tk2 px st2 e2=>wpAny_pure ?_)
  have to2:IsPair h2 TO a b:=e2.extBut _ _ D.a8 (e1.extBut _ _ D.a2 hto)
  refine wpAny_bind (wpAny_seqItems to2 rfl (wpAny_bind (wpAny_updateSeq_pair to2 fun h3 to3 e3=>?_)))
  refine wpAny_bind (wpAny_letGo (wpAny_pure (wpAny_bind (wpAny_bind (wpAny_onRaise ?_)))));show wpAny _ _ (SmallTypes.nextOf (.ref i2)>>=_) _ _ _
  subst hy
  refine wpAny_bind ((dz (prog:=prog) (w:=w) hh T2 i2 l2 D.b9 ys).done _ _ _ ⟨u2.keep fun o q=>e3.extBut _ _ (Ne.symm D.a9) (e2.extBut _ _ (Ne.symm D.b1) (e1.extBut _ _ D.a4 q)),s2.keep fun o q=>e3.extBut _ _ D.b7 (e2.extBut _ _ D.b8 (e1.extBut _ _ D.b6 q))⟩ fun h4 e e4 he=>?_)
  obtain⟨oe,g1,g2⟩:=he
  have z4:IsZip h4 z TI TO .ellipsis:=e4 _ _ (Ne.symm D.a4) (e3.extBut _ _ (Ne.symm D.a2) (e2.extBut _ _ (Ne.symm D.a3) z1))
  have ez:e≠z:=fun q=>by subst q;rw[z4] at g1;cases g1;simp at g2
  exact wpAny_setField_rec z4 (by simp) fun h5 _ e5=>k h5 _ e (fun c o c1 c2 c3 c4 q=>e5.extBut _ _ c1 (e4 _ _ c4 (e3.extBut _ _ c2 (e2.extBut _ _ c3 (e1.extBut _ _ c1 q))))) ⟨oe,e5.extBut _ _ ez g1,g2⟩
theorem pw {z TI TO i1 i2 l1 l2:Addr}{T1 T2:String}{n:Nat}{xs ys:Array Value}{x y:Value}{Q:Option Value->Shared->Prop}(hh:A.in1.handled=none)(D:ZA z TI TO i1 i2 l1 l2)(Z:ZS s.heap z TI TO i1 i2 l1 l2 T1 T2 xs ys n .none)(hx:xs[n]?=some x)(hy:ys[n]?=some y)
  (k:∀h' tk,ZS h' z TI TO i1 i2 l1 l2 T1 T2 xs ys (n+1) (rawInt s.heap.objs.size)->IsPair h' s.heap.objs.size x y->h'.objs.size=s.heap.objs.size+1->(∀c o,c≠z->c≠TO->c≠i1->c≠i2->s.heap.get? c=some o->h'.get? c=some o)->Q (some (.ref s.heap.objs.size)) {s with heap:=h',toks:=tk}):
  wpAny (model prog w) A (pyNext (.ref z)) Q E s:=by
 have hT:s.TypeIs (.ref z) "zip":=⟨_,Z.z,rfl⟩
 unfold pyNext
 exact wpAny_bind (wpAny_attempt (wpAny_callSpecial?_slot (name:=Str.ofString "__next__") hT F.slot_zip_next (wpAny_call_entry F.slot_zip_next hT F.entry_zip_next (on hh D Z hx hy fun h' tk a1 a2 a3 a4=>wpAny_pure (k h' tk a1 a2 a3 a4)) (F.args_zip_next_1 _))))
theorem rM {z TI TO i1 i2 l1 l2:Addr}{T1 T2:String}{n:Nat}{xs ys:Array Value}{Q:Option Value->Shared->Prop}(hh:A.in1.handled=none)(D:ZA z TI TO i1 i2 l1 l2)(Z:ZS s.heap z TI TO i1 i2 l1 l2 T1 T2 xs ys n .none)(he:(n=xs.size/\n<=ys.size)\/(n<xs.size/\n=ys.size))
  (k:∀h' tk,(∀c o,c≠z->c≠TO->c≠i1->c≠i2->s.heap.get? c=some o->h'.get? c=some o)->Q none {s with heap:=h',toks:=tk}):wpAny (model prog w) A (pyNext (.ref z)) Q E s:=by
 have hT:s.TypeIs (.ref z) "zip":=⟨_,Z.z,rfl⟩
 unfold pyNext
 refine wpAny_bind (wpAny_attempt (wpAny_callSpecial?_slot (name:=Str.ofString "__next__") hT F.slot_zip_next (wpAny_call_entry F.slot_zip_next hT F.entry_zip_next (qq hh D Z he fun h' tk e hk ⟨o,g1,g2⟩=>?_) (F.args_zip_next_1 _))))
 exact wpAny_bind (wpAny_isInstance (T:= "StopIteration") (b:=true) ⟨o,g1,g2⟩ isSubtype_stop (wpAny_pure (k _ _ hk)))
end
noncomputable abbrev zA (h:Heap)(T:String)(l:Addr):Heap:=h.push {cls:=.type T,data:=.fields #[.ref l,.int 0 0]}
theorem lF (l1 l2:Addr)(T1 T2:String)(xs ys:Array Value):
  Meets (Builtin.«zip.__new__» ⟨[.type "zip",.ref l1,.ref l2],[]⟩) (fun _ R s=>SeqAt s.heap T1 l1 xs/\SeqAt s.heap T2 l2 ys/\
   R (.ok (.ret (.ref ((((zA (zA s.heap T1 l1) T2 l2).push {cls:=.type "tuple",data:=.seq #[.ref s.heap.objs.size,.ref (zA s.heap T1 l1).objs.size]}).push {cls:=.type "tuple",data:=.seq #[.none,.none]}).objs.size))))
     {s with heap:=(((zA (zA s.heap T1 l1) T2 l2).push {cls:=.type "tuple",data:=.seq #[.ref s.heap.objs.size,.ref (zA s.heap T1 l1).objs.size]}).push {cls:=.type "tuple",data:=.seq #[.none,.none]}).push {cls:=.type "zip",data:=.fields #[.none,.bool false,.bool false,.ref (zA (zA s.heap T1 l1) T2 l2).objs.size,.ref ((zA (zA s.heap T1 l1) T2 l2).push {cls:=.type "tuple",data:=.seq #[.ref s.heap.objs.size,.ref (zA s.heap T1 l1).objs.size]}).objs.size]}}):=
 .of_wp fun prog w A R s h=>by
  obtain⟨hp,g,d,tk,os⟩:=s;obtain⟨q1,q2,h⟩:=h
  have hsub:=sub_zip
  have r1:SeqAt (Shared.heap ⟨hp,g,d,tk,os⟩) T1 l1 xs:=q1
  have r2:SeqAt (Shared.heap ⟨hp.push {cls:=.type T1,data:=.fields #[.ref l1,.int 0 0]},g,d,tk,os⟩) T2 l2 ys:=q2.keep fun o e=>Heap.get?_push_of_some _ e
  wp_walk using kJ r1,kJ r2
  exact⟨_,rfl,h⟩
section
variable {prog:Program}{w:World}{A:Around}{E:Value->Shared->Prop}{s:Shared}
theorem og {l1 l2:Addr}{T1 T2:String}{xs ys:Array Value}{Q:Value->Shared->Prop}(q1:SeqAt s.heap T1 l1 xs)(q2:SeqAt s.heap T2 l2 ys)
  (k:∀h',ZS h' (s.heap.objs.size+4) (s.heap.objs.size+2) (s.heap.objs.size+3) s.heap.objs.size (s.heap.objs.size+1) l1 l2 T1 T2 xs ys 0 .none->h'.objs.size=s.heap.objs.size+5->(∀c o,s.heap.get? c=some o->h'.get? c=some o)->Q (.ref (s.heap.objs.size+4)) {s with heap:=h'}):
  wpAny (model prog w) A (call (.type "zip") [.ref l1,.ref l2]) Q E s:=by
 refine callType_new F.called_zip (by decide) (F.typeCall_zip_2 _ _) (F.newCall_zip_2 _ _) (fun obj=>F.args_object_init_3 obj _ _) F.entry_zip_new (lF l1 l2 T1 T2 xs ys) ⟨q1,q2,?_⟩
 have y1:(zA s.heap T1 l1).objs.size=s.heap.objs.size+1:=Heap.size_push ..
 have y2:(zA (zA s.heap T1 l1) T2 l2).objs.size=s.heap.objs.size+2:=by rw[Heap.size_push,y1]
 generalize e2:zA (zA s.heap T1 l1) T2 l2=H2 at *
 have y3:(H2.push {cls:=.type "tuple",data:=.seq #[.ref s.heap.objs.size,.ref (zA s.heap T1 l1).objs.size]}).objs.size=s.heap.objs.size+3:=by rw[Heap.size_push,y2]
 have g3:(H2.push {cls:=.type "tuple",data:=.seq #[.ref s.heap.objs.size,.ref (zA s.heap T1 l1).objs.size]}).get? H2.objs.size=some _:=Heap.get?_push_size _ rfl
 have up3: ∀c o,H2.get? c=some o->(H2.push {cls:=.type "tuple",data:=.seq #[.ref s.heap.objs.size,.ref (zA s.heap T1 l1).objs.size]}).get? c=some o:=fun c o e=>Heap.get?_push_of_some _ e
 generalize H2.push {cls:=.type "tuple",data:=.seq #[.ref s.heap.objs.size,.ref (zA s.heap T1 l1).objs.size]}=H3 at *
 have y4:(H3.push {cls:=.type "tuple",data:=.seq #[.none,.none]}).objs.size=s.heap.objs.size+4:=by rw[Heap.size_push,y3]
 have g4:(H3.push {cls:=.type "tuple",data:=.seq #[.none,.none]}).get? H3.objs.size=some _:=Heap.get?_push_size _ rfl
 have up4: ∀c o,H3.get? c=some o->(H3.push {cls:=.type "tuple",data:=.seq #[.none,.none]}).get? c=some o:=fun c o e=>Heap.get?_push_of_some _ e
 generalize H3.push {cls:=.type "tuple",data:=.seq #[.none,.none]}=H4 at *
 have y5:(H4.push {cls:=.type "zip",data:=.fields #[.none,.bool false,.bool false,.ref H2.objs.size,.ref H3.objs.size]}).objs.size=s.heap.objs.size+5:=by rw[Heap.size_push,y4]
 have g5:(H4.push {cls:=.type "zip",data:=.fields #[.none,.bool false,.bool false,.ref H2.objs.size,.ref H3.objs.size]}).get? H4.objs.size=some _:=Heap.get?_push_size _ rfl
 have up5: ∀c o,H4.get? c=some o->(H4.push {cls:=.type "zip",data:=.fields #[.none,.bool false,.bool false,.ref H2.objs.size,.ref H3.objs.size]}).get? c=some o:=fun c o e=>Heap.get?_push_of_some _ e
 generalize H4.push {cls:=.type "zip",data:=.fields #[.none,.bool false,.bool false,.ref H2.objs.size,.ref H3.objs.size]}=H5 at *
 have u2:H2.get? (s.heap.objs.size+1)=some {cls:=.type T2,data:=.fields #[.ref l2,.int 0 0]}:=by rw[<-e2,<-y1];exact Heap.get?_push_size _ rfl
 have u1:H2.get? s.heap.objs.size=some {cls:=.type T1,data:=.fields #[.ref l1,.int 0 0]}:=by rw[<-e2];exact Heap.get?_push_of_some _ (Heap.get?_push_size _ rfl)
 have kk: ∀c o,s.heap.get? c=some o->H2.get? c=some o:=fun c o e=>by rw[<-e2];exact Heap.get?_push_of_some _ (Heap.get?_push_of_some _ e)
 have up: ∀c o,H2.get? c=some o->H5.get? c=some o:=fun c o e=>up5 c o (up4 c o (up3 c o e))
 show _/\_
 rw[y4] at g5 ⊢
 rw[y2,y3] at g5
 rw[y2,y1] at g3
 rw[y3] at g4
 exact⟨⟨_,g5,rfl⟩,k _ ⟨g5,up5 _ _ (up4 _ _ g3),⟨_,_,up5 _ _ g4⟩,⟨_,up _ _ u1,rfl,rfl⟩,⟨_,up _ _ u2,rfl,rfl⟩,q1.keep fun o e=>up _ _ (kk _ _ e),q2.keep fun o e=>up _ _ (kk _ _ e)⟩ y5 fun c o e=>up c o (kk c o e)⟩
end
end L2
set_option maxHeartbeats 2000000
namespace L2
open PySem PySem.Spec PyProof.Rows
def SqK (k:Bool)(K:PySem.W.Frag)(H:Hp)(a:Addr)(xs:List V):Prop:=match k with
 |true=>SqT K H a xs
 |false=>SqL K H a xs
noncomputable def tyK (k:Bool):String:=match k with
 |true=> "tuple_iterator"
 |false=> "list_iterator"
section
variable {X:Cx}{pins:List (Addr×Obj)}{σ:St}{H:Hp}{s:Shared}{a:Addr}{xs ys:List V}{k:Bool}
theorem Inv.seqK (I:Inv X pins σ H s)(h:SqK k X.K H a xs): ∃its:List Value,Vals xs its/\SeqAt s.heap (tyK k) a its.toArray:=by
 cases k with
 |false=>
  obtain⟨its,rv,p,_⟩:=I.list h
  exact⟨its,rv,.inl ⟨rfl,p.isList⟩⟩
 |true=>
  obtain⟨its,rv,p,_⟩:=I.tuple h
  exact⟨its,rv,.inr ⟨rfl,tupOf p⟩⟩
theorem Inv.seqK_inj (I:Inv X pins σ H s)(h:SqK k X.K H a xs)(g:SqK k X.K H a ys):xs=ys:=by
 cases k with
 |false=>exact I.list_inj h g
 |true=>exact I.tuple_inj h g
end
def Itz (j k:Bool)(K:PySem.W.Frag)(a b:Addr):It:=
 ⟨fun i H=> ∃xs ys x y,SqK j K H a xs/\SqK k K H b ys/\xs[i]?=some x/\ys[i]?=some y,fun i H v H'=> ∃T x y,H T=none/\v=.ref T/\(∀xs ys,SqK j K H a xs->SqK k K H b ys->xs[i]?=some x/\ys[i]?=some y)/\H'=upd H T (.tup [x,y]),fun i H=> ∃xs ys,SqK j K H a xs/\SqK k K H b ys/\min xs.length ys.length=i⟩
structure ZO (h:Heap)(z TI TO i1 i2 a b:Addr)(T1 T2:String)(n:Nat)(f0:Value):Prop where
 z:IsZip h z TI TO f0
 ti:IsPair h TI (.ref i1) (.ref i2)
 to: ∃u v,IsPair h TO u v
 u1:ItAt h T1 i1 a n
 u2:ItAt h T2 i2 b n
theorem ZO.keep {h h':Heap}{z TI TO i1 i2 a b:Addr}{T1 T2:String}{n:Nat}{f0:Value}(Z:ZO h z TI TO i1 i2 a b T1 T2 n f0)(k:∀c∈[z,TI,TO,i1,i2],∀o,h.get? c=some o->h'.get? c=some o):ZO h' z TI TO i1 i2 a b T1 T2 n f0:=
 ⟨k z (by simp) _ Z.z,k TI (by simp) _ Z.ti,let ⟨u,v,q⟩:=Z.to;⟨u,v,k TO (by simp) _ q⟩,Z.u1.keep fun o q=>k i1 (by simp) o q,Z.u2.keep fun o q=>k i2 (by simp) o q⟩
theorem ou {P:Program}{w:World}{K:PySem.W.Frag}{elts:List Expr}{x1}{tpos:Pos}{a b z TI TO i1 i2:Addr}{j k:Bool}(D:ZA z TI TO i1 i2 a b):Turn P w K (.Tuple elts x1 tpos) (Itz j k K a b) [z,TI,TO,i1,i2] z (fun i h=>ZO h z TI TO i1 i2 a b (tyK j) (tyK k) i .none) where
 mem:=by simp
 obj:=fun i h st c hc=>by
  simp only[List.mem_cons,List.not_mem_nil,or_false] at hc
  rcases hc with rfl|rfl|rfl|rfl|rfl
  ·exact⟨_,st.z,fun v z=>by cases z⟩
  ·exact⟨_,st.ti,fun v z=>by cases z⟩
  ·obtain⟨_,_,q⟩:=st.to
   exact⟨_,q,fun v z=>by cases z⟩
  ·obtain⟨o,e,c,d⟩:=st.u1
   exact⟨o,e,fun v z=>by rw[d] at z;cases z⟩
  ·obtain⟨o,e,c,d⟩:=st.u2
   exact⟨o,e,fun v z=>by rw[d] at z;cases z⟩
 keep:=fun i h h' st kk=>st.keep kk
 item:=by
  intro X hP hw hK hc i pins s σ H E I hf st hg
  subst hP hw hK
  obtain⟨xs,ys,x,y,hq1,hq2,hx,hy⟩:=hg
  obtain⟨is1,rv1,q1⟩:=I.seqK hq1
  obtain⟨is2,rv2,q2⟩:=I.seqK hq2
  obtain⟨u,hu,ru⟩:=rv1.get hx
  obtain⟨v,hv,rv⟩:=rv2.get hy
  have fz:=hf z (by simp)
  have fO:=hf TO (by simp)
  have f1:=hf i1 (by simp)
  have f2:=hf i2 (by simp)
  refine pw (I.ok.hd hc) D ⟨st.z,st.ti,st.to,st.u1,st.u2,q1,q2⟩ (by simpa using hu) (by simpa using hv) fun h' tk Z' hT hsz hk=>?_
  have nT:H s.heap.objs.size=none:=I.hok.fresh (Nat.le_refl _)
  have lt: ∀c o,s.heap.get? c=some o->c≠s.heap.objs.size:=fun c o q=>Nat.ne_of_lt (Heap.lt_size q)
  have ltH: ∀c o,H c=some o->c≠s.heap.objs.size:=fun c o q z=>by rw[z,nT] at q;cases q
  have neH: ∀c o,H c=some o->c≠z/\c≠TO/\c≠i1/\c≠i2:=fun c o q=>⟨fun z=>by (rw[z,fz.1] at q;cases q),fun z=>by (rw[z,fO.1] at q;cases q),fun z=>by (rw[z,f1.1] at q;cases q),fun z=>by (rw[z,f2.1] at q;cases q)⟩
  have hk': ∀c o,c ∉ [z,TO,i1,i2]->s.heap.get? c=some o->h'.get? c=some o:=fun c o n q=>hk c o (fun z=>n (by simp [z])) (fun z=>n (by simp [z])) (fun z=>n (by simp [z])) (fun z=>n (by simp [z])) q
  have I1:Inv X pins σ (upd H s.heap.objs.size (.tup [x,y])) {s with heap:=h',toks:=tk}:=by
   refine I.call' (s':={s with heap:=h',toks:=tk}) (ch:=[z,TO,i1,i2]) rfl ⟨fun b o q n hb hx=>?_,fun b o q n hb hx=>?_,fun b o q n hx=>?_,fun b o q hx=>?_,fun b xs q=>?_,fun b o u q=>?_,fun b ps q=>?_⟩ (fun b o q=>?_) I.bare fun b hb=>?_
   ·exact hk' b o hx q
   ·exact⟨o.slots,hk' b o hx q⟩
   ·rw[ap (lt b o q)];exact n
   ·exact⟨o,hk' b o hx q⟩
   ·rw[ap (ltH b _ q)];exact q
   ·rw[ap (ltH b _ q)];exact q
   ·exact⟨#[],by rw[ap (ltH b _ q),q];simp⟩
   ·by_cases hb:b=s.heap.objs.size
    ·subst hb
     rw[aR] at q
     cases q
     exact⟨by show 2<=sizeLine;decide,_,.cons ru (.cons rv .nil),⟨_,hT,rfl,_,rfl⟩,_,hT,rfl⟩
    ·rw[ap hb] at q
     refine (I.hok b o q).stay (fun c v hc r=>?_) (fun c r=>by rw[ap (ltH c _ r)];exact r) fun c xs r=>by rw[ap (ltH c _ r)];exact r
     have: ∃o,H c=some o:=by
      rcases hc with rfl|hc
      ·exact⟨o,q⟩
      ·exact⟨_,hc⟩
     obtain⟨o',qo⟩:=this
     obtain⟨n1,n2,n3,n4⟩:=neH c o' qo
     exact hk c v n1 n2 n3 n4 r
   ·have fb:FpOk X pins H b:=by
     simp only[List.mem_cons,List.not_mem_nil,or_false] at hb
     rcases hb with rfl|rfl|rfl|rfl
     ·exact fz
     ·exact fO
     ·exact f1
     ·exact f2
    exact⟨fb.2.2.2.1,fb.2.1,fb.2.2.2.2.1,fb.2.2.2.2.2⟩
  refine⟨_,rfl,wpAny_letOwnedTupleGo_zip (s:={s with heap:=h',toks:=tk}) Z'.z fun h2 hz2 hs2=>?_⟩
  have nn: ∀c∈[z,TI,TO,i1,i2],c≠s.heap.objs.size:=fun c hc=>by
   simp only[List.mem_cons,List.not_mem_nil,or_false] at hc
   rcases hc with rfl|rfl|rfl|rfl|rfl
   ·exact lt _ _ st.z
   ·exact lt _ _ st.ti
   ·obtain⟨_,_,q⟩:=st.to;exact lt _ _ q
   ·obtain⟨o,e,_⟩:=st.u1;exact lt _ _ e
   ·obtain⟨o,e,_⟩:=st.u2;exact lt _ _ e
  have fe':(upd H s.heap.objs.size (.tup [x,y])) z=none:=by rw[ap (nn z (by simp))];exact fz.1
  refine⟨.ref s.heap.objs.size,upd H s.heap.objs.size (.tup [x,y]),?_,rfl,⟨s.heap.objs.size,x,y,nT,rfl,fun xs' ys' h1 h2=>by rw[I.seqK_inj h1 hq1,I.seqK_inj h2 hq2];exact⟨hx,hy⟩,rfl⟩,?_,fun c hc=>?_⟩
  ·exact I1.turned (t':=tk) (fun b o hb eo=>(hs2.2 b hb).trans eo) fe' fz.2.1 fz.2.2.2.1 fz.2.2.2.2.1 fz.2.2.2.2.2
  ·have up: ∀c o,c≠z->h'.get? c=some o->h2.get? c=some o:=fun c o n q=>hs2.extBut _ _ n q
   obtain⟨u',v',q⟩:=Z'.to
   exact⟨hz2,up _ _ D.a1 Z'.ti,⟨u',v',up _ _ D.a2 q⟩,Z'.u1.keep fun o q=>up _ _ D.a3 q,Z'.u2.keep fun o q=>up _ _ D.a4 q⟩
  ·rw[ap (nn c hc)]
   exact (hf c hc).1
 done:=by
  intro X hP hw hK hc i pins s σ H E I hf st hg
  subst hP hw hK
  obtain⟨xs,ys,hq1,hq2,hx⟩:=hg
  obtain⟨is1,rv1,q1⟩:=I.seqK hq1
  obtain⟨is2,rv2,q2⟩:=I.seqK hq2
  have l1:=rv1.length
  have l2:=rv2.length
  have fz:=hf z (by simp)
  have fO:=hf TO (by simp)
  have f1:=hf i1 (by simp)
  have f2:=hf i2 (by simp)
  refine rM (I.ok.hd hc) D ⟨st.z,st.ti,st.to,st.u1,st.u2,q1,q2⟩ (by
   rw[List.size_toArray,List.size_toArray]
   omega) fun h' tk hk=>⟨rfl,?_⟩
  refine I.call' (s':={s with heap:=h',toks:=tk}) (ch:=[z,TO,i1,i2]) rfl ⟨fun b o q n hb hx=>?_,fun b o q n hb hx=>?_,fun b o q n hx=>n,fun b o q hx=>?_,fun b xs q=>q,fun b o u q=>q,fun b ps q=>⟨#[],by rw[q];simp⟩⟩ (fun b o q=>?_) I.bare fun b hb=>?_
  ·exact hk b o (fun z=>hx (by simp [z])) (fun z=>hx (by simp [z])) (fun z=>hx (by simp [z])) (fun z=>hx (by simp [z])) q
  ·exact⟨o.slots,hk b o (fun z=>hx (by simp [z])) (fun z=>hx (by simp [z])) (fun z=>hx (by simp [z])) (fun z=>hx (by simp [z])) q⟩
  ·exact⟨o,hk b o (fun z=>hx (by simp [z])) (fun z=>hx (by simp [z])) (fun z=>hx (by simp [z])) (fun z=>hx (by simp [z])) q⟩
  ·refine (I.hok b o q).stay (fun c v hc r=>?_) (fun c r=>r) fun c xs r=>r
   have: ∃o,H c=some o:=by
    rcases hc with rfl|hc
    ·exact⟨o,q⟩
    ·exact⟨_,hc⟩
   obtain⟨o',qo⟩:=this
   exact hk c v (fun z=>by rw[z,fz.1] at qo;cases qo) (fun z=>by rw[z,fO.1] at qo;cases qo) (fun z=>by rw[z,f1.1] at qo;cases qo) (fun z=>by rw[z,f2.1] at qo;cases qo) r
  ·have fb:FpOk X pins H b:=by
    simp only[List.mem_cons,List.not_mem_nil,or_false] at hb
    rcases hb with rfl|rfl|rfl|rfl
    ·exact fz
    ·exact fO
    ·exact f1
    ·exact f2
   exact⟨fb.2.2.2.1,fb.2.1,fb.2.2.2.2.1,fb.2.2.2.2.2⟩
 self:=fun _ _ _ _ _ st h=>wpAny_pyIter_zip st.z h
section
variable {X:Cx}
def iZip (j k:Bool)(K:PySem.W.Frag)(ta:TA):TI:=fun σ H R=>ta σ H fun vs H1=> ∃a b,vs=[.ref a,.ref b]/\(∃xs,SqK j K H1 a xs)/\(∃ys,SqK k K H1 b ys)/\R (Itz j k K a b) H1
theorem sh (n a b:Nat)(h1:a<n)(h2:b<n):(n+2≠n+4/\n+3≠n+4/\n≠n+4/\n+1≠n+4/\n+2≠n+3/\n+2≠n/\n+2≠n+1/\n+3≠n/\n+3≠n+1)/\(n≠n+1/\a≠n+4/\a≠n+3/\a≠n/\a≠n+1/\b≠n+4/\b≠n+3/\b≠n/\b≠n+1):=by omega
theorem sg {n l1 l2:Addr}(h1:l1<n)(h2:l2<n):ZA (n+4) (n+2) (n+3) n (n+1) l1 l2:=
 by
 obtain⟨⟨a1,a2,a3,a4,a5,a6,a7,a8,a9⟩,b1,b2,b3,b4,b5,b6,b7,b8,b9⟩:=sh n l1 l2 h1 h2
 exact⟨a1,a2,a3,a4,a5,a6,a7,a8,a9,b1,b2,b3,b4,b5,b6,b7,b8,b9⟩
theorem sS {j k:Bool}{a b:Expr}{ta:TA}{p pos:Pos}{elts:List Expr}{x1}{tpos:Pos}(hg:Gl X "zip")(hm:X.mg "zip"=none)(ha:PA X [a,b] ta)(hs:starEach [a,b] X.env=[(false,eval a X.env),(false,eval b X.env)]:=by rfl)(hs2:starEach [b] X.env=[(false,eval b X.env)]:=by rfl):PI X (.Tuple elts x1 tpos) (.Call (.Name "zip" p) [a,b] [] pos) (iZip j k X.K ta):=by
 intro pins s σ H R I h
 refine Call_ (dj I hg hm boot_zip (PyProof.Rows.callWith_type1 (thn (ha pos pins s σ H _ I h) fun us s1 qz=>?_) (by rw[hs,hs2]) (by rw[hs2];rfl)))
 obtain⟨vs,H1,I1,r1,q1⟩:=qz
 obtain⟨a',b',e,⟨xs,hq1⟩,⟨ys,hq2⟩,q⟩:=q1
 subst e
 obtain⟨u,v,rfl,ru,rv⟩:=r1.two
 cases ru
 cases rv
 obtain⟨is1,rv1,t1⟩:=I1.seqK hq1
 obtain⟨is2,rv2,t2⟩:=I1.seqK hq2
 have lt: ∀ {T:String}{l:Addr}{u:Array Value},SeqAt s1.heap T l u->l<s1.heap.objs.size:=fun{T l u} h=>by
  rcases h with⟨_,o,e,_⟩|⟨_,o,e,_⟩<;>exact Heap.lt_size e
 refine og t1 t2 fun h' Z hsz hk=>wpAny_pyIter_zip Z.z ?_
 have I2:Inv X pins σ H1 {s1 with heap:=h'}:=I1.kept (t':=s1.toks) hk
 refine⟨s1.heap.objs.size+4,[s1.heap.objs.size+4,s1.heap.objs.size+2,s1.heap.objs.size+3,s1.heap.objs.size,s1.heap.objs.size+1],_,_,H1,rfl,I2,ou (j:=j) (k:=k) (sg (lt t1) (lt t2)),⟨Z.z,Z.ti,Z.to,Z.u1,Z.u2⟩,fun c hc=>?_,q⟩
 have hc':s1.heap.objs.size<=c:=by
  simp only[List.mem_cons,List.not_mem_nil,or_false] at hc
  rcases hc with rfl|rfl|rfl|rfl|rfl
  ·exact Nat.le_add_right _ _
  ·exact Nat.le_add_right _ _
  ·exact Nat.le_add_right _ _
  ·exact Nat.le_refl _
  ·exact Nat.le_add_right _ _
 exact I1.fpOk hc' (I1.hok.fresh hc')
end
end L2
set_option maxHeartbeats 2000000
namespace L2
open PySem PySem.Spec PyProof.Rows
open Builtin
section
variable {prog:Program}{w:World}{A:Around}{E:Value->Shared->Prop}
end
section
variable {X:Cx}
end
end L2
namespace L2
open PySem PySem.Spec PyProof.Rows
section
variable {X:Cx}
variable {o e:Expr}{es:List Expr}{to:TE}{t:TA}{name:Str}{apos cpos:Pos}{id:String}{r:V->List V->Hp->VK->Prop}
end
end L2
set_option maxHeartbeats 1000000
namespace L2
open PySem PySem.Spec PyProof.Rows
section
variable {X:Cx}{E:XK}{p pos:Pos}
def srcA (j:Bool):W->M Sr:=match j with
 |true=>srcT
 |false=>srcL
theorem md {j:Bool}{α β:Type}{r:Wo->α->β->Prop}{o:Wo}{w:W}{v:V}{k:Sr->M α}{Q:β->Hp->Prop}(R:Rel X.K o)(hr:Rv X.K o w v)(h:Ps (cg X E) r o (bd (srcA j w) k o.h) Q):
  ∃s a,v=.ref a/\(∃vs,SqK j X.K o.H a vs)/\(∀p,Ex o p->Rel X.K p->s.G p.h-> ∃vs,SqK j X.K p.H a vs/\Rvs X.K p s.l vs)/\Ps (cg X E) r o (k s o.h) Q:=by
 cases j with
 |false=>exact ma R hr h
 |true=>
  cases w with
  |tup l=>
   unfold Rv at hr
   obtain⟨a,vs,rfl,s,r'⟩:=hr
   exact⟨⟨l,fun _=>True⟩,a,rfl,⟨vs,s⟩,fun p X _ _=>⟨vs,X.rdT R s,r'.mono R X⟩,h⟩
  |_=>exact h.elim
noncomputable def zipW (l m:List W):List W:=List.zipWith (fun a b=>.tup [a,b]) l m
theorem jP {l m:List W}{i:Nat}{w:W}(e:(zipW l m)[i]?=some w): ∃x y,l[i]?=some x/\m[i]?=some y/\w=.tup [x,y]:=by
 unfold zipW at e
 rw[List.getElem?_zipWith] at e
 cases h1:l[i]? with
 |none=>rw[h1] at e;cases e
 |some x=>
  cases h2:m[i]? with
  |none=>rw[h1,h2] at e;cases e
  |some y=>rw[h1,h2] at e;cases e;exact⟨x,y,rfl,rfl,rfl⟩
def srcZ (j k:Bool)(ws:List W):M Sr:=match ws with
 |[x,y]=>bd (srcA j x) fun s=>bd (srcA k y) fun t=>pr ⟨zipW s.l t.l,fun h=>s.G h/\t.G h⟩
 |_=>no
theorem pC (j k:Bool){a b:Expr}{elts:List Expr}{x1}{tpos:Pos}{fl:Env'->M (List W)}(hm:X.mg "zip"=none)(ha:JA X E [a,b] fl)(hg:Gl X "zip":=by rfl)(hs:starEach [a,b] X.env=[(false,eval a X.env),(false,eval b X.env)]:=by rfl)(hs2:starEach [b] X.env=[(false,eval b X.env)]:=by rfl):
  JI X E (.Tuple elts x1 tpos) (.Call (.Name "zip" p) [a,b] [] pos) (mSrcA fl (srcZ j k)):=(sS (j:=j) (k:=k) hg hm ha.h hs hs2).imp fun σ H Q h=>by
 obtain⟨o,ρ,rfl,R,S,h⟩:=h
 refine⟨o,ρ,rfl,R,S,Ps.bd h fun p x vx e1 R1 r1 h1=>?_⟩
 rcases x with _|⟨w,_|⟨w2,_|⟨_,_⟩⟩⟩
 ·exact h1.elim
 ·exact h1.elim
 ·have h1:Ps (cg X E) (fun p s J=>SrcOk X.K p J s) p (bd (srcA j w) (fun s=>bd (srcA k w2) fun t=>pr ⟨zipW s.l t.l,fun h=>s.G h/\t.G h⟩) p.h) Q:=h1
  obtain⟨v,u,rfl,rv,ru⟩:=r1.two
  obtain⟨s,a,rfl,hq,sk,h1⟩:=md R1 rv h1
  obtain⟨t,b,rfl,hq2,sk2,h1⟩:=md R1 ru h1
  refine⟨a,b,rfl,hq,hq2,h1.pr R1 ⟨fun o X R g=>?_,fun o i w X R g e=>?_⟩⟩
  ·obtain⟨vs,k1,k2⟩:=sk o X R g.1
   obtain⟨us,k3,k4⟩:=sk2 o X R g.2
   exact⟨vs,us,k1,k3,by rw[k2.len,k4.len];show _=(zipW s.l t.l).length;unfold zipW;rw[List.length_zipWith]⟩
  ·obtain⟨vs,k1,k2⟩:=sk o X R g.1
   obtain⟨us,k3,k4⟩:=sk2 o X R g.2
   obtain⟨x,y,ex,ey,rfl⟩:=jP e
   obtain⟨v1,hv1,rv1⟩:=k2.get ex
   obtain⟨v2,hv2,rv2⟩:=k4.get ey
   refine⟨⟨vs,us,v1,v2,k1,k3,hv1,hv2⟩,fun q H' yl=>?_⟩
   obtain⟨T,z1,z2,hT,rfl,hz,rfl⟩:=yl
   obtain⟨g1,g2⟩:=hz vs us k1 k3
   have e1:z1=v1:=Option.some.inj (g1.symm.trans hv1)
   have e2:z2=v2:=Option.some.inj (g2.symm.trans hv2)
   subst e1 e2
   refine⟨⟨o.mu,o.h,upd o.H T (.tup [z1,z2])⟩,rfl,rfl,Ex.new hT,R.new hT,Rv.newT R hT (Rvs.cons rv1 (Rvs.cons rv2 Rvs.nil))⟩
 ·exact h1.elim
variable {o e:Expr}{apos cpos:Pos}{fo:Env'->M W}{l:Env'->M (List W)}
def fR (x:W)(ws:List W):M W:=match x,ws with
 |.loc k,[w]=>bd (lstO w) fun m h=>match h[k]? with
  |some (.lst l)=>if l.length+m.length<=sizeLine then .ok .non (h.set k (.lst (l++m))) else .bad
  |_=>.bad
 |_,_=>no
theorem nI (ho:JE X E o fo)(ha:JA X E [e] l)(hbase:attributeBase o "extend" X.env (eval o X.env)=eval o X.env:=by rfl)
  (hfew:((backTo cpos (starEach [e] X.env)).all (fun x=>!x.1) && (backToKw cpos (keywordEach [] X.env)).all (fun x=>x.1.isSome) && decide (([e]:List Expr).length+([]:List Keyword).length+(if ([]:List Keyword).isEmpty then 0 else 1)<30))=true:=by rfl)
  (hline:(apos.endLine==cpos.line)=true:=by rfl)(hs:starEach [e] X.env=(false,eval e X.env)::starEach [] X.env:=by rfl)(hplain:(backTo cpos (starEach [] X.env)).any (·.1)=false:=by rfl):
  JE X E (.Call (.Attribute o "extend" apos) [e] [] cpos) (mMeth isL fR fo l):=
 (r9 PySem.F.plainAttrs_list PySem.F.slot_list_extend PySem.F.type_list_extend nG ho.h ha.h hbase hfew hline hs hplain).imp fun σ H Q h=>by
  obtain⟨w,ρ,rfl,R,S,h⟩:=h
  refine⟨w,ρ,rfl,R,S,Ps.bd h fun p x vx e1 R1 r1 h1=>?_⟩
  obtain⟨j,l0,vs0,rfl,hj,rfl,hlt,hH,hl0,h1⟩:=pW R1 r1 h1
  refine⟨.inl ⟨rfl,vs0,.of hH⟩,p,ρ,rfl,R1,S.mono R e1,Ps.bd h1 fun q ws vs e2 R2 r2 h2=>?_⟩
  rcases ws with _|⟨w',_|⟨_,_⟩⟩
  ·exact h2.elim
  ·obtain⟨v,rfl,r⟩:=r2.one
   have h2:Ps (cg X E) (Rv X.K) q (bd (lstO w') (fun m h=>match h[j]? with
    |some (.lst l)=>if l.length+m.length<=sizeLine then .ok .non (h.set j (.lst (l++m))) else .bad
    |_=>.bad) q.h) Q:=h2
   obtain⟨m,am,us',rfl,hm,rm,h2⟩:=gL R2 r h2
   cases e:q.h[j]? with
   |none=>simp only[e] at h2;exact h2.elim
   |some b=>
    cases b with
    |lst l'=>
     simp only[e] at h2
     obtain⟨us,k1,k2⟩:=R2.ob j _ e
     by_cases z:l'.length+m.length<=sizeLine
     ·rw[if_pos z] at h2
      rw[e2.mu j hlt] at k1
      refine⟨p.mu j,am,us,us',rfl,rfl,k1,hm,by rw[k2.len,rm.len];exact z,?_⟩
      have:=Ps.at (p:=q.put j (.lst (l'++m)) (.lst (us++us'))) (b:=V.non) h2 rfl (Ex.put e (by simp)) (R2.putL e (by simp) (k2.app rm)) (rv_non.mpr rfl)
      have em:q.mu j=p.mu j:=e2.mu j hlt
      have ew:(q.put j (.lst (l'++m)) (.lst (us++us'))).H=upd q.H (p.mu j) (.lst (us++us')):=by
       show upd q.H (q.mu j) _=_
       rw[em]
      rw[ew] at this
      exact this
     ·rw[if_neg z] at h2;exact h2.elim
    |_=>simp only[e] at h2;exact h2.elim
  ·exact h2.elim
end
end L2
set_option maxHeartbeats 2000000
namespace L2
open PySem PySem.Spec PyProof.Rows
section
variable {X:Cx}
end
end L2
set_option maxHeartbeats 1000000
namespace L2
open PySem PySem.Spec PyProof.Rows
section
variable {X:Cx}{E:XK}{o e e2:Expr}{apos cpos:Pos}{fo:Env'->M W}{l:Env'->M (List W)}
end
end L2
set_option maxHeartbeats 1000000
namespace L2
open PySem PySem.Spec PyProof.Rows
section
variable {X:Cx}{E:XK}{a b:Expr}{p p2 pos pos2:Pos}
end
end L2
set_option maxHeartbeats 1000000
namespace L2
open PySem PySem.Spec PyProof.Rows
section
variable {X:Cx}{E:XK}
end
theorem iD {G:List Ob->Prop}{t:W->Env'->Option Env'}{f:Env'->M Bool}{g:Env'->M W}{c:Nat}{ρ:Env'}(I:Nat->List W->List Ob->Prop)(l:List W)(hG: ∀i a h,I i a h->G h)
  (hs: ∀i w a h,l[i]?=some w->I i a h-> ∃r,t w (List.replicate c none++ρ)=some r/\Ok (f r) h fun b h'=>(b=false/\I (i+1) a h')\/(b=true/\Ok (g r) h' fun v h''=>I (i+1) (a++[v]) h'')):
  ∀ (m:List W) (n:Nat) (a:List W) (h:List Ob),l.drop n=m->n<=l.length->I n a h->Ok (compM G t f g c m ρ) h fun r h'=>I l.length (a++r) h'
 |[],n,a,h,e,hn,i=>by
  have:l.length<=n:=List.drop_eq_nil_iff.mp e
  have hn:n=l.length:=by omega
  subst hn
  refine⟨[],h,?_,by show I l.length (a++[]) h;rw[List.append_nil];exact i⟩
  unfold compM
  rw[dL (hG _ _ _ i)];rfl
 |w::m,n,a,h,e,hn,i=>by
  have hw:l[n]?=some w:=by
   have:=congrArg List.head? e
   rw[List.head?_drop,List.head?_cons] at this
   exact this
  have hl:n<l.length:=(List.getElem?_eq_some_iff.mp hw).1
  have em:l.drop (n+1)=m:=by rw[<-List.tail_drop,e];rfl
  obtain⟨r,e1,b,h',e2,q⟩:=hs n w a h hw i
  rcases q with⟨rfl,i'⟩|⟨rfl,v,h'',e3,i'⟩
  ·obtain⟨y,h2,e3,q⟩:=iD I l hG hs m (n+1) a h' em hl i'
   refine⟨y,h2,?_,q⟩
   unfold compM
   rw[dL (hG _ _ _ i),e1]
   dsimp only
   rw[dX e2,if_neg (by decide)];exact e3
  ·obtain⟨y,h2,e4,q⟩:=iD I l hG hs m (n+1) (a++[v]) h'' em hl i'
   refine⟨v::y,h2,?_,by show I l.length (a++v::y) h2;have q:I l.length (a++[v]++y) h2:=q;rw[List.append_assoc] at q;exact q⟩
   unfold compM
   rw[dL (hG _ _ _ i),e1]
   dsimp only
   rw[dX e2,if_pos rfl,dX e3,dX e4];rfl
theorem kg {β:Type}{G:List Ob->Prop}{t:W->Env'->Option Env'}{f:Env'->M Bool}{g:Env'->M W}{c:Nat}{ρ:Env'}{l:List W}{h:List Ob}{k:List W->M β}{Q:β->List Ob->Prop}(I:Nat->List W->List Ob->Prop)(h0:I 0 [] h)(hG: ∀i a h,I i a h->G h)
  (hs: ∀i w a h,l[i]?=some w->I i a h-> ∃r,t w (List.replicate c none++ρ)=some r/\Ok (f r) h fun b h'=>(b=false/\I (i+1) a h')\/(b=true/\Ok (g r) h' fun v h''=>I (i+1) (a++[v]) h''))(hd: ∀a h,I l.length a h->Ok (k a) h Q):Ok (bd (compM G t f g c l ρ) k) h Q:=
 bS (iD I l hG hs l 0 [] h rfl (Nat.zero_le _) h0) fun r h' i=>hd r h' i
section
variable {β:Type}{h:List Ob}{Q:β->List Ob->Prop}{x:W}{l:List W}
theorem Lw.src {k:Sr->M β}(p:Lw h x l)(q:∀G,(∀h',Lw h' x l->G h')->Ok (k ⟨l,G⟩) h Q):Ok (bd (srcL x) k) h Q:=by
 rcases p with rfl|⟨j,rfl,e⟩
 ·show Ok (bd (pr ⟨l,fun _=>True⟩) k) h Q
  rw[br];exact q _ fun _ _=>trivial
 ·refine tu e (q _ fun h' r=>?_)
  rcases r with r|⟨i,r,e'⟩
  ·cases r
  ·cases r;exact e'
theorem Lw.keep {h':List Ob}(p:Lw h x l)(q:∀i,i<h.length->h'[i]?=h[i]?):Lw h' x l:=by
 rcases p with rfl|⟨j,rfl,e⟩
 ·exact .inl rfl
 ·exact .inr ⟨j,rfl,(q j (d5 e)).trans e⟩
end
theorem Lw.len_eq {β:Type}{h:List Ob}{Q:β->List Ob->Prop}{x:W}{l:List W}{k:W->M β}{N:Int}(p:Lw h x l)(hN:N=(l.length:Int))(q:Ok (k (.int N)) h Q):Ok (bd (lenW [x]) k) h Q:=by
 subst hN;exact p.len q
end L2
set_option maxHeartbeats 1000000
namespace L2
open PySem PySem.Spec PyProof.Rows
noncomputable def lookF:List Str->List W->Str->Option W
 |n::ns,w::ws,f=>if f=n then some w else lookF ns ws f
 |_,_,_=>none
noncomputable def putN:List Str->List W->Str->W->List Str×List W
 |n::ns,w::ws,f,y=>if n=f then (n::ns,y::ws) else (n::(putN ns ws f y).1,w::(putN ns ws f y).2)
 |_,_,f,y=>([f],[y])
section
variable {K:PySem.W.Frag}{o:Wo}
end
section
variable {X:Cx}{E:XK}
def insG (c:Str)(x:W):M (Nat×List Str×List W):=match x with
 |.loc k=>fun h=>match h[k]? with
  |some (.ins c' ns ws)=>if c'=c then .ok (k,ns,ws) h else .bad
  |_=>.bad
 |_=>no
def fldG (c f:Str)(x:W):M W:=bd (insG c x) fun t=>match lookF t.2.1 t.2.2 f with
 |some w=>pr w
 |none=>no
def putG (c f:Str)(x y:W):M Unit:=bd (insG c x) fun t=>fun h=>if t.2.1.length<1000 then .ok () (h.set t.1 (.ins c (putN t.2.1 t.2.2 f y).1 (putN t.2.1 t.2.2 f y).2)) else .bad
variable {c f:Str}{C:Addr}{o:Expr}{fo:Env'->M W}{pos pos':Pos}
def sFldW (c f:Str)(fo fv:Env'->M W):Env'->M Fl:=fun ρ=>bd (fv ρ) fun y=>bd (fo ρ) fun x=>bd (putG c f x y) fun _=>pr (.nx ρ)
variable {value:Expr}{fv:Env'->M W}{tpos:Pos}
def addI (x y:W):M W:=match x,y with
 |.int i,.int j=>pr (.int (i+j))
 |_,_=>no
def sAugW (c f:Str)(fo fv:Env'->M W):Env'->M Fl:=fun ρ=>bd (fo ρ) fun x=>bd (fldG c f x) fun v=>bd (fv ρ) fun y=>bd (addI v y) fun z=>bd (putG c f x z) fun _=>pr (.nx ρ)
def isI (c m:Str)(x:W):M W:=bd (insG c x) fun t=>if m∈t.2.1 then no else pr x
def mMet (c m:Str)(n:Nat)(fn:List W->M W)(fo:Env'->M W)(l:Env'->M (List W)):Env'->M W:=fun ρ=>bd (fo ρ) fun x=>bd (isI c m x) fun x=>bd (l ρ) fun ws=>arW n fn (x::ws)
end
section
variable {X:Cx}{c m:Str}{C fA:Addr}{fd:FuncData}{ps:List Str}{k n:Nat}{fn:List W->M W}{o e:Expr}{es:List Expr}{fo:Env'->M W}{l:Env'->M (List W)}{pos apos p:Pos}
end
end L2
set_option maxHeartbeats 1000000
namespace PySem
open Sem (wp)
section
variable {prog:Program}{w:World}{K:Type} [DecidableEq K] {knd:KeyKind prog w K}{A:Around}{R:Result->Shared->Prop}
end
end PySem
namespace L2
open PySem PySem.Spec PyProof.Rows
section
variable {X:Cx}
end
end L2
set_option maxHeartbeats 1000000
namespace L2
open PySem PySem.Spec PyProof.Rows
section
variable {K:PySem.W.Frag}{o:Wo}
end
section
variable {X:Cx}{E:XK}{a:Expr}{p pos:Pos}{l:Env'->M (List W)}
end
end L2
set_option maxHeartbeats 1000000
namespace L2
open PySem PySem.Spec PyProof.Rows
section
variable {X:Cx}{E:XK}{e:Expr}{f:Env'->M W}{pos:Pos}
def sAug (i:Nat)(f:Env'->M W):Env'->M Fl:=fun ρ=>bd (mVar i ρ) fun x=>bd (f ρ) fun y=>bd (addI x y) fun z=>pr (.nx (ρ.set i (some z)))
end
end L2
set_option maxHeartbeats 1000000
namespace L2
open PySem
section
variable {β:Type}{h:List Ob}{Q:β->List Ob->Prop}{j d:Nat}
end
def ctS (g:Env'->M Fl):Fl->M Fl:=fun x=>match x with
 |.nx r=>g r
 |x=>pr x
def ctI (f g:Env'->M Fl)(ρ:Env'):Bool->M Fl:=fun b=>if b=true then f ρ else g ρ
theorem bD (f g:Env'->M Fl)(ρ:Env'):sSeq f g ρ=bd (f ρ) (ctS g):=by unfold sSeq;rfl
theorem cC (g:Env'->M Fl)(r:Env'):ctS g (.nx r)=g r:=by unfold ctS;rfl
theorem cB (g:Env'->M Fl)(w:W):ctS g (.rt w)=pr (.rt w):=by unfold ctS;rfl
theorem cE (g:Env'->M Fl)(r:Env'):ctS g (.bk r)=pr (.bk r):=by unfold ctS;rfl
theorem cD (g:Env'->M Fl)(r:Env'):ctS g (.ct r)=pr (.ct r):=by unfold ctS;rfl
theorem cw (t:Env'->M Bool)(f g:Env'->M Fl)(ρ:Env'):sIf t f g ρ=bd (t ρ) (ctI f g ρ):=by unfold sIf;rfl
theorem dB (f g:Env'->M Fl)(ρ:Env'):ctI f g ρ true=f ρ:=by unfold ctI;rw[if_pos rfl]
theorem dC (f g:Env'->M Fl)(ρ:Env'):ctI f g ρ false=g ρ:=by unfold ctI;rw[if_neg Bool.false_ne_true]
end L2
set_option maxHeartbeats 1000000
namespace L2
open PySem PySem.Spec PyProof.Rows
section
variable {X:Cx}{E:XK}{o e f:Expr}{apos cpos:Pos}{fo fe ff:Env'->M W}
end
noncomputable abbrev Tgt:=W->Env'->Option Env'
def setG:List Tgt->List W->Env'->Option Env'
 |[],[],ρ=>some ρ
 |t::r,w::l,ρ=>(t w ρ).bind (setG r l)
 |_,_,_=>none
def tgG (ts:List Tgt):Tgt:=fun w ρ=>match w with
 |.tup l=>setG ts l ρ
 |_=>none
theorem jU: ∀ {ts:List Tgt}{l:List W}{ρ ρ2:Env'},setG ts l ρ=some ρ2->l.length=ts.length
 |[],[],_,_,_=>rfl
 |[],_::_,_,_,e=>by cases e
 |_::_,[],_,_,e=>by cases e
 |t::ts,w::l,ρ,ρ2,e=>by
  obtain⟨a,_,e2⟩:=Option.bind_eq_some_iff.mp (show (t w ρ).bind (setG ts l)=some ρ2 from e)
  rw[List.length_cons,List.length_cons,jU (ts:=ts) (l:=l) e2]
structure TgsOk (K:PySem.W.Frag)(m:Nat)(g:TGs)(ts:List Tgt):Prop where
 ok: ∀ (o:Wo) (l:List W) (vs:List V) (ρ ρ2:Env') (σ:St),Rvs K o l vs->Re K o ρ σ->setG ts l ρ=some ρ2-> ∃σ2,(∀Q:St->Hp->Prop,Q σ2 o.H->g vs σ o.H Q)/\Re K o ρ2 σ2/\σ2.drop m=σ.drop m/\σ2.length=σ.length
theorem lX {K:PySem.W.Frag}{m:Nat}:TgsOk K m gNil []:=⟨fun o l vs ρ ρ2 σ rv re e=>by
 cases l with
 |nil=>unfold Rvs at rv;cases e;exact⟨σ,fun Q q=>⟨rv,q⟩,re,rfl,rfl⟩
 |cons _ _=>cases e⟩
theorem fq {K:PySem.W.Frag}{m:Nat}{g:TG}{gs:TGs}{t:Tgt}{ts:List Tgt}(h:TgOk K m g t)(hs:TgsOk K m gs ts):TgsOk K m (gCons g gs) (t::ts):=⟨fun o l vs ρ ρ2 σ rv re e=>by
 cases l with
 |nil=>cases e
 |cons w l=>
  obtain⟨ρ1,e1,e2⟩:=Option.bind_eq_some_iff.mp (show (t w ρ).bind (setG ts l)=some ρ2 from e)
  unfold Rvs at rv
  obtain⟨v,r,rfl,h1,h2⟩:=rv
  obtain⟨σ1,a1,b1,c1,d1⟩:=h.ok o w v ρ ρ1 σ h1 re e1
  obtain⟨σ2,a2,b2,c2,d2⟩:=hs.ok o l r ρ1 ρ2 σ1 h2 b1 e2
  exact⟨σ2,fun Q q=>⟨v,r,rfl,a1 _ (a2 Q q)⟩,b2,c2.trans c1,d2.trans d1⟩⟩
theorem lY {K:PySem.W.Frag}{m n:Nat}{gs:TGs}{ts:List Tgt}(hs:TgsOk K m gs ts)(hn:ts.length=n):TgOk K m (gTup K n gs) (tgG ts):=⟨fun o w v ρ ρ2 σ rv re e=>by
 cases w with
 |tup l=>
  unfold Rv at rv
  obtain⟨a,vs,rfl,s,r⟩:=rv
  have e:setG ts l ρ=some ρ2:=e
  obtain⟨σ2,a1,a2,a3,a4⟩:=hs.ok o l vs ρ ρ2 σ r re e
  exact⟨σ2,fun Q q=>⟨a,vs,rfl,s,by rw[r.len,jU e,hn],a1 Q q⟩,a2,a3,a4⟩
 |_=>cases e⟩
section
variable {X:Cx}{E:XK}{o e f:Expr}{es:List Expr}{pos apos cpos:Pos}{l:Env'->M (List W)}{fo fe ff:Env'->M W}
def ktW (ws:List W):M W:=match optL keyOf ws with
 |some ks=>gd (ws.length<=sizeLine) (pr (.kt ks))
 |none=>no
def mKt (l:Env'->M (List W)):Env'->M W:=fun ρ=>bd (l ρ) ktW
theorem jD {K:PySem.W.Frag}{o:Wo}: ∀ {ws:List W}{vs:List V}{ks:List Key},optL keyOf ws=some ks->Rvs K o ws vs->vs=ks.map kV
 |[],vs,ks,e,r=>by unfold Rvs at r;cases e;exact r
 |w::ws,vs,ks,e,r=>by
  unfold Rvs at r
  obtain⟨v,r',rfl,h1,h2⟩:=r
  unfold optL at e
  split at e
  ·rename_i b c e1 e2
   cases e
   rw[iy e1 h1,jD e2 h2]
   rfl
  ·cases e
theorem pI {x1}(h:JA X E es l):JE X E (.Tuple es x1 pos) (mKt l):=(oU h.h).imp fun σ H Q h=>by
 obtain⟨o,ρ,rfl,R,S,h⟩:=h
 refine⟨o,ρ,rfl,R,S,Ps.bd h fun p x vx e1 R1 r1 h1=>?_⟩
 unfold ktW at h1
 cases ek:optL keyOf x with
 |none=>rw[ek] at h1;exact h1.elim
 |some ks=>
  rw[ek] at h1
  obtain⟨hz,h1⟩:=h1.gd
  refine⟨by rw[r1.len];exact hz,fun q hq=>Ps.at (p:=⟨p.mu,p.h,upd p.H q (.tup vx)⟩) h1 rfl (Ex.new hq) (R1.new hq) ?_⟩
  unfold Rv
  exact⟨q,rfl,by rw[<-jD ek r1];exact aR⟩
def jB:Env'->M W:=fun _ h=>.ok (.loc h.length) (h++[.dit [] []])
theorem kE:JE X E (.Dict [] [] pos) jB:=pe_dnewT.imp fun σ H Q h=>by
 obtain⟨o,ρ,rfl,R,S,h⟩:=h
 intro q hq
 exact Ps.at (p:=o.add q (.dit [] []) (.dT [])) h rfl (Ex.add hq) (R.addT hq rfl Rvs.nil) Rv.addLoc
def ditOf (w:W)(h:List Ob):Option (List (List Key)×List W):=match w with
 |.loc k=>match h[k]? with
  |some (.dit ks ws)=>some (ks,ws)
  |_=>none
 |_=>none
theorem kN {o:Wo}{w:W}{v:V}{ks:List (List Key)}{ws:List W}(R:Rel X.K o)(e:ditOf w o.h=some (ks,ws))(h:Rv X.K o w v): ∃a kvs,v=.ref a/\Rd o.H a (.dT kvs)/\kvs.map (·.1)=ks/\Rvs X.K o ws (kvs.map (·.2)):=by
 cases w with
 |loc k=>
  unfold ditOf at e
  dsimp only at e
  split at e
  ·rename_i a b hk
   cases e
   unfold Rv at h
   obtain⟨kvs,h1,h2,h3⟩:=R.ob k _ hk
   exact⟨_,kvs,h.2,.inl h1,h2,h3⟩
  ·cases e
 |_=>cases e
def keyT:W->Option (List Key)
 |.kt ks=>some ks
 |.tup l=>optL keyOf l
 |_=>none
theorem rF {K:PySem.W.Frag}{o:Wo}{x:W}{v:V}{k:List Key}(e:keyT x=some k)(h:Rv K o x v): ∃b,v=.ref b/\SqT K o.H b (k.map kV):=by
 cases x with
 |kt ks=>cases e;unfold Rv at h;obtain⟨a,e,h⟩:=h;exact⟨a,e,.of h⟩
 |tup l=>
  unfold Rv at h
  obtain⟨a,vs,e1,s,r⟩:=h
  exact⟨a,e1,by rw[<-jD (show optL keyOf l=some k from e) r];exact s⟩
 |_=>cases e
theorem rE {pins:List (Addr×Obj)}{σ:St}{H:Hp}{s:Shared}{b:Addr}{k:List Key}(I:Inv X pins σ H s)(h:SqT X.K H b (k.map kV)):(tupleKind (bp X.prog X.w)).is s.heap k b:=by
 obtain⟨its,r,⟨o,h1,h2,n,h3⟩,_⟩:=I.tuple h
 exact⟨o,its.toArray,n,h1,h2,h3,by simpa using gr r⟩
theorem rN {pins:List (Addr×Obj)}{σ:St}{H:Hp}{s:Shared}{a b:Addr}{d:V}{r:Value}{kvs:List (List Key×V)}{k:List Key}{A:Around}{Ex:Value->Shared->Prop}{Q:Value->Shared->Prop}(hu:A.units+1<cLine)(I:Inv X pins σ H s)(e:Rd H a (.dT kvs))(eb:SqT X.K H b (k.map kV))(rd:RelV d r)(h:∀w' s',Inv X pins σ H s'->RelV ((valV kvs k).getD d) w'->Q w' s'):
  wpAny (model X.prog X.w) A (call (.builtin "dict.get") [.ref a,.ref b,r]) Q Ex s:=by
 obtain⟨z,hd,xs,rel,dd⟩:=kM I.hok e
 refine call_meetsIn PySem.F.slot_dict_get dd.typeIs PySem.F.entry_dict_get (PySem.F.args_dict_get_3 _ _ _) (meetsH_dict_get_default (tupleKind (bp X.prog X.w)) a b hd r) ⟨tupleKind_room_in1 hu,k,xs,rE I eb,dd,h _ _ (I.tok _) ?_⟩
 exact (rel.val k).getD rd
def sx (K:PySem.W.Frag)(td ty tx:TE):TE:=fun σ H Q=>td σ H fun x H1=> ∃a,x=.ref a/\IsD H1 a/\ty σ H1 fun y H2=>tx σ H2 fun z H3=> ∃kvs k b,Rd H3 a (.dT kvs)/\y=.ref b/\SqT K H3 b (k.map kV)/\Q ((valV kvs k).getD z) H3
theorem oZ {td ty tx:TE}(hu:X.A.units+1<cLine)(ho:PE X o td)(he:PE X e ty)(hf:PE X f tx)(m:M2 X o "get" apos e f cpos):PE X (.Call (.Attribute o "get" apos) [e,f] [] cpos) (sx X.K td ty tx):=by
 intro pins s σ H Q I h
 refine wpAny_Call_method m.base m.few m.line PySem.F.plainAttrs_dict PySem.F.slot_dict_get PySem.F.type_dict_get (thn (ho pins s σ H _ I h) fun u s1 qz=>?_)
 obtain⟨x,H1,I1,rx,a,ex,d,q1⟩:=qz
 subst ex
 obtain rfl:u=Value.ref a:=rx
 obtain⟨t1,t2,_⟩:=tY I1 d
 refine⟨t1,t2,?_⟩
 rw[m.trees]
 refine Calls.callWith_builtin rfl (Calls.evalArgs_plain (Calls.spliced_cons (thn (he pins s1 σ H1 _ I1 q1) fun iv s2 ⟨y,H2,I2,ry,q2⟩=>
  Calls.spliced_cons (thn (hf pins s2 σ H2 _ I2 q2) fun fv s3 ⟨z,H3,I3,rz,kvs,k,b,e3,ey,eb,q3⟩=>Calls.spliced_nil ?_))))
 subst ey
 obtain rfl:iv=Value.ref b:=ry
 exact rN hu I3 e3 eb rz fun w' s4 I4 rw'=>⟨_,H3,I4,rw',q3⟩
def isDT (x:W):M W:=fun h=>match ditOf x h with
 |some _=>.ok x h
 |none=>.bad
def getT (x y d:W):M W:=fun h=>match ditOf x h with
 |some (ks,ws)=>match keyT y with
  |some k=>.ok ((atK ks ws k).getD d) h
  |none=>.bad
 |none=>.bad
def mGetT (fo fe ff:Env'->M W):Env'->M W:=fun ρ=>bd (fo ρ) fun x=>bd (isDT x) fun x=>bd (fe ρ) fun y=>bd (ff ρ) fun d=>getT x y d
theorem gK (hu:X.A.units+1<cLine)(ho:JE X E o fo)(he:JE X E e fe)(hf:JE X E f ff)(m:M2 X o "get" apos e f cpos:=by exact⟨rfl,rfl,rfl,rfl⟩):JE X E (.Call (.Attribute o "get" apos) [e,f] [] cpos) (mGetT fo fe ff):=
 (oZ hu ho.h he.h hf.h m).imp fun σ H Q h=>by
  obtain⟨w,ρ,rfl,R,S,h⟩:=h
  refine⟨w,ρ,rfl,R,S,Ps.bd h fun p x vx e1 R1 r1 h1=>?_⟩
  unfold bd isDT at h1
  cases ed:ditOf x p.h with
  |none=>rw[ed] at h1;exact h1.elim
  |some kw=>
   obtain⟨ks0,ws0⟩:=kw
   rw[ed] at h1
   obtain⟨a,kvs0,rfl,d1,_,_⟩:=kN R1 ed r1
   refine⟨a,rfl,.inr ⟨kvs0,d1⟩,p,ρ,rfl,R1,S.mono R e1,Ps.bd (h:=h1) fun q y vy e2 R2 r2 h2=>⟨q,ρ,rfl,R2,(S.mono R e1).mono R1 e2,Ps.bd h2 fun s z vz e3 R3 r3 h3=>?_⟩⟩
   have rx:=(r1.mono R1 e2).mono R2 e3
   have ry:=r2.mono R2 e3
   unfold getT at h3
   cases eh:ditOf x s.h with
   |none=>rw[eh] at h3;exact h3.elim
   |some kw=>
    obtain⟨ks,ws⟩:=kw
    rw[eh] at h3
    cases ek:keyT y with
    |none=>simp only[ek] at h3;exact h3.elim
    |some k=>
     simp only[ek] at h3
     obtain⟨a',kvs,ea,g1,g2,g3⟩:=kN R3 eh rx
     cases ea
     obtain⟨b,rfl,sb⟩:=rF ek ry
     refine⟨kvs,k,b,g1,rfl,sb,?_⟩
     have hv:=eP (x:=k) g2 g3
     cases e4:atK ks ws k with
     |none=>
      rw[e4] at hv h3
      rw[show valV kvs k=none from hv]
      exact Ps.pr (c:=cg X E) (r:=Rv X.K) (a:=z) h3 R3 r3
     |some w=>
      rw[e4] at hv h3
      obtain⟨v,hv,rv⟩:=hv
      rw[show valV kvs k=some v from hv]
      exact Ps.pr (c:=cg X E) (r:=Rv X.K) (a:=w) h3 R3 rv
end
end L2
set_option maxHeartbeats 2000000
namespace L2
open PySem PySem.Spec PyProof.Rows
open Sem (wp)
open Builtin
noncomputable def F0 (f:Value):Prop:=f=.none\/ ∃T:Nat,f=rawInt T
section
variable {prog:Program}{w:World}{A:Around}{E:Value->Shared->Prop}{s:Shared}
end
section
variable {X:Cx}
end
end L2
set_option maxHeartbeats 2000000
namespace L2
open PySem PySem.Spec PyProof.Rows
section
variable {X:Cx}{E:XK}{p pos:Pos}
end
end L2
set_option maxHeartbeats 1000000
namespace L2
open PySem PySem.Spec PyProof.Rows
noncomputable abbrev KN:List (PKy×Addr×V)->List (PKy×Addr×Value)->Prop:=Paired fun p q=>p.1=q.1/\p.2.1=q.2.1/\RelV p.2.2 q.2.2
def kvN (xs:List (PKy×Addr×V)):List (PKy×V):=xs.map fun x=>(x.1,x.2.2)
def putPk (xs:List (PKy×Addr×V))(k:PKy)(c:Addr)(v:V):List (PKy×Addr×V):=
 if (xs.any fun x=>decide (x.1=k))=true then xs.map (fun x=>if x.1=k then (x.1,x.2.1,v) else x) else xs++[(k,c,v)]
theorem mw (xs:List (PKy×Addr×V))(k:PKy):((kvN xs).any fun kv=>decide (kv.1=k))=(xs.any fun x=>decide (x.1=k)):=by unfold kvN;rw[List.any_map];rfl
theorem mv (xs:List (PKy×Addr×V))(k:PKy)(c:Addr)(v:V):kvN (putPk xs k c v)=putK (kvN xs) k v:=by
 unfold putPk putK
 rw[mw]
 by_cases z:(xs.any fun x=>decide (x.1=k))=true
 ·rw[if_pos z,if_pos z]
  unfold kvN
  rw[List.map_map,List.map_map]
  refine List.map_congr_left fun x _=>?_
  show ((if x.1=k then (x.1,x.2.1,v) else x).1,(if x.1=k then (x.1,x.2.1,v) else x).2.2)=if x.1=k then (x.1,v) else (x.1,x.2.2)
  split<;>rfl
 ·rw[if_neg z,if_neg z]
  unfold kvN
  rw[List.map_append];rfl
theorem KN.val {xs:List (PKy×Addr×V)}{ys:List (PKy×Addr×Value)}(r:KN xs ys)(k:PKy):RelO (valV (kvN xs) k) ((atKey ys k).map (·.2)):=by
 induction r with
 |nil=>exact True.intro
 | @cons p q ps qs h t ih=>
   obtain⟨h1,_,h2⟩:=h
   show RelO (valV ((p.1,p.2.2)::kvN ps) k) _
   by_cases e:p.1=k
   ·have e':q.1=k:=h1.symm.trans e
    have b:atKey (q::qs) k=some q.2:=by simp [atKey,List.find?_cons,e']
    rw[fk (show (p.1,p.2.2).1=k from e),b];exact h2
   ·have e': ¬q.1=k:=fun z=>e (h1.trans z)
    have b:atKey (q::qs) k=atKey qs k:=by simp [atKey,List.find?_cons,e']
    rw[fm (show¬(p.1,p.2.2).1=k from e),b];exact ih
theorem KN.repl {xs:List (PKy×Addr×V)}{ys:List (PKy×Addr×Value)}(r:KN xs ys)(k:PKy){y:V}{u:Value}(ry:RelV y u):
  KN (xs.map fun x=>if x.1=k then (x.1,x.2.1,y) else x) (ys.map (putAt k u)):=by
 induction r with
 |nil=>exact .nil
 | @cons p q ps qs h t ih=>
   rw[List.map_cons,List.map_cons]
   refine .cons ?_ ih
   obtain⟨h1,h2,h3⟩:=h
   unfold putAt
   by_cases e:p.1=k
   ·rw[if_pos e,if_pos (h1.symm.trans e)];exact⟨h1,h2,ry⟩
   ·rw[if_neg e,if_neg (fun z=>e (h1.trans z))];exact⟨h1,h2,h3⟩
theorem KN.put {xs:List (PKy×Addr×V)}{ys:List (PKy×Addr×Value)}(r:KN xs ys)(k:PKy){b:Addr}{y:V}{u:Value}(ry:RelV y u):KN (putPk xs k b y) (storedH ys k b u):=by
 have e:(xs.any fun x=>decide (x.1=k))=(atKey ys k).isSome:=by
  rw[<-mw,gS,(r.val k).isSome_eq,Option.isSome_map]
 unfold putPk storedH
 rw[e]
 by_cases q:(atKey ys k).isSome=true
 ·rw[if_pos q,if_pos q];exact r.repl k ry
 ·rw[if_neg q,if_neg q];exact Paired.snoc r ⟨rfl,rfl,ry⟩
theorem nr {xs:List (PKy×Addr×V)}{k:PKy}{c:Addr}{v:V}{x:PKy×Addr×V}(h:x∈putPk xs k c v):(∃y∈xs,y.1=x.1/\y.2.1=x.2.1)\/(x.1=k/\x.2.1=c):=by
 unfold putPk at h
 split at h
 ·obtain⟨y,hy,rfl⟩:=List.mem_map.mp h
  refine .inl ⟨y,hy,?_⟩
  split<;>exact⟨rfl,rfl⟩
 ·rcases List.mem_append.mp h with h|h
  ·exact .inl ⟨x,h,rfl,rfl⟩
  ·rw[List.mem_singleton.mp h];exact .inr ⟨rfl,rfl⟩
section
variable {X:Cx}{pins:List (Addr×Obj)}{σ:St}{H:Hp}{s:Shared}{a c:Addr}{b:Bool}{k:PKy}{xs:List (PKy×Addr×V)}{A:Around}{Ex:Value->Shared->Prop}
theorem iz: ∀ {ks:List Int}{us:List Value},Vals (ks.map V.int) us->ItemsAre (intKind X.prog X.w) ks us
 |[],_,r=>by rw[List.map_nil] at r;cases r;exact .nil
 |k::ks,_,r=>by
  rw[List.map_cons] at r
  cases r with
  |cons h t=>
   obtain⟨tk,e⟩:=(show∃t,_=Value.int k t from h)
   subst e
   exact .cons (by simp [intKind,Value.isInt]) (iz t)
theorem eE (I:Inv X pins σ H s)(h:KeyN X.K H b c k):IsPk X.prog X.w b s.heap k c:=by
 obtain⟨d,h1,h2⟩:=h
 obtain⟨its2,r2,⟨o2,g1,g2,n2,g3⟩,_⟩:=I.tuple h2
 obtain⟨its,r,⟨o,q1,q2,n,q3⟩,_⟩:=I.tuple h1
 have kd:IsTupleKey (intKind X.prog X.w) s.heap k.2 d:=⟨o2,its2.toArray,n2,g1,g2,g3,by simpa using iz r2⟩
 cases b with
 |false=>
  obtain⟨u,v,rfl,ru,rv⟩:=r.two
  cases rv
  obtain⟨t,e⟩:=(show∃t,u=Value.int k.1 t from ru)
  subst e
  exact⟨o,_,n,d,_,q1,q2,q3,kd,by simp [Value.isInt],rfl⟩
 |true=>
  obtain⟨u,v,rfl,ru,rv⟩:=r.two
  cases ru
  obtain⟨t,e⟩:=(show∃t,v=Value.int k.1 t from rv)
  subst e
  exact⟨o,_,n,d,_,q1,q2,q3,kd,by simp [Value.isInt],rfl⟩
theorem i8 (I:Inv X pins σ H s){ep:Nat}(e:H a=some (.dN b xs ep))(hk: ∀x∈xs,KeyN X.K H b x.2.1 x.1):xs.length<=sizeLine/\(a==sysModules)=false/\ ∃ys,KN xs ys/\s.heap.DictOfH (ga X.prog X.w b) a ys:=by
 obtain⟨z,y,ys,r,o,es,h1,h2,h3,h4,h5⟩:=(show ObjOk X.prog X.w H s.heap a (.dN b xs ep) from I.hok a _ e)
 refine⟨z,y,ys,r,o,es,ep,h1,h2,h3,h4,?_,h5⟩
 clear h4 h5 e
 induction r with
 |nil=>intro x hx;exact nomatch hx
 | @cons p q ps qs hq t ih=>
   intro x hx
   rcases List.mem_cons.mp hx with e|hx
   ·subst e
    have:=eE I (hk p List.mem_cons_self)
    rw[<-hq.1,<-hq.2.1]
    exact this
   ·exact ih (fun x hx=>hk x (List.mem_cons_of_mem _ hx)) (by rw[List.length_cons] at z;omega) x hx
theorem nF {v:V}{Q:Value->Shared->Prop}(hu:A.units+2<cLine)(I:Inv X pins σ H s){ep:Nat}(e:H a=some (.dN b xs ep))(hk: ∀x∈xs,KeyN X.K H b x.2.1 x.1)(hc:KeyN X.K H b c k)(l:valV (kvN xs) k=some v)(h:∀w' s',Inv X pins σ H s'->RelV v w'->Q w' s'):
  wpAny (model X.prog X.w) A (getItem (.ref a) (.ref c)) Q Ex s:=by
 obtain⟨z,hd,ys,rel,dd⟩:=i8 I e hk
 obtain⟨w',hw,rw'⟩:=RelO.some_of (v:=v) (o:=(atKey ys k).map (·.2)) (by rw[<-l];exact rel.val k)
 obtain⟨p,hp,hp2⟩:=Option.map_eq_some_iff.mp hw
 refine wpAny_getItem_heap (knd:=ga X.prog X.w b) hu (eE I hc) dd hp ?_
 rw[hp2]
 exact h w' _ (I.tok _) rw'
theorem nE {v:V}{r:Value}{Q:Unit->Shared->Prop}(hu:A.units+2<cLine)(I:Inv X pins σ H s){ep:Nat}(e:H a=some (.dN b xs ep))(hk: ∀x∈xs,KeyN X.K H b x.2.1 x.1)(hc:KeyN X.K H b c k)(l:xs.length<sizeLine)(rv:RelV v r)(h:∀s' ep',Inv X pins σ (upd H a (.dN b (putPk xs k c v) ep')) s'->Q () s'):
  wpAny (model X.prog X.w) A (setItem (.ref a) (.ref c) r) Q Ex s:=by
 obtain⟨z,hd,ys,rel,dd⟩:=i8 I e hk
 have hz:ys.length<=sizeLine:=by rw[<-Paired.length rel];exact z
 have hl:(putPk xs k c v).length<=sizeLine:=by
  have:=d4 (kvN xs) k v
  rw[<-mv xs k c v] at this
  unfold kvN at this
  rw[List.length_map,List.length_map] at this
  omega
 refine wpAny_setItem_heap (hsz:=hz) (knd:=ga X.prog X.w b) hu (eE I hc) dd fun h' dd' hs=>?_
 obtain⟨q,es,ep2,hq,h2,h3,h4,_,h5⟩:=dd'
 refine h _ ep2 ?_
 exact jI I (by rw[e];exact True.intro) hs ⟨q,hq⟩ ⟨hl,hd,_,rel.put k rv,q,es,hq,h2,h3,h4,h5⟩
end
section
variable {X:Cx}{E:XK}{a b:Expr}{pos:Pos}{fa fb fv:Env'->M W}
def dinOf (w:W)(h:List Ob):Option (Bool×List PKy×List W):=match w with
 |.loc k=>match h[k]? with
  |some (.din b ks ws)=>some (b,ks,ws)
  |_=>none
 |.dn b ks ws=>some (b,ks,ws)
 |_=>none
theorem fS {o:Wo}{w:W}{v:V}{b:Bool}{ks:List PKy}{ws:List W}(R:Rel X.K o)(e:dinOf w o.h=some (b,ks,ws))(h:Rv X.K o w v): ∃a xs ep,v=.ref a/\o.H a=some (.dN b xs ep)/\xs.map (·.1)=ks/\(∀x∈xs,KeyN X.K o.H b x.2.1 x.1)/\Rvs X.K o ws (xs.map (·.2.2)):=by
 cases w with
 |loc k=>
  unfold dinOf at e
  dsimp only at e
  split at e
  ·rename_i b' ks' ws' hk
   cases e
   unfold Rv at h
   obtain⟨xs,h1,h2,h3,h4⟩:=R.ob k _ hk
   exact⟨_,xs.1,xs.2,h.2,h1,h2,h3,h4⟩
  ·cases e
 |dn b' ks' ws'=>
  unfold dinOf at e
  cases e
  unfold Rv at h
  obtain⟨a,xs,e,h1,_,h2,h3,h4⟩:=h
  exact⟨a,xs.1,xs.2,e,h1,h2,h3,h4⟩
 |_=>cases e
def keyN (b:Bool)(w:W):Option PKy:=match b,w with
 |false,.tup [.int i,.tup l]=>(optL iOf l).map fun ns=>(i,ns)
 |true,.tup [.tup l,.int i]=>(optL iOf l).map fun ns=>(i,ns)
 |_,_=>none
theorem gM {o:Wo}{b:Bool}{w:W}{v:V}{k:PKy}(e:keyN b w=some k)(h:Rv X.K o w v): ∃c,v=.ref c/\KeyN X.K o.H b c k:=by
 unfold keyN at e
 split at e
 ·rename_i i l
  obtain⟨ns,e1,rfl⟩:=Option.map_eq_some_iff.mp e
  unfold Rv at h
  obtain⟨c,vs,rfl,s,r⟩:=h
  obtain⟨u,v,rfl,ru,rv⟩:=r.two
  unfold Rv at rv
  obtain⟨d,us,rfl,s2,r2⟩:=rv
  have eu:=rv_int.mp ru
  subst eu
  have e2:us=ns.map V.int:=eC jF e1 r2
  subst e2
  exact⟨c,rfl,d,s,s2⟩
 ·rename_i l i
  obtain⟨ns,e1,rfl⟩:=Option.map_eq_some_iff.mp e
  unfold Rv at h
  obtain⟨c,vs,rfl,s,r⟩:=h
  obtain⟨u,v,rfl,ru,rv⟩:=r.two
  unfold Rv at ru
  obtain⟨d,us,rfl,s2,r2⟩:=ru
  have eu:=rv_int.mp rv
  subst eu
  have e2:us=ns.map V.int:=eC jF e1 r2
  subst e2
  exact⟨c,rfl,d,s,s2⟩
 ·cases e
def sw (b:Bool):TE:=fun _ H Q=> ∀p,H p=none->Q (.ref p) (upd H p (.dN b [] 0))
theorem qb {P:Program}{w:World}{H:Hp}(b:Bool)(h:Heap)(hb:sysModules<h.objs.size):ObjOk P w H (h.push {cls:=.type "dict",data:=.dict #[]}) h.objs.size (.dN b [] 0):=
 ⟨Nat.zero_le _,beq_eq_false_iff_ne.mpr (Ne.symm (Nat.ne_of_lt hb)),[],.nil,_,#[],Heap.get?_push_size _ rfl,⟨rfl,rfl,rfl⟩,rfl,rfl,List.nodup_nil⟩
theorem oY (b:Bool):PE X (.Dict [] [] pos) (sw b):=fun pins s σ H Q I h=>
 wpAny_Dict_empty ⟨.ref s.heap.objs.size,_,I.laid (a:=s.heap.objs.size) (o:=.dN b [] 0) (t':=s.toks) (fun _ _ q=>Heap.get?_push_of_some _ q) (Nat.le_refl _) (qb b s.heap I.big),rfl,h _ (I.hok.fresh (Nat.le_refl _))⟩
def jC (b:Bool):Env'->M W:=fun _ h=>.ok (.loc h.length) (h++[.din b [] []])
theorem kF (b:Bool):JE X E (.Dict [] [] pos) (jC b):=(oY b).imp fun σ H Q h=>by
 obtain⟨o,ρ,rfl,R,S,h⟩:=h
 intro q hq
 exact Ps.at (p:=o.add q (.din b [] []) (.dN b [] 0)) h rfl (Ex.add hq) (R.add hq ⟨([],0),aR,rfl,fun _ hx=>absurd hx List.not_mem_nil,Rvs.nil⟩) Rv.addLoc
def rIxN (K:PySem.W.Frag):R2:=fun x y H Q=> ∃a b xs ep c k v,x=.ref a/\y=.ref c/\H a=some (.dN b xs ep)/\(∀x∈xs,KeyN K H b x.2.1 x.1)/\KeyN K H b c k/\valV (kvN xs) k=some v/\Q v H
theorem uW (hu:X.A.units+2<cLine):IxR X (rIxN X.K):=by
 intro value slice pins s σ H x y v u Q I rx ry h hs
 obtain⟨a,b,xs,ep,c,k,z,rfl,rfl,e,hk,hc,l,q⟩:=h
 cases rx
 cases ry
 obtain⟨_,_,ys,_,dd⟩:=i8 I e hk
 exact tail_any dd.typeIs PySem.F.slot_dict_getitem.lookup (nF hu I e hk hc l fun w' s3 I3 rw'=>⟨z,H,I3,rw',q⟩) hs
def ixN' (x y:W):M W:=fun h=>match dinOf x h with
 |some (b,ks,ws)=>match keyN b y with
  |some k=>match atK ks ws k with
   |some w=>.ok w h
   |none=>.bad
  |none=>.bad
 |none=>.bad
theorem qV:OpM X E (rIxN X.K) ixN':=by
 intro o x y vx vy Q R rx ry h
 unfold ixN' at h
 cases e1:dinOf x o.h with
 |none=>rw[e1] at h;exact h.elim
 |some t=>
  obtain⟨b,ks,ws⟩:=t
  rw[e1] at h
  cases e2:keyN b y with
  |none=>simp only[e2] at h;exact h.elim
  |some k=>
   simp only[e2] at h
   cases e3:atK ks ws k with
   |none=>simp only[e3] at h;exact h.elim
   |some w=>
    simp only[e3] at h
    obtain⟨a,xs,ep,rfl,g1,g2,g3,g4⟩:=fS R e1 rx
    obtain⟨c,rfl,hc⟩:=gM e2 ry
    have hv:=eP (x:=k) (kvs:=kvN xs) (ks:=ks) (ws:=ws) (by unfold kvN;rw[List.map_map];exact g2) (by unfold kvN;rw[List.map_map];exact g4)
    rw[e3] at hv
    obtain⟨v,hv,rv⟩:=hv
    exact⟨a,b,xs,ep,c,k,v,rfl,rfl,g1,g3,hc,hv,Ps.pr (c:=cg X E) (r:=Rv X.K) (a:=w) h R rv⟩
theorem lG (hu:X.A.units+64<cLine)(ha:JE X E a fa)(hb:JE X E b fb)(hs:jN b):JE X E (.Subscript a b pos) (m2 ixN' fa fb):=
 (r6 (uW (Nat.lt_of_le_of_lt (Nat.add_le_add_left (by decide:2<=64) _) hu)) ha.h hb.h hs).imp fun _ _ _ h=>oB qV h
def rSetN (K:PySem.W.Frag):TSet:=fun o i v H Q=> ∃a b xs ep c k,o=.ref a/\i=.ref c/\H a=some (.dN b xs ep)/\(∀x∈xs,KeyN K H b x.2.1 x.1)/\KeyN K H b c k/\xs.length<sizeLine/\ ∀ep',Q (upd H a (.dN b (putPk xs k c v) ep'))
theorem ut (hu:X.A.units+2<cLine):PSet X (rSetN X.K):=by
 intro pins s σ H o i v ov iv u Q I ro ri rv h
 obtain⟨a,b,xs,ep,c,k,rfl,rfl,e,hk,hc,l,q⟩:=h
 cases ro
 cases ri
 exact nE hu I e hk hc l rv fun s4 ep' I4=>⟨_,I4,q ep'⟩
def jd (x i v:W):M Unit:=match x with
 |.loc j=>fun h=>match h[j]? with
  |some (.din b ks ws)=>match keyN b i with
   |some k=>if ks.length<sizeLine then .ok () (h.set j (.din b (putW ks ws k v).1 (putW ks ws k v).2)) else .bad
   |none=>.bad
  |_=>.bad
 |_=>no
def fw (fo fi fv:Env'->M W):Env'->M Fl:=fun ρ=>bd (fv ρ) fun v=>bd (fo ρ) fun x=>bd (fi ρ) fun i=>bd (jd x i v) fun _=>pr (.nx ρ)
theorem iX {o i value:Expr}{tpos:Pos}{fo fi:Env'->M W}(hu:X.A.units+64<cLine)(ho:JE X E o fo)(hi:JE X E i fi)(hv:JE X E value fv)
  (ha: ∀v,assign (.Subscript o i tpos) X.env v=(do
   let ov<-holding [v] (eval o X.env)
   let iv<-holding [v,ov] (eval i X.env)
   standAt tpos
   holding [v,ov,iv] (setItem ov iv v)
   release [v,ov,iv] []):=by intro _;rfl)
  (hs:swapsWithSole [.Subscript o i tpos] value pos.line X.env=pure false:=by rfl)(hw:swappedStores [.Subscript o i tpos] value X.env=pure none:=by rfl)
  (h1:(assignEach [.Subscript o i tpos] X.env).map (·.2)=[assign (.Subscript o i tpos) X.env]:=by rfl):JS X E (.Assign [.Subscript o i tpos] value pos) (fw fo fi fv):=
 (oP hv.h (oT ho.h hi.h (ut (Nat.lt_of_le_of_lt (Nat.add_le_add_left (by decide:2<=64) _) hu)) ha) hs hw h1).imp fun D σ H h=>by
  obtain⟨w,ρ,rfl,R,S,h⟩:=h
  refine⟨w,ρ,rfl,R,S,Ps.bd h fun p v vv e1 R1 r1 h1=>⟨p,ρ,rfl,R1,S.mono R e1,Ps.bd h1 fun q x vx e2 R2 r2 h2=>⟨q,ρ,rfl,R2,(S.mono R e1).mono R1 e2,Ps.bd h2 fun s i vi e3 R3 r3 h3=>?_⟩⟩⟩
  have S3:=((S.mono R e1).mono R1 e2).mono R2 e3
  have rv:=(r1.mono R1 e2).mono R2 e3
  have rx:=r2.mono R2 e3
  cases x with
  |loc j=>
   unfold Rv at rx
   obtain⟨hj,rfl⟩:=rx
   unfold jd bd at h3
   cases e:s.h[j]? with
   |none=>simp only[e] at h3;exact h3.elim
   |some ob=>
    cases ob with
    |din b ks ws=>
     simp only[e] at h3
     cases ek:keyN b i with
     |none=>simp only[ek] at h3;exact h3.elim
     |some k=>
      simp only[ek] at h3
      by_cases z:ks.length<sizeLine
      ·simp only[if_pos z] at h3
       obtain⟨⟨xs,ep⟩,g1,g2,g3,g4⟩:=R3.ob j _ e
       dsimp only at g1 g2 g3 g4
       obtain⟨c,rfl,hc⟩:=gM ek r3
       obtain⟨b1,b2⟩:=jm (x:=k) (kvs:=kvN xs) (ks:=ks) (ws:=ws) rv (by unfold kvN;rw[List.map_map];exact g2) (by unfold kvN;rw[List.map_map];exact g4)
       rw[<-mv xs k c vv] at b1 b2
       unfold kvN at b1 b2
       rw[List.map_map] at b1 b2
       refine⟨_,b,xs,ep,c,k,rfl,rfl,g1,g3,hc,by rw[<-g2,List.length_map] at z;exact z,fun ep'=>?_⟩
       refine Ps.at (p:=s.put j (.din b (putW ks ws k v).1 (putW ks ws k v).2) (.dN b (putPk xs k c vv) ep')) (b:=FlV.nx σ) h3 rfl (Ex.put e (by simp)) (R3.putN e (by simp) b1 (fun x hx=>?_) b2) ⟨σ,rfl,S3.mono R3 (Ex.put e (by simp))⟩
       rcases nr hx with⟨y,hy,q1,q2⟩|⟨q1,q2⟩
       ·rw[<-q1,<-q2];exact g3 y hy
       ·rw[q1,q2];exact hc
      ·simp only[if_neg z] at h3;exact h3.elim
    |_=>simp only[e] at h3;exact h3.elim
  |_=>exact h3.elim
end
end L2
set_option maxHeartbeats 1000000
namespace L2
open PySem PySem.Spec PyProof.Rows
section
variable {X:Cx}{E:XK}{e st:Expr}{te:TE}{ts:TO}{pos p2:Pos}{fa:Env'->M W}{fs:Env'->M (Option Int)}
end
end L2
set_option maxHeartbeats 1000000
namespace L2
open PySem PySem.Spec PyProof.Rows
open Sem (wp)
open AutoSeq1 (wpAny_loadPart')
section
variable {prog:Program}{w:World}{A:Around}{E:Value->Shared->Prop}{s:Shared}
end
section
variable {prog:Program}{w:World}{A:Around}{E:Value->Shared->Prop}{s:Shared}
end
section
variable {X:Cx}{E:XK}{a b:Expr}{p p2 pos pos2:Pos}
end
end L2
set_option maxHeartbeats 1000000
namespace L2
open PySem PySem.Spec PyProof.Rows
open Sem (wp)
section
variable {prog:Program}{w:World}{A:Around}{E:Value->Shared->Prop}{s:Shared}
end
section
variable {X:Cx}{pins:List (Addr×Obj)}{σ:St}{H:Hp}{s:Shared}
end
section
variable {X:Cx}{a b:Expr}{p p2 pos pos2:Pos}
end
end L2
set_option maxHeartbeats 1000000
namespace L2
open PySem PySem.Spec PyProof.Rows
section
variable {X:Cx}{E:XK}
def lzW (ws:List W):M W:=match ws with
 |[.tup l,.tup m]=>gd (min l.length m.length<sizeLine) (pr (.tl (zipW l m)))
 |_=>no
open Classical in
noncomputable def eqK (prog:Program)(w:World)(h:Heap)(ns:List Int)(u:Value):Bool:=match u with
 |.ref c=>decide (IsTupleKey (intKind prog w) h ns c)
 |_=>false
open Classical in
noncomputable def maxZ:List Int->Int
 |[]=>0
 |[a]=>a
 |a::l=>if maxZ l<a then a else maxZ l
theorem kG: ∀ {l:List Int},l≠ []->maxZ l∈l/\ ∀x∈l,x<=maxZ l
 |[],h=>absurd rfl h
 |[a],_=>⟨List.mem_singleton.mpr rfl,fun x hx=>by rw[List.mem_singleton.mp hx];exact Int.le_refl _⟩
 |a::b::l,_=>by
  obtain⟨h1,h2⟩:=kG (l:=b::l) (by simp)
  show (if maxZ (b::l)<a then a else maxZ (b::l))∈_/\ ∀x∈_,x<=(if maxZ (b::l)<a then a else maxZ (b::l))
  by_cases c:maxZ (b::l)<a
  ·rw[if_pos c]
   refine⟨List.mem_cons_self,fun x hx=>?_⟩
   rcases List.mem_cons.mp hx with rfl|hx
   ·exact Int.le_refl _
   ·have:=h2 x hx;omega
  ·rw[if_neg c]
   refine⟨List.mem_cons_of_mem _ h1,fun x hx=>?_⟩
   rcases List.mem_cons.mp hx with rfl|hx
   ·omega
   ·exact h2 x hx
theorem iH (bt:Nat->Nat->Bool): ∀n,argBest bt n<=n
 |0=>Nat.le_refl _
 |n+1=>by
  unfold argBest
  split
  ·exact Nat.le_refl _
  ·exact Nat.le_succ_of_le (iH bt n)
theorem ql (f:Nat->Int): ∀n j,j<=n->f j<=f (argBest (fun i j=>decide (f i>f j)) n)
 |0,j,h=>by rw[Nat.le_zero.mp h];exact Int.le_refl _
 |n+1,j,h=>by
  unfold argBest
  have ih:=ql f n
  by_cases c:f (n+1)>f (argBest (fun i j=>decide (f i>f j)) n)
  ·rw[if_pos (decide_eq_true c)]
   by_cases e:j=n+1
   ·rw[e];exact Int.le_refl _
   ·have:=ih j (by omega);omega
  ·rw[if_neg (by rw[decide_eq_false c];simp)]
   by_cases e:j=n+1
   ·rw[e];omega
   ·exact ih j (by omega)
theorem mi {xs:Array (Int×Tok)}{ns:List Int}(e:ns=xs.toList.map (·.1)){i:Nat}(h:i<xs.size):ns[i]?=some (numAt xs i):=by
 rw[e,List.getElem?_map,Array.getElem?_toList,Array.getElem?_eq_getElem h]
 unfold numAt
 rw[Array.getElem?_eq_getElem h]
 rfl
theorem oh (hc:X.calm=true):CallR X (.builtin "max") (fun xs H Q=> ∃ (p:Addr) (ns:List Int),xs=[.ref p]/\SqL X.K H p (ns.map V.int)/\ns≠ []/\Q (.int (maxZ ns)) H):=by
 intro pins s σ H xs us Q I r h
 obtain⟨p,ns,rfl,hq,hne,q⟩:=h
 obtain⟨u,rfl,ru⟩:=vals1 r
 cases ru
 obtain⟨its,rv,pl,hz⟩:=I.list hq
 have hi:=gv rv
 obtain⟨xs,e⟩:=hi.allInts.items
 have hl:s.heap.IsList p (intItems xs):=by rw[<-e];exact pl.isList
 have en:ns=xs.toList.map (·.1):=by
  rw[<-nums_intItems,<-e]
  exact (show numsOf its.toArray.toList=ns from hi.numsOf).symm
 have sz:xs.size=ns.length:=by rw[en,List.length_map,Array.length_toList]
 have pos:0<xs.size:=by rw[sz];exact List.length_pos_iff.mpr hne
 refine max_intList (I.ok.hd hc) hl pos fun v h' tk hv hk=>?_
 obtain⟨t,rfl⟩:=intItems_at hv
 have il:=iH (fun i j=>decide (numAt xs i>numAt xs j)) (xs.size - 1)
 have e1:=mi en (i:=argBest (fun i j=>decide (numAt xs i>numAt xs j)) (xs.size - 1)) (by omega)
 obtain⟨m1,m2⟩:=kG hne
 obtain⟨k,hk'⟩:=List.getElem?_of_mem m1
 have kl:=(List.getElem?_eq_some_iff.mp hk').1
 have e2:=mi en (i:=k) (by omega)
 rw[hk'] at e2
 have a1:=m2 _ (List.mem_of_getElem? e1)
 have a2:=ql (numAt xs) (xs.size - 1) k (by omega)
 have:numAt xs (argBest (fun i j=>decide (numAt xs i>numAt xs j)) (xs.size - 1))=maxZ ns:=by
  have:=Option.some.inj e2
  omega
 rw[this]
 exact⟨.int (maxZ ns),H,I.kept (t':=tk) hk,⟨t,rfl⟩,q⟩
def extW (f:List Int->Int)(ws:List W):M W:=match ws with
 |[w]=>bd (lstOf w) fun l=>match optL iOf l with
  |some ns=>gd (ns≠ []) (pr (.int (f ns)))
  |none=>no
 |_=>no
variable {a:Expr}{p pos:Pos}{l:Env'->M (List W)}
theorem uP {f:List Int->Int}:CallM X E (fun xs H Q=> ∃ (p:Addr) (ns:List Int),xs=[.ref p]/\SqL X.K H p (ns.map V.int)/\ns≠ []/\Q (.int (f ns)) H) (extW f):=fun o ws vs Q R rv h=>by
 unfold extW at h
 split at h
 ·obtain⟨v,rfl,r⟩:=rv.one
  obtain⟨l,a,us,rfl,s,r,h⟩:=bZ R r h
  cases e:optL iOf l with
  |none=>rw[e] at h;exact h.elim
  |some ns=>
   rw[e] at h
   obtain⟨hn,h⟩:=h.gd
   have e2:us=ns.map V.int:=eC jF e r
   subst e2
   exact⟨a,ns,rfl,s,hn,h.pr R (rv_int.mpr rfl)⟩
 ·exact h.elim
theorem mn (hc:X.calm=true)(hm:X.mg "max"=none)(ha:JA X E [a] l)(hg:Gl X "max":=by rfl)(he:starEach [a] X.env=(false,eval a X.env)::starEach [] X.env:=by rfl)(hpl:(backTo pos (starEach [] X.env)).any (·.1)=false:=by rfl):JE X E (.Call (.Name "max" p) [a] [] pos) (mCall (extW maxZ) l):=
 d0 (oh hc) uP hg hm rfl ha (by decide) (by decide) he hpl
end
end L2
set_option maxHeartbeats 1000000
namespace L2
open PySem PySem.Spec PyProof.Rows
section
variable {X:Cx}{E:XK}{a b:Expr}{p p2 pos pos2:Pos}
end
end L2
set_option maxHeartbeats 1000000
namespace L2
open PySem PySem.Spec PyProof.Rows
section
variable {prog:Program}{w:World}{A:Around}{E:Value->Shared->Prop}{s:Shared}
noncomputable def RawD (h:Heap)(d:Addr)(es:Array DictEntry)(ep:Nat):Prop:= ∃o,h.get? d=some o/\o.ExactDict/\o.data=.dict es ep
theorem pz {Q:Value->Shared->Prop}(k:∀ (h':Heap) (e:Addr),(∀b o,s.heap.get? b=some o->h'.get? b=some o)->s.heap.get? e=none->(∃o,h'.get? e=some o/\o.cls=.type "StopIteration")->Q (.ref e) {s with heap:=h'}):
  wpAny (model prog w) A (newExc (.type "StopIteration") []) Q E s:=by
 have f:firstArgMember (.type "StopIteration") []=pure .none:=by unfold firstArgMember;rfl
 unfold newExc
 refine wpAny_bind (wpAny_newTuple ?_ (Nat.zero_le _))
 rw[f]
 refine wpAny_bind (wpAny_pure (wpAny_newObj_type ?_ (show 6<=_ by decide)))
 refine k _ _ (fun b o q=>Heap.get?_push_of_some _ (Heap.get?_push_of_some _ q)) (by rw[Heap.size_push];exact Heap.get?_none_of_le (Nat.le_succ _)) ⟨_,Heap.get?_push_size _ rfl,rfl⟩
theorem RawD.keep {h h':Heap}{d:Addr}{es:Array DictEntry}{ep:Nat}(hd:RawD h d es ep)(k:∀o,h.get? d=some o->h'.get? d=some o):RawD h' d es ep:=by
 obtain⟨o,a,b,c⟩:=hd
 exact⟨o,k o a,b,c⟩
end
section
variable {X:Cx}{o:Expr}{p apos cpos pos:Pos}
end
end L2
set_option maxHeartbeats 1000000
namespace L2
open PyProof.Rows
section
variable (n:Nat)(lt:Nat->Nat->Bool)
noncomputable def sGet (p:Array Nat)(i:Nat):Option Nat:=match p[i]? with
 |some a=>if a<n then some a else none
 |none=>none
def sLt (p:Array Nat)(i j:Nat):Option Bool:=match sGet n p i,sGet n p j with
 |some a,some b=>some (lt a b)
 |_,_=>none
def sAsc (p:Array Nat)(lo:Nat):Nat->Nat->Option Nat
 |0,k=>some k
 |f+1,k=>match sLt n lt p (lo+k) (lo+k - 1) with
  |some true=>some k
  |some false=>sAsc p lo f (k+1)
  |none=>none
def jk (p:Array Nat)(lo r:Nat):Option Nat:=match sAsc n lt p lo (r - 1) 1 with
 |some k=>if (k==r)=true then some k else if k>1 then (match sLt n lt p lo (lo+k - 1) with
  |some true=>some k
  |_=>none) else none
 |none=>none
def eV (p:Array Nat)(lo k:Nat):Nat->Nat->Nat->Option Nat
 |0,l,_=>some l
 |f+1,l,r=>if l≥r then some l else match sLt n lt p (lo+k) (lo+(l+r) / 2) with
  |some true=>eV p lo k f l ((l+r) / 2)
  |some false=>eV p lo k f ((l+r) / 2+1) r
  |none=>none
def sBin (lo:Nat):Nat->Nat->Array Nat->Option (Array Nat)
 |0,_,p=>some p
 |f+1,k,p=>match eV n lt p lo k k 0 k with
  |some l=>sBin lo f (k+1) (bubble p (lo+k) (lo+k - (lo+l)))
  |none=>none
def sBey (left:Bool)(key:Nat)(a:Array Nat)(i:Nat):Option Bool:=match sGet n a i with
 |some x=>if key<n then (if left=true then some (lt x key) else some (!lt key x)) else none
 |none=>none
def sUp (left:Bool)(key:Nat)(a:Array Nat)(base hint mx:Nat):Nat->Nat->Nat->Option (Nat×Nat)
 |0,la,o=>some (la,o)
 |f+1,la,o=>if o≥mx then some (la,o) else match sBey n lt left key a (base+(hint+o)) with
  |some true=>sUp left key a base hint mx f o (2 * o+1)
  |some false=>some (la,o)
  |none=>none
def sDown (left:Bool)(key:Nat)(a:Array Nat)(base hint mx:Nat):Nat->Nat->Nat->Option (Nat×Nat)
 |0,la,o=>some (la,o)
 |f+1,la,o=>if o≥mx then some (la,o) else match sBey n lt left key a (base+(hint - o)) with
  |some false=>sDown left key a base hint mx f o (2 * o+1)
  |some true=>some (la,o)
  |none=>none
def sHalf (left:Bool)(key:Nat)(a:Array Nat)(base:Nat):Nat->Nat->Nat->Option Nat
 |0,_,hi=>some hi
 |f+1,lo,hi=>if lo≥hi then some hi else match sBey n lt left key a (base+(lo+(hi - lo) / 2)) with
  |some true=>sHalf left key a base f (lo+(hi - lo) / 2+1) hi
  |some false=>sHalf left key a base f lo (lo+(hi - lo) / 2)
  |none=>none
def sGal (left:Bool)(key:Nat)(a:Array Nat)(base m hint:Nat):Option Nat:=match sBey n lt left key a (base+hint) with
 |some true=>(match sUp n lt left key a base hint (m - hint) m 0 1 with
  |some (la,o)=>sHalf n lt left key a base m (hint+la+1) (hint+min o (m - hint))
  |none=>none)
 |some false=>(match sDown n lt left key a base hint (hint+1) m 0 1 with
  |some (la,o)=>sHalf n lt left key a base m (hint+1 - min o (hint+1)) (hint - la)
  |none=>none)
 |none=>none
structure Mg where
 out:Array Nat
 ia:Nat
 ib:Nat
 ac:Nat
 bc:Nat
 g:Nat
section
variable (a b:Array Nat)
noncomputable def sDone (s:Mg):Array Nat:=s.out++a.extract s.ia a.size++b.extract s.ib b.size
noncomputable def sLast (s:Mg):Array Nat:=s.out++b.extract s.ib b.size++a.extract s.ia a.size
def oStep (y x:Nat)(s:Mg):Option (Array Nat)×Mg×Bool:=if lt y x=true then
  (if (s.ib+1==b.size)=true then (some (sDone a b ⟨s.out.push y,s.ia,s.ib+1,0,s.bc+1,s.g⟩),⟨s.out.push y,s.ia,s.ib+1,0,s.bc+1,s.g⟩,true)
   else (none,⟨s.out.push y,s.ia,s.ib+1,0,s.bc+1,s.g⟩,decide (s.bc+1≥s.g)))
 else
  (if (s.ia+1+1==a.size)=true then (some (sLast a b ⟨s.out.push x,s.ia+1,s.ib,s.ac+1,0,s.g⟩),⟨s.out.push x,s.ia+1,s.ib,s.ac+1,0,s.g⟩,true)
   else (none,⟨s.out.push x,s.ia+1,s.ib,s.ac+1,0,s.g⟩,decide (s.ac+1≥s.g)))
def sOne:Nat->Mg->Option (Array Nat ⊕ Mg)
 |0,s=>some (.inr s)
 |f+1,s=>match sGet n b s.ib,sGet n a s.ia with
  |some y,some x=>(match oStep lt a b y x s with
   |(some r,_,_)=>some (.inl r)
   |(none,s',true)=>some (.inr s')
   |(none,s',false)=>sOne f s')
  |_,_=>none
def lStep (s:Mg):Option (Mg×Bool):=match sGet n b s.ib with
 |none=>none
 |some y=>match sGal n lt false y a s.ia (a.size - s.ia) 0 with
  |none=>none
  |some k=>if (k>0/\((s.ia+k+1==a.size)=true\/(s.ia+k==a.size)=true))\/(s.ib+1==b.size)=true then none
   else match sGet n a (s.ia+k) with
   |none=>none
   |some x=>match sGal n lt true x b (s.ib+1) (b.size - (s.ib+1)) 0 with
    |none=>none
    |some j=>if (j>0/\(s.ib+1+j==b.size)=true)\/(s.ia+k+1+1==a.size)=true then none
     else some (⟨((if j>0 then (if k>0 then s.out++a.extract s.ia (s.ia+k) else s.out).push y++b.extract (s.ib+1) (s.ib+1+j) else (if k>0 then s.out++a.extract s.ia (s.ia+k) else s.out).push y)).push x,s.ia+k+1,s.ib+1+j,k,j,if s.g>1 then s.g - 1 else s.g⟩,(decide (k<7) && decide (j<7)))
def sLeap:Nat->Mg->Option Mg
 |0,s=>some s
 |f+1,s=>match lStep n lt a b s with
  |none=>none
  |some (s',true)=>some s'
  |some (s',false)=>sLeap f s'
def gZ (t:Nat):Nat->Mg->Option (Array Nat)
 |0,_=>none
 |f+1,s=>match sOne n lt a b t ⟨s.out,s.ia,s.ib,0,0,s.g⟩ with
  |some (.inl r)=>some r
  |some (.inr s1)=>(match sLeap n lt a b t ⟨s1.out,s1.ia,s1.ib,s1.ac,s1.bc,s1.g+1⟩ with
   |some s2=>gZ t f ⟨s2.out,s2.ia,s2.ib,s2.ac,s2.bc,s2.g+1⟩
   |none=>none)
  |none=>none
def lp:Option (Array Nat):=match sGet n b 0 with
 |some y=>if (1==b.size)=true then none else if (0+1==a.size)=true then none else gZ n lt a b (a.size+b.size) (a.size+b.size) ⟨#[y],0,1,0,0,7⟩
 |none=>none
end
def sPair (p:Array Nat)(x y:Nat):Option (Array Nat):=match sGet n p x with
 |none=>none
 |some key=>match sGal n lt false key p 0 x 0 with
  |none=>none
  |some k=>if (x - k==0)=true then none else match sGet n p (0+k+(x - k) - 1) with
   |none=>none
   |some last=>match sGal n lt true last p x y (y - 1) with
    |none=>none
    |some m=>if (m==0)=true then none else if x - k<=m then (match lp n lt (p.extract (0+k) x) (p.extract x (x+m)) with
     |some r=>some (r.toList.zipIdx.foldl (fun a q=>a.setIfInBounds (0+k+q.2) q.1) p)
     |none=>none) else none
noncomputable def sMin:Nat->Nat->Nat->Nat
 |f+1,m,r=>if m<64 then m+r else sMin f (m / 2) (max r (m % 2))
 |0,m,r=>m+r
def sRun (p:Array Nat)(lo:Nat):Option (Nat×Array Nat):=match jk n lt p lo (n - lo) with
 |none=>none
 |some k=>if k<sMin n n 0 then (match sBin n lt lo (min (n - lo) (sMin n n 0) - max k 1) (max k 1) p with
  |some p'=>some (min (n - lo) (sMin n n 0),p')
  |none=>none) else some (k,p)
def sSort:Option (Array Nat):=match sRun n lt (List.toArray (List.range n)) 0 with
 |none=>none
 |some (x,p)=>if x=n then some p else match sRun n lt p x with
  |none=>none
  |some (y,p')=>if x+y=n then sPair n lt p' x y else none
end
def ltKy (x y:List Int×Int):Bool:=if x.1=y.1 then decide (x.2<y.2) else HT.lexLt x.1 y.1
end L2
set_option maxHeartbeats 1000000
namespace L2
open PySem PySem.W PyProof.Rows
section
variable {M:Model}{A:Around}{E:Value->Shared->Prop}{s:Shared}{σ β:Type}{f:Nat->β->StateT σ Sem (ForInStep β)}{Q:β->σ->Prop}{st:σ}
theorem dF {b:β}(h:Q b st):wpS M A E s (forIn ([]:List Nat) b f) Q st:=by rw[List.forIn_nil];exact wpS_pure h
theorem aB {x:Nat}{l:List Nat}{b:β}(h:wpS M A E s (f x b) (fun r st'=>match r with
  |.done b'=>Q b' st'
  |.yield b'=>wpS M A E s (forIn l b' f) Q st') st):wpS M A E s (forIn (x::l) b f) Q st:=by
 rw[List.forIn_cons]
 refine wpS_bind (wpS_mono h fun r st' h'=>?_)
 cases r with
 |done b'=>exact wpS_pure h'
 |yield b'=>exact h'
theorem aY {a b:Nat}{c:β}(h:wpS M A E s (forIn (List.range' a (b - a)) c f) Q st):wpS M A E s (forIn [a:b] c f) Q st:=by
 rw[Std.Legacy.Range.forIn_eq_forIn_range',show ([a:b]:Std.Legacy.Range).size=b - a by simp [Std.Legacy.Range.size]]
 exact h
end
theorem d9 {n i a:Nat}{p:Array Nat}(h:sGet n p i=some a):p[i]?=some a/\a<n:=by
 unfold sGet at h
 split at h
 ·rename_i b e
  split at h
  ·rename_i l
   cases h;exact⟨e,l⟩
  ·cases h
 ·cases h
section
variable {prog:Program}{w:World}{A:Around}{E:Value->Shared->Prop}{s:Shared}{κ:SortKind}{it:Array Keyed}{n:Nat}{lt:Nat->Nat->Bool}
noncomputable def sSt (κ:SortKind)(it:Array Keyed)(p:Array Nat)(pe:Array (Nat×Nat×Nat))(g:Nat):SortSt:=SortSt.mk' κ (p.map (kas_item it)) pe g none
noncomputable def Ans (prog:Program)(w:World)(A:Around)(s:Shared)(κ:SortKind)(it:Array Keyed)(n:Nat)(lt:Nat->Nat->Bool):Prop:=
 ∀a b:Nat,a<n->b<n-> ∀Q:Bool->Shared->Prop,Q (lt a b) s->wpAny (model prog w) A (keyLt' κ (kas_item it a).1 (kas_item it b).1) Q (fun _ _=>False) s
variable {p:Array Nat}{pe:Array (Nat×Nat×Nat)}{g:Nat}
theorem aO {i a:Nat}{q:Array Nat}{Q:Keyed->SortSt->Prop}{st:SortSt}(h:sGet n q i=some a)(k:Q (kas_item it a) st):wpS (model prog w) A E s (elem' (q.map (kas_item it)) i) Q st:=by
 rw[elem'_eq,Array.getElem?_map,(d9 h).1]
 exact wpS_pure k
theorem mf (H:Ans prog w A s κ it n lt){a b:Nat}{Q:Option Bool->SortSt->Prop}(ha:a<n)(hb:b<n)(k:Q (some (lt a b)) (sSt κ it p pe g)):wpS (model prog w) A E s (lt' (kas_item it a) (kas_item it b)) Q (sSt κ it p pe g):=by
 rw[lt'_eq]
 refine wpS_bind (wpS_get ?_)
 refine wpS_bind (wpS_lift (wpAny_attempt (wpAny_mono (H a b ha hb (fun r s'=>r=lt a b/\s'=s) ⟨rfl,rfl⟩) (fun r s' hr=>?_) fun _ _ z=>z.elim)))
 obtain⟨rfl,rfl⟩:=hr
 exact⟨rfl,wpS_pure k⟩
theorem sE (H:Ans prog w A s κ it n lt){i j:Nat}{c:Bool}{Q:Option Bool->SortSt->Prop}(h:sLt n lt p i j=some c)(k:Q (some c) (sSt κ it p pe g)):wpS (model prog w) A E s (ltAt' i j) Q (sSt κ it p pe g):=by
 unfold sLt at h
 split at h
 ·rename_i a b ea eb
  cases h
  rw[ltAt'_eq]
  refine wpS_bind (wpS_get ?_)
  show wpS _ _ _ _ (do let x<-elem' (p.map (kas_item it)) i;let y<-elem' (p.map (kas_item it)) j;lt' x y) Q _
  refine wpS_bind (aO ea (wpS_bind (aO eb (mf H (d9 ea).2 (d9 eb).2 k))))
 ·cases h
theorem rY {lo:Nat}{f:Nat->Option (Option Nat)×Nat->StateT SortSt Sem (ForInStep (Option (Option Nat)×Nat))}{st:SortSt}
  (hf: ∀x k c R,sLt n lt p (lo+k) (lo+k - 1)=some c->R (if c=true then .done (none,k) else .yield (none,k+1)) st->wpS (model prog w) A E s (f x (none,k)) R st): ∀ (l:List Nat) (k k':Nat) (Q:Option (Option Nat)×Nat->SortSt->Prop),sAsc n lt p lo l.length k=some k'->Q (none,k') st->wpS (model prog w) A E s (forIn l (none,k) f) Q st
 |[],k,k',Q,h,q=>by
  rw[List.length_nil,sAsc] at h
  cases h
  exact dF q
 |x::l,k,k',Q,h,q=>by
  rw[List.length_cons,sAsc] at h
  split at h
  ·rename_i e
   cases h
   exact aB (hf x k true _ e (by rw[if_pos rfl];exact q))
  ·rename_i e
   exact aB (hf x k false _ e (by rw[if_neg (by simp)];exact rY hf l (k+1) k' Q h q))
  ·cases h
theorem gI (H:Ans prog w A s κ it n lt){lo r k:Nat}{Q:Option Nat->SortSt->Prop}(h:jk n lt p lo r=some k)(q:Q (some k) (sSt κ it p pe g)):wpS (model prog w) A E s (countRun' lo r) Q (sSt κ it p pe g):=by
 unfold jk at h
 split at h
 ·rename_i k1 e1
  rw[countRun'_eq]
  dsimp only
  refine wpS_bind (aY (rY (lo:=lo) (fun x k c R hc hR=>?_) _ 1 k1 _ (by rw[List.length_range'];exact e1) ?_))
  ·refine wpS_bind (sE H hc ?_)
   cases c<;>exact wpS_pure hR
  ·dsimp only
   split at h
   ·rename_i z
    cases h
    rw[if_pos z]
    exact wpS_pure q
   ·rename_i z
    rw[if_neg z]
    split at h
    ·rename_i z1
     rw[if_pos z1]
     split at h
     ·rename_i e2
      cases h
      refine wpS_bind (sE H e2 ?_)
      exact wpS_pure q
     ·cases h
    ·cases h
 ·cases h
theorem jh {lo k:Nat}{f:Nat->Option Bool×Nat×Nat->StateT SortSt Sem (ForInStep (Option Bool×Nat×Nat))}{st:SortSt}
  (h1: ∀x l r R,l≥r->R (.done (none,l,r)) st->wpS (model prog w) A E s (f x (none,l,r)) R st)
  (h2: ∀x l r c R,¬l≥r->sLt n lt p (lo+k) (lo+(l+r) / 2)=some c->R (.yield (if c=true then (none,l,(l+r) / 2) else (none,(l+r) / 2+1,r))) st->wpS (model prog w) A E s (f x (none,l,r)) R st):
  ∀ (ls:List Nat) (l r l':Nat) (Q:Option Bool×Nat×Nat->SortSt->Prop),eV n lt p lo k ls.length l r=some l'->(∀r',Q (none,l',r') st)->wpS (model prog w) A E s (forIn ls (none,l,r) f) Q st
 |[],l,r,l',Q,h,q=>by
  rw[List.length_nil,eV] at h
  cases h
  exact dF (q _)
 |x::ls,l,r,l',Q,h,q=>by
  rw[List.length_cons,eV] at h
  split at h
  ·rename_i z
   cases h
   exact aB (h1 x l r _ z (q _))
  ·rename_i z
   split at h
   ·rename_i e
    exact aB (h2 x l r true _ z e (by rw[if_pos rfl];exact jh h1 h2 ls _ _ l' Q h q))
   ·rename_i e
    exact aB (h2 x l r false _ z e (by rw[if_neg (by simp)];exact jh h1 h2 ls _ _ l' Q h q))
   ·cases h
theorem ji (src d:Nat):bubble (p.map (kas_item it)) src d=(bubble p src d).map (kas_item it):=kas_swaps_map (kas_item it) (fun k=>src - k) (fun k=>src - k - 1) _ p
theorem jY {lo:Nat}{f:Nat->Option Bool×Unit->StateT SortSt Sem (ForInStep (Option Bool×Unit))}
  (hf: ∀k l p R,eV n lt p lo k k 0 k=some l->R (.yield (none,())) (sSt κ it (bubble p (lo+k) (lo+k - (lo+l))) pe g)->wpS (model prog w) A E s (f k (none,())) R (sSt κ it p pe g)):
  ∀ (m k:Nat) (p p':Array Nat) (Q:Option Bool×Unit->SortSt->Prop),sBin n lt lo m k p=some p'->Q (none,()) (sSt κ it p' pe g)->wpS (model prog w) A E s (forIn (List.range' k m) (none,()) f) Q (sSt κ it p pe g)
 |0,k,p,p',Q,h,q=>by
  rw[sBin] at h
  cases h
  exact dF q
 |m+1,k,p,p',Q,h,q=>by
  rw[sBin] at h
  split at h
  ·rename_i l e
   rw[List.range'_succ]
   exact aB (hf k l p _ e (jY hf m (k+1) _ p' Q h q))
  ·cases h
theorem rX (H:Ans prog w A s κ it n lt){lo m ok:Nat}{p':Array Nat}{Q:Bool->SortSt->Prop}(h:sBin n lt lo (m - max ok 1) (max ok 1) p=some p')(q:Q true (sSt κ it p' pe g)):wpS (model prog w) A E s (binarySort' lo m ok) Q (sSt κ it p pe g):=by
 rw[binarySort'_eq]
 refine wpS_bind (aY (jY (fun k l p R e hR=>?_) _ _ p p' _ h ?_))
 ·dsimp only
  refine wpS_bind (aY (jh (lo:=lo) (k:=k) (fun x l r R z hR=>?_) (fun x l r c R z e hR=>?_) _ 0 k l _ (by rw[List.length_range'];exact e) fun r'=>?_))
  ·dsimp only
   rw[if_pos z]
   exact wpS_pure hR
  ·dsimp only
   rw[if_neg z]
   refine wpS_bind (sE H e ?_)
   cases c<;>exact wpS_pure hR
  ·show wpS _ _ _ _ (do moveDown' (lo+k) (lo+l);pure (ForInStep.yield (none,()))) _ _
   rw[moveDown'_eq]
   refine wpS_bind (wpS_modify (wpS_pure ?_))
   show R _ (SortSt.mk' κ (bubble (p.map (kas_item it)) (lo+k) (lo+k - (lo+l))) pe g none)
   rw[ji];exact hR
 ·exact wpS_pure q
end
end L2
set_option maxHeartbeats 1000000
namespace L2
open PySem PySem.W PyProof.Rows
noncomputable def gal':Bool->Keyed->Array Keyed->Nat->Nat->Nat->StateT SortSt Sem (Option Nat):=sortPriv% PySem.Builtin.gallop
section
variable {prog:Program}{w:World}{A:Around}{E:Value->Shared->Prop}{s:Shared}{κ:SortKind}{it:Array Keyed}{n:Nat}{lt:Nat->Nat->Bool}
variable {p:Array Nat}{pe:Array (Nat×Nat×Nat)}{g:Nat}
theorem iS (H:Ans prog w A s κ it n lt){left c:Bool}{key i:Nat}{a:Array Nat}{Q:Option Bool->SortSt->Prop}(h:sBey n lt left key a i=some c)(q:Q (some c) (sSt κ it p pe g)):
  wpS (model prog w) A E s (do let x<-elem' (a.map (kas_item it)) i;if left=true then lt' x (kas_item it key) else do let r<-lt' (kas_item it key) x;pure (r.map (!·))) Q (sSt κ it p pe g):=by
 unfold sBey at h
 split at h
 ·rename_i x e
  have ax:=(d9 e).2
  refine wpS_bind (aO e ?_)
  split at h
  ·rename_i hk
   split at h
   ·rename_i l
    cases h
    rw[if_pos l]
    exact mf H ax hk q
   ·rename_i l
    cases h
    rw[if_neg l]
    exact wpS_bind (mf H hk ax (wpS_pure q))
  ·cases h
 ·cases h
noncomputable abbrev GS:=Option (Option Nat)×Nat×Nat
section
variable {f:Nat->GS->StateT SortSt Sem (ForInStep GS)}{st:SortSt}{left:Bool}{key base hint mx:Nat}{a:Array Nat}
theorem uu (h1: ∀x la o R,o≥mx->R (.done (none,la,o)) st->wpS (model prog w) A E s (f x (none,la,o)) R st)
  (h2: ∀x la o c R,¬o≥mx->sBey n lt left key a (base+(hint+o))=some c->R (if c=true then .yield (none,o,2 * o+1) else .done (none,la,o)) st->wpS (model prog w) A E s (f x (none,la,o)) R st):
  ∀ (l:List Nat) (la o la' o':Nat) (Q:GS->SortSt->Prop),sUp n lt left key a base hint mx l.length la o=some (la',o')->Q (none,la',o') st->wpS (model prog w) A E s (forIn l (none,la,o) f) Q st
 |[],la,o,la',o',Q,h,q=>by
  rw[List.length_nil,sUp] at h
  cases h
  exact dF q
 |x::l,la,o,la',o',Q,h,q=>by
  rw[List.length_cons,sUp] at h
  split at h
  ·rename_i z
   cases h
   exact aB (h1 x la o _ z q)
  ·rename_i z
   split at h
   ·rename_i e
    exact aB (h2 x la o true _ z e (by rw[if_pos rfl];exact uu h1 h2 l _ _ la' o' Q h q))
   ·rename_i e
    cases h
    exact aB (h2 x la o false _ z e (by rw[if_neg (by simp)];exact q))
   ·cases h
theorem oJ (h1: ∀x la o R,o≥mx->R (.done (none,la,o)) st->wpS (model prog w) A E s (f x (none,la,o)) R st)
  (h2: ∀x la o c R,¬o≥mx->sBey n lt left key a (base+(hint - o))=some c->R (if c=true then .done (none,la,o) else .yield (none,o,2 * o+1)) st->wpS (model prog w) A E s (f x (none,la,o)) R st):
  ∀ (l:List Nat) (la o la' o':Nat) (Q:GS->SortSt->Prop),sDown n lt left key a base hint mx l.length la o=some (la',o')->Q (none,la',o') st->wpS (model prog w) A E s (forIn l (none,la,o) f) Q st
 |[],la,o,la',o',Q,h,q=>by
  rw[List.length_nil,sDown] at h
  cases h
  exact dF q
 |x::l,la,o,la',o',Q,h,q=>by
  rw[List.length_cons,sDown] at h
  split at h
  ·rename_i z
   cases h
   exact aB (h1 x la o _ z q)
  ·rename_i z
   split at h
   ·rename_i e
    exact aB (h2 x la o false _ z e (by rw[if_neg (by simp)];exact oJ h1 h2 l _ _ la' o' Q h q))
   ·rename_i e
    cases h
    exact aB (h2 x la o true _ z e (by rw[if_pos rfl];exact q))
   ·cases h
theorem jj (h1: ∀x lo hi R,lo≥hi->R (.done (none,lo,hi)) st->wpS (model prog w) A E s (f x (none,lo,hi)) R st)
  (h2: ∀x lo hi c R,¬lo≥hi->sBey n lt left key a (base+(lo+(hi - lo) / 2))=some c->R (.yield (if c=true then (none,lo+(hi - lo) / 2+1,hi) else (none,lo,lo+(hi - lo) / 2))) st->wpS (model prog w) A E s (f x (none,lo,hi)) R st):
  ∀ (l:List Nat) (lo hi k:Nat) (Q:GS->SortSt->Prop),sHalf n lt left key a base l.length lo hi=some k->(∀lo',Q (none,lo',k) st)->wpS (model prog w) A E s (forIn l (none,lo,hi) f) Q st
 |[],lo,hi,k,Q,h,q=>by
  rw[List.length_nil,sHalf] at h
  cases h
  exact dF (q _)
 |x::l,lo,hi,k,Q,h,q=>by
  rw[List.length_cons,sHalf] at h
  split at h
  ·rename_i z
   cases h
   exact aB (h1 x lo hi _ z (q _))
  ·rename_i z
   split at h
   ·rename_i e
    exact aB (h2 x lo hi true _ z e (by rw[if_pos rfl];exact jj h1 h2 l _ _ k Q h q))
   ·rename_i e
    exact aB (h2 x lo hi false _ z e (by rw[if_neg (by simp)];exact jj h1 h2 l _ _ k Q h q))
   ·cases h
end
theorem gx (H:Ans prog w A s κ it n lt){left:Bool}{key base m hint k:Nat}{a:Array Nat}{Q:Option Nat->SortSt->Prop}(h:sGal n lt left key a base m hint=some k)(q:Q (some k) (sSt κ it p pe g)):wpS (model prog w) A E s (gal' left (kas_item it key) (a.map (kas_item it)) base m hint) Q (sSt κ it p pe g):=by
 unfold sGal at h
 unfold gal'
 split at h
 ·rename_i e0
  split at h
  ·rename_i la o e1
   refine wpS_bind (iS H e0 ?_)
   dsimp only
   rw[if_pos rfl]
   refine wpS_bind (aY (uu (left:=left) (key:=key) (base:=base) (hint:=hint) (mx:=m - hint) (a:=a) (n:=n) (lt:=lt) (fun x la o R z hR=>?_) (fun x la o c R z e hR=>?_) _ 0 1 la o _ (by rw[List.length_range'];exact e1) ?_))
   ·dsimp only
    rw[if_pos z]
    exact wpS_pure hR
   ·dsimp only
    rw[if_neg z]
    refine wpS_bind (iS H e ?_)
    cases c<;>exact wpS_pure hR
   ·dsimp only
    refine wpS_bind (aY (jj (left:=left) (key:=key) (base:=base) (a:=a) (n:=n) (lt:=lt) (fun x lo hi R z hR=>?_) (fun x lo hi c R z e hR=>?_) _ _ _ k _ (by rw[List.length_range'];exact h) fun lo'=>?_))
    ·dsimp only
     rw[if_pos z]
     exact wpS_pure hR
    ·dsimp only
     rw[if_neg z]
     refine wpS_bind (iS H e ?_)
     cases c<;>exact wpS_pure hR
    ·exact wpS_pure q
  ·cases h
 ·rename_i e0
  split at h
  ·rename_i la o e1
   refine wpS_bind (iS H e0 ?_)
   dsimp only
   rw[if_neg (by simp)]
   refine wpS_bind (aY (oJ (left:=left) (key:=key) (base:=base) (hint:=hint) (mx:=hint+1) (a:=a) (n:=n) (lt:=lt) (fun x la o R z hR=>?_) (fun x la o c R z e hR=>?_) _ 0 1 la o _ (by rw[List.length_range'];exact e1) ?_))
   ·dsimp only
    rw[if_pos z]
    exact wpS_pure hR
   ·dsimp only
    rw[if_neg z]
    refine wpS_bind (iS H e ?_)
    cases c<;>exact wpS_pure hR
   ·dsimp only
    refine wpS_bind (aY (jj (left:=left) (key:=key) (base:=base) (a:=a) (n:=n) (lt:=lt) (fun x lo hi R z hR=>?_) (fun x lo hi c R z e hR=>?_) _ _ _ k _ (by rw[List.length_range'];exact h) fun lo'=>?_))
    ·dsimp only
     rw[if_pos z]
     exact wpS_pure hR
    ·dsimp only
     rw[if_neg z]
     refine wpS_bind (iS H e ?_)
     cases c<;>exact wpS_pure hR
    ·exact wpS_pure q
  ·cases h
 ·cases h
end
end L2
set_option maxHeartbeats 1000000
namespace L2
open PySem PySem.W PyProof.Rows
noncomputable def mrg':Array Keyed->Array Keyed->StateT SortSt Sem (Array Keyed):=sortPriv% PySem.Builtin.mergeLo
section
variable {prog:Program}{w:World}{A:Around}{E:Value->Shared->Prop}{s:Shared}{κ:SortKind}{it:Array Keyed}{n:Nat}{lt:Nat->Nat->Bool}
variable {p:Array Nat}{pe:Array (Nat×Nat×Nat)}{a b:Array Nat}
noncomputable abbrev M6:=Option (Array Keyed)×Array Keyed×Nat×Nat×Nat×Nat
noncomputable abbrev M7:=Option (Array Keyed)×Array Keyed×Nat×Nat×Nat×Nat×Nat
noncomputable abbrev M5:=Option (Array Keyed)×Array Keyed×Nat×Nat×Nat
noncomputable abbrev t6 (it:Array Keyed)(r:Option (Array Nat))(s:Mg):M6:=(r.map (·.map (kas_item it)),s.out.map (kas_item it),s.ia,s.ib,s.ac,s.bc)
noncomputable abbrev t7 (it:Array Keyed)(s:Mg):M7:=(none,s.out.map (kas_item it),s.ia,s.ib,s.g,s.ac,s.bc)
noncomputable abbrev t5 (it:Array Keyed)(r:Option (Array Nat))(s:Mg):M5:=(r.map (·.map (kas_item it)),s.out.map (kas_item it),s.ia,s.ib,s.g)
theorem rV {f:Nat->M6->StateT SortSt Sem (ForInStep M6)}{st:SortSt}{g:Nat}
  (hf: ∀x (m:Mg) y z R,m.g=g->sGet n b m.ib=some y->sGet n a m.ia=some z->R (if (oStep lt a b y z m).2.2=true then .done (t6 it (oStep lt a b y z m).1 (oStep lt a b y z m).2.1) else .yield (t6 it none (oStep lt a b y z m).2.1)) st->wpS (model prog w) A E s (f x (t6 it none m)) R st):
  ∀ (l:List Nat) (m:Mg) (r:Array Nat ⊕ Mg) (Q:M6->SortSt->Prop),m.g=g->sOne n lt a b l.length m=some r->(∀q,r=.inl q-> ∀m',Q (t6 it (some q) m') st)->(∀m',r=.inr m'->m'.g=g->Q (t6 it none m') st)->wpS (model prog w) A E s (forIn l (t6 it none m) f) Q st
 |[],m,r,Q,hg,h,q1,q2=>by
  rw[List.length_nil,sOne] at h
  cases h
  exact dF (q2 _ rfl hg)
 |x::l,m,r,Q,hg,h,q1,q2=>by
  rw[List.length_cons,sOne] at h
  split at h
  ·rename_i y z ey ez
   have gg:(oStep lt a b y z m).2.1.g=g:=by
    unfold oStep
    repeat' split
    all_goals exact hg
   split at h
   ·rename_i q m' d e
    have d1:d=true:=by
     unfold oStep at e
     repeat' split at e
     all_goals (injection e with e1 e2;first|(injection e2 with _ e3;exact e3.symm)|cases e1)
    refine aB (hf x m y z _ hg ey ez ?_)
    rw[e,d1]
    cases h
    exact q1 _ rfl _
   ·rename_i m' e
    rw[e] at gg
    refine aB (hf x m y z _ hg ey ez ?_)
    rw[e]
    cases h
    exact q2 _ rfl gg
   ·rename_i m' e
    rw[e] at gg
    refine aB (hf x m y z _ hg ey ez ?_)
    rw[e]
    exact rV hf l m' r Q gg h q1 q2
  ·cases h
theorem oI {f:Nat->M7->StateT SortSt Sem (ForInStep M7)}
  (hf: ∀x (m m':Mg) d G R,lStep n lt a b m=some (m',d)->R (if d=true then .done (t7 it m') else .yield (t7 it m')) (sSt κ it p pe m'.g)->wpS (model prog w) A E s (f x (t7 it m)) R (sSt κ it p pe G)):
  ∀ (l:List Nat) (m m':Mg) (G:Nat) (Q:M7->SortSt->Prop),sLeap n lt a b l.length m=some m'->(∀G,Q (t7 it m') (sSt κ it p pe G))->wpS (model prog w) A E s (forIn l (t7 it m) f) Q (sSt κ it p pe G)
 |[],m,m',G,Q,h,q=>by
  rw[List.length_nil,sLeap] at h
  cases h
  exact dF (q _)
 |x::l,m,m',G,Q,h,q=>by
  rw[List.length_cons,sLeap] at h
  split at h
  ·cases h
  ·rename_i m1 e
   cases h
   exact aB (hf x m _ true G _ e (q _))
  ·rename_i m1 e
   exact aB (hf x m _ false G _ e (oI hf l _ m' _ Q h q))
theorem me {t:Nat}{f:Nat->M5->StateT SortSt Sem (ForInStep M5)}
  (hf: ∀x (m:Mg) r G R,sOne n lt a b t ⟨m.out,m.ia,m.ib,0,0,m.g⟩=some r->(∀q,r=.inl q-> ∀m',R (.done (t5 it (some q) m')) (sSt κ it p pe G))->(∀m1,r=.inr m1-> ∃m2,sLeap n lt a b t ⟨m1.out,m1.ia,m1.ib,m1.ac,m1.bc,m1.g+1⟩=some m2/\R (.yield (t5 it none ⟨m2.out,m2.ia,m2.ib,m2.ac,m2.bc,m2.g+1⟩)) (sSt κ it p pe (m2.g+1)))->wpS (model prog w) A E s (f x (t5 it none m)) R (sSt κ it p pe G)):
  ∀ (l:List Nat) (m:Mg) (r:Array Nat) (G:Nat) (Q:M5->SortSt->Prop),gZ n lt a b t l.length m=some r->(∀m' G,Q (t5 it (some r) m') (sSt κ it p pe G))->wpS (model prog w) A E s (forIn l (t5 it none m) f) Q (sSt κ it p pe G)
 |[],m,r,G,Q,h,q=>by
  rw[List.length_nil,gZ] at h
  cases h
 |x::l,m,r,G,Q,h,q=>by
  rw[List.length_cons,gZ] at h
  split at h
  ·rename_i r1 e
   cases h
   exact aB (hf x m _ G _ e (fun q' hq m'=>by cases hq;exact q m' G) fun m1 hm=>by cases hm)
  ·rename_i m1 e
   split at h
   ·rename_i m2 e2
    exact aB (hf x m _ G _ e (fun q' hq=>by cases hq) fun m1' hm=>by cases hm;exact⟨m2,e2,me hf l _ r _ Q h q⟩)
   ·cases h
  ·cases h
theorem db (q:Array Nat)(i j:Nat):(q.map (kas_item it)).extract i j=(q.extract i j).map (kas_item it):=by simp
theorem bb (q:Array Nat)(y:Nat):(q.map (kas_item it)).push (kas_item it y)=(q.push y).map (kas_item it):=by simp
theorem dW (q r:Array Nat):q.map (kas_item it)++r.map (kas_item it)=(q++r).map (kas_item it):=by simp
theorem bU {σ α:Type}{M:Model}{c:Prop} [Decidable c] {x y:StateT σ Sem α}{R:α->σ->Prop}{st:σ}(h:c)(q:wpS M A E s x R st):wpS M A E s (if c then x else y) R st:=by rw[if_pos h];exact q
theorem aC {σ α:Type}{M:Model}{c:Prop} [Decidable c] {x y:StateT σ Sem α}{R:α->σ->Prop}{st:σ}(h:¬c)(q:wpS M A E s y R st):wpS M A E s (if c then x else y) R st:=by rw[if_neg h];exact q
theorem qy (H:Ans prog w A s κ it n lt){r:Array Nat}{Q:Array Keyed->SortSt->Prop}(h:lp n lt a b=some r)(q:∀g,Q (r.map (kas_item it)) (sSt κ it p pe g)):wpS (model prog w) A E s (mrg' (a.map (kas_item it)) (b.map (kas_item it))) Q (sSt κ it p pe 7):=by
 unfold lp at h
 unfold mrg'
 split at h
 ·rename_i y e0
  split at h
  ·cases h
  ·rename_i z1
   split at h
   ·cases h
   ·rename_i z2
    refine wpS_bind (wpS_lift (wpAny_rule ⟨rfl,?_⟩))
    refine wpS_bind (aO e0 ?_)
    rw[show (#[kas_item it y]:Array Keyed)=(#[y]:Array Nat).map (kas_item it) by simp]
    rw[Array.size_map,Array.size_map]
    rw[if_neg z1,if_neg z2]
    refine wpS_bind (wpS_get ?_)
    refine wpS_bind (aY (me (κ:=κ) (it:=it) (p:=p) (pe:=pe) (a:=a) (b:=b) (n:=n) (lt:=lt) (t:=a.size+b.size) (fun x m r G R e hR1 hR2=>?_) _ ⟨#[y],0,1,0,0,7⟩ r 7 _ (by rw[List.length_range'];exact h) fun m' G=>?_))
    ·refine wpS_bind (aY (rV (it:=it) (a:=a) (b:=b) (n:=n) (lt:=lt) (g:=m.g) (fun x m y z R hg ey ez hR=>?_) _ ⟨m.out,m.ia,m.ib,0,0,m.g⟩ r _ rfl (by rw[List.length_range'];exact e) (fun q hq m'=>?_) fun m1 hm hg=>?_))
     ·refine wpS_bind (aO ey (wpS_bind (aO ez (wpS_bind (mf H (d9 ey).2 (d9 ez).2 ?_)))))
      unfold oStep at hR
      cases hc:lt y z with
      |true=>
       rw[if_pos hc] at hR
       dsimp only
       rw[if_pos rfl]
       refine wpS_bind (aO ey ?_)
       try dsimp only
       by_cases z1:(m.ib+1==b.size)=true
       ·rw[if_pos z1] at hR
        rw[if_pos z1]
        refine wpS_pure ?_
        dsimp only[t6,sDone,Option.map] at hR
        rw[bb,db,db,dW,dW]
        exact hR
       ·rw[if_neg z1] at hR
        rw[if_neg z1]
        dsimp only at hR
        by_cases z2:m.bc+1≥m.g
        ·rw[if_pos (decide_eq_true z2)] at hR
         rw[if_pos (by rw[<-hg];exact z2)]
         refine wpS_pure ?_
         dsimp only[t6,Option.map] at hR
         rw[bb]
         exact hR
        ·rw[if_neg (by simpa using z2)] at hR
         rw[if_neg (by rw[<-hg];exact z2)]
         refine wpS_pure ?_
         dsimp only[t6,Option.map] at hR
         rw[bb]
         exact hR
      |false=>
       rw[if_neg (show¬lt y z=true by rw[hc];simp)] at hR
       dsimp only
       rw[if_neg (by simp)]
       refine wpS_bind (aO ez ?_)
       try dsimp only
       by_cases z1:(m.ia+1+1==a.size)=true
       ·rw[if_pos z1] at hR
        rw[if_pos z1]
        refine wpS_pure ?_
        dsimp only[t6,sLast,Option.map] at hR
        rw[bb,db,db,dW,dW]
        exact hR
       ·rw[if_neg z1] at hR
        rw[if_neg z1]
        dsimp only at hR
        by_cases z2:m.ac+1≥m.g
        ·rw[if_pos (decide_eq_true z2)] at hR
         rw[if_pos (by rw[<-hg];exact z2)]
         refine wpS_pure ?_
         dsimp only[t6,Option.map] at hR
         rw[bb]
         exact hR
        ·rw[if_neg (by simpa using z2)] at hR
         rw[if_neg (by rw[<-hg];exact z2)]
         refine wpS_pure ?_
         dsimp only[t6,Option.map] at hR
         rw[bb]
         exact hR
     ·exact wpS_pure (hR1 _ hq ⟨m'.out,m'.ia,m'.ib,0,0,m.g⟩)
     ·obtain⟨m2,e2,hR3⟩:=hR2 m1 hm
      refine wpS_bind (wpS_lift (wpAny_rule ⟨rfl,?_⟩))
      refine wpS_bind (aY (oI (κ:=κ) (it:=it) (p:=p) (pe:=pe) (a:=a) (b:=b) (n:=n) (lt:=lt) (fun x m m' d G R hl hR=>?_) _ ⟨m1.out,m1.ia,m1.ib,m1.ac,m1.bc,m.g+1⟩ m2 G _ (by rw[List.length_range',<-hg];exact e2) fun G=>?_))
      ·unfold lStep at hl
       split at hl
       ·cases hl
       rename_i y ey
       split at hl
       ·cases hl
       rename_i k ek
       split at hl
       ·cases hl
       rename_i nk
       split at hl
       ·cases hl
       rename_i x ex
       split at hl
       ·cases hl
       rename_i j ej
       split at hl
       ·cases hl
       rename_i nj
       have a1: ¬(m.ib+1==b.size)=true:=fun z=>nk (.inr z)
       have a2:k>0-> ¬(m.ia+k+1==a.size)=true:=fun hk z=>nk (.inl ⟨hk,.inl z⟩)
       have a3:k>0-> ¬(m.ia+k==a.size)=true:=fun hk z=>nk (.inl ⟨hk,.inr z⟩)
       have a4:j>0-> ¬(m.ib+1+j==b.size)=true:=fun hj z=>nj (.inl ⟨hj,z⟩)
       have a5: ¬(m.ia+k+1+1==a.size)=true:=fun z=>nj (.inr z)
       clear nk nj
       injection hl with hl
       obtain⟨rfl,rfl⟩:=Prod.mk.inj hl
       dsimp only
       have fin: ∀ (o:Array Nat) (g':Nat),o=(if j>0 then (if k>0 then m.out++a.extract m.ia (m.ia+k) else m.out).push y++b.extract (m.ib+1) (m.ib+1+j) else (if k>0 then m.out++a.extract m.ia (m.ia+k) else m.out).push y)->g'=(if m.g>1 then m.g - 1 else m.g)->wpS (model prog w) A E s (if (decide (k<7) && decide (j<7))=true then pure (ForInStep.done (t7 it ⟨o.push x,m.ia+k+1,m.ib+1+j,k,j,g'⟩)) else pure (ForInStep.yield (t7 it ⟨o.push x,m.ia+k+1,m.ib+1+j,k,j,g'⟩))) R (sSt κ it p pe g'):=fun o g' ho hg'=>by
        rw[<-ho,<-hg'] at hR
        by_cases hd:(decide (k<7) && decide (j<7))=true
        ·rw[if_pos hd] at hR
         exact bU hd (wpS_pure hR)
        ·rw[if_neg hd] at hR
         exact aC hd (wpS_pure hR)
       clear hR
       by_cases hg1:m.g>1
       ·rw[if_pos hg1] at fin
        refine bU hg1 (wpS_bind (wpS_modify ?_))
        show wpS _ _ _ _ _ _ (sSt κ it p pe (m.g - 1))
        refine wpS_bind (aO ey (wpS_bind (gx H ek ?_)))
        dsimp only
        by_cases hk:k>0
        ·rw[if_pos hk] at fin
         refine bU hk (aC (a2 hk) (aC (a3 hk) (wpS_bind (aO ey ?_))))
         refine aC a1 (wpS_bind (aO ex (wpS_bind (gx H ej ?_))))
         dsimp only
         by_cases hj:j>0
         ·rw[if_pos hj] at fin
          refine bU hj (aC (a4 hj) (wpS_bind (aO ex ?_)))
          refine aC a5 ?_
          rw[db,db,dW,bb,dW,bb]
          exact fin _ _ rfl rfl
         ·rw[if_neg hj] at fin
          obtain rfl:j=0:=by omega
          refine aC hj (wpS_bind (aO ex ?_))
          refine aC a5 ?_
          rw[db,dW,bb,bb]
          exact fin _ _ rfl rfl
        ·rw[if_neg hk] at fin
         obtain rfl:k=0:=by omega
         refine aC hk (wpS_bind (aO ey ?_))
         refine aC a1 (wpS_bind (aO ex (wpS_bind (gx H ej ?_))))
         dsimp only
         by_cases hj:j>0
         ·rw[if_pos hj] at fin
          refine bU hj (aC (a4 hj) (wpS_bind (aO ex ?_)))
          refine aC a5 ?_
          rw[db,bb,dW,bb]
          exact fin _ _ rfl rfl
         ·rw[if_neg hj] at fin
          obtain rfl:j=0:=by omega
          refine aC hj (wpS_bind (aO ex ?_))
          refine aC a5 ?_
          rw[bb,bb]
          exact fin _ _ rfl rfl
       ·rw[if_neg hg1] at fin
        refine aC hg1 (wpS_bind (wpS_modify ?_))
        show wpS _ _ _ _ _ _ (sSt κ it p pe m.g)
        refine wpS_bind (aO ey (wpS_bind (gx H ek ?_)))
        dsimp only
        by_cases hk:k>0
        ·rw[if_pos hk] at fin
         refine bU hk (aC (a2 hk) (aC (a3 hk) (wpS_bind (aO ey ?_))))
         refine aC a1 (wpS_bind (aO ex (wpS_bind (gx H ej ?_))))
         dsimp only
         by_cases hj:j>0
         ·rw[if_pos hj] at fin
          refine bU hj (aC (a4 hj) (wpS_bind (aO ex ?_)))
          refine aC a5 ?_
          rw[db,db,dW,bb,dW,bb]
          exact fin _ _ rfl rfl
         ·rw[if_neg hj] at fin
          obtain rfl:j=0:=by omega
          refine aC hj (wpS_bind (aO ex ?_))
          refine aC a5 ?_
          rw[db,dW,bb,bb]
          exact fin _ _ rfl rfl
        ·rw[if_neg hk] at fin
         obtain rfl:k=0:=by omega
         refine aC hk (wpS_bind (aO ey ?_))
         refine aC a1 (wpS_bind (aO ex (wpS_bind (gx H ej ?_))))
         dsimp only
         by_cases hj:j>0
         ·rw[if_pos hj] at fin
          refine bU hj (aC (a4 hj) (wpS_bind (aO ex ?_)))
          refine aC a5 ?_
          rw[db,bb,dW,bb]
          exact fin _ _ rfl rfl
         ·rw[if_neg hj] at fin
          obtain rfl:j=0:=by omega
          refine aC hj (wpS_bind (aO ex ?_))
          refine aC a5 ?_
          rw[bb,bb]
          exact fin _ _ rfl rfl
      ·refine wpS_bind (wpS_modify (wpS_pure ?_))
       exact hR3
    ·exact wpS_pure (q G)
 ·cases h
end
end L2
set_option maxHeartbeats 1000000
namespace L2
open PySem PySem.W PyProof.Rows
section
variable {prog:Program}{w:World}{A:Around}{E:Value->Shared->Prop}{s:Shared}{κ:SortKind}{it:Array Keyed}{n:Nat}{lt:Nat->Nat->Bool}{p:Array Nat}
theorem si {σ:Type}{M:Model}{st st':σ}{Q:PUnit->σ->Prop}(h:Q ⟨⟩ st'):wpS M A E s (set st':StateT σ Sem PUnit) Q st:=by unfold wpS;rw[StateT.run_set];exact wpAny_pure ⟨rfl,h⟩
theorem uz (k:Nat)(p:Array Nat): ∀l:List (Nat×Nat),(l.map fun q=>(kas_item it q.1,q.2)).foldl (fun a q=>a.setIfInBounds (0+k+q.2) q.1) (p.map (kas_item it))=(l.foldl (fun a q=>a.setIfInBounds (0+k+q.2) q.1) p).map (kas_item it):=by
 intro l
 induction l generalizing p with
 |nil=>rfl
 |cons q l ih=>
  rw[List.map_cons,List.foldl_cons,List.foldl_cons,<-ih]
  congr 1
  simp
theorem sD (H:Ans prog w A s κ it n lt){x y u v:Nat}{r:Array Nat}{Q:Bool->SortSt->Prop}(h:sPair n lt p x y=some r)(q:∀g,Q true (sSt κ it r #[(0,x+y,u)] g)):wpS (model prog w) A E s (mergeAt' 0) Q (sSt κ it p #[(0,x,u),(x,y,v)] 7):=by
 unfold sPair at h
 unfold mergeAt'
 split at h
 ·cases h
 rename_i key e1
 split at h
 ·cases h
 rename_i k e2
 split at h
 ·cases h
 rename_i z1
 split at h
 ·cases h
 rename_i last e3
 split at h
 ·cases h
 rename_i m e4
 split at h
 ·cases h
 rename_i z2
 split at h
 ·rename_i z3
  split at h
  ·rename_i mg e5
   cases h
   refine wpS_bind (wpS_get ?_)
   have p1:(pendingOf (sSt κ it p #[(0,x,u),(x,y,v)] 7))[0]?=some (0,x,u):=rfl
   have p2:(pendingOf (sSt κ it p #[(0,x,u),(x,y,v)] 7))[0+1]?=some (x,y,v):=rfl
   rw[p1,p2]
   refine wpS_bind (si ?_)
   show wpS _ _ _ _ _ _ (sSt κ it p ((#[(0,x,u),(x,y,v)]:Array (Nat×Nat×Nat)).setIfInBounds 0 (0,x+y,u)|>.eraseIdxIfInBounds 1) 7)
   rw[show ((#[(0,x,u),(x,y,v)]:Array (Nat×Nat×Nat)).setIfInBounds 0 (0,x+y,u)|>.eraseIdxIfInBounds 1)= #[(0,x+y,u)] by simp [Array.eraseIdxIfInBounds]]
   refine wpS_bind (aO e1 (wpS_bind (gx H e2 ?_)))
   dsimp only
   refine aC z1 (wpS_bind (aO e3 (wpS_bind (gx H e4 ?_))))
   dsimp only
   refine aC z2 (bU z3 ?_)
   refine wpS_bind ?_
   show wpS _ _ _ _ (mrg' ((p.map (kas_item it)).extract (0+k) x) ((p.map (kas_item it)).extract x (x+m))) _ _
   rw[db,db]
   refine qy H e5 fun g=>?_
   refine wpS_bind (wpS_modify (wpS_bind (wpS_get (wpS_pure ?_))))
   show Q true (SortSt.mk' κ (List.foldl (fun (a:Array Keyed) (x:Keyed×Nat)=>a.setIfInBounds (0+k+x.2) x.1) (p.map (kas_item it)) (mg.map (kas_item it)).toList.zipIdx) #[(0,x+y,u)] g none)
   rw[Array.toList_map,List.zipIdx_map,show (Prod.map (kas_item it) id:Nat×Nat->Keyed×Nat)=fun q=>(kas_item it q.1,q.2) from rfl,uz]
   exact q g
  ·cases h
 ·cases h
theorem rW: ∀f m r,minRun' f m r=sMin f m r
 |0,m,r=>rfl
 |f+1,m,r=>by rw[minRun'_succ,sMin,rW f]
noncomputable abbrev L2S:=Option Unit×Nat
theorem sF {k:Nat}{f:Nat->L2S->StateT SortSt Sem (ForInStep L2S)}{p0 p1 r:Array Nat}{x:Nat}{R:L2S->SortSt->Prop}
  (hA: ∀i lo st R,lo≥k+2->R (.done (none,lo)) st->wpS (model prog w) A E s (f i (none,lo)) R st)
  (hB: ∀i lo y p p' R,¬lo≥k+2->sRun (k+2) lt p lo=some (y,p')->R (.yield (none,lo+y)) (sSt κ it p' #[(lo,y,0)] 7)->wpS (model prog w) A E s (f i (none,lo)) R (sSt κ it p #[] 7))
  (hC: ∀i lo y p p' z R,¬lo≥k+2->sRun (k+2) lt p lo=some (y,p')->(∀u,R (.yield (none,lo+y)) (sSt κ it p' #[(0,z,u),(lo,y,0)] 7))->wpS (model prog w) A E s (f i (none,lo)) R (sSt κ it p #[(0,z,0)] 7))
  (e1:sRun (k+2) lt p0 0=some (x,p1))(h:(if x=k+2 then some p1 else match sRun (k+2) lt p1 x with
   |none=>none
   |some (y,p')=>if x+y=k+2 then sPair (k+2) lt p' x y else none)=some r)
  (q1:p1=r->R (none,k+2) (sSt κ it r #[(0,k+2,0)] 7))(q2: ∀y u p2,sPair (k+2) lt p2 x y=some r->R (none,k+2) (sSt κ it p2 #[(0,x,u),(x,y,0)] 7)):
  wpS (model prog w) A E s (forIn (0::1::List.range' 2 k) (none,0) f) R (sSt κ it p0 #[] 7):=by
 refine aB (hB 0 0 x p0 p1 _ (by omega) e1 ?_)
 dsimp only
 rw[Nat.zero_add]
 by_cases z:x=k+2
 ·rw[if_pos z] at h
  cases h
  subst z
  exact aB (hA 1 _ _ _ (Nat.le_refl _) (q1 rfl))
 ·rw[if_neg z] at h
  split at h
  ·cases h
  rename_i y p2 e2
  split at h
  ·rename_i z2
   refine aB (hC 1 x y p1 p2 x _ (by omega) e2 fun u=>?_)
   dsimp only
   rw[z2]
   cases k with
   |zero=>exact dF (q2 y u p2 h)
   |succ k=>rw[List.range'_succ];exact aB (hA 2 _ _ _ (Nat.le_refl _) (q2 y u p2 h))
  ·cases h
theorem rU (H:Ans prog w A s κ it n lt){lo y M:Nat}{p':Array Nat}{pe:Array (Nat×Nat×Nat)}{g:Nat}(hM:sMin n n 0=M)(h:sRun n lt p lo=some (y,p')): ∃f,jk n lt p lo (n - lo)=some f/\((f<M/\y=min (n - lo) M/\sBin n lt lo (min (n - lo) M - max f 1) (max f 1) p=some p')\/(¬f<M/\y=f/\p'=p)):=by
 unfold sRun at h
 rw[hM] at h
 split at h
 ·cases h
 rename_i f e
 refine⟨f,e,?_⟩
 split at h
 ·rename_i z
  split at h
  ·rename_i q e2
   cases h
   exact .inl ⟨z,rfl,e2⟩
  ·cases h
 ·rename_i z
  cases h
  exact .inr ⟨z,rfl,rfl⟩
theorem oH (H:Ans prog w A s κ it n lt){r:Array Nat}{Q:Unit->SortSt->Prop}(h2:2<=n)(h:sSort n lt=some r)(q:∀pe g,Q () (sSt κ it r pe g)):wpS (model prog w) A E s sortRuns' Q (sSt κ it (List.toArray (List.range n)) #[] 7):=by
 unfold sSort at h
 split at h
 ·cases h
 rename_i x p1 e1
 rw[sortRuns'_eq]
 refine wpS_bind (wpS_get ?_)
 dsimp only
 have hsz:(arrOf (sSt κ it (List.toArray (List.range n)) #[] 7)).size=n:=by
  show ((List.toArray (List.range n)).map (kas_item it)).size=_
  simp
 rw[hsz,rW]
 obtain⟨k,rfl⟩: ∃k,n=k+2:=⟨n - 2,by omega⟩
 obtain⟨M,hM⟩: ∃M,sMin (k+2) (k+2) 0=M:=⟨_,rfl⟩
 rw[hM]
 refine wpS_bind (aY ?_)
 show wpS _ _ _ _ (forIn (0::1::List.range' 2 k) _ _) _ _
 refine sF (κ:=κ) (it:=it) (lt:=lt) (fun i lo st R z hR=>?_) (fun i lo y p p' R z e hR=>?_) (fun i lo y p p' v R z e hR=>?_) e1 h (fun e=>?_) fun y u p2 e=>?_
 ·exact bU z (wpS_pure hR)
 ·refine aC z ?_
  obtain⟨f,e2,⟨c1,rfl,e3⟩|⟨c1,rfl,rfl⟩⟩:=rU (pe:= #[]) (g:=7) H hM e
  ·refine wpS_bind (gI H e2 ?_)
   dsimp only
   refine bU c1 (wpS_bind (wpS_lift (wpAny_rule ⟨rfl,?_⟩)))
   refine wpS_bind (rX H e3 ?_)
   refine aC (by simp) (wpS_bind (wpS_get ?_))
   exact wpS_bind (wpS_modify (wpS_pure hR))
  ·refine wpS_bind (gI H e2 ?_)
   dsimp only
   refine aC c1 (wpS_bind (wpS_get ?_))
   exact wpS_bind (wpS_modify (wpS_pure hR))
 ·refine aC z ?_
  obtain⟨f,e2,⟨c1,rfl,e3⟩|⟨c1,rfl,rfl⟩⟩:=rU (pe:= #[]) (g:=7) H hM e
  ·refine wpS_bind (gI H e2 ?_)
   dsimp only
   refine bU c1 (wpS_bind (wpS_lift (wpAny_rule ⟨rfl,?_⟩)))
   refine wpS_bind (rX H e3 ?_)
   refine aC (by simp) (wpS_bind (wpS_get ?_))
   refine wpS_bind (aY ?_)
   show wpS _ _ _ _ (forIn (0::List.range' 1 (k+1)) _ _) _ _
   refine aB (wpS_bind (wpS_get ?_))
   refine wpS_pure ?_
   dsimp only
   refine wpS_bind (wpS_modify (wpS_bind (wpS_modify (wpS_pure ?_))))
   exact hR _
  ·refine wpS_bind (gI H e2 ?_)
   dsimp only
   refine aC c1 (wpS_bind (wpS_get ?_))
   refine wpS_bind (aY ?_)
   show wpS _ _ _ _ (forIn (0::List.range' 1 (k+1)) _ _) _ _
   refine aB (wpS_bind (wpS_get ?_))
   refine wpS_pure ?_
   dsimp only
   refine wpS_bind (wpS_modify (wpS_bind (wpS_modify (wpS_pure ?_))))
   exact hR _
 ·dsimp only
  refine wpS_bind (aY ?_)
  show wpS _ _ _ _ (forIn (0::List.range' 1 (k+1)) _ _) _ _
  refine aB (wpS_bind (wpS_get ?_))
  refine bU (Nat.le_refl 1) (wpS_pure ?_)
  exact wpS_pure (q _ _)
 ·dsimp only
  refine wpS_bind (aY ?_)
  show wpS _ _ _ _ (forIn (0::1::List.range' 2 k) _ _) _ _
  refine aB (wpS_bind (wpS_get ?_))
  refine aC (show¬(2<=1) by omega) ?_
  refine wpS_bind (sD (u:=u) (v:=0) H e fun g=>?_)
  refine aC (by simp) (wpS_pure ?_)
  dsimp only
  refine aB (wpS_bind (wpS_get ?_))
  refine bU (Nat.le_refl 1) (wpS_pure ?_)
  exact wpS_pure (q _ _)
end
end L2
set_option maxHeartbeats 1000000
namespace L2
open PySem PySem.W PyProof.Rows
section
variable {prog:Program}{w:World}{A:Around}{E:Value->Shared->Prop}{s:Shared}
structure RowAt (prog:Program)(w:World)(h:Heap)(v:Value)(k:List Int×Int)(m:Int):Prop where
 ex: ∃a o n c t u its,v=.ref a/\h.get? a=some o/\o.cls=.type "tuple"/\o.data=.seq #[.ref c,.int k.2 t,.int m u] n/\IsTup h c its/\IntsAre its.toList k.1/\IsTupleKey (intKind prog w) h k.1 c
theorem mK {a c:Int}{t u:Tok}{Q:Bool->Shared->Prop}(h:Q (decide (a=c)) s):wpAny (model prog w) A (eqBool (.int a t) (.int c u)) Q E s:=
 (intKind prog w).eqBool (a:=a) (b:=c) (by simp [intKind,Value.isInt]) (by simp [intKind,Value.isInt]) h
theorem sL {v v':Value}{k k':List Int×Int}{m m':Int}{Q:Bool->Shared->Prop}(hu:A.units<cLine)(hv:RowAt prog w s.heap v k m)(hv':RowAt prog w s.heap v' k' m')(h:Q (if k=k' then decide (m<m') else ltKy k k') s):
  wpAny (model prog w) A (keyLt' (tuples' false) v v') Q E s:=by
 obtain⟨a,o,n,c,t,u,its,rfl,g1,g2,g3,g4,g5,g6⟩:=hv
 obtain⟨a',o',n',c',t',u',its',rfl,q1,q2,q3,q4,q5,q6⟩:=hv'
 obtain⟨ks,l⟩:=k
 obtain⟨ks',l'⟩:=k'
 refine kat_lt g1 g3 q1 q3 ?_
 show KatLex prog w A false _ Q [(.ref c,.ref c'),(.int l t,.int l' t'),(.int m u,.int m' u')] 0 s
 refine kat_cons (wpAny_eqBool_tuple (knd:=intKind prog w) hu g6 q6 ?_)
 by_cases e1:ks=ks'
 ·subst e1
  rw[decide_eq_true rfl]
  refine kat_yes (kat_cons (mK ?_))
  by_cases e2:l=l'
  ·subst e2
   rw[if_pos rfl] at h
   rw[decide_eq_true rfl]
   refine kat_yes (kat_cons (mK ?_))
   by_cases e3:m=m'
   ·subst e3
    rw[decide_eq_true rfl]
    refine kat_yes (kat_nil ?_)
    rw[decide_eq_false (Int.lt_irrefl m)] at h
    exact h
   ·rw[decide_eq_false e3]
    exact kat_no (kat_one _ _ (lt_int h))
  ·rw[if_neg (fun z=>e2 (Prod.mk.inj z).2)] at h
   rw[decide_eq_false e2]
   unfold ltKy at h
   rw[if_pos rfl] at h
   exact kat_no (kat_one _ _ (lt_int h))
 ·rw[if_neg (fun z=>e1 (Prod.mk.inj z).1)] at h
  rw[decide_eq_false e1]
  unfold ltKy at h
  rw[if_neg e1] at h
  exact kat_no (kat_one _ _ (HT.lt_tupInts g4 q4 g5 q5 hu h))
theorem nh {a:Addr}{vs:List Value}{n:Nat}{P:Fin->Shared->Prop}{κ:SortKind}{lt:Nat->Nat->Bool}{p:Array Nat}(ho:s.heap.get? a=some (seqObj "list" vs.toArray n))(hz:vs.length<=1000)(hp:sSort vs.length lt=some p)(hl:p.size<=1000)
  (hk: ∀Q:SortKind->Shared->Prop,Q κ {s with heap:=((s.heap.update a (Obj.mapSeq fun _=> #[])).push (seqObj "tuple" vs.toArray 0)).push (seqObj "list" #[] 0)}->wpAny (model prog w) A (keyKind' vs.toArray) Q (fun _ _=>False) {s with heap:=((s.heap.update a (Obj.mapSeq fun _=> #[])).push (seqObj "tuple" vs.toArray 0)).push (seqObj "list" #[] 0)})
  (hA:Ans prog w A {s with heap:=((s.heap.update a (Obj.mapSeq fun _=> #[])).push (seqObj "tuple" vs.toArray 0)).push (seqObj "list" #[] 0)} κ (vs.toArray.zip vs.toArray) vs.length lt)
  (h2:2<=vs.length)
  (h:P (.done (.ret .none)) {s with heap:=sortedHeap s.heap a vs (List.toArray (p.toList.map fun i=>vs.getD i Value.none))}):
  wpAny (model prog w) A (Builtin.«list.sort» ⟨[.ref a],[]⟩) P E s:=by
 have ha:a<s.heap.objs.size:=Heap.lt_size ho
 have big:1000<=sizeLine:=by decide
 obtain⟨e1,o1⟩: ∃e1,(s.heap.update a (Obj.mapSeq fun _=> #[])).get? a=some (seqObj "list" #[] e1):=⟨_,get?_update_seq ho (fun _=> #[])⟩
 rw[list_sort_plain]
 refine wpAny_bind (listItems_at ho rfl (wpAny_bind (listUpdate_at ho rfl ?_ (by rw[List.size_toArray];omega) (Nat.zero_le _))))
 refine wpAny_bind (seqEpoch_at o1 rfl (wpAny_bind (wpAny_newTuple ?_ (by show vs.length<=_;omega))))
 refine wpAny_bind (wpAny_newList ?_ (Nat.zero_le _))
 refine wpAny_holding ?_
 have o6:(((s.heap.update a (Obj.mapSeq fun _=> #[])).push (seqObj "tuple" vs.toArray 0)).push (seqObj "list" #[] 0)).get? a=some (seqObj "list" #[] e1):=Heap.get?_push_of_some _ (Heap.get?_push_of_some _ o1)
 dsimp only
 have n2: ¬vs.toArray.size<2:=by rw[List.size_toArray];omega
 rw[if_neg n2,if_neg n2]
 refine wpAny_bind (wpAny_mono (hk (fun κ' s'=>κ'=κ/\s'=_) ⟨rfl,rfl⟩) (fun κ' s' hκ=>?_) fun _ _ z=>z.elim)
 obtain⟨rfl,rfl⟩:=hκ
 have est:SortSt.mk' κ' (vs.toArray.zip vs.toArray) #[] 7 none=sSt κ' (vs.toArray.zip vs.toArray) (List.toArray (List.range vs.length)) #[] 7:=by
  have e:=kas_range (vs.toArray.zip vs.toArray)
  rw[show (vs.toArray.zip vs.toArray).size=vs.length by simp] at e
  unfold sSt
  rw[e]
 rw[est]
 have run:=oH (E:=E) (Q:=fun _ st=> ∃pe g,st=sSt κ' (vs.toArray.zip vs.toArray) p pe g) hA h2 hp fun pe g=>⟨pe,g,rfl⟩
 unfold wpS at run
 refine wpAny_bind (wpAny_mono run (fun r s' hr=>?_) fun _ _ z=>z)
 obtain⟨u,st⟩:=r
 obtain⟨rfl,pe,g,e⟩:=hr
 dsimp only at e
 subst e
 dsimp only
 have out:(arrOf (sSt κ' (vs.toArray.zip vs.toArray) p pe g)).map (·.2)=List.toArray (p.toList.map fun i=>vs.getD i Value.none):=kat_snds rfl rfl
 rw[out]
 refine wpAny_bind (seqEpoch_at o6 rfl (wpAny_bind (listUpdate_at o6 rfl ?_ (Nat.zero_le _) (by rw[List.size_toArray,List.length_map,Array.length_toList];omega))))
 simp only[bne_self_eq_false,Bool.false_eq_true,if_false]
 exact wpAny_pure h
end
end L2
set_option maxHeartbeats 1000000
namespace L2
open PySem PySem.W PyProof.Rows
section
variable {prog:Program}{w:World}{A:Around}{E:Value->Shared->Prop}{s:Shared}
theorem lf {a:Addr}{v:Value}{n:Nat}{P:Fin->Shared->Prop}(ho:s.heap.get? a=some (seqObj "list" [v].toArray n))(h:P (.done (.ret .none)) {s with heap:=sortedHeap s.heap a [v] [v].toArray}):
  wpAny (model prog w) A (Builtin.«list.sort» ⟨[.ref a],[]⟩) P E s:=by
 obtain⟨e1,o1⟩: ∃e1,(s.heap.update a (Obj.mapSeq fun _=> #[])).get? a=some (seqObj "list" #[] e1):=⟨_,get?_update_seq ho (fun _=> #[])⟩
 rw[list_sort_plain]
 refine wpAny_bind (listItems_at ho rfl (wpAny_bind (listUpdate_at ho rfl ?_ (show 1<=sizeLine by decide) (Nat.zero_le _))))
 refine wpAny_bind (seqEpoch_at o1 rfl (wpAny_bind (wpAny_newTuple ?_ (show 1<=sizeLine by decide))))
 refine wpAny_bind (wpAny_newList ?_ (by decide))
 refine wpAny_holding ?_
 have o6:(((s.heap.update a (Obj.mapSeq fun _=> #[])).push (seqObj "tuple" [v].toArray 0)).push (seqObj "list" #[] 0)).get? a=some (seqObj "list" #[] e1):=Heap.get?_push_of_some _ (Heap.get?_push_of_some _ o1)
 dsimp only
 rw[if_pos (by simp),if_pos (by simp)]
 refine wpAny_bind (wpAny_pure ?_)
 rw[StateT.run_pure]
 refine wpAny_bind (wpAny_pure ?_)
 dsimp only
 have out:(arrOf (SortSt.mk' general' (([v].toArray).zip [v].toArray) #[] 7 none)).map (·.2)=[v].toArray:=by
  show (([v].toArray).zip [v].toArray).map (·.2)=_
  simp
 rw[out]
 refine wpAny_bind (seqEpoch_at o6 rfl (wpAny_bind (listUpdate_at o6 rfl ?_ (Nat.zero_le _) (show 1<=sizeLine+1 by decide))))
 simp only[bne_self_eq_false,Bool.false_eq_true,if_false]
 exact wpAny_pure h
end
def RowN (K:PySem.W.Frag)(H:Hp)(v:V)(k:(List Int×Int)×Int):Prop:= ∃a c,v=.ref a/\SqT K H a [.ref c,.int k.1.2,.int k.2]/\SqT K H c (k.1.1.map V.int)
section
variable {X:Cx}{pins:List (Addr×Obj)}{σ:St}{H:Hp}{s:Shared}
theorem mH: ∀ {ks:List Int}{us:List Value},Vals (ks.map V.int) us->IntsAre us ks
 |[],_,r=>by rw[List.map_nil] at r;cases r;exact .nil
 |k::ks,_,r=>by
  rw[List.map_cons] at r
  cases r with
  |cons h t=>
   obtain⟨tk,e⟩:=(show∃t,_=Value.int k t from h)
   subst e
   exact .cons k tk (mH t)
theorem oM (I:Inv X pins σ H s){v:V}{u:Value}{k:(List Int×Int)×Int}(h:RowN X.K H v k)(r:RelV v u):RowAt X.prog X.w s.heap u k.1 k.2:=by
 obtain⟨a,c,rfl,h1,h2⟩:=h
 cases r
 obtain⟨its2,r2,t2,_⟩:=I.tuple h2
 obtain⟨its,r1,⟨o,q1,q2,n,q3⟩,_⟩:=I.tuple h1
 have t2':=t2
 obtain⟨o2,g1,g2,n2,g3⟩:=t2'
 cases r1 with
 |cons hc r1=>
  cases r1 with
  |cons hl r1=>
   cases r1 with
   |cons hm r1=>
    cases r1
    cases hc
    obtain⟨t,e⟩:=(show∃t,_=Value.int k.1.2 t from hl)
    subst e
    obtain⟨u,e⟩:=(show∃t,_=Value.int k.2 t from hm)
    subst e
    exact⟨_,o,n,_,t,u,its2.toArray,rfl,q1,q2,q3,t2,by simpa using mH r2,o2,_,n2,g1,g2,g3,by simpa using iz r2⟩
def rSort (rs:List ((List Int×Int)×Int)):Option (Array Nat):=sSort rs.length fun i j=>ltKy (rs.getD i (([],0),0)).1 (rs.getD j (([],0),0)).1
theorem nP {vs:List Value}{ks:List ((List Int×Int)×Int)}{A:Around}{E:Value->Shared->Prop}{Q:SortKind->Shared->Prop}(hl:vs.length=ks.length)(h0:0<vs.length)(h:∀ (i:Nat) (v:Value) (k:(List Int×Int)×Int),vs[i]?=some v->ks[i]?=some k->RowAt X.prog X.w s.heap v k.1 k.2)(q:Q (tuples' false) s):
  wpAny (model X.prog X.w) A (keyKind' vs.toArray) Q E s:=by
 have fs: ∃fs:List Value,KatTups s.heap vs fs/\fs.length=vs.length/\ ∀f∈fs,Looks (model X.prog X.w) s.heap (typeOf f) (.type "tuple"):=by
  clear h0
  induction vs generalizing ks with
  |nil=>exact⟨[],trivial,rfl,fun f hf=>nomatch hf⟩
  |cons v vs ih=>
   cases ks with
   |nil=>cases hl
   |cons k ks=>
    obtain⟨fs,h1,h2,h3⟩:=ih (ks:=ks) (Nat.succ.inj hl) fun i v k a b=>h (i+1) v k a b
    obtain⟨a,o,n,c,t,u,its,rfl,g1,g2,g3,⟨o2,q1,q2,_⟩,_⟩:=h 0 v k rfl rfl
    refine⟨.ref c::fs,KatTups.cons g1 g2 g3 rfl h1,by rw[List.length_cons,List.length_cons,h2],fun f hf=>?_⟩
    rcases List.mem_cons.mp hf with rfl|hf
    ·rw[<-q2]
     exact (Looks.ld q1).andThen .now
    ·exact h3 f hf
 obtain⟨fs,h1,h2,h3⟩:=fs
 exact kat_kind h1 (by omega) h3 (by decide) q
theorem kR (hu:X.A.units+64<cLine):CallR X (.builtin "sorted") (fun xs H Q=> ∃ (p:Addr) (ys:List V) (rs:List ((List Int×Int)×Int)) (π:Array Nat),xs=[.ref p]/\SqL X.K H p ys/\ys.length=rs.length/\(∀ (i:Nat) (v:V) (k:(List Int×Int)×Int),ys[i]?=some v->rs[i]?=some k->RowN X.K H v k)/\1<=rs.length/\rs.length<=1000/\(rs.map (·.1)).Nodup/\rSort rs=some π/\π.size=rs.length/\(∀i∈π.toList,i<rs.length)/\
  ∀q,H q=none->Q (.ref q) (upd H q (.lst (π.toList.map fun i=>ys.getD i .non)))):=by
 intro pins s σ H xs us Q I r h
 obtain⟨p,ys,rs,π,rfl,hq,hl,hr,h1,hz,nd,hs,ps,pl,q⟩:=h
 obtain⟨u,rfl,ru⟩:=vals1 r
 cases ru
 obtain⟨its,rv,pl',_⟩:=I.list hq
 have il:=rv.length
 have big:1000<=sizeLine:=by decide
 refine Calls.call_function_entry kind_sorted plain_sorted entry_sorted (args_sorted1 _) ?_
 unfold Builtin.«sorted»
 refine wpAny_bind (m:=checkCount "sorted" 1 1 _) (wpAny_pure (wpAny_bind (collect_list pl'.isList ?_ (by omega))))
 refine wpAny_bind (wpAny_newList ?_ (by omega))
 have sz:((s.heap.push (seqObj "list" #[] 0)).update s.heap.objs.size (Obj.mapSeq (· ++its.toArray))).objs.size=s.heap.objs.size+1:=by rw[Heap.size_update,size_push']
 have keep: ∀b o,s.heap.get? b=some o->(((s.heap.push (seqObj "list" #[] 0)).update s.heap.objs.size (Obj.mapSeq (· ++its.toArray))).push (seqObj "list" its.toArray 0)).get? b=some o:=fun b o e=>by
  have lt:b<s.heap.objs.size:=Heap.lt_size e
  refine Heap.get?_push_of_some _ ?_
  rw[Heap.get?_update_ne _ _ _ _ (Nat.ne_of_lt lt)]
  exact Heap.get?_push_of_some _ e
 have oD:(((s.heap.push (seqObj "list" #[] 0)).update s.heap.objs.size (Obj.mapSeq (· ++its.toArray))).push (seqObj "list" its.toArray 0)).get? (s.heap.objs.size+1)=some (seqObj "list" its.toArray 0):=by
  rw[<-sz];exact Heap.get?_push_size _ rfl
 show wpAny _ _ _ _ _ {s with heap:=((s.heap.push (seqObj "list" #[] 0)).update s.heap.objs.size (Obj.mapSeq (· ++its.toArray))).push (seqObj "list" its.toArray 0)}
 rw[sz]
 generalize hB:((s.heap.push (seqObj "list" #[] 0)).update s.heap.objs.size (Obj.mapSeq (· ++its.toArray))).push (seqObj "list" its.toArray 0)=B at *
 have lD:s.heap.objs.size<=s.heap.objs.size+1:=Nat.le_succ _
 have keepE: ∀ (vs:List Value) b o,s.heap.get? b=some o->(((B.update (s.heap.objs.size+1) (Obj.mapSeq fun _=> #[])).push (seqObj "tuple" vs.toArray 0)).push (seqObj "list" #[] 0)).get? b=some o:=fun vs b o e=>by
  have lt:b<s.heap.objs.size:=Heap.lt_size e
  refine Heap.get?_push_of_some _ (Heap.get?_push_of_some _ ?_)
  rw[Heap.get?_update_ne _ _ _ _ (Nat.ne_of_lt (Nat.lt_succ_of_lt lt))]
  exact keep b o e
 have rel: ∀i∈π.toList,RelV (ys.getD i .non) (its.getD i Value.none):=fun i hi=>by
  have li:=pl i hi
  obtain⟨v,e1,r1⟩:=rv.get (show ys[i]?=some (ys.getD i .non) by rw[List.getD_eq_getElem?_getD,List.getElem?_eq_getElem (by omega)];rfl)
  rw[List.getD_eq_getElem?_getD (l:=its),e1]
  exact r1
 have vls: ∀l:List Nat,(∀i∈l,RelV (ys.getD i .non) (its.getD i Value.none))->Vals (l.map fun i=>ys.getD i .non) (l.map fun i=>its.getD i Value.none):=fun l=>by
  induction l with
  |nil=>intro _;exact .nil
  |cons i l ih=>intro hh;exact .cons (hh i List.mem_cons_self) (ih fun j hj=>hh j (List.mem_cons_of_mem _ hj))
 have fin: ∀ (l:List Nat),l.length<=1000->(∀i∈l,RelV (ys.getD i .non) (its.getD i Value.none))->Q (.ref (s.heap.objs.size+1)) (upd H (s.heap.objs.size+1) (.lst (l.map fun i=>ys.getD i .non)))->EP X pins σ Q (.ref (s.heap.objs.size+1)) {s with heap:=sortedHeap B (s.heap.objs.size+1) its (List.toArray (l.map fun i=>its.getD i Value.none))}:=fun l l1 l2 hQ=>by
  obtain⟨e1,o1⟩: ∃e1,(B.update (s.heap.objs.size+1) (Obj.mapSeq fun _=> #[])).get? (s.heap.objs.size+1)=some (seqObj "list" #[] e1):=⟨_,get?_update_seq oD (fun _=> #[])⟩
  have o6:(((B.update (s.heap.objs.size+1) (Obj.mapSeq fun _=> #[])).push (seqObj "tuple" its.toArray 0)).push (seqObj "list" #[] 0)).get? (s.heap.objs.size+1)=some (seqObj "list" #[] e1):=Heap.get?_push_of_some _ (Heap.get?_push_of_some _ o1)
  refine⟨.ref (s.heap.objs.size+1),_,I.laid (t':=s.toks) (o:=.lst (l.map fun i=>ys.getD i .non)) (fun b o e=>?_) lD ?_,rfl,hQ⟩
  ·have lt:b<s.heap.objs.size:=Heap.lt_size e
   unfold sortedHeap
   rw[Heap.get?_update_ne _ _ _ _ (Nat.ne_of_lt (Nat.lt_succ_of_lt lt))]
   exact keepE its b o e
  ·exact⟨by rw[List.length_map];omega,_,_,vls l l2,get?_update_seq o6 fun _=>List.toArray (l.map fun i=>its.getD i Value.none)⟩
 refine wpAny_bind (wpAny_holding (wpAny_call_entry slot_list_sort ⟨_,oD,rfl⟩ entry_list_sort ?_ (args_list_sort _)))
 have hQ:=q (s.heap.objs.size+1) (I.hok.fresh lD)
 by_cases h2:2<=its.length
 ·refine nh (s:={s with heap:=B}) (κ:=tuples' false) (p:=π) (lt:=fun i j=>ltKy (rs.getD i (([],0),0)).1 (rs.getD j (([],0),0)).1) oD (by omega) (by rw[show its.length=rs.length by omega];exact hs) (by omega) (fun Q' hq'=>?_) (fun a b ha hb Q' hq'=>?_) h2 ?_
  ·have I6:=I.kept (t':=s.toks) (keepE its)
   refine nP (X:=X) (ks:=rs) (by omega) (by omega) (fun i v k e1 e2=>?_) hq'
   obtain⟨y,hy⟩: ∃y,ys[i]?=some y:=⟨_,List.getElem?_eq_getElem (by have:=(List.getElem?_eq_some_iff.mp e1).1;omega)⟩
   obtain⟨v',e3,r3⟩:=rv.get hy
   rw[e1] at e3
   cases e3
   exact oM I6 (hr i y k hy e2) r3
  ·have I6:=I.kept (t':=s.toks) (keepE its)
   have row: ∀i,i<its.length->RowAt X.prog X.w (((B.update (s.heap.objs.size+1) (Obj.mapSeq fun _=> #[])).push (seqObj "tuple" its.toArray 0)).push (seqObj "list" #[] 0)) (its.getD i Value.none) (rs.getD i (([],0),0)).1 (rs.getD i (([],0),0)).2:=fun i hi=>by
    have e1:ys[i]?=some (ys[i]'(by omega)):=List.getElem?_eq_getElem _
    have e2:rs[i]?=some (rs[i]'(by omega)):=List.getElem?_eq_getElem _
    obtain⟨v',e3,r3⟩:=rv.get e1
    have:=oM I6 (hr i _ _ e1 e2) r3
    rw[List.getD_eq_getElem?_getD,List.getD_eq_getElem?_getD,e3,e2]
    exact this
   rw[kat_item rfl,kat_item rfl]
   refine sL (by show X.A.units+1+1<cLine;omega) (row a ha) (row b hb) ?_
   by_cases ek:(rs.getD a (([],0),0)).1=(rs.getD b (([],0),0)).1
   ·have ab:a=b:=by
     have e1:(rs.map (·.1))[a]?=some (rs.getD a (([],0),0)).1:=by rw[List.getElem?_map,List.getD_eq_getElem?_getD,List.getElem?_eq_getElem (show a<rs.length by omega)];rfl
     have e2:(rs.map (·.1))[b]?=some (rs.getD b (([],0),0)).1:=by rw[List.getElem?_map,List.getD_eq_getElem?_getD,List.getElem?_eq_getElem (show b<rs.length by omega)];rfl
     rw[ek,<-e2] at e1
     exact (List.getElem?_inj (by rw[List.length_map];omega) nd).mp e1
    subst ab
    rw[if_pos rfl,decide_eq_false (Int.lt_irrefl _)]
    have:ltKy (rs.getD a (([],0),0)).1 (rs.getD a (([],0),0)).1=false:=by unfold ltKy;rw[if_pos rfl];exact decide_eq_false (Int.lt_irrefl _)
    have hq':Q' (ltKy (rs.getD a (([],0),0)).1 (rs.getD a (([],0),0)).1) _:=hq'
    rw[this] at hq'
    exact hq'
   ·rw[if_neg ek];exact hq'
  ·exact⟨_,rfl,wpAny_pure ⟨_,rfl,fin π.toList (by rw[Array.length_toList];omega) rel hQ⟩⟩
 ·obtain⟨v,rfl⟩: ∃v,its=[v]:=by
   match its,h2,il with
   |[v],_,_=>exact⟨v,rfl⟩
   |[],_,il=>exact absurd (show rs.length=0 by rw[<-hl,il];rfl) (by omega)
   |_::_::_,h2,_=>exact absurd (by simp) h2
  have p1:π.toList=[0]:=by
   have l1:rs.length=1:=by rw[<-hl,il];rfl
   rw[l1] at ps pl
   match hπ:π.toList,(Array.length_toList (xs:=π)) with
   |[i],_=>have:=pl i (by rw[hπ];simp);congr 1;omega
   |[],e=>rw[ps] at e;cases e
   |_::_::_,e=>rw[ps] at e;simp at e
  rw[p1] at hQ rel
  exact lf (s:={s with heap:=B}) oD ⟨_,rfl,wpAny_pure ⟨_,rfl,fin [0] (by decide) rel hQ⟩⟩
end
end L2
set_option maxHeartbeats 1000000
namespace L2
open PySem PySem.W PyProof.Rows
section
variable {prog:Program}{w:World}{A:Around}{E:Value->Shared->Prop}{s:Shared}
def lSort (ls:List Nat):Option (Array Nat):=sSort ls.length fun i j=>decide ((ls.getD i 0:Int)<(ls.getD j 0:Int))
theorem oy {h h':Heap}{c:Addr}{its:Array Value}(x:IsTup h c its)(k:∀o,h.get? c=some o->h'.get? c=some o):IsTup h' c its:=by
 obtain⟨o,e,r⟩:=x
 exact⟨o,k o e,r⟩
theorem oE {a:Addr}{vs:List Value}{n:Nat}{P:Fin->Shared->Prop}{ls:List Nat}{p:Array Nat}(ho:s.heap.get? a=some (seqObj "list" vs.toArray n))(hz:vs.length<=1000)(hl:ls.length=vs.length)(h1:1<=vs.length)
  (hv: ∀ (i:Nat) (v:Value),vs[i]?=some v-> ∃c its,v=.ref c/\IsTup s.heap c its/\c≠a/\its.size<=1000/\ls[i]?=some its.size)
  (hp:lSort ls=some p)(hps:p.size<=1000)(hp1:vs.length=1->p.toList=[0])
  (h:∀h' tk c,(∀b o,b≠a->s.heap.get? b=some o->h'.get? b=some o)->h'.get? a=some (seqObj "list" (List.toArray (p.toList.map fun i=>vs.getD i Value.none)) c)->P (.done (.ret .none)) {s with heap:=h',toks:=tk}):
  wpAny (model prog w) A (Builtin.«list.sort» ⟨[.ref a],[(Str.ofString "key",.builtin "len")]⟩) P E s:=by
 have ha:a<s.heap.objs.size:=Heap.lt_size ho
 have big:1000<sizeLine:=by decide
 obtain⟨e1,o1⟩: ∃e1,(s.heap.update a (Obj.mapSeq fun _=> #[])).get? a=some (seqObj "list" #[] e1):=⟨_,get?_update_seq ho (fun _=> #[])⟩
 rw[ksk_t4]
 unfold ksk_tree
 refine wpAny_bind (listItems_at ho rfl (wpAny_bind (listUpdate_at ho rfl ?_ (by rw[List.size_toArray];omega) (Nat.zero_le _))))
 refine wpAny_bind (seqEpoch_at o1 rfl (wpAny_bind (wpAny_newTuple ?_ (by show vs.length<=_;omega))))
 refine wpAny_bind (wpAny_newList ?_ (Nat.zero_le _))
 refine wpAny_holding ?_
 have keep: ∀b o,b≠a->s.heap.get? b=some o->(((s.heap.update a (Obj.mapSeq fun _=> #[])).push (seqObj "tuple" vs.toArray 0)).push (seqObj "list" #[] 0)).get? b=some o:=fun b o hb e=>
  Heap.get?_push_of_some _ (Heap.get?_push_of_some _ (by rw[Heap.get?_update_ne _ _ _ _ hb];exact e))
 have o6:(((s.heap.update a (Obj.mapSeq fun _=> #[])).push (seqObj "tuple" vs.toArray 0)).push (seqObj "list" #[] 0)).get? a=some (seqObj "list" #[] e1):=Heap.get?_push_of_some _ (Heap.get?_push_of_some _ o1)
 have oK:=Heap.get?_push_size ((s.heap.update a (Obj.mapSeq fun _=> #[])).push (seqObj "tuple" vs.toArray 0)) (o:=seqObj "list" #[] 0) rfl
 have sK:a≠((s.heap.update a (Obj.mapSeq fun _=> #[])).push (seqObj "tuple" vs.toArray 0)).objs.size:=by
  rw[size_push',Heap.size_update];exact Nat.ne_of_lt (Nat.lt_succ_of_lt ha)
 have bK: ∀b o,s.heap.get? b=some o->b≠((s.heap.update a (Obj.mapSeq fun _=> #[])).push (seqObj "tuple" vs.toArray 0)).objs.size:=fun b o e=>by
  rw[size_push',Heap.size_update];exact Nat.ne_of_lt (Nat.lt_succ_of_lt (Heap.lt_size e))
 show wpAny (model prog w) A (ksk_rest a (.builtin "len") false vs.toArray e1 (.ref ((s.heap.update a (Obj.mapSeq fun _=> #[])).push (seqObj "tuple" vs.toArray 0)).objs.size)) P E {s with heap:=((s.heap.update a (Obj.mapSeq fun _=> #[])).push (seqObj "tuple" vs.toArray 0)).push (seqObj "list" #[] 0)}
 generalize ((s.heap.update a (Obj.mapSeq fun _=> #[])).push (seqObj "tuple" vs.toArray 0)).objs.size=kS at *
 generalize ((s.heap.update a (Obj.mapSeq fun _=> #[])).push (seqObj "tuple" vs.toArray 0)).push (seqObj "list" #[] 0)=hE at *
 unfold ksk_rest
 refine wpAny_bind (wpAny_rule ?_)
 rw[<-Array.forIn_toList]
 show wpAny _ _ (forIn vs _ _>>=_) _ _ _
 refine wpAny_bind (ksk_fold (fun i s'=> ∃h' tk kA e,s'={s with heap:=h',toks:=tk}/\(∀b o,b≠a->s.heap.get? b=some o->h'.get? b=some o)/\h'.get? a=some (seqObj "list" #[] e1)/\h'.get? kS=some (seqObj "list" kA e)/\IntsAre kA.toList ((ls.take i).map Int.ofNat)) vs 0 _ ⟨hE,s.toks,#[],0,rfl,keep,o6,oK,.nil⟩ ?_ ?_)
 ·rintro j x s' hx ⟨h',tk,kA,e,rfl,k1,k2,k3,k4⟩
  rw[Nat.zero_add] at k4 ⊢
  obtain⟨c,its,rfl,t1,ca,isz,lj⟩:=hv j x hx
  have t2:IsTup h' c its:=oy t1 fun o e=>k1 c o ca e
  have kl:kA.size<=1000:=by
   have h1:=k4.length
   rw[Array.length_toList,List.length_map,List.length_take] at h1
   omega
  refine wpAny_bind (wpAny_attempt (len_tuple t2 (by have:=fj;omega) ?_))
  dsimp only
  refine wpAny_bind (listUpdate_at k3 rfl ?_ (by omega) (Nat.le_trans (Nat.le_of_eq (Array.size_push ..)) (by omega)))
  refine wpAny_pure ⟨rfl,_,_,kA.push (.int its.size (tk+1)),_,rfl,fun b o hb e=>?_,?_,get?_update_seq k3 (·.push (.int its.size (tk+1))),?_⟩
  ·rw[Heap.get?_update_ne _ _ _ _ (bK b o e)];exact k1 b o hb e
  ·rw[Heap.get?_update_ne _ _ _ _ sK];exact k2
  ·rw[List.take_add_one,lj,List.map_append,Array.toList_push]
   exact ksk_snoc k4
 ·rintro s' ⟨h',tk,kA,e,rfl,k1,k2,k3,k4⟩
  rw[Nat.zero_add,List.take_of_length_le (by omega)] at k4
  have ks:kA.size=vs.length:=by
   have h1:=k4.length
   rw[Array.length_toList,List.length_map] at h1
   omega
  refine wpAny_bind (listItems_at k3 rfl ?_)
  have tail: ∀ (st:SortSt),(arrOf st).map (·.2)=List.toArray (p.toList.map fun i=>vs.getD i Value.none)->failedOf st=none->wpAny (model prog w) A (ksk_tail a false e1 (.ref kS) st) P E {s with heap:=h',toks:=tk}:=fun st ea ef=>by
   unfold ksk_tail
   dsimp only
   rw[ea]
   have k5:(h'.update kS (Obj.mapSeq fun _=> #[])).get? a=some (seqObj "list" #[] e1):=by rw[Heap.get?_update_ne _ _ _ _ sK];exact k2
   refine wpAny_bind (listUpdate_at k3 rfl ?_ (by omega) (Nat.zero_le _))
   refine wpAny_bind (wpAny_letGo (wpAny_bind (seqEpoch_at k5 rfl ?_)))
   refine wpAny_bind (listUpdate_at k5 rfl ?_ (Nat.zero_le _) ?_)
   ·rw[ef]
    simp only[bne_self_eq_false,Bool.false_eq_true,if_false]
    refine wpAny_pure (h _ _ _ (fun b o hb e=>?_) (get?_update_seq k5 fun _=>List.toArray (p.toList.map fun i=>vs.getD i Value.none)))
    rw[Heap.get?_update_ne _ _ _ _ hb,Heap.get?_update_ne _ _ _ _ (bK b o e)]
    exact k1 b o hb e
   ·show (List.toArray (p.toList.map fun i=>vs.getD i Value.none)).size<=_
    rw[List.size_toArray,List.length_map,Array.length_toList];omega
  unfold ksk_end
  dsimp only
  simp only[Bool.false_eq_true,if_false]
  by_cases h2:vs.length<2
  ·have h2':vs.toArray.size<2:=by rw[List.size_toArray];exact h2
   rw[if_pos h2',if_pos h2']
   refine wpAny_bind (wpAny_pure ?_)
   rw[StateT.run_pure]
   refine wpAny_bind (wpAny_pure (tail _ ?_ rfl))
   rw[hp1 (by omega)]
   obtain⟨v,rfl⟩: ∃v,vs=[v]:=by
    match vs,h1,h2 with
    |[v],_,_=>exact⟨v,rfl⟩
    |_::_::_,_,h2=>simp at h2;omega
   show (kA.zip [v].toArray).map (·.2)=_
   obtain⟨k,rfl⟩: ∃k,kA= #[k]:=by
    rcases kA with⟨l⟩
    match l,ks with
    |[k],_=>exact⟨k,rfl⟩
   simp
  ·have h2': ¬vs.toArray.size<2:=by rw[List.size_toArray];exact h2
   rw[if_neg h2',if_neg h2',ksk_kind k4 (by omega)]
   refine wpAny_bind (wpAny_pure ?_)
   have zz:(kA.zip vs.toArray).size=vs.length:=by simp [ks]
   have est:SortSt.mk' oneType' (kA.zip vs.toArray) #[] 7 none=sSt oneType' (kA.zip vs.toArray) (List.toArray (List.range vs.length)) #[] 7:=by
    have e:=kas_range (kA.zip vs.toArray)
    rw[zz] at e
    unfold sSt
    rw[e]
   rw[est]
   have ek:kA.toList.toArray=kA:=Array.toArray_toList
   have itm: ∀i,kas_item (kA.zip vs.toArray) i=(kA.toList.getD i Value.none,vs.getD i Value.none):=fun i=>by
    have:=kat_item (ks:=kA.toList) (vs:=vs) (by rw[Array.length_toList,ks]) i
    rw[ek] at this;exact this
   have key: ∀i,i<vs.length-> ∃t,kA.toList.getD i Value.none=.int (ls.getD i 0:Nat) t:=fun i hi=>by
    have gi: ∀ {us:List Value}{ns:List Int}{i:Nat}{m:Int},IntsAre us ns->ns[i]?=some m-> ∃t,us[i]?=some (.int m t):=fun{us ns}=>by
     intro i m x
     induction x generalizing i with
     |nil=>intro e;simp at e
     |cons a t _ ih=>
      intro e
      cases i with
      |zero=>cases e;exact⟨t,rfl⟩
      |succ i=>exact ih e
    obtain⟨t,et⟩:=gi (m:=((ls.getD i 0:Nat):Int)) k4 (i:=i) (by rw[List.getElem?_map,List.getD_eq_getElem?_getD,List.getElem?_eq_getElem (by omega)];rfl)
    exact⟨t,by rw[List.getD_eq_getElem?_getD,et];rfl⟩
   have ans:Ans prog w A {s with heap:=h',toks:=tk} oneType' (kA.zip vs.toArray) vs.length fun i j=>decide ((ls.getD i 0:Int)<(ls.getD j 0:Int)):=fun i j hi hj Q' hq=>by
    rw[itm,itm]
    obtain⟨t,et⟩:=key i hi
    obtain⟨u,eu⟩:=key j hj
    rw[et,eu,keyLt'_oneType]
    exact oneLt_int hq
   have run:=oH (E:=E) (Q:=fun _ st=> ∃pe g,st=sSt oneType' (kA.zip vs.toArray) p pe g) ans (by omega) (by rw[<-hl];exact hp) fun pe g=>⟨pe,g,rfl⟩
   unfold wpS at run
   refine wpAny_bind (wpAny_mono run (fun r s' hr=>?_) fun _ _ z=>z)
   obtain⟨u,st⟩:=r
   obtain⟨rfl,pe,g,e⟩:=hr
   dsimp only at e
   subst e
   refine tail _ ?_ rfl
   have:=kat_snds (ks:=kA.toList) (vs:=vs) (st:=sSt oneType' (kA.zip vs.toArray) p pe g) (p:=p) (by rw[Array.length_toList,ks]) (by rw[ek];rfl)
   exact this
end
end L2
set_option maxHeartbeats 1000000
namespace L2
open PySem PySem.Spec PyProof.Rows
section
variable {X:Cx}{E:XK}{a:Expr}{p p2 pos kpos:Pos}{fa:Env'->M W}{l:Env'->M (List W)}
def rowW (w:W):Option ((List Int×Int)×Int):=match w with
 |.tup [.tup l,.int i,.int m]=>(optL iOf l).map fun ks=>((ks,i),m)
 |_=>none
noncomputable abbrev piOk (π:Array Nat)(n:Nat):Prop:=π.size=n/\ ∀i∈π.toList,i<n
def sortW (ws:List W):M W:=match ws with
 |[w]=>bd (lstOf w) fun l=>match optL rowW l with
  |some rs=>gd (1<=rs.length/\rs.length<=1000/\(rs.map (·.1)).Nodup) (match rSort rs with
   |some π=>gd (piOk π rs.length) (pr (.tl (π.toList.map fun i=>l.getD i .non)))
   |none=>no)
  |none=>no
 |_=>no
theorem j2 {α β:Type}{f:α->Option β}: ∀ {l:List α}{m:List β},optL f l=some m->m.length=l.length:=by
 intro l
 induction l with
 |nil=>intro m h;cases h;rfl
 |cons x l ih=>
  intro m h
  unfold optL at h
  cases e1:f x with
  |none=>rw[e1] at h;cases h
  |some y=>
   cases e2:optL f l with
   |none=>rw[e1,e2] at h;cases h
   |some r=>
    rw[e1,e2] at h
    cases h
    rw[List.length_cons,List.length_cons,ih e2]
theorem j3 {α β:Type}{f:α->Option β}: ∀ {l:List α}{m:List β}{i:Nat}{x:α},optL f l=some m->l[i]?=some x-> ∃y,m[i]?=some y/\f x=some y:=by
 intro l
 induction l with
 |nil=>intro m i x h e;simp at e
 |cons z l ih=>
  intro m i x h e
  unfold optL at h
  cases e1:f z with
  |none=>rw[e1] at h;cases h
  |some y=>
   cases e2:optL f l with
   |none=>rw[e1,e2] at h;cases h
   |some r=>
    rw[e1,e2] at h
    cases h
    cases i with
    |zero=>cases e;exact⟨y,rfl,e1⟩
    |succ i=>
     obtain⟨y',g1,g2⟩:=ih (m:=r) (i:=i) (x:=x) e2 e
     exact⟨y',g1,g2⟩
theorem qA {K:PySem.W.Frag}{o:Wo}{w:W}{v:V}{k:(List Int×Int)×Int}(h:rowW w=some k)(r:Rv K o w v):RowN K o.H v k:=by
 unfold rowW at h
 split at h
 ·rename_i l i m
  obtain⟨ks,e,rfl⟩:=Option.map_eq_some_iff.mp h
  unfold Rv at r
  obtain⟨a,vs,rfl,s,r⟩:=r
  unfold Rvs at r
  obtain⟨v1,r1,rfl,h1,r⟩:=r
  unfold Rvs at r
  obtain⟨v2,r2,rfl,h2,r⟩:=r
  unfold Rvs at r
  obtain⟨v3,r3,rfl,h3,r⟩:=r
  unfold Rvs at r
  subst r
  rw[rv_int.mp h2,rv_int.mp h3] at s
  unfold Rv at h1
  obtain⟨c,us,rfl,s1,r1⟩:=h1
  have e2:us=ks.map V.int:=eC jF e r1
  subst e2
  exact⟨a,c,rfl,s,s1⟩
 ·cases h
theorem g0 {K:PySem.W.Frag}{o:Wo}{l:List W}{vs:List V}(r:Rvs K o l vs): ∀ {π:List Nat},(∀i∈π,i<l.length)->Rvs K o (π.map fun i=>l.getD i .non) (π.map fun i=>vs.getD i .non)
 |[],_=>Rvs.nil
 |i::π,h=>by
  have hi:=h i List.mem_cons_self
  have e1:l[i]?=some (l.getD i .non):=by rw[List.getD_eq_getElem?_getD,List.getElem?_eq_getElem hi];rfl
  obtain⟨v,e2,r2⟩:=r.get e1
  refine Rvs.cons ?_ (g0 r fun j hj=>h j (List.mem_cons_of_mem _ hj))
  show Rv K o (l.getD i .non) (vs.getD i .non)
  rw[List.getD_eq_getElem?_getD (l:=vs),e2]
  exact r2
theorem sB:CallM X E (fun xs H Q=> ∃ (p:Addr) (ys:List V) (rs:List ((List Int×Int)×Int)) (π:Array Nat),xs=[.ref p]/\SqL X.K H p ys/\ys.length=rs.length/\(∀ (i:Nat) (v:V) (k:(List Int×Int)×Int),ys[i]?=some v->rs[i]?=some k->RowN X.K H v k)/\1<=rs.length/\rs.length<=1000/\(rs.map (·.1)).Nodup/\rSort rs=some π/\π.size=rs.length/\(∀i∈π.toList,i<rs.length)/\
  ∀q,H q=none->Q (.ref q) (upd H q (.lst (π.toList.map fun i=>ys.getD i .non)))) sortW:=fun o ws vs Q R rv h=>by
 unfold sortW at h
 split at h
 ·obtain⟨v,rfl,r⟩:=rv.one
  obtain⟨l,a,us,rfl,s,r,h⟩:=bZ R r h
  cases e:optL rowW l with
  |none=>rw[e] at h;exact h.elim
  |some rs=>
   rw[e] at h
   obtain⟨⟨h1,h2,h3⟩,h⟩:=h.gd
   cases e2:rSort rs with
   |none=>rw[e2] at h;exact h.elim
   |some π=>
    rw[e2] at h
    obtain⟨⟨p1,p2⟩,h⟩:=h.gd
    have ll:=j2 e
    have lu:=r.len
    refine⟨a,us,rs,π,rfl,s,by omega,fun i v k e3 e4=>?_,h1,h2,h3,e2,p1,p2,fun q hq=>fx R hq (g0 r fun i hi=>by rw[<-ll];exact p2 i hi) h⟩
    obtain⟨w,ew⟩: ∃w,l[i]?=some w:=⟨_,List.getElem?_eq_getElem (by have:=(List.getElem?_eq_some_iff.mp e4).1;omega)⟩
    obtain⟨y,ey,fy⟩:=j3 e ew
    rw[e4] at ey
    cases ey
    obtain⟨v',ev,rv'⟩:=r.get ew
    rw[e3] at ev
    cases ev
    exact qA fy rv'
 ·exact h.elim
theorem iZ (hu:X.A.units+64<cLine)(hm:X.mg "sorted"=none)(ha:JA X E [a] l)(hg:Gl X "sorted":=by rfl)(he:starEach [a] X.env=(false,eval a X.env)::starEach [] X.env:=by rfl)(hpl:(backTo pos (starEach [] X.env)).any (·.1)=false:=by rfl):JE X E (.Call (.Name "sorted" p) [a] [] pos) (mCall sortW l):=
 d0 (kR hu) sB hg hm PyProof.Rows.boot_sorted ha (by decide) (by decide) he hpl
def sn (K:PySem.W.Frag)(ta:TE):TE:=fun σ H Q=>ta σ H fun x H1=> ∃ (p:Addr) (ys:List V) (ls:List Nat) (π:Array Nat),x=.ref p/\SqL K H1 p ys/\ls.length=ys.length/\(∀ (i:Nat) (v:V),ys[i]?=some v-> ∃c vs,v=.ref c/\SqT K H1 c vs/\vs.length<=1000/\ls[i]?=some vs.length)/\1<=ls.length/\ls.length<=1000/\lSort ls=some π/\piOk π ls.length/\
 ∀q,H1 q=none->Q (.ref q) (upd H1 q (.lst (π.toList.map fun i=>ys.getD i .non)))
theorem oV {ta:TE}(hg:Gl X "sorted")(hm:X.mg "sorted"=none)(hgl:Gl X "len")(hml:X.mg "len"=none)(ha:PE X a ta)(he:starEach [a] X.env=(false,eval a X.env)::starEach [] X.env:=by rfl):
  PE X (.Call (.Name "sorted" p) [a] [⟨some "key",.Name "len" p2,kpos⟩] pos) (sn X.K ta):=by
 intro pins s σ H Q I h
 refine wpAny_Call_Name_kw (dj I hg hm PyProof.Rows.boot_sorted ?_ (by decide) (by decide))
 refine PyProof.Rows.callWith_builtin_kwB (first:=[]) (by rw[he];rfl) rfl ?_
 rw[he]
 refine PySem.evalArgs_kw rfl (Calls.spliced_cons (thn (ha pins s σ H _ I h) fun u s1 ⟨x,H1,I1,rx,pp,ys,ls,π,ex,hq,hl,hv,h1,hz,hs,⟨ps,pl⟩,q⟩=>Calls.spliced_nil ?_))
 show wpAny _ _ (evalAll [(do let v<-eval (.Name "len" p2) X.env;standAt pos;pure v)]) _ _ s1
 refine wpAny_evalAll_cons (wpAny_bind (dj I1 hgl hml PySem.boot_len (wpAny_bind (wpAny_standAt (wpAny_pure (wpAny_evalAll_nil ?_)))) (by decide) (by decide)))
 subst ex
 cases rx
 obtain⟨its,rv,pl',_⟩:=I1.list hq
 have il:=rv.length
 have big:1000<=sizeLine:=by decide
 show wpAny _ _ (call (.builtin "sorted") [.ref pp] [(Str.ofString "key",.builtin "len")]) _ _ s1
 refine call_function_entry_kw kind_sorted plain_sorted entry_sorted (ksk_s1 _ _) ?_
 unfold Builtin.«sorted»
 refine wpAny_bind (m:=checkCount "sorted" 1 1 _) (wpAny_pure (wpAny_bind (collect_list pl'.isList ?_ (by omega))))
 refine wpAny_bind (wpAny_newList ?_ (by omega))
 have sz:((s1.heap.push (seqObj "list" #[] 0)).update s1.heap.objs.size (Obj.mapSeq (· ++its.toArray))).objs.size=s1.heap.objs.size+1:=by rw[Heap.size_update,size_push']
 have keep: ∀b o,s1.heap.get? b=some o->(((s1.heap.push (seqObj "list" #[] 0)).update s1.heap.objs.size (Obj.mapSeq (· ++its.toArray))).push (seqObj "list" its.toArray 0)).get? b=some o:=fun b o e=>by
  have lt:b<s1.heap.objs.size:=Heap.lt_size e
  refine Heap.get?_push_of_some _ ?_
  rw[Heap.get?_update_ne _ _ _ _ (Nat.ne_of_lt lt)]
  exact Heap.get?_push_of_some _ e
 have oD:(((s1.heap.push (seqObj "list" #[] 0)).update s1.heap.objs.size (Obj.mapSeq (· ++its.toArray))).push (seqObj "list" its.toArray 0)).get? (s1.heap.objs.size+1)=some (seqObj "list" its.toArray 0):=by
  rw[<-sz];exact Heap.get?_push_size _ rfl
 show wpAny _ _ _ _ _ {s1 with heap:=((s1.heap.push (seqObj "list" #[] 0)).update s1.heap.objs.size (Obj.mapSeq (· ++its.toArray))).push (seqObj "list" its.toArray 0)}
 rw[sz]
 generalize ((s1.heap.push (seqObj "list" #[] 0)).update s1.heap.objs.size (Obj.mapSeq (· ++its.toArray))).push (seqObj "list" its.toArray 0)=B at *
 have lD:s1.heap.objs.size<=s1.heap.objs.size+1:=Nat.le_succ _
 refine wpAny_bind (wpAny_holding (wpAny_call_entry_kw slot_list_sort ⟨_,oD,rfl⟩ entry_list_sort ?_ (ksk_l1 _ _)))
 refine oE (s:={s1 with heap:=B}) (ls:=ls) (p:=π) oD (by omega) (by omega) (by omega) (fun i v ei=>?_) hs (by omega) (fun e1=>?_) fun h' tk c k1 k2=>?_
 ·obtain⟨y,hy⟩: ∃y,ys[i]?=some y:=⟨_,List.getElem?_eq_getElem (by have:=(List.getElem?_eq_some_iff.mp ei).1;omega)⟩
  obtain⟨v',e3,r3⟩:=rv.get hy
  rw[ei] at e3
  cases e3
  obtain⟨cc,vs,rfl,sq,vl,lv⟩:=hv i y hy
  cases r3
  obtain⟨it2,r2,⟨o,g1,g2⟩,_⟩:=I1.tuple sq
  have l2:=r2.length
  refine⟨cc,it2.toArray,rfl,⟨o,keep cc o g1,g2⟩,fun z=>?_,by rw[List.size_toArray];omega,by rw[List.size_toArray,<-l2];exact lv⟩
  have:=Heap.lt_size g1
  rw[z] at this
  exact absurd this (Nat.not_lt.mpr (Nat.le_succ _))
 ·have l1:ls.length=1:=by omega
  rw[l1] at ps pl
  match hπ:π.toList,(Array.length_toList (xs:=π)) with
  |[i],_=>have:=pl i (by rw[hπ];simp);congr 1;omega
  |[],e=>rw[ps] at e;cases e
  |_::_::_,e=>rw[ps] at e;simp at e
 ·refine⟨_,rfl,wpAny_pure ⟨_,rfl,.ref (s1.heap.objs.size+1),_,I1.laid (t':=tk) (o:=.lst (π.toList.map fun i=>ys.getD i .non)) (fun b o e=>?_) lD ?_,rfl,q _ (I1.hok.fresh lD)⟩⟩
  ·exact k1 b o (Nat.ne_of_lt (Nat.lt_succ_of_lt (Heap.lt_size e))) (keep b o e)
  ·refine⟨by rw[List.length_map,Array.length_toList];omega,_,c,?_,k2⟩
   have vls: ∀l:List Nat,(∀i∈l,i<ls.length)->Vals (l.map fun i=>ys.getD i .non) (l.map fun i=>its.getD i Value.none):=fun l=>by
    induction l with
    |nil=>intro _;exact .nil
    |cons i l ih=>
     intro hh
     have li:=hh i List.mem_cons_self
     obtain⟨v,e1,r1⟩:=rv.get (show ys[i]?=some (ys.getD i .non) by rw[List.getD_eq_getElem?_getD,List.getElem?_eq_getElem (by omega)];rfl)
     refine .cons ?_ (ih fun j hj=>hh j (List.mem_cons_of_mem _ hj))
     show RelV (ys.getD i .non) (its.getD i Value.none)
     rw[List.getD_eq_getElem?_getD (l:=its),e1]
     exact r1
   exact vls _ pl
noncomputable def lenT (w:W):Option Nat:=match w with
 |.tup l=>some l.length
 |_=>none
def gW (w:W):M W:=bd (lstOf w) fun l=>match optL lenT l with
 |some ls=>gd (1<=ls.length/\ls.length<=1000/\ ∀n∈ls,n<=1000) (match lSort ls with
  |some π=>gd (piOk π ls.length) (pr (.tl (π.toList.map fun i=>l.getD i .non)))
  |none=>no)
 |none=>no
theorem pH (hm:X.mg "sorted"=none)(hml:X.mg "len"=none)(ha:JE X E a fa)(hg:Gl X "sorted":=by rfl)(hgl:Gl X "len":=by rfl)(he:starEach [a] X.env=(false,eval a X.env)::starEach [] X.env:=by rfl):
  JE X E (.Call (.Name "sorted" p) [a] [⟨some "key",.Name "len" p2,kpos⟩] pos) (m1 gW fa):=(oV hg hm hgl hml ha.h he).imp fun σ H Q h=>by
 obtain⟨o,ρ,rfl,R,S,h⟩:=h
 refine⟨o,ρ,rfl,R,S,Ps.bd h fun p x vx e1 R1 r1 h1=>?_⟩
 unfold gW at h1
 obtain⟨l,a',us,rfl,s,r,h1⟩:=bZ R1 r1 h1
 cases e:optL lenT l with
 |none=>rw[e] at h1;exact h1.elim
 |some ls=>
  rw[e] at h1
  obtain⟨⟨g1,g2,g3⟩,h1⟩:=h1.gd
  cases e2:lSort ls with
  |none=>rw[e2] at h1;exact h1.elim
  |some π=>
   rw[e2] at h1
   obtain⟨pk,h1⟩:=h1.gd
   have ll:=j2 e
   have lu:=r.len
   refine⟨a',us,ls,π,rfl,s,by omega,fun i v ei=>?_,g1,g2,e2,pk,fun q hq=>fx R1 hq (g0 r fun i hi=>by rw[<-ll];exact pk.2 i hi) h1⟩
   obtain⟨w,ew⟩: ∃w,l[i]?=some w:=⟨_,List.getElem?_eq_getElem (by have:=(List.getElem?_eq_some_iff.mp ei).1;omega)⟩
   obtain⟨y,ey,fy⟩:=j3 e ew
   obtain⟨v',ev,rv'⟩:=r.get ew
   rw[ei] at ev
   cases ev
   unfold lenT at fy
   split at fy
   ·rename_i l'
    cases fy
    unfold Rv at rv'
    obtain⟨c,vs,rfl,sq,rs⟩:=rv'
    have:=rs.len
    exact⟨c,vs,rfl,sq,by rw[this];exact g3 _ (List.mem_of_getElem? ey),by rw[this];exact ey⟩
   ·cases fy
end
end L2
set_option maxHeartbeats 1000000
namespace L2
open PySem PySem.Spec PyProof.Rows
open Sem (wp)
section
variable {prog:Program}{w:World}{A:Around}{E:Value->Shared->Prop}{s:Shared}
end
section
variable {X:Cx}{pins:List (Addr×Obj)}{σ:St}{H:Hp}{s:Shared}
theorem jl {a:Addr}{b:Bool}{xs:List (PKy×Addr×V)}{ep:Nat}(I:Inv X pins σ H s)(e:H a=some (.dN b xs ep)):(a==sysModules)=false/\ ∃es,RawD s.heap a es ep/\es.size=xs.length/\ ∀ (i:Nat) (y:PKy×Addr×V),xs[i]?=some y-> ∃d,es[i]?=some d/\d.key=.ref y.2.1/\RelV y.2.2 d.val:=by
 obtain⟨_,hs,ys,r,o,es,h1,h2,h3,h4,_⟩:=(show ObjOk X.prog X.w H s.heap a (.dN b xs ep) from I.hok a _ e)
 have gt: ∀ {xs:List (PKy×Addr×V)}{ys:List (PKy×Addr×Value)},KN xs ys-> ∀ {i:Nat}{x:PKy×Addr×V},xs[i]?=some x-> ∃y,ys[i]?=some y/\x.2.1=y.2.1/\RelV x.2.2 y.2.2:=fun{xs ys} r=>by
  induction r with
  |nil=>intro i x e;simp at e
  |cons hh _ ih=>
   intro i x e
   cases i with
   |zero=>cases e;exact⟨_,rfl,hh.2.1,hh.2.2⟩
   |succ i=>exact ih e
 refine⟨hs,es,⟨o,h1,h2,h3⟩,?_,fun i y ei=>?_⟩
 ·rw[<-Array.length_toList,h4,List.length_map];exact (Paired.length r).symm
 ·obtain⟨z,ez,e1,e2⟩:=gt r ei
  refine⟨_,by rw[<-Array.getElem?_toList,h4,List.getElem?_map,ez];rfl,by rw[e1],e2⟩
end
section
variable {X:Cx}{E:XK}{tg e a b:Expr}{pos p p2 pos2:Pos}{fa fb fv:Env'->M W}{l:Env'->M (List W)}
def keyW (b:Bool)(k:PKy):W:=match b with
 |false=>.tup [.int k.1,.tup (k.2.map W.int)]
 |true=>.tup [.tup (k.2.map W.int),.int k.1]
theorem mh {K:PySem.W.Frag}{o:Wo}: ∀ns:List Int,Rvs K o (ns.map W.int) (ns.map V.int)
 |[]=>Rvs.nil
 |n::r=>Rvs.cons (rv_int.mpr rfl) (mh r)
theorem my {K:PySem.W.Frag}{o:Wo}{b:Bool}{c:Addr}{k:PKy}(h:KeyN K o.H b c k):Rv K o (keyW b k) (.ref c):=by
 obtain⟨d,h1,h2⟩:=h
 have r2:Rv K o (.tup (k.2.map W.int)) (.ref d):=by unfold Rv;exact⟨d,_,rfl,h2,mh _⟩
 cases b with
 |false=>unfold keyW;dsimp only;unfold Rv;exact⟨c,_,rfl,h1,Rvs.cons (rv_int.mpr rfl) (Rvs.cons r2 Rvs.nil)⟩
 |true=>unfold keyW;dsimp only;unfold Rv;exact⟨c,_,rfl,h1,Rvs.cons r2 (Rvs.cons (rv_int.mpr rfl) Rvs.nil)⟩
def rInN (K:PySem.W.Frag)(neg:Bool):R2:=fun x y H Q=> ∃a b xs ep c k,x=.ref c/\y=.ref a/\H a=some (.dN b xs ep)/\(∀x∈xs,KeyN K H b x.2.1 x.1)/\KeyN K H b c k/\Q (.bl ((valV (kvN xs) k).isSome !=neg)) H
theorem uX (hu:X.A.units+64<cLine):OpR X (compareOp .In) (rInN X.K false):=by
 intro pins s σ H x y v u Q I rx ry h
 obtain⟨a,b,xs,ep,c,k,rfl,rfl,e,hk,hc,q⟩:=h
 cases rx
 cases ry
 obtain⟨z,hd,ys,rel,dd⟩:=i8 I e hk
 refine wpAny_in_heap (knd:=ga X.prog X.w b) (by show X.A.units+1+1<cLine;omega) (eE I hc) hd dd ⟨_,H,I.tok _,?_,q⟩
 have:=(rel.val k).isSome_eq
 rw[Option.isSome_map] at this
 rw[<-this]
 cases (valV (kvN xs) k).isSome<;>rfl
theorem rh (hu:X.A.units+64<cLine):OpR X (compareOp .NotIn) (rInN X.K true):=by
 intro pins s σ H x y v u Q I rx ry h
 obtain⟨a,b,xs,ep,c,k,rfl,rfl,e,hk,hc,q⟩:=h
 cases rx
 cases ry
 obtain⟨z,hd,ys,rel,dd⟩:=i8 I e hk
 have:=(rel.val k).isSome_eq
 rw[Option.isSome_map] at this
 refine wpAny_notIn_heap (knd:=ga X.prog X.w b) (by show X.A.units+1+1<cLine;omega) (eE I hc) hd dd ⟨_,H,I.tok _,?_,q⟩
 rw[<-this]
 cases (valV (kvN xs) k).isSome<;>rfl
def inNW (neg:Bool)(x y:W):M W:=fun h=>match dinOf y h with
 |some (b,ks,ws)=>match keyN b x with
  |some k=>.ok (.bl ((atK ks ws k).isSome !=neg)) h
  |none=>.bad
 |none=>.bad
theorem qW {neg:Bool}:OpM X E (rInN X.K neg) (inNW neg):=by
 intro o x y vx vy Q R rx ry h
 unfold inNW at h
 cases e1:dinOf y o.h with
 |none=>rw[e1] at h;exact h.elim
 |some t=>
  obtain⟨b,ks,ws⟩:=t
  rw[e1] at h
  cases e2:keyN b x with
  |none=>simp only[e2] at h;exact h.elim
  |some k=>
   simp only[e2] at h
   obtain⟨a,xs,ep,rfl,g1,g2,g3,g4⟩:=fS R e1 ry
   obtain⟨c,rfl,hc⟩:=gM e2 rx
   have hv:=eP (x:=k) (kvs:=kvN xs) (ks:=ks) (ws:=ws) (by unfold kvN;rw[List.map_map];exact g2) (by unfold kvN;rw[List.map_map];exact g4)
   have e3:(valV (kvN xs) k).isSome=(atK ks ws k).isSome:=by
    cases e4:atK ks ws k with
    |none=>rw[e4] at hv;rw[hv];rfl
    |some w=>rw[e4] at hv;obtain⟨v,hv,_⟩:=hv;rw[hv];rfl
   refine⟨a,b,xs,ep,c,k,rfl,rfl,g1,g3,hc,?_⟩
   rw[e3]
   exact Ps.pr (c:=cg X E) (r:=Rv X.K) h R (rv_bl.mpr rfl)
end
end L2
set_option maxHeartbeats 1000000
namespace L2
open PySem PySem.Spec PyProof.Rows
section
variable {X:Cx}{E:XK}{tg e a b:Expr}{pos p p2 pos2:Pos}{fa fb fv:Env'->M W}{l:Env'->M (List W)}
theorem kD {x:Str}{c d:Addr}{ks:List Int}{i:Int}{pos:Pos}(hm:X.mg x=some (.ref c))(hq: ∀H,SqT X.K H c [.ref d,.int i])(hq2: ∀H,SqT X.K H d (ks.map V.int))(hg:Gl X x:=by rfl)(hd:(x==("__debug__":Str))=false:=by decide):JE X E (.Name x pos) (mC (keyW true (i,ks))):=
 rk (v:=.ref c) hg hm rfl (fun o=>my (b:=true) (k:=(i,ks)) ⟨d,hq _,hq2 _⟩) hd
end
end L2
set_option maxHeartbeats 1000000
namespace L2
open PySem PySem.Spec PyProof.Rows
open Sem (wp)
section
variable {prog:Program}{w:World}{A:Around}{E:Value->Shared->Prop}{s:Shared}
theorem lS {d:Addr}{ep:Nat}{es:Array DictEntry}{Q:Value->Shared->Prop}(hs:(d==sysModules)=false)(hd:RawD s.heap d es ep)
  (k:Q (.ref s.heap.objs.size) {s with heap:=s.heap.push {cls:=.type "dict_items",data:=.fields #[.ref d]}}):
  wpAny (model prog w) A (call (.builtin "dict.items") [.ref d]) Q E s:=by
 obtain⟨od,g1,g2,g3⟩:=hd
 have hT:s.TypeIs (.ref d) "dict":=⟨_,g1,g2.1⟩
 refine wpAny_call_entry F.slot_dict_items hT F.entry_dict_items ?_ (F.args_dict_items_1 _)
 show wpAny _ _ (((typeOf (.ref d)>>=_)>>=_)>>=_) _ _ s
 refine wpAny_bind (wpAny_bind (wpAny_bind (wpAny_typeOf (T:= "dict") hT ?_)))
 show wpAny _ _ (pure ()) _ _ s
 refine wpAny_pure ?_
 show wpAny _ _ (pure d) _ _ s
 refine wpAny_pure ?_
 show wpAny _ _ (Builtin.Dict.showsAll d>>=_) _ _ s
 unfold Builtin.Dict.showsAll
 rw[hs,if_neg (by decide)]
 refine wpAny_bind (wpAny_pure ?_)
 refine wpAny_bind (wpAny_newObj_type ?_ (show 1<=_ by decide))
 exact wpAny_pure ⟨_,rfl,k⟩
theorem lO {v d:Addr}{ep:Nat}{es:Array DictEntry}{Q:Value->Shared->Prop}(hv:s.heap.IsItemsView v d)(hd:RawD s.heap d es ep)
  (k:Q (.ref s.heap.objs.size) {s with heap:=s.heap.push {cls:=.type "dict_itemiterator",data:=.fields #[.none,.bool false,.ref d,.int 0 0,.int (es.size:Nat) 0,.int ep 0,.none,.none]}}):
  wpAny (model prog w) A (pyIter (.ref v)) Q E s:=by
 have hT:=hv.typeIs (s:=s)
 obtain⟨o,h1,h2,h3⟩:=hv
 obtain⟨od,g1,g2,g3⟩:=hd
 refine wpAny_pyIter_slot hT F.slot_dict_items_iter (wpAny_call_entry F.slot_dict_items_iter hT F.entry_dict_items_iter ?_ (F.args_dict_items_iter_1 _))
 show wpAny _ _ ((field (.ref v) 0>>=_)>>=_) _ _ s
 refine wpAny_bind (wpAny_bind (wpAny_field h1 h3 (x:=.ref d) rfl ?_))
 refine wpAny_pure ?_
 show wpAny _ _ ((dictEntries d>>=_)>>=_) _ _ s
 refine wpAny_bind (wpAny_bind (wpAny_dictEntries g1 g3 (wpAny_bind (wpAny_dictEpoch g1 g3 ?_))))
 refine wpAny_newObj_type ?_ (show 8<=_ by decide)
 exact wpAny_pure ⟨_,rfl, "dict_itemiterator",_,⟨_,Heap.get?_push_size _ rfl,rfl⟩,F.slot_dict_itemiterator_next.lookup,k⟩
theorem iV:Builtin.Dict_items.ownsTuple "dict_itemiterator"=true:=by decide
theorem nD {it d:Addr}{i n ep:Nat}{es:Array DictEntry}{e:DictEntry}{ok ov:Value}{Q:Option Value->Shared->Prop}(hi:IsItemIter s.heap it d i n ep ok ov)(hd:RawD s.heap d es ep)(hn:es.size=n)(he:es[i]?=some e)
  (k:∀h':Heap,IsItemIterOut h' it d (i+1) n ep e.key e.val s.heap.objs.size->h'.get? s.heap.objs.size=some {cls:=.type "tuple",data:=.seq #[e.key,e.val]}->(∀b o,b≠it->s.heap.get? b=some o->h'.get? b=some o)->Q (some (.ref s.heap.objs.size)) {s with heap:=h'}):
  wpAny (model prog w) A (pyNext (.ref it)) Q E s:=by
 obtain⟨hp,g,dr,tk,os⟩:=s
 have hT:Shared.TypeIs ⟨hp,g,dr,tk,os⟩ (.ref it) "dict_itemiterator":=⟨_,hi,rfl⟩
 obtain⟨od,g1,g2,g3⟩:=hd
 unfold pyNext
 refine wpAny_bind (wpAny_attempt (wpAny_callSpecial?_slot (name:=Str.ofString "__next__") hT F.slot_dict_itemiterator_next (wpAny_call_entry F.slot_dict_itemiterator_next hT F.entry_dict_itemiterator_next ?_ (F.args_dict_itemiterator_next_1 _))))
 show wpAny _ _ (((typeNameOfWhole (.ref it)>>=_)>>=_)>>=_) _ _ _
 refine wpAny_bind (wpAny_bind (wpAny_bind (wpAny_typeNameOfWhole_itemiter hT (wpAny_pure ?_))))
 refine wpAny_bind (wpAny_fieldsOf hi rfl ?_)
 simp only[iV,if_true]
 show wpAny _ _ (dictEntries d>>=_) _ _ _
 refine wpAny_bind (wpAny_dictEntries g1 g3 ?_)
 have z:((es.size:Int) !=(n:Int))=false:=by rw[hn];simp
 show wpAny _ _ (if ((es.size:Int) !=(n:Int))=true then _ else dictEpoch d>>=_) _ _ _
 rw[z,if_neg (by decide)]
 refine wpAny_bind (wpAny_dictEpoch g1 g3 ?_)
 have z2:((ep:Int) !=(ep:Int))=false:=by simp
 show wpAny _ _ (if ((ep:Int) !=(ep:Int))=true then _ else _) _ _ _
 rw[z2,if_neg (by decide)]
 refine wpAny_pure ?_
 have z3:(if ((i:Nat):Int)<0 then none else es[((i:Nat):Int).toNat]?)=some e:=by rw[if_neg (by omega),Int.toNat_natCast];exact he
 dsimp only
 rw[z3]
 dsimp only
 refine wpAny_bind (wpAny_bind (wpAny_typeNameOfWhole_itemiter hT (wpAny_pure ?_)))
 refine wpAny_bind (wpAny_isOneOf_itemiter hT ?_)
 show wpAny _ _ (setField (.ref it) 3 (rawInt ((i:Int)+1))>>=_) _ _ _
 refine wpAny_bind (wpAny_setField_rec hi (by simp) fun h1 e1 s1=>?_)
 have s1:Heap.SameBut it hp h1:=s1
 have e1:IsItemIter h1 it d (i+1) n ep ok ov:=by
  have q:((i+1:Nat):Int)=(i:Int)+1:=by omega
  unfold IsItemIter
  rw[q]
  simpa [rawInt] using e1
 have hT1:Shared.TypeIs ⟨h1,g,dr,tk,os⟩ (.ref it) "dict_itemiterator":=⟨_,e1,rfl⟩
 refine wpAny_bind (wpAny_holding (wpAny_bind (wpAny_isOneOf_itemiter hT1 (wpAny_bind (wpAny_isOneOf_itemiter hT1 ?_)))))
 show wpAny _ _ (Builtin.Dict_items.pairFromOwner (.ref it) 6 e.key e.val) _ _ ⟨h1,g,dr,tk,os⟩
 unfold Builtin.Dict_items.pairFromOwner
 refine wpAny_bind (wpAny_newTuple ?_)
 have z1:h1.objs.size=hp.objs.size:=s1.1
 have il:it<hp.objs.size:=Heap.lt_size hi
 have nt:hp.objs.size≠it:=Nat.ne_of_gt il
 have t2:(h1.push {cls:=.type "tuple",data:=.seq #[e.key,e.val]}).get? hp.objs.size=some {cls:=.type "tuple",data:=.seq #[e.key,e.val]}:=by rw[<-z1];exact Heap.get?_push_size _ rfl
 have e2:IsItemIter (h1.push {cls:=.type "tuple",data:=.seq #[e.key,e.val]}) it d (i+1) n ep ok ov:=Heap.get?_push_of_some _ e1
 have k2: ∀b o,b≠it->hp.get? b=some o->(h1.push {cls:=.type "tuple",data:=.seq #[e.key,e.val]}).get? b=some o:=fun b o hb q=>Heap.get?_push_of_some _ (s1.extBut b o hb q)
 show wpAny _ _ (Builtin.Dict_items.ownedTupleIsFree (.ref it)>>=_) _ _ ⟨h1.push {cls:=.type "tuple",data:=.seq #[e.key,e.val]},g,dr,tk,os⟩
 rw[z1]
 generalize h1.push {cls:=.type "tuple",data:=.seq #[e.key,e.val]}=h2 at e2 t2 k2
 refine wpAny_bind ?_
 unfold Builtin.Dict_items.ownedTupleIsFree
 refine wpAny_bind (wpAny_field e2 rfl (x:=.none) rfl (wpAny_pure ?_))
 simp only[if_true]
 refine wpAny_bind (wpAny_field e2 rfl (x:=ok) rfl (wpAny_bind (wpAny_field e2 rfl (x:=ov) rfl ?_)))
 refine wpAny_bind (wpAny_setField_rec e2 (by simp) fun h3 e3 s3=>?_)
 refine wpAny_bind (wpAny_setField_rec e3 (by simp) fun h4 e4 s4=>?_)
 refine wpAny_bind (wpAny_setField_rec e4 (by simp) fun h5 e5 s5=>?_)
 refine wpAny_bind (wpAny_setField_rec e5 (by simp) fun h6 e6 s6=>?_)
 have ke: ∀b o,b≠it->h2.get? b=some o->h6.get? b=some o:=fun b o hb q=>s6.extBut b o hb (s5.extBut b o hb (s4.extBut b o hb (s3.extBut b o hb q)))
 exact wpAny_bind (wpAny_letGo (wpAny_pure (wpAny_pure ⟨_,rfl,wpAny_pure (k h6 e6 (ke _ _ nt t2) fun b o hb q=>ke b o hb (k2 b o hb q))⟩)))
theorem p9 {it d:Addr}{i n ep:Nat}{es:Array DictEntry}{ok ov:Value}{Q:Option Value->Shared->Prop}(hh:A.in1.handled=none)(hi:IsItemIter s.heap it d i n ep ok ov)(hd:RawD s.heap d es ep)(hn:es.size=n)(he:es[i]?=none)
  (k:∀h':Heap,Heap.ExtBut it s.heap h'->Q none {s with heap:=h'}):
  wpAny (model prog w) A (pyNext (.ref it)) Q E s:=by
 have hT:s.TypeIs (.ref it) "dict_itemiterator":=⟨_,hi,rfl⟩
 obtain⟨od,g1,g2,g3⟩:=hd
 unfold pyNext
 refine wpAny_bind (wpAny_attempt (wpAny_callSpecial?_slot (name:=Str.ofString "__next__") hT F.slot_dict_itemiterator_next (wpAny_call_entry F.slot_dict_itemiterator_next hT F.entry_dict_itemiterator_next ?_ (F.args_dict_itemiterator_next_1 _))))
 show wpAny _ _ (((typeNameOfWhole (.ref it)>>=_)>>=_)>>=_) _ _ _
 refine wpAny_bind (wpAny_bind (wpAny_bind (wpAny_typeNameOfWhole_itemiter hT (wpAny_pure ?_))))
 refine wpAny_bind (wpAny_fieldsOf hi rfl ?_)
 simp only[iV,if_true]
 show wpAny _ _ (dictEntries d>>=_) _ _ _
 refine wpAny_bind (wpAny_dictEntries g1 g3 ?_)
 have z:((es.size:Int) !=(n:Int))=false:=by rw[hn];simp
 show wpAny _ _ (if ((es.size:Int) !=(n:Int))=true then _ else dictEpoch d>>=_) _ _ _
 rw[z,if_neg (by decide)]
 refine wpAny_bind (wpAny_dictEpoch g1 g3 ?_)
 have z2:((ep:Int) !=(ep:Int))=false:=by simp
 show wpAny _ _ (if ((ep:Int) !=(ep:Int))=true then _ else _) _ _ _
 rw[z2,if_neg (by decide)]
 refine wpAny_pure ?_
 have z3:(if ((i:Nat):Int)<0 then none else es[((i:Nat):Int).toNat]?)=none:=by rw[if_neg (by omega),Int.toNat_natCast];exact he
 dsimp only
 rw[z3]
 dsimp only
 refine wpAny_bind (wpAny_bind (wpAny_typeNameOfWhole_itemiter hT (wpAny_pure ?_)))
 show wpAny _ _ (setField (.ref it) 2 .none>>=_) _ _ s
 refine wpAny_bind (wpAny_setField_rec hi (by simp) fun h1 e1 s1=>?_)
 refine wpAny_bind (pz fun h' e kp nw th=>wpAny_raiseNew_none hh ?_)
 obtain⟨o,q1,q2⟩:=th
 exact wpAny_bind (wpAny_isInstance (T:= "StopIteration") (b:=true) ⟨o,q1,q2⟩ isSubtype_stop (wpAny_pure (k _ fun b o hb q=>kp b o (s1.extBut _ _ hb q))))
end
theorem iC:entryFor table "dict_itemiterator.__iter__"=some Builtin.«dict_keyiterator.__iter__»:=entryFor_alias (id':= "dict_keyiterator.__iter__") (by kernel_rfl) rfl (by decide+kernel) (by kernel_rfl)
def Ity (a:Addr)(b:Bool)(xs:List (PKy×Addr×V))(ep:Nat):It where
 go:=fun i H=>H a=some (.dN b xs ep)/\i<xs.length
 yld:=fun i H x H'=> ∃T y,H T=none/\x=.ref T/\xs[i]?=some y/\H'=upd H T (.tup [.ref y.2.1,y.2.2])
 stop:=fun i H=>H a=some (.dN b xs ep)/\i=xs.length
theorem kY {P:Program}{w:World}{K:PySem.W.Frag}{elts:List Expr}{x1}{tpos:Pos}(it a:Addr)(b:Bool)(xs:List (PKy×Addr×V))(ep:Nat):Turn P w K (.Tuple elts x1 tpos) (Ity a b xs ep) [it] it (fun i h=> ∃ok ov,IsItemIter h it a i xs.length ep ok ov) where
 mem:=by simp
 obj:=fun i h st b hb=>by
  have e:b=it:=by simpa using hb
  subst e
  obtain⟨ok,ov,e⟩:=st
  exact⟨_,e,fun v z=>by cases z⟩
 keep:=fun i h h' st k=>let ⟨ok,ov,e⟩:=st;⟨ok,ov,k it (by simp) _ e⟩
 item:=by
  intro X hP hw hK hc i pins s σ H E I hf st hg
  subst hP hw hK
  obtain⟨e,hl⟩:=hg
  obtain⟨hs,es,rd,sz,at_⟩:=jl I e
  obtain⟨y,hy⟩: ∃y,xs[i]?=some y:=⟨_,List.getElem?_eq_getElem hl⟩
  obtain⟨d,hd,kd,vd⟩:=at_ i y hy
  have fi:=hf it (by simp)
  obtain⟨ok,ov,st⟩:=st
  refine nD st rd sz hd fun h' hout hT hk=>?_
  have nT:H s.heap.objs.size=none:=I.hok.fresh (Nat.le_refl _)
  have lt: ∀b o,s.heap.get? b=some o->b≠s.heap.objs.size:=fun b o q=>Nat.ne_of_lt (Heap.lt_size q)
  have ltH: ∀b o,H b=some o->b≠s.heap.objs.size:=fun b o q z=>by rw[z,nT] at q;cases q
  have neH: ∀b o,H b=some o->b≠it:=fun b o q z=>by rw[z,fi.1] at q;cases q
  have I1:Inv X pins σ (upd H s.heap.objs.size (.tup [.ref y.2.1,y.2.2])) {s with heap:=h'}:=by
   refine I.call' (s':={s with heap:=h'}) (ch:=[it]) rfl ⟨fun b o q n hb hx=>?_,fun b o q n hb hx=>?_,fun b o q n hx=>?_,fun b o q hx=>?_,fun b xs q=>?_,fun b o u q=>?_,fun b ps q=>?_⟩ (fun b o q=>?_) I.bare fun b hb=>?_
   ·exact hk b o (fun z=>hx (by simp [z])) q
   ·exact⟨o.slots,hk b o (fun z=>hx (by simp [z])) q⟩
   ·rw[ap (lt b o q)];exact n
   ·exact⟨o,hk b o (fun z=>hx (by simp [z])) q⟩
   ·rw[ap (ltH b _ q)];exact q
   ·rw[ap (ltH b _ q)];exact q
   ·exact⟨#[],by rw[ap (ltH b _ q),q];simp⟩
   ·by_cases hb:b=s.heap.objs.size
    ·subst hb
     rw[aR] at q
     cases q
     exact⟨by show 2<=sizeLine;decide,_,.cons kd (.cons vd .nil),⟨_,hT,rfl,_,rfl⟩,_,hT,rfl⟩
    ·rw[ap hb] at q
     refine (I.hok b o q).stay (fun c v hc r=>?_) (fun c r=>by rw[ap (ltH c _ r)];exact r) fun c xs r=>by rw[ap (ltH c _ r)];exact r
     have: ∃o,H c=some o:=by
      rcases hc with rfl|hc
      ·exact⟨o,q⟩
      ·exact⟨_,hc⟩
     obtain⟨o',qo⟩:=this
     exact hk c v (neH c o' qo) r
   ·have e':b=it:=by simpa using hb
    subst e'
    exact⟨fi.2.2.2.1,fi.2.1,fi.2.2.2.2.1,fi.2.2.2.2.2⟩
  refine⟨_,rfl,wpAny_letOwnedTupleGo_items (s:={s with heap:=h'}) hout fun h2 he2 hs2=>?_⟩
  have neT:it≠s.heap.objs.size:=lt _ _ st
  have fe':(upd H s.heap.objs.size (.tup [.ref y.2.1,y.2.2])) it=none:=by rw[ap neT];exact fi.1
  refine⟨.ref s.heap.objs.size,upd H s.heap.objs.size (.tup [.ref y.2.1,y.2.2]),?_,rfl,⟨s.heap.objs.size,y,nT,rfl,hy,rfl⟩,⟨_,_,he2⟩,fun b hb=>?_⟩
  ·exact I1.turned (t':=s.toks) (fun b o hb eo=>(hs2.2 b hb).trans eo) fe' fi.2.1 fi.2.2.2.1 fi.2.2.2.2.1 fi.2.2.2.2.2
  ·have e':b=it:=by simpa using hb
   subst e'
   exact fe'
 done:=by
  intro X hP hw hK hc i pins s σ H E I hf st hg
  subst hP hw hK
  obtain⟨e,hl⟩:=hg
  obtain⟨hs,es,rd,sz,_⟩:=jl I e
  obtain⟨f0,f1,f2,f3,f4,f5⟩:=hf it (by simp)
  obtain⟨ok,ov,st⟩:=st
  exact p9 (I.ok.hd hc) st rd sz (Array.getElem?_eq_none (by omega)) fun h' eb=>⟨rfl,I.turned (t':=s.toks) (fun b o hb e=>eb b o hb e) f0 f1 f3 f4 f5⟩
 self:=fun _ _ s _ _ st h=>by
  obtain⟨ok,ov,st⟩:=st
  have hT:s.TypeIs (.ref it) "dict_itemiterator":=⟨_,st,rfl⟩
  refine wpAny_pyIter_slot hT F.slot_dict_itemiterator_iter (wpAny_call_entry F.slot_dict_itemiterator_iter hT iC ?_ (F.args_dict_itemiterator_iter_1 _))
  show wpAny _ _ (ret (.ref it)) _ _ s
  exact wpAny_pure ⟨_,rfl, "dict_itemiterator",_,hT,F.slot_dict_itemiterator_next.lookup,h⟩
section
variable {X:Cx}{E:XK}{o e f:Expr}{pos apos cpos:Pos}{fa fo fe ff:Env'->M W}{elts:List Expr}{tpos:Pos}
theorem pV {pins:List (Addr×Obj)}{σ:St}{H:Hp}{s:Shared}{a:Addr}{b:Bool}{xs:List (PKy×Addr×V)}{ep:Nat}(I:Inv X pins σ H s)(ha:H a=some (.dN b xs ep)):s.TypeIs (.ref a) "dict"/\ ∀b,Value.ref a=.ref b-> ∃ob,s.heap.get? b=some ob/\ob.dict=none:=by
 obtain⟨hs,es,⟨od,g1,g2,g3⟩,_⟩:=jl I ha
 exact⟨⟨_,g1,g2.1⟩,fun c q=>by cases q;exact⟨od,g1,g2.2.1⟩⟩
def iItm (te:TE):TI:=fun σ H R=>te σ H fun x H1=> ∃a b xs ep,x=.ref a/\H1 a=some (.dN b xs ep)/\R (Ity a b xs ep) H1
theorem oR {te:TE}{x1}(he:PE X o te)(hb:attributeBase o "items" X.env (eval o X.env)=eval o X.env)(hln:(apos.endLine==cpos.line)=true):PI X (.Tuple elts x1 tpos) (.Call (.Attribute o "items" apos) [] [] cpos) (iItm te):=by
 intro pins s σ H R I h
 refine wpAny_Call_method hb rfl hln PySem.F.plainAttrs_dict PySem.F.slot_dict_items PySem.F.type_dict_items (thn (he pins s σ H _ I h) fun u s1 qz=>?_)
 obtain⟨x,H1,I1,rx,a,b,xs,ep,ex,ha,q⟩:=qz
 subst ex
 obtain rfl:u=Value.ref a:=rx
 obtain⟨t1,t2⟩:=pV I1 ha
 refine⟨t1,t2,?_⟩
 obtain⟨hs,es,rd,sz,_⟩:=jl I1 ha
 refine Calls.callWith_builtin rfl ?_
 show wpAny _ _ (pure _) _ _ _
 refine wpAny_pure (lS hs rd ?_)
 have I2:Inv X pins σ H1 {s1 with heap:=s1.heap.push {cls:=.type "dict_items",data:=.fields #[.ref a]},toks:=s1.toks}:=I1.kept fun b o e=>Heap.get?_push_of_some _ e
 have rd2:RawD (s1.heap.push {cls:=.type "dict_items",data:=.fields #[.ref a]}) a es ep:=rd.keep fun o q=>Heap.get?_push_of_some _ q
 refine lO (s:={s1 with heap:=s1.heap.push {cls:=.type "dict_items",data:=.fields #[.ref a]}}) ⟨_,Heap.get?_push_size _ rfl,rfl,rfl⟩ rd2 ?_
 rw[sz]
 refine⟨_,[_],_,_,H1,rfl,I2.kept (t':=s1.toks) fun b o e=>Heap.get?_push_of_some _ e,kY _ a b xs ep,⟨_,_,Heap.get?_push_size _ rfl⟩,fun b hb=>?_,q⟩
 have e:b=(s1.heap.push {cls:=.type "dict_items",data:=.fields #[.ref a]}).objs.size:=by simpa using hb
 subst e
 exact I2.fpOk (Nat.le_refl _) (I2.hok.fresh (Nat.le_refl _))
def srcI (w:W):M Sr:=match w with
 |.dn b ks ws=>pr ⟨List.zipWith (fun k w=>.tup [keyW b k,w]) ks ws,fun _=>True⟩
 |_=>no
theorem pE {x1}(he:JE X E o fa)(hb:attributeBase o "items" X.env (eval o X.env)=eval o X.env:=by rfl)(hln:(apos.endLine==cpos.line)=true:=by rfl):JI X E (.Tuple elts x1 tpos) (.Call (.Attribute o "items" apos) [] [] cpos) (mSrc fa srcI):=(oR he.h hb hln).imp fun σ H Q h=>by
 obtain⟨o,ρ,rfl,R,S,h⟩:=h
 refine⟨o,ρ,rfl,R,S,Ps.bd h fun p x vx e1 R1 r1 h1=>?_⟩
 cases x with
 |dn b ks ws=>
  unfold Rv at r1
  obtain⟨a,⟨xs,ep⟩,rfl,ha,n,hk,hn,hv⟩:=r1
  dsimp only at ha hk hn hv
  have lk:ks.length=xs.length:=by rw[<-hk,List.length_map]
  have lw:ws.length=xs.length:=by have:=hv.len;rw[List.length_map] at this;exact this.symm
  refine⟨a,b,xs,ep,rfl,ha,h1.pr R1 ⟨fun o X R g=>⟨(X.fr a _ ha n).1,by rw[List.length_zipWith,lk,lw,Nat.min_self]⟩,fun o i w X R g ei=>?_⟩⟩
  rw[List.getElem?_zipWith] at ei
  cases ek:ks[i]? with
  |none=>rw[ek] at ei;cases ei
  |some k=>
   cases ew:ws[i]? with
   |none=>rw[ek,ew] at ei;cases ei
   |some w'=>
    rw[ek,ew] at ei
    cases ei
    rw[<-hk,List.getElem?_map] at ek
    obtain⟨y,ey,rfl⟩:=Option.map_eq_some_iff.mp ek
    obtain⟨v,hv1,rv⟩:=(hv.mono R1 X).get ew
    rw[List.getElem?_map,ey] at hv1
    cases hv1
    refine⟨⟨(X.fr a _ ha n).1,(List.getElem?_eq_some_iff.mp ey).1⟩,fun x H' hy=>?_⟩
    obtain⟨T,y',hT,rfl,ey',rfl⟩:=hy
    rw[ey] at ey'
    cases ey'
    exact⟨⟨o.mu,o.h,upd o.H T (.tup [.ref y.2.1,y.2.2])⟩,rfl,rfl,Ex.new hT,R.new hT,Rv.newT R hT (Rvs.cons (my ((hn y (List.mem_of_getElem? ey)).mono X R1)) (Rvs.cons rv Rvs.nil))⟩
 |_=>exact h1.elim
def sy (K:PySem.W.Frag)(td ty tx:TE):TE:=fun σ H Q=>td σ H fun x H1=> ∃a,x=.ref a/\(∃b xs ep,H1 a=some (.dN b xs ep))/\ty σ H1 fun y H2=>tx σ H2 fun z H3=> ∃b xs ep k c,H3 a=some (.dN b xs ep)/\(∀x∈xs,KeyN K H3 b x.2.1 x.1)/\y=.ref c/\KeyN K H3 b c k/\Q ((valV (kvN xs) k).getD z) H3
theorem o3 {td ty tx:TE}(hu:X.A.units+64<cLine)(ho:PE X o td)(he:PE X e ty)(hf:PE X f tx)(m:M2 X o "get" apos e f cpos):PE X (.Call (.Attribute o "get" apos) [e,f] [] cpos) (sy X.K td ty tx):=by
 intro pins s σ H Q I h
 refine wpAny_Call_method m.base m.few m.line PySem.F.plainAttrs_dict PySem.F.slot_dict_get PySem.F.type_dict_get (thn (ho pins s σ H _ I h) fun u s1 qz=>?_)
 obtain⟨x,H1,I1,rx,a,ex,⟨b0,xs0,ep0,d⟩,q1⟩:=qz
 subst ex
 obtain rfl:u=Value.ref a:=rx
 obtain⟨t1,t2⟩:=pV I1 d
 refine⟨t1,t2,?_⟩
 rw[m.trees]
 refine Calls.callWith_builtin rfl (Calls.evalArgs_plain (Calls.spliced_cons (thn (he pins s1 σ H1 _ I1 q1) fun iv s2 ⟨y,H2,I2,ry,q2⟩=>
  Calls.spliced_cons (thn (hf pins s2 σ H2 _ I2 q2) fun fv s3 ⟨z,H3,I3,rz,b,xs,ep,k,c,e3,hk,ey,hc,q3⟩=>Calls.spliced_nil ?_))))
 subst ey
 obtain rfl:iv=Value.ref c:=ry
 obtain⟨zz,hd,ys,rel,dd⟩:=i8 I3 e3 hk
 refine call_meetsIn PySem.F.slot_dict_get dd.typeIs PySem.F.entry_dict_get (PySem.F.args_dict_get_3 _ _ _) (meetsH_dict_get_default (ga X.prog X.w b) a c hd fv) ⟨by show X.A.units+1+1<cLine;omega,k,ys,eE I3 hc,dd,⟨_,H3,I3.tok _,?_,q3⟩⟩
 exact (rel.val k).getD rz
def isDN (x:W):M W:=fun h=>match dinOf x h with
 |some _=>.ok x h
 |none=>.bad
def getN (x y d:W):M W:=fun h=>match dinOf x h with
 |some (b,ks,ws)=>match keyN b y with
  |some k=>.ok ((atK ks ws k).getD d) h
  |none=>.bad
 |none=>.bad
def mGetN (fo fe ff:Env'->M W):Env'->M W:=fun ρ=>bd (fo ρ) fun x=>bd (isDN x) fun x=>bd (fe ρ) fun y=>bd (ff ρ) fun d=>getN x y d
theorem rl (hu:X.A.units+64<cLine)(ho:JE X E o fo)(he:JE X E e fe)(hf:JE X E f ff)(m:M2 X o "get" apos e f cpos:=by exact⟨rfl,rfl,rfl,rfl⟩):JE X E (.Call (.Attribute o "get" apos) [e,f] [] cpos) (mGetN fo fe ff):=
 (o3 hu ho.h he.h hf.h m).imp fun σ H Q h=>by
  obtain⟨w,ρ,rfl,R,S,h⟩:=h
  refine⟨w,ρ,rfl,R,S,Ps.bd h fun p x vx e1 R1 r1 h1=>?_⟩
  unfold bd isDN at h1
  cases ed:dinOf x p.h with
  |none=>rw[ed] at h1;exact h1.elim
  |some kw=>
   obtain⟨b0,ks0,ws0⟩:=kw
   rw[ed] at h1
   obtain⟨a,xs0,ep0,rfl,d1,_,_,_⟩:=fS R1 ed r1
   refine⟨a,rfl,⟨b0,xs0,ep0,d1⟩,p,ρ,rfl,R1,S.mono R e1,Ps.bd (h:=h1) fun q y vy e2 R2 r2 h2=>⟨q,ρ,rfl,R2,(S.mono R e1).mono R1 e2,Ps.bd h2 fun s z vz e3 R3 r3 h3=>?_⟩⟩
   have rx:=(r1.mono R1 e2).mono R2 e3
   have ry:=r2.mono R2 e3
   unfold getN at h3
   cases eh:dinOf x s.h with
   |none=>rw[eh] at h3;exact h3.elim
   |some kw=>
    obtain⟨b,ks,ws⟩:=kw
    rw[eh] at h3
    cases ek:keyN b y with
    |none=>simp only[ek] at h3;exact h3.elim
    |some k=>
     simp only[ek] at h3
     obtain⟨a',xs,ep,ea,g1,g2,g3,g4⟩:=fS R3 eh rx
     cases ea
     obtain⟨c,rfl,hc⟩:=gM ek ry
     refine⟨b,xs,ep,k,c,g1,g3,rfl,hc,?_⟩
     have hv:=eP (x:=k) (kvs:=kvN xs) (ks:=ks) (ws:=ws) (by unfold kvN;rw[List.map_map];exact g2) (by unfold kvN;rw[List.map_map];exact g4)
     cases e4:atK ks ws k with
     |none=>
      rw[e4] at hv h3
      rw[show valV (kvN xs) k=none from hv]
      exact Ps.pr (c:=cg X E) (r:=Rv X.K) (a:=z) h3 R3 r3
     |some w=>
      rw[e4] at hv h3
      obtain⟨v,hv,rv⟩:=hv
      rw[show valV (kvN xs) k=some v from hv]
      exact Ps.pr (c:=cg X E) (r:=Rv X.K) (a:=w) h3 R3 rv
end
end L2
namespace Q
open PySem L2
noncomputable def top (i:Nat):Stmt:=PySem.Challenge.pw_blockfall_k26_papers_told.main.body.getD i (.Pass ⟨0,0,0,0⟩)
noncomputable abbrev cp:Stmt:=top 1
noncomputable abbrev fZ:Stmt:=top 2
noncomputable abbrev d8:Stmt:=top 5
noncomputable abbrev bo:Stmt:=top 6
noncomputable abbrev cn:Stmt:=top 7
noncomputable abbrev d7:Stmt:=top 8
noncomputable abbrev aZ:Stmt:=top 9
noncomputable abbrev dH:Stmt:=top 10
noncomputable abbrev cq:Stmt:=top 12
noncomputable abbrev bM:Stmt:=top 13
noncomputable abbrev cu:Stmt:=top 14
noncomputable abbrev bu:Stmt:=top 15
noncomputable abbrev bJ:Stmt:=top 16
noncomputable abbrev bR:Stmt:=top 17
noncomputable abbrev bn:Stmt:=top 18
noncomputable abbrev bQ:Stmt:=top 19
noncomputable abbrev bL:Stmt:=top 20
noncomputable abbrev bz:Stmt:=top 21
noncomputable abbrev cr:Stmt:=top 22
noncomputable abbrev cS:Stmt:=top 23
noncomputable abbrev eR:Stmt:=top 24
def dM:Env'->M Fl:=(sSeq (sIf (mB (m2 eqW (m2 ixW (mVar 0) (mC (.int 0))) (mC (.str "go")))) (sRet (mTup (mCons (m2 ixW (mVar 0) (mC (.int 1))) mNil))) sNil) (sSeq (sIf (mB (m2 eqW (m2 ixW (mVar 0) (mC (.int 0))) (mC (.str "if")))) (sRet (mTup (mCons (m2 ixW (mVar 0) (mC (.int 4))) (mCons (m2 ixW (mVar 0) (mC (.int 5))) mNil)))) sNil) (sSeq (sIf (mB (m2 eqW (m2 ixW (mVar 0) (mC (.int 0))) (mC (.str "table")))) (sRet (m2 ixW (mVar 0) (mC (.int 2)))) sNil) (sRet (mTup mNil)))))
def cX:List W->M W:=runF 1 dM
def jG:Env'->M Fl:=(sSeq (sSet 1 (mNew (lenG mNil))) (sSeq (sFor (mSrcA (mCons (m2 ixW (mVar 0) (mC (.int 1))) mNil) enumL) (tgT [2,3]) (sFor (mSrcA (mCons (mCall (arW 1 cX) (mCons (m2 ixW (mVar 3) (mC (.int 2))) mNil)) mNil) enumT) (tgT [4,5]) (sEx (mMeth isL cG (mVar 1) (mCons (mTup (mCons (mVar 2) (mCons (mVar 4) (mCons (mVar 5) mNil)))) mNil))))) (sRet (m1 iceW (mVar 1)))))
def iB:List W->M W:=runF 6 jG
def gQ:Env'->M Fl:=(sSeq (sSet 2 jB) (sSeq (sFor (mSrcA (mCons (mCall (arW 1 iB) (mCons (mVar 0) mNil)) (mCons (mVar 1) mNil)) (srcZ false false)) (tgT [3,4]) (sSeq (sSet 5 (m2 ixW (m2 ixW (m2 ixW (mVar 0) (mC (.int 1))) (m2 ixW (mVar 3) (mC (.int 0)))) (mC (.int 2)))) (sIf (mB (m2 neW (m2 ixW (mVar 5) (mC (.int 0))) (mC (.str "table")))) (sSeq (sSet 6 (mKt (mCons (m2 ixW (mVar 3) (mC (.int 0))) (mCons (m2 ixW (mVar 3) (mC (.int 2))) mNil)))) (bv (mVar 2) (mVar 6) (m2 addW (mGetT (mVar 2) (mVar 6) (mC (.int 0))) (mVar 4)))) sNil))) (sRet (mVar 2))))
def fQ:List W->M W:=runF 7 gQ
def cR:Env'->M Fl:=(sSeq (sSet 1 (mTl (lenG (mCons (mTup (mCons (mC (.int 0)) mNil)) mNil)))) (sSeq (sFor (mSrcA (mCons (mC (.int 1)) (mCons (mVar 0) mNil)) rng2) (tgN 2) (sSet 1 (m2 addW (mVar 1) (mTl (mComp [] (mSrc (mVar 1) srcL) (tgN 0) mYes (m2 addW (mVar 0) (mTup (mCons (mVar 4) mNil))) 2))))) (sRet (mVar 1))))
def ck:List W->M W:=runF 3 cR
def eG:Env'->M Fl:=(sRet (mCall eU (mCons (mTl (mComp [] (mSrc (mVar 0) srcT) (tgN 0) (mB (m2 neW (mVar 0) (mVar 3))) (mVar 0) 2)) mNil)))
def cT:List W->M W:=runF 2 eG
def gP:Env'->M Fl:=(sSeq (sSet 1 (mNew (lenG (mCons (mC (keyW true (0,[0]))) mNil)))) (sSeq (sFor (mSrc (mCall (arW 1 ck) (mCons (mVar 0) mNil)) srcL) (tgN 2) (sFor (mSrc (m3 slW (mVar 2) (mPart (mC (.int 1))) aW) srcT) (tgN 3) (sEx (mMeth isL cG (mVar 1) (mCons (mTup (mCons (mVar 2) (mCons (mVar 3) mNil))) mNil))))) (sRet (m1 iceW (mVar 1)))))
def fP:List W->M W:=runF 4 gP
def bh:Env'->M Fl:=(sSeq (sIf (mB (m2 eqW (mTup (mCons (mVar 0) (mCons (mVar 1) mNil))) (mC (keyW true (0,[0]))))) (sRet (mC (.int 0))) sNil) (sSeq (sSet 4 (mCall (arW 2 cT) (mCons (mVar 0) (mCons (mVar 1) mNil)))) (sSeq (sSet 5 (mIf (mB (m2 eqW (mVar 4) (mTup (mCons (mC (.int 0)) mNil)))) (mVar 4) (m3 slW (mVar 4) (mPart (mC (.int 1))) aW))) (sRet (mCall (extW maxZ) (mCons (mTl (mComp [] (mSrc (mVar 5) srcT) (tgN 0) mYes (m2 addW (m2 ixN' (mVar 4) (mTup (mCons (mVar 6) (mCons (mVar 0) mNil)))) (mGetT (mVar 5) (mTup (mCons (mVar 0) (mCons (mVar 3) mNil))) (mC (.int 0)))) 2)) mNil))))))
def aT:List W->M W:=runF 6 bh
def gO:Env'->M Fl:=(sSeq (sSet 2 (mCall (arW 2 fQ) (mCons (mVar 0) (mCons (mVar 1) mNil)))) (sSeq (sSet 3 (jC true)) (sSeq (sFor (mSrc (mCall (arW 1 fP) (mCons (mCall lenW (mCons (m2 ixW (mVar 0) (mC (.int 1))) mNil)) mNil)) srcL) (tgT [4,5]) (fw (mVar 3) (mTup (mCons (mVar 4) (mCons (mVar 5) mNil))) (mCall (arW 4 aT) (mCons (mVar 4) (mCons (mVar 5) (mCons (mVar 3) (mCons (mVar 2) mNil))))))) (sRet (mCall sortW (mCons (mTl (mComp [] (mSrc (m1 iceW (mVar 3)) srcI) (tgT [0,1]) mYes (m2 addW (mVar 0) (mTup (mCons (mVar 1) mNil))) 3)) mNil))))))
def fN:List W->M W:=runF 6 gO
def dR:Env'->M Fl:=(sSeq (bv (mVar 0) (mC (.int 1)) (m2 addW (m2 ixW (mVar 0) (mC (.int 1))) (mC (.int 1)))) (sSeq (sSet 2 (m2 ixW (mVar 0) (mC (.int 0)))) (sSeq (sIf (mB (m2 geW (mVar 2) (m2 powW (mC (.int 10)) (mC (.int 18))))) (sSeq (bv (mVar 0) (mC (.int 0)) (m2 fdivW (mVar 2) (mVar 1))) (sRet (m2 modW (mVar 2) (mVar 1)))) sNil) (sSeq (sSet 3 (m2 modW (m2 addW (m2 addW (m2 mulW (mVar 2) (mC (.int 69621))) (m2 mulW (m2 ixW (mVar 0) (mC (.int 1))) (mC (.int 7919)))) (mC (.int 13))) (mC (.int 2147483647)))) (sSeq (sSet 3 (m2 modW (m2 mulW (mVar 3) (mVar 3)) (mC (.int 2147483629)))) (sRet (m2 modW (m2 fdivW (m2 modW (m2 addW (m2 mulW (mVar 3) (mC (.int 48271))) (m2 mulW (m2 ixW (mVar 0) (mC (.int 1))) (mC (.int 40692)))) (mC (.int 2147483587))) (mC (.int 8))) (mVar 1))))))))
def av:List W->M W:=runF 4 dR
def dQ:Env'->M Fl:=(sSeq (sIf (mB (m2 eqW (mCall lenW (mCons (mVar 0) mNil)) (mC (.int 0)))) (sRet (mTl (lenG (mCons (mNew (lenG (mCons (mC (.int 0)) (mCons (mC (.int 0)) mNil)))) mNil)))) sNil) (sRet (mTl (mComp [] (mSrc (m3 slW (mVar 0) aW (mPart (mC (.int 63)))) srcL) (tgN 0) mYes (mNew (lenG (mCons (mVar 0) (mCons (mC (.int 0)) mNil)))) 2))))
def cZ:List W->M W:=runF 1 dQ
def eJ:Env'->M Fl:=(sSeq (sSet 2 (mCall (arW 2 av) (mCons (mVar 0) (mCons (mC (.int 8)) mNil)))) (sSeq (sSet 3 (mCall (arW 2 av) (mCons (mVar 0) (mCons (mVar 1) mNil)))) (sSeq (sSet 4 (mCall (arW 2 av) (mCons (mVar 0) (mCons (mVar 1) mNil)))) (sSeq (sIf (mB (m2 eqW (mVar 2) (mC (.int 0)))) (sRet (mTup (mCons (mC (.str "stop")) mNil))) sNil) (sSeq (sIf (mB (m2 ltW (mVar 2) (mC (.int 3)))) (sRet (mTup (mCons (mC (.str "go")) (mCons (mVar 3) mNil)))) sNil) (sSeq (sIf (mB (m2 eqW (mVar 2) (mC (.int 7)))) (sRet (mTup (mCons (mC (.str "table")) (mCons (mTup (mCons (mC (.str "box")) (mCons (mC (.str "a")) mNil))) (mCons (mCall eU (mCons (mTl (mComp [] (mSrcA (mCons (m2 addW (mC (.int 1)) (mCall (arW 2 av) (mCons (mVar 0) (mCons (mC (.int 6)) mNil)))) mNil) rng1) (tgN 0) mYes (mCall (arW 2 av) (mCons (mVar 2) (mCons (mVar 3) mNil))) 2)) mNil)) mNil))))) sNil) (sSeq (sIf (mB (m2 eqW (mVar 2) (mC (.int 6)))) (sSet 4 (mVar 3)) sNil) (sRet (mTup (mCons (mC (.str "if")) (mCons (m2 ixW (mTl (lenG (mCons (mC (.str "<")) (mCons (mC (.str "=")) mNil)))) (mCall (arW 2 av) (mCons (mVar 0) (mCons (mC (.int 2)) mNil)))) (mCons (mTup (mCons (mC (.str "box")) (mCons (mC (.str "a")) mNil))) (mCons (mTup (mCons (mC (.str "number")) (mCons (mCall (arW 2 av) (mCons (mVar 0) (mCons (mC (.int 1000)) mNil))) mNil))) (mCons (mVar 3) (mCons (mVar 4) mNil)))))))))))))))
def cU:List W->M W:=runF 5 eJ
def cF:Env'->M Fl:=(sSeq (sSet 2 (mTl (lenG (mCons (mTl (lenG mNil)) (mCons (mTl (lenG (mCons (mTup (mCons (mC (.str "say")) (mCons (mTup (mCons (mC (.str "box")) (mCons (mC (.str "a")) mNil))) mNil))) mNil))) (mCons (mTl (lenG (mCons (mTup (mCons (mC (.str "ask")) (mCons (mC (.str "a")) mNil))) mNil))) (mCons (mTl (lenG (mCons (mTup (mCons (mC (.str "put")) (mCons (mC (.str "a")) (mCons (mTup (mCons (mC (.str "number")) (mCons (mC (.int 7)) mNil))) mNil)))) (mCons (mTup (mCons (mC (.str "ask")) (mCons (mC (.str "a")) mNil))) mNil)))) mNil))))))) (sSeq (sSet 3 (mNew (lenG mNil))) (sSeq (sFor (mSrcA (mCons (mVar 1) mNil) rng1) (tgN 4) (sEx (mMeth isL cG (mVar 3) (mCons (mTup (mCons (m2 addW (mC (.str "n")) (m2 ixW (mC (.str "abcdefghij")) (mVar 4))) (mCons (mTl (listL (mCons (m2 ixW (mVar 2) (mCall (arW 2 av) (mCons (mVar 0) (mCons (mC (.int 4)) mNil)))) mNil))) (mCons (mCall (arW 2 cU) (mCons (mVar 0) (mCons (mVar 1) mNil))) mNil)))) mNil)))) (sRet (mTup (mCons (mTl (lenG (mCons (mTup (mCons (mC (.str "a")) (mCons (mC (.int 3)) mNil))) mNil))) (mCons (m1 iceW (mVar 3)) mNil)))))))
def bH:List W->M W:=runF 5 cF
def dO:Env'->M Fl:=(sSeq (sSet 1 (mNew (lenG mNil))) (sSeq (sFor (mSrcA (mCons (mVar 0) mNil) enumL) (tgG [(tgN 2),(tgT [3,4,5])]) (sSeq (sSet 6 (mTl (lenG mNil))) (sSeq (sIf (mB (m2 eqW (m2 ixW (mVar 5) (mC (.int 0))) (mC (.str "go")))) (sSet 6 (mTl (lenG (mCons (m2 ixW (mVar 5) (mC (.int 1))) mNil)))) sNil) (sSeq (sIf (mB (m2 eqW (m2 ixW (mVar 5) (mC (.int 0))) (mC (.str "if")))) (sSet 6 (mTl (lenG (mCons (m2 ixW (mVar 5) (mC (.int 4))) (mCons (m2 ixW (mVar 5) (mC (.int 5))) mNil))))) sNil) (sSeq (sIf (mB (m2 eqW (m2 ixW (mVar 5) (mC (.int 0))) (mC (.str "table")))) (sSet 6 (mTl (listL (mCons (m2 ixW (mVar 5) (mC (.int 2))) mNil)))) sNil) (sEx (mMeth isL fR (mVar 1) (mCons (mTl (mComp [] (mSrcA (mCons (mVar 6) mNil) enumL) (tgT [0,1]) mYes (mTup (mCons (mVar 5) (mCons (mVar 0) (mCons (mVar 1) mNil)))) 3)) mNil)))))))) (sRet (m1 iceW (mVar 1)))))
def bO:List W->M W:=runF 7 dO
def dg:Env'->M Fl:=(sSeq (sIf (mB (m2 ltW (mVar 1) (mC (.int 3)))) (sRet (mCall (arW 2 av) (mCons (mVar 0) (mCons (m2 ixW (mTl (lenG (mCons (mC (.int 2)) (mCons (mC (.int 5)) (mCons (mC (.int 1000)) mNil))))) (mVar 1)) mNil)))) sNil) (sRet (m2 addW (m2 mulW (mCall (arW 2 av) (mCons (mVar 0) (mCons (m2 powW (mC (.int 10)) (mC (.int 9))) mNil))) (m2 powW (mC (.int 10)) (mC (.int 19)))) (mCall (arW 2 av) (mCons (mVar 0) (mCons (m2 powW (mC (.int 10)) (mC (.int 9))) mNil))))))
def cL:List W->M W:=runF 2 dg
def cQ:Env'->M Fl:=(sSeq (sSet 2 (mCall (arW 2 av) (mCons (m2 ixW (mVar 0) (mC (.int 0))) (mCons (mC (.int 4)) mNil)))) (sRet (mTl (mComp [] (mSrcA (mCons (mCall lenW (mCons (mCall (arW 1 bO) (mCons (mVar 1) mNil)) mNil)) mNil) rng1) (tgN 0) mYes (mCall (arW 2 cL) (mCons (m2 ixW (mVar 2) (m2 modW (mVar 0) (mCall lenW (mCons (mVar 2) mNil)))) (mCons (mVar 4) mNil))) 2))))
def cj:List W->M W:=runF 3 cQ
def df:Env'->M Fl:=(sSeq (sSet 2 jB) (sSeq (sFor (mSrcA (mCons (mCall (arW 1 bO) (mCons (mVar 0) mNil)) (mCons (mVar 1) mNil)) (srcZ false false)) (tgG [(tgT [3,4,5]),(tgN 6)]) (sIf (mB (m2 neW (m2 ixW (m2 ixW (m2 ixW (mVar 0) (mVar 3)) (mC (.int 2))) (mC (.int 0))) (mC (.str "table")))) (bv (mVar 2) (mKt (mCons (mVar 3) (mCons (mVar 5) mNil))) (m2 addW (mGetT (mVar 2) (mKt (mCons (mVar 3) (mCons (mVar 5) mNil))) (mC (.int 0))) (mVar 6))) sNil)) (sRet (mVar 2))))
def cK:List W->M W:=runF 7 df
def dP:Env'->M Fl:=(sSeq (sSet 1 (mTl (lenG (mCons (mTup (mCons (mC (.int 0)) mNil)) mNil)))) (sSeq (sFor (mSrcA (mCons (mC (.int 1)) (mCons (mVar 0) mNil)) rng2) (tgN 2) (sSet 1 (m2 addW (mVar 1) (mTl (mComp [] (mSrc (mVar 1) srcL) (tgN 0) mYes (m2 addW (mVar 0) (mTup (mCons (mVar 4) mNil))) 2))))) (sRet (m1 gW (mVar 1)))))
def cY:List W->M W:=runF 3 dP
def de:Env'->M Fl:=(sSeq (sSet 4 (mCall eU (mCons (mTl (mComp [] (mSrc (mVar 2) srcT) (tgN 0) (mB (m2 neW (mVar 0) (mVar 5))) (mVar 0) 2)) mNil))) (sSeq (sSet 5 (mNew (lenG mNil))) (sSeq (sFor (mSrc (mVar 4) srcT) (tgN 6) (sIf (mOr (mB (m2 neW (mVar 6) (mC (.int 0)))) (mB (m2 eqW (mCall lenW (mCons (mVar 4) mNil)) (mC (.int 1))))) (sEx (mMeth isL cG (mVar 5) (mCons (m2 addW (m2 ixN' (mVar 1) (mTup (mCons (mVar 4) (mCons (mVar 6) mNil)))) (mGetT (mVar 0) (mTup (mCons (mVar 6) (mCons (mVar 3) mNil))) (mC (.int 0)))) mNil))) sNil)) (sRet (mCall (extW maxZ) (mCons (mVar 5) mNil))))))
def cJ:List W->M W:=runF 7 de
def dS:Env'->M Fl:=(sSeq (sIf (mB (m2 eqW (mCall (arW 2 av) (mCons (mVar 0) (mCons (mC (.int 8)) mNil))) (mC (.int 0)))) (sRet (mC (.int 6))) sNil) (sRet (m2 addW (mC (.int 1)) (mCall (arW 2 av) (mCons (mVar 0) (mCons (mC (.int 5)) mNil))))))
def da:List W->M W:=runF 1 dS
def eI:Env'->M Fl:=(sSeq (sIf (mOr (mNot (mB (mCall isiW (mCons (mVar 0) (mCons (mC (.ty "tuple")) mNil))))) (mOr (mB (m2 neW (mCall lenW (mCons (mVar 0) mNil)) (mC (.int 3)))) (mNot (mB (mCall isiW (mCons (m2 ixW (mVar 0) (mC (.int 0))) (mCons (mC (.ty "tuple")) mNil))))))) (sRet (mC (.bl false))) sNil) (sSeq (sFor (mSrc (m2 addW (m2 ixW (mVar 0) (mC (.int 0))) (m3 slW (mVar 0) (mPart (mC (.int 1))) aW)) srcT) (tgN 1) (sIf (mOr (mNot (mB (mCall isiW (mCons (mVar 1) (mCons (mC (.ty "int")) mNil))))) (mB (mCall isiW (mCons (mVar 1) (mCons (mC (.ty "bool")) mNil))))) (sRet (mC (.bl false))) sNil)) (sRet (mC (.bl true)))))
def dy:List W->M W:=runF 2 eI
def mJ:Env'->M Fl:=(sSeq (sSet 1 (mCall (arW 1 cZ) (mCons (mVar 0) mNil))) (sSeq (sSet 2 (mCall (arW 2 bH) (mCons (m2 ixW (mVar 1) (mC (.int 0))) (mCons (mCall (arW 1 da) (mCons (m2 ixW (mVar 1) (mC (.int 0))) mNil)) mNil)))) (sSeq (sSet 3 (mCall (arW 2 cj) (mCons (mVar 1) (mCons (m2 ixW (mVar 2) (mC (.int 1))) mNil)))) (sSeq (sSet 4 (mTup (mCons (mTl (listL (mCons (m2 ixW (mVar 2) (mC (.int 0))) mNil))) (mCons (mTl (listL (mCons (m2 ixW (mVar 2) (mC (.int 1))) mNil))) mNil)))) (sSeq (sSet 5 (mTl (listL (mCons (mVar 3) mNil)))) (sSeq (sSet 6 (mCall (arW 2 fN) (mCons (mVar 4) (mCons (mVar 5) mNil)))) (sSeq (sIf (mOr (mNot (mB (mCall isiW (mCons (mVar 6) (mCons (mC (.ty "list")) mNil))))) (mOr (mNot (mB (mCall allW (mCons (mTl (mComp [] (mSrc (mVar 6) srcL) (tgN 0) mYes (mCall (arW 1 dy) (mCons (mVar 0) mNil)) 2)) mNil)))) (mB (m2 neW (mVar 6) (mCall sortW (mCons (mVar 6) mNil)))))) (sRet (mC (.bl false))) sNil) (sSeq (sSet 7 (jC true)) (sSeq (sFor (mSrc (mVar 6) srcL) (tgT [8,9,10]) (fw (mVar 7) (mTup (mCons (mVar 8) (mCons (mVar 9) mNil))) (mVar 10))) (sSeq (sSet 11 (mCall (arW 2 cK) (mCons (m2 ixW (mVar 2) (mC (.int 1))) (mCons (mVar 3) mNil)))) (sSeq (sIf (mB (m2 neW (mGetN (mVar 7) (mTup (mCons (mTup (mCons (mC (.int 0)) mNil)) (mCons (mC (.int 0)) mNil))) (mC (.int 1))) (mC (.int 0)))) (sRet (mC (.bl false))) sNil) (sSeq (sSet 12 (mC (.int 1))) (sSeq (sFor (mSrc (mCall (arW 1 cY) (mCons (mCall lenW (mCons (m2 ixW (mVar 2) (mC (.int 1))) mNil)) mNil)) srcL) (tgN 8) (sFor (mSrc (m3 slW (mVar 8) (mPart (mC (.int 1))) aW) srcT) (tgN 9) (sSeq (sSet 12 (m2 addW (mVar 12) (mC (.int 1)))) (sSeq (sIf (mB (m2 (inNW true) (mTup (mCons (mVar 8) (mCons (mVar 9) mNil))) (mVar 7))) (sRet (mC (.bl false))) sNil) (sIf (mB (m2 neW (m2 ixN' (mVar 7) (mTup (mCons (mVar 8) (mCons (mVar 9) mNil)))) (mCall (arW 4 cJ) (mCons (mVar 11) (mCons (mVar 7) (mCons (mVar 8) (mCons (mVar 9) mNil))))))) (sRet (mC (.bl false))) sNil))))) (sRet (mAndV (m2 eqW (mVar 12) (mCall lenW (mCons (mVar 6) mNil))) (mAndV (m2 eqW (mVar 4) (mVar 2)) (m2 eqW (mVar 5) (mVar 3))))))))))))))))))
def i6:List W->M W:=runF 13 mJ
section
variable {P:Program}{w:World}{K:PySem.W.Frag}{mg:Str->Option Value}{base:Heap}{f:Addr}{fd:FuncData}
theorem jV:FnScope ["end"] ["end"] (aj cp):=⟨rfl,rfl,rfl,by decide+kernel,rfl,by decide+kernel,by decide+kernel⟩
theorem j4 (F:Fun K "sides_of" "sides_of" cp f fd)(B:Binds K fd ["end"] [])(Mf:mg "sides_of"=some (.ref f)):CG P w K mg base 1 "sides_of" f fd ["end"] 1 cX:=by
 refine⟨bI (g:=dM) F jV rfl rfl rfl fun cdv A outer s H E hr=>?_,B,F.kp,Mf⟩
 have hu:=bG hr
 have hu6:=hr.units
 exact (ai (bw (aP cH (bB hu6) (aH hu (af 0) ah (fun _ _=>rfl)) aK (aN _)) (ao (aE (aA (ae (aH hu (af 0) ah (fun _ _=>rfl)) ag bm)))) aL)
  (ai (bw (aP cH (bB hu6) (aH hu (af 0) ah (fun _ _=>rfl)) aK (aN _)) (ao (aE (aA (ae (aH hu (af 0) ah (fun _ _=>rfl)) (ae (aH hu (af 0) ah (fun _ _=>rfl)) ag bm) bm)))) aL)
  (ai (bw (aP cH (bB hu6) (aH hu (af 0) ah (fun _ _=>rfl)) aK (aN _)) (ao (aE (aH hu (af 0) ah (fun _ _=>rfl)))) aL)
  (ao (aE (aA ag))))))
theorem sc_ways:FnScope ["program", "told", "place", "block", "side", "behind"] ["program"] (aj fZ):=⟨rfl,rfl,rfl,by decide+kernel,rfl,by decide+kernel,by decide+kernel⟩
theorem qY {a_sides_of:Addr}{d_sides_of:FuncData}(y_enumerate:mg "enumerate"=none)(C_sides_of:CG P w K mg base 1 "sides_of" a_sides_of d_sides_of ["end"] 1 cX)(F:Fun K "ways" "ways" fZ f fd)(B:Binds K fd ["program"] [])(Mf:mg "ways"=some (.ref f)):CG P w K mg base 2 "ways" f fd ["program"] 1 iB:=by
 refine⟨bI (g:=jG) F sc_ways rfl rfl rfl fun cdv A outer s H E hr=>?_,B,F.kp,Mf⟩
 have hu:=bG hr
 have hu6:=hr.units
 exact (ai (az (i:=1) sc_ways.nd rfl (Or.inl rfl) (fg (bf ag)))
  (ai (bF PassesOwn.never rfl (jz y_enumerate (ae (aH hu (af 0) ah (fun _ _=>rfl)) ag bm)) (cV rfl (aD (au (i:=2) sc_ways.nd rfl (Or.inl rfl)) (aD (au (i:=3) sc_ways.nd rfl (Or.inl rfl)) bV))) (dG 6 [2,3] (by decide)) (ao (bF PassesOwn.never rfl (pG y_enumerate (ae (aV (ps:=["end"]) C_sides_of (hr.mono (by omega)) (ae (aH hu (af 3) ah (fun _ _=>rfl)) ag bm) (he:=bm) (hpl:=ar)) ag dY)) (cV rfl (aD (au (i:=4) sc_ways.nd rfl (Or.inl rfl)) (aD (au (i:=5) sc_ways.nd rfl (Or.inl rfl)) bV))) (dG 6 [4,5] (by decide)) (ao (fH (eD (af 1) (ae (aA (ae (af 2) (ae (af 4) (ae (af 5) ag ak) ak) ak)) ag eQ)))))))
  (ao (aE (ip (af 1))))))
theorem sc_gains:FnScope ["program", "counted", "gained", "way", "count", "end", "neighbours"] ["program", "counted"] (aj d8):=⟨rfl,rfl,rfl,by decide+kernel,rfl,by decide+kernel,by decide+kernel⟩
theorem pj {a_ways:Addr}{d_ways:FuncData}(y_zip:mg "zip"=none)(C_ways:CG P w K mg base 2 "ways" a_ways d_ways ["program"] 1 iB)(F:Fun K "gains" "gains" d8 f fd)(B:Binds K fd ["program", "counted"] [])(Mf:mg "gains"=some (.ref f)):CG P w K mg base 3 "gains" f fd ["program", "counted"] 2 fQ:=by
 refine⟨bI (g:=gQ) F sc_gains rfl rfl rfl fun cdv A outer s H E hr=>?_,B,F.kp,Mf⟩
 have hu:=bG hr
 have hu6:=hr.units
 exact (ai (az (i:=2) sc_gains.nd rfl (Or.inl rfl) kE)
  (ai (bF PassesOwn.never rfl (pC false false y_zip (ae (aV (ps:=["program"]) C_ways (hr.mono (by omega)) (ae (af 0) ag ak) (he:=ak) (hpl:=ar)) (ae (af 1) ag ak) dY)) (cV rfl (aD (au (i:=3) sc_gains.nd rfl (Or.inl rfl)) (aD (au (i:=4) sc_gains.nd rfl (Or.inl rfl)) bV))) (dG 7 [3,4] (by decide)) (ai (az (i:=5) sc_gains.nd rfl (Or.inl rfl) (aH hu (aH hu (aH hu (af 0) ah (fun _ _=>rfl)) (aH hu (af 3) ah (fun _ _=>rfl)) (fun _ _=>rfl)) ah (fun _ _=>rfl)))
  (ao (bw (aP fE (dJ hu6) (aH hu (af 5) ah (fun _ _=>rfl)) aK (aN _)) (ai (az (i:=6) sc_gains.nd rfl (Or.inl rfl) (pI (ae (aH hu (af 3) ah (fun _ _=>rfl)) (ae (aH hu (af 3) ah (fun _ _=>rfl)) ag bm) bm)))
  (ao (fG hu (af 2) (af 6) (bq (gK hu (af 2) (af 6) ah) (af 4))))) aL))))
  (ao (aE (af 2)))))
theorem sc_block_sets:FnScope ["many", "told", "place"] ["many"] (aj bo):=⟨rfl,rfl,rfl,by decide+kernel,rfl,by decide+kernel,by decide+kernel⟩
theorem gF:((["blocks", ".0"]:List Str)++(["many", "told", "place"]:List Str).map (hid ["blocks", ".0"])).Nodup:=by decide+kernel
theorem iL (y_range:mg "range"=none)(F:Fun K "block_sets" "block_sets" bo f fd)(B:Binds K fd ["many"] [])(Mf:mg "block_sets"=some (.ref f)):CG P w K mg base 1 "block_sets" f fd ["many"] 1 ck:=by
 refine⟨bI (g:=cR) F sc_block_sets rfl rfl rfl fun cdv A outer s H E hr=>?_,B,F.kp,Mf⟩
 have hu:=bG hr
 have hu6:=hr.units
 exact (ai (az (i:=1) sc_block_sets.nd rfl (Or.inl rfl) (ba (bf (ae (aA (ae ah ag aS)) ag eQ))))
  (ai (bF PassesOwn.never rfl (iY rfl y_range (ae ah (ae (af 0) ag ak) aS)) (au (i:=2) sc_block_sets.nd rfl (Or.inr rfl)) (aU 3 2 (by decide)) (ao (az (i:=1) sc_block_sets.nd rfl (Or.inl rfl) (bq (af 1) (ba (bY rfl (ls:=["blocks", ".0"]) (.of (aj bo)) (dc (af 1)) (fun _ _ _ _=>(au (i:=0) gF rfl (Or.inl rfl) (.inr rfl))) (aU 2 0 (by decide)) (fun _ _ _ _=>cP) (fun _ _ _ _=>(bq (af 0) (aA (ae (af 4) ag ak)))) trivial))))))
  (ao (aE (af 1)))))
theorem lm:FnScope ["blocks", "place"] ["blocks", "place"] (aj cn):=⟨rfl,rfl,rfl,by decide+kernel,rfl,by decide+kernel,by decide+kernel⟩
theorem jw:((["block", ".0"]:List Str)++(["blocks", "place"]:List Str).map (hid ["block", ".0"])).Nodup:=by decide+kernel
theorem lA (y_tuple:mg "tuple"=none)(F:Fun K "without" "without" cn f fd)(B:Binds K fd ["blocks", "place"] [])(Mf:mg "without"=some (.ref f)):CG P w K mg base 1 "without" f fd ["blocks", "place"] 2 cT:=by
 refine⟨bI (g:=eG) F lm rfl rfl rfl fun cdv A outer s H E hr=>?_,B,F.kp,Mf⟩
 have hu:=bG hr
 have hu6:=hr.units
 exact (ao (aE (im y_tuple (ae (ba (bY rfl (ls:=["block", ".0"]) (.of (aj cn)) (eY (af 0)) (fun _ _ _ _=>(au (i:=0) jw rfl (Or.inl rfl) (.inr rfl))) (aU 2 0 (by decide)) (fun _ _ _ _=>(ml (aP fE (dJ hu6) (af 0) (af 3) (aN _)))) (fun _ _ _ _=>(af 0)) trivial)) ag gB) (he:=gB) (hpl:=ar))))
theorem sc_pairs:FnScope ["many", "told", "blocks", "last"] ["many"] (aj d7):=⟨rfl,rfl,rfl,by decide+kernel,rfl,by decide+kernel,by decide+kernel⟩
theorem pi {a_block_sets:Addr}{d_block_sets:FuncData}{c_FIRST_PAIR e_FIRST_PAIR:Addr}(m_FIRST_PAIR:mg "FIRST_PAIR"=some (.ref c_FIRST_PAIR))(q_FIRST_PAIR: ∀H,SqT K H c_FIRST_PAIR [.ref e_FIRST_PAIR,.int 0])(r_FIRST_PAIR: ∀H,SqT K H e_FIRST_PAIR (([0]:List Int).map V.int))(C_block_sets:CG P w K mg base 1 "block_sets" a_block_sets d_block_sets ["many"] 1 ck)(F:Fun K "pairs" "pairs" d7 f fd)(B:Binds K fd ["many"] [])(Mf:mg "pairs"=some (.ref f)):CG P w K mg base 2 "pairs" f fd ["many"] 1 fP:=by
 refine⟨bI (g:=gP) F sc_pairs rfl rfl rfl fun cdv A outer s H E hr=>?_,B,F.kp,Mf⟩
 have hu:=bG hr
 have hu6:=hr.units
 exact (ai (az (i:=1) sc_pairs.nd rfl (Or.inl rfl) (fg (bf (ae (kD (i:=0) (ks:=[0]) m_FIRST_PAIR q_FIRST_PAIR r_FIRST_PAIR) ag ak))))
  (ai (bF PassesOwn.never rfl (dc (aV (ps:=["many"]) C_block_sets (hr.mono (by omega)) (ae (af 0) ag ak) (he:=ak) (hpl:=ar))) (au (i:=2) sc_pairs.nd rfl (Or.inl rfl)) (aU 4 2 (by decide)) (ao (bF PassesOwn.never rfl (eY (kB (af 2) (fI ah) fJ)) (au (i:=3) sc_pairs.nd rfl (Or.inl rfl)) (aU 4 3 (by decide)) (ao (fH (eD (af 1) (ae (aA (ae (af 2) (ae (af 3) ag ak) ak)) ag eQ)))))))
  (ao (aE (ip (af 1))))))
theorem sc_least_number:FnScope ["blocks", "last", "numbers", "gained", "rest", "lasts"] ["blocks", "last", "numbers", "gained"] (aj aZ):=⟨rfl,rfl,rfl,by decide+kernel,rfl,by decide+kernel,by decide+kernel⟩
theorem fF:((["place", ".0"]:List Str)++(["blocks", "last", "numbers", "gained", "rest", "lasts"]:List Str).map (hid ["place", ".0"])).Nodup:=by decide+kernel
theorem gD {a_without:Addr}{d_without:FuncData}{c_FIRST_PAIR e_FIRST_PAIR:Addr}(y_max:mg "max"=none)(m_FIRST_PAIR:mg "FIRST_PAIR"=some (.ref c_FIRST_PAIR))(q_FIRST_PAIR: ∀H,SqT K H c_FIRST_PAIR [.ref e_FIRST_PAIR,.int 0])(r_FIRST_PAIR: ∀H,SqT K H e_FIRST_PAIR (([0]:List Int).map V.int))(C_without:CG P w K mg base 1 "without" a_without d_without ["blocks", "place"] 2 cT)(F:Fun K "least_number" "least_number" aZ f fd)(B:Binds K fd ["blocks", "last", "numbers", "gained"] [])(Mf:mg "least_number"=some (.ref f)):CG P w K mg base 2 "least_number" f fd ["blocks", "last", "numbers", "gained"] 4 aT:=by
 refine⟨bI (g:=bh) F sc_least_number rfl rfl rfl fun cdv A outer s H E hr=>?_,B,F.kp,Mf⟩
 have hu:=bG hr
 have hu6:=hr.units
 exact (ai (bw (aP cH (bB hu6) (aA (ae (af 0) (ae (af 1) ag ak) ak)) (kD (i:=0) (ks:=[0]) m_FIRST_PAIR q_FIRST_PAIR r_FIRST_PAIR) (aN _)) (ao (aE ah)) aL)
  (ai (az (i:=4) sc_least_number.nd rfl (Or.inr rfl) (aV (ps:=["blocks", "place"]) C_without (hr.mono (by omega)) (ae (af 0) (ae (af 1) ag ak) ak) (he:=ak) (hpl:=(ay ak ar))))
  (ai (az (i:=5) sc_least_number.nd rfl (Or.inl rfl) (pJ (aP cH (bB hu6) (af 4) (aA (ae ah ag aS)) (aN _)) (af 4) (kB (af 4) (fI ah) fJ)))
  (ao (aE (mn rfl y_max (ae (ba (bY rfl (ls:=["place", ".0"]) (.of (aj aZ)) (eY (af 5)) (fun _ _ _ _=>(au (i:=0) fF rfl (Or.inl rfl) (.inr rfl))) (aU 2 0 (by decide)) (fun _ _ _ _=>cP) (fun _ _ _ _=>(bq (lG hu6 (af 4) (aA (ae (af 6) (ae (af 0) ag ak) ak)) (fun _ _=>rfl)) (gK hu (af 5) (aA (ae (af 0) (ae (af 3) ag ak) ak)) ah))) trivial)) ag gB)))))))
theorem sc_paper:FnScope ["program", "counted", "gained", "numbers", "blocks", "last"] ["program", "counted"] (aj dH):=⟨rfl,rfl,rfl,by decide+kernel,rfl,by decide+kernel,by decide+kernel⟩
theorem ig:((["pair", "number", ".0"]:List Str)++(["program", "counted", "gained", "numbers", "blocks", "last"]:List Str).map (hid ["pair", "number", ".0"])).Nodup:=by decide+kernel
theorem ph {a_gains:Addr}{d_gains:FuncData}{a_pairs:Addr}{d_pairs:FuncData}{a_least_number:Addr}{d_least_number:FuncData}(y_len:mg "len"=none)(y_sorted:mg "sorted"=none)(C_gains:CG P w K mg base 3 "gains" a_gains d_gains ["program", "counted"] 2 fQ)(C_pairs:CG P w K mg base 2 "pairs" a_pairs d_pairs ["many"] 1 fP)(C_least_number:CG P w K mg base 2 "least_number" a_least_number d_least_number ["blocks", "last", "numbers", "gained"] 4 aT)(F:Fun K "paper" "paper" dH f fd)(B:Binds K fd ["program", "counted"] [])(Mf:mg "paper"=some (.ref f)):CG P w K mg base 4 "paper" f fd ["program", "counted"] 2 fN:=by
 refine⟨bI (g:=gO) F sc_paper rfl rfl rfl fun cdv A outer s H E hr=>?_,B,F.kp,Mf⟩
 have hu:=bG hr
 have hu6:=hr.units
 exact (ai (az (i:=2) sc_paper.nd rfl (Or.inl rfl) (aV (ps:=["program", "counted"]) C_gains (hr.mono (by omega)) (ae (af 0) (ae (af 1) ag ak) ak) (he:=ak) (hpl:=(ay ak ar))))
  (ai (az (i:=3) sc_paper.nd rfl (Or.inl rfl) (kF true))
  (ai (bF PassesOwn.never rfl (dc (aV (ps:=["many"]) C_pairs (hr.mono (by omega)) (ae (dZ y_len (ae (aH hu (af 0) ah (fun _ _=>rfl)) ag bm) (he:=bm) (hpl:=ar)) ag dY) (he:=dY) (hpl:=ar))) (cV rfl (aD (au (i:=4) sc_paper.nd rfl (Or.inl rfl)) (aD (au (i:=5) sc_paper.nd rfl (Or.inl rfl)) bV))) (dG 6 [4,5] (by decide)) (ao (iX hu6 (af 3) (aA (ae (af 4) (ae (af 5) ag ak) ak)) (aV (ps:=["blocks", "last", "numbers", "gained"]) C_least_number (hr.mono (by omega)) (ae (af 4) (ae (af 5) (ae (af 3) (ae (af 2) ag ak) ak) ak) ak) (he:=ak) (hpl:=(ay ak (ay ak (ay ak ar))))))))
  (ao (aE (iZ hu6 y_sorted (ae (ba (bY rfl (ls:=["pair", "number", ".0"]) (.of (aj dH)) (pE (ip (af 3))) (fun _ _ _ _=>(cV rfl (aD (au (i:=0) ig rfl (Or.inl rfl) (.inr rfl)) (aD (au (i:=1) ig rfl (Or.inl rfl) (.inr rfl)) bV)))) (dG 3 [0,1] (by decide)) (fun _ _ _ _=>cP) (fun _ _ _ _=>(bq (af 0) (aA (ae (af 1) ag ak)))) trivial)) ag gB) (he:=gB) (hpl:=ar)))))))
theorem sc_law_next:FnScope ["pot", "many", "cell", "stir"] ["pot", "many"] (aj cq):=⟨rfl,rfl,rfl,by decide+kernel,rfl,by decide+kernel,by decide+kernel⟩
theorem j8 (F:Fun K "_law_next" "_law_next" cq f fd)(B:Binds K fd ["pot", "many"] [])(Mf:mg "_law_next"=some (.ref f)):CG P w K mg base 1 "_law_next" f fd ["pot", "many"] 2 av:=by
 refine⟨bI (g:=dR) F sc_law_next rfl rfl rfl fun cdv A outer s H E hr=>?_,B,F.kp,Mf⟩
 have hu:=bG hr
 have hu6:=hr.units
 exact (ai (fG hu (af 0) ah (bq (aH hu (af 0) ah (fun _ _=>rfl)) ah))
  (ai (az (i:=2) sc_law_next.nd rfl (Or.inl rfl) (aH hu (af 0) ah (fun _ _=>rfl)))
  (ai (bw (aP uH sZ (af 2) (jA ah ah) (aN _)) (ai (fG hu (af 0) ah (mo (af 2) (af 1)))
  (ao (aE (gp (af 2) (af 1))))) aL)
  (ai (az (i:=3) sc_law_next.nd rfl (Or.inl rfl) (gp (bq (bq (gm (af 2) ah) (gm (aH hu (af 0) ah (fun _ _=>rfl)) ah)) ah) ah))
  (ai (az (i:=3) sc_law_next.nd rfl (Or.inl rfl) (gp (gm (af 3) (af 3)) ah))
  (ao (aE (gp (mo (gp (bq (gm (af 3) ah) (gm (aH hu (af 0) ah (fun _ _=>rfl)) ah)) ah) ah) (af 1)))))))))
theorem jW:FnScope ["script"] ["script"] (aj bM):=⟨rfl,rfl,rfl,by decide+kernel,rfl,by decide+kernel,by decide+kernel⟩
theorem iN:((["cell", ".0"]:List Str)++(["script"]:List Str).map (hid ["cell", ".0"])).Nodup:=by decide+kernel
theorem j7 (y_len:mg "len"=none)(F:Fun K "_law_pots" "_law_pots" bM f fd)(B:Binds K fd ["script"] [])(Mf:mg "_law_pots"=some (.ref f)):CG P w K mg base 1 "_law_pots" f fd ["script"] 1 cZ:=by
 refine⟨bI (g:=dQ) F jW rfl rfl rfl fun cdv A outer s H E hr=>?_,B,F.kp,Mf⟩
 have hu:=bG hr
 have hu6:=hr.units
 exact (ai (bw (aP cH (bB hu6) (dZ y_len (ae (af 0) ag ak) (he:=ak) (hpl:=ar)) ah (aN _)) (ao (aE (ba (bf (ae (fg (bf (ae ah (ae ah ag aS) aS))) ag ni))))) aL)
  (ao (aE (ba (bY rfl (ls:=["cell", ".0"]) (.of (aj bM)) (dc (kB (af 0) fJ (fI ah))) (fun _ _ _ _=>(au (i:=0) iN rfl (Or.inl rfl) (.inr rfl))) (aU 2 0 (by decide)) (fun _ _ _ _=>cP) (fun _ _ _ _=>(fg (bf (ae (af 0) (ae ah ag aS) ak)))) trivial)))))
theorem sc_law_end:FnScope ["pot", "many", "kind", "x", "y"] ["pot", "many"] (aj cu):=⟨rfl,rfl,rfl,by decide+kernel,rfl,by decide+kernel,by decide+kernel⟩
theorem jx:((["k", ".0"]:List Str)++(["pot", "many", "kind", "x", "y"]:List Str).map (hid ["k", ".0"])).Nodup:=by decide+kernel
theorem lC {a_law_next:Addr}{d_law_next:FuncData}(y_range:mg "range"=none)(y_tuple:mg "tuple"=none)(C_law_next:CG P w K mg base 1 "_law_next" a_law_next d_law_next ["pot", "many"] 2 av)(F:Fun K "_law_end" "_law_end" cu f fd)(B:Binds K fd ["pot", "many"] [])(Mf:mg "_law_end"=some (.ref f)):CG P w K mg base 2 "_law_end" f fd ["pot", "many"] 2 cU:=by
 refine⟨bI (g:=eJ) F sc_law_end rfl rfl rfl fun cdv A outer s H E hr=>?_,B,F.kp,Mf⟩
 have hu:=bG hr
 have hu6:=hr.units
 exact (ai (az (i:=2) sc_law_end.nd rfl (Or.inl rfl) (aV (ps:=["pot", "many"]) C_law_next (hr.mono (by omega)) (ae (af 0) (ae ah ag aS) ak) (he:=ak) (hpl:=(ay aS ar))))
  (ai (az (i:=3) sc_law_end.nd rfl (Or.inl rfl) (aV (ps:=["pot", "many"]) C_law_next (hr.mono (by omega)) (ae (af 0) (ae (af 1) ag ak) ak) (he:=ak) (hpl:=(ay ak ar))))
  (ai (az (i:=4) sc_law_end.nd rfl (Or.inl rfl) (aV (ps:=["pot", "many"]) C_law_next (hr.mono (by omega)) (ae (af 0) (ae (af 1) ag ak) ak) (he:=ak) (hpl:=(ay ak ar))))
  (ai (bw (aP cH (bB hu6) (af 2) ah (aN _)) (ao (aE (aA (ae aK ag aS)))) aL)
  (ai (bw (aP sd o8 (af 2) ah (aN _)) (ao (aE (aA (ae aK (ae (af 3) ag ak) aS)))) aL)
  (ai (bw (aP cH (bB hu6) (af 2) ah (aN _)) (ao (aE (aA (ae aK (ae (aA (ae aK (ae aK ag aS) aS)) (ae (im y_tuple (ae (ba (bY rfl (ls:=["k", ".0"]) (.of (aj cu)) (gj rfl y_range (ae (bq ah (aV (ps:=["pot", "many"]) C_law_next (hr.mono (by omega)) (ae (af 0) (ae ah ag aS) ak) (he:=ak) (hpl:=(ay aS ar)))) ag lh)) (fun _ _ _ _=>(au (i:=0) jx rfl (Or.inl rfl) (.inr rfl))) (aU 2 0 (by decide)) (fun _ _ _ _=>cP) (fun _ _ _ _=>(aV (ps:=["pot", "many"]) C_law_next (hr.mono (by omega)) (ae (af 2) (ae (af 3) ag ak) ak) (he:=ak) (hpl:=(ay ak ar)))) trivial)) ag gB) (he:=gB) (hpl:=ar)) ag dY) eQ) aS)))) aL)
  (ai (bw (aP cH (bB hu6) (af 2) ah (aN _)) (ao (az (i:=4) sc_law_end.nd rfl (Or.inl rfl) (af 3))) aL)
  (ao (aE (aA (ae aK (ae (aH hu (ba (bf (ae aK (ae aK ag aS) aS))) (aV (ps:=["pot", "many"]) C_law_next (hr.mono (by omega)) (ae (af 0) (ae ah ag aS) ak) (he:=ak) (hpl:=(ay aS ar))) (fun _ _=>rfl)) (ae (aA (ae aK (ae aK ag aS) aS)) (ae (aA (ae aK (ae (aV (ps:=["pot", "many"]) C_law_next (hr.mono (by omega)) (ae (af 0) (ae ah ag aS) ak) (he:=ak) (hpl:=(ay aS ar))) ag dY) aS)) (ae (af 3) (ae (af 4) ag ak) ak) eQ) eQ) bm) aS)))))))))))
theorem sc_law_program:FnScope ["pot", "many", "some", "blocks", "k"] ["pot", "many"] (aj bu):=⟨rfl,rfl,rfl,by decide+kernel,rfl,by decide+kernel,by decide+kernel⟩
theorem hZ {a_law_end:Addr}{d_law_end:FuncData}{a_law_next:Addr}{d_law_next:FuncData}(y_list:mg "list"=none)(y_range:mg "range"=none)(C_law_end:CG P w K mg base 2 "_law_end" a_law_end d_law_end ["pot", "many"] 2 cU)(C_law_next:CG P w K mg base 1 "_law_next" a_law_next d_law_next ["pot", "many"] 2 av)(F:Fun K "_law_program" "_law_program" bu f fd)(B:Binds K fd ["pot", "many"] [])(Mf:mg "_law_program"=some (.ref f)):CG P w K mg base 3 "_law_program" f fd ["pot", "many"] 2 bH:=by
 refine⟨bI (g:=cF) F sc_law_program rfl rfl rfl fun cdv A outer s H E hr=>?_,B,F.kp,Mf⟩
 have hu:=bG hr
 have hu6:=hr.units
 exact (ai (az (i:=2) sc_law_program.nd rfl (Or.inl rfl) (ba (bf (ae (ba (bf ag)) (ae (ba (bf (ae (aA (ae aK (ae (aA (ae aK (ae aK ag aS) aS)) ag eQ) aS)) ag eQ))) (ae (ba (bf (ae (aA (ae aK (ae aK ag aS) aS)) ag eQ))) (ae (ba (bf (ae (aA (ae aK (ae aK (ae (aA (ae aK (ae ah ag aS) aS)) ag eQ) aS) aS)) (ae (aA (ae aK (ae aK ag aS) aS)) ag eQ) eQ))) ag ni) ni) ni) ni))))
  (ai (az (i:=3) sc_law_program.nd rfl (Or.inl rfl) (fg (bf ag)))
  (ai (bF PassesOwn.never rfl (gj rfl y_range (ae (af 1) ag ak)) (au (i:=4) sc_law_program.nd rfl (Or.inl rfl)) (aU 5 4 (by decide)) (ao (fH (eD (af 3) (ae (aA (ae (bq aK (aH hu aK (af 4) (fun _ _=>rfl))) (ae (ba (fK y_list (ae (aH hu (af 2) (aV (ps:=["pot", "many"]) C_law_next (hr.mono (by omega)) (ae (af 0) (ae ah ag aS) ak) (he:=ak) (hpl:=(ay aS ar))) (fun _ _=>rfl)) ag bm) (he:=bm) (hpl:=ar))) (ae (aV (ps:=["pot", "many"]) C_law_end (hr.mono (by omega)) (ae (af 0) (ae (af 1) ag ak) ak) (he:=ak) (hpl:=(ay ak ar))) ag dY) dY) lh)) ag eQ)))))
  (ao (aE (aA (ae (ba (bf (ae (aA (ae aK (ae ah ag aS) aS)) ag eQ))) (ae (ip (af 3)) ag ak) ni)))))))
theorem sc_law_ways:FnScope ["blocks", "found", "k", "name", "statements", "end", "tos"] ["blocks"] (aj bJ):=⟨rfl,rfl,rfl,by decide+kernel,rfl,by decide+kernel,by decide+kernel⟩
theorem eT:((["side", "to", ".0"]:List Str)++(["blocks", "found", "k", "name", "statements", "end", "tos"]:List Str).map (hid ["side", "to", ".0"])).Nodup:=by decide+kernel
theorem j5 (y_enumerate:mg "enumerate"=none)(y_list:mg "list"=none)(F:Fun K "_law_ways" "_law_ways" bJ f fd)(B:Binds K fd ["blocks"] [])(Mf:mg "_law_ways"=some (.ref f)):CG P w K mg base 1 "_law_ways" f fd ["blocks"] 1 bO:=by
 refine⟨bI (g:=dO) F sc_law_ways rfl rfl rfl fun cdv A outer s H E hr=>?_,B,F.kp,Mf⟩
 have hu:=bG hr
 have hu6:=hr.units
 exact (ai (az (i:=1) sc_law_ways.nd rfl (Or.inl rfl) (fg (bf ag)))
  (ai (bF PassesOwn.never rfl (jz y_enumerate (ae (af 0) ag ak)) (cV rfl (aD (au (i:=2) sc_law_ways.nd rfl (Or.inr rfl)) (aD (cV rfl (aD (au (i:=3) sc_law_ways.nd rfl (Or.inl rfl)) (aD (au (i:=4) sc_law_ways.nd rfl (Or.inl rfl)) (aD (au (i:=5) sc_law_ways.nd rfl (Or.inl rfl)) bV)))) bV))) (lY (fq (aU 7 2 (by decide)) (fq (dG 7 [3,4,5] (by decide)) lX)) rfl) (ai (az (i:=6) sc_law_ways.nd rfl (Or.inl rfl) (ba (bf ag)))
  (ai (bw (aP cH (bB hu6) (aH hu (af 5) ah (fun _ _=>rfl)) aK (aN _)) (ao (az (i:=6) sc_law_ways.nd rfl (Or.inl rfl) (ba (bf (ae (aH hu (af 5) ah (fun _ _=>rfl)) ag bm))))) aL)
  (ai (bw (aP cH (bB hu6) (aH hu (af 5) ah (fun _ _=>rfl)) aK (aN _)) (ao (az (i:=6) sc_law_ways.nd rfl (Or.inl rfl) (ba (bf (ae (aH hu (af 5) ah (fun _ _=>rfl)) (ae (aH hu (af 5) ah (fun _ _=>rfl)) ag bm) bm))))) aL)
  (ai (bw (aP cH (bB hu6) (aH hu (af 5) ah (fun _ _=>rfl)) aK (aN _)) (ao (az (i:=6) sc_law_ways.nd rfl (Or.inl rfl) (ba (fK y_list (ae (aH hu (af 5) ah (fun _ _=>rfl)) ag bm) (he:=bm) (hpl:=ar))))) aL)
  (ao (fH (nI (af 1) (ae (ba (bY rfl (ls:=["side", "to", ".0"]) (.of (aj bJ)) (jz y_enumerate (ae (af 6) ag ak)) (fun _ _ _ _=>(cV rfl (aD (au (i:=0) eT rfl (Or.inl rfl) (.inr rfl)) (aD (au (i:=1) eT rfl (Or.inl rfl) (.inr rfl)) bV)))) (dG 3 [0,1] (by decide)) (fun _ _ _ _=>cP) (fun _ _ _ _=>(aA (ae (af 5) (ae (af 0) (ae (af 1) ag ak) ak) ak))) trivial)) ag gB)))))))))
  (ao (aE (ip (af 1))))))
theorem jf:FnScope ["pot", "size"] ["pot", "size"] (aj bR):=⟨rfl,rfl,rfl,by decide+kernel,rfl,by decide+kernel,by decide+kernel⟩
theorem jr {a_law_next:Addr}{d_law_next:FuncData}(C_law_next:CG P w K mg base 1 "_law_next" a_law_next d_law_next ["pot", "many"] 2 av)(F:Fun K "_law_count" "_law_count" bR f fd)(B:Binds K fd ["pot", "size"] [])(Mf:mg "_law_count"=some (.ref f)):CG P w K mg base 2 "_law_count" f fd ["pot", "size"] 2 cL:=by
 refine⟨bI (g:=dg) F jf rfl rfl rfl fun cdv A outer s H E hr=>?_,B,F.kp,Mf⟩
 have hu:=bG hr
 have hu6:=hr.units
 exact (ai (bw (aP sd o8 (af 1) ah (aN _)) (ao (aE (aV (ps:=["pot", "many"]) C_law_next (hr.mono (by omega)) (ae (af 0) (ae (aH hu (ba (bf (ae ah (ae ah (ae ah ag aS) aS) aS))) (af 1) (fun _ _=>rfl)) ag bm) ak) (he:=ak) (hpl:=(ay bm ar))))) aL)
  (ao (aE (bq (gm (aV (ps:=["pot", "many"]) C_law_next (hr.mono (by omega)) (ae (af 0) (ae (jA ah ah) ag lh) ak) (he:=ak) (hpl:=(ay lh ar))) (jA ah ah)) (aV (ps:=["pot", "many"]) C_law_next (hr.mono (by omega)) (ae (af 0) (ae (jA ah ah) ag lh) ak) (he:=ak) (hpl:=(ay lh ar)))))))
theorem sc_law_counts:FnScope ["pots", "blocks", "size"] ["pots", "blocks"] (aj bn):=⟨rfl,rfl,rfl,by decide+kernel,rfl,by decide+kernel,by decide+kernel⟩
theorem gE:((["k", ".0"]:List Str)++(["pots", "blocks", "size"]:List Str).map (hid ["k", ".0"])).Nodup:=by decide+kernel
theorem iK {a_law_next:Addr}{d_law_next:FuncData}{a_law_ways:Addr}{d_law_ways:FuncData}{a_law_count:Addr}{d_law_count:FuncData}(y_len:mg "len"=none)(y_range:mg "range"=none)(C_law_next:CG P w K mg base 1 "_law_next" a_law_next d_law_next ["pot", "many"] 2 av)(C_law_ways:CG P w K mg base 1 "_law_ways" a_law_ways d_law_ways ["blocks"] 1 bO)(C_law_count:CG P w K mg base 2 "_law_count" a_law_count d_law_count ["pot", "size"] 2 cL)(F:Fun K "_law_counts" "_law_counts" bn f fd)(B:Binds K fd ["pots", "blocks"] [])(Mf:mg "_law_counts"=some (.ref f)):CG P w K mg base 3 "_law_counts" f fd ["pots", "blocks"] 2 cj:=by
 refine⟨bI (g:=cQ) F sc_law_counts rfl rfl rfl fun cdv A outer s H E hr=>?_,B,F.kp,Mf⟩
 have hu:=bG hr
 have hu6:=hr.units
 exact (ai (az (i:=2) sc_law_counts.nd rfl (Or.inr rfl) (aV (ps:=["pot", "many"]) C_law_next (hr.mono (by omega)) (ae (aH hu (af 0) ah (fun _ _=>rfl)) (ae ah ag aS) bm) (he:=bm) (hpl:=(ay aS ar))))
  (ao (aE (ba (bY rfl (ls:=["k", ".0"]) (.of (aj bn)) (gj rfl y_range (ae (dZ y_len (ae (aV (ps:=["blocks"]) C_law_ways (hr.mono (by omega)) (ae (af 1) ag ak) (he:=ak) (hpl:=ar)) ag dY) (he:=dY) (hpl:=ar)) ag dY)) (fun _ _ _ _=>(au (i:=0) gE rfl (Or.inl rfl) (.inr rfl))) (aU 2 0 (by decide)) (fun _ _ _ _=>cP) (fun _ _ _ _=>(aV (ps:=["pot", "size"]) C_law_count (hr.mono (by omega)) (ae (aH hu (af 2) (gp (af 0) (dZ y_len (ae (af 2) ag ak) (he:=ak) (hpl:=ar))) (fun _ _=>rfl)) (ae (af 4) ag ak) bm) (he:=bm) (hpl:=(ay ak ar)))) trivial)))))
theorem sc_law_gains:FnScope ["blocks", "counted", "gains_v", "place", "side", "to", "count"] ["blocks", "counted"] (aj bQ):=⟨rfl,rfl,rfl,by decide+kernel,rfl,by decide+kernel,by decide+kernel⟩
theorem jq {a_law_ways:Addr}{d_law_ways:FuncData}(y_zip:mg "zip"=none)(C_law_ways:CG P w K mg base 1 "_law_ways" a_law_ways d_law_ways ["blocks"] 1 bO)(F:Fun K "_law_gains" "_law_gains" bQ f fd)(B:Binds K fd ["blocks", "counted"] [])(Mf:mg "_law_gains"=some (.ref f)):CG P w K mg base 2 "_law_gains" f fd ["blocks", "counted"] 2 cK:=by
 refine⟨bI (g:=df) F sc_law_gains rfl rfl rfl fun cdv A outer s H E hr=>?_,B,F.kp,Mf⟩
 have hu:=bG hr
 have hu6:=hr.units
 exact (ai (az (i:=2) sc_law_gains.nd rfl (Or.inl rfl) kE)
  (ai (bF PassesOwn.never rfl (pC false false y_zip (ae (aV (ps:=["blocks"]) C_law_ways (hr.mono (by omega)) (ae (af 0) ag ak) (he:=ak) (hpl:=ar)) (ae (af 1) ag ak) dY)) (cV rfl (aD (cV rfl (aD (au (i:=3) sc_law_gains.nd rfl (Or.inl rfl)) (aD (au (i:=4) sc_law_gains.nd rfl (Or.inl rfl)) (aD (au (i:=5) sc_law_gains.nd rfl (Or.inl rfl)) bV)))) (aD (au (i:=6) sc_law_gains.nd rfl (Or.inl rfl)) bV))) (lY (fq (dG 7 [3,4,5] (by decide)) (fq (aU 7 6 (by decide)) lX)) rfl) (ao (bw (aP fE (dJ hu6) (aH hu (aH hu (aH hu (af 0) (af 3) (fun _ _=>rfl)) ah (fun _ _=>rfl)) ah (fun _ _=>rfl)) aK (aN _)) (ao (fG hu (af 2) (pI (ae (af 3) (ae (af 5) ag ak) ak)) (bq (gK hu (af 2) (pI (ae (af 3) (ae (af 5) ag ak) ak)) ah) (af 6)))) aL)))
  (ao (aE (af 2)))))
theorem sc_law_sets:FnScope ["many", "found", "place"] ["many"] (aj bL):=⟨rfl,rfl,rfl,by decide+kernel,rfl,by decide+kernel,by decide+kernel⟩
theorem iM:((["one", ".0"]:List Str)++(["many", "found", "place"]:List Str).map (hid ["one", ".0"])).Nodup:=by decide+kernel
theorem j6 (y_len:mg "len"=none)(y_range:mg "range"=none)(y_sorted:mg "sorted"=none)(F:Fun K "_law_sets" "_law_sets" bL f fd)(B:Binds K fd ["many"] [])(Mf:mg "_law_sets"=some (.ref f)):CG P w K mg base 1 "_law_sets" f fd ["many"] 1 cY:=by
 refine⟨bI (g:=dP) F sc_law_sets rfl rfl rfl fun cdv A outer s H E hr=>?_,B,F.kp,Mf⟩
 have hu:=bG hr
 have hu6:=hr.units
 exact (ai (az (i:=1) sc_law_sets.nd rfl (Or.inl rfl) (ba (bf (ae (aA (ae ah ag aS)) ag eQ))))
  (ai (bF PassesOwn.never rfl (iY rfl y_range (ae ah (ae (af 0) ag ak) aS)) (au (i:=2) sc_law_sets.nd rfl (Or.inr rfl)) (aU 3 2 (by decide)) (ao (az (i:=1) sc_law_sets.nd rfl (Or.inl rfl) (bq (af 1) (ba (bY rfl (ls:=["one", ".0"]) (.of (aj bL)) (dc (af 1)) (fun _ _ _ _=>(au (i:=0) iM rfl (Or.inl rfl) (.inr rfl))) (aU 2 0 (by decide)) (fun _ _ _ _=>cP) (fun _ _ _ _=>(bq (af 0) (aA (ae (af 4) ag ak)))) trivial))))))
  (ao (aE (pH y_sorted y_len (af 1) (he:=ak))))))
theorem sc_law_least:FnScope ["gains_v", "numbers", "places", "last", "without_v", "found", "place"] ["gains_v", "numbers", "places", "last"] (aj bz):=⟨rfl,rfl,rfl,by decide+kernel,rfl,by decide+kernel,by decide+kernel⟩
theorem ii:((["place", ".0"]:List Str)++(["gains_v", "numbers", "places", "last", "without_v", "found", "place"]:List Str).map (hid ["place", ".0"])).Nodup:=by decide+kernel
theorem jp (y_len:mg "len"=none)(y_max:mg "max"=none)(y_tuple:mg "tuple"=none)(F:Fun K "_law_least" "_law_least" bz f fd)(B:Binds K fd ["gains_v", "numbers", "places", "last"] [])(Mf:mg "_law_least"=some (.ref f)):CG P w K mg base 1 "_law_least" f fd ["gains_v", "numbers", "places", "last"] 4 cJ:=by
 refine⟨bI (g:=de) F sc_law_least rfl rfl rfl fun cdv A outer s H E hr=>?_,B,F.kp,Mf⟩
 have hu:=bG hr
 have hu6:=hr.units
 exact (ai (az (i:=4) sc_law_least.nd rfl (Or.inl rfl) (im y_tuple (ae (ba (bY rfl (ls:=["place", ".0"]) (.of (aj bz)) (eY (af 2)) (fun _ _ _ _=>(au (i:=0) ii rfl (Or.inl rfl) (.inr rfl))) (aU 2 0 (by decide)) (fun _ _ _ _=>(ml (aP fE (dJ hu6) (af 0) (af 5) (aN _)))) (fun _ _ _ _=>(af 0)) trivial)) ag gB) (he:=gB) (hpl:=ar)))
  (ai (az (i:=5) sc_law_least.nd rfl (Or.inl rfl) (fg (bf ag)))
  (ai (bF PassesOwn.never rfl (eY (af 4)) (au (i:=6) sc_law_least.nd rfl (Or.inl rfl)) (aU 7 6 (by decide)) (ao (bw (mD (iW (aP fE (dJ hu6) (af 6) ah (aN _)) (jy (aP cH (bB hu6) (dZ y_len (ae (af 4) ag ak) (he:=ak) (hpl:=ar)) ah (aN _))))) (ao (fH (eD (af 5) (ae (bq (lG hu6 (af 1) (aA (ae (af 4) (ae (af 6) ag ak) ak)) (fun _ _=>rfl)) (gK hu (af 0) (aA (ae (af 6) (ae (af 3) ag ak) ak)) ah)) ag lh)))) aL)))
  (ao (aE (mn rfl y_max (ae (af 5) ag ak)))))))
theorem jX:FnScope ["pot"] ["pot"] (aj cr):=⟨rfl,rfl,rfl,by decide+kernel,rfl,by decide+kernel,by decide+kernel⟩
theorem j9 {a_law_next:Addr}{d_law_next:FuncData}(C_law_next:CG P w K mg base 1 "_law_next" a_law_next d_law_next ["pot", "many"] 2 av)(F:Fun K "_law_many" "_law_many" cr f fd)(B:Binds K fd ["pot"] [])(Mf:mg "_law_many"=some (.ref f)):CG P w K mg base 2 "_law_many" f fd ["pot"] 1 da:=by
 refine⟨bI (g:=dS) F jX rfl rfl rfl fun cdv A outer s H E hr=>?_,B,F.kp,Mf⟩
 have hu:=bG hr
 have hu6:=hr.units
 exact (ai (bw (aP cH (bB hu6) (aV (ps:=["pot", "many"]) C_law_next (hr.mono (by omega)) (ae (af 0) (ae ah ag aS) ak) (he:=ak) (hpl:=(ay aS ar))) ah (aN _)) (ao (aE ah)) aL)
  (ao (aE (bq ah (aV (ps:=["pot", "many"]) C_law_next (hr.mono (by omega)) (ae (af 0) (ae ah ag aS) ak) (he:=ak) (hpl:=(ay aS ar)))))))
theorem sc_law_row:FnScope ["row", "number"] ["row"] (aj cS):=⟨rfl,rfl,rfl,by decide+kernel,rfl,by decide+kernel,by decide+kernel⟩
theorem lB (y_bool:mg "bool"=none)(y_int:mg "int"=none)(y_isinstance:mg "isinstance"=none)(y_len:mg "len"=none)(y_tuple:mg "tuple"=none)(F:Fun K "_law_row" "_law_row" cS f fd)(B:Binds K fd ["row"] [])(Mf:mg "_law_row"=some (.ref f)):CG P w K mg base 1 "_law_row" f fd ["row"] 1 dy:=by
 refine⟨bI (g:=eI) F sc_law_row rfl rfl rfl fun cdv A outer s H E hr=>?_,B,F.kp,Mf⟩
 have hu:=bG hr
 have hu6:=hr.units
 exact (ai (bw (mD (iW (ik (gh (io y_isinstance (ae (af 0) (ae (ky y_tuple PyProof.Rows.boot_tuple) ag ak) ak) (he:=ak) (hpl:=(ay ak ar))))) (iW (aP fE (dJ hu6) (dZ y_len (ae (af 0) ag ak) (he:=ak) (hpl:=ar)) ah (aN _)) (jy (ik (gh (io y_isinstance (ae (aH hu (af 0) ah (fun _ _=>rfl)) (ae (ky y_tuple PyProof.Rows.boot_tuple) ag ak) bm) (he:=bm) (hpl:=(ay ak ar))))))))) (ao (aE iq)) aL)
  (ai (bF PassesOwn.never rfl (eY (bq (aH hu (af 0) ah (fun _ _=>rfl)) (kB (af 0) (fI ah) fJ))) (au (i:=1) sc_law_row.nd rfl (Or.inl rfl)) (aU 2 1 (by decide)) (ao (bw (mD (iW (ik (gh (io y_isinstance (ae (af 1) (ae (ky y_int PyProof.Rows.boot_int) ag ak) ak) (he:=ak) (hpl:=(ay ak ar))))) (jy (gh (io y_isinstance (ae (af 1) (ae (ky y_bool PyProof.Rows.boot_bool) ag ak) ak) (he:=ak) (hpl:=(ay ak ar))))))) (ao (aE iq)) aL)))
  (ao (aE iq))))
theorem sc_law:FnScope ["script", "pots", "program", "counted", "handed", "some", "told", "numbers", "places", "last", "number", "gains_v", "pairs_v"] ["script"] (aj eR):=⟨rfl,rfl,rfl,by decide+kernel,rfl,by decide+kernel,by decide+kernel⟩
theorem pB:((["row", ".0"]:List Str)++(["script", "pots", "program", "counted", "handed", "some", "told", "numbers", "places", "last", "number", "gains_v", "pairs_v"]:List Str).map (hid ["row", ".0"])).Nodup:=by decide+kernel
theorem tD {a_law_pots:Addr}{d_law_pots:FuncData}{a_law_program:Addr}{d_law_program:FuncData}{a_law_many:Addr}{d_law_many:FuncData}{a_law_counts:Addr}{d_law_counts:FuncData}{a_paper:Addr}{d_paper:FuncData}{a_law_row:Addr}{d_law_row:FuncData}{a_law_gains:Addr}{d_law_gains:FuncData}{a_law_sets:Addr}{d_law_sets:FuncData}{a_law_least:Addr}{d_law_least:FuncData}(y_all:mg "all"=none)(y_isinstance:mg "isinstance"=none)(y_len:mg "len"=none)(y_list:mg "list"=none)(y_sorted:mg "sorted"=none)(C_law_pots:CG P w K mg base 1 "_law_pots" a_law_pots d_law_pots ["script"] 1 cZ)(C_law_program:CG P w K mg base 3 "_law_program" a_law_program d_law_program ["pot", "many"] 2 bH)(C_law_many:CG P w K mg base 2 "_law_many" a_law_many d_law_many ["pot"] 1 da)(C_law_counts:CG P w K mg base 3 "_law_counts" a_law_counts d_law_counts ["pots", "blocks"] 2 cj)(C_paper:CG P w K mg base 4 "paper" a_paper d_paper ["program", "counted"] 2 fN)(C_law_row:CG P w K mg base 1 "_law_row" a_law_row d_law_row ["row"] 1 dy)(C_law_gains:CG P w K mg base 2 "_law_gains" a_law_gains d_law_gains ["blocks", "counted"] 2 cK)(C_law_sets:CG P w K mg base 1 "_law_sets" a_law_sets d_law_sets ["many"] 1 cY)(C_law_least:CG P w K mg base 1 "_law_least" a_law_least d_law_least ["gains_v", "numbers", "places", "last"] 4 cJ)(F:Fun K "law" "law" eR f fd)(B:Binds K fd ["script"] [])(Mf:mg "law"=some (.ref f)):CG P w K mg base 5 "law" f fd ["script"] 1 i6:=by
 refine⟨bI (g:=mJ) F sc_law rfl rfl rfl fun cdv A outer s H E hr=>?_,B,F.kp,Mf⟩
 have hu:=bG hr
 have hu6:=hr.units
 exact (ai (az (i:=1) sc_law.nd rfl (Or.inl rfl) (aV (ps:=["script"]) C_law_pots (hr.mono (by omega)) (ae (af 0) ag ak) (he:=ak) (hpl:=ar)))
  (ai (az (i:=2) sc_law.nd rfl (Or.inl rfl) (aV (ps:=["pot", "many"]) C_law_program (hr.mono (by omega)) (ae (aH hu (af 1) ah (fun _ _=>rfl)) (ae (aV (ps:=["pot"]) C_law_many (hr.mono (by omega)) (ae (aH hu (af 1) ah (fun _ _=>rfl)) ag bm) (he:=bm) (hpl:=ar)) ag dY) bm) (he:=bm) (hpl:=(ay dY ar))))
  (ai (az (i:=3) sc_law.nd rfl (Or.inl rfl) (aV (ps:=["pots", "blocks"]) C_law_counts (hr.mono (by omega)) (ae (af 1) (ae (aH hu (af 2) ah (fun _ _=>rfl)) ag bm) ak) (he:=ak) (hpl:=(ay bm ar))))
  (ai (az (i:=4) sc_law.nd rfl (Or.inl rfl) (aA (ae (ba (fK y_list (ae (aH hu (af 2) ah (fun _ _=>rfl)) ag bm) (he:=bm) (hpl:=ar))) (ae (ba (fK y_list (ae (aH hu (af 2) ah (fun _ _=>rfl)) ag bm) (he:=bm) (hpl:=ar))) ag dY) dY)))
  (ai (az (i:=5) sc_law.nd rfl (Or.inl rfl) (ba (fK y_list (ae (af 3) ag ak) (he:=ak) (hpl:=ar))))
  (ai (az (i:=6) sc_law.nd rfl (Or.inl rfl) (aV (ps:=["program", "counted"]) C_paper (hr.mono (by omega)) (ae (af 4) (ae (af 5) ag ak) ak) (he:=ak) (hpl:=(ay ak ar))))
  (ai (bw (mD (iW (ik (gh (io y_isinstance (ae (af 6) (ae (ky y_list PyProof.Rows.boot_list) ag ak) ak) (he:=ak) (hpl:=(ay ak ar))))) (iW (ik (gh (tL rfl y_all (ae (ba (bY rfl (ls:=["row", ".0"]) (.of (aj eR)) (dc (af 6)) (fun _ _ _ _=>(au (i:=0) pB rfl (Or.inl rfl) (.inr rfl))) (aU 2 0 (by decide)) (fun _ _ _ _=>cP) (fun _ _ _ _=>(aV (ps:=["row"]) C_law_row (hr.mono (by omega)) (ae (af 0) ag ak) (he:=ak) (hpl:=ar))) trivial)) ag gB) (he:=gB) (hpl:=ar)))) (jy (aP fE (dJ hu6) (af 6) (iZ hu6 y_sorted (ae (af 6) ag ak) (he:=ak) (hpl:=ar)) (aN _)))))) (ao (aE iq)) aL)
  (ai (az (i:=7) sc_law.nd rfl (Or.inl rfl) (kF true))
  (ai (bF PassesOwn.never rfl (dc (af 6)) (cV rfl (aD (au (i:=8) sc_law.nd rfl (Or.inl rfl)) (aD (au (i:=9) sc_law.nd rfl (Or.inl rfl)) (aD (au (i:=10) sc_law.nd rfl (Or.inl rfl)) bV)))) (dG 13 [8,9,10] (by decide)) (ao (iX hu6 (af 7) (aA (ae (af 8) (ae (af 9) ag ak) ak)) (af 10))))
  (ai (az (i:=11) sc_law.nd rfl (Or.inl rfl) (aV (ps:=["blocks", "counted"]) C_law_gains (hr.mono (by omega)) (ae (aH hu (af 2) ah (fun _ _=>rfl)) (ae (af 3) ag ak) bm) (he:=bm) (hpl:=(ay ak ar))))
  (ai (bw (aP fE (dJ hu6) (rl hu6 (af 7) (aA (ae (aA (ae ah ag aS)) (ae ah ag aS) eQ)) ah) ah (aN _)) (ao (aE iq)) aL)
  (ai (az (i:=12) sc_law.nd rfl (Or.inl rfl) ah)
  (ai (bF PassesOwn.never rfl (dc (aV (ps:=["many"]) C_law_sets (hr.mono (by omega)) (ae (dZ y_len (ae (aH hu (af 2) ah (fun _ _=>rfl)) ag bm) (he:=bm) (hpl:=ar)) ag dY) (he:=dY) (hpl:=ar))) (au (i:=8) sc_law.nd rfl (Or.inl rfl)) (aU 13 8 (by decide)) (ao (bF PassesOwn.never rfl (eY (kB (af 8) (fI ah) fJ)) (au (i:=9) sc_law.nd rfl (Or.inl rfl)) (aU 13 9 (by decide)) (ai (az (i:=12) sc_law.nd rfl (Or.inl rfl) (bq (af 12) ah))
  (ai (bw (aP (rh hu6) qW (aA (ae (af 8) (ae (af 9) ag ak) ak)) (af 7) (by with_unfolding_all rfl)) (ao (aE iq)) aL)
  (ao (bw (aP fE (dJ hu6) (lG hu6 (af 7) (aA (ae (af 8) (ae (af 9) ag ak) ak)) (fun _ _=>rfl)) (aV (ps:=["gains_v", "numbers", "places", "last"]) C_law_least (hr.mono (by omega)) (ae (af 11) (ae (af 7) (ae (af 8) (ae (af 9) ag ak) ak) ak) ak) (he:=ak) (hpl:=(ay ak (ay ak (ay ak ar))))) (aN _)) (ao (aE iq)) aL)))))))
  (ao (aE (pK (lH cH (bB hu6) (af 12) (dZ y_len (ae (af 6) ag ak) (he:=ak) (hpl:=ar)) (aN _)) (pK (lH cH (bB hu6) (af 4) (af 2) (aN _)) (tK (lH cH (bB hu6) (af 5) (af 3) (aN _))))))))))))))))))))
end
end Q
set_option maxHeartbeats 1000000
namespace Q
open PySem L2
local macro_rules | `(tactic| simp! only [$xs,*]) => `(tactic| try simp only [finF,bD,cC,cB,cE,cD,cw,dB,dC,sFor,mMet,aQ,sAug,sAugW,sFldW,tupW,sRet,sSet,sNil,sEx,sPass,cx,sCont,sUnp,bv,mB,L2.m2,L2.m1,L2.m3,mVar,mC,mCall,mCons,mNil,mTup,mTl,mNew,lenG,listL,mPart,aW,mAnd,mOr,mNot,mAndV,mOrV,mNotV,mIf,cA,mMeth,isS,mSrc,mSrcA,srcL,srcT,srcS,tgN,tgT,setW,mYes,br,bd_no,asB_bl,addW_int,subW_int,ltW_int,leW_int,gtW_int,geW_int,eqW_int,eqW_str,neW_int,neW_str,neW_bl,slW_tl,slW_cl,lenW_tl,lenW_tup,negW,List.set_cons_zero,List.set_cons_succ,List.getElem?_cons_zero,List.getElem?_cons_succ,List.length_cons,List.length_nil,arW,if_true,if_false,Bool.false_eq_true,ite_true,ite_false,reduceIte,decide_true,decide_false,Bool.not_true,Bool.not_false,dw,gdn0,gdn1,gdn2,gdn3,gdn4,gdn5,gdn6,gdn7,gdn8,gdn9,gdn10,gdn11,gdn12,gdn13,gdn14,gdn15,gdn16,gdn17,gdn18,gdn19,gdn20,gdn21,gdn22,gdn23,gdn24,$xs,*])
local macro_rules | `(tactic| simp!) => `(tactic| simp! only [aa])
section
theorem sz {n:Nat}(h:n<=100000):n<=sizeLine:=Nat.le_trans h (by decide)
theorem rp (l:List W):lstO (.tl l)=pr l:=rfl
theorem ft (l:List W):srcL (.tl l)=pr ⟨l,fun _=>True⟩:=rfl
theorem fU (l:List W):eU [.tl l]=pr (.tup l):=rfl
theorem mX (a b:List W)(h:a.length+b.length<=sizeLine):addW (.tl a) (.tl b)=pr (.tl (a++b)):=by
 show gd (a.length+b.length<=sizeLine) (pr (W.tl (a++b)))=_
 exact aq h
noncomputable def Pot (h:List Ob)(j:Nat):Prop:= ∃a b:Int,h[j]?=some (.lst [.int a,.int b])
structure Kp (j:Nat)(h h':List Ob):Prop where
 fr:Fr j h h'
 re:Pot h' j
theorem Kp.trans {j:Nat}{a b c:List Ob}(x:Kp j a b)(y:Kp j b c):Kp j a c:=⟨x.fr.trans y.fr,y.re⟩
structure Kn (j:Nat)(h h':List Ob):Prop where
 le:h.length<=h'.length
 eq: ∀i,i<h.length->i≠j->h'[i]?=h[i]?
 re:Pot h' j
theorem Kp.kn {j:Nat}{h h':List Ob}(x:Kp j h h'):Kn j h h':=⟨Nat.le_of_eq x.fr.len.symm,fun i _ hj=>x.fr.eq i hj,x.re⟩
theorem Kn.trans {j:Nat}{a b c:List Ob}(x:Kn j a b)(y:Kn j b c):Kn j a c:=⟨Nat.le_trans x.le y.le,fun i hi hj=>(y.eq i (Nat.lt_of_lt_of_le hi x.le) hj).trans (x.eq i hi hj),y.re⟩
theorem cp18:CPow 10 18:=⟨by decide,by decide,by decide⟩
theorem mj {h:List Ob}{j:Nat}{m:Int}(R:Pot h j)(hm:0<m)(hz:m<2 ^ 200):Ok (av [.loc j,.int m]) h fun w h'=> ∃v:Int,w=.int v/\0<=v/\v<m/\Kp j h h':=by
 obtain⟨a,b,e⟩:=R
 have e0:av [.loc j,.int m]=bd (dR [some (.loc j),some (.int m),none,none]) finF:=rfl
 rw[e0]
 unfold dR
 simp! only[aa,fB cp18]
 refine ka e (w:=.int b) rfl ?_
 simp!
 refine se e (i:=1) rfl ?_
 have e1:(h.set j (.lst ([.int a,.int b].set 1 (.int (b+1)))))[j]?=some (.lst [.int a,.int (b+1)]):=fu e
 have f1:Fr j h (h.set j (.lst ([.int a,.int b].set 1 (.int (b+1))))):=Fr.set
 generalize h.set j (.lst ([.int a,.int b].set 1 (.int (b+1))))=h1 at *
 generalize b+1=c at *
 simp!
 refine ka e1 (w:=.int a) rfl ?_
 by_cases hc:10 ^ (18:Int).toNat<=a
 ·simp! only[aa,decide_eq_true hc,i5 hm hz]
  refine se e1 (i:=0) rfl ?_
  simp! only[aa,dm hm]
  exact aw ⟨a % m,rfl,Int.emod_nonneg _ (by omega),Int.emod_lt_of_pos _ hm,f1.trans Fr.set,_,_,fu e1⟩
 ·simp! only[aa,decide_eq_false hc,dl (ij (i:=a) (j:=69621) (by decide) (by decide))]
  refine ka e1 (w:=.int c) rfl ?_
  simp! only[aa,dl (ij (i:=c) (j:=7919) (by decide) (by decide)),dm (show (0:Int)<2147483647 by decide)]
  generalize hx:(a * 69621+c * 7919+13) % 2147483647=x
  have b0:0<=x:=by rw[<-hx];exact Int.emod_nonneg _ (by decide)
  have b1:x<2147483647:=by rw[<-hx];exact Int.emod_lt_of_pos _ (by decide)
  simp! only[aa,dl (tJ (i:=x) (j:=x) (by omega) (by omega)),dm (show (0:Int)<2147483629 by decide),dl (ij (i:=x * x % 2147483629) (j:=48271) (by decide) (by decide))]
  refine ka e1 (w:=.int c) rfl ?_
  simp! only[aa,dl (ij (i:=c) (j:=40692) (by decide) (by decide)),dm (show (0:Int)<2147483587 by decide),i5 (show (0:Int)<8 by decide) (by decide),dm hm]
  exact aw ⟨_,rfl,Int.emod_nonneg _ (by omega),Int.emod_lt_of_pos _ hm,f1,_,_,e1⟩
theorem bN {β:Type}{h:List Ob}{k:W->M β}{Q:β->List Ob->Prop}{j:Nat}{m:Int}(R:Pot h j)(hm:0<m)(hz:m<2 ^ 200)(q:∀v h',0<=v->v<m->Kp j h h'->Ok (k (.int v)) h' Q):Ok (bd (av [.loc j,.int m]) k) h Q:=
 bS (mj R hm hz) fun w h' ⟨v,e,a,b,K⟩=>by subst e;exact q v h' a b K
theorem mr (l:List W):lenW [.cl l]=pr (.int l.length):=rfl
def Pots (h:List Ob)(ks:List Nat):Prop:= ∀k∈ks,Pot h k
theorem Pots.kn {h h':List Ob}{ks:List Nat}{j:Nat}(P:Pots h ks)(K:Kn j h h'):Pots h' ks:=fun k hk=>by
 by_cases z:k=j
 ·subst z;exact K.re
 ·obtain⟨a,b,e⟩:=P k hk
  exact⟨a,b,(K.eq k (d5 e) z).trans e⟩
theorem nZ (ns:List Int):(cutW ns none (some 63)).length<=63:=by
 unfold cutW
 rw[List.length_take]
 show min (min (63:Int).toNat ns.length - 0) _<=63
 have:(63:Int).toNat=63:=rfl
 omega
theorem qf (ns:List Int)(h:ns≠ []):cutW ns none (some 63)≠ []:=by
 unfold cutW
 intro z
 have z:=congrArg List.length z
 rw[List.length_take,List.length_drop,List.length_nil] at z
 have h0:0<ns.length:=List.length_pos_iff.mpr h
 have z:min (min (63:Int).toNat ns.length - 0) (ns.length - 0)=0:=z
 have:(63:Int).toNat=63:=rfl
 omega
theorem qI (ns:List Int)(h:List Ob):Ok (cZ [.cl (ns.map W.int)]) h fun w h'=> ∃ks:List Nat,w=.tl (ks.map W.loc)/\ks≠ []/\ks.length<=63/\Pots h' ks:=by
 have e0:cZ [.cl (ns.map W.int)]=bd (dQ [some (.cl (ns.map W.int))]) finF:=rfl
 rw[e0]
 unfold dQ
 cases ns with
 |nil=>
  have z0:decide (((0:Nat):Int)=0)=true:=rfl
  simp! only[aa,mr,List.map_nil,z0]
  refine gf ?_
  simp!
  refine aw ⟨[h.length],rfl,by simp,by simp,fun k hk=>?_⟩
  rw[List.mem_singleton.mp hk]
  exact⟨_,_,fM⟩
 |cons c ns=>
  have hne: ¬(((((c::ns).map W.int).length:Nat):Int)=0):=by rw[List.length_map,List.length_cons];omega
  have cm:=rO W.int (c::ns) none (some 63)
  have c1:=nZ (c::ns)
  have c2:=qf (c::ns) (by simp)
  generalize cutW (c::ns) none (some 63)=cs at *
  generalize c::ns=ms at *
  have gl: ∀ {α:Type} (q:M α),gd ((cs.map W.int).length<=sizeLine) q=q:=fun q=>aq (by rw[List.length_map];exact sz (by omega))
  simp! only[aa,mr,decide_eq_false hne,aQ,cm,ft,gl]
  refine cO (I:=fun i a h'=> ∃ks:List Nat,a=ks.map W.loc/\ks.length=i/\Pots h' ks) ⟨[],rfl,rfl,fun k hk=>absurd hk List.not_mem_nil⟩ dE (fun _ _ _ _=>trivial) (fun i w a h' hw I=>?_) fun a h' I=>?_
  ·obtain⟨ks,rfl,rfl,P⟩:=I
   rw[List.getElem?_map] at hw
   obtain⟨x,hx,rfl⟩:=Option.map_eq_some_iff.mp hw
   refine⟨_,rfl,?_⟩
   simp! only[List.replicate,List.cons_append,List.nil_append,aa]
   refine⟨.loc h'.length,h'++[.lst [.int x,.int 0]],rfl,ks++[h'.length],by rw[List.map_append];rfl,by simp,fun k hk=>?_⟩
   rcases List.mem_append.mp hk with hk|hk
   ·obtain⟨a,b,e⟩:=P k hk
    exact⟨a,b,mI e⟩
   ·rw[List.mem_singleton.mp hk]
    exact⟨_,_,fM⟩
  ·obtain⟨ks,rfl,e,P⟩:=I
   rw[List.length_map] at e
   simp!
   refine aw ⟨ks,rfl,fun z=>c2 ?_,by omega,P⟩
   rw[z] at e
   exact List.eq_nil_of_length_eq_zero e.symm
noncomputable def Pd:Nat->W->Prop
 |0,_=>False
 |n+1,w=>(∃i,w=.int i)\/(∃z,w=.str z/\PyData.strOk z=true)\/ ∃l,(w=.tup l\/w=.tl l)/\l.length<=1000/\ ∀x∈l,Pd n x
theorem Pd.mono: ∀ {n:Nat}{w:W},Pd n w->Pd (n+1) w
 |n+1,w,p=>by
  rcases p with p|p|⟨l,e,z,p⟩
  ·exact .inl p
  ·exact .inr (.inl p)
  ·exact .inr (.inr ⟨l,e,z,fun x hx=>(p x hx).mono⟩)
theorem Pd.up {n m:Nat}{w:W}(p:Pd n w)(h:n<=m):Pd m w:=by
 induction m with
 |zero=>
  have:n=0:=by omega
  subst this;exact p
 |succ m ih=>
  by_cases e:n=m+1
  ·subst e;exact p
  ·exact (ih (by omega)).mono
theorem Pd.int {n:Nat}{i:Int}:Pd (n+1) (.int i):=.inl ⟨i,rfl⟩
theorem Pd.str {n:Nat}{i:Str}(h:PyData.strOk i=true):Pd (n+1) (.str i):=.inr (.inl ⟨i,rfl,h⟩)
theorem Pd.tup {n:Nat}{l:List W}(z:l.length<=1000)(p:∀x∈l,Pd n x):Pd (n+1) (.tup l):=.inr (.inr ⟨l,.inl rfl,z,p⟩)
theorem Pd.lst {n:Nat}{l:List W}(z:l.length<=1000)(p:∀x∈l,Pd n x):Pd (n+1) (.tl l):=.inr (.inr ⟨l,.inr rfl,z,p⟩)
theorem pd2i {a:Str}{i:Int}{n:Nat}(h:PyData.strOk a=true):Pd (n+2) (.tup [.str a,.int i]):=.tup (by simp) fun x hx=>by
 rcases List.mem_cons.mp hx with rfl|hx
 ·exact .str h
 ·rw[List.mem_singleton.mp hx];exact .int
theorem pd2s {a b:Str}{n:Nat}(h:PyData.strOk a=true)(h2:PyData.strOk b=true):Pd (n+2) (.tup [.str a,.str b]):=.tup (by simp) fun x hx=>by
 rcases List.mem_cons.mp hx with rfl|hx
 ·exact .str h
 ·rw[List.mem_singleton.mp hx];exact .str h2
theorem pdT {l:List W}{n:Nat}(z:l.length<=1000)(h:∀x∈l,Pd n x):Pd (n+1) (.tup l):=.tup z h
theorem aF {n:Nat}{w:W}{l:List W}(h:Pd n w)(r:∀x∈l,Pd n x): ∀x∈w::l,Pd n x:=fun x hx=>by
 rcases List.mem_cons.mp hx with rfl|hx
 ·exact h
 ·exact r x hx
theorem bW {n:Nat}: ∀x∈([]:List W),Pd n x:=fun x hx=>absurd hx List.not_mem_nil
theorem hV {n:Nat}{h:List Ob}: ∀ (l:List W),(∀x∈l,∃d,dataH h n x=some d/\d.canLay0=true)-> ∃ds,optL (dataH h n) l=some ds/\PyData.canLayAll0 ds=true
 |[],_=>⟨[],rfl,by rw[PyData.canLayAll0]⟩
 |x::l,q=>by
  obtain⟨d,e,c⟩:=q x List.mem_cons_self
  obtain⟨ds,es,cs⟩:=hV l fun y hy=>q y (List.mem_cons_of_mem _ hy)
  refine⟨d::ds,?_,?_⟩
  ·simp only[optL,e,es]
  ·rw[PyData.canLayAll0,c,cs];rfl
theorem Pd.data {h:List Ob}: ∀ {n:Nat}{w:W},Pd n w-> ∃d,dataH h n w=some d/\d.canLay0=true
 |n+1,w,p=>by
  rcases p with⟨i,rfl⟩|⟨z,rfl,hz⟩|⟨l,e,_,p⟩
  ·exact⟨.int i,rfl,by rw[PyData.canLay0]⟩
  ·exact⟨.str z,rfl,by rw[PyData.canLay0];exact hz⟩
  ·obtain⟨ds,es,cs⟩:=hV (h:=h) l fun x hx=>(p x hx).data
   rcases e with rfl|rfl
   ·exact⟨.tuple ds,by show (optL (dataH h n) l).map PyData.tuple=_;rw[es];rfl,by rw[PyData.canLay0];exact cs⟩
   ·exact⟨.list ds,by show (optL (dataH h n) l).map PyData.list=_;rw[es];rfl,by rw[PyData.canLay0];exact cs⟩
theorem p5 {l:List W}(p:∀x∈l,Pd 49 x):eqW (.tl l) (.tl l)=pr (.bl true):=jH fun h=>by
 obtain⟨ds,es,cs⟩:=hV (h:=h) l fun x hx=>(p x hx).data
 rw[nV es es cs cs,dh ds cs]
inductive E17
 |go (t:Int)
 |iff (s:Str)(a b:W)(x y:Int)
 |table (e:W)(ts:List Int)
 |stop
noncomputable def E17.w:E17->W
 |.go t=>.tup [.str "go",.int t]
 |.iff s a b x y=>.tup [.str "if",.str s,a,b,.int x,.int y]
 |.table e ts=>.tup [.str "table",e,.tup (ts.map W.int)]
 |.stop=>.tup [.str "stop"]
def E17.Good (m:Int):E17->Prop
 |.go t=>0<=t/\t<m
 |.iff s a b x y=>(0<=x/\x<m)/\(0<=y/\y<m)/\Pd 8 a/\Pd 8 b/\PyData.strOk s=true
 |.table e ts=>ts.length<=6/\(∀t∈ts,0<=t/\t<m)/\Pd 8 e
 |.stop=>True
theorem ju:PyData.strOk "box"=true:=by decide+kernel
theorem kh:PyData.strOk "a"=true:=by decide+kernel
theorem gc:PyData.strOk "number"=true:=by decide+kernel
theorem sg2 {v:Int}(h0:0<=v)(h1:v<2): ∃s:Str,atI [W.str "<",.str "="] v=some (.str s)/\PyData.strOk s=true:=by
 have:v=0\/v=1:=by omega
 rcases this with rfl|rfl
 ·exact⟨"<",rfl,by decide+kernel⟩
 ·exact⟨"=",rfl,by decide+kernel⟩
theorem t8 {h:List Ob}{j:Nat}{m:Int}(hm:0<m)(hz:m<=100)(R:Pot h j):Ok (cU [.loc j,.int m]) h fun w h'=> ∃e:E17,w=e.w/\e.Good m/\Kn j h h':=by
 have e0:cU [.loc j,.int m]=bd (eJ [some (.loc j),some (.int m),none,none,none]) finF:=rfl
 have hz':m<2 ^ 200:=Int.lt_of_le_of_lt hz (by decide)
 rw[e0]
 unfold eJ
 simp!
 refine bN R (by decide) (by decide) fun kind h1 k0 k8 K1=>?_
 simp!
 refine bN K1.re hm hz' fun x h2 x0 x1 K2=>?_
 simp!
 refine bN K2.re hm hz' fun y h3 y0 y1 K3=>?_
 have K13:=(K1.trans K2).trans K3
 by_cases c0:kind=0
 ·simp! only[aa,decide_eq_true c0,tupW]
  exact aw ⟨.stop,rfl,trivial,K13.kn⟩
 by_cases c3:kind<3
 ·simp! only[aa,decide_eq_false c0,decide_eq_true c3,tupW]
  exact aw ⟨.go x,rfl,⟨x0,x1⟩,K13.kn⟩
 by_cases c7:kind=7
 ·simp! only[aa,decide_eq_false c0,decide_eq_false c3,decide_eq_true c7,tupW,aQ]
  refine bN K13.re (by decide) (by decide) fun n h4 n0 n1 K4=>?_
  have K14:=K13.trans K4
  have gl: ∀ {α:Type} (q:M α),gd ((intsW 0 (1+n).toNat).length<=sizeLine) q=q:=fun q=>aq (by rw[ci];exact sz (by omega))
  simp! only[aa,g7 (show (-(2 ^ 62):Int)<=1+n by omega) (show 1+n<2 ^ 62 by omega),gl]
  refine cO (I:=fun i a h'=> ∃ts:List Int,a=ts.map W.int/\ts.length=i/\(∀t∈ts,0<=t/\t<m)/\Kp j h h') ⟨[],rfl,rfl,fun t ht=>absurd ht List.not_mem_nil,K14⟩ dE (fun _ _ _ _=>trivial) (fun i w a h' hw I=>?_) fun a h' I=>?_
  ·obtain⟨ts,rfl,rfl,q,K5⟩:=I
   refine⟨_,rfl,?_⟩
   simp! only[List.replicate,List.cons_append,List.nil_append,aa]
   refine Ok.imp (mj K5.re hm hz') fun w h6 qz=>?_
   obtain⟨v,e,v0,v1,K6⟩:=qz
   refine⟨ts++[v],by rw[e,List.map_append];rfl,by simp,fun t ht=>?_,K5.trans K6⟩
   rcases List.mem_append.mp ht with ht|ht
   ·exact q t ht
   ·rw[List.mem_singleton.mp ht];exact⟨v0,v1⟩
  ·obtain⟨ts,rfl,e,q,K5⟩:=I
   rw[ci] at e
   simp! only[aa,fU,tupW]
   exact aw ⟨.table (.tup [.str "box",.str "a"]) ts,rfl,⟨by omega,q,pd2s ju kh⟩,K5.kn⟩
 ·by_cases c6:kind=6
  ·simp! only[aa,decide_eq_false c0,decide_eq_false c3,decide_eq_false c7,decide_eq_true c6,tupW]
   refine bN K13.re (by decide) (by decide) fun v h4 v0 v1 K4=>?_
   obtain⟨s,es,sk⟩:=sg2 v0 v1
   simp! only[aa,gq es]
   refine bN K4.re (by decide) (by decide) fun n h5 n0 n1 K5=>?_
   simp! only[aa,tupW]
   exact aw ⟨.iff s (.tup [.str "box",.str "a"]) (.tup [.str "number",.int n]) x x,rfl,⟨⟨x0,x1⟩,⟨x0,x1⟩,pd2s ju kh,pd2i gc,sk⟩,((K13.trans K4).trans K5).kn⟩
  ·simp! only[aa,decide_eq_false c0,decide_eq_false c3,decide_eq_false c7,decide_eq_false c6,tupW]
   refine bN K13.re (by decide) (by decide) fun v h4 v0 v1 K4=>?_
   obtain⟨s,es,sk⟩:=sg2 v0 v1
   simp! only[aa,gq es]
   refine bN K4.re (by decide) (by decide) fun n h5 n0 n1 K5=>?_
   simp! only[aa,tupW]
   exact aw ⟨.iff s (.tup [.str "box",.str "a"]) (.tup [.str "number",.int n]) x y,rfl,⟨⟨x0,x1⟩,⟨y0,y1⟩,pd2s ju kh,pd2i gc,sk⟩,((K13.trans K4).trans K5).kn⟩
end
set_option maxHeartbeats 1000000
section
section
variable {β:Type}{h:List Ob}{k:W->M β}{Q:β->List Ob->Prop}{j:Nat}{l:List W}
end
theorem addT (a:W)(l m:List W)(h:l.length+m.length<=100):addW (.tup (a::l)) (.tup m)=pr (.tup (a::(l++m))):=by
 show gd ((a::l).isEmpty=false/\(a::l).length+m.length<=sizeLine) (pr (W.tup ((a::l)++m)))=_
 rw[aq ⟨rfl,sz (by rw[List.length_cons];omega)⟩];rfl
theorem slos {os:List Int}(h:1<=os.length):slW (.tup (os.map W.int)) (some 1) none=pr (.tup (os.tail.map W.int)):=by
 show gd (¬(HT.sIx (os.map W.int).length 0 (some 1)=0/\HT.sIx (os.map W.int).length (os.map W.int).length none=(os.map W.int).length)) (pr (W.tup (cutW (os.map W.int) (some 1) none)))=_
 have s1:HT.sIx (os.map W.int).length 0 (some 1)=1:=by
  show (if (1:Int)<0 then ((1:Int)+((os.map W.int).length:Int)).toNat else min (1:Int).toNat (os.map W.int).length)=1
  rw[if_neg (by decide),List.length_map]
  show min 1 os.length=1
  omega
 rw[aq (by rw[s1];omega)]
 congr 2
 unfold cutW
 rw[s1,show HT.sIx (os.map W.int).length (os.map W.int).length none=(os.map W.int).length from rfl]
 cases os with
 |nil=>rfl
 |cons a os=>
  rw[List.map_cons,List.drop_one,List.tail_cons,List.tail_cons,List.length_cons,Nat.add_sub_cancel,List.take_length]
end
set_option maxHeartbeats 1000000
section
theorem uB:decide (("if":Str)= "go")=false:=by decide+kernel
theorem uT:decide (("go":Str)= "if")=false:=by decide+kernel
theorem uC:decide (("go":Str)= "table")=false:=by decide+kernel
theorem uA:decide (("if":Str)= "table")=false:=by decide+kernel
theorem uw:decide (("table":Str)= "go")=false:=by decide+kernel
theorem uv:decide (("table":Str)= "if")=false:=by decide+kernel
theorem uy:decide (("stop":Str)= "go")=false:=by decide+kernel
theorem ux:decide (("stop":Str)= "if")=false:=by decide+kernel
theorem sC:decide (("stop":Str)= "table")=false:=by decide+kernel
noncomputable def E17.tos:E17->List Int
 |.go t=>[t]
 |.iff _ _ _ x y=>[x,y]
 |.table _ ts=>ts
 |.stop=>[]
noncomputable def E17.tab:E17->Bool
 |.table _ _=>true
 |_=>false
theorem E17.Good.six {m:Int}{e:E17}(g:e.Good m):e.tos.length<=6:=by
 cases e with
 |go t=>show ([t]:List Int).length<=6;simp
 |iff s a b x y=>show ([x,y]:List Int).length<=6;simp
 |table e ts=>exact g.1
 |stop=>exact Nat.zero_le _
structure B23 where
 nm:Str
 s:List W
 e:E17
def B23.w (b:B23):W:=.tup [.str b.nm,.tl b.s,b.e.w]
noncomputable abbrev Way:=Int×Int×Int
def wayW (w:Way):W:=.tup [.int w.1,.int w.2.1,.int w.2.2]
def cN (k:Int)(ts:List Int):List Way:=ts.zipIdx.map fun p=>(k,(p.2:Int),p.1)
def waysL (es:List E17):List Way:=es.zipIdx.flatMap fun p=>cN p.2 p.1.tos
theorem gY (k:Int)(ts:List Int)(t:Int):cN k (ts++[t])=cN k ts++[(k,(ts.length:Int),t)]:=by
 unfold cN
 rw[List.zipIdx_append,List.map_append]
 simp
theorem fY (k:Int)(ts:List Int):(cN k ts).length=ts.length:=by unfold cN;simp
theorem fT (es:List E17)(e:E17):waysL (es++[e])=waysL es++cN es.length e.tos:=by
 unfold waysL
 rw[List.zipIdx_append,List.flatMap_append]
 simp
theorem dk (es:List E17)(h:∀e∈es,e.tos.length<=6): ∀n,n<=es.length->(waysL (es.take n)).length<=6 * n
 |0,_=>by rw[List.take_zero];exact Nat.le_refl _
 |n+1,hn=>by
  have ih:=dk es h n (by omega)
  have e1:es[n]?=some es[n]:=List.getElem?_eq_getElem (by omega)
  have h6:=h _ (List.mem_of_getElem? e1)
  rw[show es.take (n+1)=es.take n++[es[n]] by rw[List.take_succ,e1];rfl,fT,List.length_append,fY]
  omega
theorem jQ {es:List E17}{w:Way}(h:w∈waysL es): ∃e,es[w.1.toNat]?=some e/\0<=w.1/\w.2.2∈e.tos:=by
 unfold waysL at h
 obtain⟨⟨e,i⟩,hp,hw⟩:=List.mem_flatMap.mp h
 rw[List.mem_zipIdx_iff_getElem?] at hp
 unfold cN at hw
 obtain⟨⟨t,n⟩,hq,rfl⟩:=List.mem_map.mp hw
 rw[List.mem_zipIdx_iff_getElem?] at hq
 exact⟨e,hp,Int.natCast_nonneg _,List.mem_of_getElem? hq⟩
structure Nw (h h':List Ob):Prop where
 le:h.length<=h'.length
 eq: ∀i,i<h.length->h'[i]?=h[i]?
theorem Nw.refl (h:List Ob):Nw h h:=⟨Nat.le_refl _,fun _ _=>rfl⟩
theorem Nw.trans {a b c:List Ob}(x:Nw a b)(y:Nw b c):Nw a c:=⟨Nat.le_trans x.le y.le,fun i hi=>(y.eq i (Nat.lt_of_lt_of_le hi x.le)).trans (x.eq i hi)⟩
theorem Nw.get {h h':List Ob}{j:Nat}{b:Ob}(x:Nw h h')(e:h[j]?=some b):h'[j]?=some b:=(x.eq j (d5 e)).trans e
theorem Pots.nw {h h':List Ob}{ks:List Nat}(P:Pots h ks)(K:Nw h h'):Pots h' ks:=fun k hk=>by
 obtain⟨a,b,e⟩:=P k hk
 exact⟨a,b,K.get e⟩
structure Nf (h h':List Ob)(b:Ob):Prop where
 len:h'.length=h.length+1
 eq: ∀i,i<h.length->h'[i]?=h[i]?
 new:h'[h.length]?=some b
theorem Nf.put {h h':List Ob}{b:Ob}(N:Nf h h' b)(c:Ob):Nf h (h'.set h.length c) c:=
 ⟨by rw[List.length_set];exact N.len,fun i hi=>by rw[List.getElem?_set_ne (by omega)];exact N.eq i hi,fu N.new⟩
theorem Nf.mk0 {h:List Ob}{b:Ob}:Nf h (h++[b]) b:=⟨by simp,fun i hi=>by rw[List.getElem?_append_left hi],fM⟩
theorem Nf.nw {h h':List Ob}{b:Ob}(N:Nf h h' b):Nw h h':=⟨by rw[N.len];omega,N.eq⟩
theorem Nf.get {h h':List Ob}{b c:Ob}{j:Nat}(N:Nf h h' b)(e:h[j]?=some c):h'[j]?=some c:=(N.eq j (d5 e)).trans e
theorem oF (e:E17):cX [e.w]=pr (.tup (e.tos.map W.int)):=by
 have e0:cX [e.w]=bd (dM [some e.w]) finF:=rfl
 rw[e0]
 unfold dM
 cases e<;>(unfold E17.w E17.tos;simp! only[aa,ix0,ix1,ix2,ix4,ix5,uB,uw,uv,uy,ux,sC,eq_self,decide_true,tupW,List.map_cons,List.map_nil])
theorem aI {α:Type}{l:List α}{i:Nat}{x:α}(h:l[i]?=some x):l.take (i+1)=l.take i++[x]:=by rw[List.take_succ,h];rfl
theorem gH {α:Type}{l:List α}{i:Nat}{x:α}(h:l[i]?=some x):(l.take i).length=i:=by
 have:=(List.getElem?_eq_some_iff.mp h).1
 rw[List.length_take];omega
noncomputable def esOf (bs:List B23):List E17:=bs.map B23.e
def pgW (bx:W)(bs:List B23):W:=.tup [bx,.tl (bs.map B23.w)]
theorem Lw.enum {β:Type}{h:List Ob}{Q:β->List Ob->Prop}{x:W}{l:List W}{k:Sr->M β}(p:Lw h x l)(q:∀G,(∀h',Lw h' x l->G h')->Ok (k ⟨numd 0 l,G⟩) h Q):Ok (bd (enumL [x]) k) h Q:=by
 show Ok (bd (bd (srcL x) fun s=>pr ⟨numd 0 s.l,s.G⟩) k) h Q
 rw[aa]
 refine Lw.src p fun G g=>?_
 rw[br]
 exact q G g
theorem tW {β:Type}{h:List Ob}{k:W->M β}{Q:β->List Ob->Prop}{P x:W}{bs:List B23}(hp:ixW P (.int 1)=pr x)(hx:Lw h x (bs.map B23.w))(hl:bs.length<=10)(hb: ∀b∈bs,b.e.tos.length<=6)(q:∀h',Nw h h'->Ok (k (.tl ((waysL (esOf bs)).map wayW))) h' Q):Ok (bd (iB [P]) k) h Q:=by
 have e0:iB [P]=bd (jG [some P,none,none,none,none,none]) finF:=rfl
 rw[e0]
 unfold jG
 have h6: ∀e∈esOf bs,e.tos.length<=6:=fun e he=>by
  obtain⟨b,hb',rfl⟩:=List.mem_map.mp he
  exact hb b hb'
 simp!
 refine gf ?_
 simp! only[aa,hp]
 refine Lw.enum (hx.keep (Nf.mk0 (h:=h) (b:=.lst [])).nw.eq) fun G hG=>?_
 simp!
 refine cz (I:=fun i ρ h'=> ∃a b c d,ρ=[some P,some (.loc h.length),a,b,c,d]/\Nf h h' (.lst ((waysL ((esOf bs).take i)).map wayW))) ⟨_,_,_,_,rfl,Nf.mk0⟩ (fun _ _ _ I=>by obtain⟨_,_,_,_,_,N⟩:=I;exact hG _ (hx.keep N.nw.eq)) (fun i w ρ h1 hw I=>?_) fun ρ h1 I=>?_
 ·obtain⟨a,b,c,d,rfl,N⟩:=I
  obtain⟨x',hx',rfl⟩:=cW _ _ _ _ hw
  rw[List.getElem?_map] at hx'
  obtain⟨b,hp',rfl⟩:=Option.map_eq_some_iff.mp hx'
  have he:(esOf bs)[i]?=some b.e:=by unfold esOf;rw[List.getElem?_map,hp'];rfl
  have t6:=h6 _ (List.mem_of_getElem? he)
  have hi:i<bs.length:=(List.getElem?_eq_some_iff.mp hp').1
  have hi':i<(esOf bs).length:=(List.getElem?_eq_some_iff.mp he).1
  have w6:=dk (esOf bs) h6 i (by omega)
  obtain⟨nm,sts,e⟩:=b
  have t6:e.tos.length<=6:=t6
  have hs:ixW (B23.w ⟨nm,sts,e⟩) (.int 2)=pr e.w:=ix2 ..
  refine⟨_,rfl,?_⟩
  simp! only[aa,hs,oF,nW]
  generalize B23.w ⟨nm,sts,e⟩=B at *
  refine jt (I:=fun n ρ h'=> ∃c d,ρ=[some P,some (.loc h.length),some (.int (0+(i:Int))),some B,c,d]/\Nf h h' (.lst ((waysL ((esOf bs).take i)++cN i (e.tos.take n)).map wayW))) ⟨_,_,rfl,by rw[List.take_zero];show Nf h h1 (.lst ((_++[]).map wayW));rw[List.append_nil];exact N⟩ (fun _ _ _ _=>trivial) (fun n w ρ h2 hw I=>?_) fun ρ h2 I=>?_
  ·obtain⟨c,d,rfl,N2⟩:=I
   obtain⟨y,hy,rfl⟩:=cW _ _ _ _ hw
   rw[List.getElem?_map] at hy
   obtain⟨t,ht,rfl⟩:=Option.map_eq_some_iff.mp hy
   have hn:n<e.tos.length:=(List.getElem?_eq_some_iff.mp ht).1
   refine⟨_,rfl,?_⟩
   simp!
   refine ie N2.new ?_
   simp!
   refine jv N2.new (by
    rw[List.length_map,List.length_append,fY,List.length_take]
    exact Nat.lt_of_le_of_lt (show _<=66 by omega) (by decide)) ?_
   simp!
   refine aw ⟨_,rfl,_,_,rfl,?_⟩
   rw[aI ht,gY,gH ht,<-List.append_assoc]
   generalize waysL ((esOf bs).take i)++cN i (e.tos.take n)=A at *
   rw[show (A++[((i:Int),(n:Int),t)]).map wayW=A.map wayW++[.tup [.int (0+(i:Int)),.int (0+(n:Int)),.int t]] by rw[List.map_append,Int.zero_add,Int.zero_add];rfl]
   exact N2.put _
  ·obtain⟨c,d,rfl,N2⟩:=I
   rw[cI,List.length_map,List.take_length] at N2
   refine⟨_,rfl,_,_,_,_,rfl,?_⟩
   rw[aI he,fT,gH he]
   exact N2
 ·obtain⟨a,b,c,d,rfl,N⟩:=I
  rw[cI,List.length_map,show bs.length=(esOf bs).length by unfold esOf;rw[List.length_map],List.take_length] at N
  simp!
  refine js N.new ?_
  simp!
  exact q _ (N.put .gone).nw
section
variable {β:Type}{h:List Ob}{Q:β->List Ob->Prop}{j:Nat}
theorem tH {l mm:List W}{k:W->M β}(e:h[j]?=some (.lst l))(hz:l.length+mm.length<=sizeLine)(q:Ok (k .non) (h.set j (.lst (l++mm))) Q):Ok (bd (fR (.loc j) [.tl mm]) k) h Q:=by
 refine aX (a:=.non) (h':=h.set j (.lst (l++mm))) ?_ q
 unfold fR
 dsimp only
 rw[dX (show lstO (.tl mm) h=.ok mm h from rfl)]
 simp only[e,if_pos hz]
end
def bX:Env'->M Fl:=(sEx (mMeth isL fR (mVar 1) (mCons (mTl (mComp [] (mSrcA (mCons (mVar 6) mNil) enumL) (tgT [0,1]) mYes (mTup (mCons (mVar 5) (mCons (mVar 0) (mCons (mVar 1) mNil)))) 3)) mNil)))
theorem hJ:dO=(sSeq (sSet 1 (mNew (lenG mNil))) (sSeq (sFor (mSrcA (mCons (mVar 0) mNil) enumL) (tgG [(tgN 2),(tgT [3,4,5])]) (sSeq (sSet 6 (mTl (lenG mNil))) (sSeq (sIf (mB (m2 eqW (m2 ixW (mVar 5) (mC (.int 0))) (mC (.str "go")))) (sSet 6 (mTl (lenG (mCons (m2 ixW (mVar 5) (mC (.int 1))) mNil)))) sNil) (sSeq (sIf (mB (m2 eqW (m2 ixW (mVar 5) (mC (.int 0))) (mC (.str "if")))) (sSet 6 (mTl (lenG (mCons (m2 ixW (mVar 5) (mC (.int 4))) (mCons (m2 ixW (mVar 5) (mC (.int 5))) mNil))))) sNil) (sSeq (sIf (mB (m2 eqW (m2 ixW (mVar 5) (mC (.int 0))) (mC (.str "table")))) (sSet 6 (mTl (listL (mCons (m2 ixW (mVar 5) (mC (.int 2))) mNil)))) sNil) bX))))) (sRet (m1 iceW (mVar 1))))):=rfl
theorem mz {β:Type}{h:List Ob}{k:W->M β}{Q:β->List Ob->Prop}{X:W}{bs:List B23}(hX:Lw h X (bs.map B23.w))(hl:bs.length<=10)(hb: ∀b∈bs,b.e.tos.length<=6)(q:∀h',Nw h h'->Ok (k (.tl ((waysL (esOf bs)).map wayW))) h' Q):Ok (bd (bO [X]) k) h Q:=by
 have e0:bO [X]=bd (dO [some X,none,none,none,none,none,none]) finF:=rfl
 rw[e0]
 rw[hJ]
 have h6: ∀e∈esOf bs,e.tos.length<=6:=fun e he=>by
  obtain⟨b,hb',rfl⟩:=List.mem_map.mp he
  exact hb b hb'
 simp!
 refine gf ?_
 simp!
 refine Lw.enum (hX.keep (Nf.mk0 (h:=h) (b:=.lst [])).nw.eq) fun G hG=>?_
 simp!
 refine cz (I:=fun i ρ h'=> ∃a b c d e,ρ=[some X,some (.loc h.length),a,b,c,d,e]/\Nf h h' (.lst ((waysL ((esOf bs).take i)).map wayW))) ⟨_,_,_,_,_,rfl,Nf.mk0⟩ (fun _ _ _ I=>by obtain⟨_,_,_,_,_,_,N⟩:=I;exact hG _ (hX.keep N.nw.eq)) (fun i w ρ h1 hw I=>?_) fun ρ h1 I=>?_
 ·obtain⟨a,b,c,d,f,rfl,N⟩:=I
  obtain⟨x,hx,rfl⟩:=cW _ _ _ _ hw
  rw[List.getElem?_map] at hx
  obtain⟨b,hp,rfl⟩:=Option.map_eq_some_iff.mp hx
  have he:(esOf bs)[i]?=some b.e:=by unfold esOf;rw[List.getElem?_map,hp];rfl
  have t6:=h6 _ (List.mem_of_getElem? he)
  have hi:i<bs.length:=(List.getElem?_eq_some_iff.mp hp).1
  have hi':i<(esOf bs).length:=(List.getElem?_eq_some_iff.mp he).1
  have w6:=dk (esOf bs) h6 i (by omega)
  obtain⟨nm,sts,e⟩:=b
  have t6:e.tos.length<=6:=t6
  refine⟨[some X,some (.loc h.length),some (.int (0+(i:Int))),some (.str nm),some (.tl sts),some e.w,f],rfl,?_⟩
  have fin: ∀ {Q:Fl->List Ob->Prop},(∀h2,Nf h h2 (.lst ((waysL ((esOf bs).take (i+1))).map wayW))->Q (.nx [some X,some (.loc h.length),some (.int (0+(i:Int))),some (.str nm),some (.tl sts),some e.w,some (.tl (e.tos.map W.int))]) h2)->Ok (bX [some X,some (.loc h.length),some (.int (0+(i:Int))),some (.str nm),some (.tl sts),some e.w,some (.tl (e.tos.map W.int))]) h1 Q:=by
   intro Q q2
   unfold bX
   have gl: ∀ {α:Type} (q:M α),gd ((numd 0 (e.tos.map W.int)).length<=sizeLine) q=q:=fun q=>aq (by rw[cI,List.length_map];exact sz (by omega))
   simp!
   refine ie N.new ?_
   simp! only[aa,p8,gl]
   refine cO (I:=fun n a h'=>h'=h1/\a=(cN i (e.tos.take n)).map wayW) ⟨rfl,rfl⟩ dE (fun _ _ _ _=>trivial) (fun n w a h' hw I=>?_) fun a h' I=>?_
   ·obtain⟨rfl,rfl⟩:=I
    obtain⟨y,hy,rfl⟩:=cW _ _ _ _ hw
    rw[List.getElem?_map] at hy
    obtain⟨t,ht,rfl⟩:=Option.map_eq_some_iff.mp hy
    refine⟨_,rfl,?_⟩
    simp! only[List.replicate,List.cons_append,List.nil_append,aa]
    refine aw ⟨rfl,?_⟩
    rw[aI ht,gY,gH ht,List.map_append,Int.zero_add,Int.zero_add]
    rfl
   ·obtain⟨rfl,rfl⟩:=I
    rw[cI,List.length_map,List.take_length]
    simp!
    refine tH N.new (mm:=(cN i e.tos).map wayW) (by rw[List.length_map,List.length_map,fY];exact sz (by omega)) ?_
    simp!
    refine aw (q2 _ ?_)
    rw[aI he,fT,gH he,List.map_append]
    exact N.put _
  cases e with
  |go t=>
   unfold E17.w
   simp! only[aa,ix0,ix1,uT,uC]
   exact fin fun h2 N2=>⟨_,rfl,_,_,_,_,_,rfl,N2⟩
  |iff s a b x y=>
   unfold E17.w
   simp! only[aa,ix0,ix4,ix5,uB,uA]
   exact fin fun h2 N2=>⟨_,rfl,_,_,_,_,_,rfl,N2⟩
  |table e ts=>
   unfold E17.w
   simp! only[aa,ix0,ix2,uw,uv]
   exact fin fun h2 N2=>⟨_,rfl,_,_,_,_,_,rfl,N2⟩
  |stop=>
   unfold E17.w
   simp! only[aa,ix0,uy,ux,sC]
   exact fin fun h2 N2=>⟨_,rfl,_,_,_,_,_,rfl,N2⟩
 ·obtain⟨a,b,c,d,e,rfl,N⟩:=I
  rw[cI,List.length_map,show bs.length=(esOf bs).length by unfold esOf;rw[List.length_map],List.take_length] at N
  simp!
  refine js N.new ?_
  simp!
  exact q _ (N.put .gone).nw
end
set_option maxHeartbeats 1000000
section
theorem mV {κ:Type} [DecidableEq κ] (x x':κ)(y:W): ∀ (ks:List κ) (ws:List W),ks.length=ws.length->atK ks (mapAt ks ws x y) x'=if x=x' then (if (ks.any fun k=>decide (k=x))=true then some y else none) else atK ks ws x'
 |[],ws,_=>by
  unfold atK
  split<;>rfl
 |k::ks,[],h=>by cases h
 |k::ks,w::ws,h=>by
  have ih:=mV x x' y ks ws (Nat.succ.inj h)
  rw[mapAt,atK,atK,ih,List.any_cons]
  by_cases e:x=x'
  ·subst e
   by_cases e2:k=x
   ·simp [e2]
   ·simp [e2]
  ·by_cases e2:k=x'
   ·have:k≠x:=fun z=>e (z.symm.trans e2)
    simp [e,e2,this]
    intro z;exact absurd z.symm e
   ·simp [e,e2]
theorem mW {κ:Type} [DecidableEq κ] (x x':κ)(y:W): ∀ (ks:List κ) (ws:List W),ks.length=ws.length->(ks.any fun k=>decide (k=x))=false->atK (ks++[x]) (ws++[y]) x'=if x=x' then some y else atK ks ws x'
 |[],[],_,_=>by simp [atK]
 |[],_::_,h,_=>by cases h
 |k::ks,[],h,_=>by cases h
 |k::ks,w::ws,h,a=>by
  rw[List.any_cons,Bool.or_eq_false_iff] at a
  have ih:=mW x x' y ks ws (Nat.succ.inj h) a.2
  rw[List.cons_append,List.cons_append,atK,atK,ih]
  have e2:k≠x:=of_decide_eq_false a.1
  by_cases e:k=x'
  ·have:x≠x':=fun z=>e2 (e.trans z.symm)
   simp [e,this]
  ·simp [e]
theorem i3 {κ:Type} [DecidableEq κ] (x:κ)(y:W): ∀ (ks:List κ) (ws:List W),ks.length=ws.length->(mapAt ks ws x y).length=ws.length
 |[],ws,h=>h
 |k::ks,[],h=>by cases h
 |k::ks,w::ws,h=>by rw[mapAt,List.length_cons,List.length_cons,i3 x y ks ws (Nat.succ.inj h)]
theorem jL {κ:Type} [DecidableEq κ] {x:κ}{y:W}{ks ks':List κ}{ws ws':List W}(h:ks.length=ws.length)(e:putW ks ws x y=(ks',ws')):ks'.length=ws'.length/\ks'.length<=ks.length+1/\ ∀x',atK ks' ws' x'=if x=x' then some y else atK ks ws x':=by
 unfold putW at e
 by_cases a:(ks.any fun k=>decide (k=x))=true
 ·rw[if_pos a] at e
  cases e
  refine⟨by rw[i3 x y ks ws h];exact h,Nat.le_succ _,fun x'=>?_⟩
  rw[mV x x' y ks ws h,if_pos a]
 ·rw[if_neg a] at e
  cases e
  refine⟨by rw[List.length_append,List.length_append,h];rfl,by rw[List.length_append];exact Nat.le_refl _,fun x'=>?_⟩
  exact mW x x' y ks ws h (by rw[<-Bool.not_eq_true];exact a)
section
variable {β:Type}{h:List Ob}{Q:β->List Ob->Prop}{j:Nat}
theorem kb {k:W->M β}{ρ:Env'}(q:Ok (k (.loc h.length)) (h++[.dit [] []]) Q):Ok (bd (jB ρ) k) h Q:=aX (a:=.loc h.length) (h':=h++[.dit [] []]) rfl q
theorem gJ {ks:List (List Key)}{ws:List W}{k:W->M β}(e:h[j]?=some (.dit ks ws))(q:Ok (k (.loc j)) h Q):Ok (bd (isDT (.loc j)) k) h Q:=by
 refine aX (a:=.loc j) (h':=h) ?_ q
 have:ditOf (.loc j) h=some (ks,ws):=by unfold ditOf;simp only[e]
 unfold isDT
 rw[this]
theorem gN {ks:List (List Key)}{ws:List W}{y d:W}{q:List Key}(e:h[j]?=some (.dit ks ws))(ek:keyT y=some q):getT (.loc j) y d h=.ok ((atK ks ws q).getD d) h:=by
 have:ditOf (.loc j) h=some (ks,ws):=by unfold ditOf;simp only[e]
 unfold getT
 simp only[this,ek]
theorem pc {ks ks':List (List Key)}{ws ws':List W}{q:List Key}{v:W}{k:Unit->M β}(e:h[j]?=some (.dit ks ws))(hz:ks.length<sizeLine)(e2:putW ks ws q v=(ks',ws'))(r:Ok (k ()) (h.set j (.dit ks' ws')) Q):Ok (bd (fV (.loc j) (.kt q) v) k) h Q:=by
 refine aX (a:=()) (h':=h.set j (.dit ks' ws')) ?_ r
 unfold fV
 simp only[e,if_pos hz,e2]
end
structure Nd (h h':List Ob)(j:Nat)(b:Ob):Prop where
 nw:Nw h h'
 ge:h.length<=j
 new:h'[j]?=some b
theorem Nd.put {h h':List Ob}{j:Nat}{b:Ob}(N:Nd h h' j b)(c:Ob):Nd h (h'.set j c) j c:=
 ⟨⟨by rw[List.length_set];exact N.nw.le,fun i hi=>by rw[List.getElem?_set_ne (by have:=N.ge;omega)];exact N.nw.eq i hi⟩,N.ge,fu N.new⟩
theorem Nd.more {h h' h2:List Ob}{j:Nat}{b:Ob}(N:Nd h h' j b)(K:Nw h' h2):Nd h h2 j b:=⟨N.nw.trans K,N.ge,K.get N.new⟩
theorem Nd.mk0 {h:List Ob}{b:Ob}:Nd h (h++[b]) h.length b:=⟨Nf.mk0.nw,Nat.le_refl _,fM⟩
noncomputable abbrev Zw:=Bool×Int×Int×Int
def tabOf (es:List E17)(a:Int):Bool:=match es[a.toNat]? with
 |some e=>e.tab
 |none=>false
def zsL (es:List E17)(cs:List Int):List Zw:=List.zipWith (fun (w:Way) c=>(tabOf es w.1,w.1,w.2.2,c)) (waysL es) cs
def gsum (zs:List Zw)(a b:Int):Int:=(zs.map fun z=>if z.1=false/\z.2.1=a/\z.2.2.1=b then z.2.2.2 else 0).sum
theorem eF (zs:List Zw)(z:Zw)(a b:Int):gsum (zs++[z]) a b=gsum zs a b+if z.1=false/\z.2.1=a/\z.2.2.1=b then z.2.2.2 else 0:=by
 unfold gsum
 rw[List.map_append,List.sum_append]
 simp
noncomputable def E17.kind:E17->Str
 |.go _=> "go"
 |.iff _ _ _ _ _=> "if"
 |.table _ _=> "table"
 |.stop=> "stop"
theorem mE (e:E17):ixW e.w (.int 0)=pr (.str e.kind):=by cases e<;>exact ix0 ..
theorem kI (e:E17):decide (e.kind= "table")=e.tab:=by
 cases e with
 |go _=>exact uC
 |iff _ _ _ _ _=>exact uA
 |table _ _=>exact decide_eq_true rfl
 |stop=>exact sC
theorem pU (b:B23):ixW b.w (.int 2)=pr b.e.w:=ix2 ..
theorem p4 {bs:List B23}{i:Nat}{e:E17}(h:(esOf bs)[i]?=some e): ∃b,bs[i]?=some b/\b.e=e:=by
 unfold esOf at h
 rw[List.getElem?_map] at h
 obtain⟨b,h1,h2⟩:=Option.map_eq_some_iff.mp h
 exact⟨b,h1,h2⟩
theorem lZ (a b:List W):srcZ false false [.tl a,.tl b]=pr ⟨zipW a b,fun _=>True/\True⟩:=rfl
theorem kt2 (a b:Int):ktW [.int a,.int b]=pr (.kt [.inl a,.inl b]):=by
 show gd (([.int a,.int b]:List W).length<=sizeLine) (pr (W.kt [.inl a,.inl b]))=_
 exact aq (show 2<=sizeLine by decide)
structure GK (ks:List (List Key))(ws:List W)(G:Int->Int->Int):Prop where
 len:ks.length=ws.length
 get: ∀a b,(atK ks ws [.inl a,.inl b]).getD (.int 0)=.int (G a b)
theorem om {es:List E17}{cs:List Int}{i:Nat}{w:Way}{c:Int}(h1:(waysL es)[i]?=some w)(h2:cs[i]?=some c):(zsL es cs)[i]?=some (tabOf es w.1,w.1,w.2.2,c):=by
 unfold zsL
 rw[List.getElem?_zipWith,h1,h2]
theorem jO {es:List E17}{cs:List Int}{i:Nat}{x:W}(e:(zipW ((waysL es).map wayW) (cs.map W.int))[i]?=some x): ∃w c,(waysL es)[i]?=some w/\cs[i]?=some c/\x=.tup [wayW w,.int c]:=by
 obtain⟨x,y,hx,hy,rfl⟩:=jP e
 rw[List.getElem?_map] at hx hy
 obtain⟨w,hw,rfl⟩:=Option.map_eq_some_iff.mp hx
 obtain⟨c,hc,rfl⟩:=Option.map_eq_some_iff.mp hy
 exact⟨w,c,hw,hc,rfl⟩
theorem lW {α β:Type}(f:α->W)(g:β->W)(l:List α)(m:List β)(h:l.length=m.length):(zipW (l.map f) (m.map g)).length=m.length:=by
 unfold zipW
 rw[List.length_zipWith,List.length_map,List.length_map,h,Nat.min_self]
theorem ol {es:List E17}{cs:List Int}(h:(waysL es).length=cs.length):(zsL es cs).length=cs.length:=by
 unfold zsL
 rw[List.length_zipWith,h,Nat.min_self]
theorem p3 {h:List Ob}{P x:W}{bs:List B23}{cs:List Int}(hp:ixW P (.int 1)=pr x)(hx:Lw h x (bs.map B23.w))(hl:bs.length<=10)(hb: ∀b∈bs,b.e.tos.length<=6)(hc:(waysL (esOf bs)).length=cs.length):
  Ok (fQ [P,.tl (cs.map W.int)]) h fun w h'=> ∃j ks ws,w=.loc j/\Nd h h' j (.dit ks ws)/\GK ks ws (gsum (zsL (esOf bs) cs)):=by
 have e0:fQ [P,.tl (cs.map W.int)]=bd (gQ [some (P),some (.tl (cs.map W.int)),none,none,none,none,none]) finF:=rfl
 rw[e0]
 unfold gQ
 have lc:cs.length<=60:=by
  have h6: ∀e∈esOf bs,e.tos.length<=6:=fun e he=>by
   obtain⟨b,hb',rfl⟩:=List.mem_map.mp he
   exact hb b hb'
  have l2:(esOf bs).length=bs.length:=by unfold esOf;rw[List.length_map]
  have:=dk (esOf bs) h6 (esOf bs).length (Nat.le_refl _)
  rw[List.take_length] at this
  omega
 simp!
 refine kb ?_
 simp!
 refine tW hp (hx.keep (Nf.mk0 (h:=h) (b:=.dit [] [])).nw.eq) hl hb fun h1 N1=>?_
 have D1:=(Nd.mk0 (h:=h) (b:=.dit [] [])).more N1
 simp! only[aa,lZ]
 refine cz (I:=fun i ρ h'=> ∃a b c d ks ws,ρ=[some P,some (.tl (cs.map W.int)),some (.loc h.length),a,b,c,d]/\Nd h h' h.length (.dit ks ws)/\GK ks ws (gsum ((zsL (esOf bs) cs).take i))/\ks.length<=i) ⟨_,_,_,_,[],[],rfl,D1,⟨rfl,fun a b=>rfl⟩,Nat.le_refl _⟩ (fun _ _ _ _=>⟨trivial,trivial⟩) (fun i y ρ h2 hy I=>?_) fun ρ h2 I=>?_
 ·obtain⟨a,b,c,d,ks,ws,rfl,D,G,lk⟩:=I
  obtain⟨w,n,hw,hn,rfl⟩:=jO hy
  have hi:i<cs.length:=(List.getElem?_eq_some_iff.mp hn).1
  obtain⟨e,he,w0,_⟩:=jQ (List.mem_of_getElem? hw)
  have hz:=om hw hn
  have ht:tabOf (esOf bs) w.1=e.tab:=by unfold tabOf;rw[he]
  rw[ht] at hz
  obtain⟨b',hb',rfl⟩:=p4 he
  obtain⟨wa,wn,wt⟩:=w
  refine⟨[some P,some (.tl (cs.map W.int)),some (.loc h.length),some (wayW (wa,wn,wt)),some (.int n),c,d],rfl,?_⟩
  unfold wayW
  have w0:0<=wa:=w0
  have hb':bs[wa.toNat]?=some b':=hb'
  simp! only[aa,hp,ix0,ix2]
  refine (hx.keep D.nw.eq).ix (w:=b'.w) (di w0 (by rw[List.getElem?_map,hb'];rfl)) ?_
  simp! only[aa,pU,ix2,mE,kI]
  rw[aI hz]
  cases et:b'.e.tab with
  |true=>
   simp!
   refine aw ⟨_,rfl,_,_,_,_,ks,ws,rfl,D,⟨G.len,fun a b=>?_⟩,Nat.le_succ_of_le lk⟩
   rw[G.get,eF,if_neg (by simp),Int.add_zero]
  |false=>
   simp! only[aa,mKt,kt2,mGetT]
   refine gJ D.new ?_
   simp!
   refine aX (gN D.new rfl) ?_
   rw[G.get wa wt]
   simp!
   rcases ep:putW ks ws [.inl wa,.inl wt] (.int (gsum ((zsL (esOf bs) cs).take i) wa wt+n)) with⟨ks',ws'⟩
   obtain⟨l1,l2,g⟩:=jL G.len ep
   refine pc D.new (Nat.lt_of_le_of_lt (show _<=60 by omega) (by decide)) ep ?_
   simp!
   refine aw ⟨_,rfl,_,_,_,_,ks',ws',rfl,D.put _,⟨l1,fun a b=>?_⟩,by omega⟩
   rw[g,eF]
   by_cases q:wa=a/\wt=b
   ·rw[if_pos (by rw[q.1,q.2]),if_pos ⟨rfl,q⟩,q.1,q.2];rfl
   ·rw[if_neg (fun z=>q ⟨by injection z with z1 z2;exact Sum.inl.inj z1,by injection z with z1 z2;injection z2 with z3 z4;exact Sum.inl.inj z3⟩),if_neg (fun z=>q z.2),Int.add_zero]
    exact G.get a b
 ·obtain⟨a,b,c,d,ks,ws,rfl,D,G,lk⟩:=I
  rw[lW _ _ _ _ hc,<-ol hc,List.take_length] at G
  simp!
  exact aw ⟨_,ks,ws,rfl,D,G⟩
end
set_option maxHeartbeats 1000000
section
theorem uM {k:Nat}(hk:k<10): ∃s:Str,ixW (.str "abcdefghij") (.int (0+(k:Int)))=pr (.str s)/\addW (.str "n") (.str s)=pr (.str ("n"++s))/\PyData.strOk ("n"++s)=true:=by
 have:k=0\/k=1\/k=2\/k=3\/k=4\/k=5\/k=6\/k=7\/k=8\/k=9:=by omega
 rcases this with rfl|rfl|rfl|rfl|rfl|rfl|rfl|rfl|rfl|rfl<;>exact⟨_,rH (by decide+kernel) rfl,qm (by decide+kernel),by decide+kernel⟩
theorem jo (ts:List Int){n:Nat}: ∀x∈ts.map W.int,Pd (n+1) x:=fun x hx=>by
 obtain⟨t,_,rfl⟩:=List.mem_map.mp hx
 exact .int
structure Ky (ks:List Nat)(h h':List Ob):Prop where
 le:h.length<=h'.length
 eq: ∀i,i<h.length->i ∉ ks->h'[i]?=h[i]?
 re:Pots h' ks
theorem Ky.trans {ks:List Nat}{a b c:List Ob}(x:Ky ks a b)(y:Ky ks b c):Ky ks a c:=⟨Nat.le_trans x.le y.le,fun i hi hj=>(y.eq i (Nat.lt_of_lt_of_le hi x.le) hj).trans (x.eq i hi hj),y.re⟩
theorem Ky.of_kn {ks:List Nat}{a b:List Ob}{j:Nat}(P:Pots a ks)(x:Kn j a b)(hj:j∈ks):Ky ks a b:=⟨x.le,fun i hi n=>x.eq i hi fun z=>n (z▸hj),P.kn x⟩
theorem Ky.of_nw {ks:List Nat}{a b:List Ob}(P:Pots a ks)(x:Nw a b):Ky ks a b:=⟨x.le,fun i hi _=>x.eq i hi,P.nw x⟩
theorem lN {ks:List Nat}{i:Int}(h0:0<=i)(h1:i<(ks.length:Int)): ∃k∈ks,ixW (.tl (ks.map W.loc)) (.int i)=pr (.loc k):=by
 have hi:i.toNat<ks.length:=by omega
 exact⟨ks[i.toNat],List.getElem_mem _,gq (di h0 (by rw[List.getElem?_map,List.getElem?_eq_getElem hi];rfl))⟩
theorem i7 {w:W}(hv: ∀a,vOf w=some a->scal a a=false)(p:Pd 50 w):eqW w w=pr (.bl true):=jH fun h=>by
 obtain⟨d,e,c⟩:=p.data (h:=h)
 have:(match dataH h 50 w,dataH h 50 w with
  |some d,some e=>if d.canLay0=true/\e.canLay0=true then some (PyData.eqv d e) else none
  |_,_=>none)=some true:=by
  rw[e]
  show (if d.canLay0=true/\d.canLay0=true then some (PyData.eqv d d) else none)=_
  rw[if_pos ⟨c,c⟩,kK d c]
 unfold eqB
 cases v:vOf w with
 |none=>exact this
 |some a=>
  show (if scal a a=true then _ else _)=_
  rw[if_neg (by rw[hv a v];simp)];exact this
section
variable {β:Type}{h:List Ob}{Q:β->List Ob->Prop}{j:Nat}
end
end
set_option maxHeartbeats 1000000
section
theorem uK:PyData.strOk "if"=true:=by decide+kernel
theorem uL:PyData.strOk "go"=true:=by decide+kernel
theorem pb:PyData.strOk "table"=true:=by decide+kernel
theorem qZ:PyData.strOk "stop"=true:=by decide+kernel
theorem tw:PyData.strOk "say"=true:=by decide+kernel
theorem pq:PyData.strOk "ask"=true:=by decide+kernel
theorem tz:PyData.strOk "put"=true:=by decide+kernel
theorem E17.Good.pd {m:Int}{e:E17}(g:e.Good m):Pd 10 e.w:=by
 cases e with
 |go t=>exact pdT (by simp) (aF (.str uL) (aF .int bW))
 |iff s a b x y=>exact pdT (by simp) (aF (.str uK) (aF (.str g.2.2.2.2) (aF (g.2.2.1.up (by decide)) (aF (g.2.2.2.1.up (by decide)) (aF .int (aF .int bW))))))
 |table e ts=>exact pdT (by simp) (aF (.str pb) (aF (g.2.2.up (by decide)) (aF (pdT (by rw[List.length_map];have:=g.1;omega) (jo ts (n:=7))) bW)))
 |stop=>exact pdT (by simp) (aF (.str qZ) bW)
structure BG (m:Int)(b:B23):Prop where
 g:b.e.Good m
 pd:Pd 12 b.w
theorem BG.mk' {m:Int}{nm:Str}{sts:List W}{e:E17}(g:e.Good m)(hn:PyData.strOk nm=true)(hs:sts.length<=8)(hp: ∀x∈sts,Pd 9 x):BG m ⟨nm,sts,e⟩:=
 ⟨g,pdT (by simp) (aF (.str hn) (aF (.lst (Nat.le_trans hs (by decide)) fun x hx=>(hp x hx).up (by decide)) (aF (g.pd.up (by decide)) bW)))⟩
def stsW:List W:=[.tl [],.tl [.tup [.str "say",.tup [.str "box",.str "a"]]],.tl [.tup [.str "ask",.str "a"]],.tl [.tup [.str "put",.str "a",.tup [.str "number",.int 7]],.tup [.str "ask",.str "a"]]]
theorem sA {v:Int}(h0:0<=v)(h1:v<4): ∃sts:List W,atI stsW v=some (.tl sts)/\sts.length<=8/\ ∀x∈sts,Pd 9 x:=by
 have:v=0\/v=1\/v=2\/v=3:=by omega
 rcases this with rfl|rfl|rfl|rfl
 ·exact⟨_,rfl,by simp,bW⟩
 ·exact⟨_,rfl,by simp,aF (pdT (by simp) (aF (.str tw) (aF (pd2s ju kh) bW))) bW⟩
 ·exact⟨_,rfl,by simp,aF (pd2s pq kh) bW⟩
 ·exact⟨_,rfl,by simp,aF (pdT (by simp) (aF (.str tz) (aF (.str kh) (aF (pd2i gc) bW)))) (aF (pd2s pq kh) bW)⟩
noncomputable def bxW:W:=.tl [.tup [.str "a",.int 3]]
def bP:Env'->M Fl:=(sEx (mMeth isL cG (mVar 3) (mCons (mTup (mCons (m2 addW (mC (.str "n")) (m2 ixW (mC (.str "abcdefghij")) (mVar 4))) (mCons (mTl (listL (mCons (m2 ixW (mVar 2) (mCall (arW 2 av) (mCons (mVar 0) (mCons (mC (.int 4)) mNil)))) mNil))) (mCons (mCall (arW 2 cU) (mCons (mVar 0) (mCons (mVar 1) mNil))) mNil)))) mNil)))
theorem fD:cF=(sSeq (sSet 2 (mTl (lenG (mCons (mTl (lenG mNil)) (mCons (mTl (lenG (mCons (mTup (mCons (mC (.str "say")) (mCons (mTup (mCons (mC (.str "box")) (mCons (mC (.str "a")) mNil))) mNil))) mNil))) (mCons (mTl (lenG (mCons (mTup (mCons (mC (.str "ask")) (mCons (mC (.str "a")) mNil))) mNil))) (mCons (mTl (lenG (mCons (mTup (mCons (mC (.str "put")) (mCons (mC (.str "a")) (mCons (mTup (mCons (mC (.str "number")) (mCons (mC (.int 7)) mNil))) mNil)))) (mCons (mTup (mCons (mC (.str "ask")) (mCons (mC (.str "a")) mNil))) mNil)))) mNil))))))) (sSeq (sSet 3 (mNew (lenG mNil))) (sSeq (sFor (mSrcA (mCons (mVar 1) mNil) rng1) (tgN 4) bP) (sRet (mTup (mCons (mTl (lenG (mCons (mTup (mCons (mC (.str "a")) (mCons (mC (.int 3)) mNil))) mNil))) (mCons (m1 iceW (mVar 3)) mNil))))))):=rfl
theorem lq {h:List Ob}{j:Nat}{N:Int}{m:Nat}(hN:N=(m:Int))(m1:1<=m)(m2:m<=10)(R:Pot h j):Ok (bH [.loc j,.int N]) h fun w h'=> ∃bs:List B23,w=pgW bxW bs/\bs.length=m/\(∀b∈bs,BG N b)/\Kn j h h':=by
 have e0:bH [.loc j,.int N]=bd (cF [some (.loc j),some (.int N),none,none,none]) finF:=rfl
 have bj:j<h.length:=by obtain⟨a,b,e⟩:=R;exact d5 e
 rw[e0,fD]
 simp! only[aa,tupW]
 refine gf ?_
 simp! only[aa,g7 (show (-(2 ^ 62):Int)<=N by omega) (show N<2 ^ 62 by omega)]
 have eN:N.toNat=m:=by omega
 refine cz (I:=fun i ρ h'=> ∃a,∃bs:List B23,ρ=[some (.loc j),some (.int N),some (.tl stsW),some (.loc h.length),a]/\Kn j h h'/\h'[h.length]?=some (.lst (bs.map B23.w))/\bs.length=i/\ ∀b∈bs,BG N b) ⟨_,[],rfl,⟨by simp,fun i hi _=>by rw[List.getElem?_append_left hi],?_⟩,fM,rfl,fun b hb=>absurd hb List.not_mem_nil⟩ (fun _ _ _ _=>trivial) (fun i w ρ h1 hw I=>?_) fun ρ h1 I=>?_
 ·obtain⟨a,b,e⟩:=R;exact⟨a,b,mI e⟩
 ·obtain⟨a,bs,rfl,K,e1,l1,g1⟩:=I
  obtain⟨rfl,hi⟩:=du _ _ _ _ hw
  rw[eN] at hi
  obtain⟨s,s1,s2,s3⟩:=uM (k:=i) (by omega)
  refine⟨_,rfl,?_⟩
  unfold bP
  simp!
  refine ie e1 ?_
  simp! only[aa,s1,s2]
  refine bN K.re (by decide) (by decide) fun v h2 v0 v1 K2=>?_
  obtain⟨sts,t1,t2,t3⟩:=sA v0 v1
  simp! only[aa,gq t1,dq,rp]
  refine bS (t8 (by omega) (by omega) K2.re) fun w h3 qq_=>?_
  obtain⟨e,ew,eg,K3⟩:=qq_
  subst ew
  have K4:=(K.trans K2.kn).trans K3
  have e3:h3[h.length]?=some (.lst (bs.map B23.w)):=by
   rw[K3.eq _ (Nat.lt_of_lt_of_le (d5 e1) K2.kn.le) (by omega),K2.kn.eq _ (d5 e1) (by omega)];exact e1
  simp! only[aa,tupW]
  refine jv e3 (by rw[List.length_map];exact Nat.lt_of_le_of_lt (show _<=10 by omega) (by decide)) ?_
  simp!
  refine aw ⟨_,rfl,_,bs++[⟨"n"++s,sts,e⟩],rfl,⟨by rw[List.length_set];exact K4.le,fun i hi hj=>by rw[List.getElem?_set_ne (by omega)];exact K4.eq i hi hj,?_⟩,?_,by rw[List.length_append,l1];rfl,fun b hb=>?_⟩
  ·obtain⟨a,b,q⟩:=K4.re
   exact⟨a,b,by rw[List.getElem?_set_ne (by omega)];exact q⟩
  ·rw[fu e3,List.map_append];rfl
  ·rcases List.mem_append.mp hb with hb|hb
   ·exact g1 b hb
   ·rw[List.mem_singleton.mp hb];exact BG.mk' eg s3 t2 t3
 ·obtain⟨a,bs,rfl,K,e1,l1,g1⟩:=I
  rw[ci,eN] at l1
  simp!
  refine js e1 ?_
  simp! only[aa,tupW]
  refine aw ⟨bs,rfl,l1,g1,⟨by rw[List.length_set];exact K.le,fun i hi hj=>by rw[List.getElem?_set_ne (by omega)];exact K.eq i hi hj,?_⟩⟩
  obtain⟨a,b,q⟩:=K.re
  exact⟨a,b,by rw[List.getElem?_set_ne (by omega)];exact q⟩
theorem cp9:CPow 10 9:=⟨by decide,by decide,by decide⟩
theorem cp19:CPow 10 19:=⟨by decide,by decide,by decide⟩
theorem qw {v:Int}(h0:0<=v)(h1:v<3): ∃s:Int,atI [W.int 2,.int 5,.int 1000] v=some (.int s)/\0<s/\s<=1000:=by
 have:v=0\/v=1\/v=2:=by omega
 rcases this with rfl|rfl|rfl
 ·exact⟨_,rfl,by decide,by decide⟩
 ·exact⟨_,rfl,by decide,by decide⟩
 ·exact⟨_,rfl,by decide,by decide⟩
theorem qg {h:List Ob}{j:Nat}{v:Int}(v0:0<=v)(v1:v<4)(R:Pot h j):Ok (cL [.loc j,.int v]) h fun w h'=> ∃c:Int,w=.int c/\0<=c/\Kp j h h':=by
 have e0:cL [.loc j,.int v]=bd (dg [some (.loc j),some (.int v)]) finF:=rfl
 rw[e0]
 unfold dg
 by_cases c:v<3
 ·obtain⟨s,s1,s2,s3⟩:=qw v0 c
  simp! only[aa,decide_eq_true c,gq s1]
  refine bN R s2 (Int.lt_of_le_of_lt s3 (by decide)) fun x h1 x0 _ K=>?_
  simp!
  exact aw ⟨x,rfl,x0,K⟩
 ·simp! only[aa,decide_eq_false c,fB cp9]
  refine bN R (by decide) (by decide) fun x h1 x0 _ K=>?_
  simp! only[aa,fB cp19,fB cp9,dl (ij (i:=x) (j:=10 ^ (19:Int).toNat) (by decide) (by decide))]
  refine bN K.re (by decide) (by decide) fun y h2 y0 _ K2=>?_
  simp!
  exact aw ⟨_,rfl,Int.add_nonneg (Int.mul_nonneg x0 (by decide)) y0,K.trans K2⟩
theorem n8 {h:List Ob}{ks:List Nat}{bs:List B23}(hk:ks≠ [])(hl:bs.length<=10)(hb: ∀b∈bs,b.e.tos.length<=6)(P:Pots h ks):Ok (cj [.tl (ks.map W.loc),.tl (bs.map B23.w)]) h fun w h'=> ∃cs:List Int,w=.tl (cs.map W.int)/\(waysL (esOf bs)).length=cs.length/\(∀c∈cs,0<=c)/\Ky ks h h':=by
 have e0:cj [.tl (ks.map W.loc),.tl (bs.map B23.w)]=bd (cQ [some (.tl (ks.map W.loc)),some (.tl (bs.map B23.w)),none]) finF:=rfl
 rw[e0]
 unfold cQ
 have lk:0<ks.length:=List.length_pos_iff.mpr hk
 obtain⟨k0,hk0,ek0⟩:=lN (ks:=ks) (i:=0) (by decide) (by omega)
 obtain⟨L,hL⟩: ∃L:Int,L=(ks.length:Int):=⟨_,rfl⟩
 have lc:(waysL (esOf bs)).length<=60:=by
  have h6: ∀e∈esOf bs,e.tos.length<=6:=fun e he=>by
   obtain⟨b,hb',rfl⟩:=List.mem_map.mp he
   exact hb b hb'
  have l2:(esOf bs).length=bs.length:=by unfold esOf;rw[List.length_map]
  have:=dk (esOf bs) h6 (esOf bs).length (Nat.le_refl _)
  rw[List.take_length] at this
  omega
 have eL:lenW [.tl (ks.map W.loc)]=pr (.int L):=by rw[hL,lenW_tl,List.length_map]
 have ixk: ∀i:Int,0<=i->i<L-> ∃k∈ks,ixW (.tl (ks.map W.loc)) (.int i)=pr (.loc k):=fun i a b=>lN a (by rw[<-hL];exact b)
 have L0:0<L:=by omega
 obtain⟨N,hN⟩: ∃N:Int,N=((waysL (esOf bs)).length:Int):=⟨_,rfl⟩
 have eNn:N.toNat=(waysL (esOf bs)).length:=by omega
 have eW:lenW [.tl ((waysL (esOf bs)).map wayW)]=pr (.int N):=by rw[hN,lenW_tl,List.length_map]
 generalize (W.tl (ks.map W.loc))=PW at *
 simp! only[aa,ek0]
 refine bN (P k0 hk0) (by decide) (by decide) fun v h1 v0 v1 K1=>?_
 have Y1:=Ky.of_kn P K1.kn hk0
 simp!
 refine mz (.inl rfl) hl hb fun h2 N2=>?_
 have Y2:=Y1.trans (Ky.of_nw Y1.re N2)
 have gl: ∀ {α:Type} (q:M α),gd ((intsW 0 N.toNat).length<=sizeLine) q=q:=fun q=>aq (by rw[ci];exact sz (by omega))
 generalize W.tl ((waysL (esOf bs)).map wayW)=WW at *
 simp! only[aa,eW,g7 (show (-(2 ^ 62):Int)<=N by omega) (show N<2 ^ 62 by omega),gl]
 refine cO (I:=fun i a h'=> ∃cs:List Int,a=cs.map W.int/\cs.length=i/\(∀c∈cs,0<=c)/\Ky ks h h') ⟨[],rfl,rfl,fun t ht=>absurd ht List.not_mem_nil,Y2⟩ dE (fun _ _ _ _=>trivial) (fun i w a h' hw I=>?_) fun a h' I=>?_
 ·obtain⟨cs,rfl,rfl,c0,Y⟩:=I
  obtain⟨rfl,hi⟩:=du _ _ _ _ hw
  refine⟨_,rfl,?_⟩
  obtain⟨k,hk,ek⟩:=ixk ((0+(cs.length:Int)) % L) (Int.emod_nonneg _ (by omega)) (Int.emod_lt_of_pos _ L0)
  simp! only[List.replicate,List.cons_append,List.nil_append,aa,eL,dm L0,ek]
  refine Ok.imp (qg v0 v1 (Y.re k hk)) fun w h3 qz=>?_
  obtain⟨c,ew,cc,K⟩:=qz
  refine⟨cs++[c],by rw[ew,List.map_append];rfl,by simp,fun t ht=>?_,Y.trans (Ky.of_kn Y.re K.kn hk)⟩
  rcases List.mem_append.mp ht with ht|ht
  ·exact c0 t ht
  ·rw[List.mem_singleton.mp ht];exact cc
 ·obtain⟨cs,rfl,l1,c0,Y⟩:=I
  rw[ci,eNn] at l1
  simp!
  exact aw ⟨cs,rfl,l1.symm,c0,Y⟩
theorem BG.six {m:Int}{b:B23}(g:BG m b):b.e.tos.length<=6:=g.g.six
theorem uG {m:Int}{bs:List B23}(hl:bs.length<=10)(g:∀b∈bs,BG m b):Pd 50 (pgW bxW bs):=pdT (by simp) (aF (.lst (by simp) (aF (pd2i kh) bW)) (aF (.lst (by rw[List.length_map];omega) fun x hx=>by
 obtain⟨b,hb,rfl⟩:=List.mem_map.mp hx
 exact (g b hb).pd.up (by decide)) bW))
end
set_option maxHeartbeats 1000000
section
noncomputable def bsets:Nat->List (List Int)
 |0=>[[0]]
 |n+1=>bsets n++(bsets n).map (· ++[((n+1:Nat):Int)])
theorem dD: ∀n,(bsets n).length=2 ^ n
 |0=>rfl
 |n+1=>by rw[bsets,List.length_append,List.length_map,dD n,Nat.pow_succ];omega
theorem bT: ∀ {n:Nat}{s:List Int},s∈bsets n-> ∃r,s=0::r/\r.Nodup/\r.length<=n/\ ∀x∈r,1<=x/\x<=n
 |0,s,h=>by
  rw[bsets,List.mem_singleton] at h
  exact⟨[],h,List.nodup_nil,Nat.le_refl _,fun x hx=>absurd hx List.not_mem_nil⟩
 |n+1,s,h=>by
  rw[bsets] at h
  rcases List.mem_append.mp h with h|h
  ·obtain⟨r,e,nd,l,q⟩:=bT h
   exact⟨r,e,nd,by omega,fun x hx=>by have:=q x hx;omega⟩
  ·obtain⟨t,ht,rfl⟩:=List.mem_map.mp h
   obtain⟨r,rfl,nd,l,q⟩:=bT ht
   refine⟨r++[((n+1:Nat):Int)],rfl,?_,by rw[List.length_append];show r.length+1<=n+1;omega,fun x hx=>?_⟩
   ·rw[List.nodup_append]
    refine⟨nd,by simp,fun a ha b hb=>?_⟩
    rw[List.mem_singleton.mp hb]
    have:=q a ha
    omega
   ·rcases List.mem_append.mp hx with hx|hx
    ·have:=q x hx;omega
    ·rw[List.mem_singleton.mp hx];omega
noncomputable def wo (r:List Int)(p:Int):List Int:=r.filter fun x=>!decide (x=p)
theorem oo (a b:List Int)(p:Int):wo (a++b) p=wo a p++wo b p:=by unfold wo;rw[List.filter_append]
theorem iOfs (l:List Int):optL iOf (l.map W.int)=some l:=by
 have:=cy (f:=iOf) (g:=W.int) (k:=fun i=>i) (fun a=>rfl) l
 rw[this];simp
section
variable {β:Type}{h:List Ob}{Q:β->List Ob->Prop}{j:Nat}
theorem jE (p:Int)(l:List Int):keyN true (.tup [.tup (l.map W.int),.int p])=some (p,l):=by
 show (optL iOf (l.map W.int)).map (fun ns=>(p,ns))=_
 rw[iOfs];rfl
theorem lE {x:W}{ks:List PKy}{ws:List W}{p:Int}{l:List Int}{v:W}{k:W->M β}(e:dinOf x h=some (true,ks,ws))(a:atK ks ws (p,l)=some v)(q:Ok (k v) h Q):Ok (bd (ixN' x (.tup [.tup (l.map W.int),.int p])) k) h Q:=by
 refine aX (a:=v) (h':=h) ?_ q
 unfold ixN'
 simp only[e,jE,a]
theorem tE {x:W}{ks:List PKy}{ws:List W}{p:Int}{l:List Int}{neg:Bool}{k:W->M β}(e:dinOf x h=some (true,ks,ws))(q:Ok (k (.bl ((atK ks ws (p,l)).isSome !=neg))) h Q):Ok (bd (inNW neg (.tup [.tup (l.map W.int),.int p]) x) k) h Q:=by
 refine aX (a:=.bl ((atK ks ws (p,l)).isSome !=neg)) (h':=h) ?_ q
 unfold inNW
 simp only[e,jE]
theorem pf {ks ks':List PKy}{ws ws':List W}{p:Int}{l:List Int}{v:W}{k:Unit->M β}(e:h[j]?=some (.din true ks ws))(hz:ks.length<sizeLine)(e2:putW ks ws (p,l) v=(ks',ws'))(r:Ok (k ()) (h.set j (.din true ks' ws')) Q):Ok (bd (jd (.loc j) (.tup [.tup (l.map W.int),.int p]) v) k) h Q:=by
 refine aX (a:=()) (h':=h.set j (.din true ks' ws')) ?_ r
 unfold jd
 simp only[e,jE,if_pos hz,e2]
theorem eO {ks:List PKy}{ws:List W}(e:h[j]?=some (.din true ks ws)):dinOf (.loc j) h=some (true,ks,ws):=by unfold dinOf;simp only[e]
theorem kc {b:Bool}{k:W->M β}{ρ:Env'}(q:Ok (k (.loc h.length)) (h++[.din b [] []]) Q):Ok (bd (jC b ρ) k) h Q:=aX (a:=.loc h.length) (h':=h++[.din b [] []]) rfl q
end
theorem kU (r:List Int)(p:Int)(hr:r.length<=1000)(h:List Ob):Ok (cT [.tup (r.map W.int),.int p]) h fun w h'=>w=.tup ((wo r p).map W.int)/\h'=h:=by
 have e0:cT [.tup (r.map W.int),.int p]=bd (eG [some (.tup (r.map W.int)),some (.int p)]) finF:=rfl
 rw[e0]
 unfold eG
 have gl: ∀ {α:Type} (q:M α),gd ((r.map W.int).length<=sizeLine) q=q:=fun q=>aq (by rw[List.length_map];exact sz (by omega))
 simp! only[aa,gl]
 refine kg (I:=fun i a h'=>h'=h/\a=(wo (r.take i) p).map W.int) ⟨rfl,rfl⟩ (fun _ _ _ _=>trivial) (fun i w a h' hw I=>?_) fun a h' I=>?_
 ·obtain⟨rfl,rfl⟩:=I
  rw[List.getElem?_map] at hw
  obtain⟨x,hx,rfl⟩:=Option.map_eq_some_iff.mp hw
  refine⟨_,rfl,?_⟩
  simp! only[List.replicate,List.cons_append,List.nil_append,aa]
  rw[aI hx,oo]
  by_cases e:x=p
  ·refine aw (.inl ⟨by simp [e],rfl,?_⟩)
   have:wo [x] p=[]:=by unfold wo;simp [e]
   rw[this,List.append_nil]
  ·refine aw (.inr ⟨by simp [e],aw ⟨rfl,?_⟩⟩)
   have:wo [x] p=[x]:=by unfold wo;simp [e]
   rw[this,List.map_append]
   rfl
 ·obtain⟨rfl,rfl⟩:=I
  rw[List.length_map,List.take_length]
  simp! only[aa,fU]
  exact aw ⟨rfl,rfl⟩
noncomputable def setW' (s:List Int):W:=.tup (s.map W.int)
theorem qx {N:Int}{m:Nat}(hN:N=(m:Int))(m1:1<=m)(m2:m<=10)(h:List Ob):Ok (ck [.int N]) h fun w h'=>w=.tl ((bsets (m - 1)).map setW')/\h'=h:=by
 have e0:ck [.int N]=bd (cR [some (.int N),none,none]) finF:=rfl
 rw[e0]
 unfold cR
 simp! only[aa,tupW,j0 (show (-(2 ^ 62):Int)<=1 by decide) (show (1:Int)<2 ^ 62 by decide) (show (-(2 ^ 62):Int)<=N by omega) (show N<2 ^ 62 by omega)]
 have eN:(N - 1).toNat=m - 1:=by omega
 refine cz (I:=fun i ρ h'=> ∃a,ρ=[some (.int N),some (.tl ((bsets i).map setW')),a]/\h'=h) ⟨_,rfl,rfl⟩ (fun _ _ _ _=>trivial) (fun i w ρ h1 hw I=>?_) fun ρ h1 I=>?_
 ·obtain⟨a,rfl,rfl⟩:=I
  obtain⟨rfl,hi⟩:=du _ _ _ _ hw
  rw[eN] at hi
  have bl:(bsets i).length<=512:=by
   rw[dD]
   exact Nat.pow_le_pow_right (by decide) (show i<=9 by omega)
  refine⟨_,rfl,?_⟩
  have gl: ∀ {α:Type} (q:M α),gd (((bsets i).map setW').length<=sizeLine) q=q:=fun q=>aq (by rw[List.length_map];exact sz (by omega))
  simp! only[aa,gl]
  refine cO (I:=fun k a h'=>h'=h1/\a=(((bsets i).take k).map (· ++[((i+1:Nat):Int)])).map setW') ⟨rfl,rfl⟩ dE (fun _ _ _ _=>trivial) (fun k w a h' hw I=>?_) fun a h' I=>?_
  ·obtain⟨rfl,rfl⟩:=I
   rw[List.getElem?_map] at hw
   obtain⟨s,hs,rfl⟩:=Option.map_eq_some_iff.mp hw
   obtain⟨r,rfl,_,lr,_⟩:=bT (List.mem_of_getElem? hs)
   refine⟨_,rfl,?_⟩
   have ea:addW (setW' (0::r)) (.tup [.int (1+(i:Int))])=pr (setW' (0::r++[((i+1:Nat):Int)])):=by
    show addW (.tup (.int 0::r.map W.int)) (.tup [.int (1+(i:Int))])=_
    rw[addT _ _ _ (by rw[List.length_map];show r.length+1<=100;omega)]
    unfold setW'
    rw[List.map_append,List.map_cons]
    have:(1:Int)+(i:Int)=((i+1:Nat):Int):=by omega
    rw[this];rfl
   simp! only[List.replicate,List.cons_append,List.nil_append,aa,tupW]
   rw[ea]
   refine aw ⟨rfl,?_⟩
   rw[aI hs,List.map_append,List.map_append]
   rfl
  ·obtain⟨rfl,rfl⟩:=I
   rw[List.length_map,List.take_length]
   simp! only[aa,mX _ _ (show ((bsets i).map setW').length+(((bsets i).map (· ++[((i+1:Nat):Int)])).map setW').length<=sizeLine by rw[List.length_map,List.length_map,List.length_map];exact sz (by omega))]
   refine aw ⟨_,rfl,some (.int (1+(i:Int))),?_,rfl⟩
   rw[bsets,List.map_append]
 ·obtain⟨a,rfl,rfl⟩:=I
  rw[ci,eN]
  simp!
  exact aw ⟨rfl,rfl⟩
end
set_option maxHeartbeats 1000000
section
def setsL (n:Nat):List (List Int):=(List.range (n+2)).flatMap fun k=>(bsets n).filter fun s=>decide (s.length=k)
def prOf (ss:List (List Int)):List PKy:=ss.flatMap fun s=>s.tail.map fun l=>(l,s)
noncomputable abbrev kf:PKy:=(0,[0])
def prs (n:Nat):List PKy:=kf::prOf (bsets n)
def lpr (n:Nat):List PKy:=kf::prOf (setsL n)
noncomputable def lst0 (s:List Int):List Int:=if s=[0] then s else s.tail
noncomputable def six (p:Nat->Bool):Bool:=p 0 && (p 1 && (p 2 && (p 3 && (p 4 && p 5))))
theorem fX {p:Nat->Bool}(h:six p=true){n:Nat}(hn:n<6):p n=true:=by
 unfold six at h
 simp only[Bool.and_eq_true] at h
 obtain⟨h0,h1,h2,h3,h4,h5⟩:=h
 have:n=0\/n=1\/n=2\/n=3\/n=4\/n=5:=by omega
 rcases this with rfl|rfl|rfl|rfl|rfl|rfl<;>assumption
def ckL (n:Nat):Bool:=match lSort ((bsets n).map List.length) with
 |some π=>decide (π.size=(bsets n).length) && (π.toList.all (fun i=>decide (i<(bsets n).length)) && decide ((π.toList.map fun i=>(bsets n).getD i [])=setsL n))
 |none=>false
theorem uq:six ckL=true:=by decide+kernel
theorem ud {n:Nat}(hn:n<6): ∃π,lSort ((bsets n).map List.length)=some π/\π.size=(bsets n).length/\(∀i∈π.toList,i<(bsets n).length)/\(π.toList.map fun i=>(bsets n).getD i [])=setsL n:=by
 have h:=fX uq hn
 unfold ckL at h
 cases e:lSort ((bsets n).map List.length) with
 |none=>rw[e] at h;cases h
 |some π=>
  rw[e] at h
  simp only[Bool.and_eq_true,decide_eq_true_eq,List.all_eq_true] at h
  exact⟨π,rfl,h⟩
def ckK (n:Nat):Bool:=decide (lpr n).Nodup && (prs n).isPerm (lpr n)
theorem ur:six ckK=true:=by decide+kernel
theorem iF {n:Nat}(hn:n<6):(lpr n).Nodup/\(prs n).Perm (lpr n):=by
 have h:=fX ur hn
 unfold ckK at h
 simp only[Bool.and_eq_true,decide_eq_true_eq,List.isPerm_iff] at h
 exact h
def ckS (n:Nat):Bool:=(List.range (setsL n).length).all fun i=>match (setsL n)[i]? with
 |some s=>decide (s=0::s.tail) && (decide (s.length<=6) && s.tail.all fun l=>decide (1<=l) && (decide (((wo s l).length:Int)+1=s.length) && (decide (wo s l=0::(wo s l).tail) && ((wo s l).tail.all fun p=>decide (1<=p)) && ((lst0 (wo s l)).all fun p=>decide ((p,wo s l)∈kf::prOf ((setsL n).take i))))))
 |none=>false
theorem ul:six ckS=true:=by decide+kernel
structure SK (k:PKy):Prop where
 z:k.2=0::k.2.tail
 le:k.2.length<=6
 l1:1<=k.1
 len:(wo k.2 k.1).length+1=k.2.length
 wz:wo k.2 k.1=0::(wo k.2 k.1).tail
 w1: ∀p∈(wo k.2 k.1).tail,1<=p
theorem qh {n:Nat}(hn:n<6){i:Nat}{s:List Int}(h:(setsL n)[i]?=some s):(s=0::s.tail/\s.length<=6)/\ ∀l∈s.tail,SK (l,s)/\ ∀p∈lst0 (wo s l),(p,wo s l)∈kf::prOf ((setsL n).take i):=by
 have q:=fX ul hn
 unfold ckS at q
 rw[List.all_eq_true] at q
 have q:=q i (List.mem_range.mpr (List.getElem?_eq_some_iff.mp h).1)
 rw[h] at q
 simp only[Bool.and_eq_true,decide_eq_true_eq,List.all_eq_true] at q
 obtain⟨z,le,q⟩:=q
 refine⟨⟨z,le⟩,fun l hl=>?_⟩
 obtain⟨l1,w,⟨wz,w1⟩,c⟩:=q l hl
 exact⟨⟨z,le,l1,by show (wo s l).length+1=s.length;omega,wz,w1⟩,c⟩
theorem prOf_mem {ss:List (List Int)}{k:PKy}:k∈prOf ss↔k.2∈ss/\k.1∈k.2.tail:=by
 unfold prOf
 rw[List.mem_flatMap]
 constructor
 ·rintro⟨s,hs,h⟩
  obtain⟨l,hl,rfl⟩:=List.mem_map.mp h
  exact⟨hs,hl⟩
 ·rintro⟨h1,h2⟩
  exact⟨k.2,h1,List.mem_map.mpr ⟨k.1,h2,rfl⟩⟩
theorem ir {n:Nat}(hn:n<6){k:PKy}(h:k∈lpr n)(hk:k≠kf):SK k/\ ∀p∈lst0 (wo k.2 k.1),(p,wo k.2 k.1)∈lpr n:=by
 rcases List.mem_cons.mp h with h|h
 ·exact absurd h hk
 ·obtain⟨h1,h2⟩:=prOf_mem.mp h
  obtain⟨i,hi⟩:=List.getElem?_of_mem h1
  obtain⟨s1,s2⟩:=(qh hn hi).2 k.1 h2
  refine⟨s1,fun p hp=>?_⟩
  rcases List.mem_cons.mp (s2 p hp) with q|q
  ·exact List.mem_cons.mpr (.inl q)
  ·obtain⟨q1,q2⟩:=prOf_mem.mp q
   exact List.mem_cons.mpr (.inr (prOf_mem.mpr ⟨List.mem_of_mem_take q1,q2⟩))
def kSort (ks:List PKy):Option (Array Nat):=sSort ks.length fun i j=>ltKy ((ks.map fun k=>(k.2,k.1)).getD i ([],0)) ((ks.map fun k=>(k.2,k.1)).getD j ([],0))
theorem qB (ks:List PKy)(F:PKy->Int):rSort (ks.map fun k=>((k.2,k.1),F k))=kSort ks:=by
 unfold rSort kSort
 rw[List.length_map]
 have: ∀i:Nat,((ks.map fun k=>(((k.2,k.1),F k):(List Int×Int)×Int)).getD i (([],0),0)).1=(ks.map fun k=>(k.2,k.1)).getD i ([],0):=fun i=>by
  rw[List.getD_eq_getElem?_getD,List.getD_eq_getElem?_getD,List.getElem?_map,List.getElem?_map]
  cases ks[i]?<;>rfl
 congr 1
 funext i j
 rw[this,this]
def ckZ (n:Nat):Bool:=decide ((lpr n).length<=81) && decide ((setsL n).length<=32)
theorem uk:six ckZ=true:=by decide+kernel
theorem lR {n:Nat}(hn:n<6):(lpr n).length<=81/\(setsL n).length<=32:=by
 have h:=fX uk hn
 unfold ckZ at h
 simp only[Bool.and_eq_true,decide_eq_true_eq] at h
 exact h
def lstN (G:Int->Int->Int)(F:PKy->Int)(k:PKy):Int:=maxZ ((lst0 (wo k.2 k.1)).map fun p=>F (p,wo k.2 k.1)+G p k.1)
def nu (G:Int->Int->Int)(S:PKy->Int):Nat->PKy->Int
 |0,k=>S k
 |n+1,k=>lstN G (nu G S n) k+S k
def Fn (G:Int->Int->Int)(S:PKy->Int)(k:PKy):Int:=nu G S (k.2.length - 1) k
theorem uS (G:Int->Int->Int)(S:PKy->Int){k:PKy}(c:SK k):Fn G S k=lstN G (Fn G S) k+S k:=by
 have h1:=c.len
 have h2:(wo k.2 k.1).length≠0:=by rw[c.wz];simp
 obtain⟨n,hn⟩: ∃n,(wo k.2 k.1).length=n+1:=⟨_,(Nat.succ_pred_eq_of_ne_zero h2).symm⟩
 unfold Fn
 rw[show k.2.length - 1=n+1 by omega,nu]
 congr 1
 unfold lstN
 congr 1
 refine List.map_congr_left fun p _=>?_
 show nu G S n (p,wo k.2 k.1)+_=nu G S ((wo k.2 k.1).length - 1) (p,wo k.2 k.1)+_
 rw[hn]
 rfl
theorem mq (c:SK k):lst0 (wo k.2 k.1)≠ []:=by
 unfold lst0
 split
 ·rw[c.wz];simp
 ·rename_i h
  intro z
  exact h (by rw[c.wz,z])
end
set_option maxHeartbeats 1000000
section
theorem kL (a b:List Int):PyData.eqvAll (a.map PyData.int) (b.map PyData.int)=decide (a=b):=by
 induction a generalizing b with
 |nil=>
  cases b with
  |nil=>rw[List.map_nil,PyData.eqvAll];rfl
  |cons y b=>rw[List.map_nil,List.map_cons,PyData.eqvAll]<;>simp
 |cons x a ih=>
  cases b with
  |nil=>rw[List.map_nil,List.map_cons,PyData.eqvAll]<;>simp
  |cons y b=>
   rw[List.map_cons,List.map_cons,PyData.eqvAll,ih,PyData.eqv]
   rw[Bool.eq_iff_iff]
   simp
theorem iG (a:List Int):(PyData.tuple (a.map PyData.int)).canLay0=true:=by rw[PyData.canLay0];exact qi a fun z hz=>by rw[PyData.canLay0]
theorem sf (a b:List Int)(h:List Ob):eqB (.tup (a.map W.int)) (.tup (b.map W.int)) h=some (decide (a=b)):=by
 have o1: ∀a:List Int,dataH h 50 (.tup (a.map W.int))=some (.tuple (a.map PyData.int)):=fun a=>by
  show (optL (dataH h 49) (a.map W.int)).map PyData.tuple=_
  rw[cy (f:=dataH h 49) (g:=W.int) (k:=PyData.int) (fun a=>rfl) a];rfl
 show (match dataH h 50 (.tup (a.map W.int)),dataH h 50 (.tup (b.map W.int)) with
  |some d,some e=>if d.canLay0=true/\e.canLay0=true then some (PyData.eqv d e) else none
  |_,_=>none)=_
 rw[o1,o1]
 dsimp only
 rw[if_pos ⟨iG a,iG b⟩,PyData.eqv,kL]
theorem eqT (a b:List Int):eqW (.tup (a.map W.int)) (.tup (b.map W.int))=pr (.bl (decide (a=b))):=jH (sf a b)
theorem eqK (k q:PKy):eqW (.tup [.tup (k.2.map W.int),.int k.1]) (.tup [.tup (q.2.map W.int),.int q.1])=pr (.bl (decide (k=q))):=jH fun h=>by
 have o1: ∀k:PKy,dataH h 50 (.tup [.tup (k.2.map W.int),.int k.1])=some (.tuple [.tuple (k.2.map PyData.int),.int k.1]):=fun k=>by
  show (optL (dataH h 49) [.tup (k.2.map W.int),.int k.1]).map PyData.tuple=_
  have o2:dataH h 49 (.tup (k.2.map W.int))=some (.tuple (k.2.map PyData.int)):=by
   show (optL (dataH h 48) (k.2.map W.int)).map PyData.tuple=_
   rw[cy (f:=dataH h 48) (g:=W.int) (k:=PyData.int) (fun a=>rfl) k.2];rfl
  unfold optL
  rw[o2]
  rfl
 have c1: ∀k:PKy,(PyData.tuple [.tuple (k.2.map PyData.int),.int k.1]).canLay0=true:=fun k=>by
  rw[PyData.canLay0,PyData.canLayAll0,iG,PyData.canLayAll0,PyData.canLay0,PyData.canLayAll0];rfl
 show (match dataH h 50 (.tup [.tup (k.2.map W.int),.int k.1]),dataH h 50 (.tup [.tup (q.2.map W.int),.int q.1]) with
  |some d,some e=>if d.canLay0=true/\e.canLay0=true then some (PyData.eqv d e) else none
  |_,_=>none)=_
 rw[o1,o1]
 dsimp only
 rw[if_pos ⟨c1 k,c1 q⟩,PyData.eqv,PyData.eqvAll,PyData.eqv,kL,PyData.eqvAll,PyData.eqv,PyData.eqvAll]
 congr 1
 rw[Bool.eq_iff_iff]
 simp only[Bool.and_eq_true,decide_eq_true_eq,Prod.ext_iff,beq_iff_eq,and_true]
 exact⟨fun z=>⟨z.2,z.1⟩,fun z=>⟨z.2,z.1⟩⟩
theorem rL {l:List Int}(h:l≠ []):extW maxZ [.tl (l.map W.int)]=pr (.int (maxZ l)):=by
 show bd (lstOf (.tl (l.map W.int))) (fun l=>match optL iOf l with
  |some ns=>gd (ns≠ []) (pr (W.int (maxZ ns)))
  |none=>no)=_
 rw[dq,br,iOfs]
 exact aq h
def bLn:Env'->M Fl:=(sRet (mCall (extW maxZ) (mCons (mTl (mComp [] (mSrc (mVar 5) srcT) (tgN 0) mYes (m2 addW (m2 ixN' (mVar 4) (mTup (mCons (mVar 6) (mCons (mVar 0) mNil)))) (mGetT (mVar 5) (mTup (mCons (mVar 0) (mCons (mVar 3) mNil))) (mC (.int 0)))) 2)) mNil)))
theorem eX:bh=(sSeq (sIf (mB (m2 eqW (mTup (mCons (mVar 0) (mCons (mVar 1) mNil))) (mC (keyW true (0,[0]))))) (sRet (mC (.int 0))) sNil) (sSeq (sSet 4 (mCall (arW 2 cT) (mCons (mVar 0) (mCons (mVar 1) mNil)))) (sSeq (sSet 5 (mIf (mB (m2 eqW (mVar 4) (mTup (mCons (mC (.int 0)) mNil)))) (mVar 4) (m3 slW (mVar 4) (mPart (mC (.int 1))) aW))) bLn))):=rfl
section
variable {h:List Ob}{jg:Nat}{gk:List (List Key)}{gw:List W}{G:Int->Int->Int}{X:W}{ks:List PKy}{ws:List W}{F:PKy->Int}{k:PKy}
theorem pN (c:SK k):(lst0 (wo k.2 k.1)).length<=6:=by
 have h1:=c.len
 have h2:=c.le
 unfold lst0
 split
 ·omega
 ·rw[List.length_tail];omega
theorem qk {x:Option W}{L:List Int}(eL:L=lst0 (wo k.2 k.1))(eg:h[jg]?=some (.dit gk gw))(GG:GK gk gw G)(ed:dinOf X h=some (true,ks,ws))(c:SK k)
  (ha: ∀p∈lst0 (wo k.2 k.1),atK ks ws (p,wo k.2 k.1)=some (.int (F (p,wo k.2 k.1)))):Ok (bLn [x,some (.int k.1),some X,some (.loc jg),some (.tup ((wo k.2 k.1).map W.int)),some (.tup (L.map W.int))]) h fun x h'=>x=.rt (.int (lstN G F k))/\h'=h:=by
 unfold bLn
 have gl: ∀ {α:Type} (q:M α),gd ((L.map W.int).length<=sizeLine) q=q:=fun q=>aq (by
  rw[List.length_map,eL]
  have:=pN c
  exact sz (by omega))
 simp! only[aa,gl]
 refine cO (I:=fun i a h'=>h'=h/\a=((L.take i).map fun p=>F (p,wo k.2 k.1)+G p k.1).map W.int) ⟨rfl,rfl⟩ dE (fun _ _ _ _=>trivial) (fun i w a h' hw I=>?_) fun a h' I=>?_
 ·obtain⟨rfl,rfl⟩:=I
  rw[List.getElem?_map] at hw
  obtain⟨p,hp,rfl⟩:=Option.map_eq_some_iff.mp hw
  have pm:=List.mem_of_getElem? hp
  rw[eL] at pm
  refine⟨_,rfl,?_⟩
  simp! only[List.replicate,List.cons_append,List.nil_append,aa,tupW]
  refine lE ed (ha p pm) ?_
  simp! only[aa,mGetT,tupW]
  refine gJ eg ?_
  simp! only[aa,tupW]
  refine aX (gN eg rfl) ?_
  rw[GG.get p k.1]
  simp!
  refine aw ⟨rfl,?_⟩
  rw[aI hp,List.map_append,List.map_append]
  rfl
 ·obtain⟨rfl,rfl⟩:=I
  rw[List.length_map,List.take_length]
  simp! only[aa,rL (show L.map (fun p=>F (p,wo k.2 k.1)+G p k.1)≠ [] by rw[eL];exact fun z=>mq c (List.map_eq_nil_iff.mp z))]
  refine aw ⟨?_,rfl⟩
  rw[eL]
  rfl
theorem pP (eg:h[jg]?=some (.dit gk gw))(GG:GK gk gw G)(ed:dinOf X h=some (true,ks,ws))(c:SK k)
  (ha: ∀p∈lst0 (wo k.2 k.1),atK ks ws (p,wo k.2 k.1)=some (.int (F (p,wo k.2 k.1)))):Ok (aT [.tup (k.2.map W.int),.int k.1,X,.loc jg]) h fun w h'=>w=.int (lstN G F k)/\h'=h:=by
 have e0:aT [.tup (k.2.map W.int),.int k.1,X,.loc jg]=bd (bh [some (.tup (k.2.map W.int)),some (.int k.1),some X,some (.loc jg),none,none]) finF:=rfl
 rw[e0,eX]
 have hk:k≠kf:=fun z=>by have:=c.l1;rw[z] at this;exact absurd this (by decide)
 have ef:eqW (.tup [.tup (k.2.map W.int),.int k.1]) (keyW true (0,[0]))=pr (.bl false):=by
  show eqW (.tup [.tup (k.2.map W.int),.int k.1]) (.tup [.tup (kf.2.map W.int),.int kf.1])=_
  rw[eqK,decide_eq_false hk]
 simp! only[aa,tupW,ef]
 refine bS (kU k.2 k.1 (by have:=c.le;omega) h) fun w h1 qq_=>?_
 obtain⟨ew,e1⟩:=qq_
 subst ew e1
 have e2:eqW (.tup ((wo k.2 k.1).map W.int)) (.tup [.int 0])=pr (.bl (decide (wo k.2 k.1=[0]))):=eqT _ [0]
 have sl1:slW (.tup ((wo k.2 k.1).map W.int)) (some 1) none=pr (.tup ((wo k.2 k.1).tail.map W.int)):=slos (os:=wo k.2 k.1) (by rw[c.wz];simp)
 by_cases z:wo k.2 k.1=[0]
 ·simp! only[aa,tupW,e2,decide_eq_true z]
  refine bS (qk (by unfold lst0;rw[if_pos z]) eg GG ed c ha) fun x h2 qq_=>?_
  obtain⟨ex,e2⟩:=qq_
  subst ex e2
  simp!
  exact aw ⟨rfl,rfl⟩
 ·simp! only[aa,tupW,e2,decide_eq_false z,sl1]
  refine bS (qk (by unfold lst0;rw[if_neg z]) eg GG ed c ha) fun x h2 qq_=>?_
  obtain⟨ex,e2⟩:=qq_
  subst ex e2
  simp!
  exact aw ⟨rfl,rfl⟩
end
theorem lg {n:Nat}(hn:n<6):gW (.tl ((bsets n).map setW'))=pr (.tl ((setsL n).map setW')):=by
 obtain⟨π,e1,e2,e3,e4⟩:=ud hn
 have o:optL lenT ((bsets n).map setW')=some ((bsets n).map List.length):=cy (f:=lenT) (g:=setW') (k:=List.length) (fun s=>by show some (s.map W.int).length=_;rw[List.length_map]) _
 unfold gW
 rw[dq,br,o]
 dsimp only
 rw[e1]
 dsimp only
 have b:=dD n
 have b1:2 ^ n<=2 ^ 5:=Nat.pow_le_pow_right (by decide) (by omega)
 have b2:=Nat.two_pow_pos n
 have b3: ∀x∈(bsets n).map List.length,x<=1000:=fun x hx=>by
  obtain⟨s,hs,rfl⟩:=List.mem_map.mp hx
  obtain⟨r,rfl,_,lr,_⟩:=bT hs
  rw[List.length_cons]
  omega
 rw[List.length_map,aq ⟨by omega,by omega,b3⟩,aq ⟨e2,e3⟩]
 congr 2
 rw[<-e4,List.map_map]
 refine List.map_congr_left fun i hi=>?_
 show ((bsets n).map setW').getD i .non=setW' ((bsets n).getD i [])
 rw[List.getD_eq_getElem?_getD,List.getD_eq_getElem?_getD,List.getElem?_map,List.getElem?_eq_getElem (e3 i hi)]
 rfl
theorem pO {N:Int}{m:Nat}(hN:N=(m:Int))(m1:1<=m)(m2:m<=6)(h:List Ob):Ok (cY [.int N]) h fun w h'=>w=.tl ((setsL (m - 1)).map setW')/\h'=h:=by
 have e0:cY [.int N]=bd (dP [some (.int N),none,none]) finF:=rfl
 rw[e0]
 unfold dP
 simp! only[aa,tupW,j0 (show (-(2 ^ 62):Int)<=1 by decide) (show (1:Int)<2 ^ 62 by decide) (show (-(2 ^ 62):Int)<=N by omega) (show N<2 ^ 62 by omega)]
 have eN:(N - 1).toNat=m - 1:=by omega
 refine cz (I:=fun i ρ h'=> ∃a,ρ=[some (.int N),some (.tl ((bsets i).map setW')),a]/\h'=h) ⟨_,rfl,rfl⟩ (fun _ _ _ _=>trivial) (fun i w ρ h1 hw I=>?_) fun ρ h1 I=>?_
 ·obtain⟨a,rfl,rfl⟩:=I
  obtain⟨rfl,hi⟩:=du _ _ _ _ hw
  rw[eN] at hi
  have bl:(bsets i).length<=512:=by
   rw[dD]
   exact Nat.pow_le_pow_right (by decide) (show i<=9 by omega)
  refine⟨_,rfl,?_⟩
  have gl: ∀ {α:Type} (q:M α),gd (((bsets i).map setW').length<=sizeLine) q=q:=fun q=>aq (by rw[List.length_map];exact sz (by omega))
  simp! only[aa,gl]
  refine cO (I:=fun k a h'=>h'=h1/\a=(((bsets i).take k).map (· ++[((i+1:Nat):Int)])).map setW') ⟨rfl,rfl⟩ dE (fun _ _ _ _=>trivial) (fun k w a h' hw I=>?_) fun a h' I=>?_
  ·obtain⟨rfl,rfl⟩:=I
   rw[List.getElem?_map] at hw
   obtain⟨s,hs,rfl⟩:=Option.map_eq_some_iff.mp hw
   obtain⟨r,rfl,_,lr,_⟩:=bT (List.mem_of_getElem? hs)
   refine⟨_,rfl,?_⟩
   have ea:addW (setW' (0::r)) (.tup [.int (1+(i:Int))])=pr (setW' (0::r++[((i+1:Nat):Int)])):=by
    show addW (.tup (.int 0::r.map W.int)) (.tup [.int (1+(i:Int))])=_
    rw[addT _ _ _ (by rw[List.length_map];show r.length+1<=100;omega)]
    unfold setW'
    rw[List.map_append,List.map_cons]
    have:(1:Int)+(i:Int)=((i+1:Nat):Int):=by omega
    rw[this];rfl
   simp! only[List.replicate,List.cons_append,List.nil_append,aa,tupW]
   rw[ea]
   refine aw ⟨rfl,?_⟩
   rw[aI hs,List.map_append,List.map_append]
   rfl
  ·obtain⟨rfl,rfl⟩:=I
   rw[List.length_map,List.take_length]
   simp! only[aa,mX _ _ (show ((bsets i).map setW').length+(((bsets i).map (· ++[((i+1:Nat):Int)])).map setW').length<=sizeLine by rw[List.length_map,List.length_map,List.length_map];exact sz (by omega))]
   refine aw ⟨_,rfl,some (.int (1+(i:Int))),?_,rfl⟩
   rw[bsets,List.map_append]
 ·obtain⟨a,rfl,rfl⟩:=I
  rw[ci,eN]
  simp! only[aa,lg (show m - 1<6 by omega)]
  first|exact aw ⟨rfl,rfl⟩|done
end
set_option maxHeartbeats 1000000
section
theorem q0 {β:Type}{h:List Ob}{j:Nat}{l:List Int}{k:W->M β}{Q:β->List Ob->Prop}(e:h[j]?=some (.lst (l.map W.int)))(hl:l≠ [])(q:Ok (k (.int (maxZ l))) h Q):Ok (bd (extW maxZ [.loc j]) k) h Q:=by
 refine aX (a:=.int (maxZ l)) (h':=h) ?_ q
 show bd (lstOf (.loc j)) (fun l=>match optL iOf l with
  |some ns=>gd (ns≠ []) (pr (W.int (maxZ ns)))
  |none=>no) h=_
 have:lstOf (.loc j) h=.ok (l.map W.int) h:=Lw.of (.inr ⟨j,rfl,e⟩)
 unfold bd
 rw[this]
 dsimp only
 rw[iOfs]
 dsimp only
 rw[aq hl]
 rfl
noncomputable def cnd (R:List Int)(p:Int):Bool:=!decide (p=0)||decide (R.length=1)
theorem rP {R:List Int}(hz:R=0::R.tail)(h1: ∀p∈R.tail,1<=p):R.filter (cnd R)=lst0 R:=by
 unfold lst0
 obtain⟨r,hr⟩: ∃r,R=0::r:=⟨_,hz⟩
 subst hr
 cases r with
 |nil=>rfl
 |cons a r=>
  rw[if_neg (by simp),List.filter_cons_of_neg (by simp [cnd])]
  refine List.filter_eq_self.mpr fun p hp=>?_
  have:=h1 p hp
  have:p≠0:=by omega
  simp [cnd,this]
section
variable {h:List Ob}{jg:Nat}{gk:List (List Key)}{gw:List W}{G:Int->Int->Int}{X:W}{ks:List PKy}{ws:List W}{F:PKy->Int}{k:PKy}
theorem ua {h h':List Ob}{X:W}{b:Bool}{ks:List PKy}{ws:List W}(N:Nw h h')(e:dinOf X h=some (b,ks,ws)):dinOf X h'=some (b,ks,ws):=by
 unfold dinOf at e ⊢
 split at e
 ·rename_i j
  split at e
  ·rename_i e1
   rw[N.get e1]
   exact e
  ·cases e
 ·exact e
 ·cases e
def bAl:Env'->M Fl:=(sEx (mMeth isL cG (mVar 5) (mCons (m2 addW (m2 ixN' (mVar 1) (mTup (mCons (mVar 4) (mCons (mVar 6) mNil)))) (mGetT (mVar 0) (mTup (mCons (mVar 6) (mCons (mVar 3) mNil))) (mC (.int 0)))) mNil)))
theorem gC:de=(sSeq (sSet 4 (mCall eU (mCons (mTl (mComp [] (mSrc (mVar 2) srcT) (tgN 0) (mB (m2 neW (mVar 0) (mVar 5))) (mVar 0) 2)) mNil))) (sSeq (sSet 5 (mNew (lenG mNil))) (sSeq (sFor (mSrc (mVar 4) srcT) (tgN 6) (sIf (mOr (mB (m2 neW (mVar 6) (mC (.int 0)))) (mB (m2 eqW (mCall lenW (mCons (mVar 4) mNil)) (mC (.int 1))))) bAl sNil)) (sRet (mCall (extW maxZ) (mCons (mVar 5) mNil)))))):=rfl
theorem uf {x:Option W}{h2:List Ob}{R:List Int}{p:Int}{l:List W}{N:Nat}(eg:h2[jg]?=some (.dit gk gw))(GG:GK gk gw G)(ed:dinOf X h2=some (true,ks,ws))(ha:atK ks ws (p,R)=some (.int (F (p,R))))(en:h2[N]?=some (.lst l))(lz:l.length<sizeLine):
  Ok (bAl [some (.loc jg),some X,x,some (.int k.1),some (.tup (R.map W.int)),some (.loc N),some (.int p)]) h2 fun w h3=>w=.nx [some (.loc jg),some X,x,some (.int k.1),some (.tup (R.map W.int)),some (.loc N),some (.int p)]/\h3=h2.set N (.lst (l++[.int (F (p,R)+G p k.1)])):=by
 unfold bAl
 simp! only[aa,tupW]
 refine ie en ?_
 simp! only[aa,tupW]
 refine lE ed ha ?_
 simp! only[aa,mGetT,tupW]
 refine gJ eg ?_
 simp! only[aa,tupW]
 refine aX (gN eg rfl) ?_
 rw[GG.get p k.1]
 simp!
 refine jv en lz ?_
 simp!
 exact aw ⟨rfl,rfl⟩
theorem nL (eg:h[jg]?=some (.dit gk gw))(GG:GK gk gw G)(ed:dinOf X h=some (true,ks,ws))(c:SK k)
  (ha: ∀p∈lst0 (wo k.2 k.1),atK ks ws (p,wo k.2 k.1)=some (.int (F (p,wo k.2 k.1)))):Ok (cJ [.loc jg,X,.tup (k.2.map W.int),.int k.1]) h fun w h'=>w=.int (lstN G F k)/\Nw h h':=by
 have e0:cJ [.loc jg,X,.tup (k.2.map W.int),.int k.1]=bd (de [some (.loc jg),some X,some (.tup (k.2.map W.int)),some (.int k.1),none,none,none]) finF:=rfl
 rw[e0,gC]
 have gl: ∀ {α:Type} (q:M α),gd ((k.2.map W.int).length<=sizeLine) q=q:=fun q=>aq (by rw[List.length_map];have:=c.le;exact sz (by omega))
 simp! only[aa,gl]
 refine kg (I:=fun i a h'=>h'=h/\a=(wo (k.2.take i) k.1).map W.int) ⟨rfl,rfl⟩ (fun _ _ _ _=>trivial) (fun i w a h' hw I=>?_) fun a h' I=>?_
 ·obtain⟨rfl,rfl⟩:=I
  rw[List.getElem?_map] at hw
  obtain⟨x,hx,rfl⟩:=Option.map_eq_some_iff.mp hw
  refine⟨_,rfl,?_⟩
  simp! only[List.replicate,List.cons_append,List.nil_append,aa]
  rw[aI hx,oo]
  by_cases e:x=k.1
  ·refine aw (.inl ⟨by simp [e],rfl,?_⟩)
   have:wo [x] k.1=[]:=by unfold wo;simp [e]
   rw[this,List.append_nil]
  ·refine aw (.inr ⟨by simp [e],aw ⟨rfl,?_⟩⟩)
   have:wo [x] k.1=[x]:=by unfold wo;simp [e]
   rw[this,List.map_append]
   rfl
 ·obtain⟨rfl,rfl⟩:=I
  rw[List.length_map,List.take_length]
  have hw1:=c.len
  have hw2:=c.le
  have cl:=rP c.wz c.w1
  have lst0_ne':=mq c
  have eN:W.int (lstN G F k)=.int (maxZ ((lst0 (wo k.2 k.1)).map fun p=>F (p,wo k.2 k.1)+G p k.1)):=rfl
  generalize wo k.2 k.1=R at *
  have eL:lenW [.tup (R.map W.int)]=pr (.int (R.length:Int)):=by rw[lenW_tup,List.length_map]
  simp! only[aa,fU]
  refine gf ?_
  simp!
  refine cz (I:=fun i ρ h2=> ∃a,ρ=[some (.loc jg),some X,some (.tup (k.2.map W.int)),some (.int k.1),some (.tup (R.map W.int)),some (.loc h'.length),a]/\Nf h' h2 (.lst ((((R.take i).filter (cnd R)).map fun p=>F (p,R)+G p k.1).map W.int))) ⟨_,rfl,Nf.mk0⟩ (fun _ _ _ _=>trivial) (fun i w ρ h2 hw I=>?_) fun ρ h2 I=>?_
  ·obtain⟨a,rfl,N2⟩:=I
   rw[List.getElem?_map] at hw
   obtain⟨p,hp,rfl⟩:=Option.map_eq_some_iff.mp hw
   have pm:=List.mem_of_getElem? hp
   refine⟨_,rfl,?_⟩
   rw[aI hp,List.filter_append]
   have lz:((((R.take i).filter (cnd R)).map fun p=>F (p,R)+G p k.1).map W.int).length<sizeLine:=by
    rw[List.length_map,List.length_map]
    have:=List.length_filter_le (cnd R) (R.take i)
    rw[List.length_take] at this
    exact Nat.lt_of_le_of_lt (show _<=6 by omega) (by decide)
   by_cases q:cnd R p=true
   ·have pl:p∈lst0 R:=by rw[<-cl];exact List.mem_filter.mpr ⟨pm,q⟩
    have e1:([p]:List Int).filter (cnd R)=[p]:=by rw[List.filter_cons_of_pos q];rfl
    have fin:=uf (x:=some (.tup (k.2.map W.int))) (k:=k) (F:=F) (N2.get eg) GG (ua N2.nw ed) (ha p pl) N2.new lz
    have N3:=N2.put (.lst ((((R.take i).filter (cnd R)).map fun p=>F (p,R)+G p k.1).map W.int++[.int (F (p,R)+G p k.1)]))
    rw[e1,List.map_append,List.map_append]
    by_cases q1:p=0
    ·have q2:((R.length:Int)=1):=by
      unfold cnd at q
      rw[decide_eq_true q1] at q
      have:R.length=1:=by simpa using q
      omega
     simp! only[aa,decide_eq_true q1,eL,decide_eq_true q2]
     refine fin.imp fun w h3 qz=>?_
     obtain⟨ew,e3⟩:=qz
     subst ew e3
     exact⟨_,rfl,_,rfl,N3⟩
    ·simp! only[aa,decide_eq_false q1]
     refine fin.imp fun w h3 qz=>?_
     obtain⟨ew,e3⟩:=qz
     subst ew e3
     exact⟨_,rfl,_,rfl,N3⟩
   ·have e1:([p]:List Int).filter (cnd R)=[]:=by rw[List.filter_cons_of_neg q];rfl
    have q': ¬(p≠0\/R.length=1):=fun z=>q (by unfold cnd;simpa using z)
    have q1:p=0:=Classical.byContradiction fun z=>q' (.inl z)
    have q2: ¬((R.length:Int)=1):=fun z=>q' (.inr (by omega))
    simp! only[aa,decide_eq_true q1,eL,decide_eq_false q2]
    rw[e1,List.append_nil]
    exact aw ⟨_,rfl,_,rfl,N2⟩
  ·obtain⟨a,rfl,N2⟩:=I
   rw[List.length_map,List.take_length,cl] at N2
   simp!
   refine q0 N2.new (fun z=>lst0_ne' (List.map_eq_nil_iff.mp z)) ?_
   simp!
   exact aw ⟨eN.symm,N2.nw⟩
end
end
set_option maxHeartbeats 1000000
section
theorem nM {h:List Ob}{P:W}{bs:List B23}{cs:List Int}(hx:Lw h P (bs.map B23.w))(hl:bs.length<=10)(hb: ∀b∈bs,b.e.tos.length<=6)(hc:(waysL (esOf bs)).length=cs.length):
  Ok (cK [P,.tl (cs.map W.int)]) h fun w h'=> ∃j ks ws,w=.loc j/\Nd h h' j (.dit ks ws)/\GK ks ws (gsum (zsL (esOf bs) cs)):=by
 have e0:cK [P,.tl (cs.map W.int)]=bd (df [some (P),some (.tl (cs.map W.int)),none,none,none,none,none]) finF:=rfl
 rw[e0]
 unfold df
 have lc:cs.length<=60:=by
  have h6: ∀e∈esOf bs,e.tos.length<=6:=fun e he=>by
   obtain⟨b,hb',rfl⟩:=List.mem_map.mp he
   exact hb b hb'
  have l2:(esOf bs).length=bs.length:=by unfold esOf;rw[List.length_map]
  have:=dk (esOf bs) h6 (esOf bs).length (Nat.le_refl _)
  rw[List.take_length] at this
  omega
 simp!
 refine kb ?_
 simp!
 refine mz (hx.keep (Nf.mk0 (h:=h) (b:=.dit [] [])).nw.eq) hl hb fun h1 N1=>?_
 have D1:=(Nd.mk0 (h:=h) (b:=.dit [] [])).more N1
 simp! only[aa,lZ]
 refine cz (I:=fun i ρ h'=> ∃a b c d ks ws,ρ=[some P,some (.tl (cs.map W.int)),some (.loc h.length),a,b,c,d]/\Nd h h' h.length (.dit ks ws)/\GK ks ws (gsum ((zsL (esOf bs) cs).take i))/\ks.length<=i) ⟨_,_,_,_,[],[],rfl,D1,⟨rfl,fun a b=>rfl⟩,Nat.le_refl _⟩ (fun _ _ _ _=>⟨trivial,trivial⟩) (fun i y ρ h2 hy I=>?_) fun ρ h2 I=>?_
 ·obtain⟨a,b,c,d,ks,ws,rfl,D,G,lk⟩:=I
  obtain⟨w,n,hw,hn,rfl⟩:=jO hy
  have hi:i<cs.length:=(List.getElem?_eq_some_iff.mp hn).1
  obtain⟨e,he,w0,_⟩:=jQ (List.mem_of_getElem? hw)
  have hz:=om hw hn
  have ht:tabOf (esOf bs) w.1=e.tab:=by unfold tabOf;rw[he]
  rw[ht] at hz
  obtain⟨b',hb',rfl⟩:=p4 he
  obtain⟨wa,wn,wt⟩:=w
  refine⟨[some P,some (.tl (cs.map W.int)),some (.loc h.length),some (.int wa),some (.int wn),some (.int wt),some (.int n)],rfl,?_⟩
  have w0:0<=wa:=w0
  have hb':bs[wa.toNat]?=some b':=hb'
  simp! only[aa,ix0,ix2]
  refine (hx.keep D.nw.eq).ix (w:=b'.w) (di w0 (by rw[List.getElem?_map,hb'];rfl)) ?_
  simp! only[aa,pU,ix2,mE,kI]
  rw[aI hz]
  cases et:b'.e.tab with
  |true=>
   simp!
   refine aw ⟨_,rfl,_,_,_,_,ks,ws,rfl,D,⟨G.len,fun a b=>?_⟩,Nat.le_succ_of_le lk⟩
   rw[G.get,eF,if_neg (by simp),Int.add_zero]
  |false=>
   simp! only[aa,mKt,kt2,mGetT]
   refine gJ D.new ?_
   simp!
   refine aX (gN D.new rfl) ?_
   rw[G.get wa wt]
   simp!
   rcases ep:putW ks ws [.inl wa,.inl wt] (.int (gsum ((zsL (esOf bs) cs).take i) wa wt+n)) with⟨ks',ws'⟩
   obtain⟨l1,l2,g⟩:=jL G.len ep
   refine pc D.new (Nat.lt_of_le_of_lt (show _<=60 by omega) (by decide)) ep ?_
   simp!
   refine aw ⟨_,rfl,_,_,_,_,ks',ws',rfl,D.put _,⟨l1,fun a b=>?_⟩,by omega⟩
   rw[g,eF]
   by_cases q:wa=a/\wt=b
   ·rw[if_pos (by rw[q.1,q.2]),if_pos ⟨rfl,q⟩,q.1,q.2];rfl
   ·rw[if_neg (fun z=>q ⟨by injection z with z1 z2;exact Sum.inl.inj z1,by injection z with z1 z2;injection z2 with z3 z4;exact Sum.inl.inj z3⟩),if_neg (fun z=>q z.2),Int.add_zero]
    exact G.get a b
 ·obtain⟨a,b,c,d,ks,ws,rfl,D,G,lk⟩:=I
  rw[lW _ _ _ _ hc,<-ol hc,List.take_length] at G
  simp!
  exact aw ⟨_,ks,ws,rfl,D,G⟩
theorem iT (a:List (List Int))(s:List Int):prOf (a++[s])=prOf a++s.tail.map fun l=>(l,s):=by
 unfold prOf
 rw[List.flatMap_append,List.flatMap_cons,List.flatMap_nil,List.append_nil]
theorem o5 {N:Int}{m:Nat}(hN:N=(m:Int))(m1:1<=m)(m2:m<=6)(h:List Ob):Ok (fP [.int N]) h fun w h'=>w=.tl ((prs (m - 1)).map (keyW true))/\Nw h h':=by
 have e0:fP [.int N]=bd (gP [some (.int N),none,none,none]) finF:=rfl
 rw[e0]
 unfold gP
 simp!
 refine gf ?_
 simp!
 refine bS (qx hN m1 (by omega) _) fun w h2 qq_=>?_
 obtain⟨ew,e2⟩:=qq_
 subst ew e2
 simp!
 refine cz (I:=fun i ρ h'=> ∃a b L,ρ=[some (.int N),some (.loc h.length),a,b]/\Nf h h' (.lst (L.map (keyW true)))/\L=kf::prOf ((bsets (m - 1)).take i)/\L.length<=1+10 * i) ⟨_,_,[kf],rfl,Nf.mk0,rfl,by simp⟩ (fun _ _ _ _=>trivial) (fun i w ρ h2 hw I=>?_) fun ρ h2 I=>?_
 ·obtain⟨a,b,L,rfl,N2,eL,lL⟩:=I
  rw[List.getElem?_map] at hw
  obtain⟨s,hs,rfl⟩:=Option.map_eq_some_iff.mp hw
  obtain⟨r,rfl,_,lr,_⟩:=bT (List.mem_of_getElem? hs)
  have hi:i<32:=by
   have:=(List.getElem?_eq_some_iff.mp hs).1
   rw[dD] at this
   exact Nat.lt_of_lt_of_le this (Nat.pow_le_pow_right (by decide) (show m - 1<=5 by omega))
  refine⟨_,rfl,?_⟩
  have sl1:slW (setW' (0::r)) (some 1) none=pr (.tup (r.map W.int)):=slos (os:=0::r) (by simp)
  simp! only[aa,sl1]
  refine jt (I:=fun l ρ h'=> ∃b M,ρ=[some (.int N),some (.loc h.length),some (setW' (0::r)),b]/\Nf h h' (.lst (M.map (keyW true)))/\M=L++(r.take l).map (fun x=>(x,0::r))/\M.length<=L.length+l) ⟨_,L,rfl,N2,by simp,Nat.le_refl _⟩ (fun _ _ _ _=>trivial) (fun l w ρ h3 hw I=>?_) fun ρ h3 I=>?_
  ·obtain⟨b,M,rfl,N3,eM,lM⟩:=I
   rw[List.getElem?_map] at hw
   obtain⟨p,hp,rfl⟩:=Option.map_eq_some_iff.mp hw
   have hl:=(List.getElem?_eq_some_iff.mp hp).1
   refine⟨_,rfl,?_⟩
   simp! only[aa,tupW]
   refine ie N3.new ?_
   simp! only[aa,tupW]
   refine jv N3.new (by rw[List.length_map];exact Nat.lt_of_le_of_lt (show _<=400 by omega) (by decide)) ?_
   simp!
   refine aw ⟨_,rfl,_,M++[(p,0::r)],rfl,?_,?_,by rw[List.length_append];show M.length+1<=_;omega⟩
   ·have:=N3.put (.lst (M.map (keyW true)++[.tup [setW' (0::r),.int p]]))
    rw[List.map_append]
    exact this
   ·rw[aI hp,eM,List.map_append,List.append_assoc]
    rfl
  ·obtain⟨b,M,rfl,N3,eM,lM⟩:=I
   rw[List.length_map] at eM lM
   rw[List.take_length] at eM
   refine⟨_,rfl,_,_,M,rfl,N3,?_,by omega⟩
   rw[aI hs,iT,eM,eL]
   rfl
 ·obtain⟨a,b,L,rfl,N2,eL,lL⟩:=I
  rw[List.length_map,List.take_length] at eL
  simp!
  refine js N2.new ?_
  simp!
  refine aw ⟨by rw[eL];rfl,?_⟩
  have:=N2.put .gone
  exact this.nw
end
set_option maxHeartbeats 1000000
section
theorem mU {f:PKy->W}: ∀ {ks:List PKy}{k:PKy},k∈ks->atK ks (ks.map f) k=some (f k)
 |[],_,h=>absurd h List.not_mem_nil
 |q::ks,k,h=>by
  rw[List.map_cons,atK]
  by_cases e:q=k
  ·rw[if_pos e,e]
  ·rw[if_neg e]
   rcases List.mem_cons.mp h with h|h
   ·exact absurd h.symm e
   ·exact mU h
theorem qE {ks:List PKy}{ws:List W}{k:PKy}{v:W}(h:k ∉ ks):putW ks ws k v=(ks++[k],ws++[v]):=by
 unfold putW
 rw[if_neg]
 intro z
 obtain⟨x,hx,e⟩:=List.any_eq_true.mp z
 rw[of_decide_eq_true e] at hx
 exact h hx
def rwW (r:PKy×Int):W:=.tup [.tup (r.1.2.map W.int),.int r.1.1,.int r.2]
def kyW (k:PKy):W:=.tup [.tup (k.2.map W.int),.int k.1]
def lk (rs:List (PKy×Int))(k:PKy):Option Int:=rs.foldl (fun o r=>if r.1=k then some r.2 else o) none
theorem rB (rs:List (PKy×Int))(r:PKy×Int)(k:PKy):lk (rs++[r]) k=if r.1=k then some r.2 else lk rs k:=by
 unfold lk
 rw[List.foldl_append]
 rfl
def vl (rs:List (PKy×Int))(k:PKy):Int:=(lk rs k).getD 0
def lowN (G:Int->Int->Int)(F:PKy->Int)(k:PKy):Int:=if k=kf then 0 else lstN G F k
theorem uh (l:List Bool):allW [.tl (l.map W.bl)]=pr (.bl (l.all id)):=by
 show bd (lstOf (.tl (l.map W.bl))) (fun l=>match optL bOf l with
  |some ns=>pr (W.bl (ns.all id))
  |none=>no)=_
 rw[dq,br,cy (f:=bOf) (g:=W.bl) (k:=fun b=>b) (fun a=>rfl),List.map_id']
theorem pQ {h:List Ob}{X Y:W}:aT [.tup (kf.2.map W.int),.int kf.1,X,Y]=pr (.int 0):=by
 have e0:aT [.tup (kf.2.map W.int),.int kf.1,X,Y]=bd (bh [some (.tup (kf.2.map W.int)),some (.int kf.1),some X,some Y,none,none]) finF:=rfl
 rw[e0]
 unfold bh
 have ef:eqW (.tup [.tup (kf.2.map W.int),.int kf.1]) (keyW true (0,[0]))=pr (.bl true):=by
  show eqW (.tup [.tup (kf.2.map W.int),.int kf.1]) (.tup [.tup (kf.2.map W.int),.int kf.1])=_
  rw[eqK,decide_eq_true rfl]
 generalize W.tup (kf.2.map W.int)=A at *
 generalize kf.1=B at *
 simp! only[aa,tupW,ef]
theorem tN {h:List Ob}{jg:Nat}{gk:List (List Key)}{gw:List W}{G:Int->Int->Int}{X:W}{ks:List PKy}{ws:List W}{F:PKy->Int}{k:PKy}(eg:h[jg]?=some (.dit gk gw))(GG:GK gk gw G)(ed:dinOf X h=some (true,ks,ws))(c:k≠kf->SK k/\ ∀p∈lst0 (wo k.2 k.1),atK ks ws (p,wo k.2 k.1)=some (.int (F (p,wo k.2 k.1)))):
  Ok (aT [.tup (k.2.map W.int),.int k.1,X,.loc jg]) h fun w h'=>w=.int (lowN G F k)/\h'=h:=by
 unfold lowN
 by_cases e:k=kf
 ·rw[if_pos e,e,pQ (h:=h)]
  exact aw ⟨rfl,rfl⟩
 ·rw[if_neg e]
  exact pP eg GG ed (c e).1 (c e).2
theorem tO (F:PKy->Int)(k:PKy): ∀ (l:List PKy),lk (l.map fun k=>(k,F k)) k=if k∈l then some (F k) else none:=by
 have: ∀ (l:List PKy) (o:Option Int),(l.map fun k=>(k,F k)).foldl (fun o r=>if r.1=k then some r.2 else o) o=if k∈l then some (F k) else o:=by
  intro l
  induction l with
  |nil=>intro o;rw[if_neg List.not_mem_nil];rfl
  |cons q l ih=>
   intro o
   rw[List.map_cons,List.foldl_cons,ih]
   by_cases e:q=k
   ·subst e
    rw[if_pos List.mem_cons_self]
    split<;>simp
   ·have:(k∈q::l)=(k∈l):=by
     rw[List.mem_cons]
     have:k≠q:=fun z=>e z.symm
     simp [this]
    simp only[this,e,if_false]
 intro l
 exact this l none
theorem jS {κ:List PKy}{π:Array Nat}(F:PKy->Int)(e1:kSort κ=some π)(e2:π.size=κ.length)(e3: ∀i∈π.toList,i<κ.length)(nd:κ.Nodup)(l1:1<=κ.length)(lz:κ.length<=1000):sortW [.tl ((κ.map fun k=>(k,F k)).map rwW)]=pr (.tl (((π.toList.map fun i=>κ.getD i kf).map fun k=>(k,F k)).map rwW)):=by
 have o:optL rowW ((κ.map fun k=>(k,F k)).map rwW)=some (κ.map fun k=>((k.2,k.1),F k)):=by
  rw[List.map_map]
  exact cy (f:=rowW) (g:=fun k=>rwW (k,F k)) (k:=fun k:PKy=>((k.2,k.1),F k)) (fun k=>by
   show (optL iOf (k.2.map W.int)).map (fun ks=>((ks,k.1),F k))=_
   rw[iOfs];rfl) _
 show bd (lstOf (.tl ((κ.map fun k=>(k,F k)).map rwW))) (fun l=>match optL rowW l with
  |some rs=>gd (1<=rs.length/\rs.length<=1000/\(rs.map (·.1)).Nodup) (match rSort rs with
   |some π=>gd (piOk π rs.length) (pr (W.tl (π.toList.map fun i=>l.getD i .non)))
   |none=>no)
  |none=>no)=_
 rw[dq,br,o]
 dsimp only
 rw[qB,e1]
 dsimp only
 have nd2:((κ.map fun k=>(((k.2,k.1),F k):(List Int×Int)×Int)).map (·.1)).Nodup:=by
  rw[List.map_map]
  exact List.Pairwise.map _ (fun a b (h:a≠b) (e:(a.2,a.1)=(b.2,b.1))=>h (by injection e with e1 e2;exact Prod.ext e2 e1)) nd
 rw[List.length_map,aq ⟨l1,lz,nd2⟩,aq ⟨e2,e3⟩]
 congr 2
 simp only[List.map_map]
 refine List.map_congr_left fun i hi=>?_
 show (κ.map (rwW∘fun k=>(k,F k))).getD i .non=rwW (κ.getD i kf,F (κ.getD i kf))
 rw[List.getD_eq_getElem?_getD,List.getD_eq_getElem?_getD,List.getElem?_map,List.getElem?_eq_getElem (e3 i hi)]
 rfl
def ckQ (n:Nat):Bool:=match kSort (prs n) with
 |some π=>decide (π.size=(prs n).length) && (π.toList.all (fun i=>decide (i<(prs n).length)) && ((π.toList.map fun i=>(prs n).getD i kf).isPerm (lpr n) && (match kSort (π.toList.map fun i=>(prs n).getD i kf) with
  |some ρ=>decide (ρ.toList=List.range (lpr n).length)
  |none=>false)))
 |none=>false
theorem um:six ckQ=true:=by decide+kernel
theorem oC {n:Nat}(n6:n<6)(F:PKy->Int): ∃κ:List PKy,κ.Perm (lpr n)/\sortW [.tl (((prs n).map fun k=>(k,F k)).map rwW)]=pr (.tl ((κ.map fun k=>(k,F k)).map rwW))/\sortW [.tl ((κ.map fun k=>(k,F k)).map rwW)]=pr (.tl ((κ.map fun k=>(k,F k)).map rwW)):=by
 have h:=fX um n6
 unfold ckQ at h
 have pl:=(iF n6).2
 have nd:=(iF n6).1
 have lz:=(lR n6).1
 have l1:1<=(lpr n).length:=by unfold lpr;simp
 have pe:=pl.length_eq
 cases e:kSort (prs n) with
 |none=>rw[e] at h;cases h
 |some π=>
  rw[e] at h
  simp only[Bool.and_eq_true,decide_eq_true_eq,List.all_eq_true,List.isPerm_iff] at h
  obtain⟨h1,h2,h3,h4⟩:=h
  refine⟨_,h3,jS F e h1 h2 (pl.nodup_iff.mpr nd) (by omega) (by omega),?_⟩
  generalize (π.toList.map fun i=>(prs n).getD i kf)=κ at *
  have le:=h3.length_eq
  cases e2:kSort κ with
  |none=>rw[e2] at h4;cases h4
  |some ρ=>
   rw[e2] at h4
   have h4:=of_decide_eq_true h4
   have sz:ρ.size=κ.length:=by rw[<-Array.length_toList,h4,List.length_range,le]
   rw[jS F e2 sz (fun i hi=>by rw[h4] at hi;have:=List.mem_range.mp hi;omega) (h3.nodup_iff.mpr nd) (by omega) (by omega)]
   congr 4
   rw[h4]
   apply List.ext_getElem?
   intro i
   rw[List.getElem?_map]
   by_cases hi:i<κ.length
   ·rw[List.getElem?_range (by omega),List.getElem?_eq_getElem hi]
    show some (κ.getD i kf)=_
    rw[List.getD_eq_getElem?_getD,List.getElem?_eq_getElem hi]
    rfl
   ·rw[List.getElem?_eq_none (by rw[List.length_range];omega),List.getElem?_eq_none (by omega)]
    rfl
def ckP (n:Nat):Bool:=(List.range (prs n).length).all fun i=>match (prs n)[i]? with
 |some k=>decide (k=kf)||(lst0 (wo k.2 k.1)).all fun p=>decide ((p,wo k.2 k.1)∈(prs n).take i)
 |none=>false
theorem uo:six ckP=true:=by decide+kernel
theorem uc {n:Nat}(n6:n<6){i:Nat}{k:PKy}(h:(prs n)[i]?=some k)(hk:k≠kf): ∀p∈lst0 (wo k.2 k.1),(p,wo k.2 k.1)∈(prs n).take i:=by
 have q:=List.all_eq_true.mp (fX uo n6) i (List.mem_range.mpr (List.getElem?_eq_some_iff.mp h).1)
 rw[h] at q
 simp only[Bool.or_eq_true,decide_eq_true_eq,List.all_eq_true] at q
 exact q.resolve_left hk
noncomputable abbrev F0 (G:Int->Int->Int):PKy->Int:=Fn G fun _=>0
theorem qp {n:Nat}(n6:n<6)(G:Int->Int->Int){k:PKy}(km:k∈lpr n):lowN G (F0 G) k=F0 G k:=by
 unfold lowN
 by_cases e:k=kf
 ·rw[if_pos e,e];rfl
 ·rw[if_neg e]
  have:=uS G (fun _=>0) (ir n6 km e).1
  rw[Int.add_zero] at this
  exact this.symm
theorem nv {h:List Ob}{P x:W}{bs:List B23}{cs:List Int}{m:Nat}(hp:ixW P (.int 1)=pr x)(hx:Lw h x (bs.map B23.w))(hm:bs.length=m)(m1:1<=m)(m2:m<=6)(hb: ∀b∈bs,b.e.tos.length<=6)(hc:(waysL (esOf bs)).length=cs.length){κ:List PKy}
  (hs:sortW [.tl (((prs (m - 1)).map fun k=>(k,F0 (gsum (zsL (esOf bs) cs)) k)).map rwW)]=pr (.tl ((κ.map fun k=>(k,F0 (gsum (zsL (esOf bs) cs)) k)).map rwW))):
  Ok (fN [P,.tl (cs.map W.int)]) h fun w h'=>w=.tl ((κ.map fun k=>(k,F0 (gsum (zsL (esOf bs) cs)) k)).map rwW)/\Nw h h':=by
 have e0:fN [P,.tl (cs.map W.int)]=bd (gO [some P,some (.tl (cs.map W.int)),none,none,none,none]) finF:=rfl
 rw[e0]
 unfold gO
 obtain⟨n,hn⟩: ∃n,n=m - 1:=⟨_,rfl⟩
 have n6:n<6:=by omega
 rw[<-hn] at hs
 obtain⟨N,hN⟩: ∃N:Int,N=(m:Int):=⟨_,rfl⟩
 have lz:=(lR n6).1
 have pl:=(iF n6).2
 have nd:(prs n).Nodup:=pl.nodup_iff.mpr (iF n6).1
 simp!
 refine bS (p3 hp hx (by omega) hb hc) fun w h1 qq_=>?_
 obtain⟨jg,gk,gw,ew,D,GG⟩:=qq_
 subst ew
 generalize gsum (zsL (esOf bs) cs)=G at *
 generalize W.tl (cs.map W.int)=CW at *
 simp!
 refine kc ?_
 simp! only[aa,hp]
 refine Lw.len_eq ((hx.keep D.nw.eq).keep (Nf.mk0 (h:=h1) (b:=.din true [] [])).nw.eq) (N:=N) (by rw[List.length_map,hm];exact hN) ?_
 simp!
 refine bS (o5 hN m1 m2 _) fun w h2 qq_=>?_
 obtain⟨ew,N2⟩:=qq_
 rw[<-hn,show keyW true=kyW from rfl] at ew
 subst ew
 have D2:=(Nd.mk0 (h:=h1) (b:=.din true [] [])).more N2
 simp! only[aa,ft]
 refine cz (I:=fun i ρ h'=> ∃a b,ρ=[some P,some CW,some (.loc jg),some (.loc h1.length),a,b]/\Nd h1 h' h1.length (.din true ((prs n).take i) (((prs n).take i).map fun k=>.int (F0 G k)))) ⟨_,_,rfl,D2⟩ (fun _ _ _ _=>trivial) (fun i w ρ h3 hw I=>?_) fun ρ h3 I=>?_
 ·obtain⟨a,b,rfl,N3⟩:=I
  rw[List.getElem?_map] at hw
  obtain⟨k,hk,rfl⟩:=Option.map_eq_some_iff.mp hw
  have km:=pl.mem_iff.mp (List.mem_of_getElem? hk)
  have hi:=(List.getElem?_eq_some_iff.mp hk).1
  refine⟨[some P,some CW,some (.loc jg),some (.loc h1.length),some (.tup (k.2.map W.int)),some (.int k.1)],rfl,?_⟩
  have cc:k≠kf->SK k/\ ∀p∈lst0 (wo k.2 k.1),atK ((prs n).take i) (((prs n).take i).map fun k=>.int (F0 G k)) (p,wo k.2 k.1)=some (.int (F0 G (p,wo k.2 k.1))):=fun ne=>
   ⟨(ir n6 km ne).1,fun p hp=>mU (f:=fun k=>.int (F0 G k)) (uc n6 hk ne p hp)⟩
  simp! only[aa,fw]
  refine bS (tN (F:=F0 G) (k:=k) (N3.nw.get D.new) GG (eO N3.new) cc) fun w h4 qq_=>?_
  obtain⟨ew,e4⟩:=qq_
  subst ew e4
  rw[qp n6 G km]
  have nm:k ∉ (prs n).take i:=fun z=>by
   have e1:prs n=(prs n).take i++k::(prs n).drop (i+1):=by
    obtain⟨_,e⟩:=List.getElem?_eq_some_iff.mp hk
    rw[<-e,<-List.drop_eq_getElem_cons hi,List.take_append_drop]
   have nd2:=nd
   rw[e1] at nd2
   exact (List.nodup_append.mp nd2).2.2 k z k List.mem_cons_self rfl
  simp! only[aa,tupW]
  refine pf (p:=k.1) (l:=k.2) N3.new (by rw[List.length_take];exact Nat.lt_of_le_of_lt (show _<=81 by have:=pl.length_eq;omega) (by decide)) (qE nm) ?_
  simp!
  refine aw ⟨_,rfl,_,_,rfl,?_⟩
  rw[aI hk,List.map_append]
  exact N3.put _
 ·obtain⟨a,b,rfl,N3⟩:=I
  rw[List.length_map,List.take_length] at N3
  simp!
  refine aX (a:=.dn true (prs n) ((prs n).map fun k=>.int (F0 G k))) (h':=h3.set h1.length .gone) (by unfold iceW;simp only[N3.new]) ?_
  have sI:srcI (.dn true (prs n) ((prs n).map fun k=>.int (F0 G k)))=pr ⟨(prs n).map fun k=>.tup [kyW k,.int (F0 G k)],fun _=>True⟩:=by
   show pr (⟨List.zipWith (fun k w=>W.tup [keyW true k,w]) (prs n) ((prs n).map fun k=>.int (F0 G k)),fun _=>True⟩:Sr)=_
   congr 2
   rw[List.zipWith_map_right,List.zipWith_self]
   rfl
  have gl: ∀ {α:Type} (q:M α),gd (((prs n).map fun k=>W.tup [kyW k,.int (F0 G k)]).length<=sizeLine) q=q:=fun q=>aq (by rw[List.length_map,pl.length_eq];exact sz (by omega))
  simp! only[aa,sI,gl]
  refine cO (I:=fun i l h'=>h'=h3.set h1.length .gone/\l=(((prs n).take i).map fun k=>(k,F0 G k)).map rwW) ⟨rfl,rfl⟩ dE (fun _ _ _ _=>trivial) (fun i w l h' hw I=>?_) fun l h' I=>?_
  ·obtain⟨rfl,rfl⟩:=I
   rw[List.getElem?_map] at hw
   obtain⟨k,hk,rfl⟩:=Option.map_eq_some_iff.mp hw
   refine⟨[some (kyW k),some (.int (F0 G k)),none,some P,some CW,some (.loc jg),some (.loc h1.length),a,b],rfl,?_⟩
   have ea:addW (kyW k) (.tup [.int (F0 G k)])=pr (rwW (k,F0 G k)):=addT _ _ _ (by show 1+1<=100;decide)
   simp! only[List.replicate,List.cons_append,List.nil_append,aa,tupW,ea]
   refine aw ⟨rfl,?_⟩
   rw[aI hk,List.map_append,List.map_append]
   rfl
  ·obtain⟨rfl,rfl⟩:=I
   rw[List.length_map,List.take_length]
   simp! only[aa,hs]
   exact aw ⟨rfl,D.nw.trans (N3.put .gone).nw⟩
end
set_option maxHeartbeats 1000000
section
theorem t4 (cs:List Int):eqW (.tl (cs.map W.int)) (.tl (cs.map W.int))=pr (.bl true):=p5 (jo cs (n:=48))
theorem t0 {rs:List (PKy×Int)}(lr:rs.length<=1000)(ls: ∀r∈rs,r.1.2.length<=1000):eqW (.tl (rs.map rwW)) (.tl (rs.map rwW))=pr (.bl true):=i7 (fun a e=>by cases e) (.lst (by rw[List.length_map];exact lr) fun x hx=>by
 obtain⟨r,hr,rfl⟩:=List.mem_map.mp hx
 exact pdT (by simp) (aF (pdT (by rw[List.length_map];exact ls r hr) (jo _ (n:=46))) (aF .int (aF .int bW))))
theorem rn {h:List Ob}{j:Nat}(R:Pot h j):Ok (da [.loc j]) h fun w h'=> ∃ (N:Int) (m:Nat),w=.int N/\N=(m:Int)/\1<=m/\m<=6/\Kn j h h':=by
 have e0:da [.loc j]=bd (dS [some (.loc j)]) finF:=rfl
 rw[e0]
 unfold dS
 simp!
 refine bN R (by decide) (by decide) fun v h1 v0 v1 K1=>?_
 by_cases c:v=0
 ·simp! only[aa,decide_eq_true c]
  exact aw ⟨6,6,rfl,rfl,by decide,by decide,K1.kn⟩
 ·simp! only[aa,decide_eq_false c]
  refine bN K1.re (by decide) (by decide) fun u h2 u0 u1 K2=>?_
  simp!
  exact aw ⟨1+u,(1+u).toNat,rfl,by omega,by omega,by omega,K1.kn.trans K2.kn⟩
theorem rA {n:Nat}(n6:n<6){k:PKy}(h:k∈lpr n):k.2.length<=1000:=by
 by_cases e:k=kf
 ·rw[e];decide
 ·have:=(ir n6 h e).1.le
  omega
theorem pA {x y:W}{b:Bool}(e:eqW x y=pr (.bl b)):neW x y=pr (.bl (!b)):=by
 funext h
 have:=congrFun e h
 unfold eqW at this
 unfold neW
 cases q:eqB x y h with
 |none=>rw[q] at this;cases this
 |some c=>
  rw[q] at this
  have:c=b:=by
   have:=this
   injection this with h1 h2
   injection h1
  subst this
  rfl
theorem sJ {h:List Ob}{k:PKy}{v:Int}(hz:k.2=0::k.2.tail)(hl:k.2.length<=50):Ok (dy [rwW (k,v)]) h fun w h'=>w=.bl true/\h'=h:=by
 have e0:dy [rwW (k,v)]=bd (eI [some (.tup [.tup (k.2.map W.int),.int k.1,.int v]),none]) finF:=rfl
 rw[e0]
 unfold eI
 have i0:ixW (.tup [.tup (k.2.map W.int),.int k.1,.int v]) (.int 0)=pr (.tup (k.2.map W.int)):=ix0 ..
 have s1:slW (.tup [.tup (k.2.map W.int),.int k.1,.int v]) (some 1) none=pr (.tup [.int k.1,.int v]):=rfl
 have ad:addW (.tup (k.2.map W.int)) (.tup [.int k.1,.int v])=pr (.tup ((k.2++[k.1,v]).map W.int)):=by
  rw[hz,List.map_cons,addT _ _ _ (by rw[List.length_map,List.length_tail];show _+2<=_;omega),List.cons_append,List.map_cons,List.map_append]
  rfl
 have lw:lenW [.tup [.tup (k.2.map W.int),.int k.1,.int v]]=pr (.int 3):=rfl
 have it: ∀l,isiW [.tup l,.ty "tuple"]=pr (.bl true):=fun l=>rJ (by decide) (by decide)
 have it2:=it (k.2.map W.int)
 have it1:=it [.tup (k.2.map W.int),.int k.1,.int v]
 generalize W.tup [.tup (k.2.map W.int),.int k.1,.int v]=RW at *
 generalize W.tup (k.2.map W.int)=SW at *
 generalize W.tup [.int k.1,.int v]=TW at *
 simp! only[aa,it1,lw,i0,it2,decide_true,s1,ad]
 refine cz (I:=fun i ρ h'=> ∃a,ρ=[some RW,a]/\h'=h) ⟨_,rfl,rfl⟩ (fun _ _ _ _=>trivial) (fun i w ρ h' hw I=>?_) fun ρ h' I=>?_
 ·obtain⟨a,rfl,rfl⟩:=I
  rw[List.getElem?_map] at hw
  obtain⟨x,hx,rfl⟩:=Option.map_eq_some_iff.mp hw
  refine⟨_,rfl,?_⟩
  simp! only[aa,mG (i:=x) (c:= "int") (b:=true) (by decide) (by decide),mG (i:=x) (c:= "bool") (b:=false) (by decide) (by decide)]
  exact aw ⟨_,rfl,_,rfl,rfl⟩
 ·obtain⟨a,rfl,rfl⟩:=I
  simp!
  exact aw ⟨rfl,rfl⟩
theorem q9 {β:Type}{h:List Ob}{j:Nat}{ks:List PKy}{ws:List W}{k:W->M β}{Q:β->List Ob->Prop}(e:h[j]?=some (.din true ks ws))(q:Ok (k (.loc j)) h Q):Ok (bd (isDN (.loc j)) k) h Q:=by
 refine aX (a:=.loc j) (h':=h) ?_ q
 unfold isDN
 rw[eO e]
theorem rf {β:Type}{h:List Ob}{j:Nat}{ks:List PKy}{ws:List W}{p:Int}{l:List Int}{d:W}{k:W->M β}{Q:β->List Ob->Prop}(e:h[j]?=some (.din true ks ws))(q:Ok (k ((atK ks ws (p,l)).getD d)) h Q):Ok (bd (getN (.loc j) (.tup [.tup (l.map W.int),.int p]) d) k) h Q:=by
 refine aX (a:=(atK ks ws (p,l)).getD d) (h':=h) ?_ q
 unfold getN
 simp only[eO e,jE]
theorem rD (ns:List Int)(hh:List Ob):Ok (i6 [.cl (ns.map W.int)]) hh fun w _=>w=.bl true:=by
 have e0:i6 [.cl (ns.map W.int)]=bd (mJ [some (.cl (ns.map W.int)),none,none,none,none,none,none,none,none,none,none,none,none]) finF:=rfl
 rw[e0]
 unfold mJ
 simp!
 refine bS (qI ns hh) fun w h1 qq_=>?_
 obtain⟨ks,ew,hk,k63,P1⟩:=qq_
 subst ew
 have lk0:0<ks.length:=List.length_pos_iff.mpr hk
 obtain⟨k0,hk0,ek0⟩:=lN (ks:=ks) (i:=0) (by decide) (by omega)
 simp! only[aa,ek0]
 refine bS (rn (P1 k0 hk0)) fun w h2 qq_=>?_
 obtain⟨N,m,ew,hN,m1,m2,K2⟩:=qq_
 subst ew
 have P2:=P1.kn K2
 simp! only[aa,ek0]
 refine bS (lq hN m1 (by omega) (P2 k0 hk0)) fun w h3 qq_=>?_
 obtain⟨bs,ew,lb,gb,K3⟩:=qq_
 subst ew
 have P3:=P2.kn K3
 have hl:bs.length<=10:=by omega
 have h6: ∀b∈bs,b.e.tos.length<=6:=fun b hb=>(gb b hb).six
 have hp:ixW (pgW bxW bs) (.int 1)=pr (.tl (bs.map B23.w)):=ix1 ..
 have hp0:ixW (pgW bxW bs) (.int 0)=pr (.tl [.tup [.str "a",.int 3]]):=ix0 ..
 have hs:=i7 (w:=pgW bxW bs) (fun a e=>by cases e) (uG hl gb)
 have tb0:W.tl [.tup [.str "a",.int 3]]=bxW:=rfl
 have tb1:W.tup [bxW,.tl (bs.map B23.w)]=pgW bxW bs:=rfl
 simp! only[aa,hp]
 refine bS (n8 hk hl h6 P3) fun w h4 qq_=>?_
 obtain⟨cs,ew,lc,c0,Y4⟩:=qq_
 subst ew
 obtain⟨n,rfl⟩: ∃n,m=n+1:=⟨m - 1,by omega⟩
 have n6:n<6:=by omega
 have hx: ∀h,Lw h (.tl (bs.map B23.w)) (bs.map B23.w):=fun h=>.inl rfl
 have eB:lenW [.tl (bs.map B23.w)]=pr (.int N):=by rw[lenW_tl,List.length_map,lb,hN]
 obtain⟨κ,hκ,so1,so2⟩:=oC n6 (F0 (gsum (zsL (esOf bs) cs)))
 have pp:=fun h=>nv (h:=h) hp (hx h) lb m1 m2 h6 lc so1
 have gn:=fun h=>nM (h:=h) (hx h) hl h6 lc
 have ec:=t4 cs
 simp! only[aa,hp,hp0,dq]
 rw[tb0,tb1]
 generalize pgW bxW bs=GW at *
 generalize W.tl (bs.map B23.w)=BW at *
 generalize W.tl (cs.map W.int)=CW at *
 generalize gsum (zsL (esOf bs) cs)=G at *
 refine bS (pp _) fun w h5 qq_=>?_
 obtain⟨ew,N5⟩:=qq_
 subst ew
 have pl:=(iF n6).2
 have lz:=(lR n6).1
 have lκ:=hκ.length_eq
 have rm: ∀r∈(κ.map fun k=>(k,F0 G k)),∃k∈lpr n,r=(k,F0 G k):=fun r hr=>by
  obtain⟨k,km,rfl⟩:=List.mem_map.mp hr
  exact⟨k,hκ.mem_iff.mp km,rfl⟩
 have lr:(κ.map fun k=>(k,F0 G k)).length=(lpr n).length:=by rw[List.length_map,lκ]
 have ls: ∀r∈(κ.map fun k=>(k,F0 G k)),r.1.2.length<=1000:=fun r hr=>by
  obtain⟨k,km,rfl⟩:=rm r hr
  exact rA n6 km
 have er:=pA (t0 (by omega) ls)
 have lkr: ∀k∈lpr n,lk (κ.map fun k=>(k,F0 G k)) k=some (F0 G k):=fun k km=>by rw[tO,if_pos (hκ.mem_iff.mpr km)]
 generalize (κ.map fun k=>(k,F0 G k))=rs at *
 have gl: ∀ {α:Type} (q:M α),gd ((rs.map rwW).length<=sizeLine) q=q:=fun q=>aq (by rw[List.length_map];exact sz (by omega))
 simp!
 refine Lw.isi (c:= "list") (b:=true) (.inl rfl) (by decide) (by decide) ?_
 simp! only[aa,ft,gl]
 refine cO (I:=fun i l h'=>h'=h5/\l=((rs.take i).map fun _=>true).map W.bl) ⟨rfl,rfl⟩ dE (fun _ _ _ _=>trivial) (fun i w l h' hw I=>?_) fun l h' I=>?_
 ·obtain⟨rfl,rfl⟩:=I
  rw[List.getElem?_map] at hw
  obtain⟨r,hr,rfl⟩:=Option.map_eq_some_iff.mp hw
  obtain⟨k,km,rfl⟩:=rm r (List.mem_of_getElem? hr)
  refine⟨_,rfl,?_⟩
  simp! only[List.replicate,List.cons_append,List.nil_append,aa]
  have kz:k.2=0::k.2.tail/\k.2.length<=50:=by
   by_cases e:k=kf
   ·rw[e];exact⟨rfl,by decide⟩
   ·have c:=(ir n6 km e).1
    have:=c.le
    exact⟨c.z,by omega⟩
  refine (sJ kz.1 kz.2).imp fun w h2 qz=>?_
  obtain⟨ew,e2⟩:=qz
  subst ew e2
  refine⟨rfl,?_⟩
  rw[aI hr,List.map_append,List.map_append]
  rfl
 ·obtain⟨rfl,rfl⟩:=I
  rw[List.length_map,List.take_length]
  have al:((rs.map fun _=>true).all id)=true:=by rw[List.all_map];exact List.all_eq_true.mpr fun _ _=>rfl
  simp! only[aa,uh,al,so2,er]
  refine kc ?_
  simp! only[aa,ft]
  refine cz (I:=fun i ρ h2=> ∃a b c ks' ws',ρ=[some (.cl (ns.map W.int)),some (.tl (ks.map W.loc)),some GW,some CW,some GW,some CW,some (.tl (rs.map rwW)),some (.loc h'.length),a,b,c,none,none]/\Nf h' h2 (.din true ks' ws')/\ks'.length=ws'.length/\ks'.length<=i/\ ∀k,atK ks' ws' k=(lk (rs.take i) k).map W.int) ⟨_,_,_,[],[],rfl,Nf.mk0,rfl,Nat.le_refl _,fun _=>rfl⟩ (fun _ _ _ _=>trivial) (fun i w ρ h2 hw I=>?_) fun ρ h2 I=>?_
  ·obtain⟨a,b,c,ks',ws',rfl,N2,l1,l2,ek⟩:=I
   rw[List.getElem?_map] at hw
   obtain⟨r,hr,rfl⟩:=Option.map_eq_some_iff.mp hw
   have hi:=(List.getElem?_eq_some_iff.mp hr).1
   obtain⟨⟨p,s⟩,v⟩:=r
   refine⟨[some (.cl (ns.map W.int)),some (.tl (ks.map W.loc)),some GW,some CW,some GW,some CW,some (.tl (rs.map rwW)),some (.loc h'.length),some (.tup (s.map W.int)),some (.int p),some (.int v),none,none],rfl,?_⟩
   simp! only[aa,fw,tupW]
   rcases ep:putW ks' ws' (p,s) (.int v) with⟨ks2,ws2⟩
   obtain⟨g1,g2,g3⟩:=jL l1 ep
   refine pf N2.new (Nat.lt_of_le_of_lt (show _<=1000 by omega) (by decide)) ep ?_
   simp!
   refine aw ⟨_,rfl,_,_,_,ks2,ws2,rfl,N2.put _,g1,by omega,fun k=>?_⟩
   rw[aI hr,rB,g3]
   by_cases e:(p,s)=k
   ·rw[if_pos e,if_pos e];rfl
   ·rw[if_neg e,if_neg e];exact ek k
  ·obtain⟨a,b,c,ks',ws',rfl,N2,l1,l2,ek⟩:=I
   rw[List.length_map,List.take_length] at ek
   have at': ∀k∈lpr n,atK ks' ws' k=some (.int (F0 G k)):=fun k km=>by rw[ek,lkr k km];rfl
   simp! only[aa,hp]
   refine bS (gn h2) fun w h7 qq_=>?_
   obtain⟨jg,gk,gw,ew,D,GG⟩:=qq_
   subst ew
   have e7:=D.nw.get N2.new
   simp! only[aa,mGetN]
   refine q9 e7 ?_
   simp! only[aa,tupW]
   refine rf (p:=0) (l:=[0]) e7 ?_
   have a0:atK ks' ws' (0,[0])=some (.int 0):=at' kf List.mem_cons_self
   rw[a0,Option.getD_some]
   simp! only[aa,decide_true,hp,eB]
   refine bS (pO hN m1 m2 _) fun w h8 qq_=>?_
   obtain⟨ew,e8⟩:=qq_
   subst ew e8
   have eS:n+1 - 1=n:=rfl
   rw[eS]
   simp! only[aa,ft]
   refine cz (I:=fun i ρ h9=> ∃a b A,ρ=[some (.cl (ns.map W.int)),some (.tl (ks.map W.loc)),some GW,some CW,some GW,some CW,some (.tl (rs.map rwW)),some (.loc h'.length),a,b,c,some (.loc jg),some (.int A)]/\A=1+(((prOf ((setsL n).take i)).length:Nat):Int)/\Nw h8 h9) ⟨_,_,_,rfl,rfl,Nw.refl _⟩ (fun _ _ _ _=>trivial) (fun i w ρ h9 hw I=>?_) fun ρ h9 I=>?_
   ·obtain⟨a,b,A,rfl,eA,N9⟩:=I
    rw[List.getElem?_map] at hw
    obtain⟨s,hs',rfl⟩:=Option.map_eq_some_iff.mp hw
    obtain⟨⟨sz0,sle⟩,sk⟩:=qh n6 hs'
    refine⟨_,rfl,?_⟩
    have sl1:slW (setW' s) (some 1) none=pr (.tup (s.tail.map W.int)):=slos (os:=s) (by rw[sz0];simp)
    simp! only[aa,sl1]
    refine jt (I:=fun l ρ h9=> ∃b B,ρ=[some (.cl (ns.map W.int)),some (.tl (ks.map W.loc)),some GW,some CW,some GW,some CW,some (.tl (rs.map rwW)),some (.loc h'.length),some (setW' s),b,c,some (.loc jg),some (.int B)]/\B=A+(l:Int)/\Nw h8 h9) ⟨_,_,rfl,by omega,N9⟩ (fun _ _ _ _=>trivial) (fun l w ρ h10 hw I=>?_) fun ρ h10 I=>?_
    ·obtain⟨b,B,rfl,eB',N10⟩:=I
     rw[List.getElem?_map] at hw
     obtain⟨p,hp',rfl⟩:=Option.map_eq_some_iff.mp hw
     have pm:=List.mem_of_getElem? hp'
     obtain⟨cc,cl⟩:=sk p pm
     have km:(p,s)∈lpr n:=List.mem_cons_of_mem _ (prOf_mem.mpr ⟨List.mem_of_getElem? hs',pm⟩)
     have nk:(p,s)≠kf:=fun z=>by have:=cc.l1;rw[z] at this;exact absurd this (by decide)
     have e10:=N10.get e7
     refine⟨_,rfl,?_⟩
     simp! only[aa,tupW]
     refine tE (eO e10) ?_
     rw[at' _ km]
     simp! only[aa,Option.isSome_some,bne_self_eq_false,tupW]
     refine lE (eO e10) (at' _ km) ?_
     simp!
     refine bS (nL (k:=(p,s)) (F:=F0 G) (N10.get D.new) GG (eO e10) cc fun q hq=>at' _ ((ir n6 km nk).2 q hq)) fun w h11 qq_=>?_
     obtain⟨ew,N11⟩:=qq_
     subst ew
     have lw:=qp n6 G km
     unfold lowN at lw
     rw[if_neg nk] at lw
     rw[lw]
     simp! only[aa,decide_true]
     exact aw ⟨_,rfl,_,_,rfl,by omega,N10.trans N11⟩
    ·obtain⟨b,B,rfl,eB',N10⟩:=I
     rw[List.length_map] at eB'
     refine⟨_,rfl,_,_,B,rfl,?_,N10⟩
     rw[aI hs',iT,List.length_append,List.length_map,eB',eA]
     omega
   ·obtain⟨a,b,A,rfl,eA,N9⟩:=I
    rw[List.length_map,List.take_length] at eA
    have eA':A=((rs.map rwW).length:Int):=by
     rw[eA,List.length_map,lr]
     unfold lpr
     rw[List.length_cons]
     omega
    simp! only[aa,decide_eq_true eA',hs,ec]
    exact aw rfl
theorem law_true (ns:List Int)(hh:List Ob): ∃h',i6 [.cl (ns.map W.int)] hh=.ok (.bl true) h':=by
 obtain⟨w,h',e,rfl⟩:=rD ns hh
 exact⟨h',e⟩
end
end Q
namespace Q
open PySem L2
theorem ln1 {α:Type}: ∀ {us:List α},us.length=1-> ∃a0,us=[a0]
 |[a0],_=>⟨a0,rfl⟩
theorem ln2 {α:Type}: ∀ {us:List α},us.length=2-> ∃a0 a1,us=[a0,a1]
 |[a0,a1],_=>⟨a0,a1,rfl⟩
theorem ln4 {α:Type}: ∀ {us:List α},us.length=4-> ∃a0 a1 a2 a3,us=[a0,a1,a2,a3]
 |[a0,a1,a2,a3],_=>⟨a0,a1,a2,a3,rfl⟩
def spLaw (K:PySem.W.Frag):Sp:=fun vs H Q _=> ∃ (a:Addr) (ns:List Int),vs=[.ref a]/\SqL K H a (ns.map V.int)/\ns.length<=63/\ ∀H',Q (.bl true) H'
theorem jZ {K:PySem.W.Frag}{o:Wo}: ∀ns:List Int,Rvs K o (ns.map W.int) (ns.map V.int)
 |[]=>Rvs.nil
 |n::r=>Rvs.cons (rv_int.mpr rfl) (jZ r)
theorem law_ok {P:Program}{w:World}{K:PySem.W.Frag}{mg:Str->Option Value}{base:Heap}{f:Addr}{fd:FuncData}(C:CG P w K mg base 5 "law" f fd ["script"] 1 i6):FnOk P w K mg base CX0 5 f fd ["script"] (spLaw K):=
 C.ok.imp fun vs H Q E h=>by
  obtain⟨a,ns,rfl,sq,hn,q⟩:=h
  have nl: ¬Lv ⟨fun _=>0,[],H⟩ a:=fun⟨k,b,hk,_⟩=>by simp at hk
  refine⟨⟨fun _=>0,[],H⟩,[.cl (ns.map W.int)],rfl,rfl,⟨fun k b hk=>by simp at hk,fun j k b c hj=>by simp at hj⟩,Rvs.cons ?_ Rvs.nil,?_⟩
  ·unfold Rv
   exact⟨a,_,rfl,sq.imp (fun r=>⟨r,nl⟩) id,jZ ns⟩
  ·obtain⟨h',e⟩:=law_true ns []
   show Ps _ _ _ (i6 [.cl (ns.map W.int)] []) Q
   rw[e]
   intro p b _ _ _ rb
   rw[rv_bl.mp rb]
   exact q _
theorem all_mk {l:PySem.W.OpenLaw}{w:World}{K:PySem.W.Frag}{h:Heap}{mg:Str->Option Value}{fa f1 f2 f3 f4 f5 f6 f7 f8 f9 f10 f11 f12 f13 f14 f15 f16 f17 f18 f19 f20 f21 c_FIRST_PAIR e_FIRST_PAIR:Addr}(X:K.In h)(G:h.Ns mainGlobals mg)(hfa:mg "law"=some (.ref fa))
  {od1 an1 od2 an2 od3 an3 od4 an4 od5 an5 od6 an6 od7 an7 od8 an8 od9 an9 od10 an10 od11 an11 od12 an12 od13 an13 od14 an14 od15 an15 od16 an16 od17 an17 od18 an18 od19 an19 od20 an20 od21 an21:Option Addr}{sl1 sl2 sl3 sl4 sl5 sl6 sl7 sl8 sl9 sl10 sl11 sl12 sl13 sl14 sl15 sl16 sl17 sl18 sl19 sl20 sl21:Array (Option Value)}{oc1 kV1 dc1 pm1 cd1 ct1 oc2 kV2 dc2 pm2 cd2 ct2 oc3 kV3 dc3 pm3 cd3 ct3 oc4 kV4 dc4 pm4 cd4 ct4 oc5 kV5 dc5 pm5 cd5 ct5 oc6 kV6 dc6 pm6 cd6 ct6 oc7 kV7 dc7 pm7 cd7 ct7 oc8 kV8 dc8 pm8 cd8 ct8 oc9 kV9 dc9 pm9 cd9 ct9 oc10 kV10 dc10 pm10 cd10 ct10 oc11 kV11 dc11 pm11 cd11 ct11 oc12 kV12 dc12 pm12 cd12 ct12 oc13 kV13 dc13 pm13 cd13 ct13 oc14 kV14 dc14 pm14 cd14 ct14 oc15 kV15 dc15 pm15 cd15 ct15 oc16 kV16 dc16 pm16 cd16 ct16 oc17 kV17 dc17 pm17 cd17 ct17 oc18 kV18 dc18 pm18 cd18 ct18 oc19 kV19 dc19 pm19 cd19 ct19 oc20 kV20 dc20 pm20 cd20 ct20 oc21 kV21 dc21 pm21 cd21 ct21:Value}
  {od_FIRST_PAIR odd_FIRST_PAIR:Option Addr}{nn_FIRST_PAIR nnd_FIRST_PAIR:Nat}{sl_FIRST_PAIR sld_FIRST_PAIR:Array (Option Value)}{t0_FIRST_PAIR t1_FIRST_PAIR:Tok}
  (a1:nsIn K mainGlobals "sides_of"=some (some (.ref f1)))
  (l1:K.lookup f1=some ⟨oc1,od1,.func (fnOf "sides_of" "sides_of" (aJ cp) (aG cp) (aj cp) .none kV1 dc1 pm1 an1 cd1 ct1),sl1⟩)
  (c1:codeIn K cd1 "sides_of"=true)
  (k1:keepIn K (.ref f1)=true)
  (a2:nsIn K mainGlobals "ways"=some (some (.ref f2)))
  (l2:K.lookup f2=some ⟨oc2,od2,.func (fnOf "ways" "ways" (aJ fZ) (aG fZ) (aj fZ) .none kV2 dc2 pm2 an2 cd2 ct2),sl2⟩)
  (c2:codeIn K cd2 "ways"=true)
  (k2:keepIn K (.ref f2)=true)
  (a3:nsIn K mainGlobals "gains"=some (some (.ref f3)))
  (l3:K.lookup f3=some ⟨oc3,od3,.func (fnOf "gains" "gains" (aJ d8) (aG d8) (aj d8) .none kV3 dc3 pm3 an3 cd3 ct3),sl3⟩)
  (c3:codeIn K cd3 "gains"=true)
  (k3:keepIn K (.ref f3)=true)
  (a4:nsIn K mainGlobals "block_sets"=some (some (.ref f4)))
  (l4:K.lookup f4=some ⟨oc4,od4,.func (fnOf "block_sets" "block_sets" (aJ bo) (aG bo) (aj bo) .none kV4 dc4 pm4 an4 cd4 ct4),sl4⟩)
  (c4:codeIn K cd4 "block_sets"=true)
  (k4:keepIn K (.ref f4)=true)
  (a5:nsIn K mainGlobals "without"=some (some (.ref f5)))
  (l5:K.lookup f5=some ⟨oc5,od5,.func (fnOf "without" "without" (aJ cn) (aG cn) (aj cn) .none kV5 dc5 pm5 an5 cd5 ct5),sl5⟩)
  (c5:codeIn K cd5 "without"=true)
  (k5:keepIn K (.ref f5)=true)
  (a6:nsIn K mainGlobals "pairs"=some (some (.ref f6)))
  (l6:K.lookup f6=some ⟨oc6,od6,.func (fnOf "pairs" "pairs" (aJ d7) (aG d7) (aj d7) .none kV6 dc6 pm6 an6 cd6 ct6),sl6⟩)
  (c6:codeIn K cd6 "pairs"=true)
  (k6:keepIn K (.ref f6)=true)
  (a7:nsIn K mainGlobals "least_number"=some (some (.ref f7)))
  (l7:K.lookup f7=some ⟨oc7,od7,.func (fnOf "least_number" "least_number" (aJ aZ) (aG aZ) (aj aZ) .none kV7 dc7 pm7 an7 cd7 ct7),sl7⟩)
  (c7:codeIn K cd7 "least_number"=true)
  (k7:keepIn K (.ref f7)=true)
  (a8:nsIn K mainGlobals "paper"=some (some (.ref f8)))
  (l8:K.lookup f8=some ⟨oc8,od8,.func (fnOf "paper" "paper" (aJ dH) (aG dH) (aj dH) .none kV8 dc8 pm8 an8 cd8 ct8),sl8⟩)
  (c8:codeIn K cd8 "paper"=true)
  (k8:keepIn K (.ref f8)=true)
  (a9:nsIn K mainGlobals "_law_next"=some (some (.ref f9)))
  (l9:K.lookup f9=some ⟨oc9,od9,.func (fnOf "_law_next" "_law_next" (aJ cq) (aG cq) (aj cq) .none kV9 dc9 pm9 an9 cd9 ct9),sl9⟩)
  (c9:codeIn K cd9 "_law_next"=true)
  (k9:keepIn K (.ref f9)=true)
  (a10:nsIn K mainGlobals "_law_pots"=some (some (.ref f10)))
  (l10:K.lookup f10=some ⟨oc10,od10,.func (fnOf "_law_pots" "_law_pots" (aJ bM) (aG bM) (aj bM) .none kV10 dc10 pm10 an10 cd10 ct10),sl10⟩)
  (c10:codeIn K cd10 "_law_pots"=true)
  (k10:keepIn K (.ref f10)=true)
  (a11:nsIn K mainGlobals "_law_end"=some (some (.ref f11)))
  (l11:K.lookup f11=some ⟨oc11,od11,.func (fnOf "_law_end" "_law_end" (aJ cu) (aG cu) (aj cu) .none kV11 dc11 pm11 an11 cd11 ct11),sl11⟩)
  (c11:codeIn K cd11 "_law_end"=true)
  (k11:keepIn K (.ref f11)=true)
  (a12:nsIn K mainGlobals "_law_program"=some (some (.ref f12)))
  (l12:K.lookup f12=some ⟨oc12,od12,.func (fnOf "_law_program" "_law_program" (aJ bu) (aG bu) (aj bu) .none kV12 dc12 pm12 an12 cd12 ct12),sl12⟩)
  (c12:codeIn K cd12 "_law_program"=true)
  (k12:keepIn K (.ref f12)=true)
  (a13:nsIn K mainGlobals "_law_ways"=some (some (.ref f13)))
  (l13:K.lookup f13=some ⟨oc13,od13,.func (fnOf "_law_ways" "_law_ways" (aJ bJ) (aG bJ) (aj bJ) .none kV13 dc13 pm13 an13 cd13 ct13),sl13⟩)
  (c13:codeIn K cd13 "_law_ways"=true)
  (k13:keepIn K (.ref f13)=true)
  (a14:nsIn K mainGlobals "_law_count"=some (some (.ref f14)))
  (l14:K.lookup f14=some ⟨oc14,od14,.func (fnOf "_law_count" "_law_count" (aJ bR) (aG bR) (aj bR) .none kV14 dc14 pm14 an14 cd14 ct14),sl14⟩)
  (c14:codeIn K cd14 "_law_count"=true)
  (k14:keepIn K (.ref f14)=true)
  (a15:nsIn K mainGlobals "_law_counts"=some (some (.ref f15)))
  (l15:K.lookup f15=some ⟨oc15,od15,.func (fnOf "_law_counts" "_law_counts" (aJ bn) (aG bn) (aj bn) .none kV15 dc15 pm15 an15 cd15 ct15),sl15⟩)
  (c15:codeIn K cd15 "_law_counts"=true)
  (k15:keepIn K (.ref f15)=true)
  (a16:nsIn K mainGlobals "_law_gains"=some (some (.ref f16)))
  (l16:K.lookup f16=some ⟨oc16,od16,.func (fnOf "_law_gains" "_law_gains" (aJ bQ) (aG bQ) (aj bQ) .none kV16 dc16 pm16 an16 cd16 ct16),sl16⟩)
  (c16:codeIn K cd16 "_law_gains"=true)
  (k16:keepIn K (.ref f16)=true)
  (a17:nsIn K mainGlobals "_law_sets"=some (some (.ref f17)))
  (l17:K.lookup f17=some ⟨oc17,od17,.func (fnOf "_law_sets" "_law_sets" (aJ bL) (aG bL) (aj bL) .none kV17 dc17 pm17 an17 cd17 ct17),sl17⟩)
  (c17:codeIn K cd17 "_law_sets"=true)
  (k17:keepIn K (.ref f17)=true)
  (a18:nsIn K mainGlobals "_law_least"=some (some (.ref f18)))
  (l18:K.lookup f18=some ⟨oc18,od18,.func (fnOf "_law_least" "_law_least" (aJ bz) (aG bz) (aj bz) .none kV18 dc18 pm18 an18 cd18 ct18),sl18⟩)
  (c18:codeIn K cd18 "_law_least"=true)
  (k18:keepIn K (.ref f18)=true)
  (a19:nsIn K mainGlobals "_law_many"=some (some (.ref f19)))
  (l19:K.lookup f19=some ⟨oc19,od19,.func (fnOf "_law_many" "_law_many" (aJ cr) (aG cr) (aj cr) .none kV19 dc19 pm19 an19 cd19 ct19),sl19⟩)
  (c19:codeIn K cd19 "_law_many"=true)
  (k19:keepIn K (.ref f19)=true)
  (a20:nsIn K mainGlobals "_law_row"=some (some (.ref f20)))
  (l20:K.lookup f20=some ⟨oc20,od20,.func (fnOf "_law_row" "_law_row" (aJ cS) (aG cS) (aj cS) .none kV20 dc20 pm20 an20 cd20 ct20),sl20⟩)
  (c20:codeIn K cd20 "_law_row"=true)
  (k20:keepIn K (.ref f20)=true)
  (a21:nsIn K mainGlobals "law"=some (some (.ref f21)))
  (l21:K.lookup f21=some ⟨oc21,od21,.func (fnOf "law" "law" (aJ eR) (aG eR) (aj eR) .none kV21 dc21 pm21 an21 cd21 ct21),sl21⟩)
  (c21:codeIn K cd21 "law"=true)
  (k21:keepIn K (.ref f21)=true)
  (g_FIRST_PAIR:nsIn K mainGlobals "FIRST_PAIR"=some (some (.ref c_FIRST_PAIR)))
  (l_FIRST_PAIR:K.lookup c_FIRST_PAIR=some ⟨.type "tuple",od_FIRST_PAIR,.seq #[.ref e_FIRST_PAIR,.int 0 t0_FIRST_PAIR] nn_FIRST_PAIR,sl_FIRST_PAIR⟩)
  (v_FIRST_PAIR:K.lookup e_FIRST_PAIR=some ⟨.type "tuple",odd_FIRST_PAIR,.seq #[.int 0 t1_FIRST_PAIR] nnd_FIRST_PAIR,sld_FIRST_PAIR⟩)
  (z_all:nsIn K mainGlobals "all"=some none)
  (z_bool:nsIn K mainGlobals "bool"=some none)
  (z_enumerate:nsIn K mainGlobals "enumerate"=some none)
  (z_int:nsIn K mainGlobals "int"=some none)
  (z_isinstance:nsIn K mainGlobals "isinstance"=some none)
  (z_len:nsIn K mainGlobals "len"=some none)
  (z_list:nsIn K mainGlobals "list"=some none)
  (z_max:nsIn K mainGlobals "max"=some none)
  (z_range:nsIn K mainGlobals "range"=some none)
  (z_sorted:nsIn K mainGlobals "sorted"=some none)
  (z_tuple:nsIn K mainGlobals "tuple"=some none)
  (z_zip:nsIn K mainGlobals "zip"=some none):
  ∃fd:FuncData,(∀ (s:Shared) (v:Value),BindsTo s fd ⟨[v],[]⟩ [("script",v)])/\ ∀base:Heap,K.In base->base.Ns mainGlobals mg->FnOk l.prog w K mg base CX0 5 fa fd ["script"] (spLaw K):=by
 have e:=hfa.symm.trans (mg_of X G a21)
 cases e
 have y_all:=mg_none_of X G z_all
 have y_bool:=mg_none_of X G z_bool
 have y_enumerate:=mg_none_of X G z_enumerate
 have y_int:=mg_none_of X G z_int
 have y_isinstance:=mg_none_of X G z_isinstance
 have y_len:=mg_none_of X G z_len
 have y_list:=mg_none_of X G z_list
 have y_max:=mg_none_of X G z_max
 have y_range:=mg_none_of X G z_range
 have y_sorted:=mg_none_of X G z_sorted
 have y_tuple:=mg_none_of X G z_tuple
 have y_zip:=mg_none_of X G z_zip
 have m_FIRST_PAIR:=mg_of X G g_FIRST_PAIR
 have r_FIRST_PAIR: ∀H,SqT K H e_FIRST_PAIR (([0]:List Int).map V.int):=fun H=>.inr ⟨_,_,_,v_FIRST_PAIR,rfl,rfl,by show 1<=sizeLine;decide,.cons ⟨_,rfl⟩ (.nil)⟩
 have q_FIRST_PAIR: ∀H,SqT K H c_FIRST_PAIR [.ref e_FIRST_PAIR,.int 0]:=fun H=>.inr ⟨_,_,_,l_FIRST_PAIR,rfl,rfl,by show 2<=sizeLine;decide,.cons rfl (.cons ⟨_,rfl⟩ .nil)⟩
 have F1:=bg (st:=cp) l1 c1 k1
 have b1:=F1.binds (ps:=["end"]) fun _ _ _ _ _ _ us hl=>by obtain⟨_,rfl⟩:=ln1 hl;rfl
 have m1:=mg_of X G a1
 have F2:=bg (st:=fZ) l2 c2 k2
 have b2:=F2.binds (ps:=["program"]) fun _ _ _ _ _ _ us hl=>by obtain⟨_,rfl⟩:=ln1 hl;rfl
 have m2:=mg_of X G a2
 have F3:=bg (st:=d8) l3 c3 k3
 have b3:=F3.binds (ps:=["program", "counted"]) fun _ _ _ _ _ _ us hl=>by obtain⟨_,_,rfl⟩:=ln2 hl;rfl
 have m3:=mg_of X G a3
 have F4:=bg (st:=bo) l4 c4 k4
 have b4:=F4.binds (ps:=["many"]) fun _ _ _ _ _ _ us hl=>by obtain⟨_,rfl⟩:=ln1 hl;rfl
 have m4:=mg_of X G a4
 have F5:=bg (st:=cn) l5 c5 k5
 have b5:=F5.binds (ps:=["blocks", "place"]) fun _ _ _ _ _ _ us hl=>by obtain⟨_,_,rfl⟩:=ln2 hl;rfl
 have m5:=mg_of X G a5
 have F6:=bg (st:=d7) l6 c6 k6
 have b6:=F6.binds (ps:=["many"]) fun _ _ _ _ _ _ us hl=>by obtain⟨_,rfl⟩:=ln1 hl;rfl
 have m6:=mg_of X G a6
 have F7:=bg (st:=aZ) l7 c7 k7
 have b7:=F7.binds (ps:=["blocks", "last", "numbers", "gained"]) fun _ _ _ _ _ _ us hl=>by obtain⟨_,_,_,_,rfl⟩:=ln4 hl;rfl
 have m7:=mg_of X G a7
 have F8:=bg (st:=dH) l8 c8 k8
 have b8:=F8.binds (ps:=["program", "counted"]) fun _ _ _ _ _ _ us hl=>by obtain⟨_,_,rfl⟩:=ln2 hl;rfl
 have m8:=mg_of X G a8
 have F9:=bg (st:=cq) l9 c9 k9
 have b9:=F9.binds (ps:=["pot", "many"]) fun _ _ _ _ _ _ us hl=>by obtain⟨_,_,rfl⟩:=ln2 hl;rfl
 have m9:=mg_of X G a9
 have F10:=bg (st:=bM) l10 c10 k10
 have b10:=F10.binds (ps:=["script"]) fun _ _ _ _ _ _ us hl=>by obtain⟨_,rfl⟩:=ln1 hl;rfl
 have m10:=mg_of X G a10
 have F11:=bg (st:=cu) l11 c11 k11
 have b11:=F11.binds (ps:=["pot", "many"]) fun _ _ _ _ _ _ us hl=>by obtain⟨_,_,rfl⟩:=ln2 hl;rfl
 have m11:=mg_of X G a11
 have F12:=bg (st:=bu) l12 c12 k12
 have b12:=F12.binds (ps:=["pot", "many"]) fun _ _ _ _ _ _ us hl=>by obtain⟨_,_,rfl⟩:=ln2 hl;rfl
 have m12:=mg_of X G a12
 have F13:=bg (st:=bJ) l13 c13 k13
 have b13:=F13.binds (ps:=["blocks"]) fun _ _ _ _ _ _ us hl=>by obtain⟨_,rfl⟩:=ln1 hl;rfl
 have m13:=mg_of X G a13
 have F14:=bg (st:=bR) l14 c14 k14
 have b14:=F14.binds (ps:=["pot", "size"]) fun _ _ _ _ _ _ us hl=>by obtain⟨_,_,rfl⟩:=ln2 hl;rfl
 have m14:=mg_of X G a14
 have F15:=bg (st:=bn) l15 c15 k15
 have b15:=F15.binds (ps:=["pots", "blocks"]) fun _ _ _ _ _ _ us hl=>by obtain⟨_,_,rfl⟩:=ln2 hl;rfl
 have m15:=mg_of X G a15
 have F16:=bg (st:=bQ) l16 c16 k16
 have b16:=F16.binds (ps:=["blocks", "counted"]) fun _ _ _ _ _ _ us hl=>by obtain⟨_,_,rfl⟩:=ln2 hl;rfl
 have m16:=mg_of X G a16
 have F17:=bg (st:=bL) l17 c17 k17
 have b17:=F17.binds (ps:=["many"]) fun _ _ _ _ _ _ us hl=>by obtain⟨_,rfl⟩:=ln1 hl;rfl
 have m17:=mg_of X G a17
 have F18:=bg (st:=bz) l18 c18 k18
 have b18:=F18.binds (ps:=["gains_v", "numbers", "places", "last"]) fun _ _ _ _ _ _ us hl=>by obtain⟨_,_,_,_,rfl⟩:=ln4 hl;rfl
 have m18:=mg_of X G a18
 have F19:=bg (st:=cr) l19 c19 k19
 have b19:=F19.binds (ps:=["pot"]) fun _ _ _ _ _ _ us hl=>by obtain⟨_,rfl⟩:=ln1 hl;rfl
 have m19:=mg_of X G a19
 have F20:=bg (st:=cS) l20 c20 k20
 have b20:=F20.binds (ps:=["row"]) fun _ _ _ _ _ _ us hl=>by obtain⟨_,rfl⟩:=ln1 hl;rfl
 have m20:=mg_of X G a20
 have F21:=bg (st:=eR) l21 c21 k21
 have b21:=F21.binds (ps:=["script"]) fun _ _ _ _ _ _ us hl=>by obtain⟨_,rfl⟩:=ln1 hl;rfl
 have m21:=mg_of X G a21
 refine⟨fnOf "law" "law" (aJ eR) (aG eR) (aj eR) .none kV21 dc21 pm21 an21 cd21 ct21,fun s v=>.of_eq rfl,fun base _ _=>?_⟩
 have C_sides_of:=j4 (P:=l.prog) (w:=w) (K:=K) (mg:=mg) (base:=base) F1 b1 m1
 have C_ways:=qY (P:=l.prog) (w:=w) (K:=K) (mg:=mg) (base:=base) y_enumerate C_sides_of F2 b2 m2
 have C_gains:=pj (P:=l.prog) (w:=w) (K:=K) (mg:=mg) (base:=base) y_zip C_ways F3 b3 m3
 have C_block_sets:=iL (P:=l.prog) (w:=w) (K:=K) (mg:=mg) (base:=base) y_range F4 b4 m4
 have C_without:=lA (P:=l.prog) (w:=w) (K:=K) (mg:=mg) (base:=base) y_tuple F5 b5 m5
 have C_pairs:=pi (P:=l.prog) (w:=w) (K:=K) (mg:=mg) (base:=base) m_FIRST_PAIR q_FIRST_PAIR r_FIRST_PAIR C_block_sets F6 b6 m6
 have C_least_number:=gD (P:=l.prog) (w:=w) (K:=K) (mg:=mg) (base:=base) y_max m_FIRST_PAIR q_FIRST_PAIR r_FIRST_PAIR C_without F7 b7 m7
 have C_paper:=ph (P:=l.prog) (w:=w) (K:=K) (mg:=mg) (base:=base) y_len y_sorted C_gains C_pairs C_least_number F8 b8 m8
 have C_law_next:=j8 (P:=l.prog) (w:=w) (K:=K) (mg:=mg) (base:=base) F9 b9 m9
 have C_law_pots:=j7 (P:=l.prog) (w:=w) (K:=K) (mg:=mg) (base:=base) y_len F10 b10 m10
 have C_law_end:=lC (P:=l.prog) (w:=w) (K:=K) (mg:=mg) (base:=base) y_range y_tuple C_law_next F11 b11 m11
 have C_law_program:=hZ (P:=l.prog) (w:=w) (K:=K) (mg:=mg) (base:=base) y_list y_range C_law_end C_law_next F12 b12 m12
 have C_law_ways:=j5 (P:=l.prog) (w:=w) (K:=K) (mg:=mg) (base:=base) y_enumerate y_list F13 b13 m13
 have C_law_count:=jr (P:=l.prog) (w:=w) (K:=K) (mg:=mg) (base:=base) C_law_next F14 b14 m14
 have C_law_counts:=iK (P:=l.prog) (w:=w) (K:=K) (mg:=mg) (base:=base) y_len y_range C_law_next C_law_ways C_law_count F15 b15 m15
 have C_law_gains:=jq (P:=l.prog) (w:=w) (K:=K) (mg:=mg) (base:=base) y_zip C_law_ways F16 b16 m16
 have C_law_sets:=j6 (P:=l.prog) (w:=w) (K:=K) (mg:=mg) (base:=base) y_len y_range y_sorted F17 b17 m17
 have C_law_least:=jp (P:=l.prog) (w:=w) (K:=K) (mg:=mg) (base:=base) y_len y_max y_tuple F18 b18 m18
 have C_law_many:=j9 (P:=l.prog) (w:=w) (K:=K) (mg:=mg) (base:=base) C_law_next F19 b19 m19
 have C_law_row:=lB (P:=l.prog) (w:=w) (K:=K) (mg:=mg) (base:=base) y_bool y_int y_isinstance y_len y_tuple F20 b20 m20
 have C_law:=tD (P:=l.prog) (w:=w) (K:=K) (mg:=mg) (base:=base) y_all y_isinstance y_len y_list y_sorted C_law_pots C_law_program C_law_many C_law_counts C_paper C_law_row C_law_gains C_law_sets C_law_least F21 b21 m21
 exact law_ok C_law
theorem walk {l:PySem.W.OpenLaw}{q:Program}{loose:List Str}{XP:(Str->Option Value)->Heap->Prop}{YP:World->Heap->Prop}{d:DefRec}{K:Params->PySem.W.Frag}(hn:l.most=some 63)(hdf:d.params.defaults=[])
  (hY: ∀ (w:World) (h:Heap),YP w h->(K w.params).In h)
  (F:∀ (w:World) (mg:Str->Option Value) (fa:Addr) (h:Heap),(K w.params).In h->h.Ns mainGlobals mg->mg d.name=some (.ref fa)->
    ∃fd:FuncData,(∀ (s:Shared) (u:Value),BindsTo s fd ⟨[u],[]⟩ [("script",u)])/\ ∀base:Heap,(K w.params).In base->base.Ns mainGlobals mg->FnOk l.prog w (K w.params) mg base CX0 5 fa fd ["script"] (spLaw (K w.params))):
  PySem.W.WalkO q loose XP YP l.row.toRowW d [] (fun f vs=>PySem.call f vs):=
 L2.walk_of (n:=63) (k:=5) (x:= "script") (CX:=fun _=>CX0) (sp:=fun w=>spLaw (K w.params)) hn (by decide) hdf ⟨rfl,by decide,by decide⟩ hY F (fun _ _ a ns hl _ hS=>⟨a,ns,rfl,hS,hl,fun _=>rfl⟩) fun _ _ _ _ _ z=>z
theorem walk_x {q:Program}{loose:List Str}{XP:(Str->Option Value)->Heap->Prop}{K:Params->PySem.W.Frag}{as:List Addr}{n t:Nat}{r:PySem.W.RowW}{d:DefRec}{kwd:List (Str×Expr)}{run:Value->List Value->Sem Value}(e:∀P,as=(K P).map (·.1))
  (W:PySem.W.WalkO q loose XP (fun w h=>(K w.params).In h) r d kwd run):PySem.W.WalkX q loose XP (PySem.W.X.obsZ as) (PySem.W.X.valZ K n t) r d kwd run:=
 fun w s₀ s₁ mg mb G y a o pm cd doc dV kV ho hd hcd hD hmg hg args vals bs L hpre hlay hrd hwl hlo=>
  W w s₀ s₁ mg mb G (PySem.W.InK.keeps w _ _ (PySem.W.X.z_facts e y).2.1 L.keeps) a o pm cd doc dV kV ho hd hcd hD hmg hg args vals bs hpre hlay hrd hwl hlo
end Q
open PySem PySem.W PyProof.Rows
set_option maxRecDepth 100000 in
set_option maxHeartbeats 0 in
theorem PySem.Challenge.cw_blockfall_k26_papers_told_holds : PySem.Challenge.rw_blockfall_k26_papers_told.Holds := by
 w_on;o_law;z_head;(case hw=>w_witness2)
 k_fill
 refine Q.walk_x (fun _=>by kernel_rfl) (Q.walk (l:=PySem.Challenge.rw_blockfall_k26_papers_told) rfl rfl (fun w h Y=>Y) ?F)
 case F=>
  intro w mg fa h KX G hmg
  refine' Q.all_mk KX G hmg ?a1 ?l1 ?c1 ?k1 ?a2 ?l2 ?c2 ?k2 ?a3 ?l3 ?c3 ?k3 ?a4 ?l4 ?c4 ?k4 ?a5 ?l5 ?c5 ?k5 ?a6 ?l6 ?c6 ?k6 ?a7 ?l7 ?c7 ?k7 ?a8 ?l8 ?c8 ?k8 ?a9 ?l9 ?c9 ?k9 ?a10 ?l10 ?c10 ?k10 ?a11 ?l11 ?c11 ?k11 ?a12 ?l12 ?c12 ?k12 ?a13 ?l13 ?c13 ?k13 ?a14 ?l14 ?c14 ?k14 ?a15 ?l15 ?c15 ?k15 ?a16 ?l16 ?c16 ?k16 ?a17 ?l17 ?c17 ?k17 ?a18 ?l18 ?c18 ?k18 ?a19 ?l19 ?c19 ?k19 ?a20 ?l20 ?c20 ?k20 ?a21 ?l21 ?c21 ?k21 ?g_FIRST_PAIR ?l_FIRST_PAIR ?v_FIRST_PAIR ?z_all ?z_bool ?z_enumerate ?z_int ?z_isinstance ?z_len ?z_list ?z_max ?z_range ?z_sorted ?z_tuple ?z_zip
  (case a1=>k_is)
  (case l1=>k_is)
  (case c1=>k_is)
  (case k1=>k_is)
  (case a2=>k_is)
  (case l2=>k_is)
  (case c2=>k_is)
  (case k2=>k_is)
  (case a3=>k_is)
  (case l3=>k_is)
  (case c3=>k_is)
  (case k3=>k_is)
  (case a4=>k_is)
  (case l4=>k_is)
  (case c4=>k_is)
  (case k4=>k_is)
  (case a5=>k_is)
  (case l5=>k_is)
  (case c5=>k_is)
  (case k5=>k_is)
  (case a6=>k_is)
  (case l6=>k_is)
  (case c6=>k_is)
  (case k6=>k_is)
  (case a7=>k_is)
  (case l7=>k_is)
  (case c7=>k_is)
  (case k7=>k_is)
  (case a8=>k_is)
  (case l8=>k_is)
  (case c8=>k_is)
  (case k8=>k_is)
  (case a9=>k_is)
  (case l9=>k_is)
  (case c9=>k_is)
  (case k9=>k_is)
  (case a10=>k_is)
  (case l10=>k_is)
  (case c10=>k_is)
  (case k10=>k_is)
  (case a11=>k_is)
  (case l11=>k_is)
  (case c11=>k_is)
  (case k11=>k_is)
  (case a12=>k_is)
  (case l12=>k_is)
  (case c12=>k_is)
  (case k12=>k_is)
  (case a13=>k_is)
  (case l13=>k_is)
  (case c13=>k_is)
  (case k13=>k_is)
  (case a14=>k_is)
  (case l14=>k_is)
  (case c14=>k_is)
  (case k14=>k_is)
  (case a15=>k_is)
  (case l15=>k_is)
  (case c15=>k_is)
  (case k15=>k_is)
  (case a16=>k_is)
  (case l16=>k_is)
  (case c16=>k_is)
  (case k16=>k_is)
  (case a17=>k_is)
  (case l17=>k_is)
  (case c17=>k_is)
  (case k17=>k_is)
  (case a18=>k_is)
  (case l18=>k_is)
  (case c18=>k_is)
  (case k18=>k_is)
  (case a19=>k_is)
  (case l19=>k_is)
  (case c19=>k_is)
  (case k19=>k_is)
  (case a20=>k_is)
  (case l20=>k_is)
  (case c20=>k_is)
  (case k20=>k_is)
  (case a21=>k_is)
  (case l21=>k_is)
  (case c21=>k_is)
  (case k21=>k_is)
  (case g_FIRST_PAIR=>k_is)
  (case l_FIRST_PAIR=>k_is)
  (case v_FIRST_PAIR=>k_is)
  (case z_all=>k_is)
  (case z_bool=>k_is)
  (case z_enumerate=>k_is)
  (case z_int=>k_is)
  (case z_isinstance=>k_is)
  (case z_len=>k_is)
  (case z_list=>k_is)
  (case z_max=>k_is)
  (case z_range=>k_is)
  (case z_sorted=>k_is)
  (case z_tuple=>k_is)
  (case z_zip=>k_is)
#print axioms PySem.Challenge.cw_blockfall_k26_papers_told_holds
