import PyProof.Rows.All
import Wide.All
import OpenK.AllK
import Wide.FinOn
import Lean
import PyProof.EqAt
import PyProof.EqKinds
import PyProof.TupleCall
import PyProof.ZipIter
import PySem.Challenge.RW_blockfall_k27_right_papers
set_option bootstrap.genMatcherCode false
set_option genSizeOf false
set_option genSizeOfSpec false
set_option Elab.async false
set_option linter.all false
set_option maxRecDepth 100000
set_option maxHeartbeats 4000000
set_option maxHeartbeats 1000000
noncomputable section
open PySem.W (kitOne kia_one keepIn fnOf codeIn nsIn mg_of mg_none_of)
namespace L2
open PySem
noncomputable abbrev PKy:=Int×List Int
noncomputable def d7 (b:Bool)(v u:Value):List Value:=match b with
 |false=>[v,u]
 |true=>[u,v]
noncomputable def cY (ks:List Int):Int:=reduceHash (Builtin.Tuple.tupleHashOf (ks.map hashInt))
def iD (b:Bool)(k:PKy):Int:=match b with
 |false=>reduceHash (Builtin.Tuple.tupleHashOf [hashInt k.1,cY k.2])
 |true=>reduceHash (Builtin.Tuple.tupleHashOf [cY k.2,hashInt k.1])
section
variable {prog:Program}{w:World}
def IsPk (prog:Program)(w:World)(b:Bool)(h:Heap)(k:PKy)(a:Addr):Prop:=
 ∃o items n c v,h.get? a=some o/\o.cls=.type "tuple"/\o.data=.seq items n/\IsTupleKey (intKind prog w) h k.2 c/\Value.isInt k.1 v=true/\items.toList=d7 b v (.ref c)
theorem IsPk.typeIs {b:Bool}{s:Shared}{k:PKy}{a:Addr}(x:IsPk prog w b s.heap k a):s.TypeIs (.ref a) "tuple":=let ⟨o,_,_,_,_,ho,hc,_⟩:=x;⟨o,ho,hc⟩
theorem IsPk.inj {b:Bool}{h:Heap}{a:Addr}{x y:PKy}(hx:IsPk prog w b h x a)(hy:IsPk prog w b h y a):x=y:=by
 obtain⟨o,items,n,c,v,ho,_,hd,hk,hv,hi⟩:=hx
 obtain⟨o',items',n',c',v',ho',_,hd',hk',hv',hi'⟩:=hy
 obtain rfl:o=o':=Option.some.inj (ho.symm.trans ho')
 rw[hd] at hd'
 injection hd' with h1 _
 subst h1
 rw[hi] at hi'
 have e:v=v'/\c=c':=by
  cases b with
  |false=>injection hi' with e1 e2;injection e2 with e2 _;injection e2 with e2;exact⟨e1,e2⟩
  |true=>injection hi' with e1 e2;injection e2 with e2 _;injection e1 with e1;exact⟨e2,e1⟩
 obtain⟨rfl,rfl⟩:=e
 exact Prod.ext (Value.isInt_inj v _ _ hv hv') (hk.inj hk')
theorem IsPk.keeps {b:Bool}{h h':Heap}{k:PKy}{a d:Addr}{o:Obj}{es ep}(x:IsPk prog w b h k a)(ho:h.get? d=some o)(hd:o.data=.dict es ep)(hs:Heap.SameBut d h h'):IsPk prog w b h' k a:=by
 obtain⟨o',items,n,c,v,ho',hc,hd',hk,hv,hi⟩:=x
 have hne:a≠d:=by
  rintro rfl
  obtain rfl:o'=o:=Option.some.inj (ho'.symm.trans ho)
  rw[hd] at hd';exact nomatch hd'
 exact⟨o',items,n,c,v,(hs.2 a hne).trans ho',hc,hd',hk.keeps ho hd hs,hv,hi⟩
variable {A:Around}{E:Value->Shared->Prop}{s:Shared}
theorem gS {b:Bool}{k:PKy}{a:Addr}{Q:Int->Shared->Prop}(hu:A.units+1<cLine)(hk:IsPk prog w b s.heap k a)(h:Q (iD b k) {s with toks:=s.toks+(k.2.length+3)}):
  wpAny (model prog w) A (pyHash (.ref a)) Q E s:=by
 have hT:=hk.typeIs
 obtain⟨o,items,n,c,v,ho,_,hd,hk,hv,hi⟩:=hk
 obtain⟨i,ks⟩:=k
 unfold pyHash
 first|unfold pyHashByItsType|skip
 first|refine wpAny_bind (wpAny_cRoomFor_or (.inr (Nat.lt_of_succ_lt hu)) ?_)|skip
 refine wpAny_bind (wpAny_specialOf hT F.slot_tuple_hash.lookup ?_)
 show wpAny _ _ (if (some (Value.builtin "tuple.__hash__")==some Value.none)=true then _ else _) Q E s
 rw[if_neg (by rw[beq_builtin_none];exact Bool.false_ne_true)]
 refine wpAny_bind (wpAny_specialOf hT F.slot_tuple_hash.lookup ?_)
 show wpAny _ _ (callSpecialIfBoundUnlessNone? (.ref a) "__hash__" _>>=_) Q E s
 refine wpAny_bind (wpAny_callSpecialIfBoundUnlessNone?_slot hT F.slot_tuple_hash (wpAny_call_entry F.slot_tuple_hash hT F.entry_tuple_hash ?_ (F.args_tuple_hash_1 _)))
 show wpAny _ _ (Builtin.Tuple.tupleItemsOf (.ref a)>>=_) _ _ s
 refine wpAny_bind (wpAny_tupleItemsOf ho hd ?_)
 refine wpAny_bind ?_
 rw[<-Array.forIn_toList,hi]
 cases b with
 |false=>
  unfold d7
  simp only[List.forIn_cons,List.forIn_nil]
  refine wpAny_bind (wpAny_bind ((intKind prog w).pyHash (k:=i) hv ?_))
  refine wpAny_pure (wpAny_bind (wpAny_bind (wpAny_pyHash_tuple (knd:=intKind prog w) hu hk ?_)))
  refine wpAny_pure (wpAny_pure ?_)
  show wpAny _ _ (retInt (Builtin.Tuple.tupleHashOf [hashInt i,cY ks])) _ _ _
  refine wpAny_ret_mkInt ?_
  show wpAny _ _ (if (decide (-(2:Int) ^ 63<=Builtin.Tuple.tupleHashOf [hashInt i,cY ks]) && decide (Builtin.Tuple.tupleHashOf [hashInt i,cY ks]<2 ^ 63))=true then _ else _) Q E _
  unfold iD reduceHash at h
  by_cases hr:(decide (-(2:Int) ^ 63<=Builtin.Tuple.tupleHashOf [hashInt i,cY ks]) && decide (Builtin.Tuple.tupleHashOf [hashInt i,cY ks]<2 ^ 63))=true
  ·rw[if_pos hr]
   simp only at h
   rw[if_pos hr] at h
   exact wpAny_pure (by simpa [Nat.add_assoc,Nat.add_comm,Nat.add_left_comm] using h)
  ·rw[if_neg hr]
   simp only at h
   rw[if_neg hr] at h
   exact wpAny_bind (wpAny_rule (wpAny_pure (by simpa [Nat.add_assoc,Nat.add_comm,Nat.add_left_comm] using h)))
 |true=>
  unfold d7
  simp only[List.forIn_cons,List.forIn_nil]
  refine wpAny_bind (wpAny_bind (wpAny_pyHash_tuple (knd:=intKind prog w) hu hk ?_))
  refine wpAny_pure (wpAny_bind (wpAny_bind ((intKind prog w).pyHash (k:=i) hv ?_)))
  refine wpAny_pure (wpAny_pure ?_)
  show wpAny _ _ (retInt (Builtin.Tuple.tupleHashOf [cY ks,hashInt i])) _ _ _
  refine wpAny_ret_mkInt ?_
  show wpAny _ _ (if (decide (-(2:Int) ^ 63<=Builtin.Tuple.tupleHashOf [cY ks,hashInt i]) && decide (Builtin.Tuple.tupleHashOf [cY ks,hashInt i]<2 ^ 63))=true then _ else _) Q E _
  unfold iD reduceHash at h
  by_cases hr:(decide (-(2:Int) ^ 63<=Builtin.Tuple.tupleHashOf [cY ks,hashInt i]) && decide (Builtin.Tuple.tupleHashOf [cY ks,hashInt i]<2 ^ 63))=true
  ·rw[if_pos hr]
   simp only at h
   rw[if_pos hr] at h
   exact wpAny_pure (by simpa [Nat.add_assoc,Nat.add_comm,Nat.add_left_comm] using h)
  ·rw[if_neg hr]
   simp only at h
   rw[if_neg hr] at h
   exact wpAny_bind (wpAny_rule (wpAny_pure (by simpa [Nat.add_assoc,Nat.add_comm,Nat.add_left_comm] using h)))
theorem mr {b:Bool}{x y:PKy}{a c:Addr}{P:Fin->Shared->Prop}(hu:A.units<cLine)(hx:IsPk prog w b s.heap x a)(hy:IsPk prog w b s.heap y c)(h:P (.done (.ret (.bool (decide (x=y))))) s):
  wpAny (model prog w) A (Builtin.«tuple.__eq__» ⟨[.ref a,.ref c],[]⟩) P E s:=by
 have hTb:=hy.typeIs
 obtain⟨oa,xs,na,ca,va,hoa,_,hda,hka,hva,hia⟩:=hx
 obtain⟨ob,ys,nb,cb,vb,hob,_,hdb,hkb,hvb,hib⟩:=hy
 obtain⟨i,ks⟩:=x
 obtain⟨j,ls⟩:=y
 show wpAny _ _ (isInstance (.ref c) (.type "tuple")>>=_) _ _ s
 refine wpAny_bind (wpAny_isInstance hTb isSubtype_tuple_tuple ?_)
 simp only[Bool.not_true,Bool.false_eq_true,if_false]
 refine wpAny_bind (wpAny_tupleItemsOf hoa hda ?_)
 refine wpAny_bind (wpAny_tupleItemsOf hob hdb ?_)
 refine wpAny_bind ?_
 have hsz:(xs.size==ys.size)=true:=by
  have e1:xs.size=2:=by rw[<-Array.length_toList,hia];cases b<;>rfl
  have e2:ys.size=2:=by rw[<-Array.length_toList,hib];cases b<;>rfl
  rw[e1,e2];rfl
 have dd:decide ((i,ks)=(j,ls))=(decide (i=j) && decide (ks=ls)):=by
  rw[Bool.eq_iff_iff];simp
 rw[dd] at h
 rw[hia,hib]
 have ki: ∀ {A:Around}{Q:Bool->Shared->Prop},Q (decide (i=j)) s->wpAny (model prog w) A (eqBool va vb) Q E s:=fun{A Q} q=>(intKind prog w).eqBool (a:=i) (b:=j) hva hvb q
 have kt: ∀ {Q:Bool->Shared->Prop},Q (decide (ks=ls)) s->wpAny (model prog w) A (eqBool (.ref ca) (.ref cb)) Q E s:=fun{Q} q=>wpAny_eqBool_tuple (knd:=intKind prog w) hu hka hkb q
 generalize decide (i=j)=b1 at *
 generalize decide (ks=ls)=b2 at *
 cases b with
 |false=>
  unfold d7
  simp only[List.zip_cons_cons,List.zip_nil_right,List.forIn_cons,List.forIn_nil]
  refine wpAny_bind (wpAny_bind (ki ?_))
  cases b1 with
  |false=>exact wpAny_bind (wpAny_pure (wpAny_pure (wpAny_pure (wpAny_pure h))))
  |true=>
   refine wpAny_pure (wpAny_bind (wpAny_bind (kt ?_)))
   cases b2 with
   |false=>exact wpAny_bind (wpAny_pure (wpAny_pure (wpAny_pure (wpAny_pure h))))
   |true=>
    refine wpAny_pure (wpAny_pure (wpAny_pure ?_))
    show P (.done (.ret (.bool (xs.size==ys.size)))) s
    rw[hsz];exact h
 |true=>
  unfold d7
  simp only[List.zip_cons_cons,List.zip_nil_right,List.forIn_cons,List.forIn_nil]
  refine wpAny_bind (wpAny_bind (kt ?_))
  cases b2 with
  |false=>rw[Bool.and_false] at h;exact wpAny_bind (wpAny_pure (wpAny_pure (wpAny_pure (wpAny_pure h))))
  |true=>
   refine wpAny_pure (wpAny_bind (wpAny_bind (ki ?_)))
   cases b1 with
   |false=>exact wpAny_bind (wpAny_pure (wpAny_pure (wpAny_pure (wpAny_pure h))))
   |true=>
    refine wpAny_pure (wpAny_pure (wpAny_pure ?_))
    show P (.done (.ret (.bool (xs.size==ys.size)))) s
    rw[hsz];exact h
theorem gU {b:Bool}{x y:PKy}{a c:Addr}{Q:Bool->Shared->Prop}(hu:A.units+1<cLine)(hx:IsPk prog w b s.heap x a)(hy:IsPk prog w b s.heap y c)(h:Q (decide (x=y)) s):
  wpAny (model prog w) A (eqBool (.ref a) (.ref c)) Q E s:=by
 unfold eqBool
 try with_reducible refine wpAny_holding ?_
 show wpAny _ _ (if (Value.ref a==Value.ref c)=true then _ else _) Q E s
 by_cases hab:(Value.ref a==Value.ref c)=true
 ·rw[if_pos hab]
  have e:a=c:=by have:=eq_of_beq hab;injection this
  subst e
  obtain rfl:=hx.inj hy
  exact wpAny_bind (wpAny_rule (wpAny_pure (by simpa using h)))
 ·rw[if_neg hab]
  exact wpAny_bind (wpAny_richCompare_same_room (op:=.Eq) hx.typeIs hy.typeIs F.slot_tuple_eq
   (wpAny_call_entry F.slot_tuple_eq hx.typeIs F.entry_tuple_eq (mr hu hx hy ⟨_,rfl,(fun e=>nomatch e),wpAny_truthy_bool h⟩) (F.args_tuple_eq_2 _ _)) (Nat.lt_of_succ_lt hu))
theorem ip {b:Bool}{k:PKy}{a:Addr}{Q:Bool->Shared->Prop}(hk:IsPk prog w b s.heap k a)(h:Q true s):wpAny (model prog w) A (eqIsQuiet 8 (.ref a)) Q E s:=by
 have hT:=hk.typeIs
 obtain⟨o,items,n,c,v,ho,_,hd,hk,hv,hi⟩:=hk
 unfold eqIsQuiet
 refine wpAny_bind (wpAny_specialOf hT F.slot_tuple_eq.lookup ?_)
 show wpAny _ _ (isInstance (.ref a) (.type "tuple")>>=_) _ _ s
 refine wpAny_bind (wpAny_isInstance hT isSubtype_tuple_tuple ?_)
 simp only[Bool.not_true,Bool.false_eq_true,if_false]
 refine wpAny_bind (wpAny_seqItems ho hd ?_)
 refine wpAny_bind ?_
 show wpAny _ _ (forIn items _ _) _ _ s
 rw[<-Array.forIn_toList,hi]
 have qv:eqIsQuiet 7 v=pure true:=eqIsQuiet_byValue _ ((intKind prog w).byValue _ _ hv)
 have hTc:=hk.typeIs
 obtain⟨oc,ic,nc,hoc,_,hdc,hic⟩:=hk
 have qc: ∀ {Q:Bool->Shared->Prop},Q true s->wpAny (model prog w) A (eqIsQuiet 7 (.ref c)) Q E s:=by
  intro Q h
  unfold eqIsQuiet
  refine wpAny_bind (wpAny_specialOf hTc F.slot_tuple_eq.lookup ?_)
  show wpAny _ _ (isInstance (.ref c) (.type "tuple")>>=_) _ _ s
  refine wpAny_bind (wpAny_isInstance hTc isSubtype_tuple_tuple ?_)
  simp only[Bool.not_true,Bool.false_eq_true,if_false]
  refine wpAny_bind (wpAny_seqItems hoc hdc ?_)
  refine wpAny_bind ?_
  show wpAny _ _ (forIn ic _ _) _ _ s
  rw[<-Array.forIn_toList]
  refine wpAny_forIn_list _ (fun rest r s'=>r.1=none/\s'=s/\ ∀v∈rest,carriedByValue v=true) _ ?_ ?_ _ _ ⟨rfl,rfl,hic.byValue⟩
  ·rintro v rest r s' ⟨hr,rfl,hall⟩
   rw[eqIsQuiet_byValue _ (hall v List.mem_cons_self)]
   refine wpAny_bind (wpAny_pure ?_)
   simp only[Bool.not_true,Bool.false_eq_true,if_false]
   exact wpAny_pure ⟨rfl,rfl,fun u hu'=>hall u (List.mem_cons_of_mem _ hu')⟩
  ·rintro⟨r1,r2⟩ s' ⟨hr,rfl,_⟩
   simp only at hr
   subst hr
   exact wpAny_pure h
 cases b with
 |false=>
  unfold d7
  simp only[List.forIn_cons,List.forIn_nil]
  refine wpAny_bind ?_
  rw[qv]
  refine wpAny_bind (wpAny_pure ?_)
  simp only[Bool.not_true,Bool.false_eq_true,if_false]
  refine wpAny_pure (wpAny_bind (wpAny_bind (qc ?_)))
  simp only[Bool.not_true,Bool.false_eq_true,if_false]
  exact wpAny_pure (wpAny_pure (wpAny_pure h))
 |true=>
  unfold d7
  simp only[List.forIn_cons,List.forIn_nil]
  refine wpAny_bind (wpAny_bind (qc ?_))
  simp only[Bool.not_true,Bool.false_eq_true,if_false]
  refine wpAny_pure (wpAny_bind ?_)
  rw[qv]
  refine wpAny_bind (wpAny_pure ?_)
  simp only[Bool.not_true,Bool.false_eq_true,if_false]
  exact wpAny_pure (wpAny_pure (wpAny_pure h))
def gE (prog:Program)(w:World)(b:Bool):HeapKind prog w PKy where
 is:=IsPk prog w b
 hash:=iD b
 draws:=fun k=>k.2.length+3
 room:=fun A=>A.units+1<cLine
 inj:=fun hx hy=>hx.inj hy
 keeps:=fun x ho hd hs=>x.keeps ho hd hs
 pyHash:=fun hu hk h=>gS hu hk h
 eqBool:=fun hu hx hy h=>gU hu hx hy h
 quiet:=fun hk h=>ip hk h
end
end L2
namespace L2
open PySem PySem.Spec PyProof.Rows
noncomputable abbrev Key:=Sum Int Str
def keyIs:Key->Value->Bool
 |.inl k,v=>Value.isInt k v
 |.inr x,v=>Value.isStrOf x v
def keyH (w:World):Key->Int
 |.inl k=>hashInt k
 |.inr x=>hashStr w x
theorem bh: ∀ {k:Key}{v:Value},keyIs k v=true->(∃i t,k=Sum.inl i/\v=Value.int i t)\/(∃x t,k=Sum.inr x/\v=Value.str x t)
 |.inl i,v,h=>by
  obtain⟨t,e⟩:=Value.isInt_shape (k:=i) (v:=v) h
  exact .inl ⟨i,t,rfl,e⟩
 |.inr x,v,h=>by
  obtain⟨t,e⟩:=Value.isStrOf_shape (x:=x) (v:=v) h
  exact .inr ⟨x,t,rfl,e⟩
theorem oH (i:Int)(t:Tok):keyIs (.inl i) (.int i t)=true:=by simp [keyIs,Value.isInt]
theorem oG (x:Str)(t:Tok):keyIs (.inr x) (.str x t)=true:=by simp [keyIs,Value.isStrOf]
theorem vf (a b:Int):decide ((Sum.inl a:Key)=Sum.inl b)=(a==b):=by
 by_cases e:a=b
 ·subst e;simp
 ·have h: ¬(Sum.inl a:Key)=Sum.inl b:=fun q=>e (Sum.inl.inj q)
  rw[decide_eq_false h]
  exact (beq_eq_false_iff_ne.mpr e).symm
theorem vc (a b:Str):decide ((Sum.inr a:Key)=Sum.inr b)=decide (a=b):=by
 by_cases e:a=b
 ·subst e;simp
 ·have h: ¬(Sum.inr a:Key)=Sum.inr b:=fun q=>e (Sum.inr.inj q)
  rw[decide_eq_false h,decide_eq_false e]
theorem ve (a:Int)(b:Str):decide ((Sum.inl a:Key)=Sum.inr b)=false:=decide_eq_false (fun q=>nomatch q)
theorem vd (a:Str)(b:Int):decide ((Sum.inr a:Key)=Sum.inl b)=false:=decide_eq_false (fun q=>nomatch q)
def bz (prog:Program)(w:World):PySem.KeyKind prog w Key where
 is:=keyIs
 hash:=keyH w
 inj:=fun v a b ha hb=>by
  rcases bh ha with⟨i,t,rfl,rfl⟩|⟨x,t,rfl,rfl⟩
  ·rcases bh hb with⟨j,u,rfl,e⟩|⟨y,u,rfl,e⟩
   ·injection e with e1 _;rw[e1]
   ·exact nomatch e
  ·rcases bh hb with⟨j,u,rfl,e⟩|⟨y,u,rfl,e⟩
   ·exact nomatch e
   ·injection e with e1 _;rw[e1]
 byValue:=fun k v h=>by
  rcases bh h with⟨i,t,rfl,rfl⟩|⟨x,t,rfl,rfl⟩<;>rfl
 pyHash:=fun hv h=>by
  rcases bh hv with⟨i,t,rfl,rfl⟩|⟨x,t,rfl,rfl⟩
  ·exact wpAny_pyHash_int h
  ·exact wpAny_pyHash_str h
 eqBool:=fun hu hv h=>by
  rcases bh hu with⟨i,t,rfl,rfl⟩|⟨x,t,rfl,rfl⟩
  ·rcases bh hv with⟨j,u,rfl,rfl⟩|⟨y,u,rfl,rfl⟩
   ·rw[vf] at h;exact wpAny_eqBool_int h
   ·rw[ve] at h;exact SeqAt.EqAt.int_str i t y u _ _ _ _ h
  ·rcases bh hv with⟨j,u,rfl,rfl⟩|⟨y,u,rfl,rfl⟩
   ·rw[vd] at h;exact SeqAt.EqAt.str_int x t j u _ _ _ _ h
   ·rw[vc] at h;exact wpAny_eqBool_str h
 «strs»:=fun k x t v h=>by
  rcases bh h with⟨i,u,rfl,e⟩|⟨y,u,rfl,e⟩
  ·exact nomatch e
  ·injection e with e1 _
   subst e1
   cases v<;>rfl
theorem lE (prog:Program)(w:World)(i:Int)(t:Tok):(bz prog w).is (.inl i) (.int i t)=true:=oH i t
theorem lC (prog:Program)(w:World)(x:Str)(t:Tok):(bz prog w).is (.inr x) (.str x t)=true:=oG x t
end L2
namespace L2
open PySem PySem.Spec PyProof.Rows
inductive V where
 |non|bl (b:Bool)|int (i:Int)|str (x:Str)|byt (b:Array UInt8)|flt (b:UInt64)|ref (a:Addr)|ty (n:String)
 deriving DecidableEq
noncomputable def RelV:V->Value->Prop
 |.non,u=>u=Value.none
 |.bl b,u=>u=Value.bool b
 |.int i,u=> ∃t,u=Value.int i t
 |.str x,u=> ∃t,u=Value.str x t
 |.byt b,u=> ∃t,u=Value.bytes b t
 |.flt b,u=> ∃t,u=Value.float b t
 |.ref a,u=>u=Value.ref a
 |.ty n,u=>u=Value.type n
noncomputable abbrev Vals:List V->List Value->Prop:=Paired RelV
theorem Vals.length {xs:List V}{us:List Value}(r:Vals xs us):xs.length=us.length:=Paired.length r
theorem Vals.get: ∀ {xs:List V}{us:List Value}{i:Nat}{x:V},Vals xs us->xs[i]?=some x-> ∃u,us[i]?=some u/\RelV x u
 |_,_,_,_,.nil,e=>by simp at e
 |_,_,0,_,.cons r _,e=>by simp at e;subst e;exact⟨_,rfl,r⟩
 |_,_,i+1,x,.cons _ t,e=>by
  obtain⟨u,h1,h2⟩:=Vals.get (i:=i) (x:=x) t (by simpa using e)
  exact⟨u,by simpa using h1,h2⟩
theorem Vals.set {x:V}{u:Value}(r:RelV x u): ∀ {xs:List V}{us:List Value} (i:Nat),Vals xs us->Vals (xs.set i x) (us.set i u)
 |_,_,_,.nil=>.nil
 |_,_,0,.cons _ t=>.cons r t
 |_,_,i+1,.cons q t=>.cons q (Vals.set r i t)
theorem Vals.append: ∀ {xs ys:List V}{us ws:List Value},Vals xs us->Vals ys ws->Vals (xs++ys) (us++ws)
 |_,_,_,_,.nil,s=>s
 |_,_,_,_,.cons r t,s=>.cons r (Vals.append t s)
theorem Vals.take: ∀ {xs:List V}{us:List Value} (n:Nat),Vals xs us->Vals (xs.take n) (us.take n)
 |_,_,0,_=>.nil
 |_,_,_+1,.nil=>.nil
 |_,_,n+1,.cons r t=>.cons r (Vals.take n t)
theorem Vals.drop: ∀ {xs:List V}{us:List Value} (n:Nat),Vals xs us->Vals (xs.drop n) (us.drop n)
 |_,_,0,r=>r
 |_,_,_+1,.nil=>.nil
 |_,_,n+1,.cons _ t=>Vals.drop n t
def RelO:Option V->Option Value->Prop
 |some v,some u=>RelV v u
 |none,none=>True
 |_,_=>False
def KV {κ:Type}:List (κ×V)->List (κ×Value)->Prop:=Paired fun (p:κ×V) (q:κ×Value)=>p.1=q.1/\RelV p.2 q.2
def kV:Key->V
 |.inl i=>.int i
 |.inr x=>.str x
inductive HO where
 |lst (xs:List V)
 |tup (xs:List V)
 |dK (kvs:List (Key×V))|dT (kvs:List (List Key×V))|dN (b:Bool)(xs:List (PKy×Addr×V))(ep:Nat)
 |set (S:Int->Bool)(n:Nat)
 |ins (C dx:Addr)(fs:List (Str×V))
 |own (x:Addr)
 |xd (fs:List (Str×V))
 |met (f x:Addr)
 |rng (lo hi:Int)
 |frz (o:Obj)(u:HO)
 |tbl (ps:Array Value)
 |ext (φ:Heap->Prop)
noncomputable abbrev Hp:=Addr->Option HO
def upd (H:Hp)(a:Addr)(o:HO):Hp:=fun b=>if b=a then some o else H b
theorem aU {H:Hp}{a:Addr}{o:HO}:upd H a o a=some o:=by unfold upd;rw[if_pos rfl]
theorem au {H:Hp}{a b:Addr}{o:HO}(h:b≠a):upd H a o b=H b:=by unfold upd;rw[if_neg h]
theorem we {H:Hp}{a b:Addr}{o u:HO}(h:H a=some o)(h':H b=some u)(d:o≠u):a≠b:=by
 intro e;subst e;rw[h] at h';exact d (Option.some.inj h')
theorem bM {H:Hp}{a b:Addr}{o:HO}(h:H a=some o)(h':H b=none):a≠b:=by
 intro e;subst e;rw[h] at h';cases h'
noncomputable def IsTupD (h:Heap)(a:Addr)(its:Array Value):Prop:=IsTup h a its/\ ∃o,h.get? a=some o/\o.dict=none
theorem IsTupD.new (h:Heap)(its:Array Value):IsTupD (h.push {cls:=.type "tuple",data:=.seq its}) h.objs.size its:=⟨IsTup.new _ _,_,Heap.get?_push_size _ rfl,rfl⟩
section
variable (P:Program)(w:World)
def ObjOk (H:Hp)(h:Heap)(a:Addr):HO->Prop
 |.lst xs=>xs.length<=sizeLine/\ ∃ (its:List Value) (n:Nat),Vals xs its/\h.get? a=some {cls:=.type "list",data:=.seq its.toArray n}
 |.tup xs=>xs.length<=sizeLine/\ ∃its:List Value,Vals xs its/\IsTupD h a its.toArray
 |.dK kvs=>kvs.length<=sizeLine/\(a==sysModules)=false/\ ∃vs,KV kvs vs/\h.DictOf (bz P w) a vs
 |.dT kvs=>kvs.length<=sizeLine/\(a==sysModules)=false/\ ∃xs:List (List Key×Addr×Value),
  Paired (fun (p:List Key×V) (q:List Key×Addr×Value)=>p.1=q.1/\H q.2.1=some (.tup (p.1.map kV))/\RelV p.2 q.2.2) kvs xs/\
  ∃o es ep,h.get? a=some o/\o.ExactDict/\o.data=.dict es ep/\es.toList=xs.map (entryOfKey (tupleKind (bz P w)))/\(xs.map (·.1)).Nodup
 |.dN b xs ep=>xs.length<=sizeLine/\(a==sysModules)=false/\ ∃ys:List (PKy×Addr×Value),Paired (fun (p:PKy×Addr×V) (q:PKy×Addr×Value)=>p.1=q.1/\p.2.1=q.2.1/\RelV p.2.2 q.2.2) xs ys/\
  ∃o es,h.get? a=some o/\o.ExactDict/\o.data=.dict es ep/\es.toList=ys.map (fun y=>(⟨iD b y.1,.ref y.2.1,y.2.2⟩:DictEntry))/\(ys.map (·.1)).Nodup
 |.set S n=>h.SetOf (intKind P w) a S n
 |.ins C dx fs=>H dx=some (.own a)/\fs.length<=1000/\dx≠a/\h.get? a=some (PySem.W.instObj C dx)/\
  ∃mA,h.Ns1 dx mA/\(∀f,RelO (fs.lookup f) (mA f))/\PySem.Within mA (fs.map (·.1))
 |.own _=> ∃o,h.get? a=some o
 |.xd fs=> ∃mA,h.Ns1 a mA/\ ∀f,RelO (fs.lookup f) (mA f)
 |.rng lo hi=> ∃t u v,h.get? a=some {cls:=.type "range",data:=.fields #[.int lo t,.int hi u,.int 1 v]}
 |.frz o u=>h.get? a=some o/\ObjOk H h a u
 |.tbl ps=>h.get? a=some {cls:=.none,data:=.fields ps}
 |.met f x=>h.get? a=some (PySem.W.methodObj (.ref f) (.ref x))
 |.ext φ=>φ h/\(∃o,h.get? a=some o)/\ ∀h1 h2:Heap,φ h1->(∀o,h1.get? a=some o->h2.get? a=some o)->φ h2
def HOk (H:Hp)(h:Heap):Prop:= ∀a o,H a=some o->ObjOk P w H h a o
end
section
variable {P:Program}{w:World}{H H':Hp}{h h':Heap}{a:Addr}{o:HO}
theorem ObjOk.lt (x:ObjOk P w H h a o):a<h.objs.size:=by
 cases o with
 |lst xs=>obtain⟨_,_,_,_,e⟩:=x;exact Heap.lt_size e
 |tup xs=>obtain⟨_,_,_,p⟩:=x;exact p.1.lt
 |dK kvs=>obtain⟨_,_,_,_,o,_,_,e,_⟩:=x;exact Heap.lt_size e
 |dT kvs=>obtain⟨_,_,_,_,o,_,_,e,_⟩:=x;exact Heap.lt_size e
 |dN b xs ep=>obtain⟨_,_,_,_,o,_,e,_⟩:=x;exact Heap.lt_size e
 |set S n=>obtain⟨o,_,_,_,e,_⟩:=x;exact Heap.lt_size e
 |ins C dx fs=>obtain⟨_,_,_,e,_⟩:=x;exact Heap.lt_size e
 |own y=>obtain⟨_,e⟩:=x;exact Heap.lt_size e
 |xd fs=>obtain⟨_,⟨_,_,_,e,_⟩,_⟩:=x;exact Heap.lt_size e
 |rng lo hi=>obtain⟨_,_,_,e⟩:=x;exact Heap.lt_size e
 |frz ob u=>obtain⟨e,_⟩:=x;exact Heap.lt_size e
 |tbl ps=>exact Heap.lt_size (show h.get? a=some _ from x)
 |met f y=>exact Heap.lt_size (show h.get? a=some _ from x)
 |ext φ=>obtain⟨_,⟨_,e⟩,_⟩:=x;exact Heap.lt_size e
theorem Paired.mapP {α β:Type}{F G:α->β->Prop}: ∀ {l₁:List α}{l₂:List β},Paired F l₁ l₂->(∀a b,F a b->G a b)->Paired G l₁ l₂
 |_,_,.nil,_=>.nil
 |_,_,.cons r t,f=>.cons (f _ _ r) (Paired.mapP t f)
theorem ObjOk.stay (x:ObjOk P w H h a o)(k:∀b u,(b=a\/H b=some (.own a))->h.get? b=some u->h'.get? b=some u)
  (ho: ∀b,H b=some (.own a)->H' b=some (.own a))(ht: ∀b xs,H b=some (.tup xs)->H' b=some (.tup xs)):ObjOk P w H' h' a o:=by
 induction o with
 |lst xs=>obtain⟨z,its,n,r,e⟩:=x;exact⟨z,its,n,r,k _ _ (.inl rfl) e⟩
 |tup xs=>obtain⟨z,its,r,⟨ob,e,c⟩,o2,e2,c2⟩:=x;exact⟨z,its,r,⟨ob,k _ _ (.inl rfl) e,c⟩,o2,k _ _ (.inl rfl) e2,c2⟩
 |dK kvs=>obtain⟨z,y,vs,r,ob,es,ep,e,c⟩:=x;exact⟨z,y,vs,r,ob,es,ep,k _ _ (.inl rfl) e,c⟩
 |dT kvs=>
  obtain⟨z,y,xs,r,ob,es,ep,e,c⟩:=x
  exact⟨z,y,xs,Paired.mapP r fun p q z=>⟨z.1,ht _ _ z.2.1,z.2.2⟩,ob,es,ep,k _ _ (.inl rfl) e,c⟩
 |dN b xs ep=>obtain⟨z,y,ys,r,ob,es,e,c⟩:=x;exact⟨z,y,ys,r,ob,es,k _ _ (.inl rfl) e,c⟩
 |set S n=>obtain⟨ob,es,ep,t,e,c⟩:=x;exact⟨ob,es,ep,t,k _ _ (.inl rfl) e,c⟩
 |ins C dx fs=>
  obtain⟨d,z,ne,e,mA,⟨od,es,ep,e2,c⟩,r⟩:=x
  exact⟨ho _ d,z,ne,k _ _ (.inl rfl) e,mA,⟨od,es,ep,k _ _ (.inr d) e2,c⟩,r⟩
 |own y=>obtain⟨ob,e⟩:=x;exact⟨ob,k _ _ (.inl rfl) e⟩
 |xd fs=>obtain⟨mA,⟨od,es,ep,e,c⟩,r⟩:=x;exact⟨mA,⟨od,es,ep,k _ _ (.inl rfl) e,c⟩,r⟩
 |rng lo hi=>obtain⟨t,u,v,e⟩:=x;exact⟨t,u,v,k _ _ (.inl rfl) e⟩
 |frz ob u ih=>obtain⟨e,q⟩:=x;exact⟨k _ _ (.inl rfl) e,ih q⟩
 |tbl ps=>
  have e:h.get? a=some {cls:=.none,data:=.fields ps}:=x
  show h'.get? a=some {cls:=.none,data:=.fields ps}
  exact k a _ (.inl rfl) e
 |met f y=>
  have e:h.get? a=some (PySem.W.methodObj (.ref f) (.ref y)):=x
  show h'.get? a=some (PySem.W.methodObj (.ref f) (.ref y))
  exact k a _ (.inl rfl) e
 |ext φ=>obtain⟨p,⟨o,e⟩,st⟩:=x;exact⟨st _ _ p fun o q=>k _ _ (.inl rfl) q,⟨o,k _ _ (.inl rfl) e⟩,st⟩
theorem HOk.lt (x:HOk P w H h)(e:H a=some o):a<h.objs.size:=(x a o e).lt
theorem HOk.fresh (x:HOk P w H h)(e:h.objs.size<=a):H a=none:=by
 cases q:H a with
 |none=>rfl
 |some u=>exact absurd (Nat.lt_of_lt_of_le (x.lt q) e) (Nat.lt_irrefl _)
theorem HOk.kept (x:HOk P w H h)(k:∀b u,h.get? b=some u->h'.get? b=some u):HOk P w H h':=fun a o e=>
 (x a o e).stay (fun b u _ q=>k b u q) (fun _ q=>q) fun _ _ q=>q
theorem HOk.laid (x:HOk P w H h)(k:∀b u,h.get? b=some u->h'.get? b=some u)(hp:h.objs.size<=a)(new:ObjOk P w (upd H a o) h' a o):HOk P w (upd H a o) h':=fun b u e=>by
 have hn:=x.fresh hp
 by_cases hb:b=a
 ·subst hb;rw[aU] at e;cases e;exact new
 ·rw[au hb] at e
  exact (x b u e).stay (fun c v _ q=>k c v q) (fun c q=>by rw[au (bM q hn)];exact q) fun c xs q=>by rw[au (bM q hn)];exact q
end
def Rd (H:Hp)(a:Addr)(u:HO):Prop:=H a=some u\/ ∃o,H a=some (.frz o u)
theorem Rd.ok {P:Program}{w:World}{H:Hp}{h:Heap}{a:Addr}{u:HO}(r:Rd H a u)(x:HOk P w H h):ObjOk P w H h a u:=by
 rcases r with r|⟨o,r⟩
 ·exact x a u r
 ·obtain⟨_,q⟩:=x a _ r
  exact q
noncomputable def Mut:Option HO->Prop
 |some (.lst _)=>True
 |some (.dK _)=>True
 |some (.dT _)=>True
 |some (.dN _ _ _)=>True
 |some (.set _ _)=>True
 |some (.ins _ _ _)=>True
 |some (.ext _)=>True
 |_=>False
section
variable {P:Program}{w:World}{H:Hp}{h h':Heap}{x e:Addr}{o':HO}
theorem HOk.write (ok:HOk P w H h)(mu:Mut (H x))(he:e=x\/H e=some (.own x))(k:∀b u,b≠e->h.get? b=some u->h'.get? b=some u)(heo: ∃u,h'.get? e=some u)
  (new:ObjOk P w (upd H x o') h' x o'):HOk P w (upd H x o') h':=fun b u q=>by
 have nown: ∀c y,H c=some (.own y)->c≠x:=fun c y r z=>by subst z;rw[r] at mu;exact mu
 have ntup: ∀c xs,H c=some (.tup xs)->c≠x:=fun c xs r z=>by subst z;rw[r] at mu;exact mu
 by_cases hb:b=x
 ·subst hb;rw[aU] at q;cases q;exact new
 ·rw[au hb] at q
  by_cases hbe:b=e
  ·have q':H b=some (.own x):=by
    rcases he with z|z
    ·exact absurd (hbe.trans z) hb
    ·rw[hbe];exact z
   rw[q] at q';cases q'
   obtain⟨v,hv⟩:=heo
   exact⟨v,by rw[hbe];exact hv⟩
  ·refine (ok b u q).stay (fun c v hc r=>k c v ?_ r) (fun c r=>by rw[au (nown c b r)];exact r) fun c xs r=>by rw[au (ntup c xs r)];exact r
   rcases hc with rfl|hc
   ·exact hbe
   ·rintro rfl
    rcases he with z|z
    ·exact nown c b hc z
    ·rw[hc] at z;cases z;exact hb rfl
end
structure Un (fs ex:List Addr)(H H':Hp)(h h':Heap):Prop where
 keep: ∀b o,h.get? b=some o->H b=none->b ∉ fs->b ∉ ex->h'.get? b=some o
 slot: ∀b o,h.get? b=some o->H b=none->b∈fs->b ∉ ex-> ∃sl,h'.get? b=some {o with slots:=sl}
 free: ∀b o,h.get? b=some o->H b=none->b ∉ ex->H' b=none
 there: ∀b o,h.get? b=some o->b ∉ ex-> ∃o',h'.get? b=some o'
 tups: ∀b xs,H b=some (.tup xs)->H' b=some (.tup xs)
 frzs: ∀b o u,H b=some (.frz o u)->H' b=some (.frz o u)
 tbls: ∀b ps,H b=some (.tbl ps)-> ∃more,H' b=some (.tbl (ps++more))
section
variable {fs fs' ex ex':List Addr}{H H1 H2:Hp}{h h1 h2 h':Heap}{a x e:Addr}{o:HO}
theorem Un.any (u:Un fs ex H H1 h h1){b:Addr}{ob:Obj}(q:h.get? b=some ob)(n:H b=none)(hx:b ∉ ex): ∃sl,h1.get? b=some {ob with slots:=sl}:=by
 by_cases hb:b∈fs
 ·exact u.slot b ob q n hb hx
 ·exact⟨ob.slots,u.keep b ob q n hb hx⟩
theorem Un.kept (k:∀b u,h.get? b=some u->h'.get? b=some u):Un fs ex H H h h':=
 ⟨fun b ob q _ _ _=>k b ob q,fun b ob q _ _ _=>⟨ob.slots,k b ob q⟩,fun _ _ _ n _=>n,fun b ob q _=>⟨ob,k b ob q⟩,fun _ _ q=>q,fun _ _ _ q=>q,fun _ ps q=>⟨#[],by rw[q];simp⟩⟩
theorem Un.refl:Un fs ex H H h h:=Un.kept fun _ _ q=>q
theorem Un.laid (k:∀b u,h.get? b=some u->h'.get? b=some u)(hp:h.objs.size<=a)(hn:H a=none):Un fs ex H (upd H a o) h h' where
 keep:=fun b u q _ _ _=>k b u q
 slot:=fun b u q _ _ _=>⟨u.slots,k b u q⟩
 free:=fun b u q n _=>by rw[au (Nat.ne_of_lt (Nat.lt_of_lt_of_le (Heap.lt_size q) hp))];exact n
 there:=fun b u q _=>⟨u,k b u q⟩
 tups:=fun b xs q=>by rw[au (bM q hn)];exact q
 frzs:=fun b u xs q=>by rw[au (bM q hn)];exact q
 tbls:=fun b ps q=>⟨#[],by rw[au (bM q hn),q];simp⟩
theorem Un.write (mu:Mut (H x))(he:e=x\/H e=some (.own x))(k:∀b u,b≠e->h.get? b=some u->h'.get? b=some u)(heo: ∃u,h'.get? e=some u):Un fs ex H (upd H x o) h h':=by
 have hx: ∀b,H b=none->b≠x:=fun b n z=>by subst z;rw[n] at mu;exact mu
 have hb: ∀b,H b=none->b≠e:=fun b n z=>by
  subst z
  rcases he with r|r
  ·exact hx b n r
  ·rw[n] at r;cases r
 have hm: ∀b u,H b=some u-> ¬Mut (some u)->b≠x:=fun b u q nm z=>by subst z;rw[q] at mu;exact nm mu
 refine⟨fun b u q n _ _=>k b u (hb b n) q,fun b u q n _ _=>⟨u.slots,k b u (hb b n) q⟩,fun b u q n _=>by rw[au (hx b n)];exact n,fun b u q _=>?_,
  fun b xs q=>by rw[au (hm b _ q fun z=>z)];exact q,fun b u xs q=>by rw[au (hm b _ q fun z=>z)];exact q,fun b ps q=>⟨#[],by rw[au (hm b _ q fun z=>z),q];simp⟩⟩
 by_cases hbe:b=e
 ·subst hbe;exact heo
 ·exact⟨u,k b u hbe q⟩
end
def trk (h:Heap)(H:Hp):List Addr:=(List.range h.objs.size).filter fun a=>(H a).isSome
def hidT (h:Heap)(H:Hp):Heap:=PySem.W.hideAll h (trk h H)
theorem oO (h:Heap)(H:Hp):(hidT h H).objs.size=h.objs.size:=PySem.W.hideAll_size _ _
theorem qR {h:Heap}{H:Hp}{b:Addr}{o:Obj}(e:h.get? b=some o)(n:H b=none):(hidT h H).get? b=some o:=
 PySem.W.hideAll_get _ e fun hm=>by
  have q:(H b).isSome=true:=(List.mem_filter.mp hm).2
  rw[n] at q;simp at q
theorem sE {h:Heap}{H:Hp}{b:Addr}{o:Obj}(e:(hidT h H).get? b=some o):h.get? b=some o/\H b=none:=by
 have e':h.get? b=some o:=PySem.W.of_hideAll (trk h H) e
 refine⟨e',?_⟩
 cases q:H b with
 |none=>rfl
 |some x=>
  have hm:b∈trk h H:=List.mem_filter.mpr ⟨List.mem_range.mpr (Heap.lt_size e'),by simp [q]⟩
  have z:(hidT h H).get? b=none:=PySem.W.hideAll_none (trk h H) hm
  rw[z] at e;cases e
noncomputable def tj (g h:Heap)(L:Addr):List (Addr×Obj):=(List.range h.objs.size).filterMap fun a=>if a=L\/(g.get? a).isSome=true then none else (h.get? a).map fun o=>(a,o)
def rest (g h:Heap)(L d:Addr):List (Addr×Obj):=(tj g h L).filter fun p=>decide (p.1≠d)
end L2
namespace L2
open PySem PySem.Spec PyProof.Rows
structure Mod (K:PySem.W.Frag)(mg:Str->Option Value)(base:Heap):Prop where
 kin:K.In base
 glob:base.Ns mainGlobals mg
 blt: ∃mb,base.Ns builtinsNs mb/\ ∀x:Str,x≠ "__name__"->mb x=bootBuiltins x
 nolimit:base.NoLimit
structure Cx where
 prog:Program
 w:World
 K:PySem.W.Frag
 mg:Str->Option Value
 base:Heap
 A:Around
 N:List Str
 s₀:Shared
 H₀:Hp
 env:Env
 outer:List Env
 stack:List Env
 ex:List Addr
 fn:Str->Bool
 calm:Bool
 pn:List (Addr×Obj)
 xe:Value->Shared->Prop
noncomputable def frs (l:List Env):List Addr:=l.filterMap (·.frame)
noncomputable abbrev Cx.fs (X:Cx):List Addr:=frs X.outer
noncomputable def Vis (sc:Scope)(x:Str):Prop:=sc.names.lookup x=some .local \/sc.names.lookup x=some .cell\/sc.names.lookup x=some .free
noncomputable def Loc (sc:Scope)(x:Str):Prop:=sc.names.lookup x=some .local \/sc.names.lookup x=some .cell
noncomputable def Look (env:Env)(h:Heap)(m:Str->Option Value)(x:Str)(u:Value):Prop:=
 (env.kindOf x=some .local /\m x=some u)\/((env.kindOf x=some .cell\/env.kindOf x=some .free)/\ ∃c,env.cells.lookup x=some c/\h.IsCell c (some u))
structure Cx.Ok (X:Cx):Prop where
 mod:Mod X.K X.mg X.base
 kind:X.env.scope.kind=.function
 glob:X.env.globals=mainGlobals
 blt:X.env.builtins=builtinsNs
 above:X.s₀.heap.objs.size<=X.env.locals
 inj: ∀x y c,X.env.cells.lookup x=some c->X.env.cells.lookup y=some c->x=y
 has: ∀x,(X.env.kindOf x=some .cell\/X.env.kindOf x=some .free)-> ∃c,X.env.cells.lookup x=some c
 cab: ∀x c,X.fn x=true->X.env.cells.lookup x=some c->X.s₀.heap.objs.size<=c
 hd:X.calm=true->X.A.handled=none
 frames:X.A.frames=some X.stack
 stk:X.stack=X.outer\/(X.stack=X.env::X.outer/\X.env.frame=some X.env.locals)
 exf: ∀b∈X.ex,b≠X.env.locals/\ ∀x c,X.env.cells.lookup x=some c->c≠b
 bs: ∀b o,X.base.get? b=some o->X.s₀.heap.get? b=some o/\X.H₀ b=none
 bsz:X.base.objs.size<=X.s₀.heap.objs.size
 noex: ∀b o,X.base.get? b=some o->b ∉ X.ex
 exfs: ∀b∈X.ex,b ∉ X.fs
 funs:X.s₀.heap.FunFrames X.base X.outer
 frf: ∀b∈X.fs,X.H₀ b=none
structure Inv (X:Cx)(pins:List (Addr×Obj))(σ:List (Option V))(H:Hp)(s:Shared):Prop where
 ok:X.Ok
 os:s.os=X.s₀.os
 bare:AllBare s.gens
 base:Un X.fs X.ex X.H₀ H X.s₀.heap s.heap
 loc: ∃m,s.heap.Ns X.env.locals m/\ ∀ (i:Nat) (x:Str) (v:V),X.N[i]?=some x->σ[i]?=some (some v)->Vis X.env.scope x-> ∃u,RelV v u/\Look X.env s.heap m x u
 cell: ∀x c,X.env.cells.lookup x=some c-> ∃v,s.heap.IsCell c v
 free:H X.env.locals=none
 freeC: ∀x c,X.env.cells.lookup x=some c->H c=none
 pin: ∀p∈X.pn++pins,s.heap.get? p.1=some p.2/\H p.1=none/\p.1≠X.env.locals/\p.1 ∉ X.fs/\ ∀v,p.2.data≠.cell v
 hok:HOk X.prog X.w H s.heap
 len:σ.length=X.N.length
section
variable {X:Cx}{pins:List (Addr×Obj)}{σ:List (Option V)}{H H':Hp}{s:Shared}{h':Heap}
theorem Cx.Ok.nofr (ok:X.Ok){b:Addr}{o:Obj}(e:X.base.get? b=some o):b ∉ X.fs:=fun hb=>by
 have:=(ok.funs.mem hb).1
 rw[e] at this;cases this
theorem Inv.bs (I:Inv X pins σ H s): ∀b o,X.base.get? b=some o->s.heap.get? b=some o/\H b=none:=fun b o e=>
 ⟨I.base.keep b o (I.ok.bs b o e).1 (I.ok.bs b o e).2 (I.ok.nofr e) (I.ok.noex b o e),I.base.free b o (I.ok.bs b o e).1 (I.ok.bs b o e).2 (I.ok.noex b o e)⟩
theorem Inv.bk (I:Inv X pins σ H s): ∀b o,X.base.get? b=some o->s.heap.get? b=some o:=fun b o e=>(I.bs b o e).1
theorem Inv.mod (I:Inv X pins σ H s):Mod X.K X.mg X.base:=I.ok.mod
theorem Inv.kIn (I:Inv X pins σ H s):X.K.In s.heap:=I.ok.mod.kin.keeps I.bk
theorem Inv.fr (I:Inv X pins σ H s): ∃m,Fr X.base X.env.locals s.heap m:=
 let ⟨m,hn,_⟩:=I.loc
 ⟨m,hn,I.bk,Nat.le_trans I.ok.bsz I.ok.above⟩
theorem Inv.lt (I:Inv X pins σ H s):X.env.locals<s.heap.objs.size:=let ⟨_,hn,_⟩:=I.loc;hn.lt
theorem Inv.sz (I:Inv X pins σ H s):X.s₀.heap.objs.size<=s.heap.objs.size:=Nat.le_trans I.ok.above (Nat.le_of_lt I.lt)
theorem Inv.nofs (I:Inv X pins σ H s){a:Addr}(h:s.heap.objs.size<=a):a ∉ X.fs:=fun hb=>by
 obtain⟨_,o,ho,_⟩:=I.ok.funs.mem hb
 exact absurd (Nat.lt_of_lt_of_le (Heap.lt_size ho) (Nat.le_trans I.sz h)) (Nat.lt_irrefl _)
theorem Inv.cne (I:Inv X pins σ H s): ∀x c,X.env.cells.lookup x=some c->c≠X.env.locals:=fun x c e z=>by
 obtain⟨v,o,ho,hd⟩:=I.cell x c e
 obtain⟨m,⟨o',es,ep,ho',hd',_⟩,_⟩:=I.loc
 rw[z,ho'] at ho;cases ho;rw[hd'] at hd;cases hd
theorem Inv.funs (I:Inv X pins σ H s):s.heap.FunFrames X.base X.outer:=by
 have all: ∀ (l:List Env),(∀b∈frs l,b∈X.fs)->X.s₀.heap.FunFrames X.base l->s.heap.FunFrames X.base l:=by
  intro l
  induction l with
  |nil=>intro _ _;trivial
  |cons env r ih=>
   intro hs hl
   obtain⟨hk,⟨L,o,hf,hn,ho,hd⟩,hr⟩:=hl
   have hL:L∈X.fs:=hs L (by unfold frs;rw[List.filterMap_cons,hf];exact List.mem_cons_self)
   obtain⟨sl,e⟩:=I.base.slot L o ho (I.ok.frf L hL) hL fun z=>I.ok.exfs L z hL
   exact⟨hk,⟨L,_,hf,hn,e,hd⟩,ih (fun b hb=>hs b (by unfold frs;rw[List.filterMap_cons,hf];exact List.mem_cons_of_mem _ hb)) hr⟩
 exact all X.outer (fun _ hb=>hb) I.ok.funs
theorem Inv.stack (I:Inv X pins σ H s):s.heap.FunFrames X.base X.stack:=by
 rcases I.ok.stk with e|⟨e,hf⟩
 ·rw[e];exact I.funs
 ·rw[e]
  obtain⟨m,hn,_⟩:=I.loc
  refine .cons (by rw[I.ok.kind];decide) hf hn ?_ I.funs
  exact Heap.get?_none_of_le (Nat.le_trans I.ok.bsz I.ok.above)
theorem Inv.stkSub (I:Inv X pins σ H s): ∀b∈frs X.stack,b∈X.env.locals::X.fs:=fun b hb=>by
 rcases I.ok.stk with e|⟨e,hf⟩
 ·rw[e] at hb;exact List.mem_cons_of_mem _ hb
 ·rw[e] at hb
  unfold frs at hb
  rw[List.filterMap_cons,hf] at hb
  exact hb
theorem Inv.stkFree (I:Inv X pins σ H s): ∀b∈frs X.stack,H b=none:=fun b hb=>by
 rcases List.mem_cons.mp (I.stkSub b hb) with e|hb
 ·rw[e];exact I.free
 ·obtain⟨_,o,ho,_⟩:=I.ok.funs.mem hb
  exact I.base.free b o ho (I.ok.frf b hb) fun z=>I.ok.exfs b z hb
theorem Inv.step {g':Array GenState}{t':Nat}{d':Drawn}{ch:List Addr}(I:Inv X pins σ H s)
  (hch: ∀b∈ch,(b∈X.ex\/X.s₀.heap.objs.size<=b)/\b≠X.env.locals/\(∀x c,X.env.cells.lookup x=some c->c≠b)/\ ∀p∈X.pn++pins,p.1≠b)
  (keep: ∀b o,b≠X.env.locals->b ∉ X.fs->b ∉ ch->s.heap.get? b=some o->H b=none->h'.get? b=some o)
  (slot: ∀b o,b≠X.env.locals->b∈X.fs->b ∉ ch->s.heap.get? b=some o->H b=none-> ∃sl,h'.get? b=some {o with slots:=sl})(free: ∀b o,b ∉ ch->s.heap.get? b=some o->H b=none->H' b=none)
  (there: ∀b o,b ∉ ch->s.heap.get? b=some o-> ∃o',h'.get? b=some o')
  (tups: ∀b xs,H b=some (.tup xs)->H' b=some (.tup xs))(frzs: ∀b o u,H b=some (.frz o u)->H' b=some (.frz o u))(tbls: ∀b ps,H b=some (.tbl ps)-> ∃more,H' b=some (.tbl (ps++more)))
  (ns: ∀m,s.heap.Ns X.env.locals m->h'.Ns X.env.locals m)(hok:HOk X.prog X.w H' h')(hg:AllBare g'):
  Inv X pins σ H' {s with heap:=h',gens:=g',drawn:=d',toks:=t'}:=by
 have neL: ∀b o,X.s₀.heap.get? b=some o->b≠X.env.locals:=fun b o e=>Nat.ne_of_lt (Nat.lt_of_lt_of_le (Heap.lt_size e) I.ok.above)
 have neC: ∀b o,X.s₀.heap.get? b=some o->b ∉ X.ex->b ∉ ch:=fun b o e hx hb=>by
  rcases (hch b hb).1 with z|z
  ·exact hx z
  ·exact absurd (Nat.lt_of_lt_of_le (Heap.lt_size e) z) (Nat.lt_irrefl _)
 have cellK: ∀x c,X.env.cells.lookup x=some c-> ∀v,s.heap.IsCell c v->h'.IsCell c v:=fun x c e v ⟨o,ho,hd⟩=>by
  have nch:c ∉ ch:=fun z=>(hch c z).2.2.1 x c e rfl
  by_cases hc:c∈X.fs
  ·obtain⟨sl,q⟩:=slot c o (I.cne x c e) hc nch ho (I.freeC x c e)
   exact⟨_,q,hd⟩
  ·exact⟨o,keep c o (I.cne x c e) hc nch ho (I.freeC x c e),hd⟩
 refine⟨I.ok,I.os,hg,⟨fun b o e n hb hx=>?_,fun b o e n hb hx=>?_,fun b o e n hx=>?_,fun b o e hx=>?_,fun b xs e=>tups b xs (I.base.tups b xs e),fun b o xs e=>frzs b o xs (I.base.frzs b o xs e),fun b ps e=>?_⟩,?_,fun x c e=>?_,?_,fun x c e=>?_,fun p hp=>?_,hok,I.len⟩
 ·exact keep b o (neL b o e) hb (neC b o e hx) (I.base.keep b o e n hb hx) (I.base.free b o e n hx)
 ·obtain⟨sl,e1⟩:=I.base.slot b o e n hb hx
  obtain⟨sl',e2⟩:=slot b _ (neL b o e) hb (neC b o e hx) e1 (I.base.free b o e n hx)
  exact⟨sl',e2⟩
 ·obtain⟨o',e1⟩:=I.base.there b o e hx
  exact free b o' (neC b o e hx) e1 (I.base.free b o e n hx)
 ·obtain⟨o',e1⟩:=I.base.there b o e hx
  exact there b o' (neC b o e hx) e1
 ·obtain⟨m1,e1⟩:=I.base.tbls b ps e
  obtain⟨m2,e2⟩:=tbls b _ e1
  exact⟨m1++m2,by rw[e2,Array.append_assoc]⟩
 ·obtain⟨m,hn,hl⟩:=I.loc
  refine⟨m,ns m hn,fun i x v e1 e2 e3=>?_⟩
  obtain⟨u,r,l⟩:=hl i x v e1 e2 e3
  refine⟨u,r,?_⟩
  rcases l with l|⟨k,c,e,z⟩
  ·exact .inl l
  ·exact .inr ⟨k,c,e,cellK x c e _ z⟩
 ·obtain⟨v,z⟩:=I.cell x c e
  exact⟨v,cellK x c e v z⟩
 ·obtain⟨m,⟨o,_,_,ho,_⟩,_⟩:=I.loc
  exact free _ o (fun z=>(hch _ z).2.1 rfl) ho I.free
 ·obtain⟨v,o,ho,hd⟩:=I.cell x c e
  exact free c o (fun z=>(hch c z).2.2.1 x c e rfl) ho (I.freeC x c e)
 ·obtain⟨e,n,ne,nf,d⟩:=I.pin p hp
  have nch:p.1 ∉ ch:=fun z=>(hch p.1 z).2.2.2 p hp rfl
  exact⟨keep p.1 p.2 ne nf nch e n,free p.1 p.2 nch e n,ne,nf,d⟩
theorem Inv.un {t':Nat}(I:Inv X pins σ H s)(u:Un X.fs [] H H' s.heap h')(hok:HOk X.prog X.w H' h'):Inv X pins σ H' {s with heap:=h',toks:=t'}:=by
 obtain⟨m,⟨o,es,ep,ho,r⟩,_⟩:=id I.loc
 obtain⟨sl,hL⟩:=u.any ho I.free (by simp)
 exact I.step (g':=s.gens) (d':=s.drawn) (ch:=[]) (fun _ z=>nomatch z) (fun b o _ hb _ e n=>u.keep b o e n hb (by simp)) (fun b o _ hb _ e n=>u.slot b o e n hb (by simp)) (fun b o _ e n=>u.free b o e n (by simp)) (fun b o _ e=>u.there b o e (by simp)) u.tups u.frzs u.tbls (fun m' hm=>by
  obtain⟨o',es',ep',ho',r'⟩:=hm
  rw[ho] at ho';cases ho'
  exact⟨_,es',ep',hL,r'⟩) hok I.bare
theorem Inv.call {g':Array GenState}{t':Nat}{d':Drawn}{ch:List Addr}(I:Inv X pins σ H s)(u:Un (frs X.stack) ch H H' s.heap h')(hok:HOk X.prog X.w H' h')(hg:AllBare g')
  (hch: ∀b∈ch,(b∈X.ex\/X.s₀.heap.objs.size<=b)/\b≠X.env.locals/\(∀x c,X.env.cells.lookup x=some c->c≠b)/\ ∀p∈X.pn++pins,p.1≠b):
  Inv X pins σ H' {s with heap:=h',gens:=g',drawn:=d',toks:=t'}:=by
 obtain⟨m,⟨o,es,ep,ho,r⟩,_⟩:=id I.loc
 obtain⟨sl,hL⟩:=u.any ho I.free fun z=>(hch _ z).2.1 rfl
 exact I.step (ch:=ch) hch (fun b o hL hb hc e n=>u.keep b o e n (fun z=>(List.mem_cons.mp (I.stkSub b z)).elim hL hb) hc) (fun b o _ _ hc e n=>u.any e n hc) (fun b o hc e n=>u.free b o e n hc) (fun b o hc e=>u.there b o e hc) u.tups u.frzs u.tbls (fun m' hm=>by
  obtain⟨o',es',ep',ho',r'⟩:=hm
  rw[ho] at ho';cases ho'
  exact⟨_,es',ep',hL,r'⟩) hok hg
theorem Inv.turned {t':Nat}{it:Addr}(I:Inv X pins σ H s)(k:∀b o,b≠it->s.heap.get? b=some o->h'.get? b=some o)(hn:H it=none)(hL:it≠X.env.locals)
  (h1:it∈X.ex\/X.s₀.heap.objs.size<=it)(h2: ∀x c,X.env.cells.lookup x=some c->c≠it)(h3: ∀p∈X.pn++pins,p.1≠it):Inv X pins σ H {s with heap:=h',toks:=t'}:=by
 have nit: ∀b u,H b=some u->b≠it:=fun b u e z=>by rw[z,hn] at e;cases e
 refine I.step (g':=s.gens) (d':=s.drawn) (ch:=[it]) (fun b hb=>?_) (fun b o _ _ hc e _=>k b o (fun z=>hc (by simp [z])) e) (fun b o _ _ hc e _=>⟨o.slots,k b o (fun z=>hc (by simp [z])) e⟩) (fun _ _ _ _ n=>n)
  (fun b o hc e=>⟨o,k b o (fun z=>hc (by simp [z])) e⟩) (fun _ _ e=>e) (fun _ _ _ e=>e) (fun b ps e=>⟨#[],by rw[e];simp⟩) (fun m hm=>?_) (fun b u e=>?_) I.bare
 ·have e:b=it:=by simpa using hb
  subst e
  exact⟨h1,hL,h2,h3⟩
 ·obtain⟨o,es,ep,ho,r⟩:=hm
  exact⟨o,es,ep,k _ o (Ne.symm hL) ho,r⟩
 ·refine (I.hok b u e).stay (fun c v hc q=>k c v ?_ q) (fun _ q=>q) fun _ _ q=>q
  rcases hc with z|z
  ·rw[z];exact nit b u e
  ·exact nit c _ z
theorem Inv.tok (I:Inv X pins σ H s)(t:Nat):Inv X pins σ H {s with toks:=t}:=I.un (h':=s.heap) (t':=t) Un.refl I.hok
theorem Inv.kept {t':Nat}(I:Inv X pins σ H s)(k:∀b u,s.heap.get? b=some u->h'.get? b=some u):Inv X pins σ H {s with heap:=h',toks:=t'}:=I.un (Un.kept k) (I.hok.kept k)
theorem Inv.laid {a:Addr}{o:HO}{t':Nat}(I:Inv X pins σ H s)(k:∀b u,s.heap.get? b=some u->h'.get? b=some u)(hp:s.heap.objs.size<=a)(new:ObjOk X.prog X.w (upd H a o) h' a o):
 Inv X pins σ (upd H a o) {s with heap:=h',toks:=t'}:=I.un (Un.laid k hp (I.hok.fresh hp)) (I.hok.laid k hp new)
theorem Inv.write {x e:Addr}{o:HO}{t':Nat}(I:Inv X pins σ H s)(mu:Mut (H x))(he:e=x\/H e=some (.own x))(k:∀b u,b≠e->s.heap.get? b=some u->h'.get? b=some u)(heo: ∃u,h'.get? e=some u)
 (new:ObjOk X.prog X.w (upd H x o) h' x o):Inv X pins σ (upd H x o) {s with heap:=h',toks:=t'}:=I.un (Un.write mu he k heo) (I.hok.write mu he k heo new)
theorem Inv.weak {σ':List (Option V)}(I:Inv X pins σ H s)(hl:σ'.length=σ.length)(w:∀ (i:Nat) v,σ'[i]?=some (some v)->σ[i]?=some (some v)):Inv X pins σ' H s:=
 ⟨I.ok,I.os,I.bare,I.base,let ⟨m,hn,hl'⟩:=I.loc;⟨m,hn,fun i x v e1 e2 e3=>hl' i x v e1 (w i v e2) e3⟩,I.cell,I.free,I.freeC,I.pin,I.hok,hl.trans I.len⟩
theorem Inv.pins_of {pins':List (Addr×Obj)}(I:Inv X pins σ H s)(h:∀p∈pins',s.heap.get? p.1=some p.2/\H p.1=none/\p.1≠X.env.locals/\p.1 ∉ X.fs/\ ∀v,p.2.data≠.cell v):Inv X pins' σ H s:=
 ⟨I.ok,I.os,I.bare,I.base,I.loc,I.cell,I.free,I.freeC,fun p hp=>(List.mem_append.mp hp).elim (fun z=>I.pin p (List.mem_append_left _ z)) (h p),I.hok,I.len⟩
theorem lB {N:List Str}(hN:N.Nodup){i j:Nat}{x:Str}(a:N[i]?=some x)(b:N[j]?=some x):i=j:=by
 obtain⟨h1,e1⟩:=List.getElem?_eq_some_iff.mp a
 obtain⟨h2,e2⟩:=List.getElem?_eq_some_iff.mp b
 exact (List.getElem_inj hN).mp (e1.trans e2.symm)
theorem jp {M:Model}{A:Around}{E:Value->Shared->Prop}{i:Nat}{x:Str}{v:V}{u:Value}{Q:Unit->Shared->Prop}(I:Inv X pins σ H s)(hN:X.N.Nodup)(hi:X.N[i]?=some x)(hx:Loc X.env.scope x)(r:RelV v u)
  (h:∀s',Inv X pins (σ.set i (some v)) H s'->(∃a,Heap.SameBut a s.heap s'.heap/\(a=X.env.locals\/X.env.cells.lookup x=some a))->Q () s')(hf:X.fn x=true\/X.env.scope.names.lookup x=some .local :=by first|exact .inl rfl|exact .inr rfl|assumption):wpAny M A (storeName X.env x u) Q E s:=by
 obtain⟨m,hn,hl⟩:=id I.loc
 have hcls:(X.env.scope.kind==.class||(X.env.scope.kind==.module && X.env.locals !=X.env.globals))=false:=by rw[I.ok.kind];rfl
 have hiσ:i<σ.length:=by rw[I.len];exact (List.getElem?_eq_some_iff.mp hi).1
 have cne:=I.cne
 have tracked: ∀ {a:Addr}{h':Heap},(∃o,s.heap.get? a=some o/\H a=none)->Heap.SameBut a s.heap h'->HOk X.prog X.w H h':=fun{a h'} ha hs b ob e=>by
  obtain⟨_,_,hfree⟩:=ha
  refine (I.hok b ob e).stay (fun c w' hc q=>(hs.2 c ?_).trans q) (fun _ q=>q) fun _ _ q=>q
  rintro rfl
  rcases hc with rfl|hc
  ·rw[hfree] at e;cases e
  ·rw[hfree] at hc;cases hc
 rcases hx with hk|hk
 ·refine wpAny_storeName_local hk hn (fun h' hn' hs=>?_) hcls
  obtain⟨oL,_,_,hoL,_⟩:=id hn
  refine h _ ⟨I.ok,I.os,I.bare,⟨fun b o e n hb hx=>?_,fun b o e n hb hx=>?_,I.base.free,fun b o e hx=>?_,I.base.tups,I.base.frzs,I.base.tbls⟩,⟨_,hn',fun j y v' e1 e2 e3=>?_⟩,fun y c e=>?_,I.free,I.freeC,fun p hp=>?_,tracked ⟨oL,hoL,I.free⟩ hs,by simpa using I.len⟩ ⟨_,hs,.inl rfl⟩
  ·exact (hs.2 b (Nat.ne_of_lt (Nat.lt_of_lt_of_le (Heap.lt_size e) I.ok.above))).trans (I.base.keep b o e n hb hx)
  ·obtain⟨sl,e1⟩:=I.base.slot b o e n hb hx
   exact⟨sl,(hs.2 b (Nat.ne_of_lt (Nat.lt_of_lt_of_le (Heap.lt_size e) I.ok.above))).trans e1⟩
  ·obtain⟨o',e1⟩:=I.base.there b o e hx
   exact⟨o',(hs.2 b (Nat.ne_of_lt (Nat.lt_of_lt_of_le (Heap.lt_size e) I.ok.above))).trans e1⟩
  ·by_cases hj:j=i
   ·subst hj
    rw[hi] at e1;cases e1
    rw[List.getElem?_set_self hiσ] at e2
    cases e2
    exact⟨u,r,.inl ⟨hk,by simp⟩⟩
   ·rw[List.getElem?_set_ne (Ne.symm hj)] at e2
    obtain⟨u',r',q⟩:=hl j y v' e1 e2 e3
    refine⟨u',r',?_⟩
    rcases q with⟨k,e⟩|⟨k,c,e,z⟩
    ·refine .inl ⟨k,?_⟩
     have:y≠x:=fun e=>hj (lB hN e1 (e▸hi))
     simp [this,e]
    ·exact .inr ⟨k,c,e,z.sameBut hs (cne y c e)⟩
  ·obtain⟨w',z⟩:=I.cell y c e
   exact⟨w',z.sameBut hs (cne y c e)⟩
  ·obtain⟨e,n,ne,nf,d⟩:=I.pin p hp
   exact⟨(hs.2 p.1 ne).trans e,n,ne,nf,d⟩
 ·have hfn:X.fn x=true:=by
   rcases hf with z|z
   ·exact z
   ·rw[z] at hk;cases hk
  obtain⟨c,hc⟩:=I.ok.has x (.inl hk)
  obtain⟨w',z⟩:=I.cell x c hc
  refine wpAny_storeName_cell I.ok.kind hk hc z (fun h' hc' hs=>?_)
  obtain⟨oc,hoc,hocd⟩:=id z
  refine h {s with heap:=h'} ⟨I.ok,I.os,I.bare,⟨fun b o e n hb hx=>?_,fun b o e n hb hx=>?_,I.base.free,fun b o e hx=>?_,I.base.tups,I.base.frzs,I.base.tbls⟩,⟨m,hn.sameBut hs (Ne.symm (cne x c hc)),fun j y v' e1 e2 e3=>?_⟩,fun y c' e=>?_,I.free,I.freeC,fun p hp=>?_,tracked ⟨oc,hoc,I.freeC x c hc⟩ hs,by simpa using I.len⟩ ⟨c,hs,.inr hc⟩
  ·exact (hs.2 b (Nat.ne_of_lt (Nat.lt_of_lt_of_le (Heap.lt_size e) (I.ok.cab x c hfn hc)))).trans (I.base.keep b o e n hb hx)
  ·obtain⟨sl,e1⟩:=I.base.slot b o e n hb hx
   exact⟨sl,(hs.2 b (Nat.ne_of_lt (Nat.lt_of_lt_of_le (Heap.lt_size e) (I.ok.cab x c hfn hc)))).trans e1⟩
  ·obtain⟨o',e1⟩:=I.base.there b o e hx
   exact⟨o',(hs.2 b (Nat.ne_of_lt (Nat.lt_of_lt_of_le (Heap.lt_size e) (I.ok.cab x c hfn hc)))).trans e1⟩
  ·by_cases hj:j=i
   ·subst hj
    rw[hi] at e1;cases e1
    rw[List.getElem?_set_self hiσ] at e2
    cases e2
    exact⟨u,r,.inr ⟨.inl hk,c,hc,hc'⟩⟩
   ·rw[List.getElem?_set_ne (Ne.symm hj)] at e2
    obtain⟨u',r',q⟩:=hl j y v' e1 e2 e3
    refine⟨u',r',?_⟩
    rcases q with q|⟨k,c',e,z'⟩
    ·exact .inl q
    ·refine .inr ⟨k,c',e,z'.sameBut hs ?_⟩
     rintro rfl
     exact hj (lB hN e1 (I.ok.inj _ _ _ e hc▸hi))
  ·by_cases hcc:c'=c
   ·subst hcc;exact⟨_,hc'⟩
   ·obtain⟨w2,z2⟩:=I.cell y c' e
    exact⟨w2,z2.sameBut hs hcc⟩
  ·obtain⟨e,n,ne,nf,d⟩:=I.pin p hp
   refine⟨(hs.2 p.1 ?_).trans e,n,ne,nf,d⟩
   intro q
   rw[q,hoc] at e
   have q':oc=p.2:=Option.some.inj e
   exact d w' (by rw[<-q'];exact hocd)
theorem kI {M:Model}{A:Around}{E:Value->Shared->Prop}{i:Nat}{x:Str}{v:V}{u:Value}{Q:Unit->Shared->Prop}(I:Inv X pins σ H s)(hN:X.N.Nodup)(hi:X.N[i]?=some x)(hx:Loc X.env.scope x)(r:RelV v u)
  (h:∀s',Inv X pins (σ.set i (some v)) H s'->Q () s')(hf:X.fn x=true\/X.env.scope.names.lookup x=some .local :=by first|exact .inl rfl|exact .inr rfl|assumption):wpAny M A (storeName X.env x u) Q E s:=
 jp I hN hi hx r (fun s' I' _=>h s' I') hf
theorem Inv.call' {s':Shared}{ch:List Addr}(I:Inv X pins σ H s)(ho:s'.os=s.os)(u:Un (frs X.stack) ch H H' s.heap s'.heap)(hok:HOk X.prog X.w H' s'.heap)(hg:AllBare s'.gens)
  (hch: ∀b∈ch,(b∈X.ex\/X.s₀.heap.objs.size<=b)/\b≠X.env.locals/\(∀x c,X.env.cells.lookup x=some c->c≠b)/\ ∀p∈X.pn++pins,p.1≠b):Inv X pins σ H' s':=by
 obtain⟨h',g',d',t',o'⟩:=s'
 have e:o'=s.os:=ho
 subst e
 exact I.call (g':=g') (t':=t') (d':=d') u hok hg hch
end
noncomputable abbrev XK:=Value->Option Addr->Hp->Prop
noncomputable abbrev St:=List (Option V)
noncomputable abbrev VK:=V->Hp->Prop
noncomputable abbrev TE:=St->Hp->VK->Prop
noncomputable abbrev TT:=St->Hp->(Bool->Hp->Prop)->Prop
noncomputable abbrev TA:=St->Hp->(List V->Hp->Prop)->Prop
structure Ends where
 nx:St->Hp->Prop
 rt:VK
 bk:St->Hp->Prop:=fun _ _=>False
 ct:St->Hp->Prop:=fun _ _=>False
noncomputable abbrev TS:=Ends->St->Hp->Prop
def EP (X:Cx)(pins:List (Addr×Obj))(σ:St)(Q:VK)(u:Value)(s':Shared):Prop:= ∃v H',Inv X pins σ H' s'/\RelV v u/\Q v H'
def TP (X:Cx)(pins:List (Addr×Obj))(σ:St)(Q:Bool->Hp->Prop)(b:Bool)(s':Shared):Prop:= ∃H',Inv X pins σ H' s'/\Q b H'
def AP (X:Cx)(pins:List (Addr×Obj))(σ:St)(Q:List V->Hp->Prop)(us:List Value)(s':Shared):Prop:= ∃vs H',Inv X pins σ H' s'/\Vals vs us/\Q vs H'
def SP (X:Cx)(pins:List (Addr×Obj))(D:Ends)(f:Flow)(s':Shared):Prop:=
 match f with
 |.next=> ∃σ' H',Inv X pins σ' H' s'/\D.nx σ' H'
 |.brk=> ∃σ' H',Inv X pins σ' H' s'/\D.bk σ' H'
 |.cont=> ∃σ' H',Inv X pins σ' H' s'/\D.ct σ' H'
 |.ret u=> ∃v σ' H',Inv X pins σ' H' s'/\RelV v u/\D.rt v H'
def PE (X:Cx)(e:Expr)(t:TE):Prop:=
 ∀ (pins:List (Addr×Obj)) (s:Shared) (σ:St) (H:Hp) (Q:VK),Inv X pins σ H s->t σ H Q->wpAny (model X.prog X.w) X.A (eval e X.env) (EP X pins σ Q) X.xe s
def PT (X:Cx)(e:Expr)(t:TT):Prop:=
 ∀ (pins:List (Addr×Obj)) (s:Shared) (σ:St) (H:Hp) (Q:Bool->Hp->Prop),Inv X pins σ H s->t σ H Q->wpAny (model X.prog X.w) X.A (isTrue e X.env (eval e X.env)) (TP X pins σ Q) X.xe s
def PW (X:Cx)(e:Expr)(t:TT):Prop:=
 ∀ (whole:Sem Value) (pins:List (Addr×Obj)) (s:Shared) (σ:St) (H:Hp) (Q:Bool->Hp->Prop),Inv X pins σ H s->t σ H Q->wpAny (model X.prog X.w) X.A (isTrue e X.env whole) (TP X pins σ Q) X.xe s
theorem PW.pt {X:Cx}{e:Expr}{t:TT}(h:PW X e t):PT X e t:=h _
def PA (X:Cx)(es:List Expr)(t:TA):Prop:=
 ∀ (pos:Pos) (pins:List (Addr×Obj)) (s:Shared) (σ:St) (H:Hp) (Q:List V->Hp->Prop),Inv X pins σ H s->t σ H Q->wpAny (model X.prog X.w) X.A (spliced (backTo pos (starEach es X.env))) (AP X pins σ Q) X.xe s
def PS (X:Cx)(st:Stmt)(t:TS):Prop:=
 ∀ (pins:List (Addr×Obj)) (s:Shared) (σ:St) (H:Hp) (D:Ends),Inv X pins σ H s->t D σ H->wpAny (model X.prog X.w) X.A (exec st X.env) (SP X pins D) X.xe s
def PSs (X:Cx)(st:List Stmt)(t:TS):Prop:=
 ∀ (pins:List (Addr×Obj)) (s:Shared) (σ:St) (H:Hp) (D:Ends),Inv X pins σ H s->t D σ H->wpAny (model X.prog X.w) X.A (execs st X.env) (SP X pins D) X.xe s
theorem thn {α:Type}{t:Sem α}{Q Q':α->Shared->Prop}{M:Model}{A:Around}{E:Value->Shared->Prop}{s:Shared}(h:wpAny M A t Q E s)(hQ: ∀a s,Q a s->Q' a s):wpAny M A t Q' E s:=wpAny_mono h hQ fun _ _ x=>x
end L2
namespace L2
open PySem PySem.Spec PyProof.Rows
section
variable {X:Cx}
theorem bin {a b:Expr}{ta tb:TE}(ha:PE X a ta)(hb:PE X b tb){pins:List (Addr×Obj)}{s:Shared}{σ:St}{H:Hp}{R:V->V->Hp->Prop}(I:Inv X pins σ H s)(h:ta σ H fun x H1=>tb σ H1 fun y H2=>R x y H2)
  {α:Type}{Q:α->Shared->Prop}{f:Value->Value->Sem α}
  (hf: ∀v u s2 x y H2,Inv X pins σ H2 s2->RelV x v->RelV y u->R x y H2->wpAny (model X.prog X.w) X.A (f v u) Q X.xe s2):
  wpAny (model X.prog X.w) X.A (eval a X.env) (fun v s₁=>wpAny (model X.prog X.w) X.A (eval b X.env) (fun u s₂=>wpAny (model X.prog X.w) X.A (f v u) Q X.xe s₂) X.xe s₁) X.xe s:=by
 refine thn (ha pins s σ H _ I h) fun v s1 qz=>?_
 obtain⟨x,H1,I1,r1,q1⟩:=qz
 refine thn (hb pins s1 σ H1 _ I1 q1) fun u s2 qz=>?_
 obtain⟨y,H2,I2,r2,q2⟩:=qz
 exact hf v u s2 x y H2 I2 r1 r2 q2
def tVar (i:Nat):TE:=fun σ H Q=> ∃v,σ[i]?=some (some v)/\Q v H
def tC (v:V):TE:=fun _ H Q=>Q v H
theorem uF {i:Nat}{x:Str}{pos:Pos}(hN:X.N[i]?=some x)(hv:Vis X.env.scope x)(hd:(x==("__debug__":Str))=false:=by decide)(hcd:(x==("__classdict__":Str))=false:=by decide):PE X (.Name x pos) (tVar i):=by
 intro pins s σ H Q I h
 obtain⟨v,e,h⟩:=h
 obtain⟨m,hn,hl⟩:=I.loc
 obtain⟨u,r,l⟩:=hl i x v hN e hv
 have fin:EP X pins σ Q u s:=⟨v,H,I,r,h⟩
 rcases l with⟨hk,hm⟩|⟨hk,c,hc,hcell⟩
 ·exact wpAny_Name (wpAny_loadName_local I.ok.kind hk hn hm fin) hd
 ·rcases hk with hk|hk
  ·exact wpAny_Name (wpAny_loadName_cell I.ok.kind hk hc hcell fin) hd
  ·exact wpAny_Name (wpAny_loadName_free I.ok.kind hk hc hcell fin hcd) hd
theorem pe_int {i j pos}:PE X (.Constant (.int i) j pos) (tC (.int i)):=fun _ _ _ H _ I h=>wpAny_Constant_int ⟨.int i,H,I.tok _,⟨_,rfl⟩,h⟩
theorem pe_bl {b j pos}:PE X (.Constant (.bool b) j pos) (tC (.bl b)):=fun _ _ _ H _ I h=>Constant_bool ⟨.bl b,H,I,rfl,h⟩
theorem pe_str {x j pos}:PE X (.Constant (.str x) j pos) (tC (.str x)):=fun _ _ _ H _ I h=>Calls.Constant_str ⟨.str x,H,I.tok _,⟨_,rfl⟩,h⟩
noncomputable def Gl (X:Cx)(x:Str):Prop:=X.env.kindOf x=some .globalImplicit
theorem nt {E:Value->Shared->Prop}{pins:List (Addr×Obj)}{s:Shared}{σ:St}{H:Hp}{x:Str}{u:Value}{pos:Pos}{Q:Value->Shared->Prop}(I:Inv X pins σ H s)(hg:Gl X x)(hm:X.mg x=some u)(h:Q u s)
  (hd:(x==("__debug__":Str))=false:=by decide):wpAny (model X.prog X.w) X.A (eval (.Name x pos) X.env) Q E s:=
 Calls.Name_function_global I.ok.kind hg (Calls.loadGlobal_global (by rw[I.ok.glob];exact I.mod.glob.keeps I.bk) hm h) hd
theorem dc {E:Value->Shared->Prop}{pins:List (Addr×Obj)}{s:Shared}{σ:St}{H:Hp}{x:Str}{u:Value}{pos:Pos}{Q:Value->Shared->Prop}(I:Inv X pins σ H s)(hg:Gl X x)(hm:X.mg x=none)(hv:bootBuiltins x=some u)(h:Q u s)
  (hn:x≠ "__name__":=by decide)(hd:(x==("__debug__":Str))=false:=by decide):wpAny (model X.prog X.w) X.A (eval (.Name x pos) X.env) Q E s:=by
 obtain⟨mb,h1,h2⟩:=I.mod.blt
 exact Calls.Name_function_global I.ok.kind hg (Calls.loadGlobal_builtin (by rw[I.ok.glob];exact I.mod.glob.keeps I.bk) hm (by rw[I.ok.blt];exact h1.keeps I.bk) ((h2 x hn).trans hv) h) hd
theorem sh {x:Str}{v:V}{u:Value}{pos:Pos}(hg:Gl X x)(hm:X.mg x=some u)(r:RelV v u)(hd:(x==("__debug__":Str))=false:=by decide):PE X (.Name x pos) (tC v):=
 fun _ _ _ H _ I h=>nt I hg hm ⟨v,H,I,r,h⟩ hd
theorem so {x:Str}{v:V}{u:Value}{pos:Pos}(hg:Gl X x)(hm:X.mg x=none)(hv:bootBuiltins x=some u)(r:RelV v u)(hn:x≠ "__name__":=by decide)(hd:(x==("__debug__":Str))=false:=by decide):PE X (.Name x pos) (tC v):=
 fun _ _ _ H _ I h=>dc I hg hm hv ⟨v,H,I,r,h⟩ hn hd
variable {a b:Expr}{ta tb:TE}{pos:Pos}
def PC (X:Cx)(op:CmpOp)(a b:Expr)(t:TE):Prop:=
 ∀ (pins:List (Addr×Obj)) (s:Shared) (σ:St) (H:Hp) (Q:VK),Inv X pins σ H s->t σ H Q->
   wpAny (model X.prog X.w) X.A (eval a X.env) (fun v s₁=>wpAny (model X.prog X.w) X.A (eval b X.env) (fun u s₂=>wpAny (model X.prog X.w) X.A (compareOp op v u) (EP X pins σ Q) X.xe s₂) X.xe s₁) X.xe s
def tB (t:TE):TT:=fun σ H Q=>t σ H fun x H1=> ∃c,x=.bl c/\Q c H1
theorem wq {op:CmpOp}{t:TE}(h:PC X op a b t)(h1:behindInMarks op b=false:=by first|exact nobehind _ (by decide) (by decide)|rfl):PT X (.Compare a [op] [b] pos) (tB t):=by
 intro pins s σ H Q I hw
 refine wpAny_isTrue_Compare1 (thn (h pins s σ H _ I hw) fun v s1 h1=>thn h1 fun u s2 h2=>thn h2 fun c s3 qz=>?_) h1
 obtain⟨x,H1,I1,r1,q1⟩:=qz
 obtain⟨d,rfl,q⟩:=q1
 cases r1
 exact wpAny_truthy_bool ⟨H1,I1,q⟩
theorem ux {e:Expr}{t:TE}(h:PE X e t)(he: ∀whole,isTrue e X.env whole=(do let v<-whole;standAt e.pos;holding [v] (truthy v)):=by intro _;rfl):PT X e (tB t):=by
 intro pins s σ H Q I hw
 refine isTrue_plain (thn (h pins s σ H _ I hw) fun v s1 qz=>?_) (he _)
 obtain⟨x,H1,I1,r1,q1⟩:=qz
 obtain⟨d,rfl,q⟩:=q1
 cases r1
 exact wpAny_truthy_bool ⟨H1,I1,q⟩
variable {tA tB':TT}{rest:List Expr}
def tOr (t u:TT):TT:=fun σ H Q=>t σ H fun c H1=>if c=true then Q true H1 else u σ H1 Q
def tNot (t:TT):TT:=fun σ H Q=>t σ H fun c H1=>Q (!c) H1
theorem uw (ha:PT X a tA):PW X (.BoolOp .Or [a] pos) tA:=by
 intro wh pins s σ H Q I h
 refine isTrue_or (thn (ha pins s σ H Q I h) fun c s1 e=>?_)
 cases c with
 |false=>exact isTrue_or_nil e
 |true=>exact e
theorem vZ (ha:PT X a tA)(hb:PW X (.BoolOp .Or (b::rest) pos) tB'):PW X (.BoolOp .Or (a::b::rest) pos) (tOr tA tB'):=by
 intro wh pins s σ H Q I h
 refine isTrue_or (thn (ha pins s σ H _ I h) fun c s1 qz=>?_)
 obtain⟨H1,I1,q1⟩:=qz
 cases c with
 |true=>exact⟨H1,I1,q1⟩
 |false=>exact hb wh pins s1 σ H1 Q I1 q1
theorem uy (ha:PT X a tA):PT X (.UnaryOp .Not a pos) (tNot tA):=by
 intro pins s σ H Q I h
 exact isTrue_not (ha pins s σ H (fun c H1=>Q (!c) H1) I h)
def tAndV (ta tb:TE):TE:=fun σ H Q=>ta σ H fun x H1=> ∃c,x=.bl c/\if c=true then tb σ H1 Q else Q (.bl false) H1
def tNotV (ta:TE):TE:=fun σ H Q=>ta σ H fun x H1=> ∃c,x=.bl c/\Q (.bl (!c)) H1
theorem uH {op}{t:TE}(h:PE X a t):PE X (.BoolOp op [a] pos) t:=fun pins s σ H Q I hw=>BoolOp_one (h pins s σ H Q I hw)
theorem uK (ha:PE X a ta)(hb:PE X (.BoolOp .And (b::rest) pos) tb):PE X (.BoolOp .And (a::b::rest) pos) (tAndV ta tb):=by
 intro pins s σ H Q I h
 refine BoolOp_and (thn (ha pins s σ H _ I h) fun v s1 qz=>?_)
 obtain⟨x,H1,I1,r1,q1⟩:=qz
 obtain⟨c,rfl,q1⟩:=q1
 cases r1
 refine wpAny_truthy_bool ?_
 cases c with
 |true=>exact hb pins s1 σ H1 Q I1 q1
 |false=>exact⟨.bl false,H1,I1,rfl,q1⟩
theorem uI (ha:PE X a ta):PE X (.UnaryOp .Not a pos) (tNotV ta):=by
 intro pins s σ H Q I h
 refine UnaryOp_ (thn (ha pins s σ H _ I h) fun v s1 qz=>?_)
 obtain⟨x,H1,I1,r1,q1⟩:=qz
 obtain⟨c,rfl,q1⟩:=q1
 cases r1
 exact not_of (wpAny_truthy_bool ⟨.bl (!c),H1,I1,rfl,q1⟩)
def tIf (t:TT)(ta tb:TE):TE:=fun σ H Q=>t σ H fun c H1=>if c=true then ta σ H1 Q else tb σ H1 Q
theorem pS {c:Expr}(hc:PT X c tA)(ha:PE X a ta)(hb:PE X b tb):PE X (.IfExp c a b pos) (tIf tA ta tb):=by
 intro pins s σ H Q I h
 refine wpAny_IfExp (thn (hc pins s σ H _ I h) fun d s1 qz=>?_)
 obtain⟨H1,I1,q1⟩:=qz
 cases d with
 |true=>exact ha pins s1 σ H1 Q I1 q1
 |false=>exact hb pins s1 σ H1 Q I1 q1
end
end L2
namespace L2
open PySem PySem.Spec PyProof.Rows
def SqL (K:PySem.W.Frag)(H:Hp)(a:Addr)(xs:List V):Prop:=
 Rd H a (.lst xs)\/
  ∃ (o:Obj) (its:Array Value) (n:Nat),K.lookup a=some o/\o.cls=.type "list"/\o.dict=none/\o.data=.seq its n/\its.size<=sizeLine/\Vals xs its.toList
def SqT (K:PySem.W.Frag)(H:Hp)(a:Addr)(xs:List V):Prop:=
 Rd H a (.tup xs)\/
  ∃ (o:Obj) (its:Array Value) (n:Nat),K.lookup a=some o/\o.cls=.type "tuple"/\o.data=.seq its n/\its.size<=sizeLine/\Vals xs its.toList
noncomputable def absV:Value->Option V
 |.none=>some .non
 |.bool b=>some (.bl b)
 |.int i _=>some (.int i)
 |.str x _=>some (.str x)
 |.bytes b _=>some (.byt b)
 |.float b _=>some (.flt b)
 |.ref a=>some (.ref a)
 |.type n=>some (.ty n)
 |_=>none
theorem RelV.abs {x:V}{u:Value}(r:RelV x u):absV u=some x:=by
 cases x with
 |non=>cases r;rfl
 |bl _=>cases r;rfl
 |int _=>obtain⟨t,rfl⟩:=r;rfl
 |str _=>obtain⟨t,rfl⟩:=r;rfl
 |byt _=>obtain⟨t,rfl⟩:=r;rfl
 |flt _=>obtain⟨t,rfl⟩:=r;rfl
 |ref _=>cases r;rfl
 |ty _=>cases r;rfl
theorem RelV.inj {x y:V}{u:Value}(r:RelV x u)(q:RelV y u):x=y:=Option.some.inj (r.abs.symm.trans q.abs)
theorem Vals.inj: ∀ {xs ys:List V}{us:List Value},Vals xs us->Vals ys us->xs=ys
 :=by
 intro xs ys us h
 induction h generalizing ys with
 |nil=>intro g;cases g;rfl
 |cons r t ih=>
  intro g
  cases g with
  |cons r' t'=>rw[r.inj r',ih t']
section
variable {X:Cx}{pins:List (Addr×Obj)}{σ:St}{H:Hp}{s:Shared}{a:Addr}{xs ys:List V}
theorem SqL.of {K:PySem.W.Frag}(h:H a=some (.lst xs)):SqL K H a xs:=.inl (.inl h)
theorem SqT.of {K:PySem.W.Frag}(h:H a=some (.tup xs)):SqT K H a xs:=.inl (.inl h)
theorem Inv.list (I:Inv X pins σ H s)(h:SqL X.K H a xs): ∃its:List Value,Vals xs its/\PlainL s.heap a its.toArray/\xs.length<=sizeLine:=by
 rcases h with h|⟨o,its,n,hk,hc,hd,hs,hz,r⟩
 ·obtain⟨z,its,n,r,e⟩:=h.ok I.hok
  exact⟨its,r,⟨_,n,e,rfl,rfl,rfl⟩,z⟩
 ·refine⟨its.toList,r,⟨o,n,I.kIn a o hk,hc,hd,by simpa using hs⟩,?_⟩
  have e:=r.length
  simp only[Array.length_toList] at e
  omega
theorem Inv.tuple (I:Inv X pins σ H s)(h:SqT X.K H a xs): ∃its:List Value,Vals xs its/\IsTup s.heap a its.toArray/\xs.length<=sizeLine:=by
 rcases h with h|⟨o,its,n,hk,hc,hs,hz,r⟩
 ·obtain⟨z,its,r,p⟩:=h.ok I.hok
  exact⟨its,r,p.1,z⟩
 ·refine⟨its.toList,r,⟨o,I.kIn a o hk,hc,n,by simpa using hs⟩,?_⟩
  have e:=r.length
  simp only[Array.length_toList] at e
  omega
theorem Inv.list_inj (I:Inv X pins σ H s)(h:SqL X.K H a xs)(h':SqL X.K H a ys):xs=ys:=by
 obtain⟨its,r,⟨o,n,e,_,_,d⟩,_⟩:=I.list h
 obtain⟨its',r',⟨o',n',e',_,_,d'⟩,_⟩:=I.list h'
 rw[e] at e';cases e'
 rw[d] at d'
 injection d' with d1 _
 have:its=its':=by simpa using congrArg Array.toList d1
 subst this
 exact r.inj r'
theorem Inv.tuple_inj (I:Inv X pins σ H s)(h:SqT X.K H a xs)(h':SqT X.K H a ys):xs=ys:=by
 obtain⟨its,r,⟨o,e,_,n,d⟩,_⟩:=I.tuple h
 obtain⟨its',r',⟨o',e',_,n',d'⟩,_⟩:=I.tuple h'
 rw[e] at e';cases e'
 rw[d] at d'
 injection d' with d1 _
 have:its=its':=by simpa using congrArg Array.toList d1
 subst this
 exact r.inj r'
end
noncomputable abbrev Cx.wish (X:Cx)(E:Value->Shared->Prop):Cx:={X with xe:=E}
noncomputable abbrev Cx.nox (X:Cx):Cx:=X.wish fun _ _=>False
theorem Cx.Ok.wish {X:Cx}(ok:X.Ok)(E:Value->Shared->Prop):(X.wish E).Ok:=
 ⟨ok.mod,ok.kind,ok.glob,ok.blt,ok.above,ok.inj,ok.has,ok.cab,ok.hd,ok.frames,ok.stk,ok.exf,ok.bs,ok.bsz,ok.noex,ok.exfs,ok.funs,ok.frf⟩
theorem Cx.Ok.unwish {X:Cx}{E:Value->Shared->Prop}(ok:(X.wish E).Ok):X.Ok:=
 ⟨ok.mod,ok.kind,ok.glob,ok.blt,ok.above,ok.inj,ok.has,ok.cab,ok.hd,ok.frames,ok.stk,ok.exf,ok.bs,ok.bsz,ok.noex,ok.exfs,ok.funs,ok.frf⟩
section
variable {X:Cx}{pins:List (Addr×Obj)}{σ:St}{H:Hp}{s:Shared}{E:Value->Shared->Prop}
theorem Inv.wish (I:Inv X pins σ H s)(E:Value->Shared->Prop):Inv (X.wish E) pins σ H s:=⟨I.ok.wish E,I.os,I.bare,I.base,I.loc,I.cell,I.free,I.freeC,I.pin,I.hok,I.len⟩
theorem Inv.unwish (I:Inv (X.wish E) pins σ H s):Inv X pins σ H s:=⟨I.ok.unwish,I.os,I.bare,I.base,I.loc,I.cell,I.free,I.freeC,I.pin,I.hok,I.len⟩
theorem SP.unwish {D:Ends}{f:Flow}{s':Shared}(h:SP (X.wish E) pins D f s'):SP X pins D f s':=by
 cases f with
 |next=>obtain⟨σ',H',I,q⟩:=h;exact⟨σ',H',I.unwish,q⟩
 |brk=>obtain⟨σ',H',I,q⟩:=h;exact⟨σ',H',I.unwish,q⟩
 |cont=>obtain⟨σ',H',I,q⟩:=h;exact⟨σ',H',I.unwish,q⟩
 |ret u=>obtain⟨v,σ',H',I,r,q⟩:=h;exact⟨v,σ',H',I.unwish,r,q⟩
theorem PSs.nox {st:List Stmt}{t:TS}(h:PSs X.nox st t):PSs X st t:=fun pins s σ H D I hw=>
 wpAny_mono (h pins s σ H D (I.wish _) hw) (fun _ _ q=>q.unwish) fun _ _ z=>False.elim z
end
section
variable {X:Cx}{st:Stmt}{rest:List Stmt}{t u:TS}{e:Expr}{te:TE}{pos:Pos}
def tNext:TS:=fun D σ H=>D.nx σ H
def tSeq (t u:TS):TS:=fun D σ H=>t {D with nx:=u D} σ H
theorem pss_nil:PSs X [] tNext:=fun _ _ σ H _ I h=>wpAny_execs_nil ⟨σ,H,I,h⟩
theorem pJ (h1:PS X st t)(h2:PSs X rest u):PSs X (st::rest) (tSeq t u):=by
 intro pins s σ H D I h
 refine wpAny_execs_cons (thn (h1 pins s σ H {D with nx:=u D} I h) fun f s1 q=>?_)
 cases f with
 |next=>
  obtain⟨σ',H',I',q⟩:=q
  exact h2 pins s1 σ' H' D I' q
 |ret v=>exact q
 |brk=>exact q
 |cont=>exact q
theorem rY (h1:PS X st t):PSs X [st] t:=by
 intro pins s σ H D I h
 refine wpAny_execs_cons (thn (h1 pins s σ H D I h) fun f s1 q=>?_)
 cases f with
 |next=>exact wpAny_execs_nil q
 |ret v=>exact q
 |brk=>exact q
 |cont=>exact q
theorem Inv.quiet {pins:List (Addr×Obj)}{σ:St}{H:Hp}{s:Shared}(I:Inv X pins σ H s):interactive X.env=false:=by simp [interactive,I.ok.kind]
def tDrop (te:TE):TS:=fun D σ H=>te σ H fun _ H1=>D.nx σ H1
theorem rZ (he:PE X e te)(hs:swapsWith e none pos.line X.env=pure false:=by rfl):PS X (.Expr e pos) (tDrop te):=by
 intro pins s σ H D I h
 exact wpAny_Expr_any (thn (he pins s σ H _ I h) fun v s1 ⟨x,H1,I1,r1,q1⟩=>⟨σ,H1,I1,q1⟩) I.quiet hs
def tRet (te:TE):TS:=fun D σ H=>te σ H D.rt
theorem uA (he:PE X e te):PS X (.Return (some e) pos) (tRet te):=by
 intro pins s σ H D I h
 exact wpAny_Return_some (thn (he pins s σ H _ I h) fun v s1 ⟨x,H1,I1,r1,q1⟩=>⟨x,σ,H1,I1,r1,q1⟩)
def tIfS (c:TT)(t u:TS):TS:=fun D σ H=>c σ H fun b H1=>if b=true then t D σ H1 else u D σ H1
theorem v4 {c:Expr}{a b:List Stmt}{tc:TT}(hc:PT X c tc)(ha:PSs X a t)(hb:PSs X b u):PS X (.If c a b pos) (tIfS tc t u):=by
 intro pins s σ H D I h
 refine wpAny_If (thn (hc pins s σ H _ I h) fun d s1 qz=>?_)
 obtain⟨H1,I1,q1⟩:=qz
 cases d with
 |true=>exact ha pins s1 σ H1 D I1 q1
 |false=>exact hb pins s1 σ H1 D I1 q1
end
noncomputable abbrev TG:=V->St->Hp->(St->Hp->Prop)->Prop
noncomputable abbrev TGs:=List V->St->Hp->(St->Hp->Prop)->Prop
def PG (X:Cx)(target:Expr)(t:TG):Prop:=
 ∀ (pins:List (Addr×Obj)) (s:Shared) (σ:St) (H:Hp) (v:V) (u:Value) (Q:St->Hp->Prop),Inv X pins σ H s->RelV v u->t v σ H Q->
   wpAny (model X.prog X.w) X.A (assign target X.env u) (fun _ s'=> ∃σ' H',Inv X pins σ' H' s'/\Q σ' H') X.xe s
def PGs (X:Cx)(ts:List Expr)(t:TGs):Prop:=
 ∀ (pins:List (Addr×Obj)) (s:Shared) (σ:St) (H:Hp) (vs:List V) (us:List Value) (Q:St->Hp->Prop),Inv X pins σ H s->Vals vs us->t vs σ H Q->
   wpAny (model X.prog X.w) X.A (assignInOrder ((assignEach ts X.env).map (·.2)) us) (fun _ s'=> ∃σ' H',Inv X pins σ' H' s'/\Q σ' H') X.xe s
noncomputable abbrev TSet:=V->V->V->Hp->(Hp->Prop)->Prop
def PSet (X:Cx)(t:TSet):Prop:=
 ∀ (pins:List (Addr×Obj)) (s:Shared) (σ:St) (H:Hp) (o i v:V) (ov iv u:Value) (Q:Hp->Prop),Inv X pins σ H s->RelV o ov->RelV i iv->RelV v u->t o i v H Q->
   wpAny (model X.prog X.w) X.A (setItem ov iv u) (fun _ s'=> ∃H',Inv X pins σ H' s'/\Q H') X.xe s
section
variable {X:Cx}{pos:Pos}
def gName (i:Nat):TG:=fun v σ H Q=>Q (σ.set i (some v)) H
theorem ar {i:Nat}{x:Str}(hN:X.N.Nodup)(hi:X.N[i]?=some x)(hx:Loc X.env.scope x)(hf:X.fn x=true\/X.env.scope.names.lookup x=some .local :=by first|exact .inl rfl|exact .inr rfl|assumption):PG X (.Name x pos) (gName i):=by
 intro pins s σ H v u Q I r h
 exact wpAny_assign_Name (kI I hN hi hx r (fun s' I'=>⟨_,H,I',h⟩) hf)
def gNil:TGs:=fun vs σ H Q=>vs=[]/\Q σ H
def gCons (t:TG)(u:TGs):TGs:=fun vs σ H Q=> ∃v r,vs=v::r/\t v σ H fun σ' H'=>u r σ' H' Q
theorem bQ:PGs X [] gNil:=by
 intro pins s σ H vs us Q I r h
 obtain⟨e,h⟩:=h
 subst e
 cases r
 exact assignInOrder_nil ⟨σ,H,I,h⟩
theorem ay {e:Expr}{es:List Expr}{t:TG}{u:TGs}(h1:PG X e t)(h2:PGs X es u)
  (hs:(assignEach (e::es) X.env).map (·.2)=assign e X.env::(assignEach es X.env).map (·.2):=by rfl):PGs X (e::es) (gCons t u):=by
 intro pins s σ H vs us Q I r h
 obtain⟨v,vr,e1,h⟩:=h
 subst e1
 cases r with
 |cons r rr=>
  rw[hs]
  refine assignInOrder_cons (thn (h1 pins s σ H _ _ _ I r h) fun _ s1 qz=>?_)
  obtain⟨σ1,H1,I1,q1⟩:=qz
  exact h2 pins s1 σ1 H1 _ _ Q I1 rr q1
def gTup (K:PySem.W.Frag)(n:Nat)(t:TGs):TG:=fun v σ H Q=> ∃a xs,v=.ref a/\SqT K H a xs/\xs.length=n/\t xs σ H Q
theorem cQ {es:List Expr}{k:Nat}{t:TGs}{n:Nat}(hc:X.calm=true)(h:PGs X es t)
  (hn:(assignEach es X.env).length=n:=by rfl)(hst:(assignEach es X.env).findIdx? (·.1)=none:=by rfl):PG X (.Tuple es k pos) (gTup X.K n t):=by
 intro pins s σ H v u Q I r hw
 obtain⟨a,xs,e1,hq,hl,hw⟩:=hw
 subst e1
 cases r
 obtain⟨its,rv,ht,hz⟩:=I.tuple hq
 refine assign_Tuple_tuple (I.ok.hd hc) ht (by simp [hn,<-hl,rv.length]) hst fun h' hx=>?_
 have I1:Inv X pins σ H {s with heap:=h'}:=I.kept (t':=s.toks) fun b o e=>hx b o (Nat.ne_of_lt (Heap.lt_size e)) e
 exact h pins _ σ H xs _ Q I1 (by simpa using rv) hw
def gSub (to ti:TE)(t:TSet):TG:=fun v σ H Q=>to σ H fun o H1=>ti σ H1 fun i H2=>t o i v H2 fun H3=>Q σ H3
theorem pO {o i:Expr}{to ti:TE}{t:TSet}(ho:PE X o to)(hi:PE X i ti)(hs:PSet X t)
  (ha: ∀v,assign (.Subscript o i pos) X.env v=(do
   let ov<-holding [v] (eval o X.env)
   let iv<-holding [v,ov] (eval i X.env)
   standAt pos
   holding [v,ov,iv] (setItem ov iv v)
   release [v,ov,iv] []):=by intro _;rfl):PG X (.Subscript o i pos) (gSub to ti t):=by
 intro pins s σ H v u Q I r h
 rw[ha]
 refine wpAny_bind (wpAny_holding (thn (ho pins s σ H _ I h) fun ov s1 qz=>?_))
 obtain⟨x,H1,I1,r1,q1⟩:=qz
 refine wpAny_bind (wpAny_holding (thn (hi pins s1 σ H1 _ I1 q1) fun iv s2 qz=>?_))
 obtain⟨y,H2,I2,r2,q2⟩:=qz
 refine wpAny_bind (wpAny_standAt (wpAny_bind (wpAny_holding (thn (hs pins s2 σ H2 x y v ov iv u _ I2 r1 r2 r q2) fun _ s3 qz=>?_))))
 obtain⟨H3,I3,q3⟩:=qz
 exact wpAny_release ⟨σ,H3,I3,q3⟩
def tAsg (te:TE)(g:TG):TS:=fun D σ H=>te σ H fun x H1=>g x σ H1 D.nx
theorem pK {tg e:Expr}{te:TE}{g:TG}(he:PE X e te)(hg:PG X tg g)(hs:swapsWithSole [tg] e pos.line X.env=pure false:=by rfl)(hw:swappedStores [tg] e X.env=pure none:=by rfl)
  (h1:(assignEach [tg] X.env).map (·.2)=[assign tg X.env]:=by rfl):PS X (.Assign [tg] e pos) (tAsg te g):=by
 intro pins s σ H D I h
 refine wpAny_Assign_stores (thn (he pins s σ H _ I h) fun v s1 qz=>?_) hs hw
 obtain⟨x,H1,I1,r1,q1⟩:=qz
 rw[h1]
 exact thn (hg pins s1 σ H1 x v _ I1 r1 q1) fun _ s2 q=>q
theorem uz {i:Nat}{x:Str}{e:Expr}{te:TE}{pos':Pos}(hN:X.N.Nodup)(hi:X.N[i]?=some x)(hx:Loc X.env.scope x)(he:PE X e te)(hs:swapsWith e (some (.Name x pos')) pos.line X.env=pure false:=by rfl)(hf:X.fn x=true\/X.env.scope.names.lookup x=some .local :=by first|exact .inl rfl|exact .inr rfl|assumption):
  PS X (.Assign [.Name x pos'] e pos) (tAsg te (gName i)):=by
 intro pins s σ H D I h
 refine wpAny_Assign_Name (thn (he pins s σ H _ I h) fun v s1 qz=>?_) hs
 obtain⟨y,H1,I1,r1,q1⟩:=qz
 exact kI I1 hN hi hx r1 (fun s2 I2=>⟨_,H1,I2,q1⟩) hf
end
section
variable {X:Cx}{pos:Pos}
end
structure It where
 go:Nat->Hp->Prop
 yld:Nat->Hp->V->Hp->Prop
 stop:Nat->Hp->Prop
def FpOk (X:Cx)(pins:List (Addr×Obj))(H:Hp)(b:Addr):Prop:=
 H b=none/\b≠X.env.locals/\b ∉ X.fs/\(b∈X.ex\/X.s₀.heap.objs.size<=b)/\(∀x c,X.env.cells.lookup x=some c->c≠b)/\ ∀p∈X.pn++pins,p.1≠b
theorem Inv.fpOk {X:Cx}{pins:List (Addr×Obj)}{σ:St}{H H':Hp}{s:Shared}{b:Addr}(I:Inv X pins σ H s)(hb:s.heap.objs.size<=b)(hn:H' b=none):FpOk X pins H' b:=by
 refine⟨hn,Nat.ne_of_gt (Nat.lt_of_lt_of_le I.lt hb),I.nofs hb,.inr (Nat.le_trans I.sz hb),fun x c e z=>?_,fun p hp z=>?_⟩
 ·obtain⟨v,q⟩:=I.cell x c e
  exact absurd (Nat.lt_of_lt_of_le q.lt (by rw[z];exact hb)) (Nat.lt_irrefl _)
 ·exact absurd (Nat.lt_of_lt_of_le (Heap.lt_size (I.pin p hp).1) (by rw[z];exact hb)) (Nat.lt_irrefl _)
structure Turn (P:Program)(w:World)(K:PySem.W.Frag)(tg:Expr)(J:It)(fp:List Addr)(it:Addr)(tn:Nat->Heap->Prop):Prop where
 mem:it∈fp
 obj: ∀i h,tn i h-> ∀b∈fp,∃o,h.get? b=some o/\ ∀v,o.data≠.cell v
 keep: ∀i h h',tn i h->(∀b∈fp,∀o,h.get? b=some o->h'.get? b=some o)->tn i h'
 item: ∀ (X:Cx),X.prog=P->X.w=w->X.K=K->X.calm=true-> ∀ (i:Nat) (pins:List (Addr×Obj)) (s:Shared) (σ:St) (H:Hp) (E:Value->Shared->Prop),Inv X pins σ H s->(∀b∈fp,FpOk X pins H b)->tn i s.heap->J.go i H->
  wpAny (model P w) X.A (pyNext (.ref it)) (fun r s1=> ∃u,r=some u/\
   wpAny (model P w) X.A (letOwnedTupleGo tg (.ref it) u) (fun _ s2=> ∃x H',Inv X pins σ H' s2/\RelV x u/\J.yld i H x H'/\tn (i+1) s2.heap/\ ∀b∈fp,H' b=none) E s1) E s
 done: ∀ (X:Cx),X.prog=P->X.w=w->X.K=K->X.calm=true-> ∀ (i:Nat) (pins:List (Addr×Obj)) (s:Shared) (σ:St) (H:Hp) (E:Value->Shared->Prop),Inv X pins σ H s->(∀b∈fp,FpOk X pins H b)->tn i s.heap->J.stop i H->
  wpAny (model P w) X.A (pyNext (.ref it)) (fun r s1=>r=none/\Inv X pins σ H s1) E s
 self: ∀ (A:Around) (i:Nat) (s:Shared) (Q:Value->Shared->Prop) (E:Value->Shared->Prop),tn i s.heap->Q (.ref it) s->wpAny (model P w) A (pyIter (.ref it)) Q E s
noncomputable abbrev TI:=St->Hp->(It->Hp->Prop)->Prop
def PIE (X:Cx)(pins:List (Addr×Obj))(σ:St)(tg:Expr)(R:It->Hp->Prop)(itv:Value)(s2:Shared):Prop:=
 ∃ (it:Addr) (fp:List Addr) (tn:Nat->Heap->Prop) (J:It) (H':Hp),itv=.ref it/\Inv X pins σ H' s2/\Turn X.prog X.w X.K tg J fp it tn/\tn 0 s2.heap/\(∀b∈fp,FpOk X pins H' b)/\R J H'
def PI (X:Cx)(tg iter:Expr)(wi:TI):Prop:=
 ∀ (pins:List (Addr×Obj)) (s:Shared) (σ:St) (H:Hp) (R:It->Hp->Prop),Inv X pins σ H s->wi σ H R->
   wpAny (model X.prog X.w) X.A (eval iter X.env) (fun v s1=>wpAny (model X.prog X.w) X.A (pyIter v) (PIE X pins σ tg R) X.xe s1) X.xe s
theorem nH {M:Model}{A:Around}{E:Value->Shared->Prop}{s:Shared}{tg:Expr}{it:Addr}{u:Value}{o:Obj}{n:String}{vs:Array Value}{Q:Unit->Shared->Prop}(ho:s.heap.get? it=some o)(hc:o.cls=.type n)(hd:o.data=.fields vs)
  (hn:["enumerate", "zip", "dict_itemiterator", "dict_reverseitemiterator", "odict_iterator", "itertools.zip_longest", "itertools.pairwise"].contains n=false)(hQ:Q () s):wpAny M A (letOwnedTupleGo tg (.ref it) u) Q E s:=by
 unfold letOwnedTupleGo
 cases tg<;>first
  |exact wpAny_pure hQ
  |(cases u<;>first
   |exact wpAny_pure hQ
   |(refine wpAny_bind (wpAny_load ho ?_)
     rw[hc,hd]
     show wpAny M A (if (["enumerate", "zip", "dict_itemiterator", "dict_reverseitemiterator", "odict_iterator", "itertools.zip_longest", "itertools.pairwise"].contains n && vs[0]?==some (rawInt _))=true then _ else _) Q E s
     rw[if_neg (by intro h;rw[hn,Bool.false_and] at h;cases h)]
     exact wpAny_pure hQ))
def Itl (K:PySem.W.Frag)(a:Addr):It:=
 ⟨fun i H=> ∃xs x,SqL K H a xs/\xs[i]?=some x,fun i H x H'=>H'=H/\ ∀xs,SqL K H a xs->xs[i]?=some x,fun i H=> ∃xs,SqL K H a xs/\xs.length<=i⟩
def Itt (K:PySem.W.Frag)(a:Addr):It:=
 ⟨fun i H=> ∃xs x,SqT K H a xs/\xs[i]?=some x,fun i H x H'=>H'=H/\ ∀xs,SqT K H a xs->xs[i]?=some x,fun i H=> ∃xs,SqT K H a xs/\xs.length<=i⟩
noncomputable def Itr (lo:Int)(n:Nat):It:=⟨fun i _=>i<n,fun i H x H'=>H'=H/\x=.int (lo+i),fun i _=>n<=i⟩
theorem nX {P:Program}{w:World}{K:PySem.W.Frag}{tg:Expr}(a it:Addr):Turn P w K tg (Itl K a) [it] it (fun i h=>h.IsListIter it a i) where
 mem:=by simp
 obj:=fun i h st b hb=>by
  have e:b=it:=by simpa using hb
  subst e
  obtain⟨o,e,c,d⟩:=st
  exact⟨o,e,fun v z=>by rw[d] at z;cases z⟩
 keep:=fun i h h' st k=>st.at fun o e=>k it (by simp) o e
 item:=by
  intro X hP hw hK hc i pins s σ H E I hf st hg
  subst hP hw hK
  obtain⟨xs,x,hq,hx⟩:=hg
  obtain⟨its,rv,p,hz⟩:=I.list hq
  obtain⟨u,hu,ru⟩:=rv.get hx
  obtain⟨f0,f1,f2,f3,f4,f5⟩:=hf it (by simp)
  refine wpAny_pyNext_list_item st p.isList (x:=u) (by simpa using hu) fun h' st' sb=>?_
  have I1:Inv X pins σ H {s with heap:=h'}:=I.turned (t':=s.toks) (fun b o hb e=>(sb.2 b hb).trans e) f0 f1 f3 f4 f5
  obtain⟨o,e,c,d⟩:=id st'
  exact⟨u,rfl,nH (s:={s with heap:=h'}) e c d (by decide) ⟨x,H,I1,ru,⟨rfl,fun ys hy=>by rw[I.list_inj hy hq];exact hx⟩,st',fun b hb=>(hf b hb).1⟩⟩
 done:=by
  intro X hP hw hK hc i pins s σ H E I hf st hg
  subst hP hw hK
  obtain⟨xs,hq,hx⟩:=hg
  obtain⟨its,rv,p,hz⟩:=I.list hq
  obtain⟨f0,f1,f2,f3,f4,f5⟩:=hf it (by simp)
  have hl:=rv.length
  exact wpAny_pyNext_list_end (I.ok.hd hc) st p.isList (by simp;omega) fun h' eb=>⟨rfl,I.turned (t':=s.toks) (fun b o hb e=>eb b o hb e) f0 f1 f3 f4 f5⟩
 self:=fun _ _ _ _ _ st h=>wpAny_pyIter_listiter st h
theorem lZ {P:Program}{w:World}{K:PySem.W.Frag}{tg:Expr}(a it:Addr):Turn P w K tg (Itt K a) [it] it (fun i h=>h.IsTupleIter it a i) where
 mem:=by simp
 obj:=fun i h st b hb=>by
  have e:b=it:=by simpa using hb
  subst e
  obtain⟨o,e,c,d⟩:=st
  exact⟨o,e,fun v z=>by rw[d] at z;cases z⟩
 keep:=fun i h h' st k=>st.at fun o e=>k it (by simp) o e
 item:=by
  intro X hP hw hK hc i pins s σ H E I hf st hg
  subst hP hw hK
  obtain⟨xs,x,hq,hx⟩:=hg
  obtain⟨its,rv,p,hz⟩:=I.tuple hq
  obtain⟨u,hu,ru⟩:=rv.get hx
  obtain⟨f0,f1,f2,f3,f4,f5⟩:=hf it (by simp)
  refine wpAny_pyNext_tuple_item st (show s.heap.IsTuple a its.toArray from p) (x:=u) (by simpa using hu) fun h' st' sb=>?_
  have I1:Inv X pins σ H {s with heap:=h'}:=I.turned (t':=s.toks) (fun b o hb e=>(sb.2 b hb).trans e) f0 f1 f3 f4 f5
  obtain⟨o,e,c,d⟩:=id st'
  exact⟨u,rfl,nH (s:={s with heap:=h'}) e c d (by decide) ⟨x,H,I1,ru,⟨rfl,fun ys hy=>by rw[I.tuple_inj hy hq];exact hx⟩,st',fun b hb=>(hf b hb).1⟩⟩
 done:=by
  intro X hP hw hK hc i pins s σ H E I hf st hg
  subst hP hw hK
  obtain⟨xs,hq,hx⟩:=hg
  obtain⟨its,rv,p,hz⟩:=I.tuple hq
  obtain⟨f0,f1,f2,f3,f4,f5⟩:=hf it (by simp)
  have hl:=rv.length
  exact wpAny_pyNext_tuple_end (I.ok.hd hc) st (show s.heap.IsTuple a its.toArray from p) (by simp;omega) fun h' eb=>⟨rfl,I.turned (t':=s.toks) (fun b o hb e=>eb b o hb e) f0 f1 f3 f4 f5⟩
 self:=fun _ _ _ _ _ st h=>wpAny_pyIter_tupleiter st h
theorem ma {P:Program}{w:World}{K:PySem.W.Frag}{tg:Expr}(it:Addr)(lo:Int)(n:Nat):Turn P w K tg (Itr lo n) [it] it (fun i h=>IsRangeIter h it (lo+(i:Nat) * 1) ((n:Int) - (i:Nat)) 1) where
 mem:=by simp
 obj:=fun i h st b hb=>by
  have e:b=it:=by simpa using hb
  subst e
  exact⟨_,st,fun v z=>by
   have z':Data.fields _=Data.cell v:=z
   cases z'⟩
 keep:=fun i h h' st k=>k it (by simp) _ st
 item:=by
  intro X hP hw hK hc i pins s σ H E I hf st hg
  subst hP hw hK
  obtain⟨f0,f1,f2,f3,f4,f5⟩:=hf it (by simp)
  have W:=Walks.range (prog:=X.prog) (w:=X.w) (I.ok.hd hc) it lo 1 n
  refine W.item i s _ _ hg st fun v h' tk hv st' kk=>?_
  obtain⟨t,rfl⟩:=hv
  have I1:Inv X pins σ H {s with heap:=h',toks:=tk}:=I.turned (fun b o hb e=>kk b o (by simpa using hb) e) f0 f1 f3 f4 f5
  refine⟨_,rfl,nH (s:={s with heap:=h',toks:=tk}) (n:= "range_iterator") st' rfl rfl (by decide) ⟨.int (lo+i),H,I1,⟨t,?_⟩,⟨rfl,rfl⟩,st',fun b hb=>(hf b hb).1⟩⟩
  rw[Int.mul_one]
 done:=by
  intro X hP hw hK hc i pins s σ H E I hf st hg
  subst hP hw hK
  obtain⟨f0,f1,f2,f3,f4,f5⟩:=hf it (by simp)
  exact wpAny_pyNext_range_end (I.ok.hd hc) st (by have:n<=i:=hg;omega) fun h' eb=>⟨rfl,I.turned (t':=s.toks) (fun b o hb e=>eb b o hb e) f0 f1 f3 f4 f5⟩
 self:=fun _ _ _ _ _ st h=>wpAny_pyIter_rangeiter st h
end L2
namespace L2
open PySem PySem.Spec PyProof.Rows
section
variable {X:Cx}{tg:Expr}
def iList (K:PySem.W.Frag)(tl:TE):TI:=fun σ H R=>tl σ H fun x H1=> ∃a,x=.ref a/\(∃xs,SqL K H1 a xs)/\R (Itl K a) H1
def iTup (K:PySem.W.Frag)(tl:TE):TI:=fun σ H R=>tl σ H fun x H1=> ∃a,x=.ref a/\(∃xs,SqT K H1 a xs)/\R (Itt K a) H1
theorem sf {l:Expr}{tl:TE}(hl:PE X l tl):PI X tg l (iList X.K tl):=by
 intro pins s σ H R I h
 refine thn (hl pins s σ H _ I h) fun v s1 qz=>?_
 obtain⟨x,H1,I1,r1,q1⟩:=qz
 obtain⟨a,e,⟨xs,hq⟩,q⟩:=q1
 subst e
 cases r1
 obtain⟨its,rv,p,hz⟩:=I1.list hq
 refine wpAny_pyIter_list p.isList ?_
 refine⟨s1.heap.objs.size,[s1.heap.objs.size],_,_,H1,rfl,I1.kept (t':=s1.toks) fun b o e=>Heap.get?_push_of_some _ e,nX a _,⟨_,Heap.get?_push_size _ rfl,rfl,rfl⟩,fun b hb=>?_,q⟩
 have e:b=s1.heap.objs.size:=by simpa using hb
 subst e
 exact I1.fpOk (Nat.le_refl _) (I1.hok.fresh (Nat.le_refl _))
theorem uD {l:Expr}{tl:TE}(hl:PE X l tl):PI X tg l (iTup X.K tl):=by
 intro pins s σ H R I h
 refine thn (hl pins s σ H _ I h) fun v s1 qz=>?_
 obtain⟨x,H1,I1,r1,q1⟩:=qz
 obtain⟨a,e,⟨xs,hq⟩,q⟩:=q1
 subst e
 cases r1
 obtain⟨its,rv,p,hz⟩:=I1.tuple hq
 refine wpAny_pyIter_tuple (show s1.heap.IsTuple a its.toArray from p) ?_
 refine⟨s1.heap.objs.size,[s1.heap.objs.size],_,_,H1,rfl,I1.kept (t':=s1.toks) fun b o e=>Heap.get?_push_of_some _ e,lZ a _,⟨_,Heap.get?_push_size _ rfl,rfl,rfl⟩,fun b hb=>?_,q⟩
 have e:b=s1.heap.objs.size:=by simpa using hb
 subst e
 exact I1.fpOk (Nat.le_refl _) (I1.hok.fresh (Nat.le_refl _))
theorem kT {pins:List (Addr×Obj)}{σ:St}{H:Hp}{s:Shared}{R:It->Hp->Prop}{E:Value->Shared->Prop}{lo hi:Int}{t u v:Tok}{tk:Nat}(I:Inv X pins σ H s)(h1: -(2 ^ 62)<=lo)(h2:lo<2 ^ 62)(h3: -(2 ^ 62)<=hi)(h4:hi<2 ^ 62)
  (q:R (Itr lo (hi - lo).toNat) H):wpAny (model X.prog X.w) X.A (pyIter (.ref s.heap.objs.size)) (PIE X pins σ tg R) E {s with heap:=s.heap.push {cls:=.type "range",data:=.fields #[.int lo t,.int hi u,.int 1 v]},toks:=tk}:=by
 refine wpAny_pyIter_range (IsRange.new ..) (small_one h1 h2 h3 h4) ?_
 have I1:Inv X pins σ H {s with heap:=s.heap.push {cls:=.type "range",data:=.fields #[.int lo t,.int hi u,.int 1 v]},toks:=tk}:=I.kept fun b o e=>Heap.get?_push_of_some _ e
 refine⟨(s.heap.push {cls:=.type "range",data:=.fields #[.int lo t,.int hi u,.int 1 v]}).objs.size,[(s.heap.push {cls:=.type "range",data:=.fields #[.int lo t,.int hi u,.int 1 v]}).objs.size],_,_,H,rfl,
  I1.kept (t':=tk) fun b o e=>Heap.get?_push_of_some _ e,ma _ lo (hi - lo).toNat,?_,fun b hb=>?_,q⟩
 ·have e1:lo+((0:Nat):Int) * 1=lo:=by simp
  have e2:(((hi - lo).toNat:Nat):Int) - ((0:Nat):Int)=Builtin.Range.rangeSize lo hi 1:=by rw[rangeSize_one];split<;>omega
  show IsRangeIter _ _ (lo+((0:Nat):Int) * 1) ((((hi - lo).toNat:Nat):Int) - ((0:Nat):Int)) 1
  rw[e1,e2]
  exact Heap.get?_push_size _ rfl
 ·have e:b=(s.heap.push {cls:=.type "range",data:=.fields #[.int lo t,.int hi u,.int 1 v]}).objs.size:=by simpa using hb
  subst e
  exact I1.fpOk (Nat.le_refl _) (I1.hok.fresh (Nat.le_refl _))
def iRng1 (ta:TA):TI:=fun σ H R=>ta σ H fun vs H1=> ∃j:Int,vs=[.int j]/\ -(2 ^ 62)<=j/\j<2 ^ 62/\R (Itr 0 j.toNat) H1
def iRng2 (ta:TA):TI:=fun σ H R=>ta σ H fun vs H1=> ∃i j:Int,vs=[.int i,.int j]/\(-(2 ^ 62)<=i/\i<2 ^ 62/\ -(2 ^ 62)<=j/\j<2 ^ 62)/\R (Itr i (j - i).toNat) H1
theorem oo {a:Expr}{ta:TA}{p pos:Pos}(hg:Gl X "range")(hm:X.mg "range"=none)(ha:PA X [a] ta)(hs:starEach [a] X.env=[(false,eval a X.env)]:=by rfl):PI X tg (.Call (.Name "range" p) [a] [] pos) (iRng1 ta):=by
 intro pins s σ H R I h
 refine Call_ (dc I hg hm boot_range (PyProof.Rows.callWith_type1 (thn (ha pos pins s σ H _ I h) fun us s1 qz=>?_) hs rfl))
 obtain⟨vs,H1,I1,r1,q1⟩:=qz
 obtain⟨j,e,q1,q2,q⟩:=q1
 subst e
 cases r1 with
 |cons r rr=>
  cases rr
  obtain⟨t,rfl⟩:=r
  exact call_range_1 (kT I1 (by omega) (by omega) q1 q2 (by simpa using q))
theorem on {a b:Expr}{ta:TA}{p pos:Pos}(hg:Gl X "range")(hm:X.mg "range"=none)(ha:PA X [a,b] ta)(hs:starEach [a,b] X.env=[(false,eval a X.env),(false,eval b X.env)]:=by rfl)(hs2:starEach [b] X.env=[(false,eval b X.env)]:=by rfl):
  PI X tg (.Call (.Name "range" p) [a,b] [] pos) (iRng2 ta):=by
 intro pins s σ H R I h
 refine Call_ (dc I hg hm boot_range (PyProof.Rows.callWith_type1 (thn (ha pos pins s σ H _ I h) fun us s1 qz=>?_) (by rw[hs,hs2]) (by rw[hs2];rfl)))
 obtain⟨vs,H1,I1,r1,q1⟩:=qz
 obtain⟨i,j,e,⟨q1,q2,q3,q4⟩,q⟩:=q1
 subst e
 cases r1 with
 |cons r rr=>
  cases rr with
  |cons r' rr=>
   cases rr
   obtain⟨t,rfl⟩:=r
   obtain⟨t',rfl⟩:=r'
   exact call_range_2 (kT I1 q1 q2 q3 q4 q)
def tFor (wi:TI)(g:TG)(tb:TS):TS:=fun D σ H=>wi σ H fun J H1=> ∃W:Nat->Nat->St->Hp->Prop,(∃m,W 0 m σ H1)/\ ∀i m σ H,W i m σ H->
 (J.stop i H/\D.nx σ H)\/(J.go i H/\ ∃N:St->Hp->Prop,(∀σ' H',N σ' H'-> ∃m',m'<m/\W (i+1) m' σ' H')/\ ∀x H',J.yld i H x H'->g x σ H' fun σ2 H2=>tb {D with nx:=N,ct:=N,bk:=D.nx} σ2 H2)
noncomputable def iE (fp:List Addr)(h:Heap):List (Addr×Obj):=fp.filterMap fun b=>(h.get? b).map fun o=>(b,o)
theorem fT {fp:List Addr}{h:Heap}{b:Addr}{o:Obj}(hb:b∈fp)(e:h.get? b=some o):(b,o)∈iE fp h:=List.mem_filterMap.mpr ⟨b,hb,by rw[e];rfl⟩
theorem oq {fp:List Addr}{h:Heap}{p:Addr×Obj}(hp:p∈iE fp h):p.1∈fp/\h.get? p.1=some p.2:=by
 obtain⟨b,hb,e⟩:=List.mem_filterMap.mp hp
 cases q:h.get? b with
 |none=>rw[q] at e;cases e
 |some o=>
  rw[q] at e
  have e':(b,o)=p:=Option.some.inj e
  subst e'
  exact⟨hb,q⟩
theorem Inv.pinned {pins:List (Addr×Obj)}{σ:St}{H:Hp}{s:Shared}{fp:List Addr}(I:Inv X pins σ H s)(hf: ∀b∈fp,FpOk X pins H b)(ho: ∀b∈fp,∃o,s.heap.get? b=some o/\ ∀v,o.data≠.cell v):Inv X (pins++iE fp s.heap) σ H s:=
 I.pins_of fun p hp=>(List.mem_append.mp hp).elim (fun z=>I.pin p (List.mem_append_right _ z)) fun z=>by
  obtain⟨hb,e⟩:=oq z
  obtain⟨f0,f1,f2,_⟩:=hf p.1 hb
  obtain⟨o,e',d⟩:=ho p.1 hb
  rw[e] at e';cases e'
  exact⟨e,f0,f1,f2,d⟩
theorem Inv.unpinned {pins pl:List (Addr×Obj)}{σ:St}{H:Hp}{s:Shared}(I:Inv X (pins++pl) σ H s):Inv X pins σ H s:=I.pins_of fun p hp=>I.pin p (List.mem_append_right _ (List.mem_append_left _ hp))
theorem uB {iter:Expr}{body:List Stmt}{wi:TI}{g:TG}{tb:TS}{pos:Pos}(hp:PassesOwn (model X.prog X.w) X.A X.env X.xe)(hc:X.calm=true)(hi:PI X tg iter wi)(hg:PG X tg g)(hb:PSs X body tb)
  (hs: ∀x,foldedSetIterable iter X.env x=pure x:=by intro _;rfl):PS X (.For tg iter body [] pos) (tFor wi g tb):=by
 intro pins s σ H D I h
 refine wpAny_For (thn (hi pins s σ H _ I h) fun v s1 h1=>thn h1 fun itv s2 h2=>?_) hs
 obtain⟨it,fp,tn,J,H2,e,I2,T,st2,f2,W,⟨m0,w0⟩,turn⟩:=h2
 subst e
 have stat: ∀ {H':Hp},(∀b∈fp,H' b=none)-> ∀b∈fp,FpOk X pins H' b:=fun hn b hb=>⟨hn b hb,(f2 b hb).2⟩
 refine codeAny_forLoop_any (fun n s'=> ∃i σ' H',Inv X pins σ' H' s'/\tn i s'.heap/\(∀b∈fp,H' b=none)/\W i n σ' H') ?_ m0 ⟨0,σ,H2,I2,st2,fun b hb=>(f2 b hb).1,w0⟩
 rintro n s3 ⟨i,σ3,H3,I3,st3,fr3,w3⟩
 rcases turn i n σ3 H3 w3 with⟨stop,qn⟩|⟨go,N,hN,step⟩
 ·refine wpAny_passesOwn hp (thn (T.done X rfl rfl rfl hc i pins s3 σ3 H3 X.xe I3 (stat fr3) st3 stop) fun r s4 qz=>?_)
  obtain⟨hr,I4⟩:=qz
  subst hr
  exact wpAny_execs_nil ⟨σ3,H3,I4,qn⟩
 ·refine wpAny_passesOwn hp (thn (T.item X rfl rfl rfl hc i pins s3 σ3 H3 X.xe I3 (stat fr3) st3 go) fun r s4 qz=>?_)
  obtain⟨u,hr,h4⟩:=qz
  subst hr
  refine wpAny_passesOwn hp (thn h4 fun _ s5 qz=>?_)
  obtain⟨x,H5,I5,r5,y5,st5,fr5⟩:=qz
  have I5':=I5.pinned (stat fr5) (T.obj _ _ st5)
  refine wpAny_passesOwn hp (thn (hg _ s5 σ3 H5 x u _ I5' r5 (step x H5 y5)) fun _ s6 qz=>?_)
  obtain⟨σ6,H6,I6,q6⟩:=qz
  refine wpAny_passesOwn hp (thn (hb _ s6 σ6 H6 _ I6 q6) fun f s7 q7=>?_)
  have again: ∀ {σ7:St}{H7:Hp},Inv X (pins++iE fp s5.heap) σ7 H7 s7->N σ7 H7-> ∃m,m<n/\ ∃i σ' H',Inv X pins σ' H' s7/\tn i s7.heap/\(∀b∈fp,H' b=none)/\W i m σ' H':=fun{σ7 H7} I7 n7=>by
   obtain⟨m',hm,w7⟩:=hN σ7 H7 n7
   refine⟨m',hm,i+1,σ7,H7,I7.unpinned,T.keep _ _ _ st5 fun b hb o e=>(I7.pin (b,o) (List.mem_append_right _ (List.mem_append_right _ (fT hb e)))).1,fun b hb=>?_,w7⟩
   obtain⟨o,e,d⟩:=T.obj _ _ st5 b hb
   exact (I7.pin (b,o) (List.mem_append_right _ (List.mem_append_right _ (fT hb e)))).2.1
  cases f with
  |next=>obtain⟨σ7,H7,I7,n7⟩:=q7;exact again I7 n7
  |cont=>obtain⟨σ7,H7,I7,n7⟩:=q7;exact again I7 n7
  |brk=>obtain⟨σ7,H7,I7,q7⟩:=q7;exact⟨σ7,H7,I7.unpinned,q7⟩
  |ret v=>obtain⟨x7,σ7,H7,I7,r7,q7⟩:=q7;exact⟨x7,σ7,H7,I7.unpinned,r7,q7⟩
end
end L2
namespace L2
open PySem PySem.Spec PyProof.Rows
noncomputable abbrev R2:=V->V->Hp->VK->Prop
def OpR (X:Cx)(f:Value->Value->Sem Value)(r:R2):Prop:=
 ∀ (pins:List (Addr×Obj)) (s:Shared) (σ:St) (H:Hp) (x y:V) (v u:Value) (Q:VK),Inv X pins σ H s->RelV x v->RelV y u->r x y H Q->
   wpAny (model X.prog X.w) X.A (f v u) (EP X pins σ Q) X.xe s
def UnR (X:Cx)(f:Value->Sem Value)(r:V->Hp->VK->Prop):Prop:=
 ∀ (pins:List (Addr×Obj)) (s:Shared) (σ:St) (H:Hp) (x:V) (v:Value) (Q:VK),Inv X pins σ H s->RelV x v->r x H Q->
   wpAny (model X.prog X.w) X.A (f v) (EP X pins σ Q) X.xe s
def CallR (X:Cx)(f:Value)(r:List V->Hp->VK->Prop):Prop:=
 ∀ (pins:List (Addr×Obj)) (s:Shared) (σ:St) (H:Hp) (xs:List V) (us:List Value) (Q:VK),Inv X pins σ H s->Vals xs us->r xs H Q->
   wpAny (model X.prog X.w) X.A (call f us) (EP X pins σ Q) X.xe s
def tOp (r:R2)(ta tb:TE):TE:=fun σ H Q=>ta σ H fun x H1=>tb σ H1 fun y H2=>r x y H2 Q
def tUn (r:V->Hp->VK->Prop)(ta:TE):TE:=fun σ H Q=>ta σ H fun x H1=>r x H1 Q
def rI (C:Int->Int->Prop)(g:Int->Int->V):R2:=fun x y H Q=> ∃i j,x=.int i/\y=.int j/\C i j/\Q (g i j) H
def rI0 (g:Int->Int->V):R2:=fun x y H Q=> ∃i j,x=.int i/\y=.int j/\Q (g i j) H
def rU (g:Int->V):V->Hp->VK->Prop:=fun x H Q=> ∃i,x=.int i/\Q (g i) H
section
variable {X:Cx}{a b c:Expr}{ta tb tc:TE}{pos:Pos}
theorem binT (ha:PE X a ta)(hb:PE X b tb){pins:List (Addr×Obj)}{s:Shared}{σ:St}{H:Hp}{R:V->V->Hp->Prop}(I:Inv X pins σ H s)
  (h:ta σ H fun x H1=>tb σ H1 fun y H2=>R x y H2){Q:Value->Shared->Prop}{f:Value->Value->Sem Value}
  (hf: ∀v u s2 x y H2,Inv X pins σ H2 s2->RelV x v->RelV y u->R x y H2->wpAny (model X.prog X.w) X.A (f v u) Q X.xe s2):
  wpAny (model X.prog X.w) X.A (eval a X.env) (fun v s₁=>wpAny (model X.prog X.w) X.A (eval b X.env) (fun u s₂=>wpAny (model X.prog X.w) X.A (f v u) Q X.xe s₂) X.xe s₁) X.xe s:=by
 refine thn (ha pins s σ H _ I h) fun v s1 qz=>?_
 obtain⟨x,H1,I1,r1,q1⟩:=qz
 refine thn (hb pins s1 σ H1 _ I1 q1) fun u s2 qz=>?_
 obtain⟨y,H2,I2,r2,q2⟩:=qz
 exact hf v u s2 x y H2 I2 r1 r2 q2
theorem v6 {op:Operator}{r:R2}(ho:OpR X (binaryOp op) r)(ha:PE X a ta)(hb:PE X b tb):PE X (.BinOp a op b pos) (tOp r ta tb):=by
 intro pins s σ H Q I h
 exact wpAny_BinOp (binT ha hb I h fun v u s2 x y H2 I2 rx ry q=>ho pins s2 σ H2 x y v u Q I2 rx ry q)
theorem v5 {op:UnaryOp}{r:V->Hp->VK->Prop}(ho:UnR X (unaryOp op) r)(ha:PE X a ta):PE X (.UnaryOp op a pos) (tUn r ta):=by
 intro pins s σ H Q I h
 exact UnaryOp_ (thn (ha pins s σ H _ I h) fun v s1 ⟨x,H1,I1,r1,q1⟩=>ho pins s1 σ H1 x v Q I1 r1 q1)
theorem opI {f:Value->Value->Sem Value}{C:Int->Int->Prop}{g:Int->Int->Int}
  (rule: ∀ (i j:Int) (t u:Tok) (s:Shared) (Q:Value->Shared->Prop) (E:Value->Shared->Prop),C i j->Q (.int (g i j) s.toks) {s with toks:=s.toks+1}->wpAny (model X.prog X.w) X.A (f (.int i t) (.int j u)) Q E s):
  OpR X f (rI C fun i j=>.int (g i j)):=by
 intro pins s σ H x y v u Q I rx ry h
 obtain⟨i,j,rfl,rfl,hc,q⟩:=h
 obtain⟨t,rfl⟩:=rx
 obtain⟨t',rfl⟩:=ry
 exact rule i j t t' s _ _ hc ⟨.int (g i j),H,I.tok _,⟨_,rfl⟩,q⟩
theorem opI0 {f:Value->Value->Sem Value}{g:Int->Int->Int}
  (rule: ∀ (i j:Int) (t u:Tok) (s:Shared) (Q:Value->Shared->Prop) (E:Value->Shared->Prop),Q (.int (g i j) s.toks) {s with toks:=s.toks+1}->wpAny (model X.prog X.w) X.A (f (.int i t) (.int j u)) Q E s):
  OpR X f (rI0 fun i j=>.int (g i j)):=by
 intro pins s σ H x y v u Q I rx ry h
 obtain⟨i,j,rfl,rfl,q⟩:=h
 obtain⟨t,rfl⟩:=rx
 obtain⟨t',rfl⟩:=ry
 exact rule i j t t' s _ _ ⟨.int (g i j),H,I.tok _,⟨_,rfl⟩,q⟩
theorem opB0 {f:Value->Value->Sem Value}{g:Int->Int->Bool}
  (rule: ∀ (i j:Int) (t u:Tok) (s:Shared) (Q:Value->Shared->Prop) (E:Value->Shared->Prop),Q (.bool (g i j)) s->wpAny (model X.prog X.w) X.A (f (.int i t) (.int j u)) Q E s):
  OpR X f (rI0 fun i j=>.bl (g i j)):=by
 intro pins s σ H x y v u Q I rx ry h
 obtain⟨i,j,rfl,rfl,q⟩:=h
 obtain⟨t,rfl⟩:=rx
 obtain⟨t',rfl⟩:=ry
 exact rule i j t t' s _ _ ⟨.bl (g i j),H,I,rfl,q⟩
noncomputable def CPow (i j:Int):Prop:=0<=j/\j<=1000000/\i.natAbs<2 ^ 64
noncomputable def CMul (i j:Int):Prop:=(-(2 ^ 64)<i/\i<2 ^ 64)\/(-(2 ^ 64)<j/\j<2 ^ 64)
theorem CMul.ok {i j:Int}(h:CMul i j):IntMulOk i j:=by
 rcases h with⟨h1,h2⟩|⟨h1,h2⟩
 ·exact .of_left (intBits_le_64 h1 h2)
 ·exact .of_right (intBits_le_64 h1 h2)
theorem op_add:OpR X (binaryOp .Add) (rI0 fun i j=>.int (i+j)):=opI0 fun _ _ _ _ _ _ _ q=>add_int q
theorem uM:OpR X (binaryOp .Sub) (rI0 fun i j=>.int (i - j)):=opI0 fun _ _ _ _ _ _ _ q=>sub_int q
theorem uQ:OpR X (binaryOp .Mod) (rI (fun _ j=>0<j) fun i j=>.int (i % j)):=opI fun i j _ _ _ _ _ hc q=>by
 have h1:(0:Int)<j:=hc
 exact mod_int' (by omega) (by rw[Int.fmod_eq_emod_of_nonneg i (by omega)];exact q)
theorem uO:OpR X (binaryOp .Pow) (rI CPow fun i j=>.int (i ^ j.toNat)):=opI fun _ _ _ _ _ _ _ hc q=>pow_int_small hc.1 hc.2.1 hc.2.2 q
theorem unI {f:Value->Sem Value}{g:Int->Int}
  (rule: ∀ (i:Int) (t:Tok) (s:Shared) (Q:Value->Shared->Prop) (E:Value->Shared->Prop),Q (.int (g i) s.toks) {s with toks:=s.toks+1}->wpAny (model X.prog X.w) X.A (f (.int i t)) Q E s):
  UnR X f (rU fun i=>.int (g i)):=by
 intro pins s σ H x v Q I rx h
 obtain⟨i,rfl,q⟩:=h
 obtain⟨t,rfl⟩:=rx
 exact rule i t s _ _ ⟨.int (g i),H,I.tok _,⟨_,rfl⟩,q⟩
theorem tZ:UnR X (unaryOp .USub) (rU fun i=>.int (-i)):=unI fun _ _ _ _ _ q=>neg_int q
end
noncomputable def scal:V->V->Bool
 |.non,.non=>true|.non,.int _=>true|.int _,.non=>true|.non,.bl _=>true|.bl _,.non=>true|.non,.str _=>true|.str _,.non=>true
 |.int _,.int _=>true|.bl _,.bl _=>true|.str _,.str _=>true|.byt _,.byt _=>true
 |.int _,.str _=>true|.str _,.int _=>true|.bl _,.str _=>true|.str _,.bl _=>true
 |_,_=>false
def rEq:R2:=fun x y H Q=>scal x y=true/\Q (.bl (decide (x=y))) H
def rNe:R2:=fun x y H Q=>scal x y=true/\Q (.bl (!decide (x=y))) H
theorem nN {i j:Int}:decide (V.int i=V.int j)=(i==j):=by
 rw[Bool.eq_iff_iff]
 simp
theorem rf {i j:Bool}:decide (V.bl i=V.bl j)=(i==j):=by
 rw[Bool.eq_iff_iff]
 simp
theorem nM {i j:Str}:decide (V.str i=V.str j)=(i==j):=by
 rw[Bool.eq_iff_iff]
 simp
theorem nO {i j:Array UInt8}:decide (V.byt i=V.byt j)=(i.toList==j.toList):=by
 rw[Bool.eq_iff_iff]
 cases i
 cases j
 simp
section
variable {X:Cx}{a b c:Expr}{ta tb tc:TE}{pos:Pos}
theorem aN {pins:List (Addr×Obj)}{σ:St}{H:Hp}{s:Shared}{Q:VK}{k k':Bool}(I:Inv X pins σ H s)(q:Q (.bl k) H)(e:k=k'):EP X pins σ Q (.bool k') s:=by
 subst e
 exact⟨.bl k,H,I,rfl,q⟩
theorem op_eq:OpR X (compareOp .Eq) rEq:=by
 intro pins s σ H x y v u Q I rx ry h
 obtain⟨hs,q⟩:=h
 cases x with
 |non=>
  cases rx
  cases y with
  |non=>cases ry;exact PySem.EqNone.eq_none_none (aN I q (by simp))
  |bl j=>cases ry;exact PySem.EqNone.eq_none_bool (aN I q (by simp))
  |int j=>obtain⟨t',rfl⟩:=ry;exact PySem.EqNone.eq_none_int (aN I q (by simp))
  |str j=>obtain⟨t',rfl⟩:=ry;exact PySem.EqNone.eq_none_str (aN I q (by simp))
  |_=>exact absurd (show false=true from hs) Bool.false_ne_true
 |bl i=>
  cases rx
  cases y with
  |non=>cases ry;exact PySem.EqNone.eq_bool_none (aN I q (by simp))
  |bl j=>cases ry;exact eq_bool (aN I q rf)
  |str j=>obtain⟨t',rfl⟩:=ry;exact PySem.EqMixed.eq_bool_str (aN I q (by simp))
  |_=>exact absurd (show false=true from hs) Bool.false_ne_true
 |int i=>
  obtain⟨t,rfl⟩:=rx
  cases y with
  |non=>cases ry;exact PySem.EqNone.eq_int_none (aN I q (by simp))
  |int j=>obtain⟨t',rfl⟩:=ry;exact eq_int (aN I q nN)
  |str j=>obtain⟨t',rfl⟩:=ry;exact PySem.EqMixed.eq_int_str (aN I q (by simp))
  |_=>exact absurd (show false=true from hs) Bool.false_ne_true
 |str i=>
  obtain⟨t,rfl⟩:=rx
  cases y with
  |non=>cases ry;exact PySem.EqNone.eq_str_none (aN I q (by simp))
  |bl j=>cases ry;exact PySem.EqMixed.eq_str_bool (aN I q (by simp))
  |int j=>obtain⟨t',rfl⟩:=ry;exact PySem.EqMixed.eq_str_int (aN I q (by simp))
  |str j=>obtain⟨t',rfl⟩:=ry;exact eq_str (aN I q nM)
  |_=>exact absurd (show false=true from hs) Bool.false_ne_true
 |byt i=>
  obtain⟨t,rfl⟩:=rx
  cases y with
  |byt j=>obtain⟨t',rfl⟩:=ry;exact PySem.W.eq_bytes (aN I q nO)
  |_=>exact absurd (show false=true from hs) Bool.false_ne_true
 |_=>cases y<;>exact absurd (show false=true from hs) Bool.false_ne_true
theorem op_ne:OpR X (compareOp .NotEq) rNe:=by
 intro pins s σ H x y v u Q I rx ry h
 obtain⟨hs,q⟩:=h
 cases x with
 |non=>
  cases rx
  cases y with
  |non=>cases ry;exact PySem.EqNone.ne_none_none (aN I q (by simp))
  |bl j=>cases ry;exact PySem.EqNone.ne_none_bool (aN I q (by simp))
  |int j=>obtain⟨t',rfl⟩:=ry;exact PySem.EqNone.ne_none_int (aN I q (by simp))
  |str j=>obtain⟨t',rfl⟩:=ry;exact PySem.EqNone.ne_none_str (aN I q (by simp))
  |_=>exact absurd (show false=true from hs) Bool.false_ne_true
 |bl i=>
  cases rx
  cases y with
  |non=>cases ry;exact PySem.EqNone.ne_bool_none (aN I q (by simp))
  |bl j=>cases ry;exact ne_bool (aN I q (congrArg not rf))
  |str j=>obtain⟨t',rfl⟩:=ry;exact PySem.EqMixed.ne_bool_str (aN I q (by simp))
  |_=>exact absurd (show false=true from hs) Bool.false_ne_true
 |int i=>
  obtain⟨t,rfl⟩:=rx
  cases y with
  |non=>cases ry;exact PySem.EqNone.ne_int_none (aN I q (by simp))
  |int j=>obtain⟨t',rfl⟩:=ry;exact ne_int (aN I q (congrArg not nN))
  |str j=>obtain⟨t',rfl⟩:=ry;exact PySem.EqMixed.ne_int_str (aN I q (by simp))
  |_=>exact absurd (show false=true from hs) Bool.false_ne_true
 |str i=>
  obtain⟨t,rfl⟩:=rx
  cases y with
  |non=>cases ry;exact PySem.EqNone.ne_str_none (aN I q (by simp))
  |bl j=>cases ry;exact PySem.EqMixed.ne_str_bool (aN I q (by simp))
  |int j=>obtain⟨t',rfl⟩:=ry;exact PySem.EqMixed.ne_str_int (aN I q (by simp))
  |str j=>obtain⟨t',rfl⟩:=ry;exact ne_str (aN I q (congrArg not nM))
  |_=>exact absurd (show false=true from hs) Bool.false_ne_true
 |byt i=>
  obtain⟨t,rfl⟩:=rx
  cases y with
  |byt j=>obtain⟨t',rfl⟩:=ry;exact PySem.W.ne_bytes (aN I q (congrArg not nO))
  |_=>exact absurd (show false=true from hs) Bool.false_ne_true
 |_=>cases y<;>exact absurd (show false=true from hs) Bool.false_ne_true
theorem v7:OpR X (compareOp .Lt) (rI0 fun i j=>.bl (decide (i<j))):=opB0 fun _ _ _ _ _ _ _ q=>lt_int q
theorem v8:OpR X (compareOp .GtE) (rI0 fun i j=>.bl (decide (j<=i))):=opB0 fun _ _ _ _ _ _ _ q=>ge_int q
theorem OpR.or {f:Value->Value->Sem Value}{r r':R2}(h:OpR X f r)(h':OpR X f r'):OpR X f (fun x y H Q=>r x y H Q\/r' x y H Q):=by
 intro pins s σ H x y v u Q I rx ry q
 rcases q with q|q
 ·exact h pins s σ H x y v u Q I rx ry q
 ·exact h' pins s σ H x y v u Q I rx ry q
theorem aK (b:Expr){op:CmpOp}(h:op≠.In:=by decide)(h2:op≠.NotIn:=by decide):behindInMarks op b=false:=by
 have e1:(op==CmpOp.In)=false:=by cases op<;>first|rfl|exact absurd rfl h
 have e2:(op==CmpOp.NotIn)=false:=by cases op<;>first|rfl|exact absurd rfl h2
 cases b<;>simp [behindInMarks,e1,e2]
theorem sj {op:CmpOp}{r:R2}(ho:OpR X (compareOp op) r)(ha:PE X a ta)(hb:PE X b tb)(hm:behindInMarks op b=false):PE X (.Compare a [op] [b] pos) (tOp r ta tb):=by
 intro pins s σ H Q I h
 exact wpAny_Compare1 (binT ha hb I h fun v u s2 x y H2 I2 rx ry q=>ho pins s2 σ H2 x y v u Q I2 rx ry q) hm
def tTest (t:TE):TT:=fun σ H Q=>t σ H fun x H'=> ∃k,x=.bl k/\Q k H'
theorem rX {op:CmpOp}{r:R2}(ho:OpR X (compareOp op) r)(ha:PE X a ta)(hb:PE X b tb)(hm:behindInMarks op b=false):PT X (.Compare a [op] [b] pos) (tTest (tOp r ta tb)):=by
 intro pins s σ H Q I h
 refine wpAny_isTrue_Compare1 (thn (ha pins s σ H _ I h) fun v s1 ⟨x,H1,I1,r1,q1⟩=>thn (hb pins s1 σ H1 _ I1 q1) fun u s2 ⟨y,H2,I2,r2,q2⟩=>
  thn (ho pins s2 σ H2 x y v u _ I2 r1 r2 q2) fun c s3 ⟨z,H3,I3,r3,k,e,q3⟩=>?_) hm
 subst e
 cases r3
 exact wpAny_truthy_bool ⟨H3,I3,q3⟩
theorem fX:(sizeLine:Nat)<2 ^ 63:=by rw[sizeLine_eq];decide
theorem op_add_str:OpR X (binaryOp .Add) (fun x y H Q=> ∃i j,x=.str i/\y=.str j/\i.length+j.length<=sizeLine/\Q (.str (i++j)) H):=by
 intro pins s σ H x y v u Q I rx ry h
 obtain⟨i,j,rfl,rfl,hz,q⟩:=h
 obtain⟨t,rfl⟩:=rx
 obtain⟨t',rfl⟩:=ry
 exact add_str (fun t' tk=>⟨.str (i++j),H,I.tok _,⟨_,rfl⟩,q⟩) hz
theorem vals1 {x:V}{us:List Value}(r:Vals [x] us): ∃u,us=[u]/\RelV x u:=by
 cases r with
 |cons r1 r2=>cases r2;exact⟨_,rfl,r1⟩
theorem vals2 {x y:V}{us:List Value}(r:Vals [x,y] us): ∃u w',us=[u,w']/\RelV x u/\RelV y w':=by
 cases r with
 |cons r1 r2=>
  cases r2 with
  |cons r3 r4=>cases r4;exact⟨_,_,rfl,r1,r3⟩
end
end L2
namespace L2
open PySem PySem.Spec PyProof.Rows
structure ObjM (h:Heap)(x dx C:Addr)(mA:Str->Option Value):Prop where
 obj:h.get? x=some (PySem.W.instObj C dx)
 ns:h.Ns1 dx mA
 ne:dx≠x
theorem oC {h:Heap}{dx:Addr}{mA:Str->Option Value}(n:h.Ns1 dx mA): ∃od,h.get? dx=some od/\ ∀name,PySem.W.lookIn name od=some (mA name):=by
 obtain⟨o,es,ep,ho,hd,hk,_,hm⟩:=n
 refine⟨o,ho,fun name=>?_⟩
 have e:=hm name
 unfold nsFind findBy at e
 rw[<-Array.find?_toList] at e
 unfold PySem.W.lookIn
 rw[hd]
 dsimp only
 split
 ·rename_i y q
  rw[q] at e
  exact congrArg some e
 ·rename_i q
  rw[q] at e
  have a:es.toList.any (·.refKey)=false:=by
   rw[List.any_eq_false]
   intro y hy
   obtain⟨z,t,hkey⟩:=hk y (Array.mem_toList_iff.mp hy)
   simp [DictEntry.refKey,hkey]
  have a': ¬es.toList.any (·.refKey)=true:=by rw[a];exact Bool.false_ne_true
  rw[if_neg a']
  exact congrArg some e
theorem ObjM.look {h:Heap}{x dx C:Addr}{mA:Str->Option Value}(I:ObjM h x dx C mA): ∃od,PySem.W.InstAt h x (PySem.W.instObj C dx) C (some od)/\ ∀name,PySem.W.lookIn name od=some (mA name):=
 let ⟨od,ho,hl⟩:=oC I.ns
 ⟨od,⟨I.obj,rfl,rfl,ho⟩,hl⟩
section
variable {prog:Program}{w:World}{A:Around}{E:Value->Shared->Prop}{s:Shared}{K:PySem.W.Frag}{x dx C f:Addr}{mA:Str->Option Value}{name:Str}{v:Value}
end
theorem RelO.some_of {v:V}{o:Option Value}(r:RelO (some v) o): ∃u,o=some u/\RelV v u:=by
 cases o with
 |none=>exact (show False from r).elim
 |some u=>exact⟨u,rfl,r⟩
section
variable {P:Program}{w:World}{H H':Hp}{h h':Heap}{a C dx:Addr}{fs fs':List (Str×V)}
theorem sV (hok:HOk P w H h)(e:H a=some (.ins C dx fs)): ∃mA,ObjM h a dx C mA/\(∀f,RelO (fs.lookup f) (mA f))/\PySem.Within mA (fs.map (·.1))/\fs.length<=1000/\H dx=some (.own a):=by
 obtain⟨d,z,ne,ob,mA,n,r,q⟩:=(show ObjOk P w H h a (.ins C dx fs) from hok a _ e)
 exact⟨mA,⟨ob,n,ne⟩,r,q,z,d⟩
end
structure Cls (K:PySem.W.Frag)(C:Addr):Prop where
 pg:PySem.W.plainGet K C Str.empty=true
 hd:PySem.W.hasDictIn K C=true
 po:PySem.W.plainOver K C=true
 sa:PySem.W.findIn K (.ref C) "__setattr__"=some (some (.builtin "object.__setattr__"))
theorem Cls.get {K:PySem.W.Frag}{C:Addr}(c:Cls K C)(f:Str):PySem.W.plainGet K C f=true:=c.pg
section
variable {X:Cx}{pins:List (Addr×Obj)}{σ:St}{H:Hp}{s:Shared}{a C dx:Addr}{fs:List (Str×V)}{f:Str}{v:V}{A:Around}{E:Value->Shared->Prop}
end
section
variable {X:Cx}{o e value:Expr}{f:Str}{pos pos' tpos:Pos}{ta tv:TE}
end
section
variable {X:Cx}{pins:List (Addr×Obj)}{σ:St}{H:Hp}{s:Shared}{A:Around}{E:Value->Shared->Prop}{Q:Value->Shared->Prop}{c:Value}{b:Bool}
inductive TyOf (K:PySem.W.Frag)(H:Hp):V->Value->Prop where
 |non:TyOf K H .non (.type "NoneType")
 |bl (x:Bool):TyOf K H (.bl x) (.type "bool")
 |int (i:Int):TyOf K H (.int i) (.type "int")
 |str (x:Str):TyOf K H (.str x) (.type "str")
 |flt (x:UInt64):TyOf K H (.flt x) (.type "float")
 |lst {a:Addr}{xs:List V} (e:H a=some (.lst xs)):TyOf K H (.ref a) (.type "list")
 |frz {a:Addr}{o:Obj}{xs:List V} (e:H a=some (.frz o (.lst xs))):TyOf K H (.ref a) (.type "list")
 |tup {a:Addr}{xs:List V} (e:H a=some (.tup xs)):TyOf K H (.ref a) (.type "tuple")
 |dK {a:Addr}{kvs:List (Key×V)} (e:H a=some (.dK kvs)):TyOf K H (.ref a) (.type "dict")
 |dT {a:Addr}{kvs:List (List Key×V)} (e:H a=some (.dT kvs)):TyOf K H (.ref a) (.type "dict")
 |ins {a C dx:Addr}{fs:List (Str×V)} (e:H a=some (.ins C dx fs)) (cl:Cls K C) (ha:PySem.W.findIn K (.ref C) "__class__"=some (some (.builtin "object.__class__")))
  (hn:PySem.W.specialIn K (.builtin "object.__class__") "__get__"=some (some (.builtin "getset_descriptor.__get__"))) (htk:PySem.W.takesIn K (.builtin "object.__class__")=some true)
  (hm:PySem.W.mroIn K C (.type "object")=some true):TyOf K H (.ref a) (.ref C)
theorem oJ {x:V}{u t:Value}(I:Inv X pins σ H s)(rx:RelV x u)(ty:TyOf X.K H x t)(e:kitOne X.K t c=some b)(h:∀tk,Q (.bool b) {s with toks:=tk}):
  wpAny (model X.prog X.w) A (call (.builtin "isinstance") [u,c]) Q E s:=by
 cases ty with
 |non=>cases (show u=Value.none from rx);exact kia_one PySem.W.kitx_none I.kIn True.intro e (fun z=>nomatch z) h
 |bl y=>cases (show u=Value.bool y from rx);exact kia_one PySem.W.kitx_bool I.kIn True.intro e (fun z=>nomatch z) h
 |int i=>obtain⟨t,q⟩:=(show∃t,u=Value.int i t from rx);cases q;exact kia_one PySem.W.kitx_int I.kIn True.intro e (fun z=>nomatch z) h
 |str y=>obtain⟨t,q⟩:=(show∃t,u=Value.str y t from rx);cases q;exact kia_one PySem.W.kitx_str I.kIn True.intro e (fun z=>nomatch z) h
 |flt y=>obtain⟨t,q⟩:=(show∃t,u=Value.float y t from rx);cases q;exact kia_one PySem.W.kitx_float I.kIn True.intro e (fun z=>nomatch z) h
 | @lst a xs ea=>
   cases (show u=Value.ref a from rx)
   obtain⟨_,_,n,_,h1⟩:=(show ObjOk X.prog X.w H s.heap a (.lst xs) from I.hok a _ ea)
   exact kia_one PySem.W.kitx_list I.kIn ⟨_,h1,rfl⟩ e (fun z=>nomatch z) h
 | @frz a ob xs ea=>
   cases (show u=Value.ref a from rx)
   obtain⟨_,_,_,n,_,h1⟩:=(show ObjOk X.prog X.w H s.heap a (.frz ob (.lst xs)) from I.hok a _ ea)
   exact kia_one PySem.W.kitx_list I.kIn ⟨_,h1,rfl⟩ e (fun z=>nomatch z) h
 | @tup a xs ea=>
   cases (show u=Value.ref a from rx)
   obtain⟨_,_,_,p⟩:=(show ObjOk X.prog X.w H s.heap a (.tup xs) from I.hok a _ ea)
   obtain⟨o,h1,h2,_⟩:=p.1
   exact kia_one PySem.W.kitx_tuple I.kIn ⟨o,h1,h2⟩ e (fun z=>nomatch z) h
 | @dK a kvs ea=>
   cases (show u=Value.ref a from rx)
   obtain⟨_,_,vs,_,p⟩:=(show ObjOk X.prog X.w H s.heap a (.dK kvs) from I.hok a _ ea)
   obtain⟨o,es,ep,h1,h2,_⟩:=p
   exact kia_one PySem.W.kitx_dict I.kIn ⟨o,h1,h2.1⟩ e (fun z=>nomatch z) h
 | @dT a kvs ea=>
   cases (show u=Value.ref a from rx)
   obtain⟨_,_,xs,_,o,es,ep,h1,h2,_⟩:=(show ObjOk X.prog X.w H s.heap a (.dT kvs) from I.hok a _ ea)
   exact kia_one PySem.W.kitx_dict I.kIn ⟨o,h1,h2.1⟩ e (fun z=>nomatch z) h
 | @ins a C dx fs ea cl ha hn htk hm=>
   cases (show u=Value.ref a from rx)
   obtain⟨mA,O,_⟩:=sV I.hok ea
   obtain⟨od,J,_⟩:=O.look
   exact kia_one (PySem.W.kitx_own (cl.get _) cl.hd ha hn htk hm) I.kIn J e (fun z=>nomatch z) h
end
end L2
namespace L2
open PySem PySem.Spec PyProof.Rows
structure Room (k:Nat)(A:Around):Prop where
 hd:A.handled=none
 dp:A.depth+3 * k+5<recursionLimit
 un:A.units+16 * k+200<cLine
theorem Room.mono {j k:Nat}{A:Around}(r:Room k A)(h:j<=k):Room j A:=⟨r.hd,by have:=r.dp;omega,by have:=r.un;omega⟩
theorem Room.deeper {k:Nat}{A:Around}(r:Room (k+1) A)(env:Env):Room k (A.deeper env):=
 ⟨r.hd,by have:=r.dp;show A.depth+1+3 * k+5<_;omega,by have:=r.un;show A.units+3+16 * k+200<_;omega⟩
theorem Room.depth {k:Nat}{A:Around}(r:Room k A):A.depth<recursionLimit:=by have:=r.dp;omega
theorem Room.units {k:Nat}{A:Around}(r:Room k A):A.units+64<cLine:=by have:=r.un;omega
def tNil:TA:=fun _ H Q=>Q [] H
def tCons (ta:TE)(tr:TA):TA:=fun σ H Q=>ta σ H fun x H1=>tr σ H1 fun xs H2=>Q (x::xs) H2
section
variable {X:Cx}{e:Expr}{es:List Expr}{te:TE}{t:TA}{pos:Pos}
theorem pa_nil:PA X [] tNil:=fun _ _ _ _ H Q I h=>Calls.spliced_nil ⟨[],H,I,.nil,h⟩
theorem sr (ha:PE X e te)(hr:PA X es t)(hs:starEach (e::es) X.env=(false,eval e X.env)::starEach es X.env:=by rfl):PA X (e::es) (tCons te t):=by
 intro pos pins s σ H Q I h
 rw[hs]
 show wpAny _ _ (spliced ((false,eval e X.env)::backTo pos (starEach es X.env))) _ _ s
 refine Calls.spliced_cons (thn (ha pins s σ H _ I h) fun u s1 qz=>?_)
 obtain⟨x,H1,I1,r1,q1⟩:=qz
 exact thn (hr pos pins s1 σ H1 _ I1 q1) fun us s2 ⟨xs,H2,I2,r2,q2⟩=>⟨x::xs,H2,I2,.cons r1 r2,q2⟩
def tTup (t:TA):TE:=fun σ H Q=>t σ H fun xs H1=>xs.length<=sizeLine/\ ∀p,H1 p=none->Q (.ref p) (upd H1 p (.tup xs))
def tLst (t:TA):TE:=fun σ H Q=>t σ H fun xs H1=>xs.length<=sizeLine/\ ∀p,H1 p=none->Q (.ref p) (upd H1 p (.lst xs))
theorem pP {x1}(h:PA X es t):PE X (.Tuple es x1 pos) (tTup t):=by
 intro pins s σ H Q I hq
 refine wpAny_Tuple_spliced (thn (h pos pins s σ H _ I hq) fun us s1 ⟨xs,H1,I1,r,z,q⟩=>⟨by rw[<-r.length];exact z,?_⟩)
 have hf:H1 s1.heap.objs.size=none:=I1.hok.fresh (Nat.le_refl _)
 refine⟨.ref s1.heap.objs.size,upd H1 s1.heap.objs.size (.tup xs),I1.laid (t':=s1.toks) (fun b u e=>Heap.get?_push_of_some _ e) (Nat.le_refl _) ?_,rfl,q _ hf⟩
 exact⟨z,us,r,IsTupD.new _ _⟩
theorem uJ (h:PA X es t):PE X (.List es pos) (tLst t):=by
 intro pins s σ H Q I hq
 refine wpAny_List_spliced (thn (h pos pins s σ H _ I hq) fun us s1 ⟨xs,H1,I1,r,z,q⟩=>⟨by rw[<-r.length];exact z,?_⟩)
 have hf:H1 s1.heap.objs.size=none:=I1.hok.fresh (Nat.le_refl _)
 refine⟨.ref s1.heap.objs.size,upd H1 s1.heap.objs.size (.lst xs),I1.laid (t':=s1.toks) (fun b u e=>Heap.get?_push_of_some _ e) (Nat.le_refl _) ?_,rfl,q _ hf⟩
 exact⟨z,us,0,r,Heap.get?_push_size _ rfl⟩
end
noncomputable abbrev Sp:=List V->Hp->VK->XK->Prop
noncomputable abbrev CXT:=List Env->Hp->Shared->XK->Value->Shared->Prop
structure Env0 (P:Program)(w:World)(K:PySem.W.Frag)(mg:Str->Option Value)(base:Heap)(A:Around)(outer:List Env)(s:Shared)(H:Hp):Prop where
 frames:A.frames=some outer
 mod:Mod K mg base
 bs: ∀b o,base.get? b=some o->s.heap.get? b=some o/\H b=none
 bsz:base.objs.size<=s.heap.objs.size
 funs:s.heap.FunFrames base outer
 frf: ∀b∈frs outer,H b=none
 hok:HOk P w H s.heap
 bare:AllBare s.gens
def CE (outer:List Env)(P:Program)(w:World)(H:Hp)(s:Shared)(Q:VK)(u:Value)(s':Shared):Prop:=
 ∃v H',s'.os=s.os/\AllBare s'.gens/\Un (frs outer) [] H H' s.heap s'.heap/\HOk P w H' s'.heap/\RelV v u/\Q v H'
def CR (CX:CXT)(outer:List Env)(P:Program)(w:World)(H:Hp)(s:Shared)(Q:VK)(E:XK)(r:Result)(s':Shared):Prop:=
 match r with
 |.ok (.ret u)=>CE outer P w H s Q u s'
 |.ok _=>False
 |.error e=>CX outer H s E e s'
structure FnOk (P:Program)(w:World)(K:PySem.W.Frag)(mg:Str->Option Value)(base:Heap)(CX:CXT)(k:Nat)(f:Addr)(fd:FuncData)(ps:List Str)(sp:Sp):Prop where
 len: ∀vs H Q E,sp vs H Q E->vs.length=ps.length
 run: ∀ (A:Around) (outer:List Env) (s:Shared) (H:Hp) (args:Args) (us:List Value) (vs:List V) (Q:VK) (E:XK),Room k A->Env0 P w K mg base A outer s H->BindsTo s fd args (ps.zip us)->Vals vs us->sp vs H Q E->
  codeAny (model P w) A (.call (.ref f) args) (CR CX outer P w H s Q E) s
theorem FnOk.imp {P:Program}{w:World}{K:PySem.W.Frag}{mg:Str->Option Value}{base:Heap}{CX:CXT}{k:Nat}{f:Addr}{fd:FuncData}{ps:List Str}{sp sp':Sp}(F:FnOk P w K mg base CX k f fd ps sp)
  (h:∀vs H Q E,sp' vs H Q E->sp vs H Q E):FnOk P w K mg base CX k f fd ps sp':=
 ⟨fun vs H Q E q=>F.len vs H Q E (h _ _ _ _ q),fun A outer s H args us vs Q E hr he hb hv hs=>F.run A outer s H args us vs Q E hr he hb hv (h _ _ _ _ hs)⟩
section
variable {X:Cx}{pins:List (Addr×Obj)}{σ:St}{H:Hp}{s s':Shared}
theorem Inv.env0 (I:Inv X pins σ H s):Env0 X.prog X.w X.K X.mg X.base X.A X.stack s H:=
 ⟨I.ok.frames,I.ok.mod,I.bs,Nat.le_trans I.ok.bsz I.sz,I.stack,I.stkFree,I.hok,I.bare⟩
theorem Inv.after {Q:VK}{u:Value}(I:Inv X pins σ H s)(h:CE X.stack X.prog X.w H s Q u s'):EP X pins σ Q u s':=by
 obtain⟨v,H',os,bare,un,hok,r,q⟩:=h
 obtain⟨hh,g,d,t,os'⟩:=s'
 obtain rfl:os'=s.os:=os
 exact⟨v,H',I.call (h':=hh) (g':=g) (d':=d) (t':=t) (ch:=[]) un hok bare (fun b z=>absurd z (by simp)),r,q⟩
end
def tCall (sp:Sp)(dvs:List V)(E:XK)(t:TA):TE:=fun σ H Q=>t σ H fun vs H1=>sp (vs++dvs) H1 Q E
noncomputable def Binds (K:PySem.W.Frag)(fd:FuncData)(ps:List Str)(ds:List Value):Prop:=
 ∀ (s:Shared) (us:List Value),K.In s.heap->(us++ds).length=ps.length->BindsTo s fd ⟨us,[]⟩ (ps.zip (us++ds))
theorem Binds.all {K:PySem.W.Frag}{fd:FuncData}{ps:List Str}(h:∀us:List Value,us.length=ps.length->bindArgs fd ⟨us,[]⟩=pure (ps.zip us)):Binds K fd ps []:=fun s us _ hl=>by
 rw[List.append_nil] at hl ⊢
 exact .of_eq (h us hl)
def mO (CX:CXT)(X:Cx)(E:XK):Prop:= ∀ (pins:List (Addr×Obj)) (σ:St) (H:Hp) (s:Shared) (e:Value) (s':Shared),Inv X pins σ H s->CX X.stack H s E e s'->X.xe e s'
section
variable {X:Cx}{CX:CXT}{k:Nat}{f C:Addr}{fd:FuncData}{ps:List Str}{sp:Sp}{dvs:List V}{ds:List Value}{E:XK}{x m:Str}{p pos apos:Pos}{e o:Expr}{es:List Expr}{ta:TE}{t:TA}
theorem uu {pins:List (Addr×Obj)}{σ:St}{H:Hp}{s:Shared}{Q:VK}{us:List Value}{vs:List V}(F:FnOk X.prog X.w X.K X.mg X.base CX k f fd ps sp)(hr:Room k X.A)(hb:Binds X.K fd ps ds)(hd:Vals dvs ds)(hx:mO CX X E)
  (I:Inv X pins σ H s)(r:Vals vs us)(h:sp (vs++dvs) H Q E):wpAny (model X.prog X.w) X.A (call (.ref f) us) (EP X pins σ Q) X.xe s:=by
 have r2:Vals (vs++dvs) (us++ds):=r.append hd
 have hl:(us++ds).length=ps.length:=by rw[<-r2.length];exact F.len _ _ _ _ h
 refine wpAny_call (codeAny_mono (F.run X.A X.stack s H ⟨us,[]⟩ (us++ds) (vs++dvs) Q E hr I.env0 (hb s us I.kIn hl) r2 h) fun r s' hq=>?_)
 cases r with
 |error e=>exact hx pins σ H s e s' I hq
 |ok fl=>
  cases fl with
  |ret u=>exact I.after hq
  |next=>exact False.elim hq
  |brk=>exact False.elim hq
  |cont=>exact False.elim hq
theorem sn (F:FnOk X.prog X.w X.K X.mg X.base CX k f fd ps sp)(hr:Room k X.A)(hg:Gl X x)(hm:X.mg x=some (.ref f))(hk:keepIn X.K (.ref f)=true)(hb:Binds X.K fd ps ds)(hd:Vals dvs ds)(hx:mO CX X E)
  (ha:PA X (e::es) t)(hdb:(x==("__debug__":Str))=false:=by decide)(he:starEach (e::es) X.env=(false,eval e X.env)::starEach es X.env:=by rfl)(hpl:(backTo pos (starEach es X.env)).any (·.1)=false:=by rfl):
  PE X (.Call (.Name x p) (e::es) [] pos) (tCall sp dvs E t):=by
 intro pins s σ H Q I h
 refine wpAny_Call_Name_kw (nt I hg hm ?_ hdb)
 refine PySem.W.callWith_K (h₀:=X.base) I.ok.mod.kin hk (thn (ha pos pins s σ H _ I h) fun us s1 ⟨vs,H1,I1,r,q⟩=>⟨I1.kIn,?_⟩) he hpl
 exact uu F hr hb hd hx I1 r q
end
section
variable {X:Cx}{CX:CXT}{k:Nat}{f C:Addr}{fd:FuncData}{ps ks:List Str}{sp:Sp}{E:XK}{x m:Str}{p pos apos kpos:Pos}{e o:Expr}{es:List Expr}{kws:List Keyword}{te ta:TE}{t tk:TA}{nm:Option Str}
variable {g:List Value->List Value->List Value}{gV:List V->List V->List V}
end
structure FnScope (N P:List Str)(sc:Scope):Prop where
 kind:sc.kind=.function
 co:sc.isCoroutine=false
 gen:sc.isGenerator=false
 nd:N.Nodup
 pre:N.take P.length=P
 par: ∀x∈P,sc.names.lookup x=some .local \/sc.names.lookup x=some .cell
 nofree: ∀y∈sc.names,y.2≠.free
theorem jH {kindOf:Str->Option NameKind}{x:Str}: ∀ {binds:List (Str×Value)}{m:Str->Option Value},(∀v,(x,v) ∉ binds)->bindL kindOf binds m x=m x
 |[],_,_=>rfl
 |(n,v)::r,m,h=>by
  unfold bindL
  rw[jH fun w hw=>h w (List.mem_cons_of_mem _ hw)]
  split
  ·have:x≠n:=by rintro rfl;exact h v List.mem_cons_self
   simp [this]
  ·rfl
theorem jJ {kindOf:Str->Option NameKind}{x:Str}: ∀ {binds:List (Str×Value)}{m:Str->Option Value},(∀v,(x,v) ∉ binds)->bindC kindOf binds m x=m x
 |[],_,_=>rfl
 |(n,v)::r,m,h=>by
  unfold bindC
  rw[jJ fun w hw=>h w (List.mem_cons_of_mem _ hw)]
  split
  ·rfl
  ·have:x≠n:=by rintro rfl;exact h v List.mem_cons_self
   simp [this]
theorem jI {kindOf:Str->Option NameKind}{x:Str}{v:Value}: ∀ {P:List Str}{vs:List Value}{i:Nat}{m:Str->Option Value},P.Nodup->P[i]?=some x->vs[i]?=some v->kindOf x=some .local ->
  bindL kindOf (P.zip vs) m x=some v
 |[],_,_,_,_,h,_,_=>by simp at h
 |_::_,[],_,_,_,_,h,_=>by simp at h
 |p::P,w::vs,0,m,nd,h1,h2,hk=>by
  simp at h1 h2;subst h1;subst h2
  show bindL kindOf ((p,w)::P.zip vs) m p=_
  unfold bindL
  rw[jH fun v hv=>(List.nodup_cons.mp nd).1 (List.of_mem_zip hv).1,if_pos hk]
  simp
 |p::P,w::vs,i+1,m,nd,h1,h2,hk=>by
  show bindL kindOf ((p,w)::P.zip vs) m x=_
  unfold bindL
  exact jI (i:=i) (List.nodup_cons.mp nd).2 (by simpa using h1) (by simpa using h2) hk
theorem jK {kindOf:Str->Option NameKind}{x:Str}{v:Value}: ∀ {P:List Str}{vs:List Value}{i:Nat}{m:Str->Option Value},P.Nodup->P[i]?=some x->vs[i]?=some v->kindOf x≠some .local ->
  bindC kindOf (P.zip vs) m x=some v
 |[],_,_,_,_,h,_,_=>by simp at h
 |_::_,[],_,_,_,_,h,_=>by simp at h
 |p::P,w::vs,0,m,nd,h1,h2,hk=>by
  simp at h1 h2;subst h1;subst h2
  show bindC kindOf ((p,w)::P.zip vs) m p=_
  unfold bindC
  rw[jJ fun v hv=>(List.nodup_cons.mp nd).1 (List.of_mem_zip hv).1,if_neg hk]
  simp
 |p::P,w::vs,i+1,m,nd,h1,h2,hk=>by
  show bindC kindOf ((p,w)::P.zip vs) m x=_
  unfold bindC
  exact jK (i:=i) (List.nodup_cons.mp nd).2 (by simpa using h1) (by simpa using h2) hk
def start (N:List Str)(vs:List V):St:=vs.map some++List.replicate (N.length - vs.length) none
def cxOf (CX:CXT)(P:Program)(w:World)(K:PySem.W.Frag)(mg:Str->Option Value)(base:Heap)(N:List Str)(qual:Str)(scope:Scope)(f:Addr)(cd:Value)(A:Around)(outer:List Env)(s:Shared)(H:Hp)(E:XK):Cx where
 prog:=P
 w:=w
 K:=K
 mg:=mg
 base:=base
 A:=A.deeper (envOfC qual scope s.heap.objs.size f cd)
 N:=N
 s₀:=s
 H₀:=H
 env:=envOfC qual scope s.heap.objs.size f cd
 outer:=outer
 stack:=envOfC qual scope s.heap.objs.size f cd::outer
 ex:=[]
 calm:=true
 fn:=fun _=>true
 pn:=[]
 xe:=fun e s'=>wpAny (model P w) (A.deeper (envOfC qual scope s.heap.objs.size f cd)) (leaving (envOfC qual scope s.heap.objs.size f cd) e) (fun _ s''=>CX outer H s E e s'') (fun e' s''=>CX outer H s E e' s'') s'
theorem lW {sc:Scope}{n:Nat}{x:Str}(h:sc.names.lookup x=some .cell): ∃c,(cellsFrom n sc.names []).lookup x=some c:=by
 have q:=PySem.W.cellsFrom_some sc.names n [] (.inl h)
 exact Option.isSome_iff_exists.mp q
theorem oM {CX:CXT}{P:Program}{w:World}{K:PySem.W.Frag}{mg:Str->Option Value}{base:Heap}{N ps:List Str}{qual:Str}{scope:Scope}{f:Addr}{cd:Value}{A:Around}{outer:List Env}{s s1:Shared}{H:Hp}{E:XK}{us:List Value}{vs:List V}
  (S:FnScope N ps scope)(hd:A.handled=none)(e0:Env0 P w K mg base A outer s H)(hl:vs.length=ps.length)(r:Vals vs us)
  (x:InCallC s s.heap.objs.size (bindL (envOfC qual scope s.heap.objs.size f cd).kindOf (ps.zip us) fun _=>none) (cellsFrom (s.heap.objs.size+1) scope.names []) (bindC (envOfC qual scope s.heap.objs.size f cd).kindOf (ps.zip us) fun _=>none) s1):
  Inv (cxOf CX P w K mg base N qual scope f cd A outer s H E) [] (start N vs) H s1:=by
 have hpl:ps.length<=N.length:=by have:=congrArg List.length S.pre;rw[List.length_take] at this;omega
 obtain⟨h1,tk,rfl,hk⟩:=x.done
 have noA: ∀b:Addr,b ∉ (cxOf CX P w K mg base N qual scope f cd A outer s H E).ex:=fun b z=>absurd (show b∈([]:List Addr) from z) (by simp)
 refine⟨⟨e0.mod,S.kind,rfl,rfl,Nat.le_refl _,fun y z c h1 h2=>?_,fun y hy=>?_,fun y c _ h=>?_,fun _=>hd,Around.frames_deeper e0.frames,.inr ⟨rfl,rfl⟩,fun b z=>absurd z (noA b),e0.bs,e0.bsz,fun b _ _=>noA b,fun b z=>absurd z (noA b),e0.funs,e0.frf⟩,
  rfl,e0.bare,Un.kept hk,⟨_,x.toInCall.ns,fun i y v h1 h2 h3=>?_⟩,fun y c h=>⟨_,x.cell y c h⟩,e0.hok.fresh (Nat.le_refl _),fun y c h=>?_,fun p hp=>absurd (show p∈([]:List (Addr×Obj)) from hp) (by simp),e0.hok.kept hk,?_⟩
 ·exact name_of_addr x.apart (PySem.mem_of_lookup h1) (PySem.mem_of_lookup h2)
 ·have hy:scope.names.lookup y=some .cell\/scope.names.lookup y=some .free:=hy
  rcases hy with hy|hy
  ·exact lW hy
  ·exact absurd rfl (S.nofree _ (PySem.mem_of_lookup hy))
 ·exact Nat.le_of_lt (x.above y c (PySem.mem_of_lookup h))
 ·have hi:i<vs.length:=by
   unfold start at h2
   by_cases hi:i<vs.length
   ·exact hi
   ·rw[List.getElem?_append_right (by simpa using hi)] at h2
    rw[List.getElem?_replicate] at h2
    split at h2<;>cases h2
  have ha:vs[i]?=some v:=by
   unfold start at h2
   rw[List.getElem?_append_left (by simpa using hi),List.getElem?_map] at h2
   cases e:vs[i]? with
   |none=>rw[e] at h2;cases h2
   |some a=>rw[e] at h2;cases h2;rfl
  obtain⟨u,hu,rv⟩:=r.get ha
  have hp:ps[i]?=some y:=by
   rw[<-S.pre,List.getElem?_take_of_lt (by omega)];exact h1
  have ndP:ps.Nodup:=by rw[<-S.pre];exact S.nd.sublist (List.take_sublist _ _)
  refine⟨u,rv,?_⟩
  rcases S.par y (List.mem_of_getElem? hp) with k|k
  ·exact .inl ⟨k,jI ndP hp hu k⟩
  ·obtain⟨c,e⟩:=lW (n:=s.heap.objs.size+1) k
   refine .inr ⟨.inl k,c,e,?_⟩
   have q:=x.cell y c e
   rw[jK ndP hp hu (by show scope.names.lookup y≠_;rw[k];decide)] at q
   exact q
 ·exact e0.hok.fresh (Nat.le_of_lt (x.above y c (PySem.mem_of_lookup h)))
 ·unfold start
  show _=N.length
  rw[List.length_append,List.length_map,List.length_replicate]
  omega
theorem wf {CX:CXT}{P:Program}{w:World}{K:PySem.W.Frag}{mg:Str->Option Value}{base:Heap}{k:Nat}{f:Addr}{name qual:Str}{params:Arguments}{body:List Stmt}{scope:Scope}{dV kV doc pm cdv ct oc:Value}{an od:Option Addr}
  {osl:Array (Option Value)}{N ps:List Str}{sp:Sp}(lk:K.lookup f=some ⟨oc,od,.func (fnOf name qual params body scope dV kV doc pm an cdv ct),osl⟩)(hcd:codeIn K cdv qual=true)(S:FnScope N ps scope)
  (len: ∀vs H Q E,sp vs H Q E->vs.length=ps.length)
  (hbody: ∀ (A:Around) (outer:List Env) (s:Shared) (H:Hp) (vs:List V) (Q:VK) (E:XK),Room k (A.deeper (envOfC qual scope s.heap.objs.size f cdv))->sp vs H Q E->
   ∃t,PSs (cxOf CX P w K mg base N qual scope f cdv A outer s H E) body t/\t {nx:=fun _ H'=>Q .non H',rt:=Q} (start N vs) H):
  FnOk P w K mg base CX (k+1) f (fnOf name qual params body scope dV kV doc pm an cdv ct) ps sp:=by
 refine⟨len,fun A outer s H args us vs Q E hr e0 hb r hsp=>?_⟩
 have hl:=len _ _ _ _ hsp
 have KX:K.In s.heap:=e0.mod.kin.keeps fun b o e=>(e0.bs b o e).1
 have lim:s.heap.NoLimit:=e0.mod.nolimit.keeps fun b o e=>(e0.bs b o e).1
 have hkind: ∀y∈ps.zip us,scope.names.lookup y.1=some .local \/(scope.names.lookup y.1=some .cell/\((cellsFrom (s.heap.objs.size+1) scope.names []).lookup y.1).isSome=true):=fun⟨n,v⟩ hy=>by
  rcases S.par n (List.of_mem_zip hy).1 with q|q
  ·exact .inl q
  ·exact .inr ⟨q,PySem.W.cellsFrom_some _ _ _ (.inl q)⟩
 refine codeAny_call_function hr.depth (KX _ _ lk) rfl S.co S.gen rfl (PySem.W.codeRec_of KX hcd) (hb _ _ _ _ ?_)
 refine wpAny_newFunctionEnv_cells S.kind hkind fun env he s1 x=>?_
 subst he
 refine⟨lim.keeps x.toInCall.keep,codeAny_func ?_⟩
 obtain⟨t,ht,hq⟩:=hbody A outer s H vs Q E (hr.deeper _) hsp
 have I:Inv (cxOf CX P w K mg base N qual scope f cdv A outer s H E) [] (start N vs) H s1:=oM S hr.hd e0 hl r x
 refine wpAny_mono (ht [] s1 (start N vs) H _ I hq) (fun fl s' hs=>?_) fun e s' hs=>hs
 have fin: ∀ {σ':St}{H':Hp}{v:V}{u:Value},Inv (cxOf CX P w K mg base N qual scope f cdv A outer s H E) [] σ' H' s'->RelV v u->Q v H'->CE outer P w H s Q u s':=
  fun{σ' H' v u} J rv q=>⟨v,H',J.os,J.bare,J.base,J.hok,rv,q⟩
 cases fl with
 |ret u=>
  obtain⟨v,σ',H',J,rv,q⟩:=hs
  exact fin J rv q
 |next=>
  obtain⟨σ',H',J,q⟩:=hs
  exact fin (v:=V.non) (u:=Value.none) J rfl q
 |brk=>
  obtain⟨_,_,_,q⟩:=hs
  exact False.elim q
 |cont=>
  obtain⟨_,_,_,q⟩:=hs
  exact False.elim q
end L2
namespace L2
open PySem PySem.Spec PyProof.Rows
section
variable {X:Cx}{x:Str}{p pos:Pos}{e:Expr}{es:List Expr}{t:TA}{id T:String}{r:List V->Hp->VK->Prop}
def tCB (r:List V->Hp->VK->Prop)(t:TA):TE:=fun σ H Q=>t σ H fun vs H1=>r vs H1 Q
theorem pW (hc:CallR X (.builtin id) r)(hg:Gl X x)(hm:X.mg x=none)(hv:bootBuiltins x=some (.builtin id))(ha:PA X (e::es) t)(hn:x≠ "__name__":=by decide)(hdb:(x==("__debug__":Str))=false:=by decide)
  (he:starEach (e::es) X.env=(false,eval e X.env)::starEach es X.env:=by rfl)(hpl:(backTo pos (starEach es X.env)).any (·.1)=false:=by rfl):PE X (.Call (.Name x p) (e::es) [] pos) (tCB r t):=by
 intro pins s σ H Q I h
 refine wpAny_Call_Name_kw (dc I hg hm hv ?_ hn hdb)
 exact PyProof.Rows.callWith_builtin1 (thn (ha pos pins s σ H _ I h) fun us s1 ⟨vs,H1,I1,r1,q1⟩=>hc pins s1 σ H1 vs us Q I1 r1 q1) he hpl
theorem ju (hc:CallR X (.type T) r)(hg:Gl X x)(hm:X.mg x=none)(hv:bootBuiltins x=some (.type T))(ha:PA X (e::es) t)(hn:x≠ "__name__":=by decide)(hdb:(x==("__debug__":Str))=false:=by decide)
  (he:starEach (e::es) X.env=(false,eval e X.env)::starEach es X.env:=by rfl)(hpl:(backTo pos (starEach es X.env)).any (·.1)=false:=by rfl):PE X (.Call (.Name x p) (e::es) [] pos) (tCB r t):=by
 intro pins s σ H Q I h
 refine wpAny_Call_Name_kw (dc I hg hm hv ?_ hn hdb)
 exact PyProof.Rows.callWith_type1 (thn (ha pos pins s σ H _ I h) fun us s1 ⟨vs,H1,I1,r1,q1⟩=>hc pins s1 σ H1 vs us Q I1 r1 q1) he hpl
end
end L2
namespace HT
open PySem PyProof.Rows
noncomputable def lexLt:List Int->List Int->Bool
 |[],[]=>false
 |[],_::_=>true
 |_::_,[]=>false
 |x::xs,y::ys=>if x=y then lexLt xs ys else decide (x<y)
theorem mH (x y:Int)(xs ys:List Int):lexLt (x::xs) (y::ys)=if x=y then lexLt xs ys else decide (x<y):=rfl
theorem jj:lexLt [] []=false:=rfl
theorem iS (y:Int)(ys:List Int):lexLt [] (y::ys)=true:=rfl
theorem iT (x:Int)(xs:List Int):lexLt (x::xs) []=false:=rfl
theorem qY (A:Around)(s:Shared)(a:Int)(t:Tok)(c:Int)(u:Tok): ∃e,SeqAt.EqAt A s (.int a t) (.int c u) e/\(e=true↔a=c):=
 ⟨(a==c),SeqAt.EqAt.int_int a t c u,by simp⟩
theorem pI (A:Around)(s:Shared)(a:Int)(t:Tok)(c:Int)(u:Tok)(prog:Program)(w:World)(E:Value->Shared->Prop)(Q:Value->Shared->Prop)(h:Q (.bool (decide (a<c))) s):
  wpAny (model prog w) A (richCompare .Lt (.int a t) (.int c u)) Q E s:=
 (PyProof.Rows.lt_int h:wpAny (model prog w) A (compareOp .Lt (.int a t) (.int c u)) Q E s)
section
open PySem.SeqAt
open PySem.AutoSeq1 (wpAny_loadPart')
open PySem.MeetsSeq PySem.MeetsSeq2 PySem.MeetsSeq3
theorem i7 (l b:Addr)(items items2:Array Value)(n n2:Nat)(dd dd2:Option Addr)(sl sl2:Array (Option Value))(ns ms:List Int)(hi:IntsAre items.toList ns)(hj:IntsAre items2.toList ms):
  Meets (Builtin.«tuple.__lt__» ⟨[.ref l,.ref b],[]⟩)
   (fun _ R s=>s.heap.get? l=some {cls:=.type "tuple",dict:=dd,data:=.seq items n,slots:=sl}/\s.heap.get? b=some {cls:=.type "tuple",dict:=dd2,data:=.seq items2 n2,slots:=sl2}/\
    R (.ok (.ret (.bool (lexLt ns ms)))) s):=
 .of_wp fun prog w A R s h=>by
  obtain⟨hp,g,d,tk,os⟩:=s;obtain⟨hl,hb,h⟩:=h
  have f2:=AutoSeq1.sub_tuple_tuple
  have z1:items.size=ns.length:=by rw[<-hi.length];simp
  have z2:items2.size=ms.length:=by rw[<-hj.length];simp
  wp_walk using wpAny_loadPart' hl,wpAny_loadPart' hb,wpAny_forIn_list _ (fun rest b s'=>b.1=none/\s'=⟨hp,g,d,tk,os⟩/\ ∃ (vs ws:List Value) (ns' ms':List Int),rest=vs.zip ws/\
   IntsAre vs ns'/\IntsAre ws ms'/\ns'.length+items2.size=ms'.length+items.size/\R (.ok (.ret (.bool (lexLt ns' ms')))) ⟨hp,g,d,tk,os⟩) _
  case turn=>
   rintro⟨y,x⟩ rest b s' ⟨hb',rfl,vs,ws,ns',ms',hz,hvi,hwi,hlen,hR⟩
   cases hvi with
   |nil=>rw[List.zip_nil_left] at hz;cases hz
   |cons a t hvi'=>
    cases hwi with
    |nil=>rw[List.zip_nil_right] at hz;cases hz
    |cons c u hwi'=>
     rw[List.zip_cons_cons] at hz
     injection hz with hyx hrest
     injection hyx with hy hx
     subst hy hx
     rw[mH] at hR
     simp only[List.length_cons] at hlen
     obtain⟨e,he,hiff⟩:=qY A.in1 ⟨hp,g,d,tk,os⟩ a t c u
     refine wpAny_bind (he prog w _ _ ?_)
     cases e with
     |true=>
      rw[if_pos (hiff.mp rfl)] at hR
      wp_walk
      exact⟨rfl,rfl,_,_,_,_,hrest,hvi',hwi',by omega,hR⟩
     |false=>
      rw[if_neg (fun q=>absurd (hiff.mpr q) Bool.false_ne_true)] at hR
      have hri:=pI A.in1 ⟨hp,g,d,tk,os⟩ a t c u prog w
      wp_walk using hri
      exact⟨_,rfl,by simpa using hR⟩
  case fin=>
   rintro⟨b1,b2⟩ s' ⟨hb',rfl,vs,ws,ns',ms',hz,hvi,hwi,hlen,hR⟩
   simp only at hb'
   subst hb'
   have hv:lexLt ns' ms'=decide (items.size<items2.size):=by
    cases hvi with
    |nil=>
     cases hwi with
     |nil=>
      simp only[List.length_nil] at hlen
      rw[jj]
      exact (decide_eq_false (by omega)).symm
     |cons c u hw=>
      simp only[List.length_nil,List.length_cons] at hlen
      rw[iS]
      exact (decide_eq_true (by omega)).symm
    |cons a t hv=>
     cases hwi with
     |nil=>
      simp only[List.length_nil,List.length_cons] at hlen
      rw[iT]
      exact (decide_eq_false (by omega)).symm
     |cons c u hw=>
      rw[List.zip_cons_cons] at hz
      cases hz
   rw[hv] at hR
   wp_walk
   exact⟨_,rfl,by simpa [Builtin.Tuple.tupleCompareSizes] using hR⟩
  case h=>
   exact⟨rfl,rfl,items.toList,items2.toList,ns,ms,rfl,hi,hj,by omega,h⟩
end
section
variable {prog:Program}{w:World}{A:Around}{E:Value->Shared->Prop}{s:Shared}
theorem lt_tupInts {l b:Addr}{items items2:Array Value}{ns ms:List Int}{Q:Value->Shared->Prop}(hl:IsTup s.heap l items)(hb:IsTup s.heap b items2)(hi:IntsAre items.toList ns)(hj:IntsAre items2.toList ms)
  (hu:A.units<cLine)(h:Q (.bool (lexLt ns ms)) s):wpAny (model prog w) A (compareOp .Lt (.ref l) (.ref b)) Q E s:=by
 obtain⟨⟨cls,dd,data,sl⟩,ho,hc,n,hd⟩:=id hl
 obtain⟨⟨cls2,dd2,data2,sl2⟩,ho2,hc2,n2,hd2⟩:=id hb
 simp only at hc hd hc2 hd2
 subst hc hd hc2 hd2
 exact richCompare_meets_room (op:=.Lt) ⟨_,ho,rfl⟩ ⟨_,ho2,rfl⟩ PySem.F.slot_tuple_lt PySem.F.entry_tuple_lt (PySem.F.args_tuple_lt_2 _ _) (i7 l b items items2 n n2 dd dd2 sl sl2 ns ms hi hj)
  ⟨ho,ho2,show Value.bool (lexLt ns ms)≠Value.notImplemented/\Q (.bool (lexLt ns ms)) s from⟨(fun x=>nomatch x),h⟩⟩ hu
theorem cat_tup {t b:Addr}{vs ws:List Value}{Q:Value->Shared->Prop}(ht:IsTup s.heap t vs.toArray)(hb:IsTup s.heap b ws.toArray)(hv:vs≠ [])
  (h1:ws=[]->Q (.ref t) s)(h2:ws≠ []->Q (.ref s.heap.objs.size) {s with heap:=s.heap.push {cls:=.type "tuple",data:=.seq (vs++ws).toArray}})
  (hsz:vs.length+ws.length<=sizeLine):wpAny (model prog w) A (binaryOp .Add (.ref t) (.ref b)) Q E s:=by
 obtain⟨⟨cls,dd,data,sl⟩,ho,hc,n,hd⟩:=id ht
 obtain⟨⟨cls2,dd2,data2,sl2⟩,ho2,hc2,n2,hd2⟩:=id hb
 simp only at hc hd hc2 hd2
 subst hc hd hc2 hd2
 have e:vs.toArray++ws.toArray=(vs++ws).toArray:=by simp
 by_cases hw:ws=[]
 ·exact concat_meets ⟨_,ho,rfl⟩ ⟨_,ho2,rfl⟩ noFill_tuple_add seq_tuple_add PySem.F.slot_tuple_add PySem.F.entry_tuple_add (PySem.F.args_tuple_add_2 _ _)
   (tuple_addW1 t b vs.toArray ws.toArray n n2 dd dd2 sl sl2 (by simpa using hv) (by simp [hw])) ⟨ho,ho2,h1 hw⟩
 ·refine concat_meets ⟨_,ho,rfl⟩ ⟨_,ho2,rfl⟩ noFill_tuple_add seq_tuple_add PySem.F.slot_tuple_add PySem.F.entry_tuple_add (PySem.F.args_tuple_add_2 _ _)
   (tuple_addW2 t b vs.toArray ws.toArray n n2 dd dd2 sl sl2 (by simpa using hv) (by simpa using hw) (by rw[List.size_toArray,List.size_toArray];exact hsz)) ⟨ho,ho2,?_⟩
  rw[e]
  exact h2 hw
noncomputable def sIx (n d:Nat):Option Int->Nat
 |none=>d
 |some v=>if v<0 then (v+(n:Int)).toNat else min v.toNat n
theorem ut (n d:Nat)(hd:d<=n)(o:Option Int):sIx n d o<=n:=by
 cases o with
 |none=>exact hd
 |some v=>
  show (if v<0 then (v+(n:Int)).toNat else min v.toNat n)<=n
  by_cases hv:v<0
  ·rw[if_pos hv];omega
  ·rw[if_neg hv];exact Nat.min_le_right _ _
theorem nS (v:Int)(n d:Nat):(if v<0 then max (v+(n:Int)) 0 else min v (n:Int))=((sIx n d (some v):Nat):Int):=by
 show (if v<0 then max (v+(n:Int)) 0 else min v (n:Int))=(((if v<0 then (v+(n:Int)).toNat else min v.toNat n):Nat):Int)
 by_cases hv:v<0
 ·simp only[if_pos hv];omega
 ·simp only[if_neg hv];omega
theorem mN (lo hi:Option Int)(n:Nat):Builtin.Slice.sliceAdjust lo hi 1 (n:Int)=(((sIx n 0 lo:Nat):Int),((sIx n n hi:Nat):Int)):=by
 have h1: ¬((1:Int)<0):=by omega
 unfold Builtin.Slice.sliceAdjust
 simp only[h1,if_false]
 refine Prod.ext ?_ ?_
 ·cases lo with
  |none=>rfl
  |some v=>exact nS v n 0
 ·cases hi with
  |none=>rfl
  |some v=>exact nS v n n
theorem mq (i j:Nat):Builtin.Slice.slicePlaces (i:Int) (j:Int) 1=j - i:=by
 unfold Builtin.Slice.slicePlaces
 have h1:(1:Int)>0:=by omega
 simp only[h1,if_true,Int.ediv_one]
 split<;>omega
theorem iy {v:Value}{o:Option Int}{Q:Option Int->Shared->Prop}(p:IsPart v o)(h:Q o s):wpAny (model prog w) A (Builtin.Slice.slicePartIndex v) Q E s:=by
 cases p with
 |none=>exact slicePart_none h
 |int i t=>exact slicePart_int h
theorem gA {sl:Addr}{vl vu:Value}{lo hi:Option Int}{n:Nat}{Q:Int×Int×Nat->Shared->Prop}(hs:s.heap.IsSliceOf sl vl vu .none)(pl:IsPart vl lo)(pu:IsPart vu hi)
  (h:Q (((sIx n 0 lo:Nat):Int),1,sIx n n hi - sIx n 0 lo) s):wpAny (model prog w) A (Builtin.Slice.sliceApplied (.ref sl) (pure (n:Int))) Q E s:=by
 obtain⟨os,hos,hcs,hds⟩:=id hs
 unfold Builtin.Slice.sliceApplied Builtin.Slice.sliceFields
 refine wpAny_bind (wpAny_bind (wpAny_field hos hds (x:=vl) rfl (wpAny_bind (wpAny_field hos hds (x:=vu) rfl (wpAny_bind (wpAny_field hos hds (x:=.none) rfl (wpAny_pure ?_)))))))
 refine wpAny_bind (slicePart_none ?_)
 show wpAny _ _ (if ((1:Int)==0)=true then _ else _) _ _ s
 rw[if_neg (by decide)]
 refine wpAny_bind (iy pl (wpAny_bind (iy pu (wpAny_bind (wpAny_pure ?_)))))
 show wpAny _ _ (match Builtin.Slice.sliceAdjust lo hi 1 (n:Int) with|(lo,hi)=>pure (lo,(1:Int),Builtin.Slice.slicePlaces lo hi 1)) _ _ s
 rw[mN lo hi n]
 show wpAny _ _ (pure (((sIx n 0 lo:Nat):Int),(1:Int),Builtin.Slice.slicePlaces ((sIx n 0 lo:Nat):Int) ((sIx n n hi:Nat):Int) 1)) _ _ s
 rw[mq]
 exact wpAny_pure h
theorem pM (xs:Array Value)(i k:Nat):((List.range k).filterMap fun (m:Nat)=>xs[((i:Int)+(m:Int) * 1).toNat]?).toArray=((xs.toList.drop i).take k).toArray:=by
 have e:(fun (m:Nat)=>xs[((i:Int)+(m:Int) * 1).toNat]?)=fun m=>xs[i+m]?:=by
  funext m
  have:((i:Int)+(m:Int) * 1).toNat=i+m:=by omega
  rw[this]
 rw[e]
 have:=pick_run xs i k
 rw[List.filterMap_map] at this
 have e2:((fun x=>xs[x]?)∘fun x=>i+x)=fun m=>xs[i+m]?:=rfl
 rw[e2] at this
 rw[this]
theorem getItem_tuple_cut {t sl:Addr}{items:Array Value}{vl vu:Value}{lo hi:Option Int}{Q:Value->Shared->Prop}(ht:IsTup s.heap t items)(hs:s.heap.IsSliceOf sl vl vu .none)(pl:IsPart vl lo)(pu:IsPart vu hi)
  (hw: ¬(sIx items.size 0 lo=0/\sIx items.size items.size hi=items.size))
  (h:Q (.ref s.heap.objs.size) {s with heap:=s.heap.push {cls:=.type "tuple",data:=.seq ((items.toList.drop (sIx items.size 0 lo)).take (sIx items.size items.size hi - sIx items.size 0 lo)).toArray}})
  (hsz:items.size<=sizeLine):wpAny (model prog w) A (getItem (.ref t) (.ref sl)) Q E s:=by
 have htake:sizeOk (.seq ((items.toList.drop (sIx items.size 0 lo)).take (sIx items.size items.size hi - sIx items.size 0 lo)).toArray):=by
  show ((items.toList.drop (sIx items.size 0 lo)).take (sIx items.size items.size hi - sIx items.size 0 lo)).toArray.size<=sizeLine
  rw[List.size_toArray,List.length_take,List.length_drop,Array.length_toList]
  omega
 have hj:sIx items.size items.size hi<=items.size:=ut _ _ (Nat.le_refl _) hi
 obtain⟨os,hos,hcs,hds⟩:=id hs
 have hTs:s.TypeIs (.ref sl) "slice":=⟨os,hos,hcs⟩
 unfold getItem
 try with_reducible refine wpAny_holding ?_
 first|refine wpAny_bind (wpAny_pure ?_)|skip
 refine wpAny_bind (wpAny_sequenceKey ht.typeIs (by decide) ?_)
 refine wpAny_bind (wpAny_callSpecial?_slot (name:=Str.ofString "__getitem__") ht.typeIs PyProof.Rows.slot_tuple_getitem
  (wpAny_call_entry PyProof.Rows.slot_tuple_getitem ht.typeIs entry_tuple_getitem ?_ (args_tuple_getitem _ _)))
 show wpAny _ _ (Builtin.Tuple.tupleItemsOf (.ref t)>>=_) _ _ s
 refine wpAny_bind (tupleItemsOf_ ht ?_)
 refine wpAny_bind (wpAny_typeOf hTs ?_)
 rw[if_pos (by decide)]
 refine wpAny_bind (gA hs pl pu ?_)
 have hno: ¬((((sIx items.size 0 lo:Nat):Int)==0 && (1:Int)==1 && (sIx items.size items.size hi - sIx items.size 0 lo)==items.size)=true):=by
  intro q
  rw[Bool.and_eq_true,Bool.and_eq_true] at q
  have q1:((sIx items.size 0 lo:Nat):Int)=0:=eq_of_beq q.1.1
  have q2:sIx items.size items.size hi - sIx items.size 0 lo=items.size:=eq_of_beq q.2
  exact hw ⟨by omega,by omega⟩
 show wpAny _ _ (if (((sIx items.size 0 lo:Nat):Int)==0 && (1:Int)==1 && (sIx items.size items.size hi - sIx items.size 0 lo)==items.size)=true then _ else _) _ _ s
 rw[if_neg hno,pM]
 first
  |exact wpAny_bind (m:=Builtin.Tuple.tupleExact _) (wpAny_newObj_type (wpAny_pure ⟨_,rfl,wpAny_pure h⟩) htake)
  |exact wpAny_bind (m:=Builtin.Tuple.tupleExact _) (wpAny_newObj_type (wpAny_bind (wpAny_pure (wpAny_pure ⟨_,rfl,wpAny_pure h⟩))) htake)
  |exact wpAny_bind (wpAny_bind (m:=Builtin.Tuple.tupleExact _) (wpAny_newObj_type (wpAny_pure (wpAny_pure ⟨_,rfl,wpAny_pure h⟩)) htake))
  |exact wpAny_bind (wpAny_bind (m:=Builtin.Tuple.tupleExact _) (wpAny_newObj_type (wpAny_pure ⟨_,rfl,wpAny_pure h⟩) htake))
end
end HT
namespace L2
open PySem PySem.Spec PyProof.Rows
noncomputable abbrev TO:=St->Hp->(Option Int->Hp->Prop)->Prop
def PO (X:Cx)(e:Option Expr)(t:TO):Prop:=
 ∀ (pins:List (Addr×Obj)) (s:Shared) (σ:St) (H:Hp) (Q:Option Int->Hp->Prop),Inv X pins σ H s->t σ H Q->
   wpAny (model X.prog X.w) X.A (evalPart e X.env) (fun u s'=> ∃o H',Inv X pins σ H' s'/\IsPart u o/\Q o H') X.xe s
def rL:TO:=fun _ H Q=>Q none H
def tPart (t:TE):TO:=fun σ H Q=>t σ H fun x H1=> ∃i,x=.int i/\Q (some i) H1
section
variable {X:Cx}{e:Expr}{te:TE}{lo hi:Option Expr}{tl th:TO}{pos p2:Pos}
theorem po_none:PO X none rL:=by
 intro pins s σ H Q I h
 rw[evalPart_none]
 exact wpAny_pure ⟨none,H,I,.none,h⟩
theorem r9 (h:PE X e te):PO X (some e) (tPart te):=by
 intro pins s σ H Q I hw
 rw[evalPart_some]
 refine thn (h pins s σ H _ I hw) fun u s1 qz=>?_
 obtain⟨x,H1,I1,r1,q1⟩:=qz
 obtain⟨i,rfl,q⟩:=q1
 obtain⟨t,rfl⟩:=r1
 exact⟨some i,H1,I1,.int i t,q⟩
def SlR (X:Cx)(r:V->Option Int->Option Int->Hp->VK->Prop):Prop:=
 ∀ (pins:List (Addr×Obj)) (s:Shared) (σ:St) (H:Hp) (x:V) (v vl vu:Value) (lo hi:Option Int) (sl:Addr) (Q:VK),Inv X pins σ H s->RelV x v->s.heap.IsSliceOf sl vl vu .none->IsPart vl lo->IsPart vu hi->r x lo hi H Q->
   ∃T id,typeLookup (.type T) "__getitem__"=pure (some (.builtin id))/\s.TypeIs v T/\wpAny (model X.prog X.w) X.A (getItem v (.ref sl)) (EP X pins σ Q) X.xe s
theorem SlR.or {r r':V->Option Int->Option Int->Hp->VK->Prop}(h:SlR X r)(h':SlR X r'):SlR X (fun x lo hi H Q=>r x lo hi H Q\/r' x lo hi H Q):=by
 intro pins s σ H x v vl vu lo hi sl Q I rx hs pl pu q
 rcases q with q|q
 ·exact h pins s σ H x v vl vu lo hi sl Q I rx hs pl pu q
 ·exact h' pins s σ H x v vl vu lo hi sl Q I rx hs pl pu q
def tSl (r:V->Option Int->Option Int->Hp->VK->Prop)(te:TE)(tl th:TO):TE:=fun σ H Q=>te σ H fun x H1=>tl σ H1 fun l H2=>th σ H2 fun u H3=>r x l u H3 Q
theorem pR {r:V->Option Int->Option Int->Hp->VK->Prop}(hr:SlR X r)(he:PE X e te)(hl:PO X lo tl)(hu:PO X hi th):PE X (.Subscript e (.Slice lo hi none p2) pos) (tSl r te tl th):=by
 intro pins s σ H Q I h
 refine Subscript_ (thn (he pins s σ H _ I h) fun v s1 qz=>?_)
 obtain⟨x,H1,I1,r1,q1⟩:=qz
 refine wpAny_Slice (thn (hl pins s1 σ H1 _ I1 q1) fun vl s2 ⟨l,H2,I2,pl,q2⟩=>thn (hu pins s2 σ H2 _ I2 q2) fun vu s3 qz=>?_)
 obtain⟨u,H3,I3,pu,q3⟩:=qz
 rw[evalPart_none]
 refine wpAny_pure ?_
 have I4:Inv X pins σ H3 {s3 with heap:=s3.heap.push {cls:=.type "slice",data:=.fields #[vl,vu,.none]}}:=I3.kept (t':=s3.toks) fun b ob q=>Heap.get?_push_of_some _ q
 obtain⟨T,id,hT,ht,hg⟩:=hr pins {s3 with heap:=s3.heap.push {cls:=.type "slice",data:=.fields #[vl,vu,.none]}} σ H3 x v vl vu l u s3.heap.objs.size Q I4 r1 (Heap.IsSliceOf.new ..) pl pu q3
 show wpAny (model X.prog X.w) X.A (subscriptTail e (.Slice lo hi none p2) v (.ref s3.heap.objs.size)) (EP X pins σ Q) X.xe {s3 with heap:=s3.heap.push {cls:=.type "slice",data:=.fields #[vl,vu,.none]}}
 exact tail_any (ops:=[.ref s3.heap.objs.size,v]) ht hT hg (by with_unfolding_all rfl)
def cutV (xs:List V)(lo hi:Option Int):List V:=(xs.drop (HT.sIx xs.length 0 lo)).take (HT.sIx xs.length xs.length hi - HT.sIx xs.length 0 lo)
theorem gR (xs:List V)(lo hi:Option Int):(cutV xs lo hi).length<=xs.length:=by
 unfold cutV
 rw[List.length_take,List.length_drop]
 omega
def rSlT (K:PySem.W.Frag):V->Option Int->Option Int->Hp->VK->Prop:=fun x lo hi H Q=> ∃a xs,x=.ref a/\SqT K H a xs/\
 ¬(HT.sIx xs.length 0 lo=0/\HT.sIx xs.length xs.length hi=xs.length)/\ ∀p,H p=none->Q (.ref p) (upd H p (.tup (cutV xs lo hi)))
theorem sl_tup:SlR X (rSlT X.K):=by
 intro pins s σ H x v vl vu lo hi sl Q I rx hs pl pu h
 obtain⟨a,xs,rfl,hx,hw,q⟩:=h
 cases rx
 obtain⟨its,r,ht,hz⟩:=I.tuple hx
 have hlen:its.toArray.size=xs.length:=by rw[List.size_toArray];exact r.length.symm
 refine⟨"tuple",_,PyProof.Rows.slot_tuple_getitem.lookup,ht.typeIs,?_⟩
 refine HT.getItem_tuple_cut ht hs pl pu (by rw[hlen];exact hw) ?_ (by rw[hlen];exact hz)
 rw[hlen]
 refine⟨.ref s.heap.objs.size,_,I.laid (t':=s.toks) (o:=.tup (cutV xs lo hi)) (fun b ob q=>Heap.get?_push_of_some _ q) (Nat.le_refl _) ?_,rfl,q _ (I.hok.fresh (Nat.le_refl _))⟩
 exact⟨Nat.le_trans (gR xs lo hi) hz,_,(r.drop (HT.sIx xs.length 0 lo)).take (HT.sIx xs.length xs.length hi - HT.sIx xs.length 0 lo),IsTupD.new _ _⟩
def rCatT (K:PySem.W.Frag):R2:=fun x y H Q=> ∃a b xs ys,x=.ref a/\y=.ref b/\SqT K H a xs/\SqT K H b ys/\xs≠ []/\xs.length+ys.length<=sizeLine/\
 (ys=[]->Q (.ref a) H)/\(ys≠ []-> ∀p,H p=none->Q (.ref p) (upd H p (.tup (xs++ys))))
theorem Vals.nil_iff {xs:List V}{us:List Value}(r:Vals xs us):us=[]↔xs=[]:=by
 cases r with
 |nil=>simp
 |cons _ _=>simp
theorem op_catT:OpR X (binaryOp .Add) (rCatT X.K):=by
 intro pins s σ H x y v u Q I rx ry h
 obtain⟨a,b,xs,ys,rfl,rfl,ha,hb,hx,hz,q1,q2⟩:=h
 cases rx
 cases ry
 obtain⟨its,r1,p1,_⟩:=I.tuple ha
 obtain⟨its2,r2,p2,_⟩:=I.tuple hb
 refine HT.cat_tup p1 p2 (fun z=>hx (r1.nil_iff.mp z)) (fun z=>⟨.ref a,H,I,rfl,q1 (r2.nil_iff.mp z)⟩) (fun z=>?_) (by rw[<-r1.length,<-r2.length];exact hz)
 refine⟨.ref s.heap.objs.size,_,I.laid (t':=s.toks) (o:=.tup (xs++ys)) (fun b ob q=>Heap.get?_push_of_some _ q) (Nat.le_refl _) ?_,rfl,q2 (fun w=>z (r2.nil_iff.mpr w)) _ (I.hok.fresh (Nat.le_refl _))⟩
 exact⟨by rw[List.length_append];exact hz,_,r1.append r2,IsTupD.new _ _⟩
end
end L2
namespace L2
open PySem PySem.Spec PyProof.Rows
noncomputable def ixN (n:Nat)(i:Int):Option Nat:=if 0<=i then (if i<n then some i.toNat else none) else if -(n:Int)<=i then some (i+n).toNat else none
def atI {α:Type}(xs:List α)(i:Int):Option α:=(ixN xs.length i).bind fun j=>xs[j]?
theorem nD {n:Nat}{i:Int}{j:Nat}(h:ixN n i=some j):seqIndex? i n=some j/\j<n/\ -(n:Int)<=i/\i<n:=by
 unfold ixN at h
 by_cases h0:0<=i
 ·rw[if_pos h0] at h
  by_cases h1:i<n
  ·rw[if_pos h1] at h
   have e:i.toNat=j:=Option.some.inj h
   exact⟨by rw[seqIndex_of h0 h1,e],by omega,by omega,h1⟩
  ·rw[if_neg h1] at h;cases h
 ·rw[if_neg h0] at h
  by_cases h1: -(n:Int)<=i
  ·rw[if_pos h1] at h
   have e:(i+n).toNat=j:=Option.some.inj h
   exact⟨by rw[seqIndex_neg (by omega) h1,e],by omega,h1,by omega⟩
  ·rw[if_neg h1] at h;cases h
theorem kC {α:Type}{xs:List α}{i:Int}{v:α}(h:atI xs i=some v): ∃j,seqIndex? i xs.length=some j/\xs[j]?=some v/\j<xs.length/\ -(xs.length:Int)<=i/\i<xs.length:=by
 unfold atI at h
 cases e:ixN xs.length i with
 |none=>rw[e] at h;cases h
 |some j=>
  rw[e] at h
  obtain⟨h1,h2,h3,h4⟩:=nD e
  exact⟨j,h1,h,h2,h3,h4⟩
theorem tf {α:Type}{xs:List α}{j:Nat}{v:α}(h:xs[j]?=some v):atI xs (j:Int)=some v:=by
 have hj:j<xs.length:=(List.getElem?_eq_some_iff.mp h).1
 have e:ixN xs.length (j:Int)=some j:=by
  unfold ixN
  rw[if_pos (by omega),if_pos (by omega)];simp
 unfold atI;rw[e];exact h
noncomputable def kE (b:Expr):Prop:= ∀o i,subscripted b false o i=operate [o,i] (getItem o i)
def IxR (X:Cx)(r:R2):Prop:=
 ∀ (value slice:Expr) (pins:List (Addr×Obj)) (s:Shared) (σ:St) (H:Hp) (x y:V) (v u:Value) (Q:VK),Inv X pins σ H s->RelV x v->RelV y u->r x y H Q->
   subscripted slice false v u=operate [v,u] (getItem v u)->wpAny (model X.prog X.w) X.A (subscriptTail value slice v u) (EP X pins σ Q) X.xe s
def MtR (X:Cx)(id:String)(r:V->List V->Hp->VK->Prop):Prop:=
 ∀ (pins:List (Addr×Obj)) (s:Shared) (σ:St) (H:Hp) (x:V) (xs:List V) (v:Value) (us:List Value) (Q:VK),Inv X pins σ H s->RelV x v->Vals xs us->r x xs H Q->
   wpAny (model X.prog X.w) X.A (call (.builtin id) (v::us)) (EP X pins σ Q) X.xe s
section
variable {X:Cx}{a b:Expr}{ta tb:TE}{pos:Pos}
theorem IxR.or {r r':R2}(h:IxR X r)(h':IxR X r'):IxR X (fun x y H Q=>r x y H Q\/r' x y H Q):=by
 intro value slice pins s σ H x y v u Q I rx ry q hs
 rcases q with q|q
 ·exact h value slice pins s σ H x y v u Q I rx ry q hs
 ·exact h' value slice pins s σ H x y v u Q I rx ry q hs
theorem tH {r:R2}(hr:IxR X r)(ha:PE X a ta)(hb:PE X b tb)(hs:kE b):PE X (.Subscript a b pos) (tOp r ta tb):=by
 intro pins s σ H Q I h
 exact Subscript_ (binT ha hb I h fun v u s2 x y H2 I2 rx ry q=>hr a b pins s2 σ H2 x y v u Q I2 rx ry q (hs _ _))
def rIxL (K:PySem.W.Frag):R2:=fun x y H Q=> ∃p xs i v,x=.ref p/\y=.int i/\SqL K H p xs/\atI xs i=some v/\Q v H
def rIxT (K:PySem.W.Frag):R2:=fun x y H Q=> ∃p xs i v,x=.ref p/\y=.int i/\SqT K H p xs/\atI xs i=some v/\Q v H
def rIxS:R2:=fun x y H Q=> ∃z i c,x=.str z/\y=.int i/\z.length<=sizeLine/\atI z.cps.toList i=some c/\Q (.str ⟨#[c]⟩) H
theorem ix_list:IxR X (rIxL X.K):=by
 intro value slice pins s σ H x y v u Q I rx ry h hs
 obtain⟨p,xs,i,z,rfl,rfl,hq,he,q⟩:=h
 cases rx
 obtain⟨t,rfl⟩:=ry
 obtain⟨its,r,pl,hz⟩:=I.list hq
 obtain⟨j,h1,h2,h3,h4,h5⟩:=kC he
 obtain⟨w,ew,rw'⟩:=r.get h2
 have hl:=r.length
 have hn:=fX
 have fin:EP X pins σ Q w s:=⟨z,H,I,rw',q⟩
 by_cases h0:0<=i
 ·have hj:i.toNat=j:=by
   rw[seqIndex_of h0 h5] at h1
   exact Option.some.inj h1
  exact item_listR pl.isList h0 (by omega) (by rw[hj];simpa using ew) fin hs
 ·have hj:(i+(its.toArray.size:Int)).toNat=j:=by
   rw[seqIndex_neg (by omega) h4] at h1
   rw[List.size_toArray,<-hl]
   exact Option.some.inj h1
  exact subscriptTail_builtinR (x:=w) pl.isList.typeIs slot_list_getitem.lookup
   (wpAny_getItem_list_neg (Q:=fun r s'=>r=w/\EP X pins σ Q r s') pl.isList (by omega) (by rw[List.size_toArray]<;>omega) (by omega) (by rw[hj];simpa using ew) ⟨rfl,fin⟩) hs
theorem ix_tup:IxR X (rIxT X.K):=by
 intro value slice pins s σ H x y v u Q I rx ry h hs
 obtain⟨p,xs,i,z,rfl,rfl,hq,he,q⟩:=h
 cases rx
 obtain⟨t,rfl⟩:=ry
 obtain⟨its,r,pl,hz⟩:=I.tuple hq
 obtain⟨j,h1,h2,h3,h4,h5⟩:=kC he
 obtain⟨w,ew,rw'⟩:=r.get h2
 have hl:=r.length
 have hn:=fX
 have fin:EP X pins σ Q w s:=⟨z,H,I,rw',q⟩
 exact subscriptTail_builtinR (x:=w) pl.typeIs slot_tuple_getitem.lookup
  (getItem_tuple (j:=j) (Q:=fun r s'=>r=w/\EP X pins σ Q r s') pl (by omega) (by omega) (by rw[List.size_toArray,<-hl];exact h1) (by simpa using ew) ⟨rfl,fin⟩) hs
theorem vh:IxR X rIxS:=by
 intro value slice pins s σ H x y v u Q I rx ry h hs
 obtain⟨z,i,c,rfl,rfl,hz,he,q⟩:=h
 obtain⟨t,rfl⟩:=rx
 obtain⟨t',rfl⟩:=ry
 obtain⟨j,h1,h2,h3,h4,h5⟩:=kC he
 have hl:z.cps.toList.length=z.length:=by simp [Str.length]
 rw[hl] at h1 h4 h5
 have hn:=fX
 exact tail_any (typeIs_str s z t) slot_str_getitem.lookup (getItem_str (c:=c) (by
  have e1:decide (i< -(2 ^ 63:Int))=false:=decide_eq_false (by omega)
  have e2:decide (i≥2 ^ 63)=false:=decide_eq_false (by omega)
  rw[e1,e2,Bool.or_false]) (by rw[h1];simpa using h2) ⟨.str ⟨#[c]⟩,H,I.tok _,⟨_,rfl⟩,q⟩) hs
def rIx (K:PySem.W.Frag):R2:=fun x y H Q=>rIxL K x y H Q\/rIxT K x y H Q\/rIxS x y H Q
theorem ix_seq:IxR X (rIx X.K):=ix_list.or (ix_tup.or vh)
theorem mF (its:List Value)(n j:Nat)(u:Value):Obj.mapSeq (·.setIfInBounds j u) {cls:=.type "list",data:=.seq its.toArray n}={cls:=.type "list",data:=.seq (its.set j u).toArray n}:=by
 simp [Obj.mapSeq]
theorem Inv.lst {pins:List (Addr×Obj)}{σ:St}{H:Hp}{s:Shared}{p:Addr}{xs:List V}(I:Inv X pins σ H s)(h:H p=some (.lst xs)):
  ∃ (its:List Value) (n:Nat),Vals xs its/\s.heap.get? p=some {cls:=.type "list",data:=.seq its.toArray n}/\xs.length<=sizeLine:=by
 obtain⟨z,its,n,r,e⟩:=I.hok p _ h
 exact⟨its,n,r,e,z⟩
theorem Inv.lstUpd {pins:List (Addr×Obj)}{σ:St}{H:Hp}{s:Shared}{p:Addr}{xs ys:List V}{its its':List Value}{n n':Nat}{f:Obj->Obj}(I:Inv X pins σ H s)(h:H p=some (.lst xs))
  (ho:s.heap.get? p=some {cls:=.type "list",data:=.seq its.toArray n})(hf:f {cls:=.type "list",data:=.seq its.toArray n}={cls:=.type "list",data:=.seq its'.toArray n'})(r:Vals ys its')(hz:ys.length<=sizeLine)(t:Nat):
  Inv X pins σ (upd H p (.lst ys)) {s with heap:=s.heap.update p f,toks:=t}:=by
 have e:(s.heap.update p f).get? p=some {cls:=.type "list",data:=.seq its'.toArray n'}:=by
  rw[Heap.get?_update_self f ho (by rw[hf]<;>rfl),hf]
 refine I.write (x:=p) (e:=p) (by rw[h];trivial) (.inl rfl) (fun b u hb q=>(Heap.get?_update_other _ _ (Ne.symm hb)).trans q) ⟨_,e⟩ ?_
 exact⟨hz,its',n',r,e⟩
def rSetL:V->V->V->Hp->(Hp->Prop)->Prop:=fun o i v H Q=> ∃p xs k j,o=.ref p/\i=.int k/\H p=some (.lst xs)/\ixN xs.length k=some j/\Q (upd H p (.lst (xs.set j v)))
theorem set_list:PSet X rSetL:=by
 intro pins s σ H o i v ov iv u Q I ro ri rv h
 obtain⟨p,xs,k,j,rfl,rfl,hp,hj,q⟩:=h
 cases ro
 obtain⟨t,rfl⟩:=ri
 obtain⟨its,n,r,ho,hz⟩:=I.lst hp
 obtain⟨h1,h2,h3,h4⟩:=nD hj
 have hl:=r.length
 have hn:=fX
 have I':Inv X pins σ (upd H p (.lst (xs.set j v))) {s with heap:=s.heap.update p (Obj.mapSeq (·.setIfInBounds j u))}:=
  I.lstUpd hp ho (mF its n j u) (r.set rv j) (by rw[List.length_set];exact hz) s.toks
 by_cases h0:0<=k
 ·have hk:k.toNat=j:=by
   rw[seqIndex_of h0 h4] at h1
   exact Option.some.inj h1
  exact PySem.W.ki_setAt ho h0 (by omega) (by rw[List.size_toArray,<-hl];exact h4) (by rw[hk];exact⟨_,I',q⟩)
 ·have hk:(k+(its.toArray.size:Int)).toNat=j:=by
   rw[seqIndex_neg (by omega) h3] at h1
   rw[List.size_toArray,<-hl]
   exact Option.some.inj h1
  exact PySem.W.ki_setBack ho (by omega) (by rw[List.size_toArray,<-hl];exact h3) (by omega) (by rw[hk];exact⟨_,I',q⟩)
theorem jM (lo hi:Option Int)(n:Nat):(sliceBounds lo hi none n).1=((HT.sIx n 0 lo:Nat):Int)/\(sliceBounds lo hi none n).2.1=((HT.sIx n n hi:Nat):Int)/\(sliceBounds lo hi none n).2.2=1:=by
 refine⟨?_,?_,rfl⟩
 ·cases lo with
  |none=>simp [sliceBounds,HT.sIx]
  |some i=>
   simp only[sliceBounds,HT.sIx,Option.getD_none,show (1:Int)>0 by decide,if_true]
   by_cases h:i<0
   ·simp only[h,if_true]<;>omega
   ·simp only[h,if_false]<;>omega
 ·cases hi with
  |none=>simp [sliceBounds,HT.sIx]
  |some i=>
   simp only[sliceBounds,HT.sIx,Option.getD_none,show (1:Int)>0 by decide,if_true]
   by_cases h:i<0
   ·simp only[h,if_true]<;>omega
   ·simp only[h,if_false]<;>omega
theorem i8 (its:List Value)(lo hi:Option Int):slicePick its.toArray lo hi none=((its.drop (HT.sIx its.length 0 lo)).take (HT.sIx its.length its.length hi - HT.sIx its.length 0 lo)).toArray:=by
 obtain⟨h1,h2,h3⟩:=jM lo hi its.toArray.size
 unfold slicePick
 rw[h1,h2,h3]
 simp only[sliceRange_one,pick_run,List.size_toArray]<;>rfl
def rSlL (K:PySem.W.Frag):V->Option Int->Option Int->Hp->VK->Prop:=fun x lo hi H Q=> ∃a xs,x=.ref a/\SqL K H a xs/\ ∀p,H p=none->Q (.ref p) (upd H p (.lst (cutV xs lo hi)))
theorem rM:SlR X (rSlL X.K):=by
 intro pins s σ H x v vl vu lo hi sl Q I rx hs pl pu h
 obtain⟨a,xs,rfl,hx,q⟩:=h
 cases rx
 obtain⟨its,r,ht,hz⟩:=I.list hx
 have hlen:=r.length
 refine⟨"list",_,slot_list_getitem.lookup,ht.isList.typeIs,?_⟩
 refine wpAny_getItem_list_slice ht.isList hs pl pu .none (by simp) ?_ (by rw[List.size_toArray]<;>omega)
 rw[i8,<-hlen]
 refine⟨.ref s.heap.objs.size,_,I.laid (t':=s.toks) (o:=.lst (cutV xs lo hi)) (fun b ob q=>Heap.get?_push_of_some _ q) (Nat.le_refl _) ?_,rfl,q _ (I.hok.fresh (Nat.le_refl _))⟩
 exact⟨Nat.le_trans (gR xs lo hi) hz,_,0,(r.drop (HT.sIx xs.length 0 lo)).take (HT.sIx xs.length xs.length hi - HT.sIx xs.length 0 lo),Heap.get?_push_size _ rfl⟩
noncomputable def eqV:V->V->Bool
 |.non,.non=>true
 |.bl a,.bl b=>a==b
 |.bl a,.int b=>(if a then 1 else 0)==b
 |.int a,.bl b=>a==(if b then 1 else 0)
 |.int a,.int b=>a==b
 |.str a,.str b=>a==b
 |_,_=>false
def inV (x:V)(xs:List V):Bool:=xs.any fun y=>eqV y x
theorem ku:CallR X (.builtin "len") (fun xs H Q=> ∃p ys,xs=[.ref p]/\(SqL X.K H p ys\/SqT X.K H p ys)/\Q (.int ys.length) H):=by
 intro pins s σ H xs us Q I r h
 obtain⟨p,ys,rfl,hq,q⟩:=h
 obtain⟨u,rfl,rx⟩:=vals1 r
 cases rx
 have hn:=fX
 rcases hq with hq|hq
 ·obtain⟨its,r',pl,hz⟩:=I.list hq
  have hlen:=r'.length
  exact Calls.call_len_list pl.isList (by simp only[List.size_toArray]<;>omega) ⟨.int ys.length,H,I.tok _,⟨s.toks+1,by rw[List.size_toArray,hlen]⟩,q⟩
 ·obtain⟨its,r',pl,hz⟩:=I.tuple hq
  have hlen:=r'.length
  exact len_tuple pl (by simp only[List.size_toArray]<;>omega) ⟨.int ys.length,H,I.tok _,⟨s.toks+1,by rw[List.size_toArray,hlen]⟩,q⟩
theorem call_len_str:CallR X (.builtin "len") (fun xs H Q=> ∃z,xs=[.str z]/\z.length<=sizeLine/\Q (.int z.length) H):=by
 intro pins s σ H xs us Q I r h
 obtain⟨z,rfl,hz,q⟩:=h
 obtain⟨u,rfl,t,rfl⟩:=vals1 r
 have hn:=fX
 exact len_str (by omega) ⟨.int z.length,H,I.tok _,⟨_,rfl⟩,q⟩
theorem CallR.or {f:Value}{r r':List V->Hp->VK->Prop}(h:CallR X f r)(h':CallR X f r'):CallR X f (fun xs H Q=>r xs H Q\/r' xs H Q):=by
 intro pins s σ H xs us Q I rs q
 rcases q with q|q
 ·exact h pins s σ H xs us Q I rs q
 ·exact h' pins s σ H xs us Q I rs q
theorem kr:CallR X (.type "list") (fun xs H Q=> ∃p ys,xs=[.ref p]/\(SqL X.K H p ys\/SqT X.K H p ys)/\ ∀l,H l=none->Q (.ref l) (upd H l (.lst ys))):=by
 intro pins s σ H xs us Q I r h
 obtain⟨p,ys,rfl,hq,q⟩:=h
 obtain⟨u,rfl,rx⟩:=vals1 r
 cases rx
 have fin: ∀ (its:List Value),Vals ys its->ys.length<=sizeLine-> ∀ (h':Heap) (c':Nat),(∀b o',s.heap.get? b=some o'->h'.get? b=some o')->
   h'.get? s.heap.objs.size=some {cls:=.type "list",dict:=none,data:=.seq its.toArray c',slots:= #[]}->EP X pins σ Q (.ref s.heap.objs.size) {s with heap:=h'}:=fun its r' hz h' c' kp e=>
  ⟨.ref s.heap.objs.size,_,I.laid (t':=s.toks) kp (Nat.le_refl _) (show ObjOk X.prog X.w _ h' _ (.lst ys) from⟨hz,its,c',r',e⟩),rfl,q _ (I.hok.fresh (Nat.le_refl _))⟩
 rcases hq with hq|hq
 ·obtain⟨its,r',pl,hz⟩:=I.list hq
  have hlen:=r'.length
  obtain⟨o,ho,hc,n,hd⟩:=pl.isList
  exact call_list_seq p (.inl rfl) ho hc hd (fun h' c' kp e=>fin its r' hz h' c' kp e) (by simp only[List.size_toArray]<;>omega)
 ·obtain⟨its,r',pl,hz⟩:=I.tuple hq
  have hlen:=r'.length
  obtain⟨o,ho,hc,n,hd⟩:=pl
  exact call_list_seq p (.inr rfl) ho hc hd (fun h' c' kp e=>fin its r' hz h' c' kp e) (by simp only[List.size_toArray]<;>omega)
theorem jl:CallR X (.type "tuple") (fun xs H Q=> ∃p ys,xs=[.ref p]/\((SqL X.K H p ys/\ ∀l,H l=none->Q (.ref l) (upd H l (.tup ys)))\/(SqT X.K H p ys/\Q (.ref p) H))):=by
 intro pins s σ H xs us Q I r h
 obtain⟨p,ys,rfl,h⟩:=h
 obtain⟨u,rfl,rx⟩:=vals1 r
 cases rx
 rcases h with⟨hq,q⟩|⟨hq,q⟩
 ·obtain⟨its,r',pl,hz⟩:=I.list hq
  have hlen:=r'.length
  refine call_tuple_list pl.isList (fun h' kp=>?_) (by simp only[List.size_toArray]<;>omega)
  have I1:Inv X pins σ H {s with heap:=h'}:=I.kept (t':=s.toks) kp
  have I2:Inv X pins σ (upd H h'.objs.size (.tup ys)) {s with heap:=h'.push {cls:=.type "tuple",data:=.seq its.toArray}}:=
   I1.laid (t':=s.toks) (fun b o e=>Heap.get?_push_of_some _ e) (Nat.le_refl _) (show ObjOk X.prog X.w _ _ _ (.tup ys) from⟨hz,its,r',IsTupD.new _ _⟩)
  exact⟨.ref h'.objs.size,_,I2,rfl,q _ (I1.hok.fresh (Nat.le_refl _))⟩
 ·obtain⟨its,r',pl,hz⟩:=I.tuple hq
  exact call_tuple_same pl ⟨.ref p,H,I,rfl,q⟩
def tyV (K:PySem.W.Frag)(T:String)(x:V)(H:Hp):Prop:=match x with
 |.str _=>T= "str"
 |.int _=>T= "int"
 |.ref p=>(T= "list"/\ ∃xs,SqL K H p xs)\/(T= "tuple"/\ ∃o,K.lookup p=some o/\o.cls=.type "tuple"/\o.dict=none)\/
  (T= "dict"/\((∃kvs,H p=some (.dK kvs))\/ ∃kvs,H p=some (.dT kvs)))\/(T= "set"/\ ∃S n,H p=some (.set S n))
 |_=>False
theorem t4 {pins:List (Addr×Obj)}{σ:St}{H:Hp}{s:Shared}{T:String}{x:V}{v:Value}(I:Inv X pins σ H s)(r:RelV x v)(ty:tyV X.K T x H):
  s.TypeIs v T/\ ∀a,v=.ref a-> ∃ob,s.heap.get? a=some ob/\ob.dict=none:=by
 cases x with
 |str z=>
  obtain⟨t,rfl⟩:=r
  cases (show T= "str" from ty)
  exact⟨typeIs_str s z t,fun _ e=>nomatch e⟩
 |int i=>
  obtain⟨t,rfl⟩:=r
  cases (show T= "int" from ty)
  exact⟨typeIs_int s i t,fun _ e=>nomatch e⟩
 |ref p=>
  cases r
  rcases ty with⟨rfl,xs,hq⟩|⟨rfl,o,hk,hc,hd⟩|⟨rfl,hk⟩|⟨rfl,S,n,hk⟩
  ·obtain⟨its,_,pl,_⟩:=I.list hq
   refine⟨pl.isList.typeIs,fun a e=>?_⟩
   cases e
   obtain⟨o,n,e,c,hd,_⟩:=pl
   exact⟨o,e,hd⟩
  ·refine⟨⟨o,I.kIn p o hk,hc⟩,fun a e=>?_⟩
   cases e
   exact⟨o,I.kIn _ o hk,hd⟩
  ·have z: ∃o,s.heap.get? p=some o/\o.ExactDict:=by
    rcases hk with⟨kvs,hk⟩|⟨kvs,hk⟩
    ·obtain⟨_,_,_,_,o,_,_,e,ex,_⟩:=I.hok p _ hk
     exact⟨o,e,ex⟩
    ·obtain⟨_,_,_,_,o,_,_,e,ex,_⟩:=I.hok p _ hk
     exact⟨o,e,ex⟩
   obtain⟨o,e,ex⟩:=z
   refine⟨⟨o,e,ex.1⟩,fun a e2=>?_⟩
   cases e2
   exact⟨o,e,ex.2.1⟩
  ·obtain⟨o,_,_,_,e,ex,_⟩:=I.hok p _ hk
   refine⟨⟨o,e,ex.1⟩,fun a e2=>?_⟩
   cases e2
   exact⟨o,e,ex.2.1⟩
 |_=>exact False.elim ty
def tBM (K:PySem.W.Frag)(T:String)(r:V->List V->Hp->VK->Prop)(to:TE)(t:TA):TE:=fun σ H Q=>to σ H fun x H1=>tyV K T x H1/\t σ H1 fun xs H2=>r x xs H2 Q
variable {o e:Expr}{es:List Expr}{to:TE}{t:TA}{name:Str}{apos cpos:Pos}{T id:String}{r:V->List V->Hp->VK->Prop}
theorem tJ (pa:PlainAttrs T)(slot:Slot T name id)(hty:typeOf (.builtin id)=pure (.type "method_descriptor"))(hm:MtR X id r)(ho:PE X o to)(ha:PA X (e::es) t)
  (hbase:attributeBase o name X.env (eval o X.env)=eval o X.env:=by rfl)
  (hfew:((backTo cpos (starEach (e::es) X.env)).all (fun x=>!x.1) && (backToKw cpos (keywordEach [] X.env)).all (fun x=>x.1.isSome)
   && decide ((e::es).length+([]:List Keyword).length+(if ([]:List Keyword).isEmpty then 0 else 1)<30))=true:=by rfl)
  (hline:(apos.endLine==cpos.line)=true:=by rfl)(hs:starEach (e::es) X.env=(false,eval e X.env)::starEach es X.env:=by rfl)(hplain:(backTo cpos (starEach es X.env)).any (·.1)=false:=by rfl):
  PE X (.Call (.Attribute o name apos) (e::es) [] cpos) (tBM X.K T r to t):=by
 intro pins s σ H Q I h
 refine wpAny_Call_method_late hbase hfew hline rfl (thn (ho pins s σ H _ I h) fun v s1 qz=>?_)
 obtain⟨x,H1,I1,r1,ty,q1⟩:=qz
 obtain⟨h1,h2⟩:=t4 I1 r1 ty
 refine⟨T,id,pa,slot,hty,h1,h2,?_⟩
 have hA:=ha cpos pins s1 σ H1 _ I1 q1
 rw[hs] at hA ⊢
 refine Calls.callWith_builtin (by show (false||(backTo cpos (starEach es X.env)).any (·.1))=false;rw[hplain]<;>rfl) (Calls.evalArgs_plain ?_)
 exact thn hA fun us s2 ⟨vs,H2,I2,r2,q2⟩=>hm pins s2 σ H2 x vs v us Q I2 r1 r2 q2
end
end L2
namespace L2
open PySem PySem.Spec PyProof.Rows
def MtM (X:Cx)(id:String)(r:V->List V->Hp->VK->Prop):Prop:=
 ∀ (pins:List (Addr×Obj)) (s:Shared) (σ:St) (H:Hp) (x:V) (xs:List V) (v:Value) (us:List Value) (Q:VK),Inv X pins σ H s->RelV x v->Vals xs us->r x xs H Q->
   wpAny (model X.prog X.w) X.A (call (.builtin id) (v::us)) (EP X pins σ Q) X.xe s
theorem Vals.one: ∀ {x:V}{us:List Value},Vals [x] us-> ∃u,us=[u]/\RelV x u
 :=by
 intro x us h
 cases h with
 |cons r q=>cases q;exact⟨_,rfl,r⟩
theorem Vals.two: ∀ {x y:V}{us:List Value},Vals [x,y] us-> ∃u v,us=[u,v]/\RelV x u/\RelV y v
 :=by
 intro x y us h
 cases h with
 |cons r q=>
  cases q with
  |cons q z=>cases z;exact⟨_,_,rfl,r,q⟩
theorem Vals.reverse {xs:List V}{us:List Value}(h:Vals xs us):Vals xs.reverse us.reverse:=by
 induction h with
 |nil=>exact .nil
 |cons r t ih=>rw[List.reverse_cons,List.reverse_cons];exact Vals.append ih (.cons r .nil)
theorem Vals.rep {xs:List V}{us:List Value}(h:Vals xs us): ∀k:Nat,Vals (List.replicate k xs).flatten (List.replicate k us).flatten
 |0=>.nil
 |k+1=>by
  rw[List.replicate_succ,List.replicate_succ,List.flatten_cons,List.flatten_cons]
  exact Vals.append h (Vals.rep h k)
theorem jC (its:List Value): ∀ (k:Nat) (acc:List Value),
  List.foldl (fun x1 x2=>x1++x2) acc.toArray (List.replicate k its.toArray)=(acc++(List.replicate k its).flatten).toArray
 |0,acc=>by simp
 |k+1,acc=>by
  have e:acc.toArray++its.toArray=(acc++its).toArray:=by simp
  have e2:(acc++its)++(List.replicate k its).flatten=acc++(List.replicate (k+1) its).flatten:=by
   rw[List.replicate_succ,List.flatten_cons,List.append_assoc]
  rw[<-e2,<-jC its k (acc++its),<-e,List.replicate_succ,List.foldl_cons]
section
variable {X:Cx}{pins:List (Addr×Obj)}{σ:St}{H:Hp}{s:Shared}{l b:Addr}{xs ys zs:List V}
theorem Inv.lset {its its':List Value}{n:Nat}{f:Array Value->Array Value}{t':Nat}(I:Inv X pins σ H s)(hH:H l=some (.lst xs))
  (e:s.heap.get? l=some {cls:=.type "list",data:=.seq its.toArray n})(hf:f its.toArray=its'.toArray)(hv:Vals ys its')(hz:ys.length<=sizeLine):
  Inv X pins σ (upd H l (.lst ys)) {s with heap:=s.heap.update l (Obj.mapSeq f),toks:=t'}:=by
 have q:=PySem.IsL.update e f
 rw[hf] at q
 refine I.write (x:=l) (e:=l) (by rw[hH];exact trivial) (.inl rfl) (fun b' u hb hu=>(Heap.get?_update_other s.heap (Obj.mapSeq f) (Ne.symm hb)).trans hu) ⟨_,q⟩ ?_
 exact⟨hz,its',_,hv,q⟩
theorem Inv.lnew {its:List Value}{t':Nat}(I:Inv X pins σ H s)(hv:Vals ys its)(hz:ys.length<=sizeLine):
  Inv X pins σ (upd H s.heap.objs.size (.lst ys)) {s with heap:=s.heap.push {cls:=.type "list",data:=.seq its.toArray},toks:=t'}:=
 I.laid (fun _ _ q=>Heap.get?_push_of_some _ q) (Nat.le_refl _) ⟨hz,its,0,hv,Heap.get?_push_size _ rfl⟩
theorem Inv.fresh (I:Inv X pins σ H s):H s.heap.objs.size=none:=I.hok.fresh (Nat.le_refl _)
theorem Inv.lstM (I:Inv X pins σ H s)(hH:H l=some (.lst xs)):xs.length<=sizeLine/\ ∃ (its:List Value) (n:Nat),Vals xs its/\xs.length=its.length/\s.heap.get? l=some {cls:=.type "list",data:=.seq its.toArray n}:=by
 obtain⟨z,its,n,r,e⟩:=I.hok l _ hH
 exact⟨z,its,n,r,r.length,e⟩
theorem lA {n:Nat}(h:n<=sizeLine):Builtin.List.listTooLong n=false:=by
 unfold Builtin.List.listTooLong
 exact decide_eq_false (by omega)
end
section
variable {X:Cx}
def rV:V->List V->Hp->VK->Prop:=fun x vs H Q=> ∃l xs y,x=.ref l/\vs=[y]/\H l=some (.lst xs)/\xs.length<sizeLine/\Q .non (upd H l (.lst (xs++[y])))
theorem oy:MtM X "list.append" rV:=by
 intro pins s σ H x vs v us Q I rx rv h
 obtain⟨l,xs,y,rfl,rfl,hH,hz,q⟩:=h
 cases rx
 obtain⟨u,rfl,ru⟩:=rv.one
 obtain⟨z,its,n,r,hl,e⟩:=I.lstM hH
 refine call_meets F.slot_list_append ⟨_,e,rfl⟩ F.entry_list_append (F.args_list_append_2 _ _) (PySem.list_append l its.toArray n u (by rw[List.size_toArray];omega)) ⟨e,?_⟩
 refine⟨.non,_,I.lset (its':=its++[u]) hH e (by simp) (r.append (.cons ru .nil)) ?_,rfl,q⟩
 rw[List.length_append,List.length_singleton]
 omega
def rT:V->List V->Hp->VK->Prop:=fun x vs H Q=> ∃l b xs zs,x=.ref l/\vs=[.ref b]/\H l=some (.lst xs)/\H b=some (.lst zs)/\xs.length+zs.length<=sizeLine/\Q .non (upd H l (.lst (xs++zs)))
theorem ox:MtM X "list.extend" rT:=by
 intro pins s σ H x vs v us Q I rx rv h
 obtain⟨l,b,xs,zs,rfl,rfl,hH,hB,hz,q⟩:=h
 cases rx
 obtain⟨u,rfl,ru⟩:=rv.one
 cases ru
 obtain⟨z,its,n,r,hl,e⟩:=I.lstM hH
 obtain⟨z2,its2,n2,r2,hl2,e2⟩:=I.lstM hB
 have hsz:its.toArray.size+its2.toArray.size<=sizeLine:=by rw[List.size_toArray,List.size_toArray];omega
 have hlong: ¬(!its.toArray.isEmpty && Builtin.List.listTooLong (its.toArray.size+its2.toArray.size))=true:=by
  rw[lA hsz,Bool.and_false]
  exact Bool.false_ne_true
 refine call_meets F.slot_list_extend ⟨_,e,rfl⟩ F.entry_list_extend (F.args_list_extend_2 _ _)
  (AutoSeq1.list_extend_list_list_0 l its.toArray n b its2.toArray n2 hlong (by rw[List.size_toArray];omega) (by omega)) ⟨e,e2,?_⟩
 refine⟨.non,_,I.lset (its':=its++its2) hH e (by simp) (r.append r2) ?_,rfl,q⟩
 rw[List.length_append]
 omega
def rCat:R2:=fun x y H Q=> ∃l b xs zs,x=.ref l/\y=.ref b/\H l=some (.lst xs)/\H b=some (.lst zs)/\xs.length+zs.length<=sizeLine/\ ∀p,H p=none->Q (.ref p) (upd H p (.lst (xs++zs)))
theorem uS:OpR X (binaryOp .Add) rCat:=by
 intro pins s σ H x y v u Q I rx ry h
 obtain⟨l,b,xs,zs,rfl,rfl,hH,hB,hz,q⟩:=h
 cases rx
 cases ry
 obtain⟨z,its,n,r,hl,e⟩:=I.lstM hH
 obtain⟨z2,its2,n2,r2,hl2,e2⟩:=I.lstM hB
 refine PySem.P.add_list e e2 ?_ (by rw[List.size_toArray,List.size_toArray];omega)
 have ea:its.toArray++its2.toArray=(its++its2).toArray:=by simp
 rw[ea]
 exact⟨.ref _,_,I.lnew (t':=s.toks) (r.append r2) (by rw[List.length_append];omega),rfl,q _ I.fresh⟩
def rRep:R2:=fun x y H Q=> ∃l k xs,x=.ref l/\y=.int k/\H l=some (.lst xs)/\ -(2 ^ 63)<=k/\k<2 ^ 63/\xs.length * k.toNat<=sizeLine/\
 ∀p,H p=none->Q (.ref p) (upd H p (.lst (List.replicate k.toNat xs).flatten))
theorem sO {α:Type}(xs:List α)(k:Nat):(List.replicate k xs).flatten.length=k * xs.length:=by
 induction k with
 |zero=>simp
 |succ k ih=>rw[List.replicate_succ,List.flatten_cons,List.length_append,ih,Nat.succ_mul,Nat.add_comm]
theorem uN:OpR X (binaryOp .Mult) rRep:=by
 intro pins s σ H x y v u Q I rx ry h
 obtain⟨l,k,xs,rfl,rfl,hH,h1,h2,hz,q⟩:=h
 cases rx
 obtain⟨t,rfl⟩:=ry
 obtain⟨z,its,n,r,hl,e⟩:=I.lstM hH
 have hlen:its.toArray.size * k.toNat<=sizeLine:=by rw[List.size_toArray,<-hl];exact hz
 have hcap: ¬its.toArray.size * k.toNat>(2 ^ 63 - 1) / 8:=by
  have:(sizeLine:Nat)<=(2 ^ 63 - 1) / 8:=by decide
  omega
 have hfit: ¬(!Builtin.List.listFitsIndex k)=true:=by
  rw[fitsIndex_both h1 h2]
  exact Bool.false_ne_true
 have hlong: ¬Builtin.List.listTooLong (its.toArray.size * k.toNat)=true:=by
  rw[lA hlen]
  exact Bool.false_ne_true
 have hnew:List.foldl (fun x1 x2=>x1++x2) #[] (List.replicate (if its.toArray.isEmpty=true then 0 else k.toNat) its.toArray)=(List.replicate k.toNat its).flatten.toArray:=by
  have f0: ∀m:Nat,List.foldl (fun x1 x2=>x1++x2) #[] (List.replicate m its.toArray)=(List.replicate m its).flatten.toArray:=fun m=>by
   have:=jC its m []
   rw[List.nil_append] at this
   exact this
  rw[f0]
  cases its with
  |nil=>simp
  |cons a r'=>rw[if_neg (by simp)]
 refine wpAny_binaryOp_repeat_ref (T:= "list") (U:= "int") (by decide) ⟨_,e,rfl⟩ (fun s'=>typeIs_int s' k t) noFill_list_mul F.fills_int_mul F.slot_int_rmul repeat_list F.slot_int_index.lookup
  (call_meets F.slot_int_rmul (typeIs_int s k t) F.entry_int_rmul (F.args_int_rmul_2 _ _) (int___rmul___int_list k t l its.toArray n)
   ⟨e,rfl,⟨_,e,rfl⟩,call_meets F.slot_list_mul ⟨_,e,rfl⟩ F.entry_list_mul (F.args_list_mul_2 _ _) (AutoListH.list___mul___list_int_3 l its.toArray n k t hfit hcap hlong) ⟨e,?_⟩⟩)
 rw[hnew]
 exact⟨.ref _,_,I.lnew (t':=s.toks) (r.rep k.toNat) (by rw[sO,Nat.mul_comm];exact hz),rfl,q _ I.fresh⟩
end
section
variable {prog:Program}{w:World}{A:Around}{E:Value->Shared->Prop}{s:Shared}
end
section
variable {X:Cx}
end
end L2
namespace L2
open PySem PySem.Spec PyProof.Rows
section
variable {κ:Type} [DecidableEq κ]
noncomputable def valV (kvs:List (κ×V))(k:κ):Option V:=(kvs.find? fun kv=>decide (kv.1=k)).map (·.2)
noncomputable def putK (kvs:List (κ×V))(k:κ)(v:V):List (κ×V):=
 if (kvs.any fun kv=>decide (kv.1=k))=true then kvs.map (fun kv=>if kv.1=k then (kv.1,v) else kv) else kvs++[(k,v)]
theorem fY {p:κ×V}{r:List (κ×V)}{k:κ}(e:p.1=k):valV (p::r) k=some p.2:=by simp [valV,List.find?_cons,e]
theorem fZ {p:κ×V}{r:List (κ×V)}{k:κ}(e:¬p.1=k):valV (p::r) k=valV r k:=by simp [valV,List.find?_cons,e]
theorem ir (k:κ): ∀kvs:List (κ×V),(kvs.any fun kv=>decide (kv.1=k))=(valV kvs k).isSome
 |[]=>rfl
 |p::r=>by
  rw[List.any_cons]
  by_cases e:p.1=k
  ·simp only[fY e,decide_eq_true e,Bool.true_or,Option.isSome_some]
  ·rw[fZ e,decide_eq_false e,Bool.false_or];exact ir k r
theorem eY (kvs:List (κ×V))(k:κ)(v:V):(putK kvs k v).length<=kvs.length+1:=by
 unfold putK
 split
 ·rw[List.length_map];omega
 ·rw[List.length_append,List.length_cons,List.length_nil];omega
theorem RelO.isSome_eq {o:Option V}{u:Option Value}(r:RelO o u):o.isSome=u.isSome:=by
 cases o with
 |none=>cases u with
  |none=>rfl
  |some _=>exact (show False from r).elim
 |some _=>cases u with
  |none=>exact (show False from r).elim
  |some _=>rfl
theorem RelO.getD {o:Option V}{u:Option Value}{d:V}{d':Value}(r:RelO o u)(rd:RelV d d'):RelV (o.getD d) (u.getD d'):=by
 cases o with
 |none=>cases u with
  |none=>exact rd
  |some _=>exact (show False from r).elim
 |some _=>cases u with
  |none=>exact (show False from r).elim
  |some _=>exact r
theorem KV.val {kvs:List (κ×V)}{vs:List (κ×Value)}(r:KV kvs vs)(k:κ):RelO (valV kvs k) (valueAt vs k):=by
 unfold KV at r
 induction r with
 |nil=>exact True.intro
 | @cons p q ps qs h t ih=>
   obtain⟨h1,h2⟩:=h
   by_cases e:p.1=k
   ·have e':q.1=k:=h1.symm.trans e
    have b:valueAt (q::qs) k=some q.2:=by simp [valueAt,List.find?_cons,e']
    rw[fY e,b];exact h2
   ·have e': ¬q.1=k:=fun z=>e (h1.trans z)
    have b:valueAt (q::qs) k=valueAt qs k:=by simp [valueAt,List.find?_cons,e']
    rw[fZ e,b];exact ih
theorem KV.any {kvs:List (κ×V)}{vs:List (κ×Value)}(r:KV kvs vs)(k:κ):(kvs.any fun kv=>decide (kv.1=k))=vs.any fun kv=>decide (kv.1=k):=by
 unfold KV at r
 induction r with
 |nil=>rfl
 |cons h t ih=>rw[List.any_cons,List.any_cons,ih,h.1]
theorem KV.repl {kvs:List (κ×V)}{vs:List (κ×Value)}(r:KV kvs vs)(k:κ){y:V}{u:Value}(ry:RelV y u):
  KV (kvs.map fun kv=>if kv.1=k then (kv.1,y) else kv) (vs.map fun kv=>if kv.1=k then (kv.1,u) else kv):=by
 unfold KV at r ⊢
 induction r with
 |nil=>exact .nil
 | @cons p q ps qs h t ih=>
   rw[List.map_cons,List.map_cons]
   refine .cons ?_ ih
   obtain⟨h1,h2⟩:=h
   by_cases e:p.1=k
   ·rw[if_pos e,if_pos (h1.symm.trans e)];exact⟨h1,ry⟩
   ·rw[if_neg e,if_neg (fun z=>e (h1.trans z))];exact⟨h1,h2⟩
theorem KV.put {kvs:List (κ×V)}{vs:List (κ×Value)}(r:KV kvs vs)(k:κ){y:V}{u:Value}(ry:RelV y u):KV (putK kvs k y) (stored vs k u):=by
 unfold putK stored
 rw[r.any k]
 by_cases e:(vs.any fun kv=>decide (kv.1=k))=true
 ·rw[if_pos e,if_pos e];exact r.repl k ry
 ·rw[if_neg e,if_neg e];exact Paired.snoc r ⟨rfl,ry⟩
theorem KV.length {kvs:List (κ×V)}{vs:List (κ×Value)}(r:KV kvs vs):kvs.length=vs.length:=Paired.length r
end
theorem qM {P:Program}{w:World}{k:Key}{u:Value}(r:RelV (kV k) u):(bz P w).is k u=true:=by
 cases k with
 |inl i=>obtain⟨t,e⟩:=(show∃t,u=Value.int i t from r);subst e;exact lE P w i t
 |inr x=>obtain⟨t,e⟩:=(show∃t,u=Value.str x t from r);subst e;exact lC P w x t
theorem gL {P:Program}{w:World}: ∀ {ks:List Key}{us:List Value},Vals (ks.map kV) us->ItemsAre (bz P w) ks us
 |[],_,r=>by rw[List.map_nil] at r;cases r;exact .nil
 |k::ks,_,r=>by
  rw[List.map_cons] at r
  cases r with
  |cons h t=>exact .cons (qM h) (gL t)
noncomputable abbrev KT (H:Hp):List (List Key×V)->List (List Key×Addr×Value)->Prop:=Paired fun p q=>p.1=q.1/\H q.2.1=some (.tup (p.1.map kV))/\RelV p.2 q.2.2
theorem KT.val {H:Hp}{kvs:List (List Key×V)}{xs:List (List Key×Addr×Value)}(r:KT H kvs xs)(k:List Key):RelO (valV kvs k) ((atKey xs k).map (·.2)):=by
 induction r with
 |nil=>exact True.intro
 | @cons p q ps qs h t ih=>
   obtain⟨h1,_,h2⟩:=h
   by_cases e:p.1=k
   ·have e':q.1=k:=h1.symm.trans e
    have b:atKey (q::qs) k=some q.2:=by simp [atKey,List.find?_cons,e']
    rw[fY e,b];exact h2
   ·have e': ¬q.1=k:=fun z=>e (h1.trans z)
    have b:atKey (q::qs) k=atKey qs k:=by simp [atKey,List.find?_cons,e']
    rw[fZ e,b];exact ih
theorem KT.repl {H:Hp}{kvs:List (List Key×V)}{xs:List (List Key×Addr×Value)}(r:KT H kvs xs)(k:List Key){y:V}{u:Value}(ry:RelV y u):
  KT H (kvs.map fun kv=>if kv.1=k then (kv.1,y) else kv) (xs.map (putAt k u)):=by
 induction r with
 |nil=>exact .nil
 | @cons p q ps qs h t ih=>
   rw[List.map_cons,List.map_cons]
   refine .cons ?_ ih
   obtain⟨h1,h2,h3⟩:=h
   unfold putAt
   by_cases e:p.1=k
   ·rw[if_pos e,if_pos (h1.symm.trans e)];exact⟨h1,h2,ry⟩
   ·rw[if_neg e,if_neg (fun z=>e (h1.trans z))];exact⟨h1,h2,h3⟩
theorem KT.put {H:Hp}{kvs:List (List Key×V)}{xs:List (List Key×Addr×Value)}(r:KT H kvs xs)(k:List Key){b:Addr}{y:V}{u:Value}(hb:H b=some (.tup (k.map kV)))(ry:RelV y u):
  KT H (putK kvs k y) (storedH xs k b u):=by
 have e:(kvs.any fun kv=>decide (kv.1=k))=(atKey xs k).isSome:=by
  rw[ir,(r.val k).isSome_eq,Option.isSome_map]
 unfold putK storedH
 rw[e]
 by_cases q:(atKey xs k).isSome=true
 ·rw[if_pos q,if_pos q];exact r.repl k ry
 ·rw[if_neg q,if_neg q];exact Paired.snoc r ⟨rfl,hb,ry⟩
theorem KT.keeps {H H':Hp}{kvs:List (List Key×V)}{xs:List (List Key×Addr×Value)}(r:KT H kvs xs)(ht: ∀b ys,H b=some (.tup ys)->H' b=some (.tup ys)):KT H' kvs xs:=
 Paired.mapP r fun _ _ z=>⟨z.1,ht _ _ z.2.1,z.2.2⟩
section
variable {P:Program}{w:World}{H:Hp}{h:Heap}{a:Addr}
theorem tE {u:HO}(ok:HOk P w H h)(e:Rd H a u):ObjOk P w H h a u:=e.ok ok
theorem nL {kvs:List (Key×V)}(ok:HOk P w H h)(e:Rd H a (.dK kvs)):kvs.length<=sizeLine/\(a==sysModules)=false/\ ∃vs,KV kvs vs/\h.DictOf (bz P w) a vs:=
 show ObjOk P w H h a (.dK kvs) from tE ok e
theorem wk {kvs:List (Key×V)}(ok:HOk P w H h)(e:H a=some (.dK kvs)):kvs.length<=sizeLine/\(a==sysModules)=false/\ ∃vs,KV kvs vs/\h.DictOf (bz P w) a vs:=nL ok (.inl e)
theorem mI {ks:List Key}(ok:HOk P w H h)(e:H a=some (.tup (ks.map kV))):(tupleKind (bz P w)).is h ks a:=by
 obtain⟨_,its,r,⟨o,h1,h2,n,h3⟩,_⟩:=(show ObjOk P w H h a (.tup (ks.map kV)) from ok a _ e)
 exact⟨o,its.toArray,n,h1,h2,h3,by simpa using gL r⟩
theorem lQ {kvs:List (List Key×V)}(ok:HOk P w H h)(e:Rd H a (.dT kvs)):kvs.length<=sizeLine/\(a==sysModules)=false/\
  ∃xs,KT H kvs xs/\h.DictOfH (tupleKind (bz P w)) a xs:=by
 obtain⟨z,y,xs,r,o,es,ep,h1,h2,h3,h4,h5⟩:=(show ObjOk P w H h a (.dT kvs) from tE ok e)
 refine⟨z,y,xs,r,o,es,ep,h1,h2,h3,h4,fun x hx=>?_,h5⟩
 have all: ∀ {l:List (List Key×V)}{m:List (List Key×Addr×Value)},KT H l m-> ∀x∈m,(tupleKind (bz P w)).is h x.1 x.2.1:=by
  intro l m q
  induction q with
  |nil=>intro x hx;exact nomatch hx
  | @cons p q ps qs hq t ih=>
    intro x hx
    rcases List.mem_cons.mp hx with e|hx
    ·subst e
     exact mI ok (by rw[<-hq.1];exact hq.2.1)
    ·exact ih x hx
 exact all r x hx
theorem wj {kvs:List (List Key×V)}(ok:HOk P w H h)(e:H a=some (.dT kvs)):kvs.length<=sizeLine/\(a==sysModules)=false/\
 ∃xs,KT H kvs xs/\h.DictOfH (tupleKind (bz P w)) a xs:=lQ ok (.inl e)
end
def DGet (H:Hp)(a:Addr)(y:V)(r:Option V):Prop:=
 (∃kvs k,Rd H a (.dK kvs)/\y=kV k/\r=valV kvs k)\/ ∃kvs k b,Rd H a (.dT kvs)/\y=.ref b/\H b=some (.tup (k.map kV))/\r=valV kvs k
def DPut (H:Hp)(a:Addr)(y v:V)(H':Hp):Prop:=
 (∃kvs k,H a=some (.dK kvs)/\y=kV k/\kvs.length<sizeLine/\H'=upd H a (.dK (putK kvs k v)))\/
 ∃kvs k b,H a=some (.dT kvs)/\y=.ref b/\H b=some (.tup (k.map kV))/\kvs.length<sizeLine/\H'=upd H a (.dT (putK kvs k v))
section
variable {X:Cx}{pins:List (Addr×Obj)}{σ:St}{H:Hp}{s:Shared}{a:Addr}{y v:V}{u r:Value}{o:Option V}{A:Around}{E:Value->Shared->Prop}
theorem Inv.big (I:Inv X pins σ H s):sysModules<s.heap.objs.size:=by
 have h:mainGlobals<s.heap.objs.size:=(I.mod.glob.keeps I.bk).lt
 exact Nat.lt_trans (by decide) h
theorem oT {Q:Value->Shared->Prop}(hu:A.units+1<cLine)(I:Inv X pins σ H s)(g:DGet H a y (some v))(ry:RelV y u)(h:∀w' s',Inv X pins σ H s'->RelV v w'->Q w' s'):
  wpAny (model X.prog X.w) A (getItem (.ref a) u) Q E s:=by
 rcases g with⟨kvs,k,e,ey,l⟩|⟨kvs,k,b,e,ey,eb,l⟩
 ·subst ey
  obtain⟨z,hd,vs,rel,dd⟩:=nL I.hok e
  obtain⟨w',hw,rw'⟩:=RelO.some_of (v:=v) (o:=valueAt vs k) (by rw[l];exact rel.val k)
  exact wpAny_getItem_of (qM ry) dd.mapOf hw (h w' _ (I.tok _) rw')
 ·subst ey
  cases (show u=Value.ref b from ry)
  obtain⟨z,hd,xs,rel,dd⟩:=lQ I.hok e
  obtain⟨w',hw,rw'⟩:=RelO.some_of (v:=v) (o:=(atKey xs k).map (·.2)) (by rw[l];exact rel.val k)
  obtain⟨p,hp,hp2⟩:=Option.map_eq_some_iff.mp hw
  refine wpAny_getItem_heap (tupleKind_room_in1 hu) (mI I.hok eb) dd hp ?_
  rw[hp2]
  exact h w' _ (I.tok _) rw'
theorem io {h':Heap}{t':Nat}{ob:HO}(I:Inv X pins σ H s)(mu:Mut (H a))(hs:Heap.SameBut a s.heap h')(he: ∃q,h'.get? a=some q)(new:ObjOk X.prog X.w (upd H a ob) h' a ob):
  Inv X pins σ (upd H a ob) {s with heap:=h',toks:=t'}:=
 I.write (x:=a) (e:=a) mu (.inl rfl) (fun b q hb z=>(hs.2 b hb).trans z) he new
theorem vp {P:Program}{w:World}{H':Hp}{h':Heap}{kvs:List (Key×V)}{vs:List (Key×Value)}(z:kvs.length<=sizeLine)(hd:(a==sysModules)=false)(rel:KV kvs vs)(dd:h'.DictOf (bz P w) a vs):
 ObjOk P w H' h' a (.dK kvs):=⟨z,hd,vs,rel,dd⟩
theorem oS {H':Hp}{Q:Unit->Shared->Prop}(hu:A.units+1<cLine)(I:Inv X pins σ H s)(g:DPut H a y v H')(ry:RelV y u)(rv:RelV v r)(h:∀s',Inv X pins σ H' s'->Q () s'):
  wpAny (model X.prog X.w) A (setItem (.ref a) u r) Q E s:=by
 rcases g with⟨kvs,k,e,ey,l,eH⟩|⟨kvs,k,b,e,ey,eb,l,eH⟩
 ·subst ey eH
  obtain⟨z,hd,vs,rel,dd⟩:=wk I.hok e
  have hz:vs.length<=sizeLine:=by rw[<-rel.length];exact z
  have hl:(putK kvs k v).length<=sizeLine:=by have:=eY kvs k v;omega
  refine wpAny_setItem_pairs (hsz:=hz) (qM ry) dd fun h' dd' hs=>h _ ?_
  have he: ∃q,h'.get? a=some q:=let ⟨q,_,_,hq,_⟩:=dd';⟨q,hq⟩
  exact io I (by rw[e];exact True.intro) hs he (vp hl hd (rel.put k rv) dd')
 ·subst ey eH
  cases (show u=Value.ref b from ry)
  obtain⟨z,hd,xs,rel,dd⟩:=wj I.hok e
  have hz:xs.length<=sizeLine:=by rw[<-Paired.length rel];exact z
  have hl:(putK kvs k v).length<=sizeLine:=by have:=eY kvs k v;omega
  refine wpAny_setItem_heap (hsz:=hz) (tupleKind_room_in1 hu) (mI I.hok eb) dd fun h' dd' hs=>h _ ?_
  obtain⟨q,es,ep,hq,h2,h3,h4,_,h5⟩:=dd'
  refine io I (by rw[e];exact True.intro) hs ⟨q,hq⟩ ⟨hl,hd,_,(rel.put k eb rv).keeps fun c ys ec=>?_,q,es,ep,hq,h2,h3,h4,h5⟩
  rw[au (we ec e (fun z=>nomatch z))]
  exact ec
end
section
variable {X:Cx}{pins:List (Addr×Obj)}{σ:St}{H:Hp}{s:Shared}{a:Addr}{kvs:List (Key×V)}{k:Key}{u:Value}{A:Around}{E:Value->Shared->Prop}
end
theorem lU {X:Cx}{pins:List (Addr×Obj)}{σ:St}{H:Hp}{s:Shared}{a:Addr}{y:V}{o:Option V}(I:Inv X pins σ H s)(g:DGet H a y o):s.TypeIs (.ref a) "dict":=by
 rcases g with⟨kvs,k,e,_,_⟩|⟨kvs,k,b,e,_,_,_⟩
 ·obtain⟨_,_,vs,_,dd⟩:=nL I.hok e
  exact dd.typeIs
 ·obtain⟨_,_,xs,_,dd⟩:=lQ I.hok e
  exact dd.typeIs
section
variable {X:Cx}{o i e value:Expr}{pos pos' tpos:Pos}{td ty tv:TE}
end
theorem q0 {P:Program}{w:World}{H:Hp}(h:Heap)(hb:sysModules<h.objs.size):ObjOk P w H (h.push {cls:=.type "dict",data:=.dict #[]}) h.objs.size (.dT []):=
 ⟨Nat.zero_le _,beq_eq_false_iff_ne.mpr (Ne.symm (Nat.ne_of_lt hb)),[],.nil,_,#[],0,Heap.get?_push_size _ rfl,⟨rfl,rfl,rfl⟩,rfl,rfl,List.nodup_nil⟩
def uf:TE:=fun _ H Q=> ∀p,H p=none->Q (.ref p) (upd H p (.dT []))
section
variable {X:Cx}{pos:Pos}
theorem pe_dnewT:PE X (.Dict [] [] pos) uf:=fun pins s σ H Q I h=>
 wpAny_Dict_empty ⟨.ref s.heap.objs.size,_,I.laid (a:=s.heap.objs.size) (o:=.dT []) (t':=s.toks) (fun _ _ q=>Heap.get?_push_of_some _ q) (Nat.le_refl _) (q0 s.heap I.big),rfl,h _ (I.hok.fresh (Nat.le_refl _))⟩
end
structure M2 (X:Cx)(o:Expr)(m:Str)(apos:Pos)(e f:Expr)(cpos:Pos):Prop where
 base:attributeBase o m X.env (eval o X.env)=eval o X.env
 few:((backTo cpos (starEach [e,f] X.env)).all (fun x=>!x.1) && (backToKw cpos (keywordEach [] X.env)).all (fun x=>x.1.isSome)
  && decide (([e,f]:List Expr).length+([]:List Keyword).length+(if ([]:List Keyword).isEmpty then 0 else 1)<30))=true
 line:(apos.endLine==cpos.line)=true
 trees:backTo cpos (starEach [e,f] X.env)=[(false,eval e X.env),(false,eval f X.env)]
def IsD (H:Hp)(a:Addr):Prop:=(∃kvs,Rd H a (.dK kvs))\/ ∃kvs,Rd H a (.dT kvs)
theorem vj {X:Cx}{pins:List (Addr×Obj)}{σ:St}{H:Hp}{s:Shared}{a:Addr}(I:Inv X pins σ H s)(d:IsD H a):
  s.TypeIs (.ref a) "dict"/\(∀b,Value.ref a=.ref b-> ∃ob,s.heap.get? b=some ob/\ob.dict=none)/\(a==sysModules)=false:=by
 rcases d with⟨kvs,e⟩|⟨kvs,e⟩
 ·obtain⟨_,hd,vs,_,dd⟩:=nL I.hok e
  refine⟨dd.typeIs,fun b q=>?_,hd⟩
  cases q
  obtain⟨ob,_,_,h1,h2,_⟩:=dd
  exact⟨ob,h1,h2.2.1⟩
 ·obtain⟨_,hd,xs,_,dd⟩:=lQ I.hok e
  refine⟨dd.typeIs,fun b q=>?_,hd⟩
  cases q
  obtain⟨ob,_,_,h1,h2,_⟩:=dd
  exact⟨ob,h1,h2.2.1⟩
section
variable {X:Cx}{pins:List (Addr×Obj)}{σ:St}{H:Hp}{s:Shared}{a:Addr}{y d:V}{u r:Value}{o:Option V}{A:Around}{E:Value->Shared->Prop}
end
section
variable {X:Cx}{o e f:Expr}{apos cpos:Pos}{td ty tx:TE}
end
section
variable {X:Cx}{pins:List (Addr×Obj)}{σ:St}{H:Hp}{s:Shared}{a:Addr}{kvs:List (Key×V)}{A:Around}{E:Value->Shared->Prop}
end
section
variable {X:Cx}{pins:List (Addr×Obj)}{σ:St}{H:Hp}{s:Shared}{a:Addr}{y:V}{u:Value}{A:Around}{E:Value->Shared->Prop}
end
end L2
namespace Att
open PySem PySem.W PySem.Calls PyProof.Rows
theorem g7 {P:Params}{h:Heap}: ∀ (ns:List Int) (vs:List Value),WellAll P h vs (ns.map WData.int)->IntsAre vs ns:=by
 intro ns
 induction ns with
 |nil=>
  intro vs w
  rw[List.map_nil] at w
  cases w
  exact .nil
 |cons n ns ih=>
  intro vs w
  rw[List.map_cons] at w
  cases w with
  |cons a b=>
   cases a
   exact .cons _ _ (ih _ b)
theorem oh {l:OpenLaw}{n:Nat}(hn:l.most=some n){P:Params}{h:Heap}{args:List WData}{vals:List Value}
  (hpre:l.row.toRowW.claim.pre args=true)(hwl:WellAll P h vals args):
  ∃a vs ns,vals=[Value.ref a]/\args=[WData.list (ns.map WData.int)]/\h.get? a=some {cls:=.type "list",data:=.seq vs.toArray}/\IntsAre vs ns/\ns.length<=n:=by
 have hsh:WShape.hasAll [] args [.list .int]=true:=(pre_splitW hpre).1
 have hc:l.pre.holds [] {args:=args}=true:=(pre_splitW hpre).2
 obtain⟨d,r,rfl,h1,h2⟩:=hasAllW_cons hsh
 obtain rfl:=hasAllW_nil h2
 obtain⟨xs,rfl,h3⟩:=hasW_list h1
 obtain⟨ns,rfl⟩:=items_int h3
 have hlen:ns.length<=n:=by
  unfold OpenLaw.pre at hc
  have h4:(WTm.not (.lt (.lit (.int (n:Int))) (.len (.arg 0)))).holds [] {args:=[.list (ns.map .int)]}=true:=by
   have h4:=(holds_andW hc).1
   rw[hn] at h4
   exact h4
  have h5:=condW_of h4 (w_not (w_lt w_lit (w_len_list (w_arg rfl))))
  rw[List.length_map] at h5
  refine Nat.le_of_not_lt fun q=>?_
  have q':(n:Int)<((ns.length:Nat):Int):=by omega
  first
   |(rw[decide_eq_true q'] at h5;exact absurd h5 (by decide))
   |(simp at h5;omega)
 cases hwl with
 |cons w1 w2=>
  cases w2
  cases w1 with
  |list ho hall=>exact⟨_,_,ns,rfl,rfl,ho,g7 ns _ hall,hlen⟩
theorem om (l:OpenLaw)(args:List WData):l.row.toRowW.claim.post args (.bool true) args=true:=
 postW_of (r:=l.row.toRowW) (X:=(true==true))
  (show WShape.has [] (.bool true) .bool=true by first|rfl|decide|simp [WShape.has,WShape.arms,WShape.armsAll])
  (show (WTm.eq .res (.lit (.bool true))).value [] {args:=args,res:=some (.bool true),after:=args}=some (.bool (true==true)) from w_eq_bool (w_res rfl) w_lit) rfl
theorem attach_call {l:OpenLaw}{n:Nat}{q:Program}{loose:List Str}{XP:(Str->Option Value)->Heap->Prop}{YP:World->Heap->Prop}{d:DefRec}
  (hn:l.most=some n)(hdf:d.params.defaults=[])
  (call: ∀ (w:World) (s₀ s₁:Shared) (mg mb:Str->Option Value) (fa:Addr) (o:Obj) (pm cd doc:Value) (a:Addr) (vs:List Value) (ns:List Int),
   Ground q loose [] XP w s₀ mg mb s₁.heap->YP w s₁.heap->
   s₁.heap.get? fa=some o->o.data=.func (docDef d.name d.params d.body d.scope pm cd doc)->s₁.heap.CodeRec cd d.name->mg d.name=some (.ref fa)->
   s₁.heap.get? a=some {cls:=.type "list",data:=.seq vs.toArray}->IntsAre vs ns->ns.length<=n->s₁.gens= #[]->
   codeAny (model l.prog w) callerA (.call (.ref fa) ⟨[.ref a],[]⟩) (fun r s'=>r=.ok (.ret (.bool true))/\OldK s₁.heap s'.heap/\s'.os=s₁.os/\AllBare s'.gens) s₁):
  WalkO q loose XP YP l.row.toRowW d [] (fun f vs=>PySem.call f vs):=by
 intro w s₀ s₁ mg mb G Y fa o pm cd doc dV kV ho hd hcd hD hmg hg args vals as hpre hlay hrd hwl hlo
 obtain rfl:dV=.none:=Dflts.none hD hdf
 obtain rfl:kV=.none:=Dflts.noKw hD
 obtain⟨a,vs,ns,rfl,rfl,hobj,hints,hlen⟩:=oh hn hpre hwl
 refine enter_call (codeAny_mono (call w s₀ s₁ mg mb fa o pm cd doc a vs ns G Y ho (fd_plain hd) hcd hmg hobj hints hlen hg) fun r s' hq=>?_)
 obtain⟨rfl,h2,h3,h4⟩:=hq
 exact⟨.inl ⟨.bool true,.bool true,[],rfl,fun _=>rfl,.bool true,om l _,fun _=>⟨List.Pairwise.nil,fun _ hm=>(nomatch hm)⟩⟩,h2,h3,h4⟩
section
variable {prog:Program}{w:World}{A:Around}{E:Value->Shared->Prop}{s:Shared}{K:Frag}
noncomputable def wr (h:Heap)(L d:Addr):List (Addr×Obj):=(List.range h.objs.size).filterMap fun a=>if a=L\/a=d then none else (h.get? a).map fun o=>(a,o)
end
end Att
namespace L2
open PySem PySem.Spec PyProof.Rows
theorem jm: ∀ {vs:List Value}{ns:List Int},IntsAre vs ns->Vals (ns.map V.int) vs
 |_,_,.nil=>.nil
 |_,_,.cons n t h=>.cons ⟨t,rfl⟩ (jm h)
def Only (H:Hp):Prop:= ∀b,H b=none\/ ∃o xs,H b=some (.frz o (.lst xs))
theorem qK {P:Program}{w:World}{K:PySem.W.Frag}{mg mb:Str->Option Value}{CX:CXT}{k:Nat}{fa a:Addr}{fd:FuncData}{x:Str}{sp:Sp}{s₁:Shared}{vs:List Value}{ns:List Int}
  (KX:K.In s₁.heap)(hns:s₁.heap.Ns mainGlobals mg)(hb:s₁.heap.Ns builtinsNs mb)(hbb: ∀x:Str,x≠ "__name__"->mb x=bootBuiltins x)(hlim:s₁.heap.NoLimit)(hg:s₁.gens= #[])
  (ha:s₁.heap.get? a=some {cls:=.type "list",data:=.seq vs.toArray})(hi:IntsAre vs ns)(hl:ns.length<=sizeLine)(hr:Room k callerA)
  (F:∀base:Heap,K.In base->base.Ns mainGlobals mg->FnOk P w K mg base CX k fa fd [x] sp)(hbind: ∀ (s:Shared) (u:Value),BindsTo s fd ⟨[u],[]⟩ [(x,u)])
  (hsp: ∀H:Hp,Only H->SqL K H a (ns.map V.int)->sp [.ref a] H (fun v _=>v=.bl true) fun _ _ _=>False)
  (hCX: ∀H e s',CX [] H s₁ (fun _ _ _=>False) e s'->False):
  codeAny (model P w) callerA (.call (.ref fa) ⟨[.ref a],[]⟩) (fun r s'=>r=.ok (.ret (.bool true))/\OldK s₁.heap s'.heap/\s'.os=s₁.os/\AllBare s'.gens) s₁:=by
 have rv:=jm hi
 have lenV:=hi.length
 have core: ∀H:Hp,Only H->SqL K H a (ns.map V.int)->HOk P w H s₁.heap->(∀b,H b≠none->b=a)->(H a≠none->K.lookup a=none)->
   codeAny (model P w) callerA (.call (.ref fa) ⟨[.ref a],[]⟩) (fun r s'=>r=.ok (.ret (.bool true))/\OldK s₁.heap s'.heap/\s'.os=s₁.os/\AllBare s'.gens) s₁:=by
  intro H hO hS hok hA hK
  have base_of: ∀ {b:Addr}{o:Obj},s₁.heap.get? b=some o->H b=none->(hidT s₁.heap H).get? b=some o:=fun e n=>qR e n
  have noA: ∀ {b:Addr}{o:Obj}{es:Array DictEntry}{ep:Nat},s₁.heap.get? b=some o->o.data=.dict es ep->H b=none:=fun{b o es ep} e d=>by
   cases q:H b with
   |none=>rfl
   |some u=>
    have e':b=a:=hA b (by rw[q];simp)
    subst e'
    rw[ha] at e;cases e
    have d':Data.seq vs.toArray _=Data.dict es ep:=d
    cases d'
  have nsK: ∀ {b:Addr}{m:Str->Option Value},s₁.heap.Ns b m->(hidT s₁.heap H).Ns b m:=fun{b m} ⟨o,es,ep,e,d,r⟩=>⟨o,es,ep,base_of e (noA e d),d,r⟩
  have hKb:K.In (hidT s₁.heap H):=fun b o e=>base_of (KX b o e) (by
   cases q:H b with
   |none=>rfl
   |some u=>
    have e':b=a:=hA b (by rw[q];simp)
    subst e'
    rw[hK (by rw[q];simp)] at e;cases e)
  have hM:Mod K mg (hidT s₁.heap H):=⟨hKb,nsK hns,⟨mb,nsK hb,hbb⟩,let ⟨mc,h1,h2⟩:=hlim;⟨mc,nsK h1,h2⟩⟩
  have e0:Env0 P w K mg (hidT s₁.heap H) callerA [] s₁ H:=⟨rfl,hM,fun b o e=>sE e,Nat.le_of_eq (oO _ _),trivial,fun b hb=>absurd (show b∈([]:List Addr) from hb) (by simp),hok,.of_eq hg⟩
  refine codeAny_mono ((F _ hKb (nsK hns)).run callerA [] s₁ H ⟨[.ref a],[]⟩ [.ref a] [.ref a] _ _ hr e0 (hbind s₁ (.ref a)) (.cons rfl .nil) (hsp H hO hS)) fun r s' h=>?_
  cases r with
  |error e=>exact (hCX H e s' h).elim
  |ok fl=>
   cases fl with
   |next=>exact False.elim h
   |brk=>exact False.elim h
   |cont=>exact False.elim h
   |ret u=>
    obtain⟨v,H',os,bare,un,hok',r',q⟩:=h
    have q':v=.bl true:=q
    subst q'
    obtain rfl:u=Value.bool true:=r'
    refine⟨rfl,OldK.of_keep fun b o e=>?_,os,bare⟩
    cases q:H b with
    |none=>exact un.keep b o e q (by intro z;exact absurd (show b∈([]:List Addr) from z) (by simp)) (by simp)
    |some u=>
     rcases hO b with z|⟨ob,xs,z⟩
     ·rw[q] at z;cases z
     ·have z2:=un.frzs b ob _ z
      obtain⟨e1,_⟩:=hok b _ z
      obtain⟨e2,_⟩:=hok' b _ z2
      rw[e] at e1;cases e1
      exact e2
 cases hk:K.lookup a with
 |some o=>
  have e:=KX a o hk
  rw[ha] at e
  cases e
  refine core (fun _=>none) (fun _=>.inl rfl) (.inr ⟨_,vs.toArray,_,hk,rfl,rfl,rfl,by rw[List.size_toArray,lenV];exact hl,by simpa using rv⟩) (fun b u z=>by have z':(none:Option HO)=some u:=z;cases z') (fun b z=>absurd rfl z) fun z=>absurd rfl z
 |none=>
  refine core (fun b=>if b=a then some (.frz {cls:=.type "list",data:=.seq vs.toArray} (.lst (ns.map V.int))) else none) (fun b=>?_) (.inl (.inr ⟨{cls:=.type "list",data:=.seq vs.toArray},if_pos rfl⟩)) (fun b u z=>?_) (fun b z=>?_) fun _=>hk
  ·by_cases hb:b=a
   ·exact .inr ⟨_,_,if_pos hb⟩
   ·exact .inl (if_neg hb)
  ·by_cases hb:b=a
   ·have z':=(if_pos hb).symm.trans z
    cases z'
    subst hb
    exact⟨ha,by rw[List.length_map];exact hl,vs,_,rv,ha⟩
   ·have z':=(if_neg hb).symm.trans z
    cases z'
  ·by_cases hb:b=a
   ·exact hb
   ·exact absurd (if_neg hb) z
end L2
namespace L2
open PySem PySem.Spec PyProof.Rows
noncomputable abbrev KOf {K:PySem.W.Frag}{h:Heap}(_:K.In h):PySem.W.Frag:=K
theorem walk_of {l:PySem.W.OpenLaw}{n k:Nat}{q:Program}{loose:List Str}{XP:(Str->Option Value)->Heap->Prop}{YP:World->Heap->Prop}{d:DefRec}{K:Params->PySem.W.Frag}{CX:World->CXT}{sp:World->Sp}{x:Str}
  (hn:l.most=some n)(hn2:n<=sizeLine)(hdf:d.params.defaults=[])(hr:Room k callerA)
  (hY: ∀ (w:World) (h:Heap),YP w h->(K w.params).In h)
  (F:∀ (w:World) (mg:Str->Option Value) (fa:Addr) (h:Heap),(K w.params).In h->h.Ns mainGlobals mg->mg d.name=some (.ref fa)->
    ∃fd:FuncData,(∀ (s:Shared) (u:Value),BindsTo s fd ⟨[u],[]⟩ [(x,u)])/\
     ∀base:Heap,(K w.params).In base->base.Ns mainGlobals mg->FnOk l.prog w (K w.params) mg base (CX w) k fa fd [x] (sp w))
  (hsp: ∀ (w:World) (H:Hp) (a:Addr) (ns:List Int),ns.length<=n->Only H->SqL (K w.params) H a (ns.map V.int)->sp w [.ref a] H (fun v _=>v=.bl true) fun _ _ _=>False)
  (hCX: ∀ (w:World) (H:Hp) (s:Shared) (e:Value) (s':Shared),CX w [] H s (fun _ _ _=>False) e s'->False):
  PySem.W.WalkO q loose XP YP l.row.toRowW d [] (fun f vs=>PySem.call f vs):=by
 refine Att.attach_call hn hdf fun w s₀ s₁ mg mb fa o pm cd doc a vs ns G Y ho hd hcd hmg hobj hints hlen hg=>?_
 have KX:=hY w _ Y
 obtain⟨fd,hb,hF⟩:=F w mg fa _ KX G.T.g hmg
 exact qK KX G.T.g G.T.b G.T.builtins G.T.nolimit hg hobj hints (Nat.le_trans hlen hn2) hr hF hb (fun H hO hS=>hsp w H a ns hlen hO hS) fun H e s'=>hCX w H s₁ e s'
end L2
namespace L2
open PySem PySem.Spec PyProof.Rows
noncomputable def aG (s:Stmt):Arguments:=match s with
 |.FunctionDef _ a _ _ _ _ _ _ _ _=>a
 |_=>{posonlyargs:=[],args:=[],vararg:=none,kwonlyargs:=[],kw_defaults:=[],kwarg:=none,defaults:=[]}
noncomputable def aB (s:Stmt):List Stmt:=match s with
 |.FunctionDef _ _ b _ _ _ _ _ _ _=>b
 |_=>[]
noncomputable def ai (s:Stmt):Scope:=match s with
 |.FunctionDef _ _ _ _ _ _ sc _ _ _=>sc
 |_=>{kind:=.function,names:=[],isGenerator:=false,isCoroutine:=false}
noncomputable abbrev CX0:CXT:=fun _ _ _ _ _ _=>False
noncomputable abbrev E0:XK:=fun _ _ _=>False
theorem pass0 {X:Cx}:mO CX0 X E0:=fun _ _ _ _ _ _ _ h=>h.elim
structure Fun (K:PySem.W.Frag)(x qual:Str)(st:Stmt)(f:Addr)(fd:FuncData):Prop where
 ex: ∃ (oc:Value) (od:Option Addr) (kV doc pm:Value) (an:Option Addr) (cdv ct:Value) (osl:Array (Option Value)),
  fd=fnOf x qual (aG st) (aB st) (ai st) .none kV doc pm an cdv ct/\K.lookup f=some ⟨oc,od,.func fd,osl⟩/\codeIn K cdv qual=true
 kp:keepIn K (.ref f)=true
section
variable {P:Program}{w:World}{K:PySem.W.Frag}{mg:Str->Option Value}{base:Heap}
theorem Fun.ok {x qual:Str}{st:Stmt}{f:Addr}{fd:FuncData}{N ps:List Str}{k:Nat}{sp:Sp}(F:Fun K x qual st f fd)(S:FnScope N ps (ai st))(len: ∀vs H Q E,sp vs H Q E->vs.length=ps.length)
  (hbody: ∀ (cdv:Value) (A:Around) (outer:List Env) (s:Shared) (H:Hp) (vs:List V) (Q:VK) (E:XK),Room k (A.deeper (envOfC qual (ai st) s.heap.objs.size f cdv))->sp vs H Q E->
   ∃t,PSs (cxOf CX0 P w K mg base N qual (ai st) f cdv A outer s H E).nox (aB st) t/\t {nx:=fun _ H'=>Q .non H',rt:=Q} (start N vs) H):FnOk P w K mg base CX0 (k+1) f fd ps sp:=by
 obtain⟨oc,od,kV,doc,pm,an,cdv,ct,osl,rfl,lk,hcd⟩:=F.ex
 refine wf lk hcd S len fun A outer s H vs Q E hr hsp=>?_
 obtain⟨t,h,q⟩:=hbody cdv A outer s H vs Q E hr hsp
 exact⟨t,h.nox,q⟩
theorem Fun.binds {x qual:Str}{st:Stmt}{f:Addr}{fd:FuncData}{ps:List Str}(F:Fun K x qual st f fd)
  (h:∀ (kV doc pm:Value) (an:Option Addr) (cdv ct:Value) (us:List Value),us.length=ps.length->bindArgs (fnOf x qual (aG st) (aB st) (ai st) .none kV doc pm an cdv ct) ⟨us,[]⟩=pure (ps.zip us)):Binds K fd ps []:=by
 obtain⟨oc,od,kV,doc,pm,an,cdv,ct,osl,rfl,lk,hcd⟩:=F.ex
 exact .all (h kV doc pm an cdv ct)
theorem aX {x qual:Str}{st:Stmt}{f:Addr}{oc:Value}{od an:Option Addr}{osl:Array (Option Value)}{kV doc pm cdv ct:Value}(l:K.lookup f=some ⟨oc,od,.func (fnOf x qual (aG st) (aB st) (ai st) .none kV doc pm an cdv ct),osl⟩)
 (c:codeIn K cdv qual=true)(k:keepIn K (.ref f)=true):Fun K x qual st f (fnOf x qual (aG st) (aB st) (ai st) .none kV doc pm an cdv ct):=⟨⟨oc,od,kV,doc,pm,an,cdv,ct,osl,rfl,l,c⟩,k⟩
end
theorem bE {A:Around}{k:Nat}(hr:Room k A):A.units+1<cLine:=Nat.lt_of_le_of_lt (Nat.add_le_add_left (by decide:1<=64) _) hr.units
section
variable {X:Cx}
theorem pv (i:Nat){x:Str}{pos:Pos}(hN:X.N[i]?=some x:=by rfl)(hv:Vis X.env.scope x:=by first|exact Or.inl rfl|exact Or.inr (Or.inl rfl)|exact Or.inr (Or.inr rfl))(hd:(x==("__debug__":Str))=false:=by decide)
 (hcd:(x==("__classdict__":Str))=false:=by decide):PE X (.Name x pos) (tVar i):=uF hN hv hd hcd
end
theorem iteF {A B:Prop}(h:B):if false=true then A else B:=by
 rw[if_neg Bool.false_ne_true]
 exact h
theorem iteT {A B:Prop}(h:A):if true=true then A else B:=by
 rw[if_pos rfl]
 exact h
section
variable {κ:Type} [DecidableEq κ]
end
end L2
namespace L2
open PySem PySem.Spec PyProof.Rows
theorem iY {α β:Type}{f:α->β->Sem (ForInStep β)}(g:α->β->β): ∀ (l:List α) (c:β),(∀x∈l,∀c,f x c=pure (.yield (g x c)))->forIn l c f=pure (l.foldl (fun c x=>g x c) c)
 |[],_,_=>rfl
 |x::l,c,h=>by
  rw[List.forIn_cons,h x List.mem_cons_self,pure_bind]
  exact iY g l (g x c) fun y hy=>h y (List.mem_cons_of_mem _ hy)
noncomputable def bR (env:Env)(p:Str×NameKind)(cs:List (Str×Addr)):List (Str×Addr):=if (p.2==NameKind.free)=true then (p.1,(env.cells.lookup p.1).getD 0)::cs else cs
def cloOf (scope:Scope)(env:Env):List (Str×Addr):=scope.names.foldl (fun c x=>bR env x c) []
theorem mL {scope:Scope}{env:Env}(h:∀p∈scope.names,p.2=.free-> ∃c,env.cells.lookup p.1=some c):closureFor scope env=pure (cloOf scope env):=by
 unfold cloOf
 simp only[closureFor]
 rw[iY (bR env)]
 ·rfl
 ·intro x hx c
  obtain⟨n,k⟩:=x
  by_cases hk:k=.free
  ·subst hk
   obtain⟨a,ha⟩:=h _ hx rfl
   have ha:env.cells.lookup n=some a:=ha
   simp [bR,cellOf,ha]
  ·have:(k==NameKind.free)=false:=by simpa using hk
   simp [bR,this]
theorem i3 (env:Env): ∀ (l:List (Str×NameKind)) (c:List (Str×Addr)),(∀p∈l,p.2=.free-> ∃a,env.cells.lookup p.1=some a)->
  (∀y a,c.lookup y=some a->env.cells.lookup y=some a)-> ∀y a,(l.foldl (fun c x=>bR env x c) c).lookup y=some a->env.cells.lookup y=some a
 |[],_,_,h,y,a,e=>h y a e
 |(n,k)::r,c,hf,h,y,a,e=>by
  refine i3 env r (bR env (n,k) c) (fun p hp=>hf p (List.mem_cons_of_mem _ hp)) (fun z b q=>?_) y a e
  unfold bR at q
  split at q
  ·rename_i hk
   obtain⟨d,hd⟩:=hf (n,k) List.mem_cons_self (by simpa using hk)
   have hd:env.cells.lookup n=some d:=hd
   rw[List.lookup_cons] at q
   split at q
   ·rename_i hz
    have:z=n:=by simpa using hz
    subst this
    rw[hd] at q ⊢
    simpa using q
   ·exact h z b q
  ·exact h z b q
theorem lV (env:Env): ∀ (l:List (Str×NameKind)) (c:List (Str×Addr)) (y:Str),(∃a,c.lookup y=some a)-> ∃a,(l.foldl (fun c x=>bR env x c) c).lookup y=some a
 |[],_,_,h=>h
 |(n,k)::r,c,y,h=>by
  refine lV env r _ y ?_
  show∃a,(bR env (n,k) c).lookup y=some a
  unfold bR
  split
  ·rw[List.lookup_cons]
   split
   ·exact⟨_,rfl⟩
   ·exact h
  ·exact h
theorem nR (env:Env): ∀ (l:List (Str×NameKind)) (c:List (Str×Addr)) (y:Str),(y,NameKind.free)∈l-> ∃a,(l.foldl (fun c x=>bR env x c) c).lookup y=some a
 |(n,k)::r,c,y,h=>by
  rcases List.mem_cons.mp h with e|h
  ·obtain⟨rfl,rfl⟩:=Prod.mk.inj e
   refine lV env r _ y ⟨(env.cells.lookup y).getD 0,?_⟩
   show (bR env (y,.free) c).lookup y=_
   unfold bR
   rw[if_pos (by rfl),List.lookup_cons]
   simp
  ·exact nR env r _ y h
structure CScope (X:Cx)(ls:List Str)(scope:Scope):Prop where
 kind:scope.kind=.function
 nocell: ∀y∈scope.names,y.2≠.cell
 names: ∀y∈scope.names,y.2=.local ->scope.names.lookup y.1=some .local
 loc: ∀y,scope.names.lookup y=some .local ->y∈ls
 free: ∀y∈scope.names,y.2=.free->X.env.kindOf y.1=some .cell\/X.env.kindOf y.1=some .free
 noq: ∀y∈ls,∀k,scope.names.lookup ⟨#[63]++y.cps⟩≠some k
noncomputable def hid (ls:List Str)(y:Str):Str:=if ls.contains y then⟨#[63]++y.cps⟩ else y
def cxC (X:Cx)(ls:List Str)(scope:Scope)(C:Addr)(s2:Shared)(H2:Hp)(fp:List Addr):Cx where
 prog:=X.prog
 w:=X.w
 K:=X.K
 mg:=X.mg
 base:=X.base
 A:=X.A
 N:=ls++X.N.map (hid ls)
 s₀:=s2
 H₀:=H2
 env:=compEnvC scope (cloOf scope X.env) C X.env
 outer:=X.stack
 stack:=X.stack
 ex:=fp
 calm:=X.calm
 fn:=fun _=>false
 pn:=[]
 xe:=fun _ _=>False
theorem bL {env:Env}{y:Str}: ∀ {names:List (Str×NameKind)}{k:NameKind},(names.map fun (n,k)=>if (k==NameKind.free && env.scope.kind==.function && env.kindOf n==some .cell) then (n,NameKind.cell) else (n,k)).lookup y=some k->
  names.lookup y=some k\/(names.lookup y=some .free/\k=.cell)
 |[],_,h=>by simp at h
 |(n,j)::r,k,h=>by
  have ih:= @bL env y r k
  replace h:List.lookup y ((if (j==NameKind.free && env.scope.kind==.function && env.kindOf n==some .cell)=true then (n,NameKind.cell) else (n,j))::(r.map fun (n,k)=>if (k==NameKind.free && env.scope.kind==.function && env.kindOf n==some .cell) then (n,NameKind.cell) else (n,k)))=some k:=h
  by_cases hc:(j==NameKind.free && env.scope.kind==.function && env.kindOf n==some .cell)=true
  ·rw[if_pos hc,List.lookup_cons] at h
   rw[List.lookup_cons]
   cases hx:y==n with
   |true=>
    rw[hx] at h
    simp only[Bool.and_eq_true] at hc
    have hj:j=.free:=by simpa using hc.1.1
    subst hj
    have h:some NameKind.cell=some k:=h
    cases h
    exact .inr ⟨rfl,rfl⟩
   |false=>
    rw[hx] at h
    exact ih h
  ·rw[if_neg hc,List.lookup_cons] at h
   rw[List.lookup_cons]
   cases hx:y==n with
   |true=>rw[hx] at h;exact .inl h
   |false=>rw[hx] at h;exact ih h
def hides (N ls:List Str)(σ:St):Bool:=true
theorem oN {X:Cx}{pins:List (Addr×Obj)}{σ:St}{H2:Hp}{s2:Shared}{ls:List Str}{scope:Scope}{fp:List Addr}{C:Addr}{h1:Heap}{m:Str->Option Value}{tk:Nat}
  (I:Inv X pins σ H2 s2)(S:CScope X ls scope)(hh:hides X.N ls σ=true)(f2: ∀b∈fp,FpOk X pins H2 b)(ho: ∀b∈fp,∃o,s2.heap.get? b=some o)(hC:s2.heap.objs.size<=C)(hn:h1.Ns C m)
  (old: ∀b o,s2.heap.get? b=some o->h1.get? b=some o):
  Inv (cxC X ls scope C s2 H2 fp) [] (List.replicate ls.length none++σ) H2 {s2 with heap:=h1,toks:=tk}:=by
 have cf: ∀p∈scope.names,p.2=.free-> ∃c,X.env.cells.lookup p.1=some c:=fun p hp e=>I.ok.has _ (S.free p hp e)
 have c1: ∀y a,(cloOf scope X.env).lookup y=some a->X.env.cells.lookup y=some a:=i3 X.env scope.names [] cf (fun y a e=>by simp at e)
 have c2: ∀y,scope.names.lookup y=some .free-> ∃a,(cloOf scope X.env).lookup y=some a:=fun y hy=>nR X.env scope.names [] y (PySem.mem_of_lookup hy)
 have lt2: ∀b∈fp,b<s2.heap.objs.size:=fun b hb=>let ⟨o,e⟩:=ho b hb;Heap.lt_size e
 have kinds: ∀y k,(relabel scope X.env).names.lookup y=some k->k=.cell\/k=.free->scope.names.lookup y=some .free:=fun y k h hk=>by
  rcases bL (env:=X.env) h with q|⟨q,_⟩
  ·rcases hk with rfl|rfl
   ·exact absurd rfl (S.nocell _ (PySem.mem_of_lookup q))
   ·exact q
  ·exact q
 refine⟨⟨I.ok.mod,S.kind,I.ok.glob,I.ok.blt,hC,fun x y c e1 e2=>I.ok.inj x y c (c1 x c e1) (c1 y c e2),fun x hx=>?_,fun x c h=>absurd h Bool.false_ne_true,I.ok.hd,I.ok.frames,.inl rfl,fun b hb=>⟨?_,fun x c e=>(f2 b hb).2.2.2.2.1 x c (c1 x c e)⟩,I.bs,Nat.le_trans I.ok.bsz I.sz,fun b o e hb=>?_,fun b hb hz=>?_,I.stack,I.stkFree⟩,
  rfl,I.bare,Un.kept old,⟨m,hn,fun i y v e1 e2 e3=>?_⟩,fun x c e=>?_,I.hok.fresh hC,fun x c e=>I.freeC x c (c1 x c e),fun p hp=>absurd (show p∈([]:List (Addr×Obj)) from hp) (by simp),I.hok.kept old,?_⟩
 ·have hx:(relabel scope X.env).names.lookup x=some .cell\/(relabel scope X.env).names.lookup x=some .free:=hx
  rcases hx with hx|hx
  ·exact c2 x (kinds x _ hx (.inl rfl))
  ·exact c2 x (kinds x _ hx (.inr rfl))
 ·exact Nat.ne_of_lt (Nat.lt_of_lt_of_le (lt2 b hb) hC)
 ·rcases (f2 b hb).2.2.2.1 with z|z
  ·exact I.ok.noex b o e z
  ·exact absurd (Nat.lt_of_lt_of_le (Heap.lt_size e) (Nat.le_trans I.ok.bsz z)) (Nat.lt_irrefl _)
 ·rcases List.mem_cons.mp (I.stkSub b hz) with z|z
  ·exact (f2 b hb).2.1 z
  ·exact (f2 b hb).2.2.1 z
 ·have e1:(ls++X.N.map (hid ls))[i]?=some y:=e1
  by_cases hi:i<ls.length
  ·rw[List.getElem?_append_left (by simpa using hi),List.getElem?_replicate] at e2
   rw[if_pos hi] at e2
   cases e2
  ·rw[List.getElem?_append_right (by omega)] at e1
   rw[List.getElem?_append_right (by simpa using hi),List.length_replicate] at e2
   rw[List.getElem?_map] at e1
   obtain⟨y0,e1',ey⟩:=Option.map_eq_some_iff.mp e1
   have e3:(relabel scope X.env).names.lookup y=some .local \/(relabel scope X.env).names.lookup y=some .cell\/(relabel scope X.env).names.lookup y=some .free:=e3
   have ny:y0 ∉ ls:=fun hm=>by
    unfold hid at ey
    rw[if_pos (by simpa using hm)] at ey
    subst ey
    have no: ∀k,(relabel scope X.env).names.lookup ⟨#[63]++y0.cps⟩=some k->False:=fun k q=>by
     rcases bL (env:=X.env) q with z|⟨z,_⟩
     ·exact S.noq y0 hm _ z
     ·exact S.noq y0 hm _ z
    rcases e3 with q|q|q<;>exact no _ q
   unfold hid at ey
   rw[if_neg (by simpa using ny)] at ey
   rw[ey] at e1' ny
   have e1:=e1'
   have fr:scope.names.lookup y=some .free:=by
    rcases e3 with q|q|q
    ·rcases bL (env:=X.env) q with z|⟨_,z⟩
     ·exact absurd (S.loc y z) ny
     ·cases z
    ·exact kinds y _ q (.inl rfl)
    ·exact kinds y _ q (.inr rfl)
   have kx:=S.free _ (PySem.mem_of_lookup fr) rfl
   obtain⟨m2,_,hl⟩:=I.loc
   obtain⟨u,r,l⟩:=hl _ y v e1 e2 (.inr kx)
   refine⟨u,r,?_⟩
   have knd:(relabel scope X.env).names.lookup y=some .cell\/(relabel scope X.env).names.lookup y=some .free:=by
    rcases e3 with q|q
    ·rcases bL (env:=X.env) q with z|⟨_,z⟩
     ·exact absurd (S.loc y z) ny
     ·cases z
    ·exact q
   rcases l with⟨k1,_⟩|⟨_,c,hc,hcell⟩
   ·have kx:X.env.kindOf y=some .cell\/X.env.kindOf y=some .free:=kx
    rcases kx with z|z<;>(rw[k1] at z;cases z)
   ·obtain⟨c',hc'⟩:=c2 y fr
    have:=c1 y c' hc'
    rw[hc] at this
    cases this
    refine .inr ⟨knd,c,hc',?_⟩
    obtain⟨o,ho,hd⟩:=hcell
    exact⟨o,old _ _ ho,hd⟩
 ·obtain⟨v,o,ho,hd⟩:=I.cell x c (c1 x c e)
  exact⟨v,o,old _ _ ho,hd⟩
 ·show (List.replicate ls.length none++σ).length=(ls++X.N.map (hid ls)).length
  rw[List.length_append,List.length_append,List.length_replicate,List.length_map,I.len]
theorem qQ {X:Cx}{pins:List (Addr×Obj)}{σ σ':St}{H2 H3:Hp}{s2 s':Shared}{ls:List Str}{scope:Scope}{fp:List Addr}{C D:Addr}{h':Heap}{ys:List V}{its:List Value}{n:Nat}{pl:List (Addr×Obj)}
  (I:Inv X pins σ H2 s2)(f2: ∀b∈fp,FpOk X pins H2 b)(J:Inv (cxC X ls scope C s2 H2 fp) pl σ' H3 s')(hD:s2.heap.objs.size<=D)(hC:s2.heap.objs.size<=C)(hDC:D≠C)
  (sb:Heap.SameBut C s'.heap h')(hD3:H3 D=none)(e:s'.heap.get? D=some {cls:=.type "list",data:=.seq its.toArray n})(r:Vals ys its)(z:ys.length<=sizeLine):Inv X pins σ (upd H3 D (.lst ys)) {s' with heap:=h'}:=by
 have ext: ∀b o,b≠C->s'.heap.get? b=some o->h'.get? b=some o:=fun b o hb e=>sb.extBut b o hb e
 have neD: ∀b,b<s2.heap.objs.size->b≠D:=fun b hb=>Nat.ne_of_lt (Nat.lt_of_lt_of_le hb hD)
 have neC: ∀b,b<s2.heap.objs.size->b≠C:=fun b hb=>Nat.ne_of_lt (Nat.lt_of_lt_of_le hb hC)
 have lt: ∀b u,H2 b=some u->b<s2.heap.objs.size:=fun b u q=>by
  apply Classical.byContradiction
  intro hb
  have:=I.hok.fresh (Nat.le_of_not_lt hb)
  rw[this] at q
  cases q
 have fC:H3 C=none:=J.free
 refine I.call' (s':={s' with heap:=h'}) (ch:=fp) J.os ⟨fun b o q n hb hx=>?_,fun b o q n hb hx=>?_,fun b o q n hx=>?_,fun b o q hx=>?_,fun b xs q=>?_,fun b o u q=>?_,fun b ps q=>?_⟩ (fun b u q=>?_) J.bare fun b hb=>?_
 ·exact ext b o (neC b (Heap.lt_size q)) (J.base.keep b o q n hb hx)
 ·obtain⟨sl,w⟩:=J.base.slot b o q n hb hx
  exact⟨sl,ext b _ (neC b (Heap.lt_size q)) w⟩
 ·rw[au (neD b (Heap.lt_size q))]
  exact J.base.free b o q n hx
 ·obtain⟨o',w⟩:=J.base.there b o q hx
  exact⟨o',ext b _ (neC b (Heap.lt_size q)) w⟩
 ·rw[au (neD b (lt b _ q))];exact J.base.tups b xs q
 ·rw[au (neD b (lt b _ q))];exact J.base.frzs b o u q
 ·rw[au (neD b (lt b _ q))];exact J.base.tbls b ps q
 ·by_cases hb:b=D
  ·subst hb
   rw[aU] at q
   cases q
   exact⟨z,its,n,r,ext _ _ hDC e⟩
  ·rw[au hb] at q
   have ne1:b≠C:=fun w=>by rw[w,fC] at q;cases q
   have ow: ∀c u,H3 c=some u->c≠D:=fun c u w z=>by rw[z,hD3] at w;cases w
   have oc: ∀c u,H3 c=some u->c≠C:=fun c u w z=>by rw[z,fC] at w;cases w
   refine (J.hok b u q).stay (fun c v hc w=>ext c v ?_ w) (fun c w=>by rw[au (ow c _ w)];exact w) fun c xs w=>by rw[au (ow c _ w)];exact w
   rcases hc with rfl|hc
   ·exact ne1
   ·exact oc c _ hc
 ·obtain⟨a1,a2,a3,a4,a5,a6⟩:=f2 b hb
  exact⟨a4,a2,a5,a6⟩
def PIfs (X:Cx)(ifs:List Expr)(t:TT):Prop:=
 ∀ (pins:List (Addr×Obj)) (s:Shared) (σ:St) (H:Hp) (Q:Bool->Hp->Prop),Inv X pins σ H s->t σ H Q->
   wpAny (model X.prog X.w) X.A (forIn ifs true fun c r=>if r=true then do let ok<-isTrue c X.env (eval c X.env);pure (ForInStep.yield ok) else pure (ForInStep.yield r)) (TP X pins σ Q) X.xe s
def tYes:TT:=fun _ H Q=>Q true H
theorem se {X:Cx}:PIfs X [] tYes:=fun _ _ _ H _ I h=>wpAny_tests_nil ⟨H,I,h⟩
theorem sd {X:Cx}{c:Expr}{t:TT}(h:PT X c t):PIfs X [c] t:=fun pins s σ H Q I q=>wpAny_tests_one (h pins s σ H Q I q)
def CompW (J:It)(ls:List Str)(g:TG)(tt:TT)(te:TE)(σ:St)(H1:Hp)(Q:VK):Prop:= ∃W:Nat->Nat->List V->Hp->Prop,(∃m,W 0 m [] H1)/\ ∀i m ys H,W i m ys H->
 (J.stop i H/\ ∀D,H D=none->Q (.ref D) (upd H D (.lst ys)))\/
 (J.go i H/\ ∃R:List V->Hp->Prop,(∀ys' H',R ys' H'-> ∃m',m'<m/\W (i+1) m' ys' H')/\ ∀y H',J.yld i H y H'->
  g y (List.replicate ls.length none++σ) H' fun σ2 H2=>σ2.drop ls.length=σ/\σ2.length=ls.length+σ.length/\tt σ2 H2 fun b H3=>if b=true then te σ2 H3 fun v H4=>ys.length<sizeLine/\R (ys++[v]) H4 else R ys H3)
def tComp (N ls:List Str)(wi:TI)(g:TG)(tt:TT)(te:TE):TE:=fun σ H Q=>hides N ls σ=true/\wi σ H fun J H1=>CompW J ls g tt te σ H1 Q
theorem e6 {prog:Program}{w:World}{A:Around}{R:Result->Shared->Prop}{s:Shared}{elt target iter:Expr}{ifs:List Expr}{scope:Scope}{pos:Pos}{it acc:Value}{env:Env}(I:Nat->Shared->Prop)
  (turn: ∀n s,I n s->wpAny (model prog w) A (pyNext it) (fun r s₁=>match r with
   |none=>R (.ok .next) s₁
   |some v=>wpAny (model prog w) A (letOwnedTupleGo target it v) (fun _ s₁=>wpAny (model prog w) A (assign target env v) (fun _ s₂=>
    wpAny (model prog w) A (forIn ifs true fun c r=>if r=true then do let ok<-isTrue c env (eval c env);pure (ForInStep.yield ok) else pure (ForInStep.yield r)) (fun ok s₃=>
     if ok=true then wpAny (model prog w) A (eval elt env) (fun x s₄=>
      wpAny (model prog w) A (call (.builtin "list.append") [acc,x]) (fun _ s₅=> ∃m,m<n/\I m s₅) (notedBy (model prog w) A env fun e s'=>R (.error e) s') s₄) (notedBy (model prog w) A env fun e s'=>R (.error e) s') s₃
     else∃m,m<n/\I m s₃) (notedBy (model prog w) A env fun e s'=>R (.error e) s') s₂) (notedBy (model prog w) A env fun e s'=>R (.error e) s') s₁) (notedBy (model prog w) A env fun e s'=>R (.error e) s') s₁) (notedBy (model prog w) A env fun e s'=>R (.error e) s') s)
  (n:Nat)(h:I n s):
  codeAny (model prog w) A (.compLoop (.ListComp elt [⟨target,iter,ifs,0⟩] scope pos) 0 it acc env) R s:=by
 refine codeAny_loop rfl I (fun n s hI=>?_) n h
 show wpAny _ A ((compTurn (.ListComp elt [⟨target,iter,ifs,0⟩] scope pos) 0 it acc env).onRaise (fun x=>do noteFrame x env;theTreesLotGoes x)) _ _ s
 refine wpAny_noted ?_
 rw[compTurn_list]
 refine wpAny_bind (wpAny_standAt (wpAny_bind (wpAny_mono (turn n s hI) (fun r s₁ h₁=>?_) fun _ _ h'=>h')))
 cases r with
 |none=>exact wpAny_pure h₁
 |some v=>
  refine wpAny_bind (wpAny_mono h₁ (fun _ s₁ h₁=>?_) fun _ _ h'=>h')
  refine wpAny_bind (wpAny_mono h₁ (fun _ s₂ h₂=>wpAny_bind (wpAny_mono h₂ (fun ok s₃ h₃=>?_) fun _ _ h'=>h')) fun _ _ h'=>h')
  cases ok with
  |false=>exact wpAny_pure ⟨rfl,h₃⟩
  |true=>
   exact wpAny_bind (wpAny_bind (wpAny_mono h₃ (fun x s₄ h₄=>wpAny_bind (wpAny_mono h₄ (fun _ s₅ h₅=>wpAny_pure (wpAny_pure ⟨rfl,h₅⟩)) fun _ _ h'=>h')) fun _ _ h'=>h'))
theorem thx {α:Type}{t:Sem α}{Q Q':α->Shared->Prop}{M:Model}{A:Around}{E:Value->Shared->Prop}{s:Shared}(h:wpAny M A t Q (fun _ _=>False) s)(hQ: ∀a s,Q a s->Q' a s):wpAny M A t Q' E s:=wpAny_mono h hQ fun _ _ x=>x.elim
section
variable {X:Cx}{elt iter tg:Expr}{ifs:List Expr}{scope:Scope}{pos:Pos}{ls:List Str}{wi:TI}{g:TG}{tt:TT}{te:TE}
theorem jG {use:Option (Value->Sem Unit)}{pins:List (Addr×Obj)}{s:Shared}{σ:St}{H:Hp}{Q:VK}{QQ:Value->Shared->Prop}{pos':Pos}(hcalm:X.calm=true)(S:CScope X ls scope)(hi:PI X tg iter wi)
  (hg: ∀C s2 H2 fp,PG (cxC X ls scope C s2 H2 fp) tg g)(ht: ∀C s2 H2 fp,PIfs (cxC X ls scope C s2 H2 fp) ifs tt)(he: ∀C s2 H2 fp,PE (cxC X ls scope C s2 H2 fp) elt te)
  (hs: ∀x,foldedSetIterable iter X.env x=pure x)(I:Inv X pins σ H s)(h:tComp X.N ls wi g tt te σ H Q)
  (hQQ: ∀ (D C:Addr) (s':Shared) (H':Hp),(∃m,s'.heap.Ns C m)->FpOk X pins H' C->(∀h',Heap.SameBut C s'.heap h'->Inv X pins σ H' {s' with heap:=h'})->Q (.ref D) H'->compPost (model X.prog X.w) X.A X.xe use QQ (.ref D) C (.ok .next) s'):
  wpAny (model X.prog X.w) X.A (comprehension (.ListComp elt [⟨tg,iter,ifs,0⟩] scope pos) scope X.env pos' (newList []) false (eval iter X.env) use) QQ X.xe s:=by
 obtain⟨hh,h⟩:=h
 have cf: ∀p∈scope.names,p.2=.free-> ∃c,X.env.cells.lookup p.1=some c:=fun p hp e=>I.ok.has _ (S.free p hp e)
 refine wpAny_comprehension_free (use:=use) rfl hs (mL cf) S.kind S.names (thn (hi pins s σ H _ I h) fun v s1 h1=>thn h1 fun itv s2 h2=>?_)
 obtain⟨it,fp,tn,J,H2,rfl,I2,T,st2,f2,W,⟨m0,w0⟩,turn⟩:=h2
 refine wpAny_newObj_type (wpAny_newFunctionEnv S.nocell (by intro y hy;simp at hy) (fun h₁ hns₁ hsb₁=>?_) S.kind)
 dsimp only at hns₁ hsb₁ ⊢
 generalize hH2:s2.heap.push {cls:=.type "list",dict:=none,data:=.seq ([]:List Value).toArray}=G2 at hns₁ hsb₁ ⊢
 have hC:G2.objs.size=s2.heap.objs.size+1:=by rw[<-hH2,Heap.size_push]
 have hDC:s2.heap.objs.size≠G2.objs.size:=by rw[hC];exact Nat.ne_of_lt (Nat.lt_succ_self _)
 have hCle:s2.heap.objs.size<=G2.objs.size:=by rw[hC];exact Nat.le_succ _
 have old: ∀b o,s2.heap.get? b=some o->h₁.get? b=some o:=fun b o e=>hsb₁.extBut b o (Nat.ne_of_lt (Nat.lt_of_lt_of_le (Heap.lt_size e) hCle)) (Heap.get?_push_of_some _ (hH2▸Heap.get?_push_of_some _ e))
 have hacc:h₁.get? s2.heap.objs.size=some {cls:=.type "list",data:=.seq ([]:List Value).toArray}:=hsb₁.extBut _ _ hDC (Heap.get?_push_of_some _ (hH2▸Heap.get?_push_size _ rfl))
 have hobj: ∀b∈fp,∃o,s2.heap.get? b=some o:=fun b hb=>let ⟨o,e,_⟩:=T.obj 0 _ st2 b hb;⟨o,e⟩
 have ltf: ∀b∈fp,b<s2.heap.objs.size:=fun b hb=>let ⟨o,e⟩:=hobj b hb;Heap.lt_size e
 have nofD:s2.heap.objs.size ∉ (cxC X ls scope G2.objs.size s2 H2 fp).fs:=fun z=>by
  rcases List.mem_cons.mp (I2.stkSub _ z) with z|z
  ·exact absurd I2.lt (by rw[<-z];exact Nat.lt_irrefl _)
  ·exact I2.nofs (Nat.le_refl _) z
 have st1:tn 0 h₁:=T.keep 0 _ _ st2 fun b _ o e=>old b o e
 have J0: ∀tk,Inv (cxC X ls scope G2.objs.size s2 H2 fp) [] (List.replicate ls.length none++σ) H2 {s2 with heap:=h₁,toks:=tk}:=fun tk=>oN I2 S hh f2 hobj hCle hns₁ old
 have fpY: ∀ (Hx:Hp) (pl:List (Addr×Obj)),(∀b∈fp,Hx b=none)->(∀p∈pl,s2.heap.objs.size<=p.1)-> ∀b∈fp,FpOk (cxC X ls scope G2.objs.size s2 H2 fp) pl Hx b:=fun Hx pl hx hp b hb=>
  ⟨hx b hb,((J0 0).ok.exf b hb).1,(J0 0).ok.exfs b hb,.inl hb,((J0 0).ok.exf b hb).2,fun p hpp=>by
   have hpp:p∈pl:=by simpa [cxC] using hpp
   exact Nat.ne_of_gt (Nat.lt_of_lt_of_le (ltf b hb) (hp p hpp))⟩
 have loop: ∀s₃:Shared,s₃={s2 with heap:=h₁,toks:=s2.toks+([]:List (Str×Value)).length}->
   codeAny (model X.prog X.w) X.A (.compLoop (.ListComp elt [⟨tg,iter,ifs,0⟩] scope pos) 0 (.ref it) (.ref s2.heap.objs.size) (compEnvC scope (cloOf scope X.env) G2.objs.size X.env))
    (compPost (model X.prog X.w) X.A X.xe use QQ (.ref s2.heap.objs.size) G2.objs.size) s₃:=by
  rintro s₃ rfl
  refine e6 (fun n s'=> ∃ (i:Nat) (ys:List V) (its:List Value) (k:Nat) (H':Hp),Inv (cxC X ls scope G2.objs.size s2 H2 fp) [] (List.replicate ls.length none++σ) H' s'/\tn i s'.heap/\(∀b∈fp,H' b=none)/\H' s2.heap.objs.size=none/\
   s'.heap.get? s2.heap.objs.size=some {cls:=.type "list",data:=.seq its.toArray k}/\Vals ys its/\ys.length<=sizeLine/\W i n ys H') ?_ m0
   ⟨0,[],[],0,H2,J0 _,st1,fun b hb=>(f2 b hb).1,I2.hok.fresh (Nat.le_refl _),hacc,.nil,Nat.zero_le _,w0⟩
  rintro n s3 ⟨i,ys,its,k,H3,I3,st3,fr3,d3,e3,r3,z3,w3⟩
  have big: ∀p∈[((s2.heap.objs.size:Addr),({cls:=.type "list",data:=.seq its.toArray k}:Obj))],s2.heap.objs.size<=p.1:=fun p hp=>by
   have this:=List.mem_singleton.mp hp
   subst this
   exact Nat.le_refl _
  rcases turn i n ys H3 w3 with⟨stop,qn⟩|⟨go,R,hR,step⟩
  ·
   have P3:Inv (cxC X ls scope G2.objs.size s2 H2 fp) [(s2.heap.objs.size,{cls:=.type "list",data:=.seq its.toArray k})] (List.replicate ls.length none++σ) H3 s3:=I3.pins_of fun p hp=>by
    have this:=List.mem_singleton.mp hp
    subst this
    exact⟨e3,d3,hDC,nofD,fun v z=>by cases z⟩
   refine thx (T.done (cxC X ls scope G2.objs.size s2 H2 fp) rfl rfl rfl hcalm i _ s3 _ H3 (fun _ _=>False) P3 (fpY H3 _ fr3 big) st3 stop) fun r s4 qz=>?_
   obtain⟨hr,I4⟩:=qz
   subst hr
   obtain⟨m,hm,_⟩:=I4.loc
   have e4:=(I4.pin _ (List.mem_append_right _ (List.mem_singleton.mpr rfl))).1
   exact hQQ _ _ s4 _ ⟨m,hm⟩ (I2.fpOk hCle (by rw[au (Ne.symm hDC)];exact I4.free)) (fun h' sb=>qQ I2 f2 I4 (Nat.le_refl _) hCle hDC sb d3 e4 r3 z3) (qn _ d3)
  ·
   have P3:Inv (cxC X ls scope G2.objs.size s2 H2 fp) [(s2.heap.objs.size,{cls:=.type "list",data:=.seq its.toArray k})] (List.replicate ls.length none++σ) H3 s3:=I3.pins_of fun p hp=>by
    have this:=List.mem_singleton.mp hp
    subst this
    exact⟨e3,d3,hDC,nofD,fun v z=>by cases z⟩
   refine thx (T.item (cxC X ls scope G2.objs.size s2 H2 fp) rfl rfl rfl hcalm i _ s3 _ H3 (fun _ _=>False) P3 (fpY H3 _ fr3 big) st3 go) fun r s4 qz=>?_
   obtain⟨u,hr,h4⟩:=qz
   subst hr
   refine thx h4 fun _ s5 qz=>?_
   obtain⟨x,H5,I5,r5,y5,st5,fr5⟩:=qz
   have I5':=I5.pinned (fpY H5 _ fr5 big) (T.obj _ _ st5)
   refine thx (hg _ _ _ _ _ s5 _ H5 x u _ I5' r5 (step x H5 y5)) fun _ s6 qz=>?_
   obtain⟨σ6,H6,I6,q6⟩:=qz
   obtain⟨dr,ln,q6⟩:=q6
   have back: ∀ {s7:Shared}{H7:Hp},Inv (cxC X ls scope G2.objs.size s2 H2 fp) ([((s2.heap.objs.size:Addr),({cls:=.type "list",data:=.seq its.toArray k}:Obj))]++iE fp s5.heap) σ6 H7 s7->
     Inv (cxC X ls scope G2.objs.size s2 H2 fp) [] (List.replicate ls.length none++σ) H7 s7/\tn (i+1) s7.heap/\(∀b∈fp,H7 b=none)/\H7 s2.heap.objs.size=none/\s7.heap.get? s2.heap.objs.size=some {cls:=.type "list",data:=.seq its.toArray k}:=fun{s7 H7} I7=>by
    have pD:=I7.pin _ (List.mem_append_right _ (List.mem_append_left _ (List.mem_singleton.mpr rfl)))
    have pF: ∀b∈fp,∀o,s5.heap.get? b=some o->s7.heap.get? b=some o/\H7 b=none:=fun b hb o e=>by
     have q:=I7.pin (b,o) (List.mem_append_right _ (List.mem_append_right _ (fT hb e)))
     exact⟨q.1,q.2.1⟩
    refine⟨(I7.pins_of (pins':=[]) fun p hp=>absurd hp (by simp)).weak ?_ ?_,T.keep _ _ _ st5 fun b hb o e=>(pF b hb o e).1,fun b hb=>?_,pD.2.1,pD.1⟩
    ·rw[ln,List.length_append,List.length_replicate]
    ·intro j v ej
     by_cases hj:j<ls.length
     ·rw[List.getElem?_append_left (by simpa using hj),List.getElem?_replicate,if_pos hj] at ej
      cases ej
     ·rw[List.getElem?_append_right (by simpa using hj),List.length_replicate,<-dr,List.getElem?_drop] at ej
      rw[<-ej]
      congr 1
      omega
    ·obtain⟨o,e,_⟩:=T.obj _ _ st5 b hb
     exact (pF b hb o e).2
   refine thx (ht _ _ _ _ _ s6 σ6 H6 _ I6 q6) fun b s7 qz=>?_
   obtain⟨H7,I7,q7⟩:=qz
   cases b with
   |false=>
    rw[if_neg Bool.false_ne_true] at q7 ⊢
    obtain⟨m',hm,w7⟩:=hR _ _ q7
    obtain⟨a1,a2,a3,a4,a5⟩:=back I7
    exact⟨m',hm,i+1,ys,its,k,H7,a1,a2,a3,a4,a5,r3,z3,w7⟩
   |true=>
    rw[if_pos rfl] at q7 ⊢
    refine thx (he _ _ _ _ _ s7 σ6 H7 _ I7 q7) fun y s8 qz=>?_
    obtain⟨v,H8,I8,r8,z8,q8⟩:=qz
    obtain⟨m',hm,w8⟩:=hR _ _ q8
    obtain⟨a1,a2,a3,a4,a5⟩:=back I8
    have pl:s8.heap.PlainList s2.heap.objs.size its.toArray:=⟨k,a5⟩
    refine wpAny_list_append_plain (hsz:=by rw[List.size_toArray,<-r3.length];exact z3) pl fun h9 hl9 hs9=>?_
    obtain⟨k9,e9⟩:=hl9
    have cellN: ∀ (y:Str) (c:Addr),(cxC X ls scope G2.objs.size s2 H2 fp).env.cells.lookup y=some c->c≠s2.heap.objs.size:=fun y c e=>by
     have e1:X.env.cells.lookup y=some c:=i3 X.env scope.names [] cf (fun y a e=>by simp at e) y c e
     obtain⟨v,o,ho,_⟩:=I2.cell y c e1
     exact Nat.ne_of_lt (Heap.lt_size ho)
    have I9:Inv (cxC X ls scope G2.objs.size s2 H2 fp) [] (List.replicate ls.length none++σ) H8 {s8 with heap:=h9}:=
     a1.turned (t':=s8.toks) (fun b o hb e=>hs9.extBut b o hb e) a4 hDC (.inr (Nat.le_refl _)) cellN (fun p hp=>absurd (show p∈([]:List (Addr×Obj)) from hp) (by simp))
    refine⟨m',hm,i+1,ys++[v],its++[y],k9,H8,I9,T.keep _ _ _ a2 fun b hb o e=>hs9.extBut b o (Nat.ne_of_lt (ltf b hb)) e,a3,a4,?_,r3.append (.cons r8 .nil),?_,w8⟩
    ·simpa using e9
    ·rw[List.length_append,List.length_singleton];exact z8
 exact codeAny_compStart_list (loop _ rfl) (T.self _ 0 _ _ _ st1 (loop _ rfl))
theorem si (hcalm:X.calm=true)(S:CScope X ls scope)(hi:PI X tg iter wi)
  (hg: ∀C s2 H2 fp,PG (cxC X ls scope C s2 H2 fp) tg g)(ht: ∀C s2 H2 fp,PIfs (cxC X ls scope C s2 H2 fp) ifs tt)(he: ∀C s2 H2 fp,PE (cxC X ls scope C s2 H2 fp) elt te)
  (hs: ∀x,foldedSetIterable iter X.env x=pure x:=by intro _;rfl):PE X (.ListComp elt [⟨tg,iter,ifs,0⟩] scope pos) (tComp X.N ls wi g tt te):=by
 intro pins s σ H Q I h
 rw[eval_ListComp]
 refine jG (use:=none) hcalm S hi hg ht he hs I h fun D C s' H' hm _ hI q=>?_
 obtain⟨m,hm⟩:=hm
 exact⟨m,hm,fun h' sb=>⟨.ref D,H',hI h' sb,rfl,q⟩⟩
theorem mn {i:Nat}{x:Str}{px spos:Pos}(hN:X.N.Nodup)(hx1:X.N[i]?=some x)(hx:X.env.scope.names.lookup x=some .local)(hcalm:X.calm=true)(S:CScope X ls scope)(hi:PI X tg iter wi)
  (hg: ∀C s2 H2 fp,PG (cxC X ls scope C s2 H2 fp) tg g)(ht: ∀C s2 H2 fp,PIfs (cxC X ls scope C s2 H2 fp) ifs tt)(he: ∀C s2 H2 fp,PE (cxC X ls scope C s2 H2 fp) elt te)
  (hsw:swapsWith (.ListComp elt [⟨tg,iter,ifs,0⟩] scope pos) (some (.Name x px)) spos.line X.env=pure true:=by rfl)
  (hs: ∀x,foldedSetIterable iter X.env x=pure x:=by intro _;rfl):PS X (.Assign [.Name x px] (.ListComp elt [⟨tg,iter,ifs,0⟩] scope pos) spos) (tAsg (tComp X.N ls wi g tt te) (gName i)):=by
 intro pins s σ H D I h
 rw[exec_Assign_Name_used _ _ _ _ hsw]
 refine wpAny_bind (wpAny_standAt (wpAny_bind ?_))
 show wpAny _ X.A (do let _<-comprehension (.ListComp elt [⟨tg,iter,ifs,0⟩] scope pos) scope X.env _ (newList []) false (eval iter X.env) (some (assign (.Name x px) X.env))) _ _ s
 refine wpAny_bind (wpAny_mono (jG (use:=some (assign (.Name x px) X.env)) (QQ:=fun _ s'=>SP X pins D .next s') hcalm S hi hg ht he hs I h fun Dd C s' H' hm hf hI q=>?_) (fun _ s' hq=>wpAny_pure (wpAny_pure hq)) fun _ _ e=>e)
 obtain⟨m,hm⟩:=hm
 have I1:Inv X pins σ H' s':=hI s'.heap (.refl ..)
 show wpAny _ X.A (assign (.Name x px) X.env (.ref Dd)) _ _ _
 refine wpAny_assign_Name (jp (v:=.ref Dd) I1 hN hx1 (.inl hx) rfl (fun s2 I2 ch=>?_) (.inr hx))
 obtain⟨f0,f1,f2,f3,f4,f5⟩:=hf
 obtain⟨a,sb,ha⟩:=ch
 have hne:C≠a:=by
  rcases ha with ha|ha
  ·rw[ha];exact f1
  ·exact Ne.symm (f4 _ _ ha)
 refine⟨m,hm.sameBut sb hne,fun h' sb'=>?_⟩
 exact⟨_,H',I2.turned (t':=s2.toks) (fun b o hb e=>sb'.extBut b o hb e) f0 f1 f3 f4 f5,q⟩
end
end L2
namespace L2
open PySem PySem.Spec PyProof.Rows
noncomputable def nP (ls:List Str)(sc outer:Scope):Bool:=(sc.kind==.function && ls.all fun y=>(sc.names.lookup ⟨#[63]++y.cps⟩).isNone) && sc.names.all fun y=>(y.2 !=.cell) && (y.2 !=.local ||(sc.names.lookup y.1==some .local && ls.contains y.1)) && (y.2 !=.free||outer.names.lookup y.1==some .cell||outer.names.lookup y.1==some .free)
theorem CScope.of {X:Cx}{ls:List Str}{scope:Scope}(outer:Scope)(h:nP ls scope outer=true:=by decide+kernel)(ho:X.env.scope=outer:=by rfl):CScope X ls scope:=by
 unfold nP at h
 rw[Bool.and_eq_true,List.all_eq_true] at h
 obtain⟨h0,h⟩:=h
 rw[Bool.and_eq_true,List.all_eq_true] at h0
 obtain⟨h0,hq⟩:=h0
 refine⟨by simpa using h0,fun y hy e=>?_,fun y hy e=>?_,fun y hy=>?_,fun y hy e=>?_,fun y hy k e=>by have q:=hq y hy;rw[e] at q;cases q⟩
 ·have q:=h y hy
  simp [e] at q
 ·have q:=h y hy
  simp [e] at q
  exact q.1
 ·have q:=h _ (PySem.mem_of_lookup hy)
  simp at q
  exact q.2
 ·have q:=h y hy
  simp [e] at q
  show X.env.scope.names.lookup y.1=_\/X.env.scope.names.lookup y.1=_
  rw[ho]
  exact q
noncomputable def CMulB (i j:Int):Prop:=i.natAbs<2 ^ 65536/\j.natAbs<2 ^ 65536
theorem nU {i:Int}{n:Nat}(h:i.natAbs<2 ^ n):Builtin.Int.intBits i<=n:=by
 unfold Builtin.Int.intBits
 split
 ·exact Nat.zero_le _
 ·rename_i hz
  have hz':i.natAbs≠0:=by
   intro e
   exact hz (by simp_all)
  have:=(Nat.log2_lt hz').mpr h
  omega
theorem CMulB.ok {i j:Int}(h:CMulB i j):IntMulOk i j:=.of_bits (Nat.le_trans (nU h.1) (by decide)) (Nat.le_trans (nU h.2) (by decide))
section
variable {X:Cx}
theorem eV: ∀ {ns:List Int}{us:List Value},Vals (ns.map V.int) us->IntsAre us ns
 |[],_,.nil=>.nil
 |n::r,_,.cons h t=>by
  obtain⟨tk,rfl⟩:=h
  exact .cons n tk (eV t)
theorem rp (hc:X.calm=true):CallR X (.builtin "sum") (fun xs H Q=> ∃ (p:Addr) (ns:List Int),xs=[.ref p]/\SqL X.K H p (ns.map V.int)/\Q (.int ns.sum) H):=by
 intro pins s σ H xs us Q I r h
 obtain⟨p,ns,rfl,hq,q⟩:=h
 obtain⟨u,rfl,ru⟩:=vals1 r
 cases ru
 obtain⟨its,rv,pl,hz⟩:=I.list hq
 have hi:=eV rv
 obtain⟨xs,e⟩:=hi.allInts.items
 have hl:s.heap.IsList p (intItems xs):=by rw[<-e];exact pl.isList
 refine sum_intListG (I.ok.hd hc) hl fun h' tk t' hk=>?_
 have es:preSum (numAt xs) xs.size=ns.sum:=by
  rw[preSum_eq,List.take_of_length_le (by simp),<-nums_intItems,<-e]
  rw[show its.toArray.toList=its from rfl,hi.numsOf]
 exact⟨.int ns.sum,H,I.kept (t':=tk) hk,⟨t',by rw[es]⟩,q⟩
theorem call_isinst:CallR X (.builtin "isinstance") (fun xs H Q=> ∃ (x c:V) (cv t:Value) (b:Bool),xs=[x,c]/\RelV c cv/\TyOf X.K H x t/\kitOne X.K t cv=some b/\Q (.bl b) H):=by
 intro pins s σ H xs us Q I r h
 obtain⟨x,c,cv,t,b,rfl,rc,ty,e,q⟩:=h
 obtain⟨u,u',rfl,ru,ru'⟩:=vals2 r
 have:u'=cv:=by
  cases c with
  |ref a=>cases rc;cases ru';rfl
  |ty n=>cases rc;cases ru';rfl
  |non=>cases rc;cases ru';rfl
  |bl _=>cases rc;cases ru';rfl
  |int _=>obtain⟨t1,rfl⟩:=rc;exact absurd e (by simp [kitOne,PySem.W.kitCls];intro h;cases ty<;>cases h)
  |str _=>obtain⟨t1,rfl⟩:=rc;exact absurd e (by simp [kitOne,PySem.W.kitCls];intro h;cases ty<;>cases h)
  |byt _=>obtain⟨t1,rfl⟩:=rc;exact absurd e (by simp [kitOne,PySem.W.kitCls];intro h;cases ty<;>cases h)
  |flt _=>obtain⟨t1,rfl⟩:=rc;exact absurd e (by simp [kitOne,PySem.W.kitCls];intro h;cases ty<;>cases h)
 subst this
 exact oJ I ru ty e fun tk=>⟨.bl b,H,I.tok tk,rfl,q⟩
mutual
inductive Den (K:PySem.W.Frag)(H:Hp):V->PyData->Prop
 |non:Den K H .non .none
 |bl (b):Den K H (.bl b) (.bool b)
 |int (i):Den K H (.int i) (.int i)
 |str (x):Den K H (.str x) (.str x)
 |lst {a xs ds}:SqL K H a xs->DenAll K H xs ds->Den K H (.ref a) (.list ds)
 |tup {a xs ds}:SqT K H a xs->DenAll K H xs ds->Den K H (.ref a) (.tuple ds)
inductive DenAll (K:PySem.W.Frag)(H:Hp):List V->List PyData->Prop
 |nil:DenAll K H [] []
 |cons {x xs d ds}:Den K H x d->DenAll K H xs ds->DenAll K H (x::xs) (d::ds)
end
mutual
theorem d4 {pins:List (Addr×Obj)}{σ:St}{H:Hp}{s:Shared}(I:Inv X pins σ H s): ∀ {x:V}{d:PyData}{u:Value},Den X.K H x d->RelV x u-> ∃as,Reads s.heap u d as
 |_,_,_,.non,r=>by cases r;exact⟨_,.none⟩
 |_,_,_,.bl b,r=>by cases r;exact⟨_,.bool b⟩
 |_,_,_,.int i,r=>by obtain⟨t,rfl⟩:=r;exact⟨_,.int i t⟩
 |_,_,_,.str i,r=>by obtain⟨t,rfl⟩:=r;exact⟨_,.str i t⟩
 |_,_,_,.lst hq ha,r=>by
  cases r
  obtain⟨its,rv,⟨o,n,e1,e2,e3,e4⟩,hz⟩:=I.list hq
  obtain⟨as,h⟩:=eR I ha rv
  exact⟨_,.list e1 e2 e4 (by simpa using h)⟩
 |_,_,_,.tup hq ha,r=>by
  cases r
  obtain⟨its,rv,⟨o,e1,e2,n,e3⟩,hz⟩:=I.tuple hq
  obtain⟨as,h⟩:=eR I ha rv
  exact⟨_,.tuple e1 e2 e3 (by simpa using h)⟩
theorem eR {pins:List (Addr×Obj)}{σ:St}{H:Hp}{s:Shared}(I:Inv X pins σ H s): ∀ {xs:List V}{ds:List PyData}{us:List Value},DenAll X.K H xs ds->Vals xs us-> ∃as,ReadsAll s.heap us ds as
 |_,_,_,.nil,.nil=>⟨_,.nil⟩
 |_,_,_,.cons h t,.cons r rs=>by
  obtain⟨as,h1⟩:=d4 I h r
  obtain⟨bs,h2⟩:=eR I t rs
  exact⟨_,.cons h1 h2⟩
end
def rEqD (K:PySem.W.Frag)(A:Around)(neg:Bool):R2:=fun x y H Q=> ∃d e,Den K H x d/\Den K H y e/\d.canLay0=true/\e.canLay0=true/\A.units+min d.depth e.depth<cLine/\Q (.bl (if neg then !PyData.eqv d e else PyData.eqv d e)) H
theorem uR:OpR X (compareOp .Eq) (rEqD X.K X.A false):=by
 intro pins s σ H x y v u Q I rx ry h
 obtain⟨d,e,hd,he,cd,ce,hu,q⟩:=h
 obtain⟨as,ra⟩:=d4 I hd rx
 obtain⟨bs,rb⟩:=d4 I he ry
 exact SeqAt.compareEq_reads ra rb cd ce hu ⟨.bl _,H,I,rfl,q⟩
theorem uP:OpR X (compareOp .NotEq) (rEqD X.K X.A true):=by
 intro pins s σ H x y v u Q I rx ry h
 obtain⟨d,e,hd,he,cd,ce,hu,q⟩:=h
 obtain⟨as,ra⟩:=d4 I hd rx
 obtain⟨bs,rb⟩:=d4 I he ry
 exact SeqAt.compareNe_reads ra rb cd ce hu ⟨.bl _,H,I,rfl,q⟩
end
end L2
namespace L2
open PySem PySem.Spec PyProof.Rows
section
variable {X:Cx}{pins:List (Addr×Obj)}{σ:St}{H:Hp}{s:Shared}
end
section
variable {P:Program}{w:World}{K:PySem.W.Frag}{mg:Str->Option Value}{base:Heap}{N:List Str}{qual:Str}{scope:Scope}{f:Addr}{cd:Value}{A:Around}{outer:List Env}{s:Shared}{H:Hp}{E:XK}
end
end L2
namespace L2
open PySem PySem.Spec PyProof.Rows
section
variable {X:Cx}{tg:Expr}
end
section
variable {X:Cx}
theorem i5: ∀ {bs:List Bool}{us:List Value},Vals (bs.map V.bl) us->LSm.BoolsAre us bs
 |[],_,.nil=>.nil
 |b::r,_,.cons h t=>by
  have h:_=Value.bool b:=h
  subst h
  exact .cons b (i5 t)
theorem rB (hc:X.calm=true):CallR X (.builtin "all") (fun xs H Q=> ∃ (p:Addr) (bs:List Bool),xs=[.ref p]/\SqL X.K H p (bs.map V.bl)/\Q (.bl (bs.all id)) H):=by
 intro pins s σ H xs us Q I r h
 obtain⟨p,bs,rfl,hq,q⟩:=h
 obtain⟨u,rfl,ru⟩:=vals1 r
 cases ru
 obtain⟨its,rv,pl,hz⟩:=I.list hq
 have hb:=i5 rv
 have hl:=pl.isList
 have hlt:p<s.heap.objs.size:=by obtain⟨_,e,_⟩:=hl;exact Heap.lt_size e
 refine call_all_walk (wpAny_pyIter_list hl ?_)
 refine⟨s.heap.objs.size,[s.heap.objs.size,p],[s.heap.objs.size],its.toArray.size,_,_,fun i=>(bs[i]?).getD true,rfl,Walks.list (A:=X.A.in1) (I.ok.hd hc) _ p (Nat.ne_of_lt hlt) its.toArray,
  ⟨⟨_,Heap.get?_push_size _ rfl,rfl,rfl⟩,hl.push _⟩,fun i v s' Q' E' hP hQ=>?_,fun h' tk hk=>?_⟩
 ·obtain⟨b,e,rfl⟩:=hb.get i v (by simpa using hP)
  simp only[e,Option.getD_some] at hQ
  exact wpAny_truthy_bool hQ
 ·have e:((List.range its.toArray.size).all fun i=>(bs[i]?).getD true)=bs.all id:=by
   rw[List.size_toArray,hb.length];exact LSm.range_all bs
  rw[e]
  exact⟨.bl _,H,I.kept (t':=tk) (LSm.kept_iter hk),rfl,q⟩
theorem sl_str:SlR X (fun x lo hi H Q=> ∃z,x=.str z/\z.length<=sizeLine/\Q (.str (StrLaws.sliceText z lo hi)) H):=by
 intro pins s σ H x v vl vu lo hi sl Q I rx hs pl pu h
 obtain⟨z,rfl,hz,q⟩:=h
 obtain⟨t,rfl⟩:=rx
 have part: ∀ {v:Value}{o:Option Int},IsPart v o-> ∃p:Option (Int×Tok),v=partValue p/\p.map (·.1)=o:=fun{v o} h=>by
  cases h with
  |none=>exact⟨none,rfl,rfl⟩
  |int i t=>exact⟨some (i,t),rfl,rfl⟩
 obtain⟨l,rfl,el⟩:=part pl
 obtain⟨u,rfl,eu⟩:=part pu
 refine⟨"str",_,slot_str_getitem.lookup,typeIs_str s z t,?_⟩
 obtain⟨o,h1,h2,h3⟩:=hs
 refine wpAny_getItem_str_slice (l:=l) (u:=u) (st:=none) ⟨o,h1,h2,h3⟩ rfl ?_
 subst el eu
 unfold sliceMade slicePicked
 unfold StrLaws.sliceText at q
 simp only[Option.map_none,Option.getD_none]
 split
 ·rename_i hc
  rw[if_pos hc] at q
  exact⟨.str z,H,I,⟨t,rfl⟩,q⟩
 ·rename_i hc
  rw[if_neg hc] at q
  refine⟨?_,.str _,H,I.tok _,⟨_,rfl⟩,q⟩
  show ((_:List Nat).toArray).size<=sizeLine
  rw[List.size_toArray]
  exact Nat.le_trans (List.length_filterMap_le _ _) (Nat.le_trans (sliceIndices_le _ _ _) hz)
theorem op_mul_str:OpR X (binaryOp .Mult) (fun x y H Q=> ∃ (z:Str) (n:Int),x=.str z/\y=.int n/\MulOk z n/\Q (.str (Txt.mul z n)) H):=by
 intro pins s σ H x y v u Q I rx ry h
 obtain⟨z,n,rfl,rfl,ho,q⟩:=h
 obtain⟨t,rfl⟩:=rx
 obtain⟨t',rfl⟩:=ry
 exact SB.mul ho fun t' k=>⟨.str _,H,I.tok k,⟨_,rfl⟩,q⟩
end
section
variable {X:Cx}{C:Addr}{E:XK}{x:Str}{np cpos pos:Pos}{a:Expr}{es:List Expr}{t:TA}
end
end L2
namespace L2
open PySem PySem.Spec PyProof.Rows
noncomputable def excO (ea:Addr)(cls:Value):HO:=.ext fun h=> ∃o vs,h.get? ea=some o/\o.cls=cls/\o.data=.fields vs
section
variable {X:Cx}{pins:List (Addr×Obj)}{σ:St}{H:Hp}{s:Shared}{pn:List (Addr×Obj)}{xe:Value->Shared->Prop}
end
section
variable {X:Cx}{CX:CXT}{k:Nat}{f C:Addr}{fd:FuncData}{ps:List Str}{sp:Sp}{dvs:List V}{ds:List Value}{Z:St->XK}{x m:Str}{p pos apos:Pos}{e o:Expr}{es:List Expr}{ta:TE}{t:TA}
end
section
variable {X:Cx}{x:Str}{C:Value}{body suite:List Stmt}{b0:Stmt}{np hpos pos:Pos}{tb:(St->XK)->TS}{ts:TS}
end
section
variable {P:Program}{w:World}{K:PySem.W.Frag}{mg:Str->Option Value}{base:Heap}
end
end L2
namespace L2
open PySem PySem.Spec PyProof.Rows
section
variable {X:Cx}
end
end L2
namespace L2
open PySem PySem.Spec PyProof.Rows
section
variable {X:Cx}
end
def Ite (K:PySem.W.Frag)(a:Addr):It:=
 ⟨fun i H=> ∃xs x,SqL K H a xs/\xs[i]?=some x,fun i H v H'=> ∃T x,H T=none/\v=.ref T/\(∀xs,SqL K H a xs->xs[i]?=some x)/\H'=upd H T (.tup [.int i,x]),fun i H=> ∃xs,SqL K H a xs/\xs.length=i⟩
theorem nY {P:Program}{w:World}{K:PySem.W.Frag}{elts:List Expr}{x1}{tpos:Pos}(a e it:Addr)(hei:e≠it):Turn P w K (.Tuple elts x1 tpos) (Ite K a) [e,it] e (fun i h=>(∃old,IsEnum h e it i old)/\h.IsListIter it a i) where
 mem:=by simp
 obj:=fun i h st b hb=>by
  obtain⟨⟨old,he⟩,st⟩:=st
  rcases List.mem_cons.mp hb with rfl|hb
  ·exact⟨_,he,fun v z=>by cases z⟩
  ·have e':b=it:=by simpa using hb
   subst e'
   obtain⟨o,e,c,d⟩:=st
   exact⟨o,e,fun v z=>by rw[d] at z;cases z⟩
 keep:=fun i h h' st k=>⟨let ⟨old,he⟩:=st.1;⟨old,k e (by simp) _ he⟩,st.2.at fun o e=>k it (by simp) o e⟩
 item:=by
  intro X hP hw hK hc i pins s σ H E I hf st hg
  subst hP hw hK
  obtain⟨⟨old,he⟩,st⟩:=st
  obtain⟨xs,x,hq,hx⟩:=hg
  obtain⟨its,rv,p,hz⟩:=I.list hq
  obtain⟨u,hu,ru⟩:=rv.get hx
  have fe:=hf e (by simp)
  have fi:=hf it (by simp)
  obtain⟨oi,hoi,hoc,hod⟩:=id st
  have nai:a≠it:=fun z=>by
   obtain⟨o,h1,h2,_⟩:=p.isList
   rw[z,hoi] at h1
   cases h1
   rw[hoc] at h2
   exact absurd h2 (by decide)
  have nae:e≠a:=fun z=>by
   obtain⟨o,h1,h2,_⟩:=p.isList
   rw[<-z,show s.heap.get? e=_ from he] at h1
   cases h1
   exact absurd (show Value.type "enumerate"=Value.type "list" from h2) (by decide)
  have D:=Draws.list (prog:=X.prog) (w:=X.w) (A:=X.A.in1) (I.ok.hd hc) it a nai its.toArray
  refine wpAny_pyNext_enum_itemD D he ⟨st,p.isList⟩ (by
   have:=List.getElem?_eq_some_iff.mp hu
   obtain⟨z,_⟩:=this
   simpa using z) hei (by simp [hei,nae]) fun v h' tk hP hout hst hT hsz hk=>?_
  have hv:v=u:=by
   have hP:its.toArray[i]?=some v:=hP
   rw[List.getElem?_toArray,hu] at hP
   exact (Option.some.inj hP).symm
  subst hv
  have nT:H s.heap.objs.size=none:=I.hok.fresh (Nat.le_refl _)
  have lt: ∀b o,s.heap.get? b=some o->b≠s.heap.objs.size:=fun b o q=>Nat.ne_of_lt (Heap.lt_size q)
  have ltH: ∀b o,H b=some o->b≠s.heap.objs.size:=fun b o q z=>by rw[z,nT] at q;cases q
  have neH: ∀b o,H b=some o->b≠e/\b≠it:=fun b o q=>⟨fun z=>by (rw[z,fe.1] at q;cases q),fun z=>by (rw[z,fi.1] at q;cases q)⟩
  have I1:Inv X pins σ (upd H s.heap.objs.size (.tup [.int i,x])) {s with heap:=h',toks:=tk+1}:=by
   refine I.call' (s':={s with heap:=h',toks:=tk+1}) (ch:=[e,it]) rfl ⟨fun b o q n hb hx=>?_,fun b o q n hb hx=>?_,fun b o q n hx=>?_,fun b o q hx=>?_,fun b xs q=>?_,fun b o u q=>?_,fun b ps q=>?_⟩ (fun b o q=>?_) I.bare fun b hb=>?_
   ·exact hk b o (fun z=>hx (by simp [z])) (fun z=>hx (by simp [z])) q
   ·exact⟨o.slots,hk b o (fun z=>hx (by simp [z])) (fun z=>hx (by simp [z])) q⟩
   ·rw[au (lt b o q)];exact n
   ·exact⟨o,hk b o (fun z=>hx (by simp [z])) (fun z=>hx (by simp [z])) q⟩
   ·rw[au (ltH b _ q)];exact q
   ·rw[au (ltH b _ q)];exact q
   ·exact⟨#[],by rw[au (ltH b _ q),q];simp⟩
   ·by_cases hb:b=s.heap.objs.size
    ·subst hb
     rw[aU] at q
     cases q
     exact⟨by show 2<=sizeLine;decide,_,.cons ⟨tk,rfl⟩ (.cons ru .nil),⟨_,hT,rfl,_,rfl⟩,_,hT,rfl⟩
    ·rw[au hb] at q
     refine (I.hok b o q).stay (fun c v hc r=>?_) (fun c r=>by rw[au (ltH c _ r)];exact r) fun c xs r=>by rw[au (ltH c _ r)];exact r
     have: ∃o,H c=some o:=by
      rcases hc with rfl|hc
      ·exact⟨o,q⟩
      ·exact⟨_,hc⟩
     obtain⟨o',qo⟩:=this
     exact hk c v (neH c o' qo).1 (neH c o' qo).2 r
   ·have fb:FpOk X pins H b:=by
     rcases List.mem_cons.mp hb with rfl|hb
     ·exact fe
     ·have e':b=it:=by simpa using hb
      subst e';exact fi
    exact⟨fb.2.2.2.1,fb.2.1,fb.2.2.2.2.1,fb.2.2.2.2.2⟩
  refine⟨_,rfl,wpAny_letOwnedTupleGo_enum (s:={s with heap:=h',toks:=tk+1}) hout fun h2 he2 hs2=>?_⟩
  have neT: ∀b∈[e,it],b≠s.heap.objs.size:=fun b hb=>by
   rcases List.mem_cons.mp hb with rfl|hb
   ·exact lt _ _ he
   ·have e':b=it:=by simpa using hb
    subst e';exact lt _ _ hoi
  have fe':(upd H s.heap.objs.size (.tup [.int i,x])) e=none:=by rw[au (neT e (by simp))];exact fe.1
  refine⟨.ref s.heap.objs.size,upd H s.heap.objs.size (.tup [.int i,x]),?_,rfl,⟨s.heap.objs.size,x,nT,rfl,fun ys hy=>by rw[I.list_inj hy hq];exact hx,rfl⟩,⟨⟨_,by simpa using he2⟩,hst.1.at fun o eo=>(hs2.2 it (Ne.symm hei)).trans eo⟩,fun b hb=>?_⟩
  ·exact I1.turned (t':=tk+1) (fun b o hb eo=>(hs2.2 b hb).trans eo) fe' fe.2.1 fe.2.2.2.1 fe.2.2.2.2.1 fe.2.2.2.2.2
  ·rw[au (neT b hb)]
   exact (hf b hb).1
 done:=by
  intro X hP hw hK hc i pins s σ H E I hf st hg
  subst hP hw hK
  obtain⟨⟨old,he⟩,st⟩:=st
  obtain⟨xs,hq,hx⟩:=hg
  obtain⟨its,rv,p,hz⟩:=I.list hq
  have fi:=hf it (by simp)
  obtain⟨oi,hoi,hoc,hod⟩:=id st
  have nai:a≠it:=fun z=>by
   obtain⟨o,h1,h2,_⟩:=p.isList
   rw[z,hoi] at h1
   cases h1
   rw[hoc] at h2
   exact absurd h2 (by decide)
  have D:=Draws.list (prog:=X.prog) (w:=X.w) (A:=X.A.in1) (I.ok.hd hc) it a nai its.toArray
  have ei:i=its.toArray.size:=by rw[List.size_toArray,<-rv.length];exact hx.symm
  refine wpAny_pyNext_enum_endD D he (by rw[<-ei];exact⟨st,p.isList⟩) fun h' eb=>⟨rfl,I.turned (t':=s.toks) (fun b o hb e=>eb b o hb e) fi.1 fi.2.1 fi.2.2.2.1 fi.2.2.2.2.1 fi.2.2.2.2.2⟩
 self:=fun _ _ _ _ _ st h=>let ⟨_,he⟩:=st.1;wpAny_pyIter_enum he h
section
variable {X:Cx}
def iEnum (K:PySem.W.Frag)(ta:TA):TI:=fun σ H R=>ta σ H fun vs H1=> ∃a,vs=[.ref a]/\(∃xs,SqL K H1 a xs)/\R (Ite K a) H1
theorem sg {a:Expr}{ta:TA}{p pos:Pos}{elts:List Expr}{x1}{tpos:Pos}(hg:Gl X "enumerate")(hm:X.mg "enumerate"=none)(ha:PA X [a] ta)(hs:starEach [a] X.env=[(false,eval a X.env)]:=by rfl):PI X (.Tuple elts x1 tpos) (.Call (.Name "enumerate" p) [a] [] pos) (iEnum X.K ta):=by
 intro pins s σ H R I h
 refine Call_ (dc I hg hm boot_enumerate (PyProof.Rows.callWith_type1 (thn (ha pos pins s σ H _ I h) fun us s1 qz=>?_) hs rfl))
 obtain⟨vs,H1,I1,r1,q1⟩:=qz
 obtain⟨b,e,⟨xs,hq⟩,q⟩:=q1
 subst e
 cases r1 with
 |cons r rr=>
  cases rr
  cases r
  obtain⟨its,rv,pl,hz⟩:=I1.list hq
  refine call_enumerate_list pl.isList fun h' he hi hsz hk=>?_
  refine wpAny_pyIter_enum he ?_
  have I2:Inv X pins σ H1 {s1 with heap:=h'}:=I1.kept (t':=s1.toks) hk
  refine⟨s1.heap.objs.size+1,[s1.heap.objs.size+1,s1.heap.objs.size],_,_,H1,rfl,I2,nY b _ _ (by simp),⟨⟨_,he⟩,hi⟩,fun c hc=>?_,q⟩
  have hc':s1.heap.objs.size<=c:=by
   rcases List.mem_cons.mp hc with rfl|hc
   ·exact Nat.le_succ _
   ·have:c=s1.heap.objs.size:=by simpa using hc
    exact Nat.le_of_eq this.symm
  exact I1.fpOk hc' (I1.hok.fresh hc')
end
end L2
set_option maxHeartbeats 1000000
namespace L2
open PySem PySem.Spec PyProof.Rows PySem.W
section
variable {prog:Program}{w:World}{A:Around}{E:Value->Shared->Prop}{h:Heap}{g:Array GenState}{d:Drawn}{t:Nat}{os:OsState}{a C:Addr}{o:Obj}{K:PySem.W.Frag}
end
section
variable {X:Cx}
end
end L2
set_option maxHeartbeats 1000000
namespace L2
open PySem PySem.Spec PyProof.Rows PySem.W
section
variable {X:Cx}{pins:List (Addr×Obj)}{σ:St}{H:Hp}{s:Shared}
end
section
variable {X:Cx}{x n:Str}{C:Value}{body suite:List Stmt}{b0:Stmt}{np hpos pos:Pos}{tb:(St->XK)->TS}{ts:TS}{i:Nat}
end
end L2
set_option maxHeartbeats 1000000
namespace L2
open PySem PySem.Spec PyProof.Rows
section
variable {X:Cx}
end
section
variable {X:Cx}
end
end L2
namespace L2
open PySem
end L2
set_option maxHeartbeats 1000000
namespace L2
open PySem PySem.Spec PyProof.Rows
open Sem (wp)
open Builtin
section
variable {prog:Program}{w:World}{A:Around}{E:Value->Shared->Prop}{s:Shared}
theorem pf {j t:Addr}{i:Nat}{its:Array Value}{x:Value}{Q:Value->Shared->Prop}(g:s.heap.IsTupleIter j t i)(gt:s.heap.IsTuple t its)(hx:its[i]?=some x)(k:∀h',h'.IsTupleIter j t (i+1)->Heap.SameBut j s.heap h'->Q x {s with heap:=h'}):wpAny (model prog w) A (SmallTypes.nextOf (.ref j)) Q E s:=by
 obtain⟨o,q1,q2,q3⟩:=id g
 obtain⟨u,z1,_,n,z2⟩:=gt
 unfold SmallTypes.nextOf
 refine wpAny_bind (wpAny_callSpecial?_slot (name:=Str.ofString "__next__") g.typeIs F.slot_tuple_iterator_next (wpAny_call_entry F.slot_tuple_iterator_next g.typeIs F.entry_tuple_iterator_next ?_ (F.args_tuple_iterator_next_1 _)))
 show wpAny _ _ (field (.ref j) 0>>=_) _ _ s
 refine wpAny_bind (wpAny_field q1 q3 (x:=.ref t) rfl ?_)
 show wpAny _ _ (if (Value.ref t==Value.none)=true then _ else _) _ _ s;rw[if_neg (show¬((Value.ref t==Value.none)=true) from Bool.false_ne_true)]
 show wpAny _ _ (field (.ref j) 1>>=_) _ _ s
 refine wpAny_bind (wpAny_field q1 q3 (x:=.int i 0) rfl ?_)
 show wpAny _ _ (seqItems? (.ref t)>>=_) _ _ s;refine wpAny_bind (wpAny_seqItems z1 z2 ?_)
 simp only[Int.toNat_natCast,hx]
 refine wpAny_bind (wpAny_setField q1 q3 (by simp) (wpAny_pure ⟨x,rfl,wpAny_pure (k _ ?_ (Heap.SameBut.update ..))⟩))
 exact⟨_,Heap.get?_update_self _ q1 (Obj.isFreed_of_fields (Obj.data_mapFields q3 _)),(Obj.cls_mapFields ..).trans q2,by rw[Obj.data_mapFields q3];simp [rawInt]⟩
theorem pi {j t:Addr}{i:Nat}{its:Array Value}{Q:Value->Shared->Prop}(hh:A.handled=none)(g:s.heap.IsTupleIter j t i)(gt:s.heap.IsTuple t its)(hx:its[i]?=none)(k:∀h' e,Heap.ExtBut j s.heap h'->(∃o,h'.get? e=some o/\o.cls=.type "StopIteration")->E (.ref e) {s with heap:=h'}):wpAny (model prog w) A (SmallTypes.nextOf (.ref j)) Q E s:=by
 obtain⟨o,q1,q2,q3⟩:=id g
 obtain⟨u,z1,_,n,z2⟩:=gt
 unfold SmallTypes.nextOf
 refine wpAny_bind (wpAny_callSpecial?_slot (name:=Str.ofString "__next__") g.typeIs F.slot_tuple_iterator_next (wpAny_call_entry F.slot_tuple_iterator_next g.typeIs F.entry_tuple_iterator_next ?_ (F.args_tuple_iterator_next_1 _)))
 show wpAny _ _ (field (.ref j) 0>>=_) _ _ s
 refine wpAny_bind (wpAny_field q1 q3 (x:=.ref t) rfl ?_)
 show wpAny _ _ (if (Value.ref t==Value.none)=true then _ else _) _ _ s;rw[if_neg (show¬((Value.ref t==Value.none)=true) from Bool.false_ne_true)]
 show wpAny _ _ (field (.ref j) 1>>=_) _ _ s
 refine wpAny_bind (wpAny_field q1 q3 (x:=.int i 0) rfl ?_)
 show wpAny _ _ (seqItems? (.ref t)>>=_) _ _ s;refine wpAny_bind (wpAny_seqItems z1 z2 ?_)
 simp only[Int.toNat_natCast,hx]
 refine wpAny_bind (wpAny_rule (wpAny_bind (wpAny_setField q1 q3 (by simp) ?_)))
 show wpAny _ _ (newExc (.type "StopIteration") []>>=_) _ _ _;refine wpAny_bind ?_
 simp only[newExc,newTuple];refine wpAny_bind (wpAny_newObj_type ?_ (by size_fits))
 refine wpAny_bind (m:=firstArgMember _ _) (wpAny_of_eq (a:=Value.none) (by first|rfl|(simp only[firstArgMember];rfl)) (wpAny_newObj_type ?_ (by size_fits)))
 simp only[raiseNew];refine wpAny_bind (wpAny_handled ?_)
 first|rw[show A.in1.handled=none from hh]|rw[hh]
 exact wpAny_bind (wpAny_pure (wpAny_throw (k _ _ (((Heap.SameBut.update ..).extBut.push _).push _) ⟨_,Heap.get?_push_size _ rfl,rfl⟩)))
end
theorem fJ {prog:Program}{w:World}{A:Around}(hh:A.handled=none)(j t:Addr)(hne:t≠j)(its:Array Value):Draws prog w A j [j,t] its.size (fun i v=>its[i]?=some v) (fun i h=>h.IsTupleIter j t i/\h.IsTuple t its) where
 live:=fun _ _ st=>let ⟨o,q,_⟩:=st.1;⟨o,q⟩
 frame:=fun _ _ _ st k=>⟨let ⟨o,q,r⟩:=st.1;⟨o,k j (by simp) o q,r⟩,let ⟨o,q,r⟩:=st.2;⟨o,k t (by simp) o q,r⟩⟩
 item:=fun i s Q E hi st k=>pf st.1 st.2 (x:=its[i]) (by simp [hi]) fun h' a b=>k _ h' s.toks (by simp [hi]) ⟨a,st.2.extBut b.extBut hne⟩ b
 done:=fun s Q E st k=>pi hh st.1 st.2 (by simp) k
theorem tupOf {h:Heap}{a:Addr}{its:Array Value}(p:IsTup h a its):h.IsTuple a its:=p
set_option maxRecDepth 100000 in
theorem lF (l:Addr)(its:Array Value)(n:Nat)(dct:Option Addr)(sl:Array (Option Value)):
  Meets (Builtin.«enumerate.__new__» ⟨[.type "enumerate",.ref l],[]⟩) (fun _ R s=>s.heap.get? l=some {cls:=.type "tuple",dict:=dct,data:=.seq its n,slots:=sl}/\
   R (.ok (.ret (.ref (s.heap.push {cls:=.type "tuple_iterator",data:=.fields #[.ref l,.int 0 0]}).objs.size))) {s with heap:=(s.heap.push {cls:=.type "tuple_iterator",data:=.fields #[.ref l,.int 0 0]}).push {cls:=.type "enumerate",data:=.fields #[.none,.bool false,.ref s.heap.objs.size,rawInt 0,.none,.none]}}):=
 .of_wp fun prog w A R s h=>by
  obtain⟨hp,g,d,tk,os⟩:=s;obtain⟨hl,h⟩:=h
  have hsub:=sub_enumerate
  have hT:Heap.IsTuple (Shared.heap ⟨hp,g,d,tk,os⟩) l its:=⟨_,hl,rfl,n,rfl⟩
  wp_walk using AutoSeq1.wpAny_loadPart' hl
  refine wpAny_stack_any fun st=>wpAny_pure ?_
  split
  ·rename_i c _ _ _ _ _
   cases (c==Value.type "enumerate")<;>(wp_walk using AutoSeq1.wpAny_loadPart' hl,wpAny_pyIter_tuple hT;exact⟨_,rfl,h⟩)
  ·wp_walk using AutoSeq1.wpAny_loadPart' hl,wpAny_pyIter_tuple hT
   exact⟨_,rfl,h⟩
section
variable {prog:Program}{w:World}{A:Around}{E:Value->Shared->Prop}{s:Shared}
theorem mM {l:Addr}{its:Array Value}{Q:Value->Shared->Prop}(hT:s.heap.IsTuple l its)
  (k:∀h',IsEnum h' (s.heap.objs.size+1) s.heap.objs.size 0 .none->h'.IsTupleIter s.heap.objs.size l 0->h'.objs.size=s.heap.objs.size+2->(∀b o,s.heap.get? b=some o->h'.get? b=some o)->Q (.ref (s.heap.objs.size+1)) {s with heap:=h'}):
  wpAny (model prog w) A (call (.type "enumerate") [.ref l]) Q E s:=by
 obtain⟨⟨c,dct,dt,sl⟩,hl,hc,n,hd⟩:=hT
 replace hc:c=.type "tuple":=hc
 replace hd:dt=.seq its n:=hd
 subst hc hd
 refine callType_new F.called_enumerate (by decide) (F.typeCall_enumerate_1 _) (F.newCall_enumerate_1 _) (fun obj=>F.args_object_init_2 obj _) F.entry_enumerate_new (lF l its n dct sl) ⟨hl,?_⟩
 have hz:(s.heap.push {cls:=.type "tuple_iterator",data:=.fields #[.ref l,.int 0 0]}).objs.size=s.heap.objs.size+1:=Heap.size_push ..
 show _/\_
 rw[hz]
 have he:IsEnum ((s.heap.push {cls:=.type "tuple_iterator",data:=.fields #[.ref l,.int 0 0]}).push {cls:=.type "enumerate",data:=.fields #[.none,.bool false,.ref s.heap.objs.size,rawInt 0,.none,.none]}) (s.heap.objs.size+1) s.heap.objs.size 0 .none:=by
  have z:=Heap.get?_push_size (s.heap.push {cls:=.type "tuple_iterator",data:=.fields #[.ref l,.int 0 0]}) (o:={cls:=.type "enumerate",data:=.fields #[.none,.bool false,.ref s.heap.objs.size,rawInt 0,.none,.none]}) rfl
  rw[hz] at z;exact z
 refine⟨⟨_,he,rfl⟩,k _ he ⟨_,Heap.get?_push_of_some _ (Heap.get?_push_size _ rfl),rfl,rfl⟩ (by rw[Heap.size_push,hz]) fun b o x=>Heap.get?_push_of_some _ (Heap.get?_push_of_some _ x)⟩
end
def IteT (K:PySem.W.Frag)(a:Addr):It:=
 ⟨fun i H=> ∃xs x,SqT K H a xs/\xs[i]?=some x,fun i H v H'=> ∃T x,H T=none/\v=.ref T/\(∀xs,SqT K H a xs->xs[i]?=some x)/\H'=upd H T (.tup [.int i,x]),fun i H=> ∃xs,SqT K H a xs/\xs.length=i⟩
theorem md {P:Program}{w:World}{K:PySem.W.Frag}{elts:List Expr}{x1}{tpos:Pos}(a e it:Addr)(hei:e≠it):Turn P w K (.Tuple elts x1 tpos) (IteT K a) [e,it] e (fun i h=>(∃old,IsEnum h e it i old)/\h.IsTupleIter it a i) where
 mem:=by simp
 obj:=fun i h st b hb=>by
  obtain⟨⟨old,he⟩,st⟩:=st
  rcases List.mem_cons.mp hb with rfl|hb
  ·exact⟨_,he,fun v z=>by cases z⟩
  ·have e':b=it:=by simpa using hb
   subst e'
   obtain⟨o,e,c,d⟩:=st
   exact⟨o,e,fun v z=>by rw[d] at z;cases z⟩
 keep:=fun i h h' st k=>⟨let ⟨old,he⟩:=st.1;⟨old,k e (by simp) _ he⟩,st.2.at fun o e=>k it (by simp) o e⟩
 item:=by
  intro X hP hw hK hc i pins s σ H E I hf st hg
  subst hP hw hK
  obtain⟨⟨old,he⟩,st⟩:=st
  obtain⟨xs,x,hq,hx⟩:=hg
  obtain⟨its,rv,p,hz⟩:=I.tuple hq
  obtain⟨u,hu,ru⟩:=rv.get hx
  have fe:=hf e (by simp)
  have fi:=hf it (by simp)
  obtain⟨oi,hoi,hoc,hod⟩:=id st
  have nai:a≠it:=fun z=>by
   obtain⟨o,h1,h2,_⟩:=(tupOf p)
   rw[z,hoi] at h1
   cases h1
   rw[hoc] at h2
   exact absurd h2 (by decide)
  have nae:e≠a:=fun z=>by
   obtain⟨o,h1,h2,_⟩:=(tupOf p)
   rw[<-z,show s.heap.get? e=_ from he] at h1
   cases h1
   exact absurd (show Value.type "enumerate"=Value.type "tuple" from h2) (by decide)
  have D:=fJ (prog:=X.prog) (w:=X.w) (A:=X.A.in1) (I.ok.hd hc) it a nai its.toArray
  refine wpAny_pyNext_enum_itemD D he ⟨st,(tupOf p)⟩ (by
   have:=List.getElem?_eq_some_iff.mp hu
   obtain⟨z,_⟩:=this
   simpa using z) hei (by simp [hei,nae]) fun v h' tk hP hout hst hT hsz hk=>?_
  have hv:v=u:=by
   have hP:its.toArray[i]?=some v:=hP
   rw[List.getElem?_toArray,hu] at hP
   exact (Option.some.inj hP).symm
  subst hv
  have nT:H s.heap.objs.size=none:=I.hok.fresh (Nat.le_refl _)
  have lt: ∀b o,s.heap.get? b=some o->b≠s.heap.objs.size:=fun b o q=>Nat.ne_of_lt (Heap.lt_size q)
  have ltH: ∀b o,H b=some o->b≠s.heap.objs.size:=fun b o q z=>by rw[z,nT] at q;cases q
  have neH: ∀b o,H b=some o->b≠e/\b≠it:=fun b o q=>⟨fun z=>by (rw[z,fe.1] at q;cases q),fun z=>by (rw[z,fi.1] at q;cases q)⟩
  have I1:Inv X pins σ (upd H s.heap.objs.size (.tup [.int i,x])) {s with heap:=h',toks:=tk+1}:=by
   refine I.call' (s':={s with heap:=h',toks:=tk+1}) (ch:=[e,it]) rfl ⟨fun b o q n hb hx=>?_,fun b o q n hb hx=>?_,fun b o q n hx=>?_,fun b o q hx=>?_,fun b xs q=>?_,fun b o u q=>?_,fun b ps q=>?_⟩ (fun b o q=>?_) I.bare fun b hb=>?_
   ·exact hk b o (fun z=>hx (by simp [z])) (fun z=>hx (by simp [z])) q
   ·exact⟨o.slots,hk b o (fun z=>hx (by simp [z])) (fun z=>hx (by simp [z])) q⟩
   ·rw[au (lt b o q)];exact n
   ·exact⟨o,hk b o (fun z=>hx (by simp [z])) (fun z=>hx (by simp [z])) q⟩
   ·rw[au (ltH b _ q)];exact q
   ·rw[au (ltH b _ q)];exact q
   ·exact⟨#[],by rw[au (ltH b _ q),q];simp⟩
   ·by_cases hb:b=s.heap.objs.size
    ·subst hb
     rw[aU] at q
     cases q
     exact⟨by show 2<=sizeLine;decide,_,.cons ⟨tk,rfl⟩ (.cons ru .nil),⟨_,hT,rfl,_,rfl⟩,_,hT,rfl⟩
    ·rw[au hb] at q
     refine (I.hok b o q).stay (fun c v hc r=>?_) (fun c r=>by rw[au (ltH c _ r)];exact r) fun c xs r=>by rw[au (ltH c _ r)];exact r
     have: ∃o,H c=some o:=by
      rcases hc with rfl|hc
      ·exact⟨o,q⟩
      ·exact⟨_,hc⟩
     obtain⟨o',qo⟩:=this
     exact hk c v (neH c o' qo).1 (neH c o' qo).2 r
   ·have fb:FpOk X pins H b:=by
     rcases List.mem_cons.mp hb with rfl|hb
     ·exact fe
     ·have e':b=it:=by simpa using hb
      subst e';exact fi
    exact⟨fb.2.2.2.1,fb.2.1,fb.2.2.2.2.1,fb.2.2.2.2.2⟩
  refine⟨_,rfl,wpAny_letOwnedTupleGo_enum (s:={s with heap:=h',toks:=tk+1}) hout fun h2 he2 hs2=>?_⟩
  have neT: ∀b∈[e,it],b≠s.heap.objs.size:=fun b hb=>by
   rcases List.mem_cons.mp hb with rfl|hb
   ·exact lt _ _ he
   ·have e':b=it:=by simpa using hb
    subst e';exact lt _ _ hoi
  have fe':(upd H s.heap.objs.size (.tup [.int i,x])) e=none:=by rw[au (neT e (by simp))];exact fe.1
  refine⟨.ref s.heap.objs.size,upd H s.heap.objs.size (.tup [.int i,x]),?_,rfl,⟨s.heap.objs.size,x,nT,rfl,fun ys hy=>by rw[I.tuple_inj hy hq];exact hx,rfl⟩,⟨⟨_,by simpa using he2⟩,hst.1.at fun o eo=>(hs2.2 it (Ne.symm hei)).trans eo⟩,fun b hb=>?_⟩
  ·exact I1.turned (t':=tk+1) (fun b o hb eo=>(hs2.2 b hb).trans eo) fe' fe.2.1 fe.2.2.2.1 fe.2.2.2.2.1 fe.2.2.2.2.2
  ·rw[au (neT b hb)]
   exact (hf b hb).1
 done:=by
  intro X hP hw hK hc i pins s σ H E I hf st hg
  subst hP hw hK
  obtain⟨⟨old,he⟩,st⟩:=st
  obtain⟨xs,hq,hx⟩:=hg
  obtain⟨its,rv,p,hz⟩:=I.tuple hq
  have fi:=hf it (by simp)
  obtain⟨oi,hoi,hoc,hod⟩:=id st
  have nai:a≠it:=fun z=>by
   obtain⟨o,h1,h2,_⟩:=(tupOf p)
   rw[z,hoi] at h1
   cases h1
   rw[hoc] at h2
   exact absurd h2 (by decide)
  have D:=fJ (prog:=X.prog) (w:=X.w) (A:=X.A.in1) (I.ok.hd hc) it a nai its.toArray
  have ei:i=its.toArray.size:=by rw[List.size_toArray,<-rv.length];exact hx.symm
  refine wpAny_pyNext_enum_endD D he (by rw[<-ei];exact⟨st,(tupOf p)⟩) fun h' eb=>⟨rfl,I.turned (t':=s.toks) (fun b o hb e=>eb b o hb e) fi.1 fi.2.1 fi.2.2.2.1 fi.2.2.2.2.1 fi.2.2.2.2.2⟩
 self:=fun _ _ _ _ _ st h=>let ⟨_,he⟩:=st.1;wpAny_pyIter_enum he h
section
variable {X:Cx}
def vk (K:PySem.W.Frag)(ta:TA):TI:=fun σ H R=>ta σ H fun vs H1=> ∃a,vs=[.ref a]/\(∃xs,SqT K H1 a xs)/\R (IteT K a) H1
theorem pN {a:Expr}{ta:TA}{p pos:Pos}{elts:List Expr}{x1}{tpos:Pos}(hg:Gl X "enumerate")(hm:X.mg "enumerate"=none)(ha:PA X [a] ta)(hs:starEach [a] X.env=[(false,eval a X.env)]:=by rfl):PI X (.Tuple elts x1 tpos) (.Call (.Name "enumerate" p) [a] [] pos) (vk X.K ta):=by
 intro pins s σ H R I h
 refine Call_ (dc I hg hm boot_enumerate (PyProof.Rows.callWith_type1 (thn (ha pos pins s σ H _ I h) fun us s1 qz=>?_) hs rfl))
 obtain⟨vs,H1,I1,r1,q1⟩:=qz
 obtain⟨b,e,⟨xs,hq⟩,q⟩:=q1
 subst e
 cases r1 with
 |cons r rr=>
  cases rr
  cases r
  obtain⟨its,rv,pl,hz⟩:=I1.tuple hq
  refine mM (tupOf pl) fun h' he hi hsz hk=>?_
  refine wpAny_pyIter_enum he ?_
  have I2:Inv X pins σ H1 {s1 with heap:=h'}:=I1.kept (t':=s1.toks) hk
  refine⟨s1.heap.objs.size+1,[s1.heap.objs.size+1,s1.heap.objs.size],_,_,H1,rfl,I2,md b _ _ (by simp),⟨⟨_,he⟩,hi⟩,fun c hc=>?_,q⟩
  have hc':s1.heap.objs.size<=c:=by
   rcases List.mem_cons.mp hc with rfl|hc
   ·exact Nat.le_succ _
   ·have:c=s1.heap.objs.size:=by simpa using hc
    exact Nat.le_of_eq this.symm
  exact I1.fpOk hc' (I1.hok.fresh hc')
end
end L2
set_option maxHeartbeats 1000000
namespace L2
open PySem PySem.Spec PyProof.Rows
inductive W where
 |ty (n:String)|exc (c:Str)|cls (c:Str)|non|bl (b:Bool)|int (i:Int)|str (x:Str)
 |tup (l:List W)|tl (l:List W)|cl (l:List W)|dv (ks:List Key)(ws:List W)|dn (b:Bool)(ks:List PKy)(ws:List W)|kt (ks:List Key)|loc (k:Nat)
inductive Ob where
 |lst (l:List W)|dic (ks:List Key)(ws:List W)|dit (ks:List (List Key))(ws:List W)|din (b:Bool)(ks:List PKy)(ws:List W)|ins (c:Str)(ns:List Str)(ws:List W)|gone
structure Wo where
 mu:Nat->Addr
 h:List Ob
 H:Hp
noncomputable def Lv (o:Wo)(a:Addr):Prop:= ∃k b,o.h[k]?=some b/\b≠.gone/\o.mu k=a
def FrL (K:PySem.W.Frag)(a:Addr)(xs:List V):Prop:= ∃ (o:Obj) (its:Array Value) (n:Nat),K.lookup a=some o/\o.cls=.type "list"/\o.dict=none/\o.data=.seq its n/\its.size<=sizeLine/\Vals xs its.toList
def KeyN (K:PySem.W.Frag)(H:Hp)(b:Bool)(c:Addr)(k:PKy):Prop:= ∃d,SqT K H c (match b with
 |false=>[.int k.1,.ref d]
 |true=>[.ref d,.int k.1])/\SqT K H d (k.2.map V.int)
mutual
def Rv (K:PySem.W.Frag)(o:Wo):W->V->Prop
 |.ty n,v=>v=.ty n
 |.exc c,v=> ∃a C,v=.ref a/\nsIn K mainGlobals c=some (some (.ref C))/\o.H a=some (excO a (.ref C))
 |.cls c,v=> ∃C,v=.ref C/\nsIn K mainGlobals c=some (some (.ref C))
 |.non,v=>v=.non
 |.bl b,v=>v=.bl b
 |.int i,v=>v=.int i
 |.str x,v=>v=.str x
 |.tup l,v=> ∃a vs,v=.ref a/\SqT K o.H a vs/\Rvs K o l vs
 |.tl l,v=> ∃a vs,v=.ref a/\o.H a=some (.lst vs)/\ ¬Lv o a/\Rvs K o l vs
 |.cl l,v=> ∃a vs,v=.ref a/\((Rd o.H a (.lst vs)/\ ¬Lv o a)\/FrL K a vs)/\Rvs K o l vs
 |.dv ks ws,v=> ∃a kvs,v=.ref a/\Rd o.H a (.dK kvs)/\ ¬Lv o a/\kvs.map (·.1)=ks/\Rvs K o ws (kvs.map (·.2))
 |.dn b ks ws,v=> ∃a,∃xs:List (PKy×Addr×V)×Nat,v=.ref a/\o.H a=some (.dN b xs.1 xs.2)/\ ¬Lv o a/\xs.1.map (·.1)=ks/\(∀x∈xs.1,KeyN K o.H b x.2.1 x.1)/\Rvs K o ws (xs.1.map (·.2.2))
 |.kt ks,v=> ∃a,v=.ref a/\o.H a=some (.tup (ks.map kV))
 |.loc k,v=>k<o.h.length/\v=.ref (o.mu k)
def Rvs (K:PySem.W.Frag)(o:Wo):List W->List V->Prop
 |[],vs=>vs=[]
 |w::l,vs=> ∃v r,vs=v::r/\Rv K o w v/\Rvs K o l r
end
def Ro (K:PySem.W.Frag)(o:Wo)(a:Addr):Ob->Prop
 |.lst l=> ∃vs,o.H a=some (.lst vs)/\Rvs K o l vs
 |.dic ks ws=> ∃kvs,o.H a=some (.dK kvs)/\kvs.map (·.1)=ks/\Rvs K o ws (kvs.map (·.2))
 |.dit ks ws=> ∃kvs,o.H a=some (.dT kvs)/\kvs.map (·.1)=ks/\Rvs K o ws (kvs.map (·.2))
 |.din b ks ws=> ∃xs:List (PKy×Addr×V)×Nat,o.H a=some (.dN b xs.1 xs.2)/\xs.1.map (·.1)=ks/\(∀x∈xs.1,KeyN K o.H b x.2.1 x.1)/\Rvs K o ws (xs.1.map (·.2.2))
 |.ins c ns ws=> ∃C dx fs,nsIn K mainGlobals c=some (some (.ref C))/\o.H a=some (.ins C dx fs)/\fs.map (·.1)=ns/\Rvs K o ws (fs.map (·.2))
 |.gone=>True
structure Rel (K:PySem.W.Frag)(o:Wo):Prop where
 ob: ∀k b,o.h[k]?=some b->Ro K o (o.mu k) b
 inj: ∀j k b c,o.h[j]?=some b->o.h[k]?=some c->b≠.gone->c≠.gone->o.mu j=o.mu k->j=k
structure Ex (o p:Wo):Prop where
 le:o.h.length<=p.h.length
 mu: ∀k,k<o.h.length->p.mu k=o.mu k
 fr: ∀a u,o.H a=some u-> ¬Lv o a->p.H a=some u/\ ¬Lv p a
theorem Ex.refl (o:Wo):Ex o o:=⟨Nat.le_refl _,fun _ _=>rfl,fun _ _ h n=>⟨h,n⟩⟩
theorem Ex.trans {o p q:Wo}(a:Ex o p)(b:Ex p q):Ex o q:=⟨Nat.le_trans a.le b.le,fun k h=>(b.mu k (Nat.lt_of_lt_of_le h a.le)).trans (a.mu k h),fun c u h n=>let ⟨h1,n1⟩:=a.fr c u h n;b.fr c u h1 n1⟩
section
variable {K:PySem.W.Frag}{o p:Wo}
theorem Lv.kind (R:Rel K o){a:Addr}(h:Lv o a):(∃vs,o.H a=some (.lst vs))\/(∃kvs,o.H a=some (.dK kvs))\/(∃C dx fs,o.H a=some (.ins C dx fs))\/(∃kvs,o.H a=some (.dT kvs))\/ ∃b,∃xs:List (PKy×Addr×V)×Nat,o.H a=some (.dN b xs.1 xs.2):=by
 obtain⟨k,b,hk,hb,rfl⟩:=h
 have q:=R.ob k b hk
 cases b with
 |lst l=>exact .inl (let ⟨vs,e,_⟩:=q;⟨vs,e⟩)
 |dic ks ws=>exact .inr (.inl (let ⟨vs,e,_⟩:=q;⟨vs,e⟩))
 |ins c ns ws=>exact .inr (.inr (.inl (let ⟨C,dx,fs,_,e,_⟩:=q;⟨C,dx,fs,e⟩)))
 |dit ks ws=>exact .inr (.inr (.inr (.inl (let ⟨vs,e,_⟩:=q;⟨vs,e⟩))))
 |din b ks ws=>exact .inr (.inr (.inr (.inr (let ⟨vs,e,_⟩:=q;⟨b,vs,e⟩))))
 |gone=>exact absurd rfl hb
theorem Ex.keep (X:Ex o p)(R:Rel K o){a:Addr}{u:HO}(h:o.H a=some u)(n1: ∀vs,u≠.lst vs)(n2: ∀kvs,u≠.dK kvs)(n3: ∀C dx fs,u≠.ins C dx fs)(n4: ∀kvs,u≠.dT kvs)(n5: ∀b (xs:List (PKy×Addr×V)×Nat),u≠.dN b xs.1 xs.2):p.H a=some u:=by
 refine (X.fr a u h fun l=>?_).1
 rcases l.kind R with⟨vs,e⟩|⟨vs,e⟩|⟨C,dx,fs,e⟩|⟨vs,e⟩|⟨b,vs,e⟩
 ·rw[h] at e;exact n1 vs (Option.some.inj e)
 ·rw[h] at e;exact n2 vs (Option.some.inj e)
 ·rw[h] at e;exact n3 C dx fs (Option.some.inj e)
 ·rw[h] at e;exact n4 vs (Option.some.inj e)
 ·rw[h] at e;exact n5 b vs (Option.some.inj e)
theorem Ex.rdT (X:Ex o p)(R:Rel K o){a:Addr}{vs:List V}(h:SqT K o.H a vs):SqT K p.H a vs:=by
 rcases h with (h|⟨ob,h⟩)|h
 ·exact .inl (.inl (X.keep R h (fun _ z=>nomatch z) (fun _ z=>nomatch z) (fun _ _ _ z=>nomatch z) (fun _ z=>nomatch z) fun _ _ z=>nomatch z))
 ·exact .inl (.inr ⟨ob,X.keep R h (fun _ z=>nomatch z) (fun _ z=>nomatch z) (fun _ _ _ z=>nomatch z) (fun _ z=>nomatch z) fun _ _ z=>nomatch z⟩)
 ·exact .inr h
theorem KeyN.mono (X:Ex o p)(R:Rel K o){b:Bool}{c:Addr}{k:PKy}(h:KeyN K o.H b c k):KeyN K p.H b c k:=by
 obtain⟨d,h1,h2⟩:=h
 exact⟨d,X.rdT R h1,X.rdT R h2⟩
theorem Ex.rd (X:Ex o p){a:Addr}{u:HO}(h:Rd o.H a u)(n:¬Lv o a):Rd p.H a u/\ ¬Lv p a:=by
 rcases h with h|⟨ob,h⟩
 ·exact⟨.inl (X.fr a _ h n).1,(X.fr a _ h n).2⟩
 ·exact⟨.inr ⟨ob,(X.fr a _ h n).1⟩,(X.fr a _ h n).2⟩
mutual
theorem Rv.mono (R:Rel K o)(X:Ex o p): ∀ (w:W) (v:V),Rv K o w v->Rv K p w v
 |.ty n,v,h=>h
 |.exc c,v,h=>by
  unfold Rv at h ⊢
  obtain⟨a,C,e,h1,h2⟩:=h
  exact⟨a,C,e,h1,X.keep R h2 (fun _ z=>nomatch z) (fun _ z=>nomatch z) (fun _ _ _ z=>nomatch z) (fun _ z=>nomatch z) fun _ _ z=>nomatch z⟩
 |.cls c,v,h=>by
  unfold Rv at h ⊢
  exact h
 |.non,v,h=>h
 |.bl b,v,h=>h
 |.int i,v,h=>h
 |.str x,v,h=>h
 |.tup l,v,h=>by
  unfold Rv at h ⊢
  obtain⟨a,vs,e,h1,h2⟩:=h
  exact⟨a,vs,e,X.rdT R h1,Rvs.mono R X l vs h2⟩
 |.tl l,v,h=>by
  unfold Rv at h ⊢
  obtain⟨a,vs,e,h1,n,h2⟩:=h
  exact⟨a,vs,e,(X.fr a _ h1 n).1,(X.fr a _ h1 n).2,Rvs.mono R X l vs h2⟩
 |.cl l,v,h=>by
  unfold Rv at h ⊢
  obtain⟨a,vs,e,h1,h2⟩:=h
  refine⟨a,vs,e,?_,Rvs.mono R X l vs h2⟩
  rcases h1 with⟨h1,n⟩|h1
  ·exact .inl (X.rd h1 n)
  ·exact .inr h1
 |.dv ks ws,v,h=>by
  unfold Rv at h ⊢
  obtain⟨a,vs,e,h1,n,h2,h3⟩:=h
  exact⟨a,vs,e,(X.rd h1 n).1,(X.rd h1 n).2,h2,Rvs.mono R X ws _ h3⟩
 |.dn b ks ws,v,h=>by
  unfold Rv at h ⊢
  obtain⟨a,xs,e,h1,n,h2,hn,h3⟩:=h
  exact⟨a,xs,e,(X.fr a _ h1 n).1,(X.fr a _ h1 n).2,h2,fun x hx=>(hn x hx).mono X R,Rvs.mono R X ws _ h3⟩
 |.kt ks,v,h=>by
  unfold Rv at h ⊢
  obtain⟨a,e,h⟩:=h
  exact⟨a,e,X.keep R h (fun _ z=>nomatch z) (fun _ z=>nomatch z) (fun _ _ _ z=>nomatch z) (fun _ z=>nomatch z) fun _ _ z=>nomatch z⟩
 |.loc k,v,h=>by
  unfold Rv at h ⊢
  exact⟨Nat.lt_of_lt_of_le h.1 X.le,by rw[X.mu k h.1];exact h.2⟩
theorem Rvs.mono (R:Rel K o)(X:Ex o p): ∀ (l:List W) (vs:List V),Rvs K o l vs->Rvs K p l vs
 |[],vs,h=>h
 |w::l,vs,h=>by
  unfold Rvs at h ⊢
  obtain⟨v,r,e,h1,h2⟩:=h
  exact⟨v,r,e,Rv.mono R X w v h1,Rvs.mono R X l r h2⟩
end
theorem Rel.keep (R:Rel K o)(X:Ex o p)(e1:p.h=o.h)(e2:p.mu=o.mu)(e3: ∀k b,o.h[k]?=some b->b≠.gone->p.H (o.mu k)=o.H (o.mu k)):Rel K p:=by
 refine⟨fun k b hk=>?_,fun j k b c h1 h2=>?_⟩
 ·rw[e1] at hk
  rw[e2]
  have q:=R.ob k b hk
  cases b with
  |lst l=>obtain⟨vs,h1,h2⟩:=q;exact⟨vs,by rw[e3 k _ hk (by simp)];exact h1,h2.mono R X⟩
  |dic ks ws=>obtain⟨vs,h1,h2,h3⟩:=q;exact⟨vs,by rw[e3 k _ hk (by simp)];exact h1,h2,h3.mono R X⟩
  |dit ks ws=>obtain⟨vs,h1,h2,h3⟩:=q;exact⟨vs,by rw[e3 k _ hk (by simp)];exact h1,h2,h3.mono R X⟩
  |din b ks ws=>obtain⟨vs,h1,h2,hn,h3⟩:=q;exact⟨vs,by rw[e3 k _ hk (by simp)];exact h1,h2,fun x hx=>(hn x hx).mono X R,h3.mono R X⟩
  |ins c ns ws=>obtain⟨C,dx,fs,h0,h1,h2,h3⟩:=q;exact⟨C,dx,fs,h0,by rw[e3 k _ hk (by simp)];exact h1,h2,h3.mono R X⟩
  |gone=>trivial
 ·rw[e1] at h1 h2
  rw[e2]
  exact R.inj j k b c h1 h2
theorem Lv.there (R:Rel K o){a:Addr}(h:Lv o a):o.H a≠none:=by
 rcases h.kind R with⟨vs,e⟩|⟨vs,e⟩|⟨C,dx,fs,e⟩|⟨vs,e⟩|⟨b,vs,e⟩<;>(rw[e];simp)
theorem Ex.new {q:Addr}{u:HO}(h:o.H q=none):Ex o ⟨o.mu,o.h,upd o.H q u⟩:=by
 refine⟨Nat.le_refl _,fun _ _=>rfl,fun a w e n=>⟨?_,n⟩⟩
 show upd o.H q u a=some w
 rw[au (bM e h)];exact e
theorem Rel.new (R:Rel K o){q:Addr}{u:HO}(h:o.H q=none):Rel K ⟨o.mu,o.h,upd o.H q u⟩:=by
 refine R.keep (Ex.new h) rfl rfl fun k b hk hb=>?_
 have l:Lv o (o.mu k):=⟨k,b,hk,hb,rfl⟩
 show upd o.H q u (o.mu k)=_
 rw[au fun z=>l.there R (by rw[z];exact h)]
def Wo.add (o:Wo)(q:Addr)(b:Ob)(u:HO):Wo:=⟨fun k=>if k=o.h.length then q else o.mu k,o.h++[b],upd o.H q u⟩
theorem Ex.add {q:Addr}{b:Ob}{u:HO}(h:o.H q=none):Ex o (o.add q b u):=by
 refine⟨by show _<=(o.h++[b]).length;simp,fun k hk=>?_,fun a w e n=>⟨?_,fun l=>?_⟩⟩
 ·show (if k=o.h.length then q else o.mu k)=_
  rw[if_neg (by omega)]
 ·show upd o.H q u a=some w
  rw[au (bM e h)];exact e
 ·obtain⟨k,c,hk,hc,ha⟩:=l
  have ha:(if k=o.h.length then q else o.mu k)=a:=ha
  have hk:(o.h++[b])[k]?=some c:=hk
  by_cases z:k=o.h.length
  ·rw[if_pos z] at ha
   exact absurd ha.symm (bM e h)
  ·rw[if_neg z] at ha
   have hl:k<o.h.length:=by
    have:=(List.getElem?_eq_some_iff.mp hk).1
    rw[List.length_append,List.length_singleton] at this
    omega
   rw[List.getElem?_append_left hl] at hk
   exact n ⟨k,c,hk,hc,ha⟩
theorem Rel.add (R:Rel K o){q:Addr}{b:Ob}{u:HO}(h:o.H q=none)(hb:Ro K (o.add q b u) q b):Rel K (o.add q b u):=by
 have X:Ex o (o.add q b u):=Ex.add h
 have old: ∀ {k:Nat}{c:Ob},(o.add q b u).h[k]?=some c->k≠o.h.length->o.h[k]?=some c/\(o.add q b u).mu k=o.mu k:=fun{k c} hk z=>by
  have hk:(o.h++[b])[k]?=some c:=hk
  have hl:k<o.h.length:=by
   have:=(List.getElem?_eq_some_iff.mp hk).1
   rw[List.length_append,List.length_singleton] at this
   omega
  rw[List.getElem?_append_left hl] at hk
  exact⟨hk,X.mu k hl⟩
 have new: ∀ {k:Nat}{c:Ob},(o.add q b u).h[k]?=some c->k=o.h.length->c=b/\(o.add q b u).mu k=q:=fun{k c} hk z=>by
  subst z
  have hk:(o.h++[b])[o.h.length]?=some c:=hk
  rw[List.getElem?_append_right (Nat.le_refl _),Nat.sub_self] at hk
  exact⟨(Option.some.inj hk).symm,if_pos rfl⟩
 have ne: ∀ {k:Nat}{c:Ob},o.h[k]?=some c->c≠.gone->o.mu k≠q:=fun{k c} hk hc z=>Lv.there R ⟨k,c,hk,hc,rfl⟩ (by rw[z];exact h)
 refine⟨fun k c hk=>?_,fun j k c d h1 h2 n1 n2 e=>?_⟩
 ·by_cases z:k=o.h.length
  ·obtain⟨rfl,e⟩:=new hk z
   rw[e];exact hb
  ·obtain⟨hk,e⟩:=old hk z
   rw[e]
   have r:=R.ob k c hk
   have st: ∀ {w:HO},c≠.gone->o.H (o.mu k)=some w->(o.add q b u).H (o.mu k)=some w:=fun{w} hc e=>by
    show upd o.H q u (o.mu k)=some w
    rw[au (ne hk hc)];exact e
   cases c with
   |lst l=>obtain⟨vs,h1,h2⟩:=r;exact⟨vs,st (by simp) h1,h2.mono R X⟩
   |dic ks ws=>obtain⟨vs,h1,h2,h3⟩:=r;exact⟨vs,st (by simp) h1,h2,h3.mono R X⟩
   |dit ks ws=>obtain⟨vs,h1,h2,h3⟩:=r;exact⟨vs,st (by simp) h1,h2,h3.mono R X⟩
   |din b ks ws=>obtain⟨vs,h1,h2,hn,h3⟩:=r;exact⟨vs,st (by simp) h1,h2,fun x hx=>(hn x hx).mono X R,h3.mono R X⟩
   |ins c ns ws=>obtain⟨C,dx,fs,h0,h1,h2,h3⟩:=r;exact⟨C,dx,fs,h0,st (by simp) h1,h2,h3.mono R X⟩
   |gone=>trivial
 ·by_cases z1:j=o.h.length
  ·by_cases z2:k=o.h.length
   ·omega
   ·obtain⟨_,e1⟩:=new h1 z1
    obtain⟨hk,e2⟩:=old h2 z2
    rw[e1,e2] at e
    exact absurd e.symm (ne hk n2)
  ·obtain⟨hj,e1⟩:=old h1 z1
   by_cases z2:k=o.h.length
   ·obtain⟨_,e2⟩:=new h2 z2
    rw[e1,e2] at e
    exact absurd e (ne hj n1)
   ·obtain⟨hk,e2⟩:=old h2 z2
    rw[e1,e2] at e
    exact R.inj j k c d hj hk n1 n2 e
theorem Rel.addL (R:Rel K o){q:Addr}{l:List W}{vs:List V}(h:o.H q=none)(hl:Rvs K o l vs):Rel K (o.add q (.lst l) (.lst vs)):=R.add h ⟨vs,aU,hl.mono R (Ex.add h)⟩
theorem Rel.addT (R:Rel K o){q:Addr}{ks:List (List Key)}{ws:List W}{kvs:List (List Key×V)}(h:o.H q=none)(hk:kvs.map (·.1)=ks)(hl:Rvs K o ws (kvs.map (·.2))):Rel K (o.add q (.dit ks ws) (.dT kvs)):=R.add h ⟨kvs,aU,hk,hl.mono R (Ex.add h)⟩
def Wo.put (o:Wo)(k:Nat)(b:Ob)(u:HO):Wo:=⟨o.mu,o.h.set k b,upd o.H (o.mu k) u⟩
theorem Lv.put {k:Nat}{b c:Ob}{u:HO}{a:Addr}(hk:o.h[k]?=some c)(hc:c≠.gone)(h:Lv (o.put k b u) a):Lv o a:=by
 obtain⟨j,d,hj,hd,rfl⟩:=h
 have hj:(o.h.set k b)[j]?=some d:=hj
 by_cases z:j=k
 ·subst z;exact⟨j,c,hk,hc,rfl⟩
 ·rw[List.getElem?_set_ne (Ne.symm z)] at hj
  exact⟨j,d,hj,hd,rfl⟩
theorem Ex.put {k:Nat}{b c:Ob}{u:HO}(hk:o.h[k]?=some c)(hc:c≠.gone):Ex o (o.put k b u):=by
 refine⟨by show _<=(o.h.set k b).length;simp,fun _ _=>rfl,fun a w e n=>⟨?_,fun l=>n (l.put hk hc)⟩⟩
 show upd o.H (o.mu k) u a=some w
 rw[au fun z=>n ⟨k,c,hk,hc,z.symm⟩];exact e
theorem Rel.put (R:Rel K o){k:Nat}{b c:Ob}{u:HO}(hk:o.h[k]?=some c)(hc:c≠.gone)(hb:Ro K (o.put k b u) (o.mu k) b):Rel K (o.put k b u):=by
 have X:Ex o (o.put k b u):=Ex.put hk hc
 have old: ∀ {j:Nat}{d:Ob},(o.put k b u).h[j]?=some d->j≠k->o.h[j]?=some d:=fun{j d} hj z=>by
  have hj:(o.h.set k b)[j]?=some d:=hj
  rw[List.getElem?_set_ne (Ne.symm z)] at hj
  exact hj
 refine⟨fun j d hj=>?_,fun i j d e h1 h2 n1 n2 q=>?_⟩
 ·by_cases z:j=k
  ·subst z
   have hl:=(List.getElem?_eq_some_iff.mp hk).1
   have hj:(o.h.set j b)[j]?=some d:=hj
   rw[List.getElem?_set_self hl] at hj
   cases hj
   exact hb
  ·have hj:=old hj z
   have r:=R.ob j d hj
   have st: ∀ {w:HO},d≠.gone->o.H (o.mu j)=some w->(o.put k b u).H (o.mu j)=some w:=fun{w} hd e=>by
    show upd o.H (o.mu k) u (o.mu j)=some w
    rw[au fun q=>z (R.inj j k d c hj hk hd hc q)];exact e
   cases d with
   |lst l=>obtain⟨vs,h1,h2⟩:=r;exact⟨vs,st (by simp) h1,h2.mono R X⟩
   |dic ks ws=>obtain⟨vs,h1,h2,h3⟩:=r;exact⟨vs,st (by simp) h1,h2,h3.mono R X⟩
   |dit ks ws=>obtain⟨vs,h1,h2,h3⟩:=r;exact⟨vs,st (by simp) h1,h2,h3.mono R X⟩
   |din b ks ws=>obtain⟨vs,h1,h2,hn,h3⟩:=r;exact⟨vs,st (by simp) h1,h2,fun x hx=>(hn x hx).mono X R,h3.mono R X⟩
   |ins c ns ws=>obtain⟨C,dx,fs,h0,h1,h2,h3⟩:=r;exact⟨C,dx,fs,h0,st (by simp) h1,h2,h3.mono R X⟩
   |gone=>trivial
 ·have ex: ∀ {j:Nat}{d:Ob},(o.put k b u).h[j]?=some d->d≠.gone-> ∃d',o.h[j]?=some d'/\d'≠.gone:=fun{j d} hj n=>by
   by_cases z:j=k
   ·subst z;exact⟨c,hk,hc⟩
   ·exact⟨d,old hj z,n⟩
  obtain⟨d',h1',n1'⟩:=ex h1 n1
  obtain⟨e',h2',n2'⟩:=ex h2 n2
  exact R.inj i j d' e' h1' h2' n1' n2' q
theorem Rel.putL (R:Rel K o){k:Nat}{c:Ob}{l:List W}{vs:List V}(hk:o.h[k]?=some c)(hc:c≠.gone)(hl:Rvs K o l vs):Rel K (o.put k (.lst l) (.lst vs)):=R.put hk hc ⟨vs,aU,hl.mono R (Ex.put hk hc)⟩
theorem Rel.putD (R:Rel K o){k:Nat}{c:Ob}{ks:List Key}{ws:List W}{kvs:List (Key×V)}(hk:o.h[k]?=some c)(hc:c≠.gone)(h1:kvs.map (·.1)=ks)(hl:Rvs K o ws (kvs.map (·.2))):Rel K (o.put k (.dic ks ws) (.dK kvs)):=R.put hk hc ⟨kvs,aU,h1,hl.mono R (Ex.put hk hc)⟩
theorem Rel.putT (R:Rel K o){k:Nat}{c:Ob}{ks:List (List Key)}{ws:List W}{kvs:List (List Key×V)}(hk:o.h[k]?=some c)(hc:c≠.gone)(h1:kvs.map (·.1)=ks)(hl:Rvs K o ws (kvs.map (·.2))):Rel K (o.put k (.dit ks ws) (.dT kvs)):=R.put hk hc ⟨kvs,aU,h1,hl.mono R (Ex.put hk hc)⟩
theorem Rel.putN (R:Rel K o){k:Nat}{c:Ob}{b:Bool}{ks:List PKy}{ws:List W}{xs:List (PKy×Addr×V)}{ep:Nat}(hk:o.h[k]?=some c)(hc:c≠.gone)(h1:xs.map (·.1)=ks)(hn: ∀x∈xs,KeyN K o.H b x.2.1 x.1)(hl:Rvs K o ws (xs.map (·.2.2))):Rel K (o.put k (.din b ks ws) (.dN b xs ep)):=R.put hk hc ⟨(xs,ep),aU,h1,fun x hx=>(hn x hx).mono (Ex.put hk hc) R,hl.mono R (Ex.put hk hc)⟩
noncomputable def Wo.ice (o:Wo)(k:Nat):Wo:=⟨o.mu,o.h.set k .gone,o.H⟩
theorem Lv.ice {k:Nat}{a:Addr}(h:Lv (o.ice k) a): ∃j b,j≠k/\o.h[j]?=some b/\b≠.gone/\o.mu j=a:=by
 obtain⟨j,d,hj,hd,e⟩:=h
 have hj:(o.h.set k .gone)[j]?=some d:=hj
 by_cases z:j=k
 ·subst z
  have hl:=(List.getElem?_eq_some_iff.mp hj).1
  rw[List.length_set] at hl
  rw[List.getElem?_set_self hl] at hj
  cases hj
  exact absurd rfl hd
 ·rw[List.getElem?_set_ne (Ne.symm z)] at hj
  exact⟨j,d,z,hj,hd,e⟩
theorem Ex.ice {k:Nat}:Ex o (o.ice k):=by
 refine⟨by show _<=(o.h.set k .gone).length;simp,fun _ _=>rfl,fun a w e n=>⟨e,fun l=>?_⟩⟩
 obtain⟨j,b,_,h1,h2,h3⟩:=l.ice
 exact n ⟨j,b,h1,h2,h3⟩
theorem Rel.ice (R:Rel K o){k:Nat}:Rel K (o.ice k):=by
 have X:Ex o (o.ice k):=Ex.ice
 have old: ∀ {j:Nat}{d:Ob},(o.ice k).h[j]?=some d->d≠.gone->o.h[j]?=some d:=fun{j d} hj n=>by
  have hj:(o.h.set k .gone)[j]?=some d:=hj
  by_cases z:j=k
  ·subst z
   have hl:=(List.getElem?_eq_some_iff.mp hj).1
   rw[List.length_set] at hl
   rw[List.getElem?_set_self hl] at hj
   cases hj
   exact absurd rfl n
  ·rw[List.getElem?_set_ne (Ne.symm z)] at hj
   exact hj
 refine⟨fun j d hj=>?_,fun i j d e h1 h2 n1 n2 q=>R.inj i j d e (old h1 n1) (old h2 n2) n1 n2 q⟩
 cases d with
 |lst l=>obtain⟨vs,h1,h2⟩:=R.ob j _ (old hj (by simp));exact⟨vs,h1,h2.mono R X⟩
 |dic ks ws=>obtain⟨vs,h1,h2,h3⟩:=R.ob j _ (old hj (by simp));exact⟨vs,h1,h2,h3.mono R X⟩
 |dit ks ws=>obtain⟨vs,h1,h2,h3⟩:=R.ob j _ (old hj (by simp));exact⟨vs,h1,h2,h3.mono R X⟩
 |din b ks ws=>obtain⟨vs,h1,h2,hn,h3⟩:=R.ob j _ (old hj (by simp));exact⟨vs,h1,h2,fun x hx=>(hn x hx).mono X R,h3.mono R X⟩
 |ins c ns ws=>obtain⟨C,dx,fs,h0,h1,h2,h3⟩:=R.ob j _ (old hj (by simp));exact⟨C,dx,fs,h0,h1,h2,h3.mono R X⟩
 |gone=>trivial
theorem Rv.iceL (R:Rel K o){k:Nat}{l:List W}(hk:o.h[k]?=some (.lst l)):Rv K (o.ice k) (.tl l) (.ref (o.mu k)):=by
 obtain⟨vs,h1,h2⟩:=R.ob k _ hk
 unfold Rv
 refine⟨_,vs,rfl,h1,fun z=>?_,h2.mono R Ex.ice⟩
 obtain⟨j,b,n,q1,q2,q3⟩:=z.ice
 exact n (R.inj j k b _ q1 hk q2 (by simp) q3)
theorem Rv.iceD (R:Rel K o){k:Nat}{ks:List Key}{ws:List W}(hk:o.h[k]?=some (.dic ks ws)):Rv K (o.ice k) (.dv ks ws) (.ref (o.mu k)):=by
 obtain⟨vs,h1,h0,h2⟩:=R.ob k _ hk
 unfold Rv
 refine⟨_,vs,rfl,.inl h1,fun z=>?_,h0,h2.mono R Ex.ice⟩
 obtain⟨j,b,n,q1,q2,q3⟩:=z.ice
 exact n (R.inj j k b _ q1 hk q2 (by simp) q3)
theorem Rv.iceN (R:Rel K o){k:Nat}{b:Bool}{ks:List PKy}{ws:List W}(hk:o.h[k]?=some (.din b ks ws)):Rv K (o.ice k) (.dn b ks ws) (.ref (o.mu k)):=by
 obtain⟨vs,h1,h0,hn,h2⟩:=R.ob k _ hk
 unfold Rv
 refine⟨_,vs,rfl,h1,fun z=>?_,h0,fun x hx=>(hn x hx).mono Ex.ice R,h2.mono R Ex.ice⟩
 obtain⟨j,b,n,q1,q2,q3⟩:=z.ice
 exact n (R.inj j k b _ q1 hk q2 (by simp) q3)
theorem Rvs.len: ∀ {l:List W}{vs:List V},Rvs K o l vs->vs.length=l.length
 |[],_,h=>by unfold Rvs at h;rw[h];rfl
 |w::l,_,h=>by unfold Rvs at h;obtain⟨v,r,rfl,_,h2⟩:=h;rw[List.length_cons,List.length_cons,Rvs.len h2]
theorem Rvs.get: ∀ {l:List W}{vs:List V}{i:Nat}{w:W},Rvs K o l vs->l[i]?=some w-> ∃v,vs[i]?=some v/\Rv K o w v
 |[],_,_,_,_,e=>by simp at e
 |x::l,_,0,w,h,e=>by unfold Rvs at h;obtain⟨v,r,rfl,h1,h2⟩:=h;cases e;exact⟨v,rfl,h1⟩
 |x::l,_,i+1,w,h,e=>by unfold Rvs at h;obtain⟨v,r,rfl,h1,h2⟩:=h;obtain⟨u,q1,q2⟩:=Rvs.get (l:=l) (i:=i) (w:=w) h2 (by simpa using e);exact⟨u,by simpa using q1,q2⟩
theorem Rvs.nil:Rvs K o [] []:=by unfold Rvs;rfl
theorem Rvs.cons {w:W}{v:V}{l:List W}{vs:List V}(h:Rv K o w v)(t:Rvs K o l vs):Rvs K o (w::l) (v::vs):=by unfold Rvs;exact⟨v,vs,rfl,h,t⟩
theorem Rvs.app: ∀ {l m:List W}{vs us:List V},Rvs K o l vs->Rvs K o m us->Rvs K o (l++m) (vs++us)
 |[],_,_,_,h,t=>by unfold Rvs at h;rw[h];exact t
 |w::l,m,_,us,h,t=>by unfold Rvs at h;obtain⟨v,r,rfl,h1,h2⟩:=h;exact Rvs.cons h1 (Rvs.app h2 t)
theorem Rvs.take: ∀ {l:List W}{vs:List V} (n:Nat),Rvs K o l vs->Rvs K o (l.take n) (vs.take n)
 |[],_,n,h=>by unfold Rvs at h;rw[h,List.take_nil,List.take_nil];exact Rvs.nil
 |w::l,_,0,h=>by rw[List.take_zero,List.take_zero];exact Rvs.nil
 |w::l,_,n+1,h=>by unfold Rvs at h;obtain⟨v,r,rfl,h1,h2⟩:=h;exact Rvs.cons h1 (Rvs.take n h2)
theorem Rvs.drop: ∀ {l:List W}{vs:List V} (n:Nat),Rvs K o l vs->Rvs K o (l.drop n) (vs.drop n)
 |[],_,n,h=>by unfold Rvs at h;rw[h,List.drop_nil,List.drop_nil];exact Rvs.nil
 |w::l,_,0,h=>h
 |w::l,_,n+1,h=>by unfold Rvs at h;obtain⟨v,r,rfl,h1,h2⟩:=h;exact Rvs.drop n h2
theorem Rvs.set {x:W}{y:V}(hx:Rv K o x y): ∀ {l:List W}{vs:List V} (i:Nat),Rvs K o l vs->Rvs K o (l.set i x) (vs.set i y)
 |[],_,n,h=>by unfold Rvs at h;rw[h];exact Rvs.nil
 |w::l,_,0,h=>by unfold Rvs at h;obtain⟨v,r,rfl,h1,h2⟩:=h;exact Rvs.cons hx h2
 |w::l,_,n+1,h=>by unfold Rvs at h;obtain⟨v,r,rfl,h1,h2⟩:=h;exact Rvs.cons h1 (Rvs.set hx n h2)
noncomputable abbrev Env':=List (Option W)
def RvO (K:PySem.W.Frag)(o:Wo):Option W->Option V->Prop
 |some w,s=> ∃v,s=some v/\Rv K o w v
 |none,s=>s=none
def Re (K:PySem.W.Frag)(o:Wo):Env'->St->Prop
 |[],s=>s=[]
 |w::r,s=> ∃x t,s=x::t/\RvO K o w x/\Re K o r t
theorem RvO.mono (R:Rel K o)(X:Ex o p): ∀ {w:Option W}{s:Option V},RvO K o w s->RvO K p w s
 |some w,_,⟨v,e,h⟩=>⟨v,e,h.mono R X⟩
 |none,_,h=>h
theorem Re.mono (R:Rel K o)(X:Ex o p): ∀ {r:Env'}{s:St},Re K o r s->Re K p r s
 |[],_,h=>h
 |w::r,_,⟨x,t,e,h1,h2⟩=>⟨x,t,e,h1.mono R X,Re.mono R X h2⟩
theorem Re.get: ∀ {r:Env'}{s:St}{i:Nat}{w:W},Re K o r s->r[i]?=some (some w)-> ∃v,s[i]?=some (some v)/\Rv K o w v
 |[],_,_,_,_,e=>by simp at e
 |x::r,_,0,w,⟨y,t,rfl,h1,h2⟩,e=>by cases e;obtain⟨v,rfl,q⟩:=h1;exact⟨v,rfl,q⟩
 |x::r,_,i+1,w,⟨y,t,rfl,h1,h2⟩,e=>by obtain⟨u,q1,q2⟩:=Re.get (r:=r) (i:=i) (w:=w) h2 (by simpa using e);exact⟨u,by simpa using q1,q2⟩
theorem Re.set {w:W}{v:V}(q:Rv K o w v): ∀ {r:Env'}{s:St} (i:Nat),Re K o r s->Re K o (r.set i (some w)) (s.set i (some v))
 |[],_,_,h=>by rw[show _=[] from h];rfl
 |x::r,_,0,⟨y,t,rfl,h1,h2⟩=>⟨_,_,rfl,⟨v,rfl,q⟩,h2⟩
 |x::r,_,i+1,⟨y,t,rfl,h1,h2⟩=>⟨_,_,rfl,h1,Re.set q i h2⟩
theorem Re.front: ∀ {r:Env'}{s:St} (n:Nat),Re K o r s->Re K o (List.replicate n none++r) (List.replicate n none++s)
 |_,_,0,h=>h
 |_,_,n+1,h=>⟨none,_,rfl,rfl,Re.front n h⟩
theorem Re.args: ∀ {ws:List W}{vs:List V} (n:Nat),Rvs K o ws vs->Re K o (ws.map some++List.replicate n none) (vs.map some++List.replicate n none)
 |[],_,n,h=>by
  unfold Rvs at h;rw[h]
  induction n with
  |zero=>rfl
  |succ n ih=>exact⟨none,_,rfl,rfl,ih⟩
 |w::l,_,n,h=>by unfold Rvs at h;obtain⟨v,r,rfl,h1,h2⟩:=h;exact⟨_,_,rfl,⟨v,rfl,h1⟩,Re.args n h2⟩
end
inductive Rs (α:Type) where
 |ok (a:α)(h:List Ob)|ex (c:Str)(h:List Ob)|bad
noncomputable abbrev M (α:Type):=List Ob->Rs α
def bd {α β:Type}(f:M α)(g:α->M β):M β:=fun h=>match f h with
 |.ok a h'=>g a h'
 |.ex c h'=>.ex c h'
 |.bad=>.bad
def pr {α:Type}(a:α):M α:=fun h=>.ok a h
def no {α:Type}:M α:=fun _=>.bad
def gd {α:Type}(p:Prop) [Decidable p] (m:M α):M α:=fun h=>if p then m h else .bad
structure Cg where
 K:PySem.W.Frag
 mg:Str->Option Value
 E:XK
def Ps {α β:Type}(c:Cg)(r:Wo->α->β->Prop)(o:Wo)(R:Rs α)(Q:β->Hp->Prop):Prop:=match R with
 |.ok a h'=> ∀p b,p.h=h'->Ex o p->Rel c.K p->r p a b->Q b p.H
 |.ex x h'=> ∃u,c.mg x=some u/\ ∀p,p.h=h'->Ex o p->Rel c.K p->c.E u none p.H
 |.bad=>False
def tG {α β:Type}(c:Cg)(r:Wo->α->β->Prop)(f:Env'->M α)(σ:St)(H:Hp)(Q:β->Hp->Prop):Prop:= ∃o ρ,o.H=H/\Rel c.K o/\Re c.K o ρ σ/\Ps c r o (f ρ o.h) Q
noncomputable abbrev tM (c:Cg)(f:Env'->M W):TE:=tG c (Rv c.K) f
noncomputable abbrev tT (c:Cg)(f:Env'->M Bool):TT:=tG c (fun _ a b=>a=b) f
noncomputable abbrev tA (c:Cg)(f:Env'->M (List W)):TA:=tG c (Rvs c.K) f
section
variable {c:Cg}{o p:Wo}{α β γ δ:Type}{r:Wo->α->β->Prop}{r2:Wo->γ->δ->Prop}
theorem Ps.after {R:Rs α}{Q:β->Hp->Prop}(X:Ex o p)(h:Ps c r o R Q):Ps c r p R Q:=by
 cases R with
 |ok a h'=>exact fun q b e X2 Rq rq=>h q b e (X.trans X2) Rq rq
 |ex x h'=>obtain⟨u,hu,h⟩:=h;exact⟨u,hu,fun q e X2 Rq=>h q e (X.trans X2) Rq⟩
 |bad=>exact h
theorem Ps.bd {f:M α}{g:α->M γ}{Q:δ->Hp->Prop}{N:β->Hp->Prop}(h:Ps c r2 o (bd f g o.h) Q)(k:∀p a b,Ex o p->Rel c.K p->r p a b->Ps c r2 p (g a p.h) Q->N b p.H):Ps c r o (f o.h) N:=by
 unfold L2.bd at h
 cases e:f o.h with
 |ok a h'=>
  rw[e] at h
  intro p b hp X R rb
  subst hp
  exact k p a b X R rb (h.after X)
 |ex x h'=>
  rw[e] at h
  exact h
 |bad=>
  rw[e] at h
  exact h
theorem Ps.pr {a:α}{Q:β->Hp->Prop}{b:β}(h:Ps c r o (pr a o.h) Q)(R:Rel c.K o)(hb:r o a b):Q b o.H:=h o b rfl (Ex.refl _) R hb
theorem Ps.at {a:α}{h':List Ob}{Q:β->Hp->Prop}{b:β}(h:Ps c r o (.ok a h') Q)(e:p.h=h')(X:Ex o p)(R:Rel c.K p)(hb:r p a b):Q b p.H:=h p b e X R hb
theorem Ps.gd {P:Prop} [Decidable P] {m:M α}{Q:β->Hp->Prop}(h:Ps c r o (gd P m o.h) Q):P/\Ps c r o (m o.h) Q:=by
 unfold L2.gd at h
 by_cases q:P
 ·rw[if_pos q] at h;exact⟨q,h⟩
 ·rw[if_neg q] at h;exact h.elim
end
end L2
set_option maxHeartbeats 1000000
namespace L2
open PySem PySem.Spec PyProof.Rows
noncomputable abbrev cg (X:Cx)(E:XK):Cg:=⟨X.K,X.mg,E⟩
def tF (c:Cg)(f:Env'->M (List W)):TE:=fun σ H Q=>tG c (Rvs c.K) f σ H fun vs H1=> ∀q,H1 q=none->Q (.ref q) (upd H1 q (.lst vs))
structure JE (X:Cx)(E:XK)(e:Expr)(f:Env'->M W):Prop where
 h:PE X e (tM (cg X E) f)
structure JT (X:Cx)(E:XK)(e:Expr)(f:Env'->M Bool):Prop where
 h:PT X e (tT (cg X E) f)
structure JW (X:Cx)(E:XK)(e:Expr)(f:Env'->M Bool):Prop where
 h:PW X e (tT (cg X E) f)
structure JA (X:Cx)(E:XK)(es:List Expr)(f:Env'->M (List W)):Prop where
 h:PA X es (tA (cg X E) f)
structure JF (X:Cx)(E:XK)(e:Expr)(f:Env'->M (List W)):Prop where
 h:PE X e (tF (cg X E) f)
theorem PE.imp {X:Cx}{E:XK}{e:Expr}{t:TE}{f:Env'->M W}(h:PE X e t)(k:∀σ H Q,tM (cg X E) f σ H Q->t σ H Q):JE X E e f:=⟨fun pins s σ H Q I q=>h pins s σ H Q I (k σ H Q q)⟩
theorem PE.impF {X:Cx}{E:XK}{e:Expr}{t:TE}{f:Env'->M (List W)}(h:PE X e t)(k:∀σ H Q,tF (cg X E) f σ H Q->t σ H Q):JF X E e f:=⟨fun pins s σ H Q I q=>h pins s σ H Q I (k σ H Q q)⟩
theorem PT.imp {X:Cx}{E:XK}{e:Expr}{t:TT}{f:Env'->M Bool}(h:PT X e t)(k:∀σ H Q,tT (cg X E) f σ H Q->t σ H Q):JT X E e f:=⟨fun pins s σ H Q I q=>h pins s σ H Q I (k σ H Q q)⟩
theorem PW.imp {X:Cx}{E:XK}{e:Expr}{t:TT}{f:Env'->M Bool}(h:PW X e t)(k:∀σ H Q,tT (cg X E) f σ H Q->t σ H Q):JW X E e f:=⟨fun w pins s σ H Q I q=>h w pins s σ H Q I (k σ H Q q)⟩
theorem PA.imp {X:Cx}{E:XK}{e:List Expr}{t:TA}{f:Env'->M (List W)}(h:PA X e t)(k:∀σ H Q,tA (cg X E) f σ H Q->t σ H Q):JA X E e f:=⟨fun pos pins s σ H Q I q=>h pos pins s σ H Q I (k σ H Q q)⟩
theorem tR {X:Cx}{E:XK}{e:Expr}{f:Env'->M Bool}(q:JW X E e f):JT X E e f:=⟨(q.h).pt⟩
section
variable {X:Cx}{E:XK}
def mVar (i:Nat):Env'->M W:=fun ρ=>match ρ[i]? with
 |some (some w)=>pr w
 |_=>no
def mC (w:W):Env'->M W:=fun _=>pr w
theorem uc {i:Nat}{σ:St}{H:Hp}{Q:VK}(h:tM (cg X E) (mVar i) σ H Q):tVar i σ H Q:=by
 obtain⟨o,ρ,rfl,R,S,h⟩:=h
 unfold mVar at h
 cases e:ρ[i]? with
 |none=>rw[e] at h;exact h.elim
 |some x=>
  cases x with
  |none=>rw[e] at h;exact h.elim
  |some w=>
   rw[e] at h
   obtain⟨v,e1,r⟩:=S.get e
   exact⟨v,e1,h.pr R r⟩
theorem af (i:Nat){x:Str}{pos:Pos}(hN:X.N[i]?=some x:=by rfl)(hv:Vis X.env.scope x:=by first|exact Or.inl rfl|exact Or.inr (Or.inl rfl)|exact Or.inr (Or.inr rfl))(hd:(x==("__debug__":Str))=false:=by decide)
 (hcd:(x==("__classdict__":Str))=false:=by decide):JE X E (.Name x pos) (mVar i):=(pv i hN hv hd hcd).imp fun _ _ _ h=>uc h
theorem pj {w:W}{v:V}(hr: ∀o,Rv X.K o w v){σ:St}{H:Hp}{Q:VK}(h:tM (cg X E) (mC w) σ H Q):tC v σ H Q:=by
 obtain⟨o,ρ,rfl,R,S,h⟩:=h
 exact Ps.pr (c:=cg X E) h R (hr o)
theorem ah {i j pos}:JE X E (.Constant (.int i) j pos) (mC (.int i)):=pe_int.imp fun _ _ _ h=>pj (fun o=>by unfold Rv;rfl) h
theorem ni {i j pos}:JE X E (.Constant (.bool i) j pos) (mC (.bl i)):=pe_bl.imp fun _ _ _ h=>pj (fun o=>by unfold Rv;rfl) h
theorem aL {i j pos}:JE X E (.Constant (.str i) j pos) (mC (.str i)):=pe_str.imp fun _ _ _ h=>pj (fun o=>by unfold Rv;rfl) h
theorem sH {x:Str}{w:W}{v:V}{u:Value}{pos:Pos}(hg:Gl X x)(hm:X.mg x=some u)(r:RelV v u)(hr: ∀o,Rv X.K o w v)(hd:(x==("__debug__":Str))=false:=by decide):JE X E (.Name x pos) (mC w):=
 (sh hg hm r hd).imp fun _ _ _ h=>pj hr h
def m2 (f:W->W->M W)(fa fb:Env'->M W):Env'->M W:=fun ρ=>bd (fa ρ) fun x=>bd (fb ρ) fun y=>f x y
def OpM (X:Cx)(E:XK)(r:R2)(f:W->W->M W):Prop:= ∀ (o:Wo) (x y:W) (vx vy:V) (Q:VK),Rel X.K o->Rv X.K o x vx->Rv X.K o y vy->Ps (cg X E) (Rv X.K) o (f x y o.h) Q->r vx vy o.H Q
theorem pq {r:R2}{f:W->W->M W}(hf:OpM X E r f){fa fb:Env'->M W}{σ:St}{H:Hp}{Q:VK}(h:tM (cg X E) (m2 f fa fb) σ H Q):tOp r (tM (cg X E) fa) (tM (cg X E) fb) σ H Q:=by
 obtain⟨o,ρ,rfl,R,S,h⟩:=h
 exact⟨o,ρ,rfl,R,S,Ps.bd h fun p x vx e1 R1 r1 h1=>⟨p,ρ,rfl,R1,S.mono R e1,Ps.bd h1 fun q y vy e2 R2 r2 h2=>hf q x y vx vy Q R2 (r1.mono R1 e2) r2 h2⟩⟩
theorem jz {a b:Expr}{pos:Pos}{op:Operator}{r:R2}{f:W->W->M W}{fa fb:Env'->M W}(ho:OpR X (binaryOp op) r)(hf:OpM X E r f)(ha:JE X E a fa)(hb:JE X E b fb):
 JE X E (.BinOp a op b pos) (m2 f fa fb):=(v6 ho ha.h hb.h).imp fun _ _ _ h=>pq hf h
theorem iR {a b:Expr}{pos:Pos}{op:CmpOp}{r:R2}{f:W->W->M W}{fa fb:Env'->M W}(ho:OpR X (compareOp op) r)(hf:OpM X E r f)(ha:JE X E a fa)(hb:JE X E b fb)(hm:behindInMarks op b=false):
 JE X E (.Compare a [op] [b] pos) (m2 f fa fb):=(sj ho ha.h hb.h hm).imp fun _ _ _ h=>pq hf h
def asB (w:W):M Bool:=match w with
 |.bl b=>pr b
 |_=>no
def mB (f:Env'->M W):Env'->M Bool:=fun ρ=>bd (f ρ) asB
theorem vI {f:Env'->M W}{σ:St}{H:Hp}{Q:Bool->Hp->Prop}(h:tT (cg X E) (mB f) σ H Q):tM (cg X E) f σ H fun x H'=> ∃k,x=.bl k/\Q k H':=by
 obtain⟨o,ρ,rfl,R,S,h⟩:=h
 refine⟨o,ρ,rfl,R,S,Ps.bd h fun p x vx e1 R1 r1 h1=>?_⟩
 unfold asB at h1
 split at h1
 ·rename_i b
  unfold Rv at r1
  exact⟨b,r1,h1.pr R1 rfl⟩
 ·exact h1.elim
theorem aT {a b:Expr}{pos:Pos}{op:CmpOp}{r:R2}{f:W->W->M W}{fa fb:Env'->M W}(ho:OpR X (compareOp op) r)(hf:OpM X E r f)(ha:JE X E a fa)(hb:JE X E b fb)(hm:behindInMarks op b=false):
 JT X E (.Compare a [op] [b] pos) (mB (m2 f fa fb)):=(rX ho ha.h hb.h hm).imp fun _ _ _ h=>pq hf (vI h)
theorem ql {e:Expr}{f:Env'->M W}(h:JE X E e f)(he: ∀whole,isTrue e X.env whole=(do let v<-whole;standAt e.pos;holding [v] (truthy v)):=by intro _;rfl):JT X E e (mB f):=
 (ux h.h he).imp fun _ _ _ h=>vI h
def mAnd (f g:Env'->M Bool):Env'->M Bool:=fun ρ=>bd (f ρ) fun b=>if b=true then g ρ else pr false
def mOr (f g:Env'->M Bool):Env'->M Bool:=fun ρ=>bd (f ρ) fun b=>if b=true then pr true else g ρ
def mNot (f:Env'->M Bool):Env'->M Bool:=fun ρ=>bd (f ρ) fun b=>pr (!b)
variable {a b:Expr}{rest:List Expr}{pos:Pos}{f g:Env'->M Bool}
theorem vG {σ:St}{H:Hp}{Q:Bool->Hp->Prop}(h:tT (cg X E) (mOr f g) σ H Q):tOr (tT (cg X E) f) (tT (cg X E) g) σ H Q:=by
 obtain⟨o,ρ,rfl,R,S,h⟩:=h
 refine⟨o,ρ,rfl,R,S,Ps.bd h fun p x vx e1 R1 r1 h1=>?_⟩
 subst r1
 cases x with
 |false=>exact iteF ⟨p,ρ,rfl,R1,S.mono R e1,h1⟩
 |true=>exact iteT (h1.pr R1 rfl)
theorem uZ (ha:JT X E a f):JT X E (.UnaryOp .Not a pos) (mNot f):=(uy ha.h).imp fun σ H Q h=>by
 obtain⟨o,ρ,rfl,R,S,h⟩:=h
 refine⟨o,ρ,rfl,R,S,Ps.bd h fun p x vx e1 R1 r1 h1=>?_⟩
 subst r1
 exact h1.pr R1 rfl
theorem qj (ha:JT X E a f):JW X E (.BoolOp .Or [a] pos) f:=⟨uw ha.h⟩
theorem tO (ha:JT X E a f)(hb:JW X E (.BoolOp .Or (b::rest) pos) g):JW X E (.BoolOp .Or (a::b::rest) pos) (mOr f g):=(vZ ha.h hb.h).imp fun _ _ _ h=>vG h
def mAndV (f g:Env'->M W):Env'->M W:=fun ρ=>bd (f ρ) fun w=>bd (asB w) fun b=>if b=true then g ρ else pr (.bl false)
def mOrV (f g:Env'->M W):Env'->M W:=fun ρ=>bd (f ρ) fun w=>bd (asB w) fun b=>if b=true then pr (.bl true) else g ρ
def mNotV (f:Env'->M W):Env'->M W:=fun ρ=>bd (f ρ) fun w=>bd (asB w) fun b=>pr (.bl (!b))
theorem rF {α β:Type}{r:Wo->α->β->Prop}{o:Wo}{w:W}{v:V}{k:Bool->M α}{Q:β->Hp->Prop}(hr:Rv X.K o w v)(h:Ps (cg X E) r o (bd (asB w) k o.h) Q): ∃b,w=.bl b/\v=.bl b/\Ps (cg X E) r o (k b o.h) Q:=by
 cases w with
 |bl b=>unfold Rv at hr;exact⟨b,rfl,hr,h⟩
 |_=>exact h.elim
variable {u v:Env'->M W}
theorem qw {op}(h:JE X E a u):JE X E (.BoolOp op [a] pos) u:=⟨uH h.h⟩
theorem mE (ha:JE X E a u)(hb:JE X E (.BoolOp .And (b::rest) pos) v):JE X E (.BoolOp .And (a::b::rest) pos) (mAndV u v):=(uK ha.h hb.h).imp fun σ H Q h=>by
 obtain⟨o,ρ,rfl,R,S,h⟩:=h
 refine⟨o,ρ,rfl,R,S,Ps.bd h fun p x vx e1 R1 r1 h1=>?_⟩
 obtain⟨k,rfl,rfl,h2⟩:=rF r1 h1
 refine⟨k,rfl,?_⟩
 cases k with
 |true=>exact iteT ⟨p,ρ,rfl,R1,S.mono R e1,h2⟩
 |false=>exact iteF (h2.pr R1 (by unfold Rv;rfl))
theorem u5 (ha:JE X E a u):JE X E (.UnaryOp .Not a pos) (mNotV u):=(uI ha.h).imp fun σ H Q h=>by
 obtain⟨o,ρ,rfl,R,S,h⟩:=h
 refine⟨o,ρ,rfl,R,S,Ps.bd h fun p x vx e1 R1 r1 h1=>?_⟩
 obtain⟨k,rfl,rfl,h2⟩:=rF r1 h1
 exact⟨k,rfl,h2.pr R1 (by unfold Rv;rfl)⟩
def mIf (f:Env'->M Bool)(u v:Env'->M W):Env'->M W:=fun ρ=>bd (f ρ) fun b=>if b=true then u ρ else v ρ
theorem qA {c:Expr}(hc:JT X E c f)(ha:JE X E a u)(hb:JE X E b v):JE X E (.IfExp c a b pos) (mIf f u v):=(pS hc.h ha.h hb.h).imp fun σ H Q h=>by
 obtain⟨o,ρ,rfl,R,S,h⟩:=h
 refine⟨o,ρ,rfl,R,S,Ps.bd h fun p x vx e1 R1 r1 h1=>?_⟩
 subst r1
 cases x with
 |true=>exact iteT ⟨p,ρ,rfl,R1,S.mono R e1,h1⟩
 |false=>exact iteF ⟨p,ρ,rfl,R1,S.mono R e1,h1⟩
def m1 (f:W->M W)(fa:Env'->M W):Env'->M W:=fun ρ=>bd (fa ρ) f
def negW (w:W):M W:=match w with
 |.int i=>pr (.int (-i))
 |_=>no
theorem u6 (ha:JE X E a u):JE X E (.UnaryOp .USub a pos) (m1 negW u):=(v5 tZ ha.h).imp fun σ H Q h=>by
 obtain⟨o,ρ,rfl,R,S,h⟩:=h
 refine⟨o,ρ,rfl,R,S,Ps.bd h fun p x vx e1 R1 r1 h1=>?_⟩
 unfold negW at h1
 split at h1
 ·unfold Rv at r1
  exact⟨_,r1,h1.pr R1 (by unfold Rv;rfl)⟩
 ·exact h1.elim
def mNil:Env'->M (List W):=fun _=>pr []
def mCons (fa:Env'->M W)(fr:Env'->M (List W)):Env'->M (List W):=fun ρ=>bd (fa ρ) fun x=>bd (fr ρ) fun l=>pr (x::l)
variable {es:List Expr}{l:Env'->M (List W)}{e:Expr}
theorem ag:JA X E [] mNil:=pa_nil.imp fun σ H Q h=>by
 obtain⟨o,ρ,rfl,R,S,h⟩:=h
 exact h.pr R Rvs.nil
theorem ae (ha:JE X E e u)(hr:JA X E es l)(hs:starEach (e::es) X.env=(false,eval e X.env)::starEach es X.env:=by rfl):JA X E (e::es) (mCons u l):=(sr ha.h hr.h hs).imp fun σ H Q h=>by
 obtain⟨o,ρ,rfl,R,S,h⟩:=h
 exact⟨o,ρ,rfl,R,S,Ps.bd h fun p x vx e1 R1 r1 h1=>⟨p,ρ,rfl,R1,S.mono R e1,Ps.bd h1 fun q y vy e2 R2 r2 h2=>h2.pr R2 (Rvs.cons (r1.mono R1 e2) r2)⟩⟩
def tupW (l:List W):M W:=gd (l.length<=sizeLine) (pr (.tup l))
def mTup (l:Env'->M (List W)):Env'->M W:=fun ρ=>bd (l ρ) tupW
theorem Rv.newT {K:PySem.W.Frag}{o:Wo}(R:Rel K o){q:Addr}{l:List W}{vs:List V}(h:o.H q=none)(hl:Rvs K o l vs):Rv K ⟨o.mu,o.h,upd o.H q (.tup vs)⟩ (.tup l) (.ref q):=by
 unfold Rv;exact⟨q,vs,rfl,.of aU,hl.mono R (Ex.new h)⟩
theorem Rv.newL {K:PySem.W.Frag}{o:Wo}(R:Rel K o){q:Addr}{l:List W}{vs:List V}(h:o.H q=none)(hl:Rvs K o l vs):Rv K ⟨o.mu,o.h,upd o.H q (.lst vs)⟩ (.tl l) (.ref q):=by
 unfold Rv
 exact⟨q,vs,rfl,aU,fun z=>Lv.there R (show Lv o q from z) h,hl.mono R (Ex.new h)⟩
theorem aE {x1}(h:JA X E es l):JE X E (.Tuple es x1 pos) (mTup l):=(pP h.h).imp fun σ H Q h=>by
 obtain⟨o,ρ,rfl,R,S,h⟩:=h
 refine⟨o,ρ,rfl,R,S,Ps.bd h fun p x vx e1 R1 r1 h1=>?_⟩
 obtain⟨hz,h1⟩:=h1.gd
 exact⟨by rw[r1.len];exact hz,fun q hq=>Ps.at (p:=⟨p.mu,p.h,upd p.H q (.tup vx)⟩) h1 rfl (Ex.new hq) (R1.new hq) (Rv.newT R1 hq r1)⟩
def mTl (l:Env'->M (List W)):Env'->M W:=fun ρ=>bd (l ρ) fun x=>pr (.tl x)
def newW (x:List W):M W:=fun h=>.ok (.loc h.length) (h++[.lst x])
def mNew (l:Env'->M (List W)):Env'->M W:=fun ρ=>bd (l ρ) newW
theorem aY (h:JF X E e l):JE X E e (mTl l):=h.h.imp fun σ H Q h=>by
 obtain⟨o,ρ,rfl,R,S,h⟩:=h
 exact⟨o,ρ,rfl,R,S,Ps.bd h fun p x vx e1 R1 r1 h1=>fun q hq=>Ps.at (p:=⟨p.mu,p.h,upd p.H q (.lst vx)⟩) h1 rfl (Ex.new hq) (R1.new hq) (Rv.newL R1 hq r1)⟩
theorem fU (h:JF X E e l):JE X E e (mNew l):=h.h.imp fun σ H Q h=>by
 obtain⟨o,ρ,rfl,R,S,h⟩:=h
 refine⟨o,ρ,rfl,R,S,Ps.bd h fun p x vx e1 R1 r1 h1=>fun q hq=>?_⟩
 refine Ps.at (p:=p.add q (.lst x) (.lst vx)) h1 rfl (Ex.add hq) (R1.addL hq r1) ?_
 unfold Rv
 exact⟨by show _<(p.h++[_]).length;simp,by show V.ref q=V.ref (if p.h.length=p.h.length then q else _);rw[if_pos rfl]⟩
def lenG (l:Env'->M (List W)):Env'->M (List W):=fun ρ=>bd (l ρ) fun x=>gd (x.length<=sizeLine) (pr x)
theorem bg (h:JA X E es l):JF X E (.List es pos) (lenG l):=(uJ h.h).impF fun σ H Q h=>by
 obtain⟨o,ρ,rfl,R,S,h⟩:=h
 refine⟨o,ρ,rfl,R,S,Ps.bd h fun p x vx e1 R1 r1 h1=>?_⟩
 obtain⟨hz,h1⟩:=h1.gd
 exact⟨by rw[r1.len];exact hz,h1.pr R1 r1⟩
end
end L2
set_option maxHeartbeats 1000000
namespace L2
open PySem PySem.Spec PyProof.Rows
section
variable {X:Cx}{E:XK}
theorem rv_int {K:PySem.W.Frag}{o:Wo}{i:Int}{v:V}:Rv K o (.int i) v↔v=.int i:=by unfold Rv;exact Iff.rfl
theorem rv_str {K:PySem.W.Frag}{o:Wo}{i:Str}{v:V}:Rv K o (.str i) v↔v=.str i:=by unfold Rv;exact Iff.rfl
theorem rv_bl {K:PySem.W.Frag}{o:Wo}{i:Bool}{v:V}:Rv K o (.bl i) v↔v=.bl i:=by unfold Rv;exact Iff.rfl
theorem rv_non {K:PySem.W.Frag}{o:Wo}{v:V}:Rv K o .non v↔v=.non:=by unfold Rv;exact Iff.rfl
theorem rv_ty {K:PySem.W.Frag}{o:Wo}{n:String}{v:V}:Rv K o (.ty n) v↔v=.ty n:=by unfold Rv;exact Iff.rfl
def lstOf (w:W):M (List W):=match w with
 |.tl l=>pr l
 |.cl l=>pr l
 |.loc k=>fun h=>match h[k]? with
  |some (.lst l)=>.ok l h
  |_=>.bad
 |_=>no
theorem bD {α β:Type}{r:Wo->α->β->Prop}{o:Wo}{w:W}{v:V}{k:List W->M α}{Q:β->Hp->Prop}(R:Rel X.K o)(hr:Rv X.K o w v)(h:Ps (cg X E) r o (bd (lstOf w) k o.h) Q):
  ∃l a vs,v=.ref a/\SqL X.K o.H a vs/\Rvs X.K o l vs/\Ps (cg X E) r o (k l o.h) Q:=by
 cases w with
 |tl l=>unfold Rv at hr;obtain⟨a,vs,e,h1,_,h2⟩:=hr;exact⟨l,a,vs,e,.of h1,h2,h⟩
 |cl l=>
  unfold Rv at hr
  obtain⟨a,vs,e,h1,h2⟩:=hr
  rcases h1 with⟨h1,_⟩|h1
  ·exact⟨l,a,vs,e,.inl h1,h2,h⟩
  ·exact⟨l,a,vs,e,.inr h1,h2,h⟩
 |loc j=>
  unfold Rv at hr
  unfold lstOf bd at h
  cases e:o.h[j]? with
  |none=>simp only[e] at h;exact h.elim
  |some b=>
   cases b with
   |lst l=>
    simp only[e] at h
    obtain⟨vs,h1,h2⟩:=R.ob j _ e
    exact⟨l,_,vs,hr.2,.of h1,h2,h⟩
   |_=>simp only[e] at h;exact h.elim
 |_=>exact h.elim
def lstO (w:W):M (List W):=match w with
 |.tl l=>pr l
 |.loc k=>fun h=>match h[k]? with
  |some (.lst l)=>.ok l h
  |_=>.bad
 |_=>no
theorem ig {α β:Type}{r:Wo->α->β->Prop}{o:Wo}{w:W}{v:V}{k:List W->M α}{Q:β->Hp->Prop}(R:Rel X.K o)(hr:Rv X.K o w v)(h:Ps (cg X E) r o (bd (lstO w) k o.h) Q):
  ∃l a vs,v=.ref a/\o.H a=some (.lst vs)/\Rvs X.K o l vs/\Ps (cg X E) r o (k l o.h) Q:=by
 cases w with
 |tl l=>unfold Rv at hr;obtain⟨a,vs,e,h1,_,h2⟩:=hr;exact⟨l,a,vs,e,h1,h2,h⟩
 |loc j=>
  unfold Rv at hr
  unfold lstO bd at h
  cases e:o.h[j]? with
  |none=>simp only[e] at h;exact h.elim
  |some b=>
   cases b with
   |lst l=>
    simp only[e] at h
    obtain⟨vs,h1,h2⟩:=R.ob j _ e
    exact⟨l,_,vs,hr.2,h1,h2,h⟩
   |_=>simp only[e] at h;exact h.elim
 |_=>exact h.elim
theorem hJ {o:Wo}{q:Addr}{l:List W}{vs:List V}{Q:VK}(R:Rel X.K o)(hq:o.H q=none)(hl:Rvs X.K o l vs)(h:Ps (cg X E) (Rv X.K) o (pr (.tup l) o.h) Q):Q (.ref q) (upd o.H q (.tup vs)):=
 Ps.at (p:=⟨o.mu,o.h,upd o.H q (.tup vs)⟩) h rfl (Ex.new hq) (R.new hq) (Rv.newT R hq hl)
theorem fu {o:Wo}{q:Addr}{l:List W}{vs:List V}{Q:VK}(R:Rel X.K o)(hq:o.H q=none)(hl:Rvs X.K o l vs)(h:Ps (cg X E) (Rv X.K) o (pr (.tl l) o.h) Q):Q (.ref q) (upd o.H q (.lst vs)):=
 Ps.at (p:=⟨o.mu,o.h,upd o.H q (.lst vs)⟩) h rfl (Ex.new hq) (R.new hq) (Rv.newL R hq hl)
def addW (x y:W):M W:=match x,y with
 |.int i,.int j=>pr (.int (i+j))
 |.str a,.str b=>gd (a.length+b.length<=sizeLine) (pr (.str (a++b)))
 |.tup a,.tup b=>gd (a.isEmpty=false/\a.length+b.length<=sizeLine) (pr (.tup (a++b)))
 |x,y=>bd (lstO x) fun a=>bd (lstO y) fun b=>gd (a.length+b.length<=sizeLine) (pr (.tl (a++b)))
theorem sx:OpM X E (fun x y H Q=>rI0 (fun i j=>.int (i+j)) x y H Q\/(fun x y H Q=>(fun x y H Q=> ∃i j,x=.str i/\y=.str j/\i.length+j.length<=sizeLine/\Q (.str (i++j)) H) x y H Q\/(fun x y H Q=>rCatT X.K x y H Q\/rCat x y H Q) x y H Q) x y H Q) addW:=by
 intro o x y vx vy Q R rx ry h
 unfold addW at h
 split at h
 ·exact .inl ⟨_,_,rv_int.mp rx,rv_int.mp ry,h.pr R (rv_int.mpr rfl)⟩
 ·obtain⟨hz,h⟩:=h.gd
  exact .inr (.inl ⟨_,_,rv_str.mp rx,rv_str.mp ry,hz,h.pr R (rv_str.mpr rfl)⟩)
 ·obtain⟨hz,h⟩:=h.gd
  unfold Rv at rx ry
  obtain⟨a,vs,e1,s1,r1⟩:=rx
  obtain⟨b,us,e2,s2,r2⟩:=ry
  have n1:vs≠ []:=fun z=>by
   have:=r1.len
   rw[z] at this
   have q:=hz.1
   rw[List.eq_nil_of_length_eq_zero this.symm] at q
   cases q
  refine .inr (.inr (.inl ⟨a,b,vs,us,e1,e2,s1,s2,n1,by rw[r1.len,r2.len];exact hz.2,fun z=>?_,fun _ q hq=>hJ R hq (r1.app r2) h⟩))
  refine h.pr R ?_
  unfold Rv
  exact⟨a,vs,rfl,s1,by have:=r1.app r2;rw[z,List.append_nil] at this;exact this⟩
 ·obtain⟨l,a,vs,e1,s1,r1,h⟩:=ig R rx h
  obtain⟨m,b,us,e2,s2,r2,h⟩:=ig R ry h
  obtain⟨hz,h⟩:=h.gd
  exact .inr (.inr (.inr ⟨a,b,vs,us,e1,e2,s1,s2,by rw[r1.len,r2.len];exact hz,fun q hq=>fu R hq (r1.app r2) h⟩))
theorem bA {a b:Expr}{pos:Pos}{fa fb:Env'->M W}(ha:JE X E a fa)(hb:JE X E b fb):JE X E (.BinOp a .Add b pos) (m2 addW fa fb):=
 jz (op_add.or (op_add_str.or (op_catT.or uS))) sx ha hb
def iiW (C:Int->Int->Prop) [∀i j,Decidable (C i j)] (g:Int->Int->W)(x y:W):M W:=match x,y with
 |.int i,.int j=>gd (C i j) (pr (g i j))
 |_,_=>no
theorem gG {C:Int->Int->Prop} [∀i j,Decidable (C i j)] {g:Int->Int->W}{g':Int->Int->V}(hg: ∀o i j,Rv X.K o (g i j) (g' i j)):OpM X E (rI C g') (iiW C g):=by
 intro o x y vx vy Q R rx ry h
 unfold iiW at h
 split at h
 ·obtain⟨hz,h⟩:=h.gd
  exact⟨_,_,rv_int.mp rx,rv_int.mp ry,hz,h.pr R (hg _ _ _)⟩
 ·exact h.elim
theorem opR0 {f:Value->Value->Sem Value}{g':Int->Int->V}(h:OpR X f (rI0 g')):OpR X f (rI (fun _ _=>True) g'):=fun pins s σ H x y v u Q I rx ry q=>h pins s σ H x y v u Q I rx ry (let ⟨i,j,e1,e2,_,q⟩:=q;⟨i,j,e1,e2,q⟩)
noncomputable abbrev CT:Int->Int->Prop:=fun _ _=>True
def subW:W->W->M W:=iiW CT fun i j=>.int (i - j)
theorem qt {a b:Expr}{pos:Pos}{fa fb:Env'->M W}(ha:JE X E a fa)(hb:JE X E b fb):JE X E (.BinOp a .Sub b pos) (m2 subW fa fb):=
 jz (opR0 uM) (gG fun _ _ _=>rv_int.mpr rfl) ha hb
noncomputable def CDivB (i j:Int):Prop:=0<j/\j<2 ^ 200
instance (i j:Int):Decidable (CDivB i j):=by unfold CDivB;infer_instance
theorem p6:OpR X (binaryOp .FloorDiv) (rI CDivB fun i j=>.int (i / j)):=opI fun i j _ _ _ _ _ hc q=>by
 have h1:(0:Int)<j:=hc.1
 have h2:j<2 ^ 200:=hc.2
 refine floordiv_int (by omega) (by rw[Int.fdiv_eq_ediv_of_nonneg i (by omega)];exact q) (.inl (PyProof.noPylong_of_log2 ?_))
 have h3:j.natAbs<2 ^ 200:=by omega
 exact Nat.lt_of_lt_of_le ((Nat.log2_lt (by omega)).mpr h3) (by decide)
def fdivW:W->W->M W:=iiW CDivB fun i j=>.int (i / j)
theorem nh {a b:Expr}{pos:Pos}{fa fb:Env'->M W}(ha:JE X E a fa)(hb:JE X E b fb):JE X E (.BinOp a .FloorDiv b pos) (m2 fdivW fa fb):=
 jz p6 (gG fun _ _ _=>rv_int.mpr rfl) ha hb
noncomputable abbrev CMod:Int->Int->Prop:=fun _ j=>0<j
def modW:W->W->M W:=iiW CMod fun i j=>.int (i % j)
theorem fW {a b:Expr}{pos:Pos}{fa fb:Env'->M W}(ha:JE X E a fa)(hb:JE X E b fb):JE X E (.BinOp a .Mod b pos) (m2 modW fa fb):=
 jz uQ (gG fun _ _ _=>rv_int.mpr rfl) ha hb
instance (i j:Int):Decidable (CPow i j):=by unfold CPow;infer_instance
def powW:W->W->M W:=iiW CPow fun i j=>.int (i ^ j.toNat)
theorem iP {a b:Expr}{pos:Pos}{fa fb:Env'->M W}(ha:JE X E a fa)(hb:JE X E b fb):JE X E (.BinOp a .Pow b pos) (m2 powW fa fb):=
 jz uO (gG fun _ _ _=>rv_int.mpr rfl) ha hb
theorem sG {z:Str}{n:Int}(h0:0<=n)(h1:n<=10000)(h:z.length<=30000)(hz:z.length * n.toNat<=1000000):MulOk z n:=by
 refine⟨?_,fun a b=>?_,fun a b=>?_⟩
 ·rw[Bool.or_eq_false_iff,decide_eq_false_iff_not,decide_eq_false_iff_not];omega
 ·have:(100000000000000:Int)<=(2 ^ 63 - 1) / n:=Int.le_ediv_of_mul_le (by omega) (by omega)
  omega
 ·unfold Builtin.Str.tooLong
  have:sizeLine=16777216:=by decide
  exact decide_eq_false (by omega)
instance (i j:Int):Decidable (CMul i j):=by unfold CMul;infer_instance
instance (i j:Int):Decidable (CMulB i j):=by unfold CMulB;infer_instance
def CMulA (i j:Int):Prop:=CMul i j\/CMulB i j
instance (i j:Int):Decidable (CMulA i j):=by unfold CMulA;infer_instance
theorem op_mulA:OpR X (binaryOp .Mult) (rI CMulA fun i j=>.int (i * j)):=opI fun _ _ _ _ _ _ _ hc q=>mul_int q (by rcases hc with h|h;exact h.ok;exact h.ok)
def mulW (x y:W):M W:=match x,y with
 |.int i,.int j=>gd (CMulA i j) (pr (.int (i * j)))
 |.str z,.int n=>gd (0<=n/\n<=10000/\z.length<=30000/\z.length * n.toNat<=1000000) (pr (.str (Txt.mul z n)))
 |x,.int n=>bd (lstO x) fun l=>gd (0<=n/\n<=1000000/\l.length * n.toNat<=sizeLine) (pr (.tl (List.replicate n.toNat l).flatten))
 |_,_=>no
theorem Rvs.rep {K:PySem.W.Frag}{o:Wo}{l:List W}{vs:List V}(h:Rvs K o l vs): ∀n:Nat,Rvs K o (List.replicate n l).flatten (List.replicate n vs).flatten
 |0=>Rvs.nil
 |n+1=>by rw[List.replicate_succ,List.replicate_succ,List.flatten_cons,List.flatten_cons];exact h.app (Rvs.rep h n)
theorem su:OpM X E (fun x y H Q=>rI CMulA (fun i j=>.int (i * j)) x y H Q\/(fun x y H Q=>(fun x y H Q=> ∃ (z:Str) (n:Int),x=.str z/\y=.int n/\MulOk z n/\Q (.str (Txt.mul z n)) H) x y H Q\/rRep x y H Q) x y H Q) mulW:=by
 intro o x y vx vy Q R rx ry h
 unfold mulW at h
 split at h
 ·obtain⟨hz,h⟩:=h.gd
  exact .inl ⟨_,_,rv_int.mp rx,rv_int.mp ry,hz,h.pr R (rv_int.mpr rfl)⟩
 ·obtain⟨hz,h⟩:=h.gd
  exact .inr (.inl ⟨_,_,rv_str.mp rx,rv_int.mp ry,sG hz.1 hz.2.1 hz.2.2.1 hz.2.2.2,h.pr R (rv_str.mpr rfl)⟩)
 ·obtain⟨l,a,vs,e1,s1,r1,h⟩:=ig R rx h
  obtain⟨hz,h⟩:=h.gd
  exact .inr (.inr ⟨a,_,vs,e1,rv_int.mp ry,s1,by omega,by omega,by rw[r1.len];exact hz.2.2,fun q hq=>fu R hq (r1.rep _) h⟩)
 ·exact h.elim
theorem fV {a b:Expr}{pos:Pos}{fa fb:Env'->M W}(ha:JE X E a fa)(hb:JE X E b fb):JE X E (.BinOp a .Mult b pos) (m2 mulW fa fb):=
 jz (op_mulA.or (op_mul_str.or uN)) su ha hb
def ltW:W->W->M W:=iiW CT fun i j=>.bl (decide (i<j))
def leW:W->W->M W:=iiW CT fun i j=>.bl (decide (i<=j))
def gtW:W->W->M W:=iiW CT fun i j=>.bl (decide (j<i))
def geW:W->W->M W:=iiW CT fun i j=>.bl (decide (j<=i))
theorem p4:OpM X E (rI CT fun i j=>.bl (decide (i<j))) ltW:=gG fun _ _ _=>rv_bl.mpr rfl
theorem p5:OpM X E (rI CT fun i j=>.bl (decide (j<=i))) geW:=gG fun _ _ _=>rv_bl.mpr rfl
theorem tK:OpR X (compareOp .Lt) (rI CT fun i j=>.bl (decide (i<j))):=opR0 v7
theorem tL:OpR X (compareOp .GtE) (rI CT fun i j=>.bl (decide (j<=i))):=opR0 v8
noncomputable def vOf:W->Option V
 |.non=>some .non
 |.bl b=>some (.bl b)
 |.int i=>some (.int i)
 |.str x=>some (.str x)
 |_=>none
theorem o9 {K:PySem.W.Frag}{o:Wo}{x:W}{v u:V}(e:vOf x=some u)(h:Rv K o x v):v=u:=by
 cases x with
 |non=>cases e;exact rv_non.mp h
 |bl _=>cases e;exact rv_bl.mp h
 |int _=>cases e;exact rv_int.mp h
 |str _=>cases e;exact rv_str.mp h
 |_=>cases e
def vsOf:List W->Option (List V)
 |[]=>some []
 |w::l=>match vOf w,vsOf l with
  |some v,some vs=>some (v::vs)
  |_,_=>none
end
end L2
set_option maxHeartbeats 1000000
namespace L2
open PySem PySem.Spec PyProof.Rows
noncomputable def optL {α β:Type}(f:α->Option β):List α->Option (List β)
 |[]=>some []
 |a::l=>match f a,optL f l with
  |some b,some r=>some (b::r)
  |_,_=>none
def dataH (h:List Ob):Nat->W->Option PyData
 |0,_=>none
 |_+1,.non=>some .none
 |_+1,.bl b=>some (.bool b)
 |_+1,.int i=>some (.int i)
 |_+1,.str x=>some (.str x)
 |n+1,.tup l=>(optL (dataH h n) l).map .tuple
 |n+1,.tl l=>(optL (dataH h n) l).map .list
 |n+1,.cl l=>(optL (dataH h n) l).map .list
 |n+1,.loc k=>match h[k]? with
  |some (.lst l)=>(optL (dataH h n) l).map .list
  |_=>none
 |_+1,_=>none
section
variable {K:PySem.W.Frag}{o:Wo}
theorem iH {n:Nat}(ih: ∀w v d,dataH o.h n w=some d->Rv K o w v->Den K o.H v d/\d.depth<=n): ∀ {l:List W}{vs:List V}{ds:List PyData},optL (dataH o.h n) l=some ds->Rvs K o l vs->DenAll K o.H vs ds/\PyData.depthAll ds<=n
 |[],vs,ds,e,h=>by unfold Rvs at h;cases e;rw[h];exact⟨.nil,by simp [PyData.depthAll]⟩
 |w::l,vs,ds,e,h=>by
  unfold Rvs at h
  obtain⟨v,r,rfl,h1,h2⟩:=h
  unfold optL at e
  split at e
  ·rename_i d ds' e1 e2
   cases e
   obtain⟨a1,a2⟩:=ih w v d e1 h1
   obtain⟨b1,b2⟩:=iH ih e2 h2
   exact⟨.cons a1 b1,by rw[PyData.depthAll];omega⟩
  ·cases e
theorem gM (R:Rel K o): ∀ (n:Nat) (w:W) (v:V) (d:PyData),dataH o.h n w=some d->Rv K o w v->Den K o.H v d/\d.depth<=n
 |0,_,_,_,e,_=>by cases e
 |n+1,w,v,d,e,h=>by
  have ih:=gM R n
  have seq: ∀ {l:List W}{a:Addr}{vs:List V}{ds:List PyData},optL (dataH o.h n) l=some ds->SqL K o.H a vs->Rvs K o l vs->Den K o.H (.ref a) (.list ds)/\(PyData.list ds).depth<=n+1:=fun{l a vs ds} e s r=>by
   obtain⟨b1,b2⟩:=iH ih e r
   refine⟨.lst s b1,?_⟩
   rw[PyData.depth];omega
  cases w with
  |non=>cases e;rw[rv_non.mp h];exact⟨.non,by simp [PyData.depth]⟩
  |bl b=>cases e;rw[rv_bl.mp h];exact⟨.bl b,by simp [PyData.depth]⟩
  |int b=>cases e;rw[rv_int.mp h];exact⟨.int b,by simp [PyData.depth]⟩
  |str b=>cases e;rw[rv_str.mp h];exact⟨.str b,by simp [PyData.depth]⟩
  |ty b=>cases e
  |exc b=>cases e
  |cls b=>cases e
  |dv a b=>cases e
  |dn a b c=>cases e
  |kt a=>cases e
  |tup l=>
   unfold dataH at e
   obtain⟨ds,e1,rfl⟩:=Option.map_eq_some_iff.mp e
   unfold Rv at h
   obtain⟨a,vs,rfl,s,r⟩:=h
   obtain⟨b1,b2⟩:=iH ih e1 r
   refine⟨.tup s b1,?_⟩
   rw[PyData.depth];omega
  |tl l=>
   unfold dataH at e
   obtain⟨ds,e1,rfl⟩:=Option.map_eq_some_iff.mp e
   unfold Rv at h
   obtain⟨a,vs,rfl,s,_,r⟩:=h
   exact seq e1 (.of s) r
  |cl l=>
   unfold dataH at e
   obtain⟨ds,e1,rfl⟩:=Option.map_eq_some_iff.mp e
   unfold Rv at h
   obtain⟨a,vs,rfl,s,r⟩:=h
   refine seq e1 ?_ r
   rcases s with⟨s,_⟩|s
   ·exact .inl s
   ·exact .inr s
  |loc k=>
   unfold dataH at e
   split at e
   ·rename_i l hk
    obtain⟨ds,e1,rfl⟩:=Option.map_eq_some_iff.mp e
    unfold Rv at h
    obtain⟨vs,h1,h2⟩:=R.ob k _ hk
    rw[h.2]
    exact seq e1 (.of h1) h2
   ·cases e
end
def eqB (x y:W)(h:List Ob):Option Bool:=match vOf x,vOf y with
 |some a,some b=>if scal a b=true then some (decide (a=b)) else match dataH h 50 x,dataH h 50 y with
  |some d,some e=>if d.canLay0=true/\e.canLay0=true then some (PyData.eqv d e) else none
  |_,_=>none
 |_,_=>match dataH h 50 x,dataH h 50 y with
  |some d,some e=>if d.canLay0=true/\e.canLay0=true then some (PyData.eqv d e) else none
  |_,_=>none
def eqW (x y:W):M W:=fun h=>match eqB x y h with
 |some b=>.ok (.bl b) h
 |none=>.bad
def neW (x y:W):M W:=fun h=>match eqB x y h with
 |some b=>.ok (.bl (!b)) h
 |none=>.bad
section
variable {X:Cx}{E:XK}
theorem qX {o:Wo}{x y:W}{vx vy:V}{b:Bool}(hu:X.A.units+64<cLine)(R:Rel X.K o)(rx:Rv X.K o x vx)(ry:Rv X.K o y vy)(e:eqB x y o.h=some b):
  (scal vx vy=true/\b=decide (vx=vy))\/ ∃d e,Den X.K o.H vx d/\Den X.K o.H vy e/\d.canLay0=true/\e.canLay0=true/\X.A.units+min d.depth e.depth<cLine/\b=PyData.eqv d e:=by
 have deep:(match dataH o.h 50 x,dataH o.h 50 y with
  |some d,some e=>if d.canLay0=true/\e.canLay0=true then some (PyData.eqv d e) else none
  |_,_=>none)=some b-> ∃d e,Den X.K o.H vx d/\Den X.K o.H vy e/\d.canLay0=true/\e.canLay0=true/\X.A.units+min d.depth e.depth<cLine/\b=PyData.eqv d e:=fun q=>by
  split at q
  ·rename_i d e' e1 e2
   split at q
   ·rename_i hc
    obtain⟨a1,a2⟩:=gM R _ _ _ _ e1 rx
    obtain⟨b1,b2⟩:=gM R _ _ _ _ e2 ry
    exact⟨d,e',a1,b1,hc.1,hc.2,by omega,(Option.some.inj q).symm⟩
   ·cases q
  ·cases q
 unfold eqB at e
 split at e
 ·rename_i a c e1 e2
  split at e
  ·rename_i hs
   rw[o9 e1 rx,o9 e2 ry]
   exact .inl ⟨hs,(Option.some.inj e).symm⟩
  ·exact .inr (deep e)
 ·exact .inr (deep e)
theorem bn (hu:X.A.units+64<cLine):OpM X E (fun x y H Q=>rEq x y H Q\/rEqD X.K X.A false x y H Q) eqW:=by
 intro o x y vx vy Q R rx ry h
 unfold eqW at h
 cases e:eqB x y o.h with
 |none=>rw[e] at h;exact h.elim
 |some b=>
  rw[e] at h
  have q:Q (.bl b) o.H:=Ps.pr (c:=cg X E) (r:=Rv X.K) (a:=W.bl b) h R (rv_bl.mpr rfl)
  rcases qX hu R rx ry e with⟨s,rfl⟩|⟨d,e',a1,a2,a3,a4,a5,rfl⟩
  ·exact .inl ⟨s,q⟩
  ·exact .inr ⟨d,e',a1,a2,a3,a4,a5,by rw[if_neg Bool.false_ne_true];exact q⟩
theorem gF (hu:X.A.units+64<cLine):OpM X E (fun x y H Q=>rNe x y H Q\/rEqD X.K X.A true x y H Q) neW:=by
 intro o x y vx vy Q R rx ry h
 unfold neW at h
 cases e:eqB x y o.h with
 |none=>rw[e] at h;exact h.elim
 |some b=>
  rw[e] at h
  have q:Q (.bl (!b)) o.H:=Ps.pr (c:=cg X E) (r:=Rv X.K) (a:=W.bl (!b)) h R (rv_bl.mpr rfl)
  rcases qX hu R rx ry e with⟨s,rfl⟩|⟨d,e',a1,a2,a3,a4,a5,rfl⟩
  ·exact .inl ⟨s,q⟩
  ·exact .inr ⟨d,e',a1,a2,a3,a4,a5,by rw[if_pos rfl];exact q⟩
theorem ci:OpR X (compareOp .Eq) (fun x y H Q=>rEq x y H Q\/rEqD X.K X.A false x y H Q):=op_eq.or uR
theorem jv:OpR X (compareOp .NotEq) (fun x y H Q=>rNe x y H Q\/rEqD X.K X.A true x y H Q):=op_ne.or uP
def keyOf:W->Option Key
 |.int i=>some (.inl i)
 |.str x=>some (.inr x)
 |_=>none
theorem iU {K:PySem.W.Frag}{o:Wo}{x:W}{v:V}{k:Key}(e:keyOf x=some k)(h:Rv K o x v):v=kV k:=by
 cases x with
 |int _=>cases e;exact rv_int.mp h
 |str _=>cases e;exact rv_str.mp h
 |_=>cases e
def dicOf (w:W)(h:List Ob):Option (List Key×List W):=match w with
 |.dv ks ws=>some (ks,ws)
 |.loc k=>match h[k]? with
  |some (.dic ks ws)=>some (ks,ws)
  |_=>none
 |_=>none
theorem q9 {o:Wo}{w:W}{v:V}{ks:List Key}{ws:List W}(R:Rel X.K o)(e:dicOf w o.h=some (ks,ws))(h:Rv X.K o w v): ∃a kvs,v=.ref a/\Rd o.H a (.dK kvs)/\kvs.map (·.1)=ks/\Rvs X.K o ws (kvs.map (·.2)):=by
 cases w with
 |dv a b=>
  cases e
  unfold Rv at h
  obtain⟨a,kvs,e,h1,_,h2,h3⟩:=h
  exact⟨a,kvs,e,h1,h2,h3⟩
 |loc k=>
  unfold dicOf at e
  dsimp only at e
  split at e
  ·rename_i a b hk
   cases e
   unfold Rv at h
   obtain⟨kvs,h1,h2,h3⟩:=R.ob k _ hk
   exact⟨_,kvs,h.2,.inl h1,h2,h3⟩
  ·cases e
 |_=>cases e
noncomputable def atK {κ:Type} [DecidableEq κ]:List κ->List W->κ->Option W
 |k::ks,w::ws,x=>if k=x then some w else atK ks ws x
 |_,_,_=>none
theorem gv {κ:Type} [DecidableEq κ] {K:PySem.W.Frag}{o:Wo}{x:κ}: ∀ {ks:List κ}{ws:List W}{kvs:List (κ×V)},kvs.map (·.1)=ks->Rvs K o ws (kvs.map (·.2))->match atK ks ws x with
  |some w=> ∃v,valV kvs x=some v/\Rv K o w v
  |none=>valV kvs x=none
 |[],_,[],_,_=>rfl
 |_,_,(k,v)::r,e,h=>by
  subst e
  cases ‹List W› with
  |nil=>unfold Rvs at h;cases h
  |cons w ws=>
   unfold Rvs at h
   obtain⟨v',r',e',h1,h2⟩:=h
   cases e'
   have ih:=gv (x:=x) (ks:=r.map (·.1)) (ws:=ws) (kvs:=r) rfl h2
   show match (if k=x then some w else atK (r.map (·.1)) ws x) with
    |some w=> ∃v',valV ((k,v)::r) x=some v'/\Rv K o w v'
    |none=>valV ((k,v)::r) x=none
   by_cases z:k=x
   ·rw[if_pos z]
    exact⟨v,by unfold valV;rw[List.find?_cons_of_pos (by simpa using z)];rfl,h1⟩
   ·rw[if_neg z]
    have ev:valV ((k,v)::r) x=valV r x:=by unfold valV;rw[List.find?_cons_of_neg (by simpa using z)]
    rw[ev]
    exact ih
def inB (x y:W)(h:List Ob):Option Bool:=match y with
 |.str b=>match x with
  |.str a=>some (!(Builtin.Str.occurrences b a 0 b.length 1).isEmpty)
  |_=>none
 |.tup l=>match vOf x,vsOf l with
  |some v,some vs=>some (inV v vs)
  |_,_=>none
 |y=>match dicOf y h with
  |some (ks,ws)=>match keyOf x with
   |some k=>some (atK ks ws k).isSome
   |none=>none
  |none=>match lstOf y h with
   |.ok l _=>match vOf x,vsOf l with
    |some v,some vs=>some (inV v vs)
    |_,_=>none
   |_=>none
theorem qD {o:Wo}{w:W}{v:V}{l:List W}{h':List Ob}(R:Rel X.K o)(hr:Rv X.K o w v)(e:lstOf w o.h=.ok l h'):h'=o.h/\ ∃a vs,v=.ref a/\SqL X.K o.H a vs/\Rvs X.K o l vs:=by
 have hh:h'=o.h:=by
  cases w with
  |tl l'=>cases e;rfl
  |cl l'=>cases e;rfl
  |loc j=>
   unfold lstOf at e
   dsimp only at e
   split at e
   ·cases e;rfl
   ·cases e
  |_=>cases e
 subst hh
 have h:Ps (cg X (fun _ _ _=>False)) (fun (_:Wo) (a:List W) (b:List W)=>a=b) o (bd (lstOf w) (fun l=>pr l) o.h) (fun b _=>b=l):=by
  unfold bd
  rw[e]
  intro p b _ _ _ q
  exact q.symm
 obtain⟨m,a,vs,e1,e2,e3,h⟩:=bD R hr h
 have:m=l:=h.pr R rfl
 subst this
 exact⟨rfl,a,vs,e1,e2,e3⟩
theorem Rvs.atI {K:PySem.W.Frag}{o:Wo}{l:List W}{vs:List V}{i:Int}{w:W}(h:Rvs K o l vs)(e:L2.atI l i=some w): ∃v,L2.atI vs i=some v/\Rv K o w v:=by
 unfold L2.atI at e ⊢
 rw[h.len]
 cases q:ixN l.length i with
 |none=>rw[q] at e;cases e
 |some j=>rw[q] at e;exact h.get e
def ixO (x y:W)(h:List Ob):Option W:=match dicOf x h with
 |some (ks,ws)=>match keyOf y with
  |some k=>atK ks ws k
  |none=>none
 |none=>match y with
  |.int i=>match x with
   |.str z=>if z.length<=sizeLine then (atI z.cps.toList i).map fun c=>.str ⟨#[c]⟩ else none
   |.tup l=>atI l i
   |x=>match lstOf x h with
    |.ok l _=>atI l i
    |_=>none
  |_=>none
def ixW (x y:W):M W:=fun h=>match ixO x y h with
 |some w=>.ok w h
 |none=>.bad
def rIxD:R2:=fun x y H Q=> ∃a v,x=.ref a/\DGet H a y (some v)/\Q v H
theorem sS (hu:X.A.units+1<cLine):IxR X rIxD:=by
 intro value slice pins s σ H x y v u Q I rx ry h hs
 obtain⟨a,z,rfl,g,q⟩:=h
 cases rx
 exact tail_any (lU I g) PySem.F.slot_dict_getitem.lookup (oT hu I g ry fun w' s3 I3 rw'=>⟨z,H,I3,rw',q⟩) hs
theorem uL:OpM X E (fun x y H Q=>rIx X.K x y H Q\/rIxD x y H Q) ixW:=by
 intro o x y vx vy Q R rx ry h
 unfold ixW at h
 cases e:ixO x y o.h with
 |none=>rw[e] at h;exact h.elim
 |some w=>
  rw[e] at h
  have q: ∀ {v:V},Rv X.K o w v->Q v o.H:=fun{v} hv=>Ps.pr (c:=cg X E) (r:=Rv X.K) (a:=w) h R hv
  unfold ixO at e
  split at e
  ·rename_i ks ws hd
   split at e
   ·rename_i k hk
    obtain⟨a,kvs,rfl,h1,h2,h3⟩:=q9 R hd rx
    have:=gv (x:=k) h2 h3
    rw[e] at this
    obtain⟨v,hv,rv⟩:=this
    rw[iU hk ry]
    exact .inr ⟨a,v,rfl,.inl ⟨kvs,k,h1,rfl,hv.symm⟩,q rv⟩
   ·cases e
  ·split at e
   ·split at e
    ·split at e
     ·rename_i hz
      obtain⟨c,hc,rfl⟩:=Option.map_eq_some_iff.mp e
      exact .inl (.inr (.inr ⟨_,_,c,rv_str.mp rx,rv_int.mp ry,hz,hc,q (rv_str.mpr rfl)⟩))
     ·cases e
    ·unfold Rv at rx
     obtain⟨a,vs,rfl,s,r⟩:=rx
     obtain⟨v,hv,rv⟩:=r.atI e
     exact .inl (.inr (.inl ⟨a,vs,_,v,rfl,rv_int.mp ry,s,hv,q rv⟩))
    ·split at e
     ·rename_i l h' hl
      obtain⟨rfl,a,vs,rfl,s,r⟩:=qD R rx hl
      obtain⟨v,hv,rv⟩:=r.atI e
      exact .inl (.inl ⟨a,vs,_,v,rfl,rv_int.mp ry,s,hv,q rv⟩)
     ·cases e
   ·cases e
theorem aH {a b:Expr}{pos:Pos}{fa fb:Env'->M W}(hu:X.A.units+1<cLine)(ha:JE X E a fa)(hb:JE X E b fb)(hs:kE b):JE X E (.Subscript a b pos) (m2 ixW fa fb):=
 (tH (ix_seq.or (sS hu)) ha.h hb.h hs).imp fun _ _ _ h=>pq uL h
def cutW {α:Type}(xs:List α)(lo hi:Option Int):List α:=(xs.drop (HT.sIx xs.length 0 lo)).take (HT.sIx xs.length xs.length hi - HT.sIx xs.length 0 lo)
theorem Rvs.cut {K:PySem.W.Frag}{o:Wo}{l:List W}{vs:List V}(h:Rvs K o l vs)(lo hi:Option Int):Rvs K o (cutW l lo hi) (cutV vs lo hi):=by
 unfold cutW cutV
 rw[h.len]
 exact (h.drop _).take _
def aP:Env'->M (Option Int):=fun _=>pr none
def mPart (f:Env'->M W):Env'->M (Option Int):=fun ρ=>bd (f ρ) fun w=>match w with
 |.int i=>pr (some i)
 |_=>no
noncomputable abbrev tP (c:Cg)(f:Env'->M (Option Int)):TO:=tG c (fun _ a b=>a=b) f
structure JO (X:Cx)(E:XK)(e:Option Expr)(f:Env'->M (Option Int)):Prop where
 h:PO X e (tP (cg X E) f)
theorem PO.imp {e:Option Expr}{t:TO}{f:Env'->M (Option Int)}(h:PO X e t)(k:∀σ H Q,tP (cg X E) f σ H Q->t σ H Q):JO X E e f:=⟨fun pins s σ H Q I q=>h pins s σ H Q I (k σ H Q q)⟩
theorem fw:JO X E none aP:=po_none.imp fun σ H Q h=>by
 obtain⟨o,ρ,rfl,R,S,h⟩:=h
 exact h.pr R rfl
theorem d8 {e:Expr}{f:Env'->M W}(he:JE X E e f):JO X E (some e) (mPart f):=(r9 he.h).imp fun σ H Q h=>by
 obtain⟨o,ρ,rfl,R,S,h⟩:=h
 refine⟨o,ρ,rfl,R,S,Ps.bd h fun p x vx e1 R1 r1 h1=>?_⟩
 cases x with
 |int i=>exact⟨i,rv_int.mp r1,h1.pr R1 rfl⟩
 |_=>exact h1.elim
def slW (x:W)(lo hi:Option Int):M W:=match x with
 |.str z=>gd (z.length<=sizeLine) (pr (.str (StrLaws.sliceText z lo hi)))
 |.tup l=>gd (¬(HT.sIx l.length 0 lo=0/\HT.sIx l.length l.length hi=l.length)) (pr (.tup (cutW l lo hi)))
 |x=>bd (lstOf x) fun l=>pr (.tl (cutW l lo hi))
def m3 (f:W->Option Int->Option Int->M W)(fa:Env'->M W)(fl fh:Env'->M (Option Int)):Env'->M W:=fun ρ=>bd (fa ρ) fun x=>bd (fl ρ) fun a=>bd (fh ρ) fun b=>f x a b
theorem jy {e:Expr}{lo hi:Option Expr}{p2 pos:Pos}{fa:Env'->M W}{fl fh:Env'->M (Option Int)}(he:JE X E e fa)(hl:JO X E lo fl)(hh:JO X E hi fh):
  JE X E (.Subscript e (.Slice lo hi none p2) pos) (m3 slW fa fl fh):=(pR (sl_str.or (sl_tup.or rM)) he.h hl.h hh.h).imp fun σ H Q h=>by
 obtain⟨o,ρ,rfl,R,S,h⟩:=h
 refine⟨o,ρ,rfl,R,S,Ps.bd h fun p x vx e1 R1 r1 h1=>⟨p,ρ,rfl,R1,S.mono R e1,Ps.bd h1 fun q a va e2 R2 r2 h2=>⟨q,ρ,rfl,R2,(S.mono R e1).mono R1 e2,Ps.bd h2 fun w b vb e3 R3 r3 h3=>?_⟩⟩⟩
 subst r2 r3
 have rx:=(r1.mono R1 e2).mono R2 e3
 unfold slW at h3
 split at h3
 ·obtain⟨hz,h3⟩:=h3.gd
  exact .inl ⟨_,rv_str.mp rx,hz,h3.pr R3 (rv_str.mpr rfl)⟩
 ·obtain⟨hz,h3⟩:=h3.gd
  unfold Rv at rx
  obtain⟨a',vs,rfl,s,r⟩:=rx
  refine .inr (.inl ⟨a',vs,rfl,s,by rw[r.len];exact hz,fun q' hq=>hJ R3 hq (r.cut _ _) h3⟩)
 ·obtain⟨l,a',vs,rfl,s,r,h3⟩:=bD R3 rx h3
  exact .inr (.inr ⟨a',vs,rfl,s,fun q' hq=>fu R3 hq (r.cut _ _) h3⟩)
def mCall (f:List W->M W)(l:Env'->M (List W)):Env'->M W:=fun ρ=>bd (l ρ) f
def CallM (X:Cx)(E:XK)(r:List V->Hp->VK->Prop)(f:List W->M W):Prop:= ∀ (o:Wo) (ws:List W) (vs:List V) (Q:VK),Rel X.K o->Rvs X.K o ws vs->Ps (cg X E) (Rv X.K) o (f ws o.h) Q->r vs o.H Q
variable {x:Str}{p pos:Pos}{e:Expr}{es:List Expr}{l:Env'->M (List W)}{f:List W->M W}{r:List V->Hp->VK->Prop}{id T:String}
theorem tp (hf:CallM X E r f){σ:St}{H:Hp}{Q:VK}(h:tM (cg X E) (mCall f l) σ H Q):tCB r (tA (cg X E) l) σ H Q:=by
 obtain⟨o,ρ,rfl,R,S,h⟩:=h
 exact⟨o,ρ,rfl,R,S,Ps.bd h fun p x vx e1 R1 r1 h1=>hf p x vx Q R1 r1 h1⟩
theorem dD (hc:CallR X (.builtin id) r)(hf:CallM X E r f)(hg:Gl X x)(hm:X.mg x=none)(hv:bootBuiltins x=some (.builtin id))(ha:JA X E (e::es) l)(hn:x≠ "__name__":=by decide)(hdb:(x==("__debug__":Str))=false:=by decide)
  (he:starEach (e::es) X.env=(false,eval e X.env)::starEach es X.env:=by rfl)(hpl:(backTo pos (starEach es X.env)).any (·.1)=false:=by rfl):JE X E (.Call (.Name x p) (e::es) [] pos) (mCall f l):=
 (pW hc hg hm hv ha.h hn hdb he hpl).imp fun _ _ _ h=>tp hf h
theorem oB (hc:CallR X (.type T) r)(hf:CallM X E r f)(hg:Gl X x)(hm:X.mg x=none)(hv:bootBuiltins x=some (.type T))(ha:JA X E (e::es) l)(hn:x≠ "__name__":=by decide)(hdb:(x==("__debug__":Str))=false:=by decide)
  (he:starEach (e::es) X.env=(false,eval e X.env)::starEach es X.env:=by rfl)(hpl:(backTo pos (starEach es X.env)).any (·.1)=false:=by rfl):JE X E (.Call (.Name x p) (e::es) [] pos) (mCall f l):=
 (ju hc hg hm hv ha.h hn hdb he hpl).imp fun _ _ _ h=>tp hf h
variable {CX:CXT}{k:Nat}{fA:Addr}{fd:FuncData}{ps:List Str}
end
end L2
set_option maxHeartbeats 1000000
namespace L2
open PySem PySem.Spec PyProof.Rows
inductive Fl where
 |nx (r:Env')|bk (r:Env')|ct (r:Env')|rt (w:W)
inductive FlV where
 |nx (s:St)|bk (s:St)|ct (s:St)|rt (v:V)
def RFl (K:PySem.W.Frag)(o:Wo):Fl->FlV->Prop
 |.nx r,f=> ∃s,f=.nx s/\Re K o r s
 |.bk r,f=> ∃s,f=.bk s/\Re K o r s
 |.ct r,f=> ∃s,f=.ct s/\Re K o r s
 |.rt w,f=> ∃v,f=.rt v/\Rv K o w v
def DQ (D:Ends):FlV->Hp->Prop
 |.nx s,H=>D.nx s H
 |.bk s,H=>D.bk s H
 |.ct s,H=>D.ct s H
 |.rt v,H=>D.rt v H
def tS (c:Cg)(g:Env'->M Fl):TS:=fun D σ H=>tG c (RFl c.K) g σ H (DQ D)
structure JS (X:Cx)(E:XK)(e:Stmt)(f:Env'->M Fl):Prop where
 h:PS X e (tS (cg X E) f)
structure JSs (X:Cx)(E:XK)(e:List Stmt)(f:Env'->M Fl):Prop where
 h:PSs X e (tS (cg X E) f)
theorem PSs.imp {X:Cx}{E:XK}{e:List Stmt}{t:TS}{f:Env'->M Fl}(h:PSs X e t)(k:∀D σ H,tS (cg X E) f D σ H->t D σ H):JSs X E e f:=⟨fun pins s σ H D I q=>h pins s σ H D I (k D σ H q)⟩
theorem PS.imp {X:Cx}{E:XK}{e:Stmt}{t:TS}{f:Env'->M Fl}(h:PS X e t)(k:∀D σ H,tS (cg X E) f D σ H->t D σ H):JS X E e f:=⟨fun pins s σ H D I q=>h pins s σ H D I (k D σ H q)⟩
theorem aa {α β γ:Type}(a:M α)(b:α->M β)(d:β->M γ):bd (bd a b) d=bd a fun x=>bd (b x) d:=by
 funext h
 unfold bd
 cases a h<;>rfl
section
variable {X:Cx}{E:XK}{pos:Pos}
def sNil:Env'->M Fl:=fun ρ=>pr (.nx ρ)
def sSeq (f g:Env'->M Fl):Env'->M Fl:=fun ρ=>bd (f ρ) fun x=>match x with
 |.nx r=>g r
 |x=>pr x
theorem aQ:JSs X E [] sNil:=pss_nil.imp fun D σ H h=>by
 obtain⟨o,ρ,rfl,R,S,h⟩:=h
 exact h.pr R ⟨σ,rfl,S⟩
theorem ub {f g:Env'->M Fl}{D:Ends}{σ:St}{H:Hp}(h:tS (cg X E) (sSeq f g) D σ H):tSeq (tS (cg X E) f) (tS (cg X E) g) D σ H:=by
 obtain⟨o,ρ,rfl,R,S,h⟩:=h
 refine⟨o,ρ,rfl,R,S,Ps.bd h fun p x b e1 R1 r1 h1=>?_⟩
 cases x with
 |nx r=>obtain⟨s,rfl,re⟩:=r1;exact⟨p,r,rfl,R1,re,h1⟩
 |bk r=>have q:=h1.pr R1 r1;obtain⟨s,rfl,re⟩:=r1;exact q
 |ct r=>have q:=h1.pr R1 r1;obtain⟨s,rfl,re⟩:=r1;exact q
 |rt r=>have q:=h1.pr R1 r1;obtain⟨s,rfl,re⟩:=r1;exact q
theorem aj {st:Stmt}{rest:List Stmt}{f g:Env'->M Fl}(h1:JS X E st f)(h2:JSs X E rest g):JSs X E (st::rest) (sSeq f g):=(pJ h1.h h2.h).imp fun D σ H h=>ub h
theorem al {st:Stmt}{f:Env'->M Fl}(h1:JS X E st f):JSs X E [st] f:=⟨rY h1.h⟩
variable {e:Expr}{f:Env'->M W}
def sSet (i:Nat)(f:Env'->M W):Env'->M Fl:=fun ρ=>bd (f ρ) fun w=>pr (.nx (ρ.set i (some w)))
theorem az {i:Nat}{x:Str}{pos':Pos}(hN:X.N.Nodup)(hi:X.N[i]?=some x)(hx:Loc X.env.scope x)(he:JE X E e f)(hs:swapsWith e (some (.Name x pos')) pos.line X.env=pure false:=by rfl)(hf:X.fn x=true\/X.env.scope.names.lookup x=some .local :=by first|exact .inl rfl|exact .inr rfl|assumption):
  JS X E (.Assign [.Name x pos'] e pos) (sSet i f):=(uz hN hi hx he.h hs hf).imp fun D σ H h=>by
 obtain⟨o,ρ,rfl,R,S,h⟩:=h
 exact⟨o,ρ,rfl,R,S,Ps.bd h fun p x b e1 R1 r1 h1=>Ps.pr (b:=FlV.nx (σ.set i (some b))) h1 R1 ⟨_,rfl,(S.mono R e1).set r1 i⟩⟩
def sRet (f:Env'->M W):Env'->M Fl:=fun ρ=>bd (f ρ) fun w=>pr (.rt w)
theorem aA (he:JE X E e f):JS X E (.Return (some e) pos) (sRet f):=(uA he.h).imp fun D σ H h=>by
 obtain⟨o,ρ,rfl,R,S,h⟩:=h
 exact⟨o,ρ,rfl,R,S,Ps.bd h fun p x b e1 R1 r1 h1=>Ps.pr (b:=FlV.rt b) h1 R1 ⟨_,rfl,r1⟩⟩
def sEx (f:Env'->M W):Env'->M Fl:=fun ρ=>bd (f ρ) fun _=>pr (.nx ρ)
theorem gp (he:JE X E e f)(hs:swapsWith e none pos.line X.env=pure false:=by rfl):JS X E (.Expr e pos) (sEx f):=(rZ he.h hs).imp fun D σ H h=>by
 obtain⟨o,ρ,rfl,R,S,h⟩:=h
 exact⟨o,ρ,rfl,R,S,Ps.bd h fun p x b e1 R1 r1 h1=>Ps.pr (b:=FlV.nx σ) h1 R1 ⟨_,rfl,S.mono R e1⟩⟩
def sIf (t:Env'->M Bool)(f g:Env'->M Fl):Env'->M Fl:=fun ρ=>bd (t ρ) fun b=>if b=true then f ρ else g ρ
theorem bN {c:Expr}{a b:List Stmt}{t:Env'->M Bool}{f g:Env'->M Fl}(hc:JT X E c t)(ha:JSs X E a f)(hb:JSs X E b g):JS X E (.If c a b pos) (sIf t f g):=(v4 hc.h ha.h hb.h).imp fun D σ H h=>by
 obtain⟨o,ρ,rfl,R,S,h⟩:=h
 refine⟨o,ρ,rfl,R,S,Ps.bd h fun p x vx e1 R1 r1 h1=>?_⟩
 subst r1
 cases x with
 |true=>exact iteT ⟨p,ρ,rfl,R1,S.mono R e1,h1⟩
 |false=>exact iteF ⟨p,ρ,rfl,R1,S.mono R e1,h1⟩
def sPass:Env'->M Fl:=fun ρ=>pr (.nx ρ)
def bT:Env'->M Fl:=fun ρ=>pr (.bk ρ)
def sCont:Env'->M Fl:=fun ρ=>pr (.ct ρ)
def o7 (t:Env'->M Bool)(g:Env'->M Fl):Nat->Env'->M Fl
 |0,_=>no
 |n+1,ρ=>bd (t ρ) fun b=>if b=true then bd (g ρ) fun x=>match x with
   |.nx r=>o7 t g n r
   |.ct r=>o7 t g n r
   |.bk r=>pr (.nx r)
   |.rt w=>pr (.rt w)
  else pr (.nx ρ)
structure TgOk (K:PySem.W.Frag)(m:Nat)(g:TG)(t:W->Env'->Option Env'):Prop where
 ok: ∀ (o:Wo) (w:W) (v:V) (ρ ρ2:Env') (σ:St),Rv K o w v->Re K o ρ σ->t w ρ=some ρ2-> ∃σ2,(∀Q:St->Hp->Prop,Q σ2 o.H->g v σ o.H Q)/\Re K o ρ2 σ2/\σ2.drop m=σ.drop m/\σ2.length=σ.length
def tgN (i:Nat):W->Env'->Option Env':=fun w ρ=>some (ρ.set i (some w))
theorem aW {K:PySem.W.Frag}(m i:Nat)(h:i<m):TgOk K m (gName i) (tgN i):=⟨fun o w v ρ ρ2 σ rv re e=>by
 cases e
 exact⟨_,fun Q q=>q,re.set rv i,by rw[List.drop_set_of_lt h],by rw[List.length_set]⟩⟩
def gNs:List Nat->TGs
 |[]=>gNil
 |i::r=>gCons (gName i) (gNs r)
def setW:List Nat->List W->Env'->Option Env'
 |[],[],ρ=>some ρ
 |i::r,w::l,ρ=>setW r l (ρ.set i (some w))
 |_,_,_=>none
theorem tm {K:PySem.W.Frag}{m:Nat}{o:Wo}: ∀ (is:List Nat) (l:List W) (vs:List V) (ρ ρ2:Env') (σ:St),(∀i∈is,i<m)->Rvs K o l vs->Re K o ρ σ->setW is l ρ=some ρ2-> ∃σ2,(∀Q:St->Hp->Prop,Q σ2 o.H->gNs is vs σ o.H Q)/\Re K o ρ2 σ2/\σ2.drop m=σ.drop m/\σ2.length=σ.length
 |[],[],vs,ρ,ρ2,σ,_,rv,re,e=>by
  unfold Rvs at rv
  cases e
  exact⟨σ,fun Q q=>⟨rv,q⟩,re,rfl,rfl⟩
 |[],_::_,_,_,_,_,_,_,_,e=>by cases e
 |_::_,[],_,_,_,_,_,_,_,e=>by cases e
 |i::is,w::l,vs,ρ,ρ2,σ,hm,rv,re,e=>by
  unfold Rvs at rv
  obtain⟨v,r,rfl,h1,h2⟩:=rv
  obtain⟨σ2,a,b,c,d⟩:=tm is l r (ρ.set i (some w)) ρ2 (σ.set i (some v)) (fun j hj=>hm j (List.mem_cons_of_mem _ hj)) h2 (re.set h1 i) e
  refine⟨σ2,fun Q q=>⟨v,r,rfl,a Q q⟩,b,?_,?_⟩
  ·rw[c,List.drop_set_of_lt (hm i List.mem_cons_self)]
  ·rw[d,List.length_set]
def tgT (is:List Nat):W->Env'->Option Env':=fun w ρ=>match w with
 |.tup l=>setW is l ρ
 |_=>none
theorem kJ: ∀ {is:List Nat}{l:List W}{ρ ρ2:Env'},setW is l ρ=some ρ2->l.length=is.length
 |[],[],_,_,_=>rfl
 |[],_::_,_,_,e=>by cases e
 |_::_,[],_,_,e=>by cases e
 |_::is,_::l,_,_,e=>by rw[List.length_cons,List.length_cons,kJ (is:=is) (l:=l) e]
theorem dw {K:PySem.W.Frag}(m:Nat)(is:List Nat)(h:∀i∈is,i<m):TgOk K m (gTup K is.length (gNs is)) (tgT is):=⟨fun o w v ρ ρ2 σ rv re e=>by
 cases w with
 |tup l=>
  unfold Rv at rv
  obtain⟨a,vs,rfl,s,r⟩:=rv
  have e:setW is l ρ=some ρ2:=e
  obtain⟨σ2,a1,a2,a3,a4⟩:=tm is l vs ρ ρ2 σ h r re e
  exact⟨σ2,fun Q q=>⟨a,vs,rfl,s,by rw[r.len,kJ e],a1 Q q⟩,a2,a3,a4⟩
 |_=>cases e⟩
open Classical in
def gdh {α:Type}(G:List Ob->Prop)(m:M α):M α:=fun h=>if G h then m h else .bad
theorem eC {α:Type}{G:List Ob->Prop}{m:M α}{h:List Ob}(q:G h):gdh G m h=m h:=by unfold gdh;rw[if_pos q]
theorem Ps.gdh {α β:Type}{c:Cg}{r:Wo->α->β->Prop}{o:Wo}{G:List Ob->Prop}{m:M α}{Q:β->Hp->Prop}(h:Ps c r o (gdh G m o.h) Q):G o.h/\Ps c r o (m o.h) Q:=by
 unfold L2.gdh at h
 by_cases q:G o.h
 ·rw[if_pos q] at h;exact⟨q,h⟩
 ·rw[if_neg q] at h;exact h.elim
structure Sr where
 l:List W
 G:List Ob->Prop
structure SrcOk (K:PySem.W.Frag)(o0:Wo)(J:It)(s:Sr):Prop where
 stop: ∀o,Ex o0 o->Rel K o->s.G o.h->J.stop s.l.length o.H
 go: ∀o i w,Ex o0 o->Rel K o->s.G o.h->s.l[i]?=some w->J.go i o.H/\ ∀x H',J.yld i o.H x H'-> ∃p,p.H=H'/\p.h=o.h/\Ex o p/\Rel K p/\Rv K p w x
def tI (c:Cg)(src:Env'->M Sr):TI:=fun σ H R=>tG c (fun p s J=>SrcOk c.K p J s) src σ H R
structure JI (X:Cx)(E:XK)(tg iter:Expr)(f:Env'->M Sr):Prop where
 h:PI X tg iter (tI (cg X E) f)
theorem PI.imp {tg iter:Expr}{t:TI}{f:Env'->M Sr}(h:PI X tg iter t)(k:∀σ H R,tI (cg X E) f σ H R->t σ H R):JI X E tg iter f:=⟨fun pins s σ H R I q=>h pins s σ H R I (k σ H R q)⟩
def srcL (w:W):M Sr:=match w with
 |.tl l=>pr ⟨l,fun _=>True⟩
 |.cl l=>pr ⟨l,fun _=>True⟩
 |.loc k=>fun h=>match h[k]? with
  |some (.lst l)=>.ok ⟨l,fun h=>h[k]?=some (.lst l)⟩ h
  |_=>.bad
 |_=>no
def mSrc (f:Env'->M W)(g:W->M Sr):Env'->M Sr:=fun ρ=>bd (f ρ) g
theorem iu {K:PySem.W.Frag}{o0:Wo}{a:Addr}{s:Sr}(h:∀o,Ex o0 o->Rel K o->s.G o.h-> ∃vs,SqL K o.H a vs/\Rvs K o s.l vs):SrcOk K o0 (Itl K a) s:=by
 refine⟨fun o X R g=>?_,fun o i w X R g e=>?_⟩
 ·obtain⟨vs,s,r⟩:=h o X R g
  exact⟨vs,s,Nat.le_of_eq r.len⟩
 ·obtain⟨vs,s,r⟩:=h o X R g
  obtain⟨v,hv,rv⟩:=r.get e
  refine⟨⟨vs,v,s,hv⟩,fun x H' y=>?_⟩
  obtain⟨rfl,y⟩:=y
  have:x=v:=by have:=y vs s;rw[hv] at this;exact (Option.some.inj this).symm
  subst this
  exact⟨o,rfl,rfl,Ex.refl _,R,rv⟩
theorem cF {tg l:Expr}{fl:Env'->M W}(hl:JE X E l fl):JI X E tg l (mSrc fl srcL):=(sf hl.h).imp fun σ H Q h=>by
 obtain⟨o,ρ,rfl,R,S,h⟩:=h
 refine⟨o,ρ,rfl,R,S,Ps.bd h fun p x vx e1 R1 r1 h1=>?_⟩
 cases x with
 |tl l=>
  have r1':=r1
  unfold Rv at r1
  obtain⟨a,vs,rfl,s,n,r⟩:=r1
  refine⟨a,rfl,⟨vs,.of s⟩,h1.pr R1 (iu fun o X R g=>?_)⟩
  exact⟨vs,.of (X.fr a _ s n).1,r.mono R1 X⟩
 |cl l=>
  unfold Rv at r1
  obtain⟨a,vs,rfl,s,r⟩:=r1
  have sq: ∀o,Ex p o->SqL X.K o.H a vs:=fun o X=>by
   rcases s with⟨s,n⟩|s
   ·exact .inl (X.rd s n).1
   ·exact .inr s
  exact⟨a,rfl,⟨vs,sq p (Ex.refl _)⟩,h1.pr R1 (iu fun o X R g=>⟨vs,sq o X,r.mono R1 X⟩)⟩
 |loc k=>
  unfold Rv at r1
  obtain⟨hk,rfl⟩:=r1
  unfold srcL at h1
  dsimp only at h1
  split at h1
  ·rename_i l hl
   obtain⟨vs,h3,h4⟩:=R1.ob k _ hl
   refine⟨_,rfl,⟨vs,.of h3⟩,Ps.at (p:=p) h1 rfl (Ex.refl _) R1 (iu fun o X R g=>?_)⟩
   obtain⟨vs',h5,h6⟩:=R.ob k _ g
   rw[X.mu k hk] at h5
   exact⟨vs',.of h5,h6⟩
  ·exact h1.elim
 |_=>exact h1.elim
def srcT (w:W):M Sr:=match w with
 |.tup l=>pr ⟨l,fun _=>True⟩
 |_=>no
theorem gJ {tg l:Expr}{fl:Env'->M W}(hl:JE X E l fl):JI X E tg l (mSrc fl srcT):=(uD hl.h).imp fun σ H Q h=>by
 obtain⟨o,ρ,rfl,R,S,h⟩:=h
 refine⟨o,ρ,rfl,R,S,Ps.bd h fun p x vx e1 R1 r1 h1=>?_⟩
 cases x with
 |tup l=>
  unfold Rv at r1
  obtain⟨a,vs,rfl,s,r⟩:=r1
  refine⟨a,rfl,⟨vs,s⟩,h1.pr R1 ⟨fun o X R g=>⟨vs,X.rdT R1 s,Nat.le_of_eq r.len⟩,fun o i w X R g e=>?_⟩⟩
  obtain⟨v,hv,rv⟩:=(r.mono R1 X).get e
  have sq:=X.rdT R1 s
  refine⟨⟨vs,v,sq,hv⟩,fun x H' y=>?_⟩
  obtain⟨rfl,y⟩:=y
  have:x=v:=by have:=y vs sq;rw[hv] at this;exact (Option.some.inj this).symm
  subst this
  exact⟨o,rfl,rfl,Ex.refl _,R,rv⟩
 |_=>exact h1.elim
noncomputable def intsW (lo:Int):Nat->List W
 |0=>[]
 |n+1=>.int lo::intsW (lo+1) n
theorem cG: ∀ (n:Nat) (lo:Int),(intsW lo n).length=n
 |0,_=>rfl
 |n+1,lo=>by rw[intsW,List.length_cons,cG n]
theorem dZ: ∀ (n:Nat) (lo:Int) (i:Nat) (w:W),(intsW lo n)[i]?=some w->w=.int (lo+i)/\i<n
 |0,_,_,_,h=>by simp [intsW] at h
 |n+1,lo,0,w,h=>by rw[intsW] at h;cases h;exact⟨by simp,Nat.succ_pos _⟩
 |n+1,lo,i+1,w,h=>by
  rw[intsW,List.getElem?_cons_succ] at h
  obtain⟨e,l⟩:=dZ n (lo+1) i w h
  exact⟨by rw[e];congr 1;omega,by omega⟩
theorem jq {K:PySem.W.Frag}{o0:Wo}{lo:Int}{n:Nat}:SrcOk K o0 (Itr lo n) ⟨intsW lo n,fun _=>True⟩:=by
 refine⟨fun o X R g=>?_,fun o i w X R g e=>?_⟩
 ·show n<=(intsW lo n).length
  rw[cG];exact Nat.le_refl _
 ·obtain⟨rfl,hi⟩:=dZ n lo i w e
  refine⟨hi,fun x H' y=>?_⟩
  obtain⟨rfl,rfl⟩:=y
  exact⟨o,rfl,rfl,Ex.refl _,R,rv_int.mpr rfl⟩
def rng1 (l:List W):M Sr:=match l with
 |[.int j]=>gd (-(2 ^ 62)<=j/\j<2 ^ 62) (pr ⟨intsW 0 j.toNat,fun _=>True⟩)
 |_=>no
def rng2 (l:List W):M Sr:=match l with
 |[.int i,.int j]=>gd (-(2 ^ 62)<=i/\i<2 ^ 62/\ -(2 ^ 62)<=j/\j<2 ^ 62) (pr ⟨intsW i (j - i).toNat,fun _=>True⟩)
 |_=>no
def mSrcA (f:Env'->M (List W))(g:List W->M Sr):Env'->M Sr:=fun ρ=>bd (f ρ) g
theorem gK {tg a:Expr}{p pos:Pos}{fl:Env'->M (List W)}(hg:Gl X "range")(hm:X.mg "range"=none)(ha:JA X E [a] fl)(hs:starEach [a] X.env=[(false,eval a X.env)]:=by rfl):JI X E tg (.Call (.Name "range" p) [a] [] pos) (mSrcA fl rng1):=
 (oo hg hm ha.h hs).imp fun σ H Q h=>by
 obtain⟨o,ρ,rfl,R,S,h⟩:=h
 refine⟨o,ρ,rfl,R,S,Ps.bd h fun p x vx e1 R1 r1 h1=>?_⟩
 unfold rng1 at h1
 split at h1
 ·obtain⟨hz,h1⟩:=h1.gd
  unfold Rvs Rvs at r1
  obtain⟨v,r,rfl,a1,rfl⟩:=r1
  exact⟨_,by rw[rv_int.mp a1],hz.1,hz.2,h1.pr R1 jq⟩
 ·exact h1.elim
theorem jx {tg a b:Expr}{p pos:Pos}{fl:Env'->M (List W)}(hg:Gl X "range")(hm:X.mg "range"=none)(ha:JA X E [a,b] fl)(hs:starEach [a,b] X.env=[(false,eval a X.env),(false,eval b X.env)]:=by rfl)(hs2:starEach [b] X.env=[(false,eval b X.env)]:=by rfl):
  JI X E tg (.Call (.Name "range" p) [a,b] [] pos) (mSrcA fl rng2):=(on hg hm ha.h hs hs2).imp fun σ H Q h=>by
 obtain⟨o,ρ,rfl,R,S,h⟩:=h
 refine⟨o,ρ,rfl,R,S,Ps.bd h fun p x vx e1 R1 r1 h1=>?_⟩
 unfold rng2 at h1
 split at h1
 ·obtain⟨hz,h1⟩:=h1.gd
  unfold Rvs Rvs Rvs at r1
  obtain⟨v,r,rfl,a1,v',r',rfl,a2,rfl⟩:=r1
  exact⟨_,_,by rw[rv_int.mp a1,rv_int.mp a2],hz,h1.pr R1 jq⟩
 ·exact h1.elim
def forM (G:List Ob->Prop)(t:W->Env'->Option Env')(g:Env'->M Fl):List W->Env'->M Fl
 |[],ρ=>gdh G (pr (.nx ρ))
 |w::l,ρ=>gdh G (match t w ρ with
  |none=>no
  |some r=>bd (g r) fun x=>match x with
   |.nx r'=>forM G t g l r'
   |.ct r'=>forM G t g l r'
   |.bk r'=>pr (.nx r')
   |.rt v=>pr (.rt v))
def sFor (src:Env'->M Sr)(t:W->Env'->Option Env')(g:Env'->M Fl):Env'->M Fl:=fun ρ=>bd (src ρ) fun s=>forM s.G t g s.l ρ
theorem cD {tg iter:Expr}{body:List Stmt}{src:Env'->M Sr}{t:W->Env'->Option Env'}{gT:TG}{g:Env'->M Fl}{m:Nat}(hp:PassesOwn (model X.prog X.w) X.A X.env X.xe)(hc:X.calm=true)(hi:JI X E tg iter src)(hg:PG X tg gT)(ht:TgOk X.K m gT t)(hb:JSs X E body g)
  (hs: ∀x,foldedSetIterable iter X.env x=pure x:=by intro _;rfl):JS X E (.For tg iter body [] pos) (sFor src t g):=(uB hp hc hi.h hg hb.h hs).imp fun D σ H h=>by
 obtain⟨o,ρ,rfl,R,S,h⟩:=h
 refine⟨o,ρ,rfl,R,S,Ps.bd h fun o1 s J e1 R1 sk h1=>?_⟩
 refine⟨fun i n σ H=>n=s.l.length - i/\i<=s.l.length/\ ∃o ρ,o.H=H/\Ex o1 o/\Rel X.K o/\Re X.K o ρ σ/\Ps (cg X E) (RFl X.K) o (forM s.G t g (s.l.drop i) ρ o.h) (DQ D),⟨_,rfl,Nat.zero_le _,o1,ρ,rfl,Ex.refl _,R1,S.mono R e1,h1⟩,?_⟩
 rintro i n σ H ⟨rfl,hi,o,ρ,rfl,X1,R,S,h⟩
 by_cases hlt:i<s.l.length
 ·obtain⟨w,hw⟩: ∃w,s.l[i]?=some w:=⟨_,List.getElem?_eq_getElem hlt⟩
  have hd:s.l.drop i=w::s.l.drop (i+1):=by
   rw[List.drop_eq_getElem_cons hlt]
   rw[List.getElem?_eq_getElem hlt] at hw
   rw[Option.some.inj hw]
  rw[hd] at h
  unfold forM at h
  obtain⟨hG,h⟩:=h.gdh
  obtain⟨hgo,hy⟩:=sk.go o i w X1 R hG hw
  refine .inr ⟨hgo,fun σ' H'=> ∃o ρ,o.H=H'/\Ex o1 o/\Rel X.K o/\Re X.K o ρ σ'/\Ps (cg X E) (RFl X.K) o (forM s.G t g (s.l.drop (i+1)) ρ o.h) (DQ D),fun σ' H' q=>⟨_,by omega,rfl,hlt,q⟩,fun x H' y=>?_⟩
  obtain⟨p,rfl,eh,X2,R2,rv⟩:=hy x H' y
  cases et:t w ρ with
  |none=>rw[et] at h;exact h.elim
  |some r=>
   rw[et] at h
   obtain⟨σ2,k1,k2,_,_⟩:=ht.ok p w x ρ r σ rv (S.mono R X2) et
   refine k1 _ ?_
   have h2:Ps (cg X E) (RFl X.K) p (bd (g r) (fun x=>match x with
    |.nx r'=>forM s.G t g (s.l.drop (i+1)) r'
    |.ct r'=>forM s.G t g (s.l.drop (i+1)) r'
    |.bk r'=>pr (.nx r')
    |.rt v=>pr (.rt v)) p.h) (DQ D):=by rw[eh];exact h.after X2
   refine⟨p,r,rfl,R2,k2,Ps.bd h2 fun q x b e3 R3 r3 h3=>?_⟩
   cases x with
   |nx r=>obtain⟨s',rfl,re⟩:=r3;exact⟨q,r,rfl,(X1.trans X2).trans e3,R3,re,h3⟩
   |ct r=>obtain⟨s',rfl,re⟩:=r3;exact⟨q,r,rfl,(X1.trans X2).trans e3,R3,re,h3⟩
   |bk r=>obtain⟨s',rfl,re⟩:=r3;exact h3.pr R3 (b:=.nx s') ⟨s',rfl,re⟩
   |rt w=>obtain⟨v,rfl,rv⟩:=r3;exact h3.pr R3 (b:=.rt v) ⟨v,rfl,rv⟩
 ·have e:i=s.l.length:=by omega
  subst e
  rw[List.drop_length] at h
  unfold forM at h
  obtain⟨hG,h⟩:=h.gdh
  exact .inl ⟨sk.stop o X1 R hG,Ps.pr (b:=FlV.nx σ) h R ⟨σ,rfl,S⟩⟩
end
end L2
set_option maxHeartbeats 1000000
namespace L2
open PySem PySem.Spec PyProof.Rows
section
variable {X:Cx}{E:XK}{pos:Pos}
theorem vH {l:Env'->M (List W)}{σ:St}{H:Hp}{Q:VK}(h:tM (cg X E) (mTl l) σ H Q):tF (cg X E) l σ H Q:=by
 obtain⟨o,ρ,rfl,R,S,h⟩:=h
 exact⟨o,ρ,rfl,R,S,Ps.bd h fun p x vx e1 R1 r1 h1=>fun q hq=>Ps.at (p:=⟨p.mu,p.h,upd p.H q (.lst vx)⟩) h1 rfl (Ex.new hq) (R1.new hq) (Rv.newL R1 hq r1)⟩
theorem ua {i:Nat}{f:Env'->M W}{D:Ends}{σ:St}{H:Hp}(h:tS (cg X E) (sSet i f) D σ H):tAsg (tM (cg X E) f) (gName i) D σ H:=by
 obtain⟨o,ρ,rfl,R,S,h⟩:=h
 exact⟨o,ρ,rfl,R,S,Ps.bd h fun p x b e1 R1 r1 h1=>Ps.pr (b:=FlV.nx (σ.set i (some b))) h1 R1 ⟨_,rfl,(S.mono R e1).set r1 i⟩⟩
def compM (G:List Ob->Prop)(t:W->Env'->Option Env')(f:Env'->M Bool)(e:Env'->M W)(n:Nat):List W->Env'->M (List W)
 |[],ρ=>gdh G (pr [])
 |w::l,ρ=>gdh G (match t w (List.replicate n none++ρ) with
  |none=>no
  |some r=>bd (f r) fun b=>if b=true then bd (e r) fun x=>bd (compM G t f e n l ρ) fun m=>pr (x::m) else compM G t f e n l ρ)
def mComp (hs:List Nat)(src:Env'->M Sr)(t:W->Env'->Option Env')(f:Env'->M Bool)(e:Env'->M W)(n:Nat):Env'->M (List W):=fun ρ=>
 gd ((hs.all fun i=>(ρ[i]?.join).isNone)=true) (bd (src ρ) fun s=>gd (s.l.length<=sizeLine) (compM s.G t f e n s.l ρ))
variable {elt iter tg:Expr}{ifs:List Expr}{scope:Scope}{ls:List Str}{gT:TG}{t:W->Env'->Option Env'}{f:Env'->M Bool}{e:Env'->M W}{src:Env'->M Sr}{hs:List Nat}{wh:Prop}
theorem mS (ht:TgOk X.K ls.length gT t){σ:St}{H:Hp}{Q:VK}(h:tF (cg X E) (mComp hs src t f e ls.length) σ H Q):tComp X.N ls (tI (cg X E) src) gT (tT (cg X E) f) (tM (cg X E) e) σ H Q:=by
 obtain⟨o,ρ,rfl,R,S,h⟩:=h
 unfold mComp at h
 obtain⟨h0,h⟩:=h.gd
 refine⟨rfl,o,ρ,rfl,R,S,Ps.bd h fun o1 s J e1 R1 sk h1=>?_⟩
 obtain⟨hz,h1⟩:=h1.gd
 have S1:=S.mono R e1
 refine⟨fun i n ys H=>n=s.l.length - i/\i<=s.l.length/\ ∃o acc,o.H=H/\Ex o1 o/\Rel X.K o/\Rvs X.K o acc ys/\acc.length<=i/\Ps (cg X E) (Rvs X.K) o (bd (compM s.G t f e ls.length (s.l.drop i) ρ) (fun m=>pr (acc++m)) o.h) (fun vs H1=> ∀q,H1 q=none->Q (.ref q) (upd H1 q (.lst vs))),
  ⟨_,rfl,Nat.zero_le _,o1,[],rfl,Ex.refl _,R1,Rvs.nil,Nat.le_refl _,?_⟩,?_⟩
 ·have:bd (compM s.G t f e ls.length (s.l.drop 0) ρ) (fun m=>pr ([]++m))=compM s.G t f e ls.length s.l ρ:=by
   funext h
   rw[List.drop_zero]
   unfold bd
   cases compM s.G t f e ls.length s.l ρ h<;>rfl
  rw[this];exact h1
 rintro i n ys H ⟨rfl,hi,o,acc,rfl,X1,R,A,ha,h⟩
 have S2:=S1.mono R1 X1
 have gs: ∀ {α β γ:Type}{r:Wo->β->γ->Prop}{m:M α}{k:α->M β}{Q':γ->Hp->Prop},Ps (cg X E) r o (bd (gdh s.G m) k o.h) Q'->s.G o.h/\Ps (cg X E) r o (bd m k o.h) Q':=fun{α β γ r m k Q'} q=>by
  have:bd (gdh s.G m) k o.h=gdh s.G (bd m k) o.h:=by
   unfold bd L2.gdh
   by_cases z:s.G o.h
   ·simp only[if_pos z]
   ·simp only[if_neg z]
  rw[this] at q
  exact q.gdh
 by_cases hlt:i<s.l.length
 ·obtain⟨w,hw⟩: ∃w,s.l[i]?=some w:=⟨_,List.getElem?_eq_getElem hlt⟩
  have hd:s.l.drop i=w::s.l.drop (i+1):=by
   rw[List.drop_eq_getElem_cons hlt]
   rw[List.getElem?_eq_getElem hlt] at hw
   rw[Option.some.inj hw]
  rw[hd] at h
  unfold compM at h
  obtain⟨hG,h⟩:=gs h
  obtain⟨hgo,hy⟩:=sk.go o i w X1 R hG hw
  refine .inr ⟨hgo,fun ys' H'=> ∃o acc,o.H=H'/\Ex o1 o/\Rel X.K o/\Rvs X.K o acc ys'/\acc.length<=i+1/\Ps (cg X E) (Rvs X.K) o (bd (compM s.G t f e ls.length (s.l.drop (i+1)) ρ) (fun m=>pr (acc++m)) o.h) (fun vs H1=> ∀q,H1 q=none->Q (.ref q) (upd H1 q (.lst vs))),fun ys' H' q=>⟨_,by omega,rfl,hlt,q⟩,fun x H' y=>?_⟩
  obtain⟨p,rfl,eh,X2,R2,rv⟩:=hy x H' y
  cases et:t w (List.replicate ls.length none++ρ) with
  |none=>rw[et] at h;exact h.elim
  |some r=>
   rw[et] at h
   obtain⟨σ2,k1,k2,k3,k4⟩:=ht.ok p w x _ r (List.replicate ls.length none++σ) rv ((S2.mono R X2).front _) et
   refine k1 _ ⟨?_,?_,?_⟩
   ·rw[k3,List.drop_left' (by rw[List.length_replicate])]
   ·rw[k4,List.length_append,List.length_replicate]
   have h2:Ps (cg X E) (Rvs X.K) p (bd (f r) (fun b=>bd (if b=true then bd (e r) fun x=>bd (compM s.G t f e ls.length (s.l.drop (i+1)) ρ) fun m=>pr (x::m) else compM s.G t f e ls.length (s.l.drop (i+1)) ρ) fun m=>pr (acc++m)) p.h) (fun vs H1=> ∀q,H1 q=none->Q (.ref q) (upd H1 q (.lst vs))):=by
    rw[eh]
    rw[aa] at h
    exact h.after X2
   refine⟨p,r,rfl,R2,k2,Ps.bd h2 fun q b vb e3 R3 r3 h3=>?_⟩
   subst r3
   have A3:=(A.mono R X2).mono R2 e3
   cases b with
   |false=>
    exact iteF ⟨q,acc,rfl,(X1.trans X2).trans e3,R3,A3,by omega,h3⟩
   |true=>
    rw[if_pos rfl,aa] at h3
    refine iteT ⟨q,r,rfl,R3,k2.mono R2 e3,Ps.bd h3 fun q2 x vx e4 R4 r4 h4=>⟨?_,q2,acc++[x],rfl,((X1.trans X2).trans e3).trans e4,R4,(A3.mono R3 e4).app (Rvs.cons r4 Rvs.nil),?_,?_⟩⟩
    ·rw[(A3.mono R3 e4).len];omega
    ·rw[List.length_append,List.length_singleton];omega
    ·rw[aa] at h4
     have ee:(fun m=>bd (pr (x::m)) fun m=>pr (acc++m))=(fun m:List W=>(pr (acc++[x]++m):M (List W))):=by
      funext m h
      show Rs.ok (acc++(x::m)) h=Rs.ok (acc++[x]++m) h
      rw[List.append_assoc];rfl
     rw[ee] at h4
     exact h4
 ·have ei:i=s.l.length:=by omega
  subst ei
  rw[List.drop_length] at h
  unfold compM at h
  obtain⟨hG,h⟩:=gs h
  have h:Ps (cg X E) (Rvs X.K) o (pr (acc++[]) o.h) (fun vs H1=> ∀q,H1 q=none->Q (.ref q) (upd H1 q (.lst vs))):=h
  rw[List.append_nil] at h
  exact .inl ⟨sk.stop o X1 R hG,h.pr R A⟩
structure JQ (X:Cx)(E:XK)(ifs:List Expr)(f:Env'->M Bool):Prop where
 h:PIfs X ifs (tT (cg X E) f)
def mYes:Env'->M Bool:=fun _=>pr true
theorem cE:JQ X E [] mYes:=⟨fun pins s σ H Q I h=>se pins s σ H Q I (by
 obtain⟨o,ρ,rfl,R,S,h⟩:=h
 exact Ps.pr (b:=true) h R rfl)⟩
theorem hV {c:Expr}(h:JT X E c f):JQ X E [c] f:=⟨sd h.h⟩
theorem bH (hcalm:X.calm=true)(S:CScope X ls scope)(hi:JI X E tg iter src)(hg: ∀C s2 H2 fp,PG (cxC X ls scope C s2 H2 fp) tg gT)(ht:TgOk X.K ls.length gT t)
  (hf: ∀C s2 H2 fp,JQ (cxC X ls scope C s2 H2 fp) E ifs f)(he: ∀C s2 H2 fp,JE (cxC X ls scope C s2 H2 fp) E elt e)(hh:wh)
  (hs': ∀x,foldedSetIterable iter X.env x=pure x:=by intro _;rfl):JF X E (.ListComp elt [⟨tg,iter,ifs,0⟩] scope pos) (mComp hs src t f e ls.length):=
 (si hcalm S hi.h hg (fun C s2 H2 fp=>(hf C s2 H2 fp).h) (fun C s2 H2 fp=>(he C s2 H2 fp).h) hs').impF fun σ H Q h=>mS ht h
theorem qm {i:Nat}{x:Str}{px spos:Pos}(hN:X.N.Nodup)(hx1:X.N[i]?=some x)(hx:X.env.scope.names.lookup x=some .local)(hcalm:X.calm=true)(S:CScope X ls scope)(hi:JI X E tg iter src)(hg: ∀C s2 H2 fp,PG (cxC X ls scope C s2 H2 fp) tg gT)(ht:TgOk X.K ls.length gT t)
  (hf: ∀C s2 H2 fp,JQ (cxC X ls scope C s2 H2 fp) E ifs f)(he: ∀C s2 H2 fp,JE (cxC X ls scope C s2 H2 fp) E elt e)(hh:wh)
  (hsw:swapsWith (.ListComp elt [⟨tg,iter,ifs,0⟩] scope pos) (some (.Name x px)) spos.line X.env=pure true:=by rfl)
  (hs': ∀x,foldedSetIterable iter X.env x=pure x:=by intro _;rfl):JS X E (.Assign [.Name x px] (.ListComp elt [⟨tg,iter,ifs,0⟩] scope pos) spos) (sSet i (mTl (mComp hs src t f e ls.length))):=
 (mn hN hx1 hx hcalm S hi.h hg (fun C s2 H2 fp=>(hf C s2 H2 fp).h) (fun C s2 H2 fp=>(he C s2 H2 fp).h) hsw hs').imp fun D σ H h=>mS ht (vH (ua h))
end
end L2
set_option maxHeartbeats 1000000
namespace L2
open PySem PySem.Spec PyProof.Rows
section
variable {X:Cx}{E:XK}{pos p:Pos}{a b:Expr}{l:Env'->M (List W)}
theorem Rvs.one {K:PySem.W.Frag}{o:Wo}{w:W}{vs:List V}(h:Rvs K o [w] vs): ∃v,vs=[v]/\Rv K o w v:=by
 unfold Rvs Rvs at h;obtain⟨v,r,rfl,h1,rfl⟩:=h;exact⟨v,rfl,h1⟩
theorem Rvs.two {K:PySem.W.Frag}{o:Wo}{w x:W}{vs:List V}(h:Rvs K o [w,x] vs): ∃v u,vs=[v,u]/\Rv K o w v/\Rv K o x u:=by
 unfold Rvs Rvs Rvs at h;obtain⟨v,r,rfl,h1,u,r2,rfl,h2,rfl⟩:=h;exact⟨v,u,rfl,h1,h2⟩
def lenW (ws:List W):M W:=match ws with
 |[.str z]=>gd (z.length<=sizeLine) (pr (.int z.length))
 |[.tup l]=>pr (.int l.length)
 |[w]=>bd (lstOf w) fun l=>pr (.int l.length)
 |_=>no
theorem vw:CallM X E (fun xs H Q=>(fun xs H Q=> ∃z,xs=[.str z]/\z.length<=sizeLine/\Q (.int z.length) H) xs H Q\/(fun xs H Q=> ∃p ys,xs=[.ref p]/\(SqL X.K H p ys\/SqT X.K H p ys)/\Q (.int ys.length) H) xs H Q) lenW:=by
 intro o ws vs Q R rv h
 unfold lenW at h
 split at h
 ·obtain⟨v,rfl,r⟩:=rv.one
  obtain⟨hz,h⟩:=h.gd
  exact .inl ⟨_,by rw[rv_str.mp r],hz,h.pr R (rv_int.mpr rfl)⟩
 ·obtain⟨v,rfl,r⟩:=rv.one
  unfold Rv at r
  obtain⟨a,us,rfl,s,r⟩:=r
  exact .inr ⟨a,us,rfl,.inr s,by rw[r.len];exact h.pr R (rv_int.mpr rfl)⟩
 ·obtain⟨v,rfl,r⟩:=rv.one
  obtain⟨l,a,us,rfl,s,r,h⟩:=bD R r h
  exact .inr ⟨a,us,rfl,.inl s,by rw[r.len];exact h.pr R (rv_int.mpr rfl)⟩
 ·exact h.elim
theorem db (hm:X.mg "len"=none)(ha:JA X E [a] l)(hg:Gl X "len":=by rfl)(he:starEach [a] X.env=(false,eval a X.env)::starEach [] X.env:=by rfl)(hpl:(backTo pos (starEach [] X.env)).any (·.1)=false:=by rfl):JE X E (.Call (.Name "len" p) [a] [] pos) (mCall lenW l):=
 dD (call_len_str.or ku) vw hg hm PySem.boot_len ha (he:=he) (hpl:=hpl)
def absW (ws:List W):M W:=match ws with
 |[.int i]=>pr (.int (if i<0 then -i else i))
 |_=>no
noncomputable def iOf:W->Option Int
 |.int i=>some i
 |_=>none
noncomputable def bOf:W->Option Bool
 |.bl i=>some i
 |_=>none
theorem dP {K:PySem.W.Frag}{o:Wo}{α:Type}{f:W->Option α}{g:α->V}(hf: ∀w a v,f w=some a->Rv K o w v->v=g a): ∀ {l:List W}{xs:List α}{vs:List V},optL f l=some xs->Rvs K o l vs->vs=xs.map g
 |[],xs,vs,e,h=>by unfold Rvs at h;cases e;exact h
 |w::l,xs,vs,e,h=>by
  unfold Rvs at h
  obtain⟨v,r,rfl,h1,h2⟩:=h
  unfold optL at e
  split at e
  ·rename_i d ds e1 e2
   cases e
   rw[hf w d v e1 h1,dP hf e2 h2];rfl
  ·cases e
theorem iX {K:PySem.W.Frag}{o:Wo}: ∀ (w:W) (a:Int) (v:V),iOf w=some a->Rv K o w v->v=.int a:=fun w a v e h=>by
 cases w<;>first|(cases e;exact rv_int.mp h)|cases e
theorem rD {K:PySem.W.Frag}{o:Wo}: ∀ (w:W) (a:Bool) (v:V),bOf w=some a->Rv K o w v->v=.bl a:=fun w a v e h=>by
 cases w<;>first|(cases e;exact rv_bl.mp h)|cases e
def sumW (ws:List W):M W:=match ws with
 |[w]=>bd (lstOf w) fun l=>match optL iOf l with
  |some ns=>pr (.int ns.sum)
  |none=>no
 |_=>no
theorem qr (hc:X.calm=true)(hm:X.mg "sum"=none)(ha:JA X E [a] l)(hg:Gl X "sum":=by rfl)(he:starEach [a] X.env=(false,eval a X.env)::starEach [] X.env:=by rfl)(hpl:(backTo pos (starEach [] X.env)).any (·.1)=false:=by rfl):JE X E (.Call (.Name "sum" p) [a] [] pos) (mCall sumW l):=
 dD (rp hc) (fun o ws vs Q R rv h=>by
  unfold sumW at h
  split at h
  ·obtain⟨v,rfl,r⟩:=rv.one
   obtain⟨l,a,us,rfl,s,r,h⟩:=bD R r h
   cases e:optL iOf l with
   |none=>rw[e] at h;exact h.elim
   |some ns=>
    rw[e] at h
    rw[dP iX e r] at s
    exact⟨a,ns,rfl,s,h.pr R (rv_int.mpr rfl)⟩
  ·exact h.elim) hg hm PyProof.Rows.boot_sum ha (he:=he) (hpl:=hpl)
def allW (ws:List W):M W:=match ws with
 |[w]=>bd (lstOf w) fun l=>match optL bOf l with
  |some ns=>pr (.bl (ns.all id))
  |none=>no
 |_=>no
theorem u8 (hc:X.calm=true)(hm:X.mg "all"=none)(ha:JA X E [a] l)(hg:Gl X "all":=by rfl)(he:starEach [a] X.env=(false,eval a X.env)::starEach [] X.env:=by rfl)(hpl:(backTo pos (starEach [] X.env)).any (·.1)=false:=by rfl):JE X E (.Call (.Name "all" p) [a] [] pos) (mCall allW l):=
 dD (rB hc) (fun o ws vs Q R rv h=>by
  unfold allW at h
  split at h
  ·obtain⟨v,rfl,r⟩:=rv.one
   obtain⟨l,a,us,rfl,s,r,h⟩:=bD R r h
   cases e:optL bOf l with
   |none=>rw[e] at h;exact h.elim
   |some ns=>
    rw[e] at h
    rw[dP rD e r] at s
    exact⟨a,ns,rfl,s,h.pr R (rv_bl.mpr rfl)⟩
  ·exact h.elim) hg hm PyProof.Rows.boot_all ha (he:=he) (hpl:=hpl)
def fQ (ws:List W):M W:=match ws with
 |[.tup l]=>pr (.tup l)
 |[w]=>bd (lstOf w) fun l=>pr (.tup l)
 |_=>no
theorem iO (hm:X.mg "tuple"=none)(ha:JA X E [a] l)(hg:Gl X "tuple":=by rfl)(he:starEach [a] X.env=(false,eval a X.env)::starEach [] X.env:=by rfl)(hpl:(backTo pos (starEach [] X.env)).any (·.1)=false:=by rfl):JE X E (.Call (.Name "tuple" p) [a] [] pos) (mCall fQ l):=
 oB jl (fun o ws vs Q R rv h=>by
  unfold fQ at h
  split at h
  ·obtain⟨v,rfl,r⟩:=rv.one
   have r0:=r
   unfold Rv at r
   obtain⟨a,us,rfl,s,r⟩:=r
   exact⟨a,us,rfl,.inr ⟨s,h.pr R r0⟩⟩
  ·obtain⟨v,rfl,r⟩:=rv.one
   obtain⟨l,a,us,rfl,s,r,h⟩:=bD R r h
   exact⟨a,us,rfl,.inl ⟨s,fun q hq=>hJ R hq r h⟩⟩
  ·exact h.elim) hg hm PyProof.Rows.boot_tuple ha (he:=he) (hpl:=hpl)
def listL (l:Env'->M (List W)):Env'->M (List W):=fun ρ=>bd (l ρ) fun ws=>match ws with
 |[.tup l]=>pr l
 |[w]=>lstOf w
 |_=>no
theorem qE {o:Wo}{w:W}{v:V}{Q:List V->Hp->Prop}(R:Rel X.K o)(hr:Rv X.K o w v)(h:Ps (cg X E) (Rvs X.K) o (lstOf w o.h) Q): ∃l a vs,v=.ref a/\SqL X.K o.H a vs/\Rvs X.K o l vs/\Q vs o.H:=by
 have e:lstOf w=bd (lstOf w) fun l=>pr l:=by
  funext h
  unfold bd
  cases lstOf w h<;>rfl
 rw[e] at h
 obtain⟨l,a,vs,e1,e2,e3,h⟩:=bD R hr h
 exact⟨l,a,vs,e1,e2,e3,h.pr R e3⟩
theorem hW (hm:X.mg "list"=none)(ha:JA X E [a] l)(hg:Gl X "list":=by rfl)(he:starEach [a] X.env=(false,eval a X.env)::starEach [] X.env:=by rfl)(hpl:(backTo pos (starEach [] X.env)).any (·.1)=false:=by rfl):JF X E (.Call (.Name "list" p) [a] [] pos) (listL l):=
 (ju kr hg hm PyProof.Rows.boot_list ha.h (he:=he) (hpl:=hpl)).impF fun σ H Q h=>by
  obtain⟨o,ρ,rfl,R,S,h⟩:=h
  refine⟨o,ρ,rfl,R,S,Ps.bd h fun p x vx e1 R1 r1 h1=>?_⟩
  split at h1
  ·obtain⟨v,rfl,r⟩:=r1.one
   unfold Rv at r
   obtain⟨a,us,rfl,s,r⟩:=r
   exact⟨a,us,rfl,.inr s,h1.pr R1 r⟩
  ·obtain⟨v,rfl,r⟩:=r1.one
   obtain⟨l,a,us,rfl,s,r,q⟩:=qE R1 r h1
   exact⟨a,us,rfl,.inl s,q⟩
  ·exact h1.elim
def isS (w:W):M W:=match w with
 |.str z=>pr (.str z)
 |_=>no
def mMeth (chk:W->M W)(f:W->List W->M W)(fo:Env'->M W)(l:Env'->M (List W)):Env'->M W:=fun ρ=>bd (fo ρ) fun x=>bd (chk x) fun x=>bd (l ρ) fun ws=>f x ws
variable {o e:Expr}{es:List Expr}{apos cpos:Pos}{fo:Env'->M W}
def isL (w:W):M W:=match w with
 |.loc k=>fun h=>match h[k]? with
  |some (.lst _)=>.ok (.loc k) h
  |_=>.bad
 |_=>no
theorem qP {α β:Type}{r:Wo->α->β->Prop}{o:Wo}{w:W}{v:V}{k:W->M α}{Q:β->Hp->Prop}(R:Rel X.K o)(hr:Rv X.K o w v)(h:Ps (cg X E) r o (bd (isL w) k o.h) Q):
  ∃j l vs,w=.loc j/\o.h[j]?=some (.lst l)/\v=.ref (o.mu j)/\j<o.h.length/\o.H (o.mu j)=some (.lst vs)/\Rvs X.K o l vs/\Ps (cg X E) r o (k (.loc j) o.h) Q:=by
 cases w with
 |loc j=>
  unfold Rv at hr
  unfold isL bd at h
  cases e:o.h[j]? with
  |none=>simp only[e] at h;exact h.elim
  |some b=>
   cases b with
   |lst l=>
    simp only[e] at h
    obtain⟨vs,h1,h2⟩:=R.ob j _ e
    exact⟨j,l,vs,rfl,e,hr.2,hr.1,h1,h2,h⟩
   |_=>simp only[e] at h;exact h.elim
 |_=>exact h.elim
def cS (x:W)(ws:List W):M W:=match x,ws with
 |.loc k,[w]=>fun h=>match h[k]? with
  |some (.lst l)=>if l.length<sizeLine then .ok .non (h.set k (.lst (l++[w]))) else .bad
  |_=>.bad
 |_,_=>no
theorem fx (ho:JE X E o fo)(ha:JA X E [e] l)(hbase:attributeBase o "append" X.env (eval o X.env)=eval o X.env:=by rfl)
  (hfew:((backTo cpos (starEach [e] X.env)).all (fun x=>!x.1) && (backToKw cpos (keywordEach [] X.env)).all (fun x=>x.1.isSome) && decide (([e]:List Expr).length+([]:List Keyword).length+(if ([]:List Keyword).isEmpty then 0 else 1)<30))=true:=by rfl)
  (hline:(apos.endLine==cpos.line)=true:=by rfl)(hs:starEach [e] X.env=(false,eval e X.env)::starEach [] X.env:=by rfl)(hplain:(backTo cpos (starEach [] X.env)).any (·.1)=false:=by rfl):
  JE X E (.Call (.Attribute o "append" apos) [e] [] cpos) (mMeth isL cS fo l):=
 (tJ PySem.F.plainAttrs_list PySem.F.slot_list_append PySem.F.type_list_append oy ho.h ha.h hbase hfew hline hs hplain).imp fun σ H Q h=>by
  obtain⟨w,ρ,rfl,R,S,h⟩:=h
  refine⟨w,ρ,rfl,R,S,Ps.bd h fun p x vx e1 R1 r1 h1=>?_⟩
  obtain⟨j,l0,vs0,rfl,hj,rfl,hlt,hH,hl0,h1⟩:=qP R1 r1 h1
  refine⟨.inl ⟨rfl,vs0,.of hH⟩,p,ρ,rfl,R1,S.mono R e1,Ps.bd h1 fun q ws vs e2 R2 r2 h2=>?_⟩
  rcases ws with _|⟨w',_|⟨_,_⟩⟩
  ·exact h2.elim
  ·unfold cS at h2
   cases e:q.h[j]? with
   |none=>simp only[e] at h2;exact h2.elim
   |some b=>
    cases b with
    |lst l'=>
     simp only[e] at h2
     obtain⟨v,rfl,r⟩:=r2.one
     obtain⟨us,k1,k2⟩:=R2.ob j _ e
     by_cases z:l'.length<sizeLine
     ·rw[if_pos z] at h2
      rw[e2.mu j hlt] at k1
      refine⟨p.mu j,us,v,rfl,rfl,k1,by rw[k2.len];exact z,?_⟩
      have:=Ps.at (p:=q.put j (.lst (l'++[w'])) (.lst (us++[v]))) (b:=V.non) h2 rfl (Ex.put e (by simp)) (R2.putL e (by simp) (k2.app (Rvs.cons r Rvs.nil))) (rv_non.mpr rfl)
      have em:q.mu j=p.mu j:=e2.mu j hlt
      have ew:(q.put j (.lst (l'++[w'])) (.lst (us++[v]))).H=upd q.H (p.mu j) (.lst (us++[v])):=by
       show upd q.H (q.mu j) _=_
       rw[em]
      rw[ew] at this
      exact this
     ·rw[if_neg z] at h2;exact h2.elim
    |_=>simp only[e] at h2;exact h2.elim
  ·exact h2.elim
def iceW (w:W):M W:=match w with
 |.loc k=>fun h=>match h[k]? with
  |some (.lst l)=>.ok (.tl l) (h.set k .gone)
  |some (.dic ks ws)=>.ok (.dv ks ws) (h.set k .gone)
  |some (.din b ks ws)=>.ok (.dn b ks ws) (h.set k .gone)
  |_=>.bad
 |w=>pr w
theorem ud {f:Env'->M W}{σ:St}{H:Hp}{Q:VK}(h:tM (cg X E) (m1 iceW f) σ H Q):tM (cg X E) f σ H Q:=by
 obtain⟨o,ρ,rfl,R,S,h⟩:=h
 refine⟨o,ρ,rfl,R,S,Ps.bd h fun p x vx e1 R1 r1 h1=>?_⟩
 cases x with
 |loc k=>
  unfold Rv at r1
  obtain⟨_,rfl⟩:=r1
  unfold iceW at h1
  dsimp only at h1
  split at h1
  ·rename_i l hl
   exact Ps.at (p:=p.ice k) h1 rfl Ex.ice R1.ice (Rv.iceL R1 hl)
  ·rename_i ks ws hl
   exact Ps.at (p:=p.ice k) h1 rfl Ex.ice R1.ice (Rv.iceD R1 hl)
  ·rename_i b ks ws hl
   exact Ps.at (p:=p.ice k) h1 rfl Ex.ice R1.ice (Rv.iceN R1 hl)
  ·exact h1.elim
 |_=>exact Ps.pr (c:=cg X E) h1 R1 r1
theorem iQ {f:Env'->M W}{e:Expr}(h:JE X E e f):JE X E e (m1 iceW f):=h.h.imp fun _ _ _ q=>ud q
noncomputable def mapAt {κ:Type} [DecidableEq κ]:List κ->List W->κ->W->List W
 |k::ks,w::ws,x,y=>(if k=x then y else w)::mapAt ks ws x y
 |_,_,_,_=>[]
def putW {κ:Type} [DecidableEq κ] (ks:List κ)(ws:List W)(x:κ)(y:W):List κ×List W:=if (ks.any fun k=>decide (k=x))=true then (ks,mapAt ks ws x y) else (ks++[x],ws++[y])
def gz (x i v:W):M Unit:=match x with
 |.loc k=>fun h=>match h[k]? with
  |some (.lst l)=>match i with
   |.int n=>match ixN l.length n with
    |some j=>.ok () (h.set k (.lst (l.set j v)))
    |none=>.bad
   |_=>.bad
  |some (.dic ks ws)=>match keyOf i with
   |some q=>if ks.length<sizeLine then .ok () (h.set k (.dic (putW ks ws q v).1 (putW ks ws q v).2)) else .bad
   |none=>.bad
  |some (.dit ks ws)=>match i with
   |.kt q=>if ks.length<sizeLine then .ok () (h.set k (.dit (putW ks ws q v).1 (putW ks ws q v).2)) else .bad
   |_=>.bad
  |_=>.bad
 |_=>no
def rSetD:TSet:=fun o i v H Q=> ∃a H',o=.ref a/\DPut H a i v H'/\Q H'
theorem pA (hu:X.A.units+1<cLine):PSet X rSetD:=by
 intro pins s σ H o i v ov iv u Q I ro ri rv h
 obtain⟨a,H',rfl,g,q⟩:=h
 cases ro
 exact oS hu I g ri rv fun s4 I4=>⟨H',I4,q⟩
theorem PSet.or {t t':TSet}(h:PSet X t)(h':PSet X t'):PSet X (fun o i v H Q=>t o i v H Q\/t' o i v H Q):=by
 intro pins s σ H o i v ov iv u Q I ro ri rv q
 rcases q with q|q
 ·exact h pins s σ H o i v ov iv u Q I ro ri rv q
 ·exact h' pins s σ H o i v ov iv u Q I ro ri rv q
theorem lJ {κ:Type} [DecidableEq κ] {K:PySem.W.Frag}{o:Wo}{x:κ}{y:W}{v:V}(hy:Rv K o y v): ∀ {ks:List κ}{ws:List W}{kvs:List (κ×V)},kvs.map (·.1)=ks->Rvs K o ws (kvs.map (·.2))->Rvs K o (mapAt ks ws x y) ((kvs.map fun kv=>if kv.1=x then (kv.1,v) else kv).map (·.2))
 |_,ws,[],e,h=>by subst e;unfold mapAt;exact Rvs.nil
 |_,ws,(k,u)::r,e,h=>by
  subst e
  cases ws with
  |nil=>unfold Rvs at h;cases h
  |cons w ws=>
   unfold Rvs at h
   obtain⟨u',r',e',h1,h2⟩:=h
   cases e'
   have ih:=lJ (x:=x) hy (ks:=r.map (·.1)) (ws:=ws) (kvs:=r) rfl h2
   show Rvs K o ((if k=x then y else w)::mapAt (r.map (·.1)) ws x y) ((if k=x then (k,v) else (k,u)).2::_)
   by_cases z:k=x
   ·rw[if_pos z,if_pos z];exact Rvs.cons hy ih
   ·rw[if_neg z,if_neg z];exact Rvs.cons h1 ih
theorem jT {κ:Type} [DecidableEq κ] {K:PySem.W.Frag}{o:Wo}{x:κ}{y:W}{v:V}{ks:List κ}{ws:List W}{kvs:List (κ×V)}(hy:Rv K o y v)(hk:kvs.map (·.1)=ks)(h:Rvs K o ws (kvs.map (·.2))):
  (putK kvs x v).map (·.1)=(putW ks ws x y).1/\Rvs K o (putW ks ws x y).2 ((putK kvs x v).map (·.2)):=by
 subst hk
 have ea:((kvs.map (·.1)).any fun k=>decide (k=x))=(kvs.any fun kv=>decide (kv.1=x)):=by rw[List.any_map];rfl
 unfold putK putW
 rw[ea]
 by_cases z:(kvs.any fun kv=>decide (kv.1=x))=true
 ·rw[if_pos z,if_pos z]
  refine⟨?_,lJ hy rfl h⟩
  rw[List.map_map]
  refine List.map_congr_left fun kv _=>?_
  show (if kv.1=x then (kv.1,v) else kv).1=kv.1
  split<;>rfl
 ·rw[if_neg z,if_neg z]
  refine⟨by simp,?_⟩
  show Rvs K o (ws++[y]) ((kvs++[(x,v)]).map (·.2))
  rw[List.map_append]
  exact h.app (Rvs.cons hy Rvs.nil)
def bm (fo fi fv:Env'->M W):Env'->M Fl:=fun ρ=>bd (fv ρ) fun v=>bd (fo ρ) fun x=>bd (fi ρ) fun i=>bd (gz x i v) fun _=>pr (.nx ρ)
variable {i value:Expr}{tpos:Pos}{fi fv:Env'->M W}
theorem gn (hu:X.A.units+1<cLine)(ho:JE X E o fo)(hi:JE X E i fi)(hv:JE X E value fv)
  (ha: ∀v,assign (.Subscript o i tpos) X.env v=(do
   let ov<-holding [v] (eval o X.env)
   let iv<-holding [v,ov] (eval i X.env)
   standAt tpos
   holding [v,ov,iv] (setItem ov iv v)
   release [v,ov,iv] []):=by intro _;rfl)
  (hs:swapsWithSole [.Subscript o i tpos] value pos.line X.env=pure false:=by rfl)(hw:swappedStores [.Subscript o i tpos] value X.env=pure none:=by rfl)
  (h1:(assignEach [.Subscript o i tpos] X.env).map (·.2)=[assign (.Subscript o i tpos) X.env]:=by rfl):JS X E (.Assign [.Subscript o i tpos] value pos) (bm fo fi fv):=
 (pK hv.h (pO ho.h hi.h (set_list.or (pA hu)) ha) hs hw h1).imp fun D σ H h=>by
  obtain⟨w,ρ,rfl,R,S,h⟩:=h
  refine⟨w,ρ,rfl,R,S,Ps.bd h fun p v vv e1 R1 r1 h1=>⟨p,ρ,rfl,R1,S.mono R e1,Ps.bd h1 fun q x vx e2 R2 r2 h2=>⟨q,ρ,rfl,R2,(S.mono R e1).mono R1 e2,Ps.bd h2 fun s i vi e3 R3 r3 h3=>?_⟩⟩⟩
  have S3:=((S.mono R e1).mono R1 e2).mono R2 e3
  have rv:=(r1.mono R1 e2).mono R2 e3
  have rx:=r2.mono R2 e3
  cases x with
  |loc k=>
   unfold Rv at rx
   obtain⟨hk,rfl⟩:=rx
   unfold gz bd at h3
   cases e:s.h[k]? with
   |none=>simp only[e] at h3;exact h3.elim
   |some b=>
    cases b with
    |ins c ns ws=>simp only[e] at h3;exact h3.elim
    |din b ks ws=>simp only[e] at h3;exact h3.elim
    |gone=>simp only[e] at h3;exact h3.elim
    |lst l=>
     simp only[e] at h3
     cases i with
     |int n=>
      simp only at h3
      cases ej:ixN l.length n with
      |none=>simp only[ej] at h3;exact h3.elim
      |some j=>
       simp only[ej] at h3
       obtain⟨us,k1,k2⟩:=R3.ob k _ e
       refine .inl ⟨_,us,n,j,rfl,rv_int.mp r3,k1,by rw[k2.len];exact ej,?_⟩
       exact Ps.at (p:=s.put k (.lst (l.set j v)) (.lst (us.set j vv))) (b:=FlV.nx σ) h3 rfl (Ex.put e (by simp)) (R3.putL e (by simp) (k2.set rv j)) ⟨σ,rfl,S3.mono R3 (Ex.put e (by simp))⟩
     |_=>exact h3.elim
    |dit ks ws=>
     simp only[e] at h3
     cases i with
     |kt x=>
      simp only at h3
      by_cases z:ks.length<sizeLine
      ·simp only[if_pos z] at h3
       obtain⟨kvs,k1,k2,k3⟩:=R3.ob k _ e
       unfold Rv at r3
       obtain⟨b,rfl,hb⟩:=r3
       obtain⟨b1,b2⟩:=jT (x:=x) rv k2 k3
       refine .inr ⟨_,_,rfl,.inr ⟨kvs,x,b,k1,rfl,hb,by rw[<-k2,List.length_map] at z;exact z,rfl⟩,?_⟩
       exact Ps.at (p:=s.put k (.dit (putW ks ws x v).1 (putW ks ws x v).2) (.dT (putK kvs x vv))) (b:=FlV.nx σ) h3 rfl (Ex.put e (by simp)) (R3.putT e (by simp) b1 b2) ⟨σ,rfl,S3.mono R3 (Ex.put e (by simp))⟩
      ·simp only[if_neg z] at h3;exact h3.elim
     |_=>exact h3.elim
    |dic ks ws=>
     simp only[e] at h3
     cases ej:keyOf i with
     |none=>simp only[ej] at h3;exact h3.elim
     |some x=>
      simp only[ej] at h3
      by_cases z:ks.length<sizeLine
      ·simp only[if_pos z] at h3
       obtain⟨kvs,k1,k2,k3⟩:=R3.ob k _ e
       rw[iU ej r3]
       obtain⟨b1,b2⟩:=jT (x:=x) rv k2 k3
       refine .inr ⟨_,_,rfl,.inl ⟨kvs,x,k1,rfl,by rw[<-k2,List.length_map] at z;exact z,rfl⟩,?_⟩
       exact Ps.at (p:=s.put k (.dic (putW ks ws x v).1 (putW ks ws x v).2) (.dK (putK kvs x vv))) (b:=FlV.nx σ) h3 rfl (Ex.put e (by simp)) (R3.putD e (by simp) b1 b2) ⟨σ,rfl,S3.mono R3 (Ex.put e (by simp))⟩
      ·simp only[if_neg z] at h3;exact h3.elim
  |_=>exact h3.elim
end
end L2
set_option maxHeartbeats 1000000
namespace L2
open PySem PySem.Spec PyProof.Rows
def runF (n:Nat)(g:Env'->M Fl)(ws:List W):M W:=bd (g (ws.map some++List.replicate (n - ws.length) none)) fun x=>match x with
 |.rt w=>pr w
 |.nx _=>pr .non
 |_=>no
section
variable {P:Program}{w:World}{K:PySem.W.Frag}{mg:Str->Option Value}{base:Heap}{x qual:Str}{st:Stmt}{f:Addr}{fd:FuncData}{N ps:List Str}{k:Nat}{g:Env'->M Fl}
def spM0 (K:PySem.W.Frag)(mg:Str->Option Value)(n:Nat)(f:List W->M W):Sp:=fun vs H Q _=> ∃o ws,o.H=H/\ws.length=n/\Rel K o/\Rvs K o ws vs/\Ps ⟨K,mg,E0⟩ (Rv K) o (f ws o.h) Q
theorem bF {n m:Nat}{fn:List W->M W}(F:Fun K x qual st f fd)(S:FnScope N ps (ai st))(hn:N.length=n)(hm:ps.length=m)(hf:fn=runF n g)
  (hb: ∀ (cdv:Value) (A:Around) (outer:List Env) (s:Shared) (H:Hp) (E:XK),Room k (A.deeper (envOfC qual (ai st) s.heap.objs.size f cdv))->JSs (cxOf CX0 P w K mg base N qual (ai st) f cdv A outer s H E).nox E0 (aB st) g):
  FnOk P w K mg base CX0 (k+1) f fd ps (spM0 K mg m fn):=by
 subst hn hm hf
 refine F.ok S (fun vs H Q E h=>?_) (fun cdv A outer s H vs Q E hr h=>?_)
 ·obtain⟨o,ws,_,hl,_,rv,_⟩:=h
  rw[rv.len,hl]
 ·obtain⟨o,ws,rfl,hl,R,rv,h⟩:=h
  refine⟨_,(hb cdv A outer s o.H E hr).h,?_⟩
  have e:start N vs=vs.map some++List.replicate (N.length - ws.length) none:=by unfold start;rw[rv.len]
  rw[e]
  refine⟨o,_,rfl,R,Re.args _ rv,Ps.bd h fun p x b e1 R1 r1 h1=>?_⟩
  cases x with
  |rt w=>obtain⟨v,rfl,r⟩:=r1;exact h1.pr R1 r
  |nx r=>obtain⟨s,rfl,r⟩:=r1;exact h1.pr R1 (rv_non.mpr rfl)
  |bk r=>exact h1.elim
  |ct r=>exact h1.elim
structure CG (P:Program)(w:World)(K:PySem.W.Frag)(mg:Str->Option Value)(base:Heap)(k:Nat)(x:Str)(f:Addr)(fd:FuncData)(ps:List Str)(m:Nat)(fn:List W->M W):Prop where
 ok:FnOk P w K mg base CX0 k f fd ps (spM0 K mg m fn)
 bi:Binds K fd ps []
 kp:keepIn K (.ref f)=true
 mg:mg x=some (.ref f)
end
def arW (n:Nat)(f:List W->M W)(ws:List W):M W:=if ws.length=n then f ws else no
section
variable {X:Cx}{p pos:Pos}{e:Expr}{es:List Expr}{l:Env'->M (List W)}{f:List W->M W}{k:Nat}{fA:Addr}{fd:FuncData}{ps:List Str}{x:Str}
theorem aM {m:Nat}(C:CG X.prog X.w X.K X.mg X.base k x fA fd ps m f)(hr:Room k X.A)(ha:JA X E0 (e::es) l)(hg:Gl X x:=by rfl)
  (hdb:(x==("__debug__":Str))=false:=by decide)(he:starEach (e::es) X.env=(false,eval e X.env)::starEach es X.env:=by rfl)(hpl:(backTo pos (starEach es X.env)).any (·.1)=false:=by rfl):
  JE X E0 (.Call (.Name x p) (e::es) [] pos) (mCall (arW m f) l):=(sn C.ok hr hg C.mg C.kp C.bi .nil pass0 ha.h hdb he hpl).imp fun σ H Q h=>by
 obtain⟨o,ρ,rfl,R,S,h⟩:=h
 refine⟨o,ρ,rfl,R,S,Ps.bd h fun p x vx e1 R1 r1 h1=>?_⟩
 unfold arW at h1
 by_cases z:x.length=m
 ·rw[if_pos z] at h1
  exact⟨p,x,rfl,z,R1,by rw[List.append_nil];exact r1,h1⟩
 ·rw[if_neg z] at h1
  exact h1.elim
end
section
variable {X:Cx}{E:XK}{p pos:Pos}
noncomputable def chars (z:Str):List W:=z.cps.toList.map fun c=>.str ⟨#[c]⟩
def srcS (w:W):M Sr:=match w with
 |.str z=>pr ⟨chars z,fun _=>True⟩
 |_=>no
noncomputable def numd (n:Int):List W->List W
 |[]=>[]
 |w::l=>.tup [.int n,w]::numd (n+1) l
theorem cT: ∀ (l:List W) (n:Int),(numd n l).length=l.length
 |[],_=>rfl
 |w::l,n=>by rw[numd,List.length_cons,List.length_cons,cT l]
theorem dA: ∀ (l:List W) (n:Int) (i:Nat) (w:W),(numd n l)[i]?=some w-> ∃x,l[i]?=some x/\w=.tup [.int (n+i),x]
 |[],_,_,_,h=>by simp [numd] at h
 |x::l,n,0,w,h=>by rw[numd] at h;cases h;exact⟨x,rfl,by simp⟩
 |x::l,n,i+1,w,h=>by
  rw[numd,List.getElem?_cons_succ] at h
  obtain⟨y,e1,e2⟩:=dA l (n+1) i w h
  exact⟨y,by simpa using e1,by rw[e2];congr 3;omega⟩
def enumL (ws:List W):M Sr:=match ws with
 |[w]=>bd (srcL w) fun s=>pr ⟨numd 0 s.l,s.G⟩
 |_=>no
theorem mU {α β:Type}{r:Wo->α->β->Prop}{o:Wo}{w:W}{v:V}{k:Sr->M α}{Q:β->Hp->Prop}(R:Rel X.K o)(hr:Rv X.K o w v)(h:Ps (cg X E) r o (bd (srcL w) k o.h) Q):
  ∃s a,v=.ref a/\(∃vs,SqL X.K o.H a vs)/\(∀p,Ex o p->Rel X.K p->s.G p.h-> ∃vs,SqL X.K p.H a vs/\Rvs X.K p s.l vs)/\Ps (cg X E) r o (k s o.h) Q:=by
 cases w with
 |tl l=>
  unfold Rv at hr
  obtain⟨a,vs,rfl,s,n,r⟩:=hr
  exact⟨⟨l,fun _=>True⟩,a,rfl,⟨vs,.of s⟩,fun p X _ _=>⟨vs,.of (X.fr a _ s n).1,r.mono R X⟩,h⟩
 |cl l=>
  unfold Rv at hr
  obtain⟨a,vs,rfl,s,r⟩:=hr
  have sq: ∀q,Ex o q->SqL X.K q.H a vs:=fun q X=>by
   rcases s with⟨s,n⟩|s
   ·exact .inl (X.rd s n).1
   ·exact .inr s
  exact⟨⟨l,fun _=>True⟩,a,rfl,⟨vs,sq o (Ex.refl _)⟩,fun p X _ _=>⟨vs,sq p X,r.mono R X⟩,h⟩
 |loc j=>
  unfold Rv at hr
  obtain⟨hj,rfl⟩:=hr
  unfold srcL bd at h
  cases e:o.h[j]? with
  |none=>simp only[e] at h;exact h.elim
  |some b=>
   cases b with
   |lst l=>
    simp only[e] at h
    obtain⟨vs,h1,h2⟩:=R.ob j _ e
    refine⟨⟨l,fun h=>h[j]?=some (.lst l)⟩,_,rfl,⟨vs,.of h1⟩,fun p X Rp g=>?_,h⟩
    obtain⟨vs',h5,h6⟩:=Rp.ob j _ g
    rw[X.mu j hj] at h5
    exact⟨vs',.of h5,h6⟩
   |_=>simp only[e] at h;exact h.elim
 |_=>exact h.elim
theorem j6 {a:Expr}{elts:List Expr}{x1}{tpos:Pos}{fl:Env'->M (List W)}(hm:X.mg "enumerate"=none)(ha:JA X E [a] fl)(hg:Gl X "enumerate":=by rfl)(hs:starEach [a] X.env=[(false,eval a X.env)]:=by rfl):
  JI X E (.Tuple elts x1 tpos) (.Call (.Name "enumerate" p) [a] [] pos) (mSrcA fl enumL):=(sg hg hm ha.h hs).imp fun σ H Q h=>by
 obtain⟨o,ρ,rfl,R,S,h⟩:=h
 refine⟨o,ρ,rfl,R,S,Ps.bd h fun p x vx e1 R1 r1 h1=>?_⟩
 rcases x with _|⟨w,_|⟨_,_⟩⟩
 ·exact h1.elim
 ·have h1:Ps (cg X E) (fun p s J=>SrcOk X.K p J s) p (bd (srcL w) (fun s=>pr ⟨numd 0 s.l,s.G⟩) p.h) Q:=h1
  obtain⟨v,rfl,r⟩:=r1.one
  obtain⟨s,a,rfl,hq,sk,h1⟩:=mU R1 r h1
  refine⟨a,rfl,hq,h1.pr R1 ⟨fun o X R g=>?_,fun o i w X R g e=>?_⟩⟩
  ·obtain⟨vs,k1,k2⟩:=sk o X R g
   exact⟨vs,k1,by rw[k2.len];exact (cT _ _).symm⟩
  ·obtain⟨vs,k1,k2⟩:=sk o X R g
   obtain⟨x,e1,rfl⟩:=dA _ _ _ _ e
   obtain⟨v,hv,rv⟩:=k2.get e1
   refine⟨⟨vs,v,k1,hv⟩,fun y H' q=>?_⟩
   obtain⟨T,z,hT,rfl,hz,rfl⟩:=q
   have:z=v:=by have:=hz vs k1;rw[hv] at this;exact (Option.some.inj this).symm
   subst this
   refine⟨⟨o.mu,o.h,upd o.H T (.tup [.int i,z])⟩,rfl,rfl,Ex.new hT,R.new hT,Rv.newT R hT (Rvs.cons (rv_int.mpr (by simp)) (Rvs.cons rv Rvs.nil))⟩
 ·exact h1.elim
def sUnp (t:W->Env'->Option Env')(f:Env'->M W):Env'->M Fl:=fun ρ=>bd (f ρ) fun w=>match t w ρ with
 |some r=>pr (.nx r)
 |none=>no
noncomputable def tyN (w:W)(h:List Ob):Option String:=match w with
 |.non=>some "NoneType"
 |.bl _=>some "bool"
 |.int _=>some "int"
 |.str _=>some "str"
 |.tl _=>some "list"
 |.loc k=>match h[k]? with
  |some (.lst _)=>some "list"
  |some (.dic _ _)=>some "dict"
  |_=>none
 |_=>none
noncomputable def isT (t c:String):Bool:=t==c||(t== "bool" && c== "int")
noncomputable def tys:List String:=["int", "str", "bool", "list", "tuple", "dict"]
def isiW (ws:List W):M W:=match ws with
 |[.tup _,.ty c]=>gd (c∈tys) (pr (.bl (isT "tuple" c)))
 |[x,.ty c]=>fun h=>match tyN x h with
  |some t=>if c∈tys then .ok (.bl (isT t c)) h else .bad
  |none=>.bad
 |_=>no
theorem qL {K:PySem.W.Frag}{t c:String}(ht:t∈ "NoneType"::tys)(hc:c∈tys):kitOne K (.type t) (.type c)=some (isT t c):=by
 simp only[tys,List.mem_cons,List.not_mem_nil,or_false] at ht hc
 rcases ht with rfl|rfl|rfl|rfl|rfl|rfl|rfl<;>rcases hc with rfl|rfl|rfl|rfl|rfl|rfl<;>kernel_rfl
end
end L2
set_option maxHeartbeats 1000000
namespace L2
open PySem PySem.Spec PyProof.Rows
section
variable {X:Cx}{E:XK}{p pos:Pos}{a b:Expr}{l:Env'->M (List W)}
def rIsT (K:PySem.W.Frag):List V->Hp->VK->Prop:=fun xs H Q=> ∃ (a:Addr) (ys:List V) (c:String) (k:Bool),xs=[.ref a,.ty c]/\SqT K H a ys/\kitOne K (.type "tuple") (.type c)=some k/\Q (.bl k) H
theorem oY:CallR X (.builtin "isinstance") (rIsT X.K):=by
 intro pins s σ H xs us Q I r h
 obtain⟨a,ys,c,k,rfl,hq,e,q⟩:=h
 obtain⟨u,u',rfl,ru,ru'⟩:=vals2 r
 cases ru
 cases ru'
 obtain⟨its,rv,⟨o,e1,e2,n,e3⟩,hz⟩:=I.tuple hq
 exact kia_one PySem.W.kitx_tuple I.kIn ⟨o,e1,e2⟩ e (fun z=>nomatch z) fun tk=>⟨.bl k,H,I.tok tk,rfl,q⟩
theorem t8 {o:Wo}{w:W}{v:V}{t:String}(R:Rel X.K o)(h:Rv X.K o w v)(e:tyN w o.h=some t):TyOf X.K o.H v (.type t)/\t∈ "NoneType"::tys:=by
 cases w with
 |non=>cases e;rw[rv_non.mp h];exact⟨.non,by decide⟩
 |bl _=>cases e;rw[rv_bl.mp h];exact⟨.bl _,by decide⟩
 |int _=>cases e;rw[rv_int.mp h];exact⟨.int _,by decide⟩
 |str _=>cases e;rw[rv_str.mp h];exact⟨.str _,by decide⟩
 |tl _=>cases e;unfold Rv at h;obtain⟨a,vs,rfl,s,_⟩:=h;exact⟨.lst s,by decide⟩
 |loc k=>
  unfold Rv at h
  obtain⟨_,rfl⟩:=h
  unfold tyN at e
  dsimp only at e
  split at e
  ·rename_i l hl
   cases e
   obtain⟨vs,h1,_⟩:=R.ob k _ hl
   exact⟨.lst h1,by decide⟩
  ·rename_i ks ws hl
   cases e
   obtain⟨vs,h1,_⟩:=R.ob k _ hl
   exact⟨.dK h1,by decide⟩
  ·cases e
 |_=>cases e
theorem qy (hm:X.mg "isinstance"=none)(ha:JA X E [a,b] l)(hg:Gl X "isinstance":=by rfl)(he:starEach [a,b] X.env=(false,eval a X.env)::starEach [b] X.env:=by rfl)(hpl:(backTo pos (starEach [b] X.env)).any (·.1)=false:=by rfl):JE X E (.Call (.Name "isinstance" p) [a,b] [] pos) (mCall isiW l):=
 dD (call_isinst.or oY) (fun o ws vs Q R rv h=>by
  unfold isiW at h
  split at h
  ·rename_i l c
   obtain⟨v,u,rfl,r1,r2⟩:=rv.two
   obtain⟨hc,h⟩:=h.gd
   unfold Rv at r1
   obtain⟨a,us,rfl,s,r⟩:=r1
   rw[rv_ty.mp r2]
   exact .inr ⟨a,us,c,_,rfl,s,qL (by decide) hc,h.pr R (rv_bl.mpr rfl)⟩
  ·rename_i x c _
   obtain⟨v,u,rfl,r1,r2⟩:=rv.two
   dsimp only at h
   cases e:tyN x o.h with
   |none=>rw[e] at h;exact h.elim
   |some t=>
    rw[e] at h
    by_cases hc:c∈tys
    ·simp only[if_pos hc] at h
     obtain⟨ty,hm⟩:=t8 R r1 e
     rw[rv_ty.mp r2]
     exact .inl ⟨v,.ty c,.type c,.type t,_,rfl,rfl,ty,qL hm hc,Ps.pr (c:=cg X E) (r:=Rv X.K) (a:=W.bl (isT t c)) h R (rv_bl.mpr rfl)⟩
    ·simp only[if_neg hc] at h;exact h.elim
  ·exact h.elim) hg hm PyProof.Rows.boot_isinstance ha (he:=he) (hpl:=hpl)
theorem tQ {x:Str}{T:String}(hm:X.mg x=none)(hv:bootBuiltins x=some (.type T))(hg:Gl X x:=by rfl)(hn:x≠ "__name__":=by decide)(hd:(x==("__debug__":Str))=false:=by decide):JE X E (.Name x pos) (mC (.ty T)):=
 (so (v:=.ty T) hg hm hv rfl hn hd).imp fun _ _ _ h=>pj (fun o=>rv_ty.mpr rfl) h
theorem Rv.addLoc {K:PySem.W.Frag}{o:Wo}{q:Addr}{b:Ob}{u:HO}:Rv K (o.add q b u) (.loc o.h.length) (.ref q):=by
 unfold Rv
 exact⟨by show _<(o.h++[b]).length;simp,by show V.ref q=V.ref (if o.h.length=o.h.length then q else _);rw[if_pos rfl]⟩
end
end L2
set_option maxHeartbeats 1000000
namespace L2
open PySem PySem.Spec PyProof.Rows
section
variable {X:Cx}{E:XK}{p pos:Pos}{a b c:Expr}{fa fb fc:Env'->M W}
def bU (f g:W->W->M W)(fa fb fc:Env'->M W):Env'->M W:=fun ρ=>bd (fa ρ) fun x=>bd (fb ρ) fun y=>bd (f x y) fun z=>bd (asB z) fun k=>if k=true then bd (fc ρ) fun w=>g y w else pr (.bl false)
end
section
variable {es:List Expr}{env:Env}{pos:Pos}
theorem aO {c k p}:starEach (.Constant c k p::es) env=(false,eval (.Constant c k p) env)::starEach es env:=by rfl
theorem ak {c p}:starEach (.Name c p::es) env=(false,eval (.Name c p) env)::starEach es env:=by rfl
theorem i9 {a o b p}:starEach (.BinOp a o b p::es) env=(false,eval (.BinOp a o b p) env)::starEach es env:=by rfl
theorem dy {a o b p}:starEach (.Call a o b p::es) env=(false,eval (.Call a o b p) env)::starEach es env:=by rfl
theorem bq {a o p}:starEach (.Subscript a o p::es) env=(false,eval (.Subscript a o p) env)::starEach es env:=by rfl
theorem fK {a o p}:starEach (.Tuple a o p::es) env=(false,eval (.Tuple a o p) env)::starEach es env:=by rfl
theorem og {a p}:starEach (.List a p::es) env=(false,eval (.List a p) env)::starEach es env:=by rfl
theorem gf {a g s p}:starEach (.ListComp a g s p::es) env=(false,eval (.ListComp a g s p) env)::starEach es env:=by rfl
theorem ao:(backTo pos (starEach [] env)).any (·.1)=false:=by rfl
theorem aw {e:Expr}(hs:starEach (e::es) env=(false,eval e env)::starEach es env)(h:(backTo pos (starEach es env)).any (·.1)=false):(backTo pos (starEach (e::es) env)).any (·.1)=false:=by
 rw[hs]
 show ((false||(backTo pos (starEach es env)).any (·.1)):Bool)=false
 rw[h];rfl
end
section
variable {P:Program}{w:World}{K:PySem.W.Frag}{mg:Str->Option Value}{base:Heap}{x:Str}{f:Addr}{fd:FuncData}{ps:List Str}{k:Nat}{sp:Sp}{fn:List W->M W}
end
end L2
set_option maxHeartbeats 1000000
namespace L2
open PySem PySem.Spec PyProof.Rows
section
variable {X:Cx}{E:XK}{p pos:Pos}{a b:Expr}{l:Env'->M (List W)}{CF:Addr}{raised:List Str}
variable {x n f:Str}{e b0:Expr}{es:List Expr}{s0:Stmt}{suite:List Stmt}{np hpos tpos epos:Pos}{fn:List W->M W}{g:Env'->M Fl}{k i m:Nat}{fA:Addr}{fd:FuncData}{ps:List Str}
end
end L2
set_option maxHeartbeats 1000000
namespace L2
open PySem
theorem eU {α β:Type}{f:M α}{g:α->M β}{h h':List Ob}{a:α}(e:f h=.ok a h'):bd f g h=g a h':=by unfold bd;rw[e]
@[simp] theorem bd_pr {α β:Type}(a:α)(g:α->M β):bd (pr a) g=g a:=rfl
@[simp] theorem bd_no {α β:Type}(g:α->M β):bd (no:M α) g=no:=rfl
theorem ap {α:Type}{p:Prop} [Decidable p] {m:M α}(hp:p):gd p m=m:=by funext h;unfold gd;rw[if_pos hp]
@[simp] theorem addW_int (i j:Int):addW (.int i) (.int j)=pr (.int (i+j)):=rfl
theorem rH {a b:Str}(h:a.length+b.length<=sizeLine):addW (.str a) (.str b)=pr (.str (a++b)):=by unfold addW;exact ap h
@[simp] theorem subW_int (i j:Int):subW (.int i) (.int j)=pr (.int (i - j)):=ap trivial
theorem dB {i j:Int}(h:CMulA i j):mulW (.int i) (.int j)=pr (.int (i * j)):=by unfold mulW;exact ap h
theorem qk {i j:Int}(h1: -(2 ^ 64)<i)(h2:i<2 ^ 64):CMulA i j:=.inl (.inl ⟨h1,h2⟩)
theorem iN {i j:Int}(h1: -(2 ^ 64)<j)(h2:j<2 ^ 64):CMulA i j:=.inl (.inr ⟨h1,h2⟩)
theorem jD {i j:Int}(h1:0<j)(h2:j<2 ^ 200):fdivW (.int i) (.int j)=pr (.int (i / j)):=ap ⟨h1,h2⟩
theorem dC {i j:Int}(h1:0<j):modW (.int i) (.int j)=pr (.int (i % j)):=ap h1
theorem eX {i j:Int}(h:CPow i j):powW (.int i) (.int j)=pr (.int (i ^ j.toNat)):=ap h
@[simp] theorem ltW_int (i j:Int):ltW (.int i) (.int j)=pr (.bl (decide (i<j))):=ap trivial
@[simp] theorem leW_int (i j:Int):leW (.int i) (.int j)=pr (.bl (decide (i<=j))):=ap trivial
@[simp] theorem gtW_int (i j:Int):gtW (.int i) (.int j)=pr (.bl (decide (j<i))):=ap trivial
@[simp] theorem geW_int (i j:Int):geW (.int i) (.int j)=pr (.bl (decide (j<=i))):=ap trivial
@[simp] theorem asB_bl (b:Bool):asB (.bl b)=pr b:=rfl
@[simp] theorem eqW_int (i j:Int):eqW (.int i) (.int j)=pr (.bl (decide (i=j))):=by
  funext h
  show Rs.ok (W.bl (decide (V.int i=V.int j))) h=Rs.ok (W.bl (decide (i=j))) h
  congr 2
  rw[decide_eq_decide]
  exact⟨V.int.inj,congrArg _⟩
@[simp] theorem eqW_str (i j:Str):eqW (.str i) (.str j)=pr (.bl (decide (i=j))):=by
  funext h
  show Rs.ok (W.bl (decide (V.str i=V.str j))) h=Rs.ok (W.bl (decide (i=j))) h
  congr 2
  rw[decide_eq_decide]
  exact⟨V.str.inj,congrArg _⟩
@[simp] theorem neW_int (i j:Int):neW (.int i) (.int j)=pr (.bl (!decide (i=j))):=by
  funext h
  show Rs.ok (W.bl (!decide (V.int i=V.int j))) h=Rs.ok (W.bl (!decide (i=j))) h
  congr 3
  rw[decide_eq_decide]
  exact⟨V.int.inj,congrArg _⟩
@[simp] theorem neW_str (i j:Str):neW (.str i) (.str j)=pr (.bl (!decide (i=j))):=by
  funext h
  show Rs.ok (W.bl (!decide (V.str i=V.str j))) h=Rs.ok (W.bl (!decide (i=j))) h
  congr 3
  rw[decide_eq_decide]
  exact⟨V.str.inj,congrArg _⟩
@[simp] theorem neW_bl (i j:Bool):neW (.bl i) (.bl j)=pr (.bl (!decide (i=j))):=by
  funext h
  show Rs.ok (W.bl (!decide (V.bl i=V.bl j))) h=Rs.ok (W.bl (!decide (i=j))) h
  congr 3
  rw[decide_eq_decide]
  exact⟨V.bl.inj,congrArg _⟩
theorem eZ {l:List W}{i:Int}{w:W}(h:atI l i=some w):ixW (.tl l) (.int i)=pr w:=by
 funext hh
 unfold ixW
 have:ixO (.tl l) (.int i) hh=some w:=h
 rw[this];rfl
theorem gr {l:List W}{i:Int}{w:W}(h:atI l i=some w):ixW (.tup l) (.int i)=pr w:=by
 funext hh
 unfold ixW
 have:ixO (.tup l) (.int i) hh=some w:=h
 rw[this];rfl
theorem sT {z:Str}{i:Int}{c:Nat}(hz:z.length<=sizeLine)(h:atI z.cps.toList i=some c):ixW (.str z) (.int i)=pr (.str ⟨#[c]⟩):=by
 funext hh
 unfold ixW
 have:ixO (.str z) (.int i) hh=some (.str ⟨#[c]⟩):=by
  show (if z.length<=sizeLine then (atI z.cps.toList i).map fun c=>W.str ⟨#[c]⟩ else none)=_
  rw[if_pos hz,h];rfl
 rw[this];rfl
@[simp] theorem slW_tl (l:List W)(lo hi:Option Int):slW (.tl l) lo hi=pr (.tl (cutW l lo hi)):=rfl
@[simp] theorem slW_cl (l:List W)(lo hi:Option Int):slW (.cl l) lo hi=pr (.tl (cutW l lo hi)):=rfl
@[simp] theorem lenW_tl (l:List W):lenW [.tl l]=pr (.int l.length):=rfl
@[simp] theorem lenW_tup (l:List W):lenW [.tup l]=pr (.int l.length):=rfl
theorem dl {α:Type}{xs:List α}{i:Int}{v:α}(h0:0<=i)(h:xs[i.toNat]?=some v):atI xs i=some v:=by
 have q:=tf h
 have e:((i.toNat:Nat):Int)=i:=by omega
 rw[e] at q;exact q
def finF:Fl->M W:=fun x=>match x with
 |.rt w=>pr w
 |.nx _=>pr .non
 |_=>no
theorem gdn0 {α:Type}(m:M α):gd (0<=sizeLine) m=m:=ap (by decide)
theorem gdn1 {α:Type}(m:M α):gd (0+1<=sizeLine) m=m:=ap (by decide)
theorem gdn2 {α:Type}(m:M α):gd (0+1+1<=sizeLine) m=m:=ap (by decide)
theorem gdn3 {α:Type}(m:M α):gd (0+1+1+1<=sizeLine) m=m:=ap (by decide)
theorem gdn4 {α:Type}(m:M α):gd (0+1+1+1+1<=sizeLine) m=m:=ap (by decide)
theorem gdn5 {α:Type}(m:M α):gd (0+1+1+1+1+1<=sizeLine) m=m:=ap (by decide)
theorem gdn6 {α:Type}(m:M α):gd (0+1+1+1+1+1+1<=sizeLine) m=m:=ap (by decide)
theorem gdn7 {α:Type}(m:M α):gd (0+1+1+1+1+1+1+1<=sizeLine) m=m:=ap (by decide)
theorem gdn8 {α:Type}(m:M α):gd (0+1+1+1+1+1+1+1+1<=sizeLine) m=m:=ap (by decide)
theorem gdn9 {α:Type}(m:M α):gd (0+1+1+1+1+1+1+1+1+1<=sizeLine) m=m:=ap (by decide)
theorem gdn10 {α:Type}(m:M α):gd (0+1+1+1+1+1+1+1+1+1+1<=sizeLine) m=m:=ap (by decide)
theorem gdn11 {α:Type}(m:M α):gd (0+1+1+1+1+1+1+1+1+1+1+1<=sizeLine) m=m:=ap (by decide)
theorem gdn12 {α:Type}(m:M α):gd (0+1+1+1+1+1+1+1+1+1+1+1+1<=sizeLine) m=m:=ap (by decide)
theorem gdn13 {α:Type}(m:M α):gd (0+1+1+1+1+1+1+1+1+1+1+1+1+1<=sizeLine) m=m:=ap (by decide)
theorem gdn14 {α:Type}(m:M α):gd (0+1+1+1+1+1+1+1+1+1+1+1+1+1+1<=sizeLine) m=m:=ap (by decide)
theorem gdn15 {α:Type}(m:M α):gd (0+1+1+1+1+1+1+1+1+1+1+1+1+1+1+1<=sizeLine) m=m:=ap (by decide)
theorem gdn16 {α:Type}(m:M α):gd (0+1+1+1+1+1+1+1+1+1+1+1+1+1+1+1+1<=sizeLine) m=m:=ap (by decide)
theorem gdn17 {α:Type}(m:M α):gd (0+1+1+1+1+1+1+1+1+1+1+1+1+1+1+1+1+1<=sizeLine) m=m:=ap (by decide)
theorem gdn18 {α:Type}(m:M α):gd (0+1+1+1+1+1+1+1+1+1+1+1+1+1+1+1+1+1+1<=sizeLine) m=m:=ap (by decide)
theorem gdn19 {α:Type}(m:M α):gd (0+1+1+1+1+1+1+1+1+1+1+1+1+1+1+1+1+1+1+1<=sizeLine) m=m:=ap (by decide)
theorem gdn20 {α:Type}(m:M α):gd (0+1+1+1+1+1+1+1+1+1+1+1+1+1+1+1+1+1+1+1+1<=sizeLine) m=m:=ap (by decide)
theorem gdn21 {α:Type}(m:M α):gd (0+1+1+1+1+1+1+1+1+1+1+1+1+1+1+1+1+1+1+1+1+1<=sizeLine) m=m:=ap (by decide)
theorem gdn22 {α:Type}(m:M α):gd (0+1+1+1+1+1+1+1+1+1+1+1+1+1+1+1+1+1+1+1+1+1+1<=sizeLine) m=m:=ap (by decide)
theorem gdn23 {α:Type}(m:M α):gd (0+1+1+1+1+1+1+1+1+1+1+1+1+1+1+1+1+1+1+1+1+1+1+1<=sizeLine) m=m:=ap (by decide)
theorem gdn24 {α:Type}(m:M α):gd (0+1+1+1+1+1+1+1+1+1+1+1+1+1+1+1+1+1+1+1+1+1+1+1+1<=sizeLine) m=m:=ap (by decide)
theorem de {α:Type}{m:M α}{inst:Decidable (true=true)}: @gd α (true=true) inst m=m:= @ap α (true=true) inst m rfl
theorem aJ {src:Env'->M Sr}{t:W->Env'->Option Env'}{f:Env'->M Bool}{e:Env'->M W}{n:Nat}{ρ:Env'}:mComp [] src t f e n ρ=bd (src ρ) fun s=>gd (s.l.length<=sizeLine) (compM s.G t f e n s.l ρ):=by unfold mComp;exact ap rfl
end L2
set_option maxHeartbeats 1000000
namespace L2
open PySem
theorem pZ {α:Type}{f:W->Option α}{g:α->W}(hf: ∀a,f (g a)=some a): ∀l:List α,optL f (l.map g)=some l
 |[]=>rfl
 |a::l=>by
  show (match f (g a),optL f (l.map g) with
   |some b,some r=>some (b::r)
   |_,_=>none)=_
  rw[hf,pZ hf l]
theorem cz {β:Type}{α:Type}{f:W->Option β}{g:α->W}{k:α->β}(hf: ∀a,f (g a)=some (k a)): ∀l:List α,optL f (l.map g)=some (l.map k)
 |[]=>rfl
 |a::l=>by
  show (match f (g a),optL f (l.map g) with
   |some b,some r=>some (b::r)
   |_,_=>none)=_
  rw[hf,cz hf l];rfl
theorem oQ {l m:List W}{ds es:List PyData}{h:List Ob}(h1:optL (dataH h 49) l=some ds)(h2:optL (dataH h 49) m=some es)(c1:PyData.canLayAll0 ds=true)(c2:PyData.canLayAll0 es=true):eqB (.tl l) (.tl m) h=some (PyData.eqvAll ds es):=by
 show (match (optL (dataH h 49) l).map PyData.list,(optL (dataH h 49) m).map PyData.list with
  |some d,some e=>if d.canLay0=true/\e.canLay0=true then some (PyData.eqv d e) else none
  |_,_=>none)=_
 rw[h1,h2]
 show (if (PyData.list ds).canLay0=true/\(PyData.list es).canLay0=true then some (PyData.eqv (.list ds) (.list es)) else none)=_
 rw[if_pos ⟨by rw[PyData.canLay0];exact c1,by rw[PyData.canLay0];exact c2⟩,PyData.eqv]
theorem ko {x y:W}{b:Bool}(h:∀h,eqB x y h=some b):eqW x y=pr (.bl b):=by funext hh;unfold eqW;rw[h];rfl
mutual
theorem lO: ∀d:PyData,d.canLay0=true->PyData.eqv d d=true
 |.none,_=>by rw[PyData.eqv]
 |.bool b,_=>by rw[PyData.eqv];simp
 |.int b,_=>by rw[PyData.eqv];simp
 |.str b,_=>by rw[PyData.eqv];simp
 |.list l,h=>by rw[PyData.eqv];exact dW l (by rw[PyData.canLay0] at h;exact h)
 |.tuple l,h=>by rw[PyData.eqv];exact dW l (by rw[PyData.canLay0] at h;exact h)
 |.dict l,h=>by rw[PyData.canLay0] at h;cases h
theorem dW: ∀l:List PyData,PyData.canLayAll0 l=true->PyData.eqvAll l l=true
 |[],_=>by rw[PyData.eqvAll]
 |d::l,h=>by
  rw[PyData.canLayAll0,Bool.and_eq_true] at h
  rw[PyData.eqvAll,lO d h.1,dW l h.2];rfl
end
theorem rn {α:Type}{k:α->PyData}: ∀ (l:List α),(∀a∈l,(k a).canLay0=true)->PyData.canLayAll0 (l.map k)=true
 |[],_=>by rw[List.map_nil,PyData.canLayAll0]
 |a::l,h=>by rw[List.map_cons,PyData.canLayAll0,h a List.mem_cons_self,rn l fun b hb=>h b (List.mem_cons_of_mem _ hb)];rfl
end L2
set_option maxHeartbeats 1000000
namespace L2
open PySem PySem.Spec PyProof.Rows
section
variable {X:Cx}{E:XK}{p pos:Pos}
def enumT (ws:List W):M Sr:=match ws with
 |[w]=>bd (srcT w) fun s=>pr ⟨numd 0 s.l,s.G⟩
 |_=>no
theorem qq {a:Expr}{elts:List Expr}{x1}{tpos:Pos}{fl:Env'->M (List W)}(hm:X.mg "enumerate"=none)(ha:JA X E [a] fl)(hg:Gl X "enumerate":=by rfl)(hs:starEach [a] X.env=[(false,eval a X.env)]:=by rfl):
  JI X E (.Tuple elts x1 tpos) (.Call (.Name "enumerate" p) [a] [] pos) (mSrcA fl enumT):=(pN hg hm ha.h hs).imp fun σ H Q h=>by
 obtain⟨o,ρ,rfl,R,S,h⟩:=h
 refine⟨o,ρ,rfl,R,S,Ps.bd h fun p x vx e1 R1 r1 h1=>?_⟩
 rcases x with _|⟨w,_|⟨_,_⟩⟩
 ·exact h1.elim
 ·have h1:Ps (cg X E) (fun p s J=>SrcOk X.K p J s) p (bd (srcT w) (fun s=>pr ⟨numd 0 s.l,s.G⟩) p.h) Q:=h1
  obtain⟨v,rfl,r⟩:=r1.one
  cases w with
  |tup l=>
   unfold Rv at r
   obtain⟨a,vs,rfl,s,r⟩:=r
   have h1:Ps (cg X E) (fun p s J=>SrcOk X.K p J s) p (pr ⟨numd 0 l,fun _=>True⟩ p.h) Q:=h1
   refine⟨a,rfl,⟨vs,s⟩,h1.pr R1 ⟨fun o X R g=>⟨vs,X.rdT R1 s,by rw[r.len];exact (cT _ _).symm⟩,fun o i w X R g e=>?_⟩⟩
   obtain⟨x,e1,rfl⟩:=dA _ _ _ _ e
   obtain⟨v,hv,rv⟩:=(r.mono R1 X).get e1
   have sq:=X.rdT R1 s
   refine⟨⟨vs,v,sq,hv⟩,fun y H' q=>?_⟩
   obtain⟨T,z,hT,rfl,hz,rfl⟩:=q
   have:z=v:=by have:=hz vs sq;rw[hv] at this;exact (Option.some.inj this).symm
   subst this
   refine⟨⟨o.mu,o.h,upd o.H T (.tup [.int i,z])⟩,rfl,rfl,Ex.new hT,R.new hT,Rv.newT R hT (Rvs.cons (rv_int.mpr (by simp)) (Rvs.cons rv Rvs.nil))⟩
  |_=>exact h1.elim
 ·exact h1.elim
variable {o e:Expr}{apos cpos:Pos}{fo:Env'->M W}{l:Env'->M (List W)}
end
end L2
set_option maxHeartbeats 1000000
namespace L2
open PySem
theorem aV {α β:Type}(a:α)(g:α->M β):bd (pr a) g=g a:=funext fun h=>eU (f:=pr a) (a:=a) (h:=h) (h':=h) rfl
def Ok {α:Type}(m:M α)(h:List Ob)(Q:α->List Ob->Prop):Prop:= ∃a h',m h=.ok a h'/\Q a h'
section
variable {α β:Type}{m:M α}{k:α->M β}{h h':List Ob}{a:α}
theorem Ok.imp {P Q:α->List Ob->Prop}(p:Ok m h P)(q:∀a h',P a h'->Q a h'):Ok m h Q:=let ⟨a,h',e,r⟩:=p;⟨a,h',e,q a h' r⟩
theorem bC {P:α->List Ob->Prop}{Q:β->List Ob->Prop}(p:Ok m h P)(q:∀a h',P a h'->Ok (k a) h' Q):Ok (bd m k) h Q:=by
 obtain⟨a,h',e,r⟩:=p
 obtain⟨b,h2,e2,r2⟩:=q a h' r
 exact⟨b,h2,(eU e).trans e2,r2⟩
theorem v9 {Q:α->List Ob->Prop}(e:m h=.ok a h')(q:Q a h'):Ok m h Q:=⟨a,h',e,q⟩
theorem bf {Q:β->List Ob->Prop}(e:m h=.ok a h')(q:Ok (k a) h' Q):Ok (bd m k) h Q:=by
 obtain⟨b,h2,e2,r2⟩:=q
 exact⟨b,h2,(eU e).trans e2,r2⟩
theorem av {Q:α->List Ob->Prop}(q:Q a h):Ok (pr a) h Q:=⟨a,h,rfl,q⟩
end
section
variable {β:Type}{h:List Ob}{Q:β->List Ob->Prop}{j:Nat}{l:List W}
theorem lp {i:Int}{w:W}{k:W->M β}(e:h[j]?=some (.lst l))(e2:atI l i=some w)(q:Ok (k w) h Q):Ok (bd (ixW (.loc j) (.int i)) k) h Q:=by
 refine bf (a:=w) (h':=h) ?_ q
 have d:dicOf (.loc j) h=none:=by unfold dicOf;simp only[e]
 have lo:lstOf (.loc j) h=.ok l h:=by unfold lstOf;simp only[e]
 have:ixO (.loc j) (.int i) h=some w:=by
  unfold ixO
  simp only[d,lo,e2]
 unfold ixW
 rw[this]
theorem tN {n:Int}{i:Nat}{v:W}{k:Unit->M β}(e:h[j]?=some (.lst l))(e2:ixN l.length n=some i)(q:Ok (k ()) (h.set j (.lst (l.set i v))) Q):Ok (bd (gz (.loc j) (.int n) v) k) h Q:=by
 refine bf (a:=()) (h':=h.set j (.lst (l.set i v))) ?_ q
 unfold gz
 simp only[e,e2]
theorem j3 {w:W}{k:W->M β}(e:h[j]?=some (.lst l))(z:l.length<sizeLine)(q:Ok (k .non) (h.set j (.lst (l++[w]))) Q):Ok (bd (cS (.loc j) [w]) k) h Q:=by
 refine bf (a:=.non) (h':=h.set j (.lst (l++[w]))) ?_ q
 unfold cS
 simp only[e,if_pos z]
theorem iK {k:W->M β}(e:h[j]?=some (.lst l))(q:Ok (k (.loc j)) h Q):Ok (bd (isL (.loc j)) k) h Q:=by
 refine bf (a:=.loc j) (h':=h) ?_ q
 unfold isL
 simp only[e]
theorem gI {k:W->M β}(q:Ok (k (.loc h.length)) (h++[.lst l]) Q):Ok (bd (newW l) k) h Q:=bf (a:=.loc h.length) (h':=h++[.lst l]) rfl q
theorem j0 {k:W->M β}(e:h[j]?=some (.lst l))(q:Ok (k (.tl l)) (h.set j .gone) Q):Ok (bd (iceW (.loc j)) k) h Q:=by
 refine bf (a:=.tl l) (h':=h.set j .gone) ?_ q
 unfold iceW
 simp only[e]
theorem uT {k:Sr->M β}(e:h[j]?=some (.lst l))(q:Ok (k ⟨l,fun h=>h[j]?=some (.lst l)⟩) h Q):Ok (bd (srcL (.loc j)) k) h Q:=by
 refine bf (a:=⟨l,fun h=>h[j]?=some (.lst l)⟩) (h':=h) ?_ q
 unfold srcL
 simp only[e]
noncomputable def Lw (h:List Ob)(x:W)(l:List W):Prop:=x=.tl l\/ ∃j,x=.loc j/\h[j]?=some (.lst l)
theorem Lw.of {x:W}(p:Lw h x l):lstOf x h=.ok l h:=by
 rcases p with rfl|⟨j,rfl,e⟩
 ·rfl
 ·unfold lstOf;simp only[e]
theorem Lw.len {x:W}{k:W->M β}(p:Lw h x l)(q:Ok (k (.int l.length)) h Q):Ok (bd (lenW [x]) k) h Q:=by
 refine bf (a:=.int l.length) (h':=h) ?_ q
 have e:=p.of
 rcases p with rfl|⟨j,rfl,_⟩
 ·rfl
 ·show bd (lstOf (.loc j)) (fun l=>pr (W.int l.length)) h=_
  rw[eU e];rfl
theorem Lw.ix {x w:W}{i:Int}{k:W->M β}(p:Lw h x l)(e2:atI l i=some w)(q:Ok (k w) h Q):Ok (bd (ixW x (.int i)) k) h Q:=by
 rcases p with rfl|⟨j,rfl,e⟩
 ·rw[eZ e2,bd_pr];exact q
 ·exact lp e e2 q
theorem nE {i:Int}{c:String}{b:Bool}(hc:c∈tys)(hb:isT "int" c=b):isiW [.int i,.ty c]=pr (.bl b):=by
 funext h
 subst hb
 show (if c∈tys then Rs.ok (W.bl (isT "int" c)) h else .bad)=_
 rw[if_pos hc];rfl
end
theorem iC {i:Int}(h0: -(2 ^ 62)<=i)(h1:i<2 ^ 62):rng1 [.int i]=pr ⟨intsW 0 i.toNat,fun _=>True⟩:=ap ⟨h0,h1⟩
theorem kR {i j:Int}(h0: -(2 ^ 62)<=i)(h1:i<2 ^ 62)(h2: -(2 ^ 62)<=j)(h3:j<2 ^ 62):rng2 [.int i,.int j]=pr ⟨intsW i (j - i).toNat,fun _=>True⟩:=ap ⟨h0,h1,h2,h3⟩
theorem mJ {G:List Ob->Prop}{t:W->Env'->Option Env'}{g:Env'->M Fl}(I:Nat->Env'->List Ob->Prop)(l:List W)(hG: ∀i ρ h,I i ρ h->G h)
  (hs: ∀i w ρ h,l[i]?=some w->I i ρ h-> ∃r,t w ρ=some r/\Ok (g r) h fun x h'=> ∃r',x=.nx r'/\I (i+1) r' h'):
  ∀ (m:List W) (n:Nat) (ρ:Env') (h:List Ob),l.drop n=m->n<=l.length->I n ρ h->Ok (forM G t g m ρ) h fun x h'=> ∃r',x=.nx r'/\I l.length r' h'
 |[],n,ρ,h,e,hn,i=>by
  have:l.length<=n:=List.drop_eq_nil_iff.mp e
  have hn:n=l.length:=by omega
  subst hn
  refine⟨.nx ρ,h,?_,ρ,rfl,i⟩
  unfold forM
  rw[eC (hG _ _ _ i)];rfl
 |w::m,n,ρ,h,e,hn,i=>by
  have hw:l[n]?=some w:=by
   have:=congrArg List.head? e
   rw[List.head?_drop,List.head?_cons] at this
   exact this
  have hl:n<l.length:=(List.getElem?_eq_some_iff.mp hw).1
  have em:l.drop (n+1)=m:=by rw[<-List.tail_drop,e];rfl
  obtain⟨r,e1,x,h',e2,r',rfl,i'⟩:=hs n w ρ h hw i
  obtain⟨y,h2,e3,q⟩:=mJ I l hG hs m (n+1) r' h' em hl i'
  refine⟨y,h2,?_,q⟩
  unfold forM
  rw[eC (hG _ _ _ i),e1]
  dsimp only
  rw[eU e2]
  exact e3
theorem dz {β:Type}{G:List Ob->Prop}{t:W->Env'->Option Env'}{g:Env'->M Fl}{l:List W}{ρ:Env'}{h:List Ob}{k:Fl->M β}{Q:β->List Ob->Prop}(I:Nat->Env'->List Ob->Prop)(h0:I 0 ρ h)(hG: ∀i ρ h,I i ρ h->G h)
  (hs: ∀i w ρ h,l[i]?=some w->I i ρ h-> ∃r,t w ρ=some r/\Ok (g r) h fun x h'=> ∃r',x=.nx r'/\I (i+1) r' h')(hd: ∀ρ h,I l.length ρ h->Ok (k (.nx ρ)) h Q):Ok (bd (forM G t g l ρ) k) h Q:=
 bC (mJ I l hG hs l 0 ρ h rfl (Nat.zero_le _) h0) fun x h' ⟨r',e,i⟩=>by subst e;exact hd r' h' i
theorem nQ {G:List Ob->Prop}{t:W->Env'->Option Env'}{f:Env'->M Bool}{g:Env'->M W}{c:Nat}{ρ:Env'}(I:Nat->List W->List Ob->Prop)(l:List W)(hf: ∀r,f r=pr true)(hG: ∀i a h,I i a h->G h)
  (hs: ∀i w a h,l[i]?=some w->I i a h-> ∃r,t w (List.replicate c none++ρ)=some r/\Ok (g r) h fun v h'=>I (i+1) (a++[v]) h'):
  ∀ (m:List W) (n:Nat) (a:List W) (h:List Ob),l.drop n=m->n<=l.length->I n a h->Ok (compM G t f g c m ρ) h fun r h'=>I l.length (a++r) h'
 |[],n,a,h,e,hn,i=>by
  have:l.length<=n:=List.drop_eq_nil_iff.mp e
  have hn:n=l.length:=by omega
  subst hn
  refine⟨[],h,?_,by show I l.length (a++[]) h;rw[List.append_nil];exact i⟩
  unfold compM
  rw[eC (hG _ _ _ i)];rfl
 |w::m,n,a,h,e,hn,i=>by
  have hw:l[n]?=some w:=by
   have:=congrArg List.head? e
   rw[List.head?_drop,List.head?_cons] at this
   exact this
  have hl:n<l.length:=(List.getElem?_eq_some_iff.mp hw).1
  have em:l.drop (n+1)=m:=by rw[<-List.tail_drop,e];rfl
  obtain⟨r,e1,v,h',e2,i'⟩:=hs n w a h hw i
  obtain⟨y,h2,e3,q⟩:=nQ I l hf hG hs m (n+1) (a++[v]) h' em hl i'
  refine⟨v::y,h2,?_,by show I l.length (a++v::y) h2;have q:I l.length (a++[v]++y) h2:=q;rw[List.append_assoc] at q;exact q⟩
  unfold compM
  rw[eC (hG _ _ _ i),e1]
  dsimp only
  rw[hf,bd_pr,if_pos rfl,eU e2,eU e3];rfl
theorem cC {β:Type}{G:List Ob->Prop}{t:W->Env'->Option Env'}{f:Env'->M Bool}{g:Env'->M W}{c:Nat}{ρ:Env'}{l:List W}{h:List Ob}{k:List W->M β}{Q:β->List Ob->Prop}(I:Nat->List W->List Ob->Prop)(h0:I 0 [] h)(hf: ∀r,f r=pr true)(hG: ∀i a h,I i a h->G h)
  (hs: ∀i w a h,l[i]?=some w->I i a h-> ∃r,t w (List.replicate c none++ρ)=some r/\Ok (g r) h fun v h'=>I (i+1) (a++[v]) h')(hd: ∀a h,I l.length a h->Ok (k a) h Q):Ok (bd (compM G t f g c l ρ) k) h Q:=
 bC (nQ I l hf hG hs l 0 [] h rfl (Nat.zero_le _) h0) fun r h' i=>hd r h' i
theorem du (r:Env'):mYes r=pr true:=rfl
structure Fr (j:Nat)(h h':List Ob):Prop where
 len:h'.length=h.length
 eq: ∀i,i≠j->h'[i]?=h[i]?
theorem Fr.trans {j:Nat}{a b c:List Ob}(x:Fr j a b)(y:Fr j b c):Fr j a c:=⟨y.len.trans x.len,fun i hi=>(y.eq i hi).trans (x.eq i hi)⟩
theorem Fr.set {j:Nat}{h:List Ob}{b:Ob}:Fr j h (h.set j b):=⟨List.length_set ..,fun i hi=>by rw[List.getElem?_set_ne (Ne.symm hi)]⟩
theorem gc {j:Nat}{h:List Ob}{a b:Ob}(e:h[j]?=some a):(h.set j b)[j]?=some b:=by
 rw[List.getElem?_set_self (List.getElem?_eq_some_iff.mp e).1]
theorem d9 {j:Nat}{h:List Ob}{a:Ob}(e:h[j]?=some a):j<h.length:=(List.getElem?_eq_some_iff.mp e).1
theorem nI {j:Nat}{h r:List Ob}{a:Ob}(e:h[j]?=some a):(h++r)[j]?=some a:=by
 rw[List.getElem?_append_left (d9 e)];exact e
theorem fE {h:List Ob}{a:Ob}:(h++[a])[h.length]?=some a:=by simp
theorem least {p:Nat->Prop}: ∀ {n:Nat},(∃r,r<n/\p r)-> ∃r,r<n/\p r/\ ∀j,j<r-> ¬p j
 |0,⟨_,h,_⟩=>absurd h (Nat.not_lt_zero _)
 |n+1,⟨r,h,q⟩=>by
  by_cases z: ∃r,r<n/\p r
  ·obtain⟨r,h1,h2,h3⟩:=least z
   exact⟨r,by omega,h2,h3⟩
  ·have:r=n:=by
    by_cases e:r<n
    ·exact absurd ⟨r,e,q⟩ z
    ·omega
   subst this
   exact⟨r,h,q,fun j hj hp=>z ⟨j,hj,hp⟩⟩
end L2
namespace L2
open PySem
theorem j1 {G:List Ob->Prop}{t:W->Env'->Option Env'}{g:Env'->M Fl}{l:List W}{ρ:Env'}{h:List Ob}{Q:Fl->List Ob->Prop}(I:Nat->Env'->List Ob->Prop)(h0:I 0 ρ h)(hG: ∀i ρ h,I i ρ h->G h)
  (hs: ∀i w ρ h,l[i]?=some w->I i ρ h-> ∃r,t w ρ=some r/\Ok (g r) h fun x h'=> ∃r',x=.nx r'/\I (i+1) r' h')(hd: ∀ρ h,I l.length ρ h->Q (.nx ρ) h):Ok (forM G t g l ρ) h Q:=
 (mJ I l hG hs l 0 ρ h rfl (Nat.zero_le _) h0).imp fun x h' ⟨r',e,i⟩=>by subst e;exact hd r' h' i
theorem qZ (l:List W):enumL [.tl l]=pr ⟨numd 0 l,fun _=>True⟩:=rfl
theorem oR (l:List W):enumT [.tup l]=pr ⟨numd 0 l,fun _=>True⟩:=rfl
theorem dE (l:List W):lstOf (.tl l)=pr l:=rfl
theorem ix0 (a:W)(l:List W):ixW (.tup (a::l)) (.int 0)=pr a:=gr (dl (by decide) rfl)
theorem ix1 (a b:W)(l:List W):ixW (.tup (a::b::l)) (.int 1)=pr b:=gr (dl (by decide) rfl)
theorem ix2 (a b c:W)(l:List W):ixW (.tup (a::b::c::l)) (.int 2)=pr c:=gr (dl (by decide) rfl)
theorem ix4 (a b c d e:W)(l:List W):ixW (.tup (a::b::c::d::e::l)) (.int 4)=pr e:=gr (dl (by decide) rfl)
theorem ix5 (a b c d e f:W)(l:List W):ixW (.tup (a::b::c::d::e::f::l)) (.int 5)=pr f:=gr (dl (by decide) rfl)
theorem sZ {α:Type}(f:α->W)(l:List α)(lo hi:Option Int):cutW (l.map f) lo hi=(cutW l lo hi).map f:=by
 unfold cutW
 rw[List.length_map,List.map_take,List.map_drop]
end L2
set_option maxHeartbeats 2000000
namespace L2
open PySem PySem.Spec PyProof.Rows
open Sem (wp)
open Builtin
noncomputable def ItAt (h:Heap)(T:String)(j l:Addr)(i:Nat):Prop:= ∃o,h.get? j=some o/\o.cls=.type T/\o.data=.fields #[.ref l,.int i 0]
noncomputable def SeqAt (h:Heap)(T:String)(l:Addr)(its:Array Value):Prop:=(T= "list_iterator"/\h.IsList l its)\/(T= "tuple_iterator"/\h.IsTuple l its)
theorem SeqAt.keep {h h':Heap}{T:String}{l:Addr}{its:Array Value}(x:SeqAt h T l its)(k:∀o,h.get? l=some o->h'.get? l=some o):SeqAt h' T l its:=
 x.imp (fun⟨e,o,a,b⟩=>⟨e,o,k o a,b⟩) fun⟨e,o,a,b⟩=>⟨e,o,k o a,b⟩
theorem ItAt.keep {h h':Heap}{T:String}{j l:Addr}{i:Nat}(x:ItAt h T j l i)(k:∀o,h.get? j=some o->h'.get? j=some o):ItAt h' T j l i:=let ⟨o,a,b⟩:=x;⟨o,k o a,b⟩
theorem d0 {prog:Program}{w:World}{A:Around}(hh:A.handled=none)(T:String)(j l:Addr)(hne:l≠j)(its:Array Value):Draws prog w A j [j,l] its.size (fun i v=>its[i]?=some v) (fun i h=>ItAt h T j l i/\SeqAt h T l its) where
 live:=fun _ _ st=>let ⟨o,q,_⟩:=st.1;⟨o,q⟩
 frame:=fun _ _ _ st k=>⟨st.1.keep fun o q=>k j (by simp) o q,st.2.keep fun o q=>k l (by simp) o q⟩
 item:=fun i s Q E hi st k=>by
  obtain⟨a,⟨rfl,b⟩|⟨rfl,b⟩⟩:=st
  ·exact (Draws.list (prog:=prog) (w:=w) hh j l hne its).item i s Q E hi ⟨a,b⟩ fun x h' tk p st sb=>k x h' tk p ⟨st.1,.inl ⟨rfl,st.2⟩⟩ sb
  ·exact (fJ (prog:=prog) (w:=w) hh j l hne its).item i s Q E hi ⟨a,b⟩ fun x h' tk p st sb=>k x h' tk p ⟨st.1,.inr ⟨rfl,st.2⟩⟩ sb
 done:=fun s Q E st k=>by
  obtain⟨a,⟨rfl,b⟩|⟨rfl,b⟩⟩:=st
  ·exact (Draws.list (prog:=prog) (w:=w) hh j l hne its).done s Q E ⟨a,b⟩ k
  ·exact (fJ (prog:=prog) (w:=w) hh j l hne its).done s Q E ⟨a,b⟩ k
section
variable {prog:Program}{w:World}{A:Around}{E:Value->Shared->Prop}{s:Shared}
theorem lN {l:Addr}{T:String}{its:Array Value}{Q:Value->Shared->Prop}(hl:SeqAt s.heap T l its)(k:Q (.ref s.heap.objs.size) {s with heap:=s.heap.push {cls:=.type T,data:=.fields #[.ref l,.int 0 0]}}):wpAny (model prog w) A (pyIter (.ref l)) Q E s:=by
 obtain⟨rfl,hl⟩|⟨rfl,hl⟩:=hl
 ·exact wpAny_pyIter_list hl k
 ·exact wpAny_pyIter_tuple hl k
structure ZA (z TI TO i1 i2 l1 l2:Addr):Prop where
 a1:TI≠z
 a2:TO≠z
 a3:i1≠z
 a4:i2≠z
 a5:TI≠TO
 a6:TI≠i1
 a7:TI≠i2
 a8:TO≠i1
 a9:TO≠i2
 b1:i1≠i2
 b2:l1≠z
 b3:l1≠TO
 b4:l1≠i1
 b5:l1≠i2
 b6:l2≠z
 b7:l2≠TO
 b8:l2≠i1
 b9:l2≠i2
structure ZS (h:Heap)(z TI TO i1 i2 l1 l2:Addr)(T1 T2:String)(xs ys:Array Value)(n:Nat)(f0:Value):Prop where
 z:IsZip h z TI TO f0
 ti:IsPair h TI (.ref i1) (.ref i2)
 to: ∃a b,IsPair h TO a b
 u1:ItAt h T1 i1 l1 n
 u2:ItAt h T2 i2 l2 n
 s1:SeqAt h T1 l1 xs
 s2:SeqAt h T2 l2 ys
theorem o4 {z TI TO i1 i2 l1 l2:Addr}{T1 T2:String}{n:Nat}{xs ys:Array Value}{x y:Value}{Q:Value->Shared->Prop}(hh:A.handled=none)(D:ZA z TI TO i1 i2 l1 l2)(Z:ZS s.heap z TI TO i1 i2 l1 l2 T1 T2 xs ys n .none)(hx:xs[n]?=some x)(hy:ys[n]?=some y)
  (k:∀h' tk,ZS h' z TI TO i1 i2 l1 l2 T1 T2 xs ys (n+1) (rawInt s.heap.objs.size)->IsPair h' s.heap.objs.size x y->h'.objs.size=s.heap.objs.size+1->(∀c o,c≠z->c≠TO->c≠i1->c≠i2->s.heap.get? c=some o->h'.get? c=some o)->Q (.ref s.heap.objs.size) {s with heap:=h',toks:=tk}):
  wpAny (model prog w) A (Builtin.«zip.__next__» ⟨[.ref z],[]⟩) (fun fin s'=> ∃v,fin=.done (.ret v)/\Q v s') E s:=by
 obtain⟨hz,hti,⟨a,b,hto⟩,u1,u2,s1,s2⟩:=Z
 have nx:n<xs.size:=(Array.getElem?_eq_some_iff.mp hx).1
 have ny:n<ys.size:=(Array.getElem?_eq_some_iff.mp hy).1
 show wpAny _ _ (field (.ref z) 2>>=_) _ _ s;refine wpAny_bind (wpAny_field hz rfl (x:=.bool false) rfl ?_)
 show wpAny _ _ (field (.ref z) 3>>=_) _ _ s;refine wpAny_bind (wpAny_field hz rfl (x:=.ref TI) rfl (wpAny_bind (wpAny_seqItems hti rfl ?_)))
 show wpAny _ _ (SmallTypes.ownedTupleIsFree (.ref z)>>=_) _ _ s
 refine wpAny_bind ?_;unfold SmallTypes.ownedTupleIsFree
 refine wpAny_bind (wpAny_field hz rfl (x:=.none) rfl (wpAny_pure ?_));simp only[if_true]
 refine wpAny_bind (wpAny_rule (wpAny_bind (wpAny_field hz rfl (x:=.ref TO) rfl (wpAny_bind (wpAny_setField_rec hz (by simp) fun h1 z1 e1=>?_)))))
 replace z1:IsZip h1 z TI TO .ellipsis:=z1
 refine wpAny_bind ?_;simp only[List.zipIdx_cons,List.zipIdx_nil,List.forIn_cons,List.forIn_nil]
 refine wpAny_bind (wpAny_bind (wpAny_onRaise ?_));show wpAny _ _ (SmallTypes.nextOf (.ref i1)>>=_) _ _ _
 refine wpAny_bind ((d0 (prog:=prog) (w:=w) hh T1 i1 l1 D.b4 xs).item n _ _ _ nx ⟨u1.keep fun o q=>e1.extBut _ _ D.a3 q,s1.keep fun o q=>e1.extBut _ _ D.b2 q⟩ fun x' h2 tk2 px st2 e2=>wpAny_pure ?_)
 have:x'=x:=Option.some.inj (px.symm.trans hx)
 subst this
 have to2:IsPair h2 TO a b:=e2.extBut _ _ D.a8 (e1.extBut _ _ D.a2 hto)
 refine wpAny_bind (wpAny_seqItems to2 rfl (wpAny_bind (wpAny_updateSeq_pair to2 fun h3 to3 e3=>?_)))
 replace to3:IsPair h3 TO x' b:=to3
 refine wpAny_bind (wpAny_letGo (wpAny_pure (wpAny_bind (wpAny_bind (wpAny_onRaise ?_)))));show wpAny _ _ (SmallTypes.nextOf (.ref i2)>>=_) _ _ _
 refine wpAny_bind ((d0 (prog:=prog) (w:=w) hh T2 i2 l2 D.b9 ys).item n _ _ _ ny ⟨u2.keep fun o q=>e3.extBut _ _ (Ne.symm D.a9) (e2.extBut _ _ (Ne.symm D.b1) (e1.extBut _ _ D.a4 q)),s2.keep fun o q=>e3.extBut _ _ D.b7 (e2.extBut _ _ D.b8 (e1.extBut _ _ D.b6 q))⟩ fun y' h4 tk4 py st4 e4=>wpAny_pure ?_)
 have:y'=y:=Option.some.inj (py.symm.trans hy)
 subst this
 have to4:IsPair h4 TO x' b:=e4.extBut _ _ D.a9 to3
 refine wpAny_bind (wpAny_seqItems to4 rfl (wpAny_bind (wpAny_updateSeq_pair to4 fun h5 to5 e5=>?_)))
 replace to5:IsPair h5 TO x' y':=to5
 refine wpAny_bind (wpAny_letGo (wpAny_pure (wpAny_pure ?_)));refine wpAny_bind (wpAny_seqItems to5 rfl (wpAny_bind (wpAny_newTuple ?_)))
 have zs:h5.objs.size=s.heap.objs.size:=by rw[e5.1,e4.1,e3.1,e2.1,e1.1]
 have z5:IsZip h5 z TI TO .ellipsis:=e5.extBut _ _ (Ne.symm D.a2) (e4.extBut _ _ (Ne.symm D.a4) (e3.extBut _ _ (Ne.symm D.a2) (e2.extBut _ _ (Ne.symm D.a3) z1)))
 have k5: ∀c o,c≠z->c≠TO->c≠i1->c≠i2->s.heap.get? c=some o->h5.get? c=some o:=fun c o c1 c2 c3 c4 e=>e5.extBut _ _ c2 (e4.extBut _ _ c4 (e3.extBut _ _ c2 (e2.extBut _ _ c3 (e1.extBut _ _ c1 e))))
 have zl:z<h5.objs.size:=Heap.lt_size z5
 show wpAny _ _ (SmallTypes.ownedTupleHandOut (.ref z) (.ref h5.objs.size)>>=_) _ _ _
 refine wpAny_bind ?_;unfold SmallTypes.ownedTupleHandOut
 have z6:IsZip (h5.push {cls:=.type "tuple",data:=.seq #[x',y']}) z TI TO .ellipsis:=Heap.get?_push_of_some _ z5
 refine wpAny_bind (wpAny_setField_rec z6 (by simp) fun h7 z7 e7=>?_)
 replace z7:IsZip h7 z TI TO (rawInt h5.objs.size):=z7
 refine wpAny_setField_rec z7 (by simp) fun h8 z8 e8=>?_
 replace z8:IsZip h8 z TI TO (rawInt h5.objs.size):=z8
 have up: ∀c o,c≠z->h5.get? c=some o->h8.get? c=some o:=fun c o c1 e=>e8.extBut _ _ c1 (e7.extBut _ _ c1 (Heap.get?_push_of_some _ e))
 have pr8:IsPair h8 h5.objs.size x' y':=e8.extBut _ _ (Nat.ne_of_gt zl) (e7.extBut _ _ (Nat.ne_of_gt zl) (Heap.get?_push_size _ rfl))
 have sz8:h8.objs.size=h5.objs.size+1:=by rw[e8.1,e7.1,Heap.size_push]
 rw[zs] at z8 pr8 sz8
 refine wpAny_pure ⟨_,rfl,?_⟩
 show Q (.ref h5.objs.size) _
 rw[zs]
 refine k h8 _ ⟨z8,up _ _ D.a1 (k5 _ _ D.a1 D.a5 D.a6 D.a7 hti),⟨_,_,up _ _ D.a2 to5⟩,?_,?_,s1.keep fun o q=>up _ _ D.b2 (k5 _ _ D.b2 D.b3 D.b4 D.b5 q),s2.keep fun o q=>up _ _ D.b6 (k5 _ _ D.b6 D.b7 D.b8 D.b9 q)⟩ pr8 sz8 fun c o c1 c2 c3 c4 e=>up c o c1 (k5 c o c1 c2 c3 c4 e)
 ·exact st2.1.keep fun o q=>up _ _ D.a3 (e5.extBut _ _ (Ne.symm D.a8) (e4.extBut _ _ D.b1 (e3.extBut _ _ (Ne.symm D.a8) q)))
 ·exact st4.1.keep fun o q=>up _ _ D.a4 (e5.extBut _ _ (Ne.symm D.a9) q)
theorem rK {z TI TO i1 i2 l1 l2:Addr}{T1 T2:String}{n:Nat}{xs ys:Array Value}{Q:Fin->Shared->Prop}(hh:A.handled=none)(D:ZA z TI TO i1 i2 l1 l2)(Z:ZS s.heap z TI TO i1 i2 l1 l2 T1 T2 xs ys n .none)(he:(n=xs.size/\n<=ys.size)\/(n<xs.size/\n=ys.size))
  (k:∀h' tk e,(∀c o,c≠z->c≠TO->c≠i1->c≠i2->s.heap.get? c=some o->h'.get? c=some o)->(∃o,h'.get? e=some o/\o.cls=.type "StopIteration")->E (.ref e) {s with heap:=h',toks:=tk}):
  wpAny (model prog w) A (Builtin.«zip.__next__» ⟨[.ref z],[]⟩) Q E s:=by
 obtain⟨hz,hti,⟨a,b,hto⟩,u1,u2,s1,s2⟩:=Z
 show wpAny _ _ (field (.ref z) 2>>=_) _ _ s;refine wpAny_bind (wpAny_field hz rfl (x:=.bool false) rfl ?_)
 show wpAny _ _ (field (.ref z) 3>>=_) _ _ s;refine wpAny_bind (wpAny_field hz rfl (x:=.ref TI) rfl (wpAny_bind (wpAny_seqItems hti rfl ?_)))
 show wpAny _ _ (SmallTypes.ownedTupleIsFree (.ref z)>>=_) _ _ s
 refine wpAny_bind ?_;unfold SmallTypes.ownedTupleIsFree
 refine wpAny_bind (wpAny_field hz rfl (x:=.none) rfl (wpAny_pure ?_));simp only[if_true]
 refine wpAny_bind (wpAny_rule (wpAny_bind (wpAny_field hz rfl (x:=.ref TO) rfl (wpAny_bind (wpAny_setField_rec hz (by simp) fun h1 z1 e1=>?_)))))
 replace z1:IsZip h1 z TI TO .ellipsis:=z1
 refine wpAny_bind ?_;simp only[List.zipIdx_cons,List.zipIdx_nil,List.forIn_cons,List.forIn_nil]
 refine wpAny_bind (wpAny_bind (wpAny_onRaise ?_));show wpAny _ _ (SmallTypes.nextOf (.ref i1)>>=_) _ _ _
 have st1:ItAt h1 T1 i1 l1 n/\SeqAt h1 T1 l1 xs:=⟨u1.keep fun o q=>e1.extBut _ _ D.a3 q,s1.keep fun o q=>e1.extBut _ _ D.b2 q⟩
 rcases he with⟨rfl,_⟩|⟨nx,hy⟩
 ·refine wpAny_bind ((d0 (prog:=prog) (w:=w) hh T1 i1 l1 D.b4 xs).done _ _ _ st1 fun h2 e e2 he=>?_)
  obtain⟨oe,g1,g2⟩:=he
  have z2:IsZip h2 z TI TO .ellipsis:=e2 _ _ (Ne.symm D.a3) z1
  have ez:e≠z:=fun q=>by subst q;rw[z2] at g1;cases g1;simp at g2
  exact wpAny_setField_rec z2 (by simp) fun h3 _ e3=>k h3 _ e (fun c o c1 _ c3 _ q=>e3.extBut _ _ c1 (e2 _ _ c3 (e1.extBut _ _ c1 q))) ⟨oe,e3.extBut _ _ ez g1,g2⟩
 ·refine wpAny_bind ((d0 (prog:=prog) (w:=w) hh T1 i1 l1 D.b4 xs).item n _ _ _ nx st1 fun x' h2 tk2 px st2 e2=>wpAny_pure ?_)
  have to2:IsPair h2 TO a b:=e2.extBut _ _ D.a8 (e1.extBut _ _ D.a2 hto)
  refine wpAny_bind (wpAny_seqItems to2 rfl (wpAny_bind (wpAny_updateSeq_pair to2 fun h3 to3 e3=>?_)))
  refine wpAny_bind (wpAny_letGo (wpAny_pure (wpAny_bind (wpAny_bind (wpAny_onRaise ?_)))));show wpAny _ _ (SmallTypes.nextOf (.ref i2)>>=_) _ _ _
  subst hy
  refine wpAny_bind ((d0 (prog:=prog) (w:=w) hh T2 i2 l2 D.b9 ys).done _ _ _ ⟨u2.keep fun o q=>e3.extBut _ _ (Ne.symm D.a9) (e2.extBut _ _ (Ne.symm D.b1) (e1.extBut _ _ D.a4 q)),s2.keep fun o q=>e3.extBut _ _ D.b7 (e2.extBut _ _ D.b8 (e1.extBut _ _ D.b6 q))⟩ fun h4 e e4 he=>?_)
  obtain⟨oe,g1,g2⟩:=he
  have z4:IsZip h4 z TI TO .ellipsis:=e4 _ _ (Ne.symm D.a4) (e3.extBut _ _ (Ne.symm D.a2) (e2.extBut _ _ (Ne.symm D.a3) z1))
  have ez:e≠z:=fun q=>by subst q;rw[z4] at g1;cases g1;simp at g2
  exact wpAny_setField_rec z4 (by simp) fun h5 _ e5=>k h5 _ e (fun c o c1 c2 c3 c4 q=>e5.extBut _ _ c1 (e4 _ _ c4 (e3.extBut _ _ c2 (e2.extBut _ _ c3 (e1.extBut _ _ c1 q))))) ⟨oe,e5.extBut _ _ ez g1,g2⟩
theorem qg {z TI TO i1 i2 l1 l2:Addr}{T1 T2:String}{n:Nat}{xs ys:Array Value}{x y:Value}{Q:Option Value->Shared->Prop}(hh:A.in1.handled=none)(D:ZA z TI TO i1 i2 l1 l2)(Z:ZS s.heap z TI TO i1 i2 l1 l2 T1 T2 xs ys n .none)(hx:xs[n]?=some x)(hy:ys[n]?=some y)
  (k:∀h' tk,ZS h' z TI TO i1 i2 l1 l2 T1 T2 xs ys (n+1) (rawInt s.heap.objs.size)->IsPair h' s.heap.objs.size x y->h'.objs.size=s.heap.objs.size+1->(∀c o,c≠z->c≠TO->c≠i1->c≠i2->s.heap.get? c=some o->h'.get? c=some o)->Q (some (.ref s.heap.objs.size)) {s with heap:=h',toks:=tk}):
  wpAny (model prog w) A (pyNext (.ref z)) Q E s:=by
 have hT:s.TypeIs (.ref z) "zip":=⟨_,Z.z,rfl⟩
 unfold pyNext
 exact wpAny_bind (wpAny_attempt (wpAny_callSpecial?_slot (name:=Str.ofString "__next__") hT F.slot_zip_next (wpAny_call_entry F.slot_zip_next hT F.entry_zip_next (o4 hh D Z hx hy fun h' tk a1 a2 a3 a4=>wpAny_pure (k h' tk a1 a2 a3 a4)) (F.args_zip_next_1 _))))
theorem sW {z TI TO i1 i2 l1 l2:Addr}{T1 T2:String}{n:Nat}{xs ys:Array Value}{Q:Option Value->Shared->Prop}(hh:A.in1.handled=none)(D:ZA z TI TO i1 i2 l1 l2)(Z:ZS s.heap z TI TO i1 i2 l1 l2 T1 T2 xs ys n .none)(he:(n=xs.size/\n<=ys.size)\/(n<xs.size/\n=ys.size))
  (k:∀h' tk,(∀c o,c≠z->c≠TO->c≠i1->c≠i2->s.heap.get? c=some o->h'.get? c=some o)->Q none {s with heap:=h',toks:=tk}):wpAny (model prog w) A (pyNext (.ref z)) Q E s:=by
 have hT:s.TypeIs (.ref z) "zip":=⟨_,Z.z,rfl⟩
 unfold pyNext
 refine wpAny_bind (wpAny_attempt (wpAny_callSpecial?_slot (name:=Str.ofString "__next__") hT F.slot_zip_next (wpAny_call_entry F.slot_zip_next hT F.entry_zip_next (rK hh D Z he fun h' tk e hk ⟨o,g1,g2⟩=>?_) (F.args_zip_next_1 _))))
 exact wpAny_bind (wpAny_isInstance (T:= "StopIteration") (b:=true) ⟨o,g1,g2⟩ isSubtype_stop (wpAny_pure (k _ _ hk)))
end
noncomputable abbrev zA (h:Heap)(T:String)(l:Addr):Heap:=h.push {cls:=.type T,data:=.fields #[.ref l,.int 0 0]}
theorem mz (l1 l2:Addr)(T1 T2:String)(xs ys:Array Value):
  Meets (Builtin.«zip.__new__» ⟨[.type "zip",.ref l1,.ref l2],[]⟩) (fun _ R s=>SeqAt s.heap T1 l1 xs/\SeqAt s.heap T2 l2 ys/\
   R (.ok (.ret (.ref ((((zA (zA s.heap T1 l1) T2 l2).push {cls:=.type "tuple",data:=.seq #[.ref s.heap.objs.size,.ref (zA s.heap T1 l1).objs.size]}).push {cls:=.type "tuple",data:=.seq #[.none,.none]}).objs.size))))
     {s with heap:=(((zA (zA s.heap T1 l1) T2 l2).push {cls:=.type "tuple",data:=.seq #[.ref s.heap.objs.size,.ref (zA s.heap T1 l1).objs.size]}).push {cls:=.type "tuple",data:=.seq #[.none,.none]}).push {cls:=.type "zip",data:=.fields #[.none,.bool false,.bool false,.ref (zA (zA s.heap T1 l1) T2 l2).objs.size,.ref ((zA (zA s.heap T1 l1) T2 l2).push {cls:=.type "tuple",data:=.seq #[.ref s.heap.objs.size,.ref (zA s.heap T1 l1).objs.size]}).objs.size]}}):=
 .of_wp fun prog w A R s h=>by
  obtain⟨hp,g,d,tk,os⟩:=s;obtain⟨q1,q2,h⟩:=h
  have hsub:=sub_zip
  have r1:SeqAt (Shared.heap ⟨hp,g,d,tk,os⟩) T1 l1 xs:=q1
  have r2:SeqAt (Shared.heap ⟨hp.push {cls:=.type T1,data:=.fields #[.ref l1,.int 0 0]},g,d,tk,os⟩) T2 l2 ys:=q2.keep fun o e=>Heap.get?_push_of_some _ e
  wp_walk using lN r1,lN r2
  exact⟨_,rfl,h⟩
section
variable {prog:Program}{w:World}{A:Around}{E:Value->Shared->Prop}{s:Shared}
theorem oW {l1 l2:Addr}{T1 T2:String}{xs ys:Array Value}{Q:Value->Shared->Prop}(q1:SeqAt s.heap T1 l1 xs)(q2:SeqAt s.heap T2 l2 ys)
  (k:∀h',ZS h' (s.heap.objs.size+4) (s.heap.objs.size+2) (s.heap.objs.size+3) s.heap.objs.size (s.heap.objs.size+1) l1 l2 T1 T2 xs ys 0 .none->h'.objs.size=s.heap.objs.size+5->(∀c o,s.heap.get? c=some o->h'.get? c=some o)->Q (.ref (s.heap.objs.size+4)) {s with heap:=h'}):
  wpAny (model prog w) A (call (.type "zip") [.ref l1,.ref l2]) Q E s:=by
 refine callType_new F.called_zip (by decide) (F.typeCall_zip_2 _ _) (F.newCall_zip_2 _ _) (fun obj=>F.args_object_init_3 obj _ _) F.entry_zip_new (mz l1 l2 T1 T2 xs ys) ⟨q1,q2,?_⟩
 have y1:(zA s.heap T1 l1).objs.size=s.heap.objs.size+1:=Heap.size_push ..
 have y2:(zA (zA s.heap T1 l1) T2 l2).objs.size=s.heap.objs.size+2:=by rw[Heap.size_push,y1]
 generalize e2:zA (zA s.heap T1 l1) T2 l2=H2 at *
 have y3:(H2.push {cls:=.type "tuple",data:=.seq #[.ref s.heap.objs.size,.ref (zA s.heap T1 l1).objs.size]}).objs.size=s.heap.objs.size+3:=by rw[Heap.size_push,y2]
 have g3:(H2.push {cls:=.type "tuple",data:=.seq #[.ref s.heap.objs.size,.ref (zA s.heap T1 l1).objs.size]}).get? H2.objs.size=some _:=Heap.get?_push_size _ rfl
 have up3: ∀c o,H2.get? c=some o->(H2.push {cls:=.type "tuple",data:=.seq #[.ref s.heap.objs.size,.ref (zA s.heap T1 l1).objs.size]}).get? c=some o:=fun c o e=>Heap.get?_push_of_some _ e
 generalize H2.push {cls:=.type "tuple",data:=.seq #[.ref s.heap.objs.size,.ref (zA s.heap T1 l1).objs.size]}=H3 at *
 have y4:(H3.push {cls:=.type "tuple",data:=.seq #[.none,.none]}).objs.size=s.heap.objs.size+4:=by rw[Heap.size_push,y3]
 have g4:(H3.push {cls:=.type "tuple",data:=.seq #[.none,.none]}).get? H3.objs.size=some _:=Heap.get?_push_size _ rfl
 have up4: ∀c o,H3.get? c=some o->(H3.push {cls:=.type "tuple",data:=.seq #[.none,.none]}).get? c=some o:=fun c o e=>Heap.get?_push_of_some _ e
 generalize H3.push {cls:=.type "tuple",data:=.seq #[.none,.none]}=H4 at *
 have y5:(H4.push {cls:=.type "zip",data:=.fields #[.none,.bool false,.bool false,.ref H2.objs.size,.ref H3.objs.size]}).objs.size=s.heap.objs.size+5:=by rw[Heap.size_push,y4]
 have g5:(H4.push {cls:=.type "zip",data:=.fields #[.none,.bool false,.bool false,.ref H2.objs.size,.ref H3.objs.size]}).get? H4.objs.size=some _:=Heap.get?_push_size _ rfl
 have up5: ∀c o,H4.get? c=some o->(H4.push {cls:=.type "zip",data:=.fields #[.none,.bool false,.bool false,.ref H2.objs.size,.ref H3.objs.size]}).get? c=some o:=fun c o e=>Heap.get?_push_of_some _ e
 generalize H4.push {cls:=.type "zip",data:=.fields #[.none,.bool false,.bool false,.ref H2.objs.size,.ref H3.objs.size]}=H5 at *
 have u2:H2.get? (s.heap.objs.size+1)=some {cls:=.type T2,data:=.fields #[.ref l2,.int 0 0]}:=by rw[<-e2,<-y1];exact Heap.get?_push_size _ rfl
 have u1:H2.get? s.heap.objs.size=some {cls:=.type T1,data:=.fields #[.ref l1,.int 0 0]}:=by rw[<-e2];exact Heap.get?_push_of_some _ (Heap.get?_push_size _ rfl)
 have kk: ∀c o,s.heap.get? c=some o->H2.get? c=some o:=fun c o e=>by rw[<-e2];exact Heap.get?_push_of_some _ (Heap.get?_push_of_some _ e)
 have up: ∀c o,H2.get? c=some o->H5.get? c=some o:=fun c o e=>up5 c o (up4 c o (up3 c o e))
 show _/\_
 rw[y4] at g5 ⊢
 rw[y2,y3] at g5
 rw[y2,y1] at g3
 rw[y3] at g4
 exact⟨⟨_,g5,rfl⟩,k _ ⟨g5,up5 _ _ (up4 _ _ g3),⟨_,_,up5 _ _ g4⟩,⟨_,up _ _ u1,rfl,rfl⟩,⟨_,up _ _ u2,rfl,rfl⟩,q1.keep fun o e=>up _ _ (kk _ _ e),q2.keep fun o e=>up _ _ (kk _ _ e)⟩ y5 fun c o e=>up c o (kk c o e)⟩
end
end L2
set_option maxHeartbeats 2000000
namespace L2
open PySem PySem.Spec PyProof.Rows
def SqK (k:Bool)(K:PySem.W.Frag)(H:Hp)(a:Addr)(xs:List V):Prop:=match k with
 |true=>SqT K H a xs
 |false=>SqL K H a xs
noncomputable def tyK (k:Bool):String:=match k with
 |true=> "tuple_iterator"
 |false=> "list_iterator"
section
variable {X:Cx}{pins:List (Addr×Obj)}{σ:St}{H:Hp}{s:Shared}{a:Addr}{xs ys:List V}{k:Bool}
theorem Inv.seqK (I:Inv X pins σ H s)(h:SqK k X.K H a xs): ∃its:List Value,Vals xs its/\SeqAt s.heap (tyK k) a its.toArray:=by
 cases k with
 |false=>
  obtain⟨its,rv,p,_⟩:=I.list h
  exact⟨its,rv,.inl ⟨rfl,p.isList⟩⟩
 |true=>
  obtain⟨its,rv,p,_⟩:=I.tuple h
  exact⟨its,rv,.inr ⟨rfl,tupOf p⟩⟩
theorem Inv.seqK_inj (I:Inv X pins σ H s)(h:SqK k X.K H a xs)(g:SqK k X.K H a ys):xs=ys:=by
 cases k with
 |false=>exact I.list_inj h g
 |true=>exact I.tuple_inj h g
end
def Itz (j k:Bool)(K:PySem.W.Frag)(a b:Addr):It:=
 ⟨fun i H=> ∃xs ys x y,SqK j K H a xs/\SqK k K H b ys/\xs[i]?=some x/\ys[i]?=some y,fun i H v H'=> ∃T x y,H T=none/\v=.ref T/\(∀xs ys,SqK j K H a xs->SqK k K H b ys->xs[i]?=some x/\ys[i]?=some y)/\H'=upd H T (.tup [x,y]),fun i H=> ∃xs ys,SqK j K H a xs/\SqK k K H b ys/\min xs.length ys.length=i⟩
structure ZO (h:Heap)(z TI TO i1 i2 a b:Addr)(T1 T2:String)(n:Nat)(f0:Value):Prop where
 z:IsZip h z TI TO f0
 ti:IsPair h TI (.ref i1) (.ref i2)
 to: ∃u v,IsPair h TO u v
 u1:ItAt h T1 i1 a n
 u2:ItAt h T2 i2 b n
theorem ZO.keep {h h':Heap}{z TI TO i1 i2 a b:Addr}{T1 T2:String}{n:Nat}{f0:Value}(Z:ZO h z TI TO i1 i2 a b T1 T2 n f0)(k:∀c∈[z,TI,TO,i1,i2],∀o,h.get? c=some o->h'.get? c=some o):ZO h' z TI TO i1 i2 a b T1 T2 n f0:=
 ⟨k z (by simp) _ Z.z,k TI (by simp) _ Z.ti,let ⟨u,v,q⟩:=Z.to;⟨u,v,k TO (by simp) _ q⟩,Z.u1.keep fun o q=>k i1 (by simp) o q,Z.u2.keep fun o q=>k i2 (by simp) o q⟩
theorem pb {P:Program}{w:World}{K:PySem.W.Frag}{elts:List Expr}{x1}{tpos:Pos}{a b z TI TO i1 i2:Addr}{j k:Bool}(D:ZA z TI TO i1 i2 a b):Turn P w K (.Tuple elts x1 tpos) (Itz j k K a b) [z,TI,TO,i1,i2] z (fun i h=>ZO h z TI TO i1 i2 a b (tyK j) (tyK k) i .none) where
 mem:=by simp
 obj:=fun i h st c hc=>by
  simp only[List.mem_cons,List.not_mem_nil,or_false] at hc
  rcases hc with rfl|rfl|rfl|rfl|rfl
  ·exact⟨_,st.z,fun v z=>by cases z⟩
  ·exact⟨_,st.ti,fun v z=>by cases z⟩
  ·obtain⟨_,_,q⟩:=st.to
   exact⟨_,q,fun v z=>by cases z⟩
  ·obtain⟨o,e,c,d⟩:=st.u1
   exact⟨o,e,fun v z=>by rw[d] at z;cases z⟩
  ·obtain⟨o,e,c,d⟩:=st.u2
   exact⟨o,e,fun v z=>by rw[d] at z;cases z⟩
 keep:=fun i h h' st kk=>st.keep kk
 item:=by
  intro X hP hw hK hc i pins s σ H E I hf st hg
  subst hP hw hK
  obtain⟨xs,ys,x,y,hq1,hq2,hx,hy⟩:=hg
  obtain⟨is1,rv1,q1⟩:=I.seqK hq1
  obtain⟨is2,rv2,q2⟩:=I.seqK hq2
  obtain⟨u,hu,ru⟩:=rv1.get hx
  obtain⟨v,hv,rv⟩:=rv2.get hy
  have fz:=hf z (by simp)
  have fO:=hf TO (by simp)
  have f1:=hf i1 (by simp)
  have f2:=hf i2 (by simp)
  refine qg (I.ok.hd hc) D ⟨st.z,st.ti,st.to,st.u1,st.u2,q1,q2⟩ (by simpa using hu) (by simpa using hv) fun h' tk Z' hT hsz hk=>?_
  have nT:H s.heap.objs.size=none:=I.hok.fresh (Nat.le_refl _)
  have lt: ∀c o,s.heap.get? c=some o->c≠s.heap.objs.size:=fun c o q=>Nat.ne_of_lt (Heap.lt_size q)
  have ltH: ∀c o,H c=some o->c≠s.heap.objs.size:=fun c o q z=>by rw[z,nT] at q;cases q
  have neH: ∀c o,H c=some o->c≠z/\c≠TO/\c≠i1/\c≠i2:=fun c o q=>⟨fun z=>by (rw[z,fz.1] at q;cases q),fun z=>by (rw[z,fO.1] at q;cases q),fun z=>by (rw[z,f1.1] at q;cases q),fun z=>by (rw[z,f2.1] at q;cases q)⟩
  have hk': ∀c o,c ∉ [z,TO,i1,i2]->s.heap.get? c=some o->h'.get? c=some o:=fun c o n q=>hk c o (fun z=>n (by simp [z])) (fun z=>n (by simp [z])) (fun z=>n (by simp [z])) (fun z=>n (by simp [z])) q
  have I1:Inv X pins σ (upd H s.heap.objs.size (.tup [x,y])) {s with heap:=h',toks:=tk}:=by
   refine I.call' (s':={s with heap:=h',toks:=tk}) (ch:=[z,TO,i1,i2]) rfl ⟨fun b o q n hb hx=>?_,fun b o q n hb hx=>?_,fun b o q n hx=>?_,fun b o q hx=>?_,fun b xs q=>?_,fun b o u q=>?_,fun b ps q=>?_⟩ (fun b o q=>?_) I.bare fun b hb=>?_
   ·exact hk' b o hx q
   ·exact⟨o.slots,hk' b o hx q⟩
   ·rw[au (lt b o q)];exact n
   ·exact⟨o,hk' b o hx q⟩
   ·rw[au (ltH b _ q)];exact q
   ·rw[au (ltH b _ q)];exact q
   ·exact⟨#[],by rw[au (ltH b _ q),q];simp⟩
   ·by_cases hb:b=s.heap.objs.size
    ·subst hb
     rw[aU] at q
     cases q
     exact⟨by show 2<=sizeLine;decide,_,.cons ru (.cons rv .nil),⟨_,hT,rfl,_,rfl⟩,_,hT,rfl⟩
    ·rw[au hb] at q
     refine (I.hok b o q).stay (fun c v hc r=>?_) (fun c r=>by rw[au (ltH c _ r)];exact r) fun c xs r=>by rw[au (ltH c _ r)];exact r
     have: ∃o,H c=some o:=by
      rcases hc with rfl|hc
      ·exact⟨o,q⟩
      ·exact⟨_,hc⟩
     obtain⟨o',qo⟩:=this
     obtain⟨n1,n2,n3,n4⟩:=neH c o' qo
     exact hk c v n1 n2 n3 n4 r
   ·have fb:FpOk X pins H b:=by
     simp only[List.mem_cons,List.not_mem_nil,or_false] at hb
     rcases hb with rfl|rfl|rfl|rfl
     ·exact fz
     ·exact fO
     ·exact f1
     ·exact f2
    exact⟨fb.2.2.2.1,fb.2.1,fb.2.2.2.2.1,fb.2.2.2.2.2⟩
  refine⟨_,rfl,wpAny_letOwnedTupleGo_zip (s:={s with heap:=h',toks:=tk}) Z'.z fun h2 hz2 hs2=>?_⟩
  have nn: ∀c∈[z,TI,TO,i1,i2],c≠s.heap.objs.size:=fun c hc=>by
   simp only[List.mem_cons,List.not_mem_nil,or_false] at hc
   rcases hc with rfl|rfl|rfl|rfl|rfl
   ·exact lt _ _ st.z
   ·exact lt _ _ st.ti
   ·obtain⟨_,_,q⟩:=st.to;exact lt _ _ q
   ·obtain⟨o,e,_⟩:=st.u1;exact lt _ _ e
   ·obtain⟨o,e,_⟩:=st.u2;exact lt _ _ e
  have fe':(upd H s.heap.objs.size (.tup [x,y])) z=none:=by rw[au (nn z (by simp))];exact fz.1
  refine⟨.ref s.heap.objs.size,upd H s.heap.objs.size (.tup [x,y]),?_,rfl,⟨s.heap.objs.size,x,y,nT,rfl,fun xs' ys' h1 h2=>by rw[I.seqK_inj h1 hq1,I.seqK_inj h2 hq2];exact⟨hx,hy⟩,rfl⟩,?_,fun c hc=>?_⟩
  ·exact I1.turned (t':=tk) (fun b o hb eo=>(hs2.2 b hb).trans eo) fe' fz.2.1 fz.2.2.2.1 fz.2.2.2.2.1 fz.2.2.2.2.2
  ·have up: ∀c o,c≠z->h'.get? c=some o->h2.get? c=some o:=fun c o n q=>hs2.extBut _ _ n q
   obtain⟨u',v',q⟩:=Z'.to
   exact⟨hz2,up _ _ D.a1 Z'.ti,⟨u',v',up _ _ D.a2 q⟩,Z'.u1.keep fun o q=>up _ _ D.a3 q,Z'.u2.keep fun o q=>up _ _ D.a4 q⟩
  ·rw[au (nn c hc)]
   exact (hf c hc).1
 done:=by
  intro X hP hw hK hc i pins s σ H E I hf st hg
  subst hP hw hK
  obtain⟨xs,ys,hq1,hq2,hx⟩:=hg
  obtain⟨is1,rv1,q1⟩:=I.seqK hq1
  obtain⟨is2,rv2,q2⟩:=I.seqK hq2
  have l1:=rv1.length
  have l2:=rv2.length
  have fz:=hf z (by simp)
  have fO:=hf TO (by simp)
  have f1:=hf i1 (by simp)
  have f2:=hf i2 (by simp)
  refine sW (I.ok.hd hc) D ⟨st.z,st.ti,st.to,st.u1,st.u2,q1,q2⟩ (by
   rw[List.size_toArray,List.size_toArray]
   omega) fun h' tk hk=>⟨rfl,?_⟩
  refine I.call' (s':={s with heap:=h',toks:=tk}) (ch:=[z,TO,i1,i2]) rfl ⟨fun b o q n hb hx=>?_,fun b o q n hb hx=>?_,fun b o q n hx=>n,fun b o q hx=>?_,fun b xs q=>q,fun b o u q=>q,fun b ps q=>⟨#[],by rw[q];simp⟩⟩ (fun b o q=>?_) I.bare fun b hb=>?_
  ·exact hk b o (fun z=>hx (by simp [z])) (fun z=>hx (by simp [z])) (fun z=>hx (by simp [z])) (fun z=>hx (by simp [z])) q
  ·exact⟨o.slots,hk b o (fun z=>hx (by simp [z])) (fun z=>hx (by simp [z])) (fun z=>hx (by simp [z])) (fun z=>hx (by simp [z])) q⟩
  ·exact⟨o,hk b o (fun z=>hx (by simp [z])) (fun z=>hx (by simp [z])) (fun z=>hx (by simp [z])) (fun z=>hx (by simp [z])) q⟩
  ·refine (I.hok b o q).stay (fun c v hc r=>?_) (fun c r=>r) fun c xs r=>r
   have: ∃o,H c=some o:=by
    rcases hc with rfl|hc
    ·exact⟨o,q⟩
    ·exact⟨_,hc⟩
   obtain⟨o',qo⟩:=this
   exact hk c v (fun z=>by rw[z,fz.1] at qo;cases qo) (fun z=>by rw[z,fO.1] at qo;cases qo) (fun z=>by rw[z,f1.1] at qo;cases qo) (fun z=>by rw[z,f2.1] at qo;cases qo) r
  ·have fb:FpOk X pins H b:=by
    simp only[List.mem_cons,List.not_mem_nil,or_false] at hb
    rcases hb with rfl|rfl|rfl|rfl
    ·exact fz
    ·exact fO
    ·exact f1
    ·exact f2
   exact⟨fb.2.2.2.1,fb.2.1,fb.2.2.2.2.1,fb.2.2.2.2.2⟩
 self:=fun _ _ _ _ _ st h=>wpAny_pyIter_zip st.z h
section
variable {X:Cx}
def iZip (j k:Bool)(K:PySem.W.Frag)(ta:TA):TI:=fun σ H R=>ta σ H fun vs H1=> ∃a b,vs=[.ref a,.ref b]/\(∃xs,SqK j K H1 a xs)/\(∃ys,SqK k K H1 b ys)/\R (Itz j k K a b) H1
theorem tX (n a b:Nat)(h1:a<n)(h2:b<n):(n+2≠n+4/\n+3≠n+4/\n≠n+4/\n+1≠n+4/\n+2≠n+3/\n+2≠n/\n+2≠n+1/\n+3≠n/\n+3≠n+1)/\(n≠n+1/\a≠n+4/\a≠n+3/\a≠n/\a≠n+1/\b≠n+4/\b≠n+3/\b≠n/\b≠n+1):=by omega
theorem tW {n l1 l2:Addr}(h1:l1<n)(h2:l2<n):ZA (n+4) (n+2) (n+3) n (n+1) l1 l2:=
 by
 obtain⟨⟨a1,a2,a3,a4,a5,a6,a7,a8,a9⟩,b1,b2,b3,b4,b5,b6,b7,b8,b9⟩:=tX n l1 l2 h1 h2
 exact⟨a1,a2,a3,a4,a5,a6,a7,a8,a9,b1,b2,b3,b4,b5,b6,b7,b8,b9⟩
theorem uC {j k:Bool}{a b:Expr}{ta:TA}{p pos:Pos}{elts:List Expr}{x1}{tpos:Pos}(hg:Gl X "zip")(hm:X.mg "zip"=none)(ha:PA X [a,b] ta)(hs:starEach [a,b] X.env=[(false,eval a X.env),(false,eval b X.env)]:=by rfl)(hs2:starEach [b] X.env=[(false,eval b X.env)]:=by rfl):PI X (.Tuple elts x1 tpos) (.Call (.Name "zip" p) [a,b] [] pos) (iZip j k X.K ta):=by
 intro pins s σ H R I h
 refine Call_ (dc I hg hm boot_zip (PyProof.Rows.callWith_type1 (thn (ha pos pins s σ H _ I h) fun us s1 qz=>?_) (by rw[hs,hs2]) (by rw[hs2];rfl)))
 obtain⟨vs,H1,I1,r1,q1⟩:=qz
 obtain⟨a',b',e,⟨xs,hq1⟩,⟨ys,hq2⟩,q⟩:=q1
 subst e
 obtain⟨u,v,rfl,ru,rv⟩:=r1.two
 cases ru
 cases rv
 obtain⟨is1,rv1,t1⟩:=I1.seqK hq1
 obtain⟨is2,rv2,t2⟩:=I1.seqK hq2
 have lt: ∀ {T:String}{l:Addr}{u:Array Value},SeqAt s1.heap T l u->l<s1.heap.objs.size:=fun{T l u} h=>by
  rcases h with⟨_,o,e,_⟩|⟨_,o,e,_⟩<;>exact Heap.lt_size e
 refine oW t1 t2 fun h' Z hsz hk=>wpAny_pyIter_zip Z.z ?_
 have I2:Inv X pins σ H1 {s1 with heap:=h'}:=I1.kept (t':=s1.toks) hk
 refine⟨s1.heap.objs.size+4,[s1.heap.objs.size+4,s1.heap.objs.size+2,s1.heap.objs.size+3,s1.heap.objs.size,s1.heap.objs.size+1],_,_,H1,rfl,I2,pb (j:=j) (k:=k) (tW (lt t1) (lt t2)),⟨Z.z,Z.ti,Z.to,Z.u1,Z.u2⟩,fun c hc=>?_,q⟩
 have hc':s1.heap.objs.size<=c:=by
  simp only[List.mem_cons,List.not_mem_nil,or_false] at hc
  rcases hc with rfl|rfl|rfl|rfl|rfl
  ·exact Nat.le_add_right _ _
  ·exact Nat.le_add_right _ _
  ·exact Nat.le_add_right _ _
  ·exact Nat.le_refl _
  ·exact Nat.le_add_right _ _
 exact I1.fpOk hc' (I1.hok.fresh hc')
end
end L2
set_option maxHeartbeats 2000000
namespace L2
open PySem PySem.Spec PyProof.Rows
open Builtin
section
variable {prog:Program}{w:World}{A:Around}{E:Value->Shared->Prop}
end
section
variable {X:Cx}
end
end L2
namespace L2
open PySem PySem.Spec PyProof.Rows
section
variable {X:Cx}
variable {o e:Expr}{es:List Expr}{to:TE}{t:TA}{name:Str}{apos cpos:Pos}{id:String}{r:V->List V->Hp->VK->Prop}
end
end L2
set_option maxHeartbeats 1000000
namespace L2
open PySem PySem.Spec PyProof.Rows
section
variable {X:Cx}{E:XK}{p pos:Pos}
def srcA (j:Bool):W->M Sr:=match j with
 |true=>srcT
 |false=>srcL
theorem mV {j:Bool}{α β:Type}{r:Wo->α->β->Prop}{o:Wo}{w:W}{v:V}{k:Sr->M α}{Q:β->Hp->Prop}(R:Rel X.K o)(hr:Rv X.K o w v)(h:Ps (cg X E) r o (bd (srcA j w) k o.h) Q):
  ∃s a,v=.ref a/\(∃vs,SqK j X.K o.H a vs)/\(∀p,Ex o p->Rel X.K p->s.G p.h-> ∃vs,SqK j X.K p.H a vs/\Rvs X.K p s.l vs)/\Ps (cg X E) r o (k s o.h) Q:=by
 cases j with
 |false=>exact mU R hr h
 |true=>
  cases w with
  |tup l=>
   unfold Rv at hr
   obtain⟨a,vs,rfl,s,r'⟩:=hr
   exact⟨⟨l,fun _=>True⟩,a,rfl,⟨vs,s⟩,fun p X _ _=>⟨vs,X.rdT R s,r'.mono R X⟩,h⟩
  |_=>exact h.elim
noncomputable def zipW (l m:List W):List W:=List.zipWith (fun a b=>.tup [a,b]) l m
theorem kG {l m:List W}{i:Nat}{w:W}(e:(zipW l m)[i]?=some w): ∃x y,l[i]?=some x/\m[i]?=some y/\w=.tup [x,y]:=by
 unfold zipW at e
 rw[List.getElem?_zipWith] at e
 cases h1:l[i]? with
 |none=>rw[h1] at e;cases e
 |some x=>
  cases h2:m[i]? with
  |none=>rw[h1,h2] at e;cases e
  |some y=>rw[h1,h2] at e;cases e;exact⟨x,y,rfl,rfl,rfl⟩
def srcZ (j k:Bool)(ws:List W):M Sr:=match ws with
 |[x,y]=>bd (srcA j x) fun s=>bd (srcA k y) fun t=>pr ⟨zipW s.l t.l,fun h=>s.G h/\t.G h⟩
 |_=>no
theorem qp (j k:Bool){a b:Expr}{elts:List Expr}{x1}{tpos:Pos}{fl:Env'->M (List W)}(hm:X.mg "zip"=none)(ha:JA X E [a,b] fl)(hg:Gl X "zip":=by rfl)(hs:starEach [a,b] X.env=[(false,eval a X.env),(false,eval b X.env)]:=by rfl)(hs2:starEach [b] X.env=[(false,eval b X.env)]:=by rfl):
  JI X E (.Tuple elts x1 tpos) (.Call (.Name "zip" p) [a,b] [] pos) (mSrcA fl (srcZ j k)):=(uC (j:=j) (k:=k) hg hm ha.h hs hs2).imp fun σ H Q h=>by
 obtain⟨o,ρ,rfl,R,S,h⟩:=h
 refine⟨o,ρ,rfl,R,S,Ps.bd h fun p x vx e1 R1 r1 h1=>?_⟩
 rcases x with _|⟨w,_|⟨w2,_|⟨_,_⟩⟩⟩
 ·exact h1.elim
 ·exact h1.elim
 ·have h1:Ps (cg X E) (fun p s J=>SrcOk X.K p J s) p (bd (srcA j w) (fun s=>bd (srcA k w2) fun t=>pr ⟨zipW s.l t.l,fun h=>s.G h/\t.G h⟩) p.h) Q:=h1
  obtain⟨v,u,rfl,rv,ru⟩:=r1.two
  obtain⟨s,a,rfl,hq,sk,h1⟩:=mV R1 rv h1
  obtain⟨t,b,rfl,hq2,sk2,h1⟩:=mV R1 ru h1
  refine⟨a,b,rfl,hq,hq2,h1.pr R1 ⟨fun o X R g=>?_,fun o i w X R g e=>?_⟩⟩
  ·obtain⟨vs,k1,k2⟩:=sk o X R g.1
   obtain⟨us,k3,k4⟩:=sk2 o X R g.2
   exact⟨vs,us,k1,k3,by rw[k2.len,k4.len];show _=(zipW s.l t.l).length;unfold zipW;rw[List.length_zipWith]⟩
  ·obtain⟨vs,k1,k2⟩:=sk o X R g.1
   obtain⟨us,k3,k4⟩:=sk2 o X R g.2
   obtain⟨x,y,ex,ey,rfl⟩:=kG e
   obtain⟨v1,hv1,rv1⟩:=k2.get ex
   obtain⟨v2,hv2,rv2⟩:=k4.get ey
   refine⟨⟨vs,us,v1,v2,k1,k3,hv1,hv2⟩,fun q H' yl=>?_⟩
   obtain⟨T,z1,z2,hT,rfl,hz,rfl⟩:=yl
   obtain⟨g1,g2⟩:=hz vs us k1 k3
   have e1:z1=v1:=Option.some.inj (g1.symm.trans hv1)
   have e2:z2=v2:=Option.some.inj (g2.symm.trans hv2)
   subst e1 e2
   refine⟨⟨o.mu,o.h,upd o.H T (.tup [z1,z2])⟩,rfl,rfl,Ex.new hT,R.new hT,Rv.newT R hT (Rvs.cons rv1 (Rvs.cons rv2 Rvs.nil))⟩
 ·exact h1.elim
variable {o e:Expr}{apos cpos:Pos}{fo:Env'->M W}{l:Env'->M (List W)}
def gu (x:W)(ws:List W):M W:=match x,ws with
 |.loc k,[w]=>bd (lstO w) fun m h=>match h[k]? with
  |some (.lst l)=>if l.length+m.length<=sizeLine then .ok .non (h.set k (.lst (l++m))) else .bad
  |_=>.bad
 |_,_=>no
theorem oA (ho:JE X E o fo)(ha:JA X E [e] l)(hbase:attributeBase o "extend" X.env (eval o X.env)=eval o X.env:=by rfl)
  (hfew:((backTo cpos (starEach [e] X.env)).all (fun x=>!x.1) && (backToKw cpos (keywordEach [] X.env)).all (fun x=>x.1.isSome) && decide (([e]:List Expr).length+([]:List Keyword).length+(if ([]:List Keyword).isEmpty then 0 else 1)<30))=true:=by rfl)
  (hline:(apos.endLine==cpos.line)=true:=by rfl)(hs:starEach [e] X.env=(false,eval e X.env)::starEach [] X.env:=by rfl)(hplain:(backTo cpos (starEach [] X.env)).any (·.1)=false:=by rfl):
  JE X E (.Call (.Attribute o "extend" apos) [e] [] cpos) (mMeth isL gu fo l):=
 (tJ PySem.F.plainAttrs_list PySem.F.slot_list_extend PySem.F.type_list_extend ox ho.h ha.h hbase hfew hline hs hplain).imp fun σ H Q h=>by
  obtain⟨w,ρ,rfl,R,S,h⟩:=h
  refine⟨w,ρ,rfl,R,S,Ps.bd h fun p x vx e1 R1 r1 h1=>?_⟩
  obtain⟨j,l0,vs0,rfl,hj,rfl,hlt,hH,hl0,h1⟩:=qP R1 r1 h1
  refine⟨.inl ⟨rfl,vs0,.of hH⟩,p,ρ,rfl,R1,S.mono R e1,Ps.bd h1 fun q ws vs e2 R2 r2 h2=>?_⟩
  rcases ws with _|⟨w',_|⟨_,_⟩⟩
  ·exact h2.elim
  ·obtain⟨v,rfl,r⟩:=r2.one
   have h2:Ps (cg X E) (Rv X.K) q (bd (lstO w') (fun m h=>match h[j]? with
    |some (.lst l)=>if l.length+m.length<=sizeLine then .ok .non (h.set j (.lst (l++m))) else .bad
    |_=>.bad) q.h) Q:=h2
   obtain⟨m,am,us',rfl,hm,rm,h2⟩:=ig R2 r h2
   cases e:q.h[j]? with
   |none=>simp only[e] at h2;exact h2.elim
   |some b=>
    cases b with
    |lst l'=>
     simp only[e] at h2
     obtain⟨us,k1,k2⟩:=R2.ob j _ e
     by_cases z:l'.length+m.length<=sizeLine
     ·rw[if_pos z] at h2
      rw[e2.mu j hlt] at k1
      refine⟨p.mu j,am,us,us',rfl,rfl,k1,hm,by rw[k2.len,rm.len];exact z,?_⟩
      have:=Ps.at (p:=q.put j (.lst (l'++m)) (.lst (us++us'))) (b:=V.non) h2 rfl (Ex.put e (by simp)) (R2.putL e (by simp) (k2.app rm)) (rv_non.mpr rfl)
      have em:q.mu j=p.mu j:=e2.mu j hlt
      have ew:(q.put j (.lst (l'++m)) (.lst (us++us'))).H=upd q.H (p.mu j) (.lst (us++us')):=by
       show upd q.H (q.mu j) _=_
       rw[em]
      rw[ew] at this
      exact this
     ·rw[if_neg z] at h2;exact h2.elim
    |_=>simp only[e] at h2;exact h2.elim
  ·exact h2.elim
end
end L2
set_option maxHeartbeats 2000000
namespace L2
open PySem PySem.Spec PyProof.Rows
section
variable {X:Cx}
end
end L2
set_option maxHeartbeats 1000000
namespace L2
open PySem PySem.Spec PyProof.Rows
section
variable {X:Cx}{E:XK}{o e e2:Expr}{apos cpos:Pos}{fo:Env'->M W}{l:Env'->M (List W)}
end
end L2
set_option maxHeartbeats 1000000
namespace L2
open PySem PySem.Spec PyProof.Rows
noncomputable def intsV (lo:Int):Nat->List V
 |0=>[]
 |n+1=>.int lo::intsV (lo+1) n
theorem jB: ∀ (n:Nat) (lo:Int),(intsV lo n).length=n
 |0,_=>rfl
 |n+1,lo=>by rw[intsV,List.length_cons,jB n]
theorem js {K:PySem.W.Frag}{o:Wo}: ∀ (n:Nat) (lo:Int),Rvs K o (intsW lo n) (intsV lo n)
 |0,_=>Rvs.nil
 |n+1,lo=>Rvs.cons (rv_int.mpr rfl) (js n (lo+1))
theorem iq: ∀ (n:Nat) (lo:Int) (its:List Value),its.length=n->(∀ (i:Nat) (v:Value),its[i]?=some v-> ∃t,v=Value.int (lo+(i:Int)) t)->Vals (intsV lo n) its
 |0,_,[],_,_=>.nil
 |0,_,_::_,h,_=>by cases h
 |n+1,lo,[],h,_=>by cases h
 |n+1,lo,v::its,h,q=>by
  rw[intsV]
  refine .cons ?_ (iq n (lo+1) its (Nat.succ.inj h) fun i u e=>?_)
  ·obtain⟨t,e⟩:=q 0 v rfl
   exact⟨t,by rw[e];congr 1;omega⟩
  ·obtain⟨t,e⟩:=q (i+1) u (by rw[List.getElem?_cons_succ];exact e)
   exact⟨t,by rw[e];congr 1;omega⟩
section
variable {X:Cx}{E:XK}{a b:Expr}{p p2 pos pos2:Pos}
end
end L2
set_option maxHeartbeats 1000000
namespace L2
open PySem PySem.Spec PyProof.Rows
section
variable {X:Cx}{E:XK}
theorem sy:OpR X (compareOp .IsNot) (fun x y H Q=> ∃c d,x=.bl c/\y=.bl d/\Q (.bl (!(c==d))) H):=by
 intro pins s σ H x y v u Q I rx ry h
 obtain⟨c,d,rfl,rfl,q⟩:=h
 cases rx
 cases ry
 exact isnot_bool (aN I q rfl)
def isBW (x y:W):M W:=match x,y with
 |.bl c,.bl d=>pr (.bl (c==d))
 |_,_=>no
def notBW (x y:W):M W:=match x,y with
 |.bl c,.bl d=>pr (.bl (!(c==d)))
 |_,_=>no
theorem p3:OpM X E (fun x y H Q=> ∃c d,x=.bl c/\y=.bl d/\Q (.bl (!(c==d))) H) notBW:=by
 intro o x y vx vy Q R rx ry h
 unfold notBW at h
 split at h
 ·exact⟨_,_,rv_bl.mp rx,rv_bl.mp ry,h.pr R (rv_bl.mpr rfl)⟩
 ·exact h.elim
end
theorem i0 {G:List Ob->Prop}{t:W->Env'->Option Env'}{f:Env'->M Bool}{g:Env'->M W}{c:Nat}{ρ:Env'}(I:Nat->List W->List Ob->Prop)(l:List W)(hG: ∀i a h,I i a h->G h)
  (hs: ∀i w a h,l[i]?=some w->I i a h-> ∃r,t w (List.replicate c none++ρ)=some r/\Ok (f r) h fun b h'=>(b=false/\I (i+1) a h')\/(b=true/\Ok (g r) h' fun v h''=>I (i+1) (a++[v]) h'')):
  ∀ (m:List W) (n:Nat) (a:List W) (h:List Ob),l.drop n=m->n<=l.length->I n a h->Ok (compM G t f g c m ρ) h fun r h'=>I l.length (a++r) h'
 |[],n,a,h,e,hn,i=>by
  have:l.length<=n:=List.drop_eq_nil_iff.mp e
  have hn:n=l.length:=by omega
  subst hn
  refine⟨[],h,?_,by show I l.length (a++[]) h;rw[List.append_nil];exact i⟩
  unfold compM
  rw[eC (hG _ _ _ i)];rfl
 |w::m,n,a,h,e,hn,i=>by
  have hw:l[n]?=some w:=by
   have:=congrArg List.head? e
   rw[List.head?_drop,List.head?_cons] at this
   exact this
  have hl:n<l.length:=(List.getElem?_eq_some_iff.mp hw).1
  have em:l.drop (n+1)=m:=by rw[<-List.tail_drop,e];rfl
  obtain⟨r,e1,b,h',e2,q⟩:=hs n w a h hw i
  rcases q with⟨rfl,i'⟩|⟨rfl,v,h'',e3,i'⟩
  ·obtain⟨y,h2,e3,q⟩:=i0 I l hG hs m (n+1) a h' em hl i'
   refine⟨y,h2,?_,q⟩
   unfold compM
   rw[eC (hG _ _ _ i),e1]
   dsimp only
   rw[eU e2,if_neg (by decide)];exact e3
  ·obtain⟨y,h2,e4,q⟩:=i0 I l hG hs m (n+1) (a++[v]) h'' em hl i'
   refine⟨v::y,h2,?_,by show I l.length (a++v::y) h2;have q:I l.length (a++[v]++y) h2:=q;rw[List.append_assoc] at q;exact q⟩
   unfold compM
   rw[eC (hG _ _ _ i),e1]
   dsimp only
   rw[eU e2,if_pos rfl,eU e3,eU e4];rfl
theorem gj {β:Type}{G:List Ob->Prop}{t:W->Env'->Option Env'}{f:Env'->M Bool}{g:Env'->M W}{c:Nat}{ρ:Env'}{l:List W}{h:List Ob}{k:List W->M β}{Q:β->List Ob->Prop}(I:Nat->List W->List Ob->Prop)(h0:I 0 [] h)(hG: ∀i a h,I i a h->G h)
  (hs: ∀i w a h,l[i]?=some w->I i a h-> ∃r,t w (List.replicate c none++ρ)=some r/\Ok (f r) h fun b h'=>(b=false/\I (i+1) a h')\/(b=true/\Ok (g r) h' fun v h''=>I (i+1) (a++[v]) h''))(hd: ∀a h,I l.length a h->Ok (k a) h Q):Ok (bd (compM G t f g c l ρ) k) h Q:=
 bC (i0 I l hG hs l 0 [] h rfl (Nat.zero_le _) h0) fun r h' i=>hd r h' i
section
variable {β:Type}{h:List Ob}{Q:β->List Ob->Prop}{x:W}{l:List W}
theorem Lw.src {k:Sr->M β}(p:Lw h x l)(q:∀G,(∀h',Lw h' x l->G h')->Ok (k ⟨l,G⟩) h Q):Ok (bd (srcL x) k) h Q:=by
 rcases p with rfl|⟨j,rfl,e⟩
 ·show Ok (bd (pr ⟨l,fun _=>True⟩) k) h Q
  rw[aV];exact q _ fun _ _=>trivial
 ·refine uT e (q _ fun h' r=>?_)
  rcases r with r|⟨i,r,e'⟩
  ·cases r
  ·cases r;exact e'
theorem Lw.keep {h':List Ob}(p:Lw h x l)(q:∀i,i<h.length->h'[i]?=h[i]?):Lw h' x l:=by
 rcases p with rfl|⟨j,rfl,e⟩
 ·exact .inl rfl
 ·exact .inr ⟨j,rfl,(q j (d9 e)).trans e⟩
end
theorem Lw.len_eq {β:Type}{h:List Ob}{Q:β->List Ob->Prop}{x:W}{l:List W}{k:W->M β}{N:Int}(p:Lw h x l)(hN:N=(l.length:Int))(q:Ok (k (.int N)) h Q):Ok (bd (lenW [x]) k) h Q:=by
 subst hN;exact p.len q
end L2
set_option maxHeartbeats 1000000
namespace L2
open PySem PySem.Spec PyProof.Rows
noncomputable def lookF:List Str->List W->Str->Option W
 |n::ns,w::ws,f=>if f=n then some w else lookF ns ws f
 |_,_,_=>none
noncomputable def putN:List Str->List W->Str->W->List Str×List W
 |n::ns,w::ws,f,y=>if n=f then (n::ns,y::ws) else (n::(putN ns ws f y).1,w::(putN ns ws f y).2)
 |_,_,f,y=>([f],[y])
section
variable {K:PySem.W.Frag}{o:Wo}
end
section
variable {X:Cx}{E:XK}
def insG (c:Str)(x:W):M (Nat×List Str×List W):=match x with
 |.loc k=>fun h=>match h[k]? with
  |some (.ins c' ns ws)=>if c'=c then .ok (k,ns,ws) h else .bad
  |_=>.bad
 |_=>no
def fldG (c f:Str)(x:W):M W:=bd (insG c x) fun t=>match lookF t.2.1 t.2.2 f with
 |some w=>pr w
 |none=>no
def putG (c f:Str)(x y:W):M Unit:=bd (insG c x) fun t=>fun h=>if t.2.1.length<1000 then .ok () (h.set t.1 (.ins c (putN t.2.1 t.2.2 f y).1 (putN t.2.1 t.2.2 f y).2)) else .bad
variable {c f:Str}{C:Addr}{o:Expr}{fo:Env'->M W}{pos pos':Pos}
def sFldW (c f:Str)(fo fv:Env'->M W):Env'->M Fl:=fun ρ=>bd (fv ρ) fun y=>bd (fo ρ) fun x=>bd (putG c f x y) fun _=>pr (.nx ρ)
variable {value:Expr}{fv:Env'->M W}{tpos:Pos}
def addI (x y:W):M W:=match x,y with
 |.int i,.int j=>pr (.int (i+j))
 |_,_=>no
def sAugW (c f:Str)(fo fv:Env'->M W):Env'->M Fl:=fun ρ=>bd (fo ρ) fun x=>bd (fldG c f x) fun v=>bd (fv ρ) fun y=>bd (addI v y) fun z=>bd (putG c f x z) fun _=>pr (.nx ρ)
def isI (c m:Str)(x:W):M W:=bd (insG c x) fun t=>if m∈t.2.1 then no else pr x
def mMet (c m:Str)(n:Nat)(fn:List W->M W)(fo:Env'->M W)(l:Env'->M (List W)):Env'->M W:=fun ρ=>bd (fo ρ) fun x=>bd (isI c m x) fun x=>bd (l ρ) fun ws=>arW n fn (x::ws)
end
section
variable {X:Cx}{c m:Str}{C fA:Addr}{fd:FuncData}{ps:List Str}{k n:Nat}{fn:List W->M W}{o e:Expr}{es:List Expr}{fo:Env'->M W}{l:Env'->M (List W)}{pos apos p:Pos}
end
end L2
set_option maxHeartbeats 1000000
namespace PySem
open Sem (wp)
section
variable {prog:Program}{w:World}{K:Type} [DecidableEq K] {knd:KeyKind prog w K}{A:Around}{R:Result->Shared->Prop}
end
end PySem
namespace L2
open PySem PySem.Spec PyProof.Rows
section
variable {X:Cx}
end
end L2
set_option maxHeartbeats 1000000
namespace L2
open PySem PySem.Spec PyProof.Rows
section
variable {K:PySem.W.Frag}{o:Wo}
end
section
variable {X:Cx}{E:XK}{a:Expr}{p pos:Pos}{l:Env'->M (List W)}
end
end L2
set_option maxHeartbeats 1000000
namespace L2
open PySem PySem.Spec PyProof.Rows
section
variable {X:Cx}{E:XK}{e:Expr}{f:Env'->M W}{pos:Pos}
def sAug (i:Nat)(f:Env'->M W):Env'->M Fl:=fun ρ=>bd (mVar i ρ) fun x=>bd (f ρ) fun y=>bd (addI x y) fun z=>pr (.nx (ρ.set i (some z)))
end
end L2
set_option maxHeartbeats 1000000
namespace L2
open PySem
section
variable {β:Type}{h:List Ob}{Q:β->List Ob->Prop}{j d:Nat}
end
def ctS (g:Env'->M Fl):Fl->M Fl:=fun x=>match x with
 |.nx r=>g r
 |x=>pr x
def ctI (f g:Env'->M Fl)(ρ:Env'):Bool->M Fl:=fun b=>if b=true then f ρ else g ρ
theorem bp (f g:Env'->M Fl)(ρ:Env'):sSeq f g ρ=bd (f ρ) (ctS g):=by unfold sSeq;rfl
theorem bW (g:Env'->M Fl)(r:Env'):ctS g (.nx r)=g r:=by unfold ctS;rfl
theorem bV (g:Env'->M Fl)(w:W):ctS g (.rt w)=pr (.rt w):=by unfold ctS;rfl
theorem bZ (g:Env'->M Fl)(r:Env'):ctS g (.bk r)=pr (.bk r):=by unfold ctS;rfl
theorem bY (g:Env'->M Fl)(r:Env'):ctS g (.ct r)=pr (.ct r):=by unfold ctS;rfl
theorem bS (t:Env'->M Bool)(f g:Env'->M Fl)(ρ:Env'):sIf t f g ρ=bd (t ρ) (ctI f g ρ):=by unfold sIf;rfl
theorem df (f g:Env'->M Fl)(ρ:Env'):ctI f g ρ true=f ρ:=by unfold ctI;rw[if_pos rfl]
theorem dg (f g:Env'->M Fl)(ρ:Env'):ctI f g ρ false=g ρ:=by unfold ctI;rw[if_neg Bool.false_ne_true]
end L2
set_option maxHeartbeats 1000000
namespace L2
open PySem PySem.Spec PyProof.Rows
section
variable {X:Cx}{E:XK}{o e f:Expr}{apos cpos:Pos}{fo fe ff:Env'->M W}
end
noncomputable abbrev Tgt:=W->Env'->Option Env'
def setG:List Tgt->List W->Env'->Option Env'
 |[],[],ρ=>some ρ
 |t::r,w::l,ρ=>(t w ρ).bind (setG r l)
 |_,_,_=>none
def tgG (ts:List Tgt):Tgt:=fun w ρ=>match w with
 |.tup l=>setG ts l ρ
 |_=>none
theorem kK: ∀ {ts:List Tgt}{l:List W}{ρ ρ2:Env'},setG ts l ρ=some ρ2->l.length=ts.length
 |[],[],_,_,_=>rfl
 |[],_::_,_,_,e=>by cases e
 |_::_,[],_,_,e=>by cases e
 |t::ts,w::l,ρ,ρ2,e=>by
  obtain⟨a,_,e2⟩:=Option.bind_eq_some_iff.mp (show (t w ρ).bind (setG ts l)=some ρ2 from e)
  rw[List.length_cons,List.length_cons,kK (ts:=ts) (l:=l) e2]
structure TgsOk (K:PySem.W.Frag)(m:Nat)(g:TGs)(ts:List Tgt):Prop where
 ok: ∀ (o:Wo) (l:List W) (vs:List V) (ρ ρ2:Env') (σ:St),Rvs K o l vs->Re K o ρ σ->setG ts l ρ=some ρ2-> ∃σ2,(∀Q:St->Hp->Prop,Q σ2 o.H->g vs σ o.H Q)/\Re K o ρ2 σ2/\σ2.drop m=σ.drop m/\σ2.length=σ.length
theorem mQ {K:PySem.W.Frag}{m:Nat}:TgsOk K m gNil []:=⟨fun o l vs ρ ρ2 σ rv re e=>by
 cases l with
 |nil=>unfold Rvs at rv;cases e;exact⟨σ,fun Q q=>⟨rv,q⟩,re,rfl,rfl⟩
 |cons _ _=>cases e⟩
theorem ga {K:PySem.W.Frag}{m:Nat}{g:TG}{gs:TGs}{t:Tgt}{ts:List Tgt}(h:TgOk K m g t)(hs:TgsOk K m gs ts):TgsOk K m (gCons g gs) (t::ts):=⟨fun o l vs ρ ρ2 σ rv re e=>by
 cases l with
 |nil=>cases e
 |cons w l=>
  obtain⟨ρ1,e1,e2⟩:=Option.bind_eq_some_iff.mp (show (t w ρ).bind (setG ts l)=some ρ2 from e)
  unfold Rvs at rv
  obtain⟨v,r,rfl,h1,h2⟩:=rv
  obtain⟨σ1,a1,b1,c1,d1⟩:=h.ok o w v ρ ρ1 σ h1 re e1
  obtain⟨σ2,a2,b2,c2,d2⟩:=hs.ok o l r ρ1 ρ2 σ1 h2 b1 e2
  exact⟨σ2,fun Q q=>⟨v,r,rfl,a1 _ (a2 Q q)⟩,b2,c2.trans c1,d2.trans d1⟩⟩
theorem mR {K:PySem.W.Frag}{m n:Nat}{gs:TGs}{ts:List Tgt}(hs:TgsOk K m gs ts)(hn:ts.length=n):TgOk K m (gTup K n gs) (tgG ts):=⟨fun o w v ρ ρ2 σ rv re e=>by
 cases w with
 |tup l=>
  unfold Rv at rv
  obtain⟨a,vs,rfl,s,r⟩:=rv
  have e:setG ts l ρ=some ρ2:=e
  obtain⟨σ2,a1,a2,a3,a4⟩:=hs.ok o l vs ρ ρ2 σ r re e
  exact⟨σ2,fun Q q=>⟨a,vs,rfl,s,by rw[r.len,kK e,hn],a1 Q q⟩,a2,a3,a4⟩
 |_=>cases e⟩
section
variable {X:Cx}{E:XK}{o e f:Expr}{es:List Expr}{pos apos cpos:Pos}{l:Env'->M (List W)}{fo fe ff:Env'->M W}
def ktW (ws:List W):M W:=match optL keyOf ws with
 |some ks=>gd (ws.length<=sizeLine) (pr (.kt ks))
 |none=>no
def mKt (l:Env'->M (List W)):Env'->M W:=fun ρ=>bd (l ρ) ktW
theorem kc {K:PySem.W.Frag}{o:Wo}: ∀ {ws:List W}{vs:List V}{ks:List Key},optL keyOf ws=some ks->Rvs K o ws vs->vs=ks.map kV
 |[],vs,ks,e,r=>by unfold Rvs at r;cases e;exact r
 |w::ws,vs,ks,e,r=>by
  unfold Rvs at r
  obtain⟨v,r',rfl,h1,h2⟩:=r
  unfold optL at e
  split at e
  ·rename_i b c e1 e2
   cases e
   rw[iU e1 h1,kc e2 h2]
   rfl
  ·cases e
theorem qx {x1}(h:JA X E es l):JE X E (.Tuple es x1 pos) (mKt l):=(pP h.h).imp fun σ H Q h=>by
 obtain⟨o,ρ,rfl,R,S,h⟩:=h
 refine⟨o,ρ,rfl,R,S,Ps.bd h fun p x vx e1 R1 r1 h1=>?_⟩
 unfold ktW at h1
 cases ek:optL keyOf x with
 |none=>rw[ek] at h1;exact h1.elim
 |some ks=>
  rw[ek] at h1
  obtain⟨hz,h1⟩:=h1.gd
  refine⟨by rw[r1.len];exact hz,fun q hq=>Ps.at (p:=⟨p.mu,p.h,upd p.H q (.tup vx)⟩) h1 rfl (Ex.new hq) (R1.new hq) ?_⟩
  unfold Rv
  exact⟨q,rfl,by rw[<-kc ek r1];exact aU⟩
def j9:Env'->M W:=fun _ h=>.ok (.loc h.length) (h++[.dit [] []])
theorem lH:JE X E (.Dict [] [] pos) j9:=pe_dnewT.imp fun σ H Q h=>by
 obtain⟨o,ρ,rfl,R,S,h⟩:=h
 intro q hq
 exact Ps.at (p:=o.add q (.dit [] []) (.dT [])) h rfl (Ex.add hq) (R.addT hq rfl Rvs.nil) Rv.addLoc
def ditOf (w:W)(h:List Ob):Option (List (List Key)×List W):=match w with
 |.loc k=>match h[k]? with
  |some (.dit ks ws)=>some (ks,ws)
  |_=>none
 |_=>none
theorem lS {o:Wo}{w:W}{v:V}{ks:List (List Key)}{ws:List W}(R:Rel X.K o)(e:ditOf w o.h=some (ks,ws))(h:Rv X.K o w v): ∃a kvs,v=.ref a/\Rd o.H a (.dT kvs)/\kvs.map (·.1)=ks/\Rvs X.K o ws (kvs.map (·.2)):=by
 cases w with
 |loc k=>
  unfold ditOf at e
  dsimp only at e
  split at e
  ·rename_i a b hk
   cases e
   unfold Rv at h
   obtain⟨kvs,h1,h2,h3⟩:=R.ob k _ hk
   exact⟨_,kvs,h.2,.inl h1,h2,h3⟩
  ·cases e
 |_=>cases e
def keyT:W->Option (List Key)
 |.kt ks=>some ks
 |.tup l=>optL keyOf l
 |_=>none
theorem sR {K:PySem.W.Frag}{o:Wo}{x:W}{v:V}{k:List Key}(e:keyT x=some k)(h:Rv K o x v): ∃b,v=.ref b/\SqT K o.H b (k.map kV):=by
 cases x with
 |kt ks=>cases e;unfold Rv at h;obtain⟨a,e,h⟩:=h;exact⟨a,e,.of h⟩
 |tup l=>
  unfold Rv at h
  obtain⟨a,vs,e1,s,r⟩:=h
  exact⟨a,e1,by rw[<-kc (show optL keyOf l=some k from e) r];exact s⟩
 |_=>cases e
theorem sQ {pins:List (Addr×Obj)}{σ:St}{H:Hp}{s:Shared}{b:Addr}{k:List Key}(I:Inv X pins σ H s)(h:SqT X.K H b (k.map kV)):(tupleKind (bz X.prog X.w)).is s.heap k b:=by
 obtain⟨its,r,⟨o,h1,h2,n,h3⟩,_⟩:=I.tuple h
 exact⟨o,its.toArray,n,h1,h2,h3,by simpa using gL r⟩
theorem sY {pins:List (Addr×Obj)}{σ:St}{H:Hp}{s:Shared}{a b:Addr}{d:V}{r:Value}{kvs:List (List Key×V)}{k:List Key}{A:Around}{Ex:Value->Shared->Prop}{Q:Value->Shared->Prop}(hu:A.units+1<cLine)(I:Inv X pins σ H s)(e:Rd H a (.dT kvs))(eb:SqT X.K H b (k.map kV))(rd:RelV d r)(h:∀w' s',Inv X pins σ H s'->RelV ((valV kvs k).getD d) w'->Q w' s'):
  wpAny (model X.prog X.w) A (call (.builtin "dict.get") [.ref a,.ref b,r]) Q Ex s:=by
 obtain⟨z,hd,xs,rel,dd⟩:=lQ I.hok e
 refine call_meetsIn PySem.F.slot_dict_get dd.typeIs PySem.F.entry_dict_get (PySem.F.args_dict_get_3 _ _ _) (meetsH_dict_get_default (tupleKind (bz X.prog X.w)) a b hd r) ⟨tupleKind_room_in1 hu,k,xs,sQ I eb,dd,h _ _ (I.tok _) ?_⟩
 exact (rel.val k).getD rd
def uh (K:PySem.W.Frag)(td ty tx:TE):TE:=fun σ H Q=>td σ H fun x H1=> ∃a,x=.ref a/\IsD H1 a/\ty σ H1 fun y H2=>tx σ H2 fun z H3=> ∃kvs k b,Rd H3 a (.dT kvs)/\y=.ref b/\SqT K H3 b (k.map kV)/\Q ((valV kvs k).getD z) H3
theorem pV {td ty tx:TE}(hu:X.A.units+1<cLine)(ho:PE X o td)(he:PE X e ty)(hf:PE X f tx)(m:M2 X o "get" apos e f cpos):PE X (.Call (.Attribute o "get" apos) [e,f] [] cpos) (uh X.K td ty tx):=by
 intro pins s σ H Q I h
 refine wpAny_Call_method m.base m.few m.line PySem.F.plainAttrs_dict PySem.F.slot_dict_get PySem.F.type_dict_get (thn (ho pins s σ H _ I h) fun u s1 qz=>?_)
 obtain⟨x,H1,I1,rx,a,ex,d,q1⟩:=qz
 subst ex
 obtain rfl:u=Value.ref a:=rx
 obtain⟨t1,t2,_⟩:=vj I1 d
 refine⟨t1,t2,?_⟩
 rw[m.trees]
 refine Calls.callWith_builtin rfl (Calls.evalArgs_plain (Calls.spliced_cons (thn (he pins s1 σ H1 _ I1 q1) fun iv s2 ⟨y,H2,I2,ry,q2⟩=>
  Calls.spliced_cons (thn (hf pins s2 σ H2 _ I2 q2) fun fv s3 ⟨z,H3,I3,rz,kvs,k,b,e3,ey,eb,q3⟩=>Calls.spliced_nil ?_))))
 subst ey
 obtain rfl:iv=Value.ref b:=ry
 exact sY hu I3 e3 eb rz fun w' s4 I4 rw'=>⟨_,H3,I4,rw',q3⟩
def isDT (x:W):M W:=fun h=>match ditOf x h with
 |some _=>.ok x h
 |none=>.bad
def getT (x y d:W):M W:=fun h=>match ditOf x h with
 |some (ks,ws)=>match keyT y with
  |some k=>.ok ((atK ks ws k).getD d) h
  |none=>.bad
 |none=>.bad
def mGetT (fo fe ff:Env'->M W):Env'->M W:=fun ρ=>bd (fo ρ) fun x=>bd (isDT x) fun x=>bd (fe ρ) fun y=>bd (ff ρ) fun d=>getT x y d
theorem ie (hu:X.A.units+1<cLine)(ho:JE X E o fo)(he:JE X E e fe)(hf:JE X E f ff)(m:M2 X o "get" apos e f cpos:=by exact⟨rfl,rfl,rfl,rfl⟩):JE X E (.Call (.Attribute o "get" apos) [e,f] [] cpos) (mGetT fo fe ff):=
 (pV hu ho.h he.h hf.h m).imp fun σ H Q h=>by
  obtain⟨w,ρ,rfl,R,S,h⟩:=h
  refine⟨w,ρ,rfl,R,S,Ps.bd h fun p x vx e1 R1 r1 h1=>?_⟩
  unfold bd isDT at h1
  cases ed:ditOf x p.h with
  |none=>rw[ed] at h1;exact h1.elim
  |some kw=>
   obtain⟨ks0,ws0⟩:=kw
   rw[ed] at h1
   obtain⟨a,kvs0,rfl,d1,_,_⟩:=lS R1 ed r1
   refine⟨a,rfl,.inr ⟨kvs0,d1⟩,p,ρ,rfl,R1,S.mono R e1,Ps.bd (h:=h1) fun q y vy e2 R2 r2 h2=>⟨q,ρ,rfl,R2,(S.mono R e1).mono R1 e2,Ps.bd h2 fun s z vz e3 R3 r3 h3=>?_⟩⟩
   have rx:=(r1.mono R1 e2).mono R2 e3
   have ry:=r2.mono R2 e3
   unfold getT at h3
   cases eh:ditOf x s.h with
   |none=>rw[eh] at h3;exact h3.elim
   |some kw=>
    obtain⟨ks,ws⟩:=kw
    rw[eh] at h3
    cases ek:keyT y with
    |none=>simp only[ek] at h3;exact h3.elim
    |some k=>
     simp only[ek] at h3
     obtain⟨a',kvs,ea,g1,g2,g3⟩:=lS R3 eh rx
     cases ea
     obtain⟨b,rfl,sb⟩:=sR ek ry
     refine⟨kvs,k,b,g1,rfl,sb,?_⟩
     have hv:=gv (x:=k) g2 g3
     cases e4:atK ks ws k with
     |none=>
      rw[e4] at hv h3
      rw[show valV kvs k=none from hv]
      exact Ps.pr (c:=cg X E) (r:=Rv X.K) (a:=z) h3 R3 r3
     |some w=>
      rw[e4] at hv h3
      obtain⟨v,hv,rv⟩:=hv
      rw[show valV kvs k=some v from hv]
      exact Ps.pr (c:=cg X E) (r:=Rv X.K) (a:=w) h3 R3 rv
end
end L2
set_option maxHeartbeats 2000000
namespace L2
open PySem PySem.Spec PyProof.Rows
open Sem (wp)
open Builtin
noncomputable def F0 (f:Value):Prop:=f=.none\/ ∃T:Nat,f=rawInt T
section
variable {prog:Program}{w:World}{A:Around}{E:Value->Shared->Prop}{s:Shared}
end
section
variable {X:Cx}
end
end L2
set_option maxHeartbeats 2000000
namespace L2
open PySem PySem.Spec PyProof.Rows
section
variable {X:Cx}{E:XK}{p pos:Pos}
end
end L2
set_option maxHeartbeats 1000000
namespace L2
open PySem PySem.Spec PyProof.Rows
noncomputable abbrev KN:List (PKy×Addr×V)->List (PKy×Addr×Value)->Prop:=Paired fun p q=>p.1=q.1/\p.2.1=q.2.1/\RelV p.2.2 q.2.2
def kvN (xs:List (PKy×Addr×V)):List (PKy×V):=xs.map fun x=>(x.1,x.2.2)
def putPk (xs:List (PKy×Addr×V))(k:PKy)(c:Addr)(v:V):List (PKy×Addr×V):=
 if (xs.any fun x=>decide (x.1=k))=true then xs.map (fun x=>if x.1=k then (x.1,x.2.1,v) else x) else xs++[(k,c,v)]
theorem nz (xs:List (PKy×Addr×V))(k:PKy):((kvN xs).any fun kv=>decide (kv.1=k))=(xs.any fun x=>decide (x.1=k)):=by unfold kvN;rw[List.any_map];rfl
theorem nv (xs:List (PKy×Addr×V))(k:PKy)(c:Addr)(v:V):kvN (putPk xs k c v)=putK (kvN xs) k v:=by
 unfold putPk putK
 rw[nz]
 by_cases z:(xs.any fun x=>decide (x.1=k))=true
 ·rw[if_pos z,if_pos z]
  unfold kvN
  rw[List.map_map,List.map_map]
  refine List.map_congr_left fun x _=>?_
  show ((if x.1=k then (x.1,x.2.1,v) else x).1,(if x.1=k then (x.1,x.2.1,v) else x).2.2)=if x.1=k then (x.1,v) else (x.1,x.2.2)
  split<;>rfl
 ·rw[if_neg z,if_neg z]
  unfold kvN
  rw[List.map_append];rfl
theorem KN.val {xs:List (PKy×Addr×V)}{ys:List (PKy×Addr×Value)}(r:KN xs ys)(k:PKy):RelO (valV (kvN xs) k) ((atKey ys k).map (·.2)):=by
 induction r with
 |nil=>exact True.intro
 | @cons p q ps qs h t ih=>
   obtain⟨h1,_,h2⟩:=h
   show RelO (valV ((p.1,p.2.2)::kvN ps) k) _
   by_cases e:p.1=k
   ·have e':q.1=k:=h1.symm.trans e
    have b:atKey (q::qs) k=some q.2:=by simp [atKey,List.find?_cons,e']
    rw[fY (show (p.1,p.2.2).1=k from e),b];exact h2
   ·have e': ¬q.1=k:=fun z=>e (h1.trans z)
    have b:atKey (q::qs) k=atKey qs k:=by simp [atKey,List.find?_cons,e']
    rw[fZ (show¬(p.1,p.2.2).1=k from e),b];exact ih
theorem KN.repl {xs:List (PKy×Addr×V)}{ys:List (PKy×Addr×Value)}(r:KN xs ys)(k:PKy){y:V}{u:Value}(ry:RelV y u):
  KN (xs.map fun x=>if x.1=k then (x.1,x.2.1,y) else x) (ys.map (putAt k u)):=by
 induction r with
 |nil=>exact .nil
 | @cons p q ps qs h t ih=>
   rw[List.map_cons,List.map_cons]
   refine .cons ?_ ih
   obtain⟨h1,h2,h3⟩:=h
   unfold putAt
   by_cases e:p.1=k
   ·rw[if_pos e,if_pos (h1.symm.trans e)];exact⟨h1,h2,ry⟩
   ·rw[if_neg e,if_neg (fun z=>e (h1.trans z))];exact⟨h1,h2,h3⟩
theorem KN.put {xs:List (PKy×Addr×V)}{ys:List (PKy×Addr×Value)}(r:KN xs ys)(k:PKy){b:Addr}{y:V}{u:Value}(ry:RelV y u):KN (putPk xs k b y) (storedH ys k b u):=by
 have e:(xs.any fun x=>decide (x.1=k))=(atKey ys k).isSome:=by
  rw[<-nz,ir,(r.val k).isSome_eq,Option.isSome_map]
 unfold putPk storedH
 rw[e]
 by_cases q:(atKey ys k).isSome=true
 ·rw[if_pos q,if_pos q];exact r.repl k ry
 ·rw[if_neg q,if_neg q];exact Paired.snoc r ⟨rfl,rfl,ry⟩
theorem ol {xs:List (PKy×Addr×V)}{k:PKy}{c:Addr}{v:V}{x:PKy×Addr×V}(h:x∈putPk xs k c v):(∃y∈xs,y.1=x.1/\y.2.1=x.2.1)\/(x.1=k/\x.2.1=c):=by
 unfold putPk at h
 split at h
 ·obtain⟨y,hy,rfl⟩:=List.mem_map.mp h
  refine .inl ⟨y,hy,?_⟩
  split<;>exact⟨rfl,rfl⟩
 ·rcases List.mem_append.mp h with h|h
  ·exact .inl ⟨x,h,rfl,rfl⟩
  ·rw[List.mem_singleton.mp h];exact .inr ⟨rfl,rfl⟩
section
variable {X:Cx}{pins:List (Addr×Obj)}{σ:St}{H:Hp}{s:Shared}{a c:Addr}{b:Bool}{k:PKy}{xs:List (PKy×Addr×V)}{A:Around}{Ex:Value->Shared->Prop}
theorem iW: ∀ {ks:List Int}{us:List Value},Vals (ks.map V.int) us->ItemsAre (intKind X.prog X.w) ks us
 |[],_,r=>by rw[List.map_nil] at r;cases r;exact .nil
 |k::ks,_,r=>by
  rw[List.map_cons] at r
  cases r with
  |cons h t=>
   obtain⟨tk,e⟩:=(show∃t,_=Value.int k t from h)
   subst e
   exact .cons (by simp [intKind,Value.isInt]) (iW t)
theorem fB (I:Inv X pins σ H s)(h:KeyN X.K H b c k):IsPk X.prog X.w b s.heap k c:=by
 obtain⟨d,h1,h2⟩:=h
 obtain⟨its2,r2,⟨o2,g1,g2,n2,g3⟩,_⟩:=I.tuple h2
 obtain⟨its,r,⟨o,q1,q2,n,q3⟩,_⟩:=I.tuple h1
 have kd:IsTupleKey (intKind X.prog X.w) s.heap k.2 d:=⟨o2,its2.toArray,n2,g1,g2,g3,by simpa using iW r2⟩
 cases b with
 |false=>
  obtain⟨u,v,rfl,ru,rv⟩:=r.two
  cases rv
  obtain⟨t,e⟩:=(show∃t,u=Value.int k.1 t from ru)
  subst e
  exact⟨o,_,n,d,_,q1,q2,q3,kd,by simp [Value.isInt],rfl⟩
 |true=>
  obtain⟨u,v,rfl,ru,rv⟩:=r.two
  cases ru
  obtain⟨t,e⟩:=(show∃t,v=Value.int k.1 t from rv)
  subst e
  exact⟨o,_,n,d,_,q1,q2,q3,kd,by simp [Value.isInt],rfl⟩
theorem jF (I:Inv X pins σ H s){ep:Nat}(e:H a=some (.dN b xs ep))(hk: ∀x∈xs,KeyN X.K H b x.2.1 x.1):xs.length<=sizeLine/\(a==sysModules)=false/\ ∃ys,KN xs ys/\s.heap.DictOfH (gE X.prog X.w b) a ys:=by
 obtain⟨z,y,ys,r,o,es,h1,h2,h3,h4,h5⟩:=(show ObjOk X.prog X.w H s.heap a (.dN b xs ep) from I.hok a _ e)
 refine⟨z,y,ys,r,o,es,ep,h1,h2,h3,h4,?_,h5⟩
 clear h4 h5 e
 induction r with
 |nil=>intro x hx;exact nomatch hx
 | @cons p q ps qs hq t ih=>
   intro x hx
   rcases List.mem_cons.mp hx with e|hx
   ·subst e
    have:=fB I (hk p List.mem_cons_self)
    rw[<-hq.1,<-hq.2.1]
    exact this
   ·exact ih (fun x hx=>hk x (List.mem_cons_of_mem _ hx)) (by rw[List.length_cons] at z;omega) x hx
theorem ou {v:V}{Q:Value->Shared->Prop}(hu:A.units+2<cLine)(I:Inv X pins σ H s){ep:Nat}(e:H a=some (.dN b xs ep))(hk: ∀x∈xs,KeyN X.K H b x.2.1 x.1)(hc:KeyN X.K H b c k)(l:valV (kvN xs) k=some v)(h:∀w' s',Inv X pins σ H s'->RelV v w'->Q w' s'):
  wpAny (model X.prog X.w) A (getItem (.ref a) (.ref c)) Q Ex s:=by
 obtain⟨z,hd,ys,rel,dd⟩:=jF I e hk
 obtain⟨w',hw,rw'⟩:=RelO.some_of (v:=v) (o:=(atKey ys k).map (·.2)) (by rw[<-l];exact rel.val k)
 obtain⟨p,hp,hp2⟩:=Option.map_eq_some_iff.mp hw
 refine wpAny_getItem_heap (knd:=gE X.prog X.w b) hu (fB I hc) dd hp ?_
 rw[hp2]
 exact h w' _ (I.tok _) rw'
theorem ot {v:V}{r:Value}{Q:Unit->Shared->Prop}(hu:A.units+2<cLine)(I:Inv X pins σ H s){ep:Nat}(e:H a=some (.dN b xs ep))(hk: ∀x∈xs,KeyN X.K H b x.2.1 x.1)(hc:KeyN X.K H b c k)(l:xs.length<sizeLine)(rv:RelV v r)(h:∀s' ep',Inv X pins σ (upd H a (.dN b (putPk xs k c v) ep')) s'->Q () s'):
  wpAny (model X.prog X.w) A (setItem (.ref a) (.ref c) r) Q Ex s:=by
 obtain⟨z,hd,ys,rel,dd⟩:=jF I e hk
 have hz:ys.length<=sizeLine:=by rw[<-Paired.length rel];exact z
 have hl:(putPk xs k c v).length<=sizeLine:=by
  have:=eY (kvN xs) k v
  rw[<-nv xs k c v] at this
  unfold kvN at this
  rw[List.length_map,List.length_map] at this
  omega
 refine wpAny_setItem_heap (hsz:=hz) (knd:=gE X.prog X.w b) hu (fB I hc) dd fun h' dd' hs=>?_
 obtain⟨q,es,ep2,hq,h2,h3,h4,_,h5⟩:=dd'
 refine h _ ep2 ?_
 exact io I (by rw[e];exact True.intro) hs ⟨q,hq⟩ ⟨hl,hd,_,rel.put k rv,q,es,hq,h2,h3,h4,h5⟩
end
section
variable {X:Cx}{E:XK}{a b:Expr}{pos:Pos}{fa fb fv:Env'->M W}
def dinOf (w:W)(h:List Ob):Option (Bool×List PKy×List W):=match w with
 |.loc k=>match h[k]? with
  |some (.din b ks ws)=>some (b,ks,ws)
  |_=>none
 |.dn b ks ws=>some (b,ks,ws)
 |_=>none
theorem lT {o:Wo}{w:W}{v:V}{b:Bool}{ks:List PKy}{ws:List W}(R:Rel X.K o)(e:dinOf w o.h=some (b,ks,ws))(h:Rv X.K o w v): ∃a xs ep,v=.ref a/\o.H a=some (.dN b xs ep)/\xs.map (·.1)=ks/\(∀x∈xs,KeyN X.K o.H b x.2.1 x.1)/\Rvs X.K o ws (xs.map (·.2.2)):=by
 cases w with
 |loc k=>
  unfold dinOf at e
  dsimp only at e
  split at e
  ·rename_i b' ks' ws' hk
   cases e
   unfold Rv at h
   obtain⟨xs,h1,h2,h3,h4⟩:=R.ob k _ hk
   exact⟨_,xs.1,xs.2,h.2,h1,h2,h3,h4⟩
  ·cases e
 |dn b' ks' ws'=>
  unfold dinOf at e
  cases e
  unfold Rv at h
  obtain⟨a,xs,e,h1,_,h2,h3,h4⟩:=h
  exact⟨a,xs.1,xs.2,e,h1,h2,h3,h4⟩
 |_=>cases e
def keyN (b:Bool)(w:W):Option PKy:=match b,w with
 |false,.tup [.int i,.tup l]=>(optL iOf l).map fun ns=>(i,ns)
 |true,.tup [.tup l,.int i]=>(optL iOf l).map fun ns=>(i,ns)
 |_,_=>none
theorem ii {o:Wo}{b:Bool}{w:W}{v:V}{k:PKy}(e:keyN b w=some k)(h:Rv X.K o w v): ∃c,v=.ref c/\KeyN X.K o.H b c k:=by
 unfold keyN at e
 split at e
 ·rename_i i l
  obtain⟨ns,e1,rfl⟩:=Option.map_eq_some_iff.mp e
  unfold Rv at h
  obtain⟨c,vs,rfl,s,r⟩:=h
  obtain⟨u,v,rfl,ru,rv⟩:=r.two
  unfold Rv at rv
  obtain⟨d,us,rfl,s2,r2⟩:=rv
  have eu:=rv_int.mp ru
  subst eu
  have e2:us=ns.map V.int:=dP iX e1 r2
  subst e2
  exact⟨c,rfl,d,s,s2⟩
 ·rename_i l i
  obtain⟨ns,e1,rfl⟩:=Option.map_eq_some_iff.mp e
  unfold Rv at h
  obtain⟨c,vs,rfl,s,r⟩:=h
  obtain⟨u,v,rfl,ru,rv⟩:=r.two
  unfold Rv at ru
  obtain⟨d,us,rfl,s2,r2⟩:=ru
  have eu:=rv_int.mp rv
  subst eu
  have e2:us=ns.map V.int:=dP iX e1 r2
  subst e2
  exact⟨c,rfl,d,s,s2⟩
 ·cases e
def ug (b:Bool):TE:=fun _ H Q=> ∀p,H p=none->Q (.ref p) (upd H p (.dN b [] 0))
theorem lR {P:Program}{w:World}{H:Hp}(b:Bool)(h:Heap)(hb:sysModules<h.objs.size):ObjOk P w H (h.push {cls:=.type "dict",data:=.dict #[]}) h.objs.size (.dN b [] 0):=
 ⟨Nat.zero_le _,beq_eq_false_iff_ne.mpr (Ne.symm (Nat.ne_of_lt hb)),[],.nil,_,#[],Heap.get?_push_size _ rfl,⟨rfl,rfl,rfl⟩,rfl,rfl,List.nodup_nil⟩
theorem pT (b:Bool):PE X (.Dict [] [] pos) (ug b):=fun pins s σ H Q I h=>
 wpAny_Dict_empty ⟨.ref s.heap.objs.size,_,I.laid (a:=s.heap.objs.size) (o:=.dN b [] 0) (t':=s.toks) (fun _ _ q=>Heap.get?_push_of_some _ q) (Nat.le_refl _) (lR b s.heap I.big),rfl,h _ (I.hok.fresh (Nat.le_refl _))⟩
def ka (b:Bool):Env'->M W:=fun _ h=>.ok (.loc h.length) (h++[.din b [] []])
theorem qB (b:Bool):JE X E (.Dict [] [] pos) (ka b):=(pT b).imp fun σ H Q h=>by
 obtain⟨o,ρ,rfl,R,S,h⟩:=h
 intro q hq
 exact Ps.at (p:=o.add q (.din b [] []) (.dN b [] 0)) h rfl (Ex.add hq) (R.add hq ⟨([],0),aU,rfl,fun _ hx=>absurd hx List.not_mem_nil,Rvs.nil⟩) Rv.addLoc
def rIxN (K:PySem.W.Frag):R2:=fun x y H Q=> ∃a b xs ep c k v,x=.ref a/\y=.ref c/\H a=some (.dN b xs ep)/\(∀x∈xs,KeyN K H b x.2.1 x.1)/\KeyN K H b c k/\valV (kvN xs) k=some v/\Q v H
theorem wu (hu:X.A.units+2<cLine):IxR X (rIxN X.K):=by
 intro value slice pins s σ H x y v u Q I rx ry h hs
 obtain⟨a,b,xs,ep,c,k,z,rfl,rfl,e,hk,hc,l,q⟩:=h
 cases rx
 cases ry
 obtain⟨_,_,ys,_,dd⟩:=jF I e hk
 exact tail_any dd.typeIs PySem.F.slot_dict_getitem.lookup (ou hu I e hk hc l fun w' s3 I3 rw'=>⟨z,H,I3,rw',q⟩) hs
def ixN' (x y:W):M W:=fun h=>match dinOf x h with
 |some (b,ks,ws)=>match keyN b y with
  |some k=>match atK ks ws k with
   |some w=>.ok w h
   |none=>.bad
  |none=>.bad
 |none=>.bad
theorem sv:OpM X E (rIxN X.K) ixN':=by
 intro o x y vx vy Q R rx ry h
 unfold ixN' at h
 cases e1:dinOf x o.h with
 |none=>rw[e1] at h;exact h.elim
 |some t=>
  obtain⟨b,ks,ws⟩:=t
  rw[e1] at h
  cases e2:keyN b y with
  |none=>simp only[e2] at h;exact h.elim
  |some k=>
   simp only[e2] at h
   cases e3:atK ks ws k with
   |none=>simp only[e3] at h;exact h.elim
   |some w=>
    simp only[e3] at h
    obtain⟨a,xs,ep,rfl,g1,g2,g3,g4⟩:=lT R e1 rx
    obtain⟨c,rfl,hc⟩:=ii e2 ry
    have hv:=gv (x:=k) (kvs:=kvN xs) (ks:=ks) (ws:=ws) (by unfold kvN;rw[List.map_map];exact g2) (by unfold kvN;rw[List.map_map];exact g4)
    rw[e3] at hv
    obtain⟨v,hv,rv⟩:=hv
    exact⟨a,b,xs,ep,c,k,v,rfl,rfl,g1,g3,hc,hv,Ps.pr (c:=cg X E) (r:=Rv X.K) (a:=w) h R rv⟩
theorem j7 (hu:X.A.units+64<cLine)(ha:JE X E a fa)(hb:JE X E b fb)(hs:kE b):JE X E (.Subscript a b pos) (m2 ixN' fa fb):=
 (tH (wu (Nat.lt_of_le_of_lt (Nat.add_le_add_left (by decide:2<=64) _) hu)) ha.h hb.h hs).imp fun _ _ _ h=>pq sv h
def rSetN (K:PySem.W.Frag):TSet:=fun o i v H Q=> ∃a b xs ep c k,o=.ref a/\i=.ref c/\H a=some (.dN b xs ep)/\(∀x∈xs,KeyN K H b x.2.1 x.1)/\KeyN K H b c k/\xs.length<sizeLine/\ ∀ep',Q (upd H a (.dN b (putPk xs k c v) ep'))
theorem vP (hu:X.A.units+2<cLine):PSet X (rSetN X.K):=by
 intro pins s σ H o i v ov iv u Q I ro ri rv h
 obtain⟨a,b,xs,ep,c,k,rfl,rfl,e,hk,hc,l,q⟩:=h
 cases ro
 cases ri
 exact ot hu I e hk hc l rv fun s4 ep' I4=>⟨_,I4,q ep'⟩
def jL (x i v:W):M Unit:=match x with
 |.loc j=>fun h=>match h[j]? with
  |some (.din b ks ws)=>match keyN b i with
   |some k=>if ks.length<sizeLine then .ok () (h.set j (.din b (putW ks ws k v).1 (putW ks ws k v).2)) else .bad
   |none=>.bad
  |_=>.bad
 |_=>no
def fq (fo fi fv:Env'->M W):Env'->M Fl:=fun ρ=>bd (fv ρ) fun v=>bd (fo ρ) fun x=>bd (fi ρ) fun i=>bd (jL x i v) fun _=>pr (.nx ρ)
theorem jw {o i value:Expr}{tpos:Pos}{fo fi:Env'->M W}(hu:X.A.units+64<cLine)(ho:JE X E o fo)(hi:JE X E i fi)(hv:JE X E value fv)
  (ha: ∀v,assign (.Subscript o i tpos) X.env v=(do
   let ov<-holding [v] (eval o X.env)
   let iv<-holding [v,ov] (eval i X.env)
   standAt tpos
   holding [v,ov,iv] (setItem ov iv v)
   release [v,ov,iv] []):=by intro _;rfl)
  (hs:swapsWithSole [.Subscript o i tpos] value pos.line X.env=pure false:=by rfl)(hw:swappedStores [.Subscript o i tpos] value X.env=pure none:=by rfl)
  (h1:(assignEach [.Subscript o i tpos] X.env).map (·.2)=[assign (.Subscript o i tpos) X.env]:=by rfl):JS X E (.Assign [.Subscript o i tpos] value pos) (fq fo fi fv):=
 (pK hv.h (pO ho.h hi.h (vP (Nat.lt_of_le_of_lt (Nat.add_le_add_left (by decide:2<=64) _) hu)) ha) hs hw h1).imp fun D σ H h=>by
  obtain⟨w,ρ,rfl,R,S,h⟩:=h
  refine⟨w,ρ,rfl,R,S,Ps.bd h fun p v vv e1 R1 r1 h1=>⟨p,ρ,rfl,R1,S.mono R e1,Ps.bd h1 fun q x vx e2 R2 r2 h2=>⟨q,ρ,rfl,R2,(S.mono R e1).mono R1 e2,Ps.bd h2 fun s i vi e3 R3 r3 h3=>?_⟩⟩⟩
  have S3:=((S.mono R e1).mono R1 e2).mono R2 e3
  have rv:=(r1.mono R1 e2).mono R2 e3
  have rx:=r2.mono R2 e3
  cases x with
  |loc j=>
   unfold Rv at rx
   obtain⟨hj,rfl⟩:=rx
   unfold jL bd at h3
   cases e:s.h[j]? with
   |none=>simp only[e] at h3;exact h3.elim
   |some ob=>
    cases ob with
    |din b ks ws=>
     simp only[e] at h3
     cases ek:keyN b i with
     |none=>simp only[ek] at h3;exact h3.elim
     |some k=>
      simp only[ek] at h3
      by_cases z:ks.length<sizeLine
      ·simp only[if_pos z] at h3
       obtain⟨⟨xs,ep⟩,g1,g2,g3,g4⟩:=R3.ob j _ e
       dsimp only at g1 g2 g3 g4
       obtain⟨c,rfl,hc⟩:=ii ek r3
       obtain⟨b1,b2⟩:=jT (x:=k) (kvs:=kvN xs) (ks:=ks) (ws:=ws) rv (by unfold kvN;rw[List.map_map];exact g2) (by unfold kvN;rw[List.map_map];exact g4)
       rw[<-nv xs k c vv] at b1 b2
       unfold kvN at b1 b2
       rw[List.map_map] at b1 b2
       refine⟨_,b,xs,ep,c,k,rfl,rfl,g1,g3,hc,by rw[<-g2,List.length_map] at z;exact z,fun ep'=>?_⟩
       refine Ps.at (p:=s.put j (.din b (putW ks ws k v).1 (putW ks ws k v).2) (.dN b (putPk xs k c vv) ep')) (b:=FlV.nx σ) h3 rfl (Ex.put e (by simp)) (R3.putN e (by simp) b1 (fun x hx=>?_) b2) ⟨σ,rfl,S3.mono R3 (Ex.put e (by simp))⟩
       rcases ol hx with⟨y,hy,q1,q2⟩|⟨q1,q2⟩
       ·rw[<-q1,<-q2];exact g3 y hy
       ·rw[q1,q2];exact hc
      ·simp only[if_neg z] at h3;exact h3.elim
    |_=>simp only[e] at h3;exact h3.elim
  |_=>exact h3.elim
end
end L2
set_option maxHeartbeats 1000000
namespace L2
open PySem PySem.Spec PyProof.Rows
theorem pL (its:List Value):slicePick its.toArray none none (some (-1))=its.reverse.toArray:=by
 unfold slicePick
 have hb:sliceBounds none none (some (-1)) its.toArray.size=(((its.length:Nat):Int) - 1,-1,-1):=by
  rw[List.size_toArray];rfl
 rw[hb]
 show ((sliceRange (((its.length:Nat):Int) - 1) (-1) (-1)).filterMap (its.toArray[·]?)).toArray=_
 congr 1
 have hr:sliceRange (((its.length:Nat):Int) - 1) (-1) (-1)=(List.range its.length).map fun k=>its.length - 1 - k:=by
  unfold sliceRange
  have c:(if (-1:Int)>0 then (if ((its.length:Nat):Int) - 1< -1 then (-1 - (((its.length:Nat):Int) - 1)+ -1 - 1) / -1 else 0) else (if ((its.length:Nat):Int) - 1> -1 then (((its.length:Nat):Int) - 1 - -1 - -1 - 1) / (- -1) else 0)).toNat=its.length:=by
   rw[if_neg (by decide)]
   by_cases z:((its.length:Nat):Int) - 1> -1
   ·rw[if_pos z,show (- -1:Int)=1 by decide,Int.ediv_one];omega
   ·rw[if_neg z];omega
  show (List.range (if (-1:Int)>0 then (if ((its.length:Nat):Int) - 1< -1 then (-1 - (((its.length:Nat):Int) - 1)+ -1 - 1) / -1 else 0) else (if ((its.length:Nat):Int) - 1> -1 then (((its.length:Nat):Int) - 1 - -1 - -1 - 1) / (- -1) else 0)).toNat).map _=_
  rw[c]
  refine List.map_congr_left fun k hk=>?_
  have:=List.mem_range.mp hk
  show (((its.length:Nat):Int) - 1+ -1 * (k:Int)).toNat=its.length - 1 - k
  omega
 rw[hr]
 apply List.ext_getElem?
 intro i
 have hall: ∀ (n:Nat),n<=its.length->((List.range n).map fun k=>its.length - 1 - k).filterMap (its.toArray[·]?)=its.reverse.take n:=by
  intro n
  induction n with
  |zero=>intro _;rfl
  |succ n ih=>
   intro hn
   have e1:its.reverse[n]?=some (its[its.length - 1 - n]'(by omega)):=by
    rw[List.getElem?_reverse (by omega),List.getElem?_eq_getElem]
   rw[List.range_succ,List.map_append,List.filterMap_append,ih (by omega),List.take_succ,e1]
   congr 1
   show List.filterMap (its.toArray[·]?) [its.length - 1 - n]=[its[its.length - 1 - n]'(by omega)]
   rw[List.filterMap_cons]
   rw[List.getElem?_toArray,List.getElem?_eq_getElem (by omega)]
   rfl
 rw[hall its.length (Nat.le_refl _),<-List.length_reverse,List.take_length]
section
variable {X:Cx}{E:XK}{e st:Expr}{te:TE}{ts:TO}{pos p2:Pos}{fa:Env'->M W}{fs:Env'->M (Option Int)}
def tRev (K:PySem.W.Frag)(te:TE)(ts:TO):TE:=fun σ H Q=>te σ H fun x H1=>ts σ H1 fun o H2=>o=some (-1)/\ ∃a xs,x=.ref a/\SqL K H2 a xs/\ ∀p,H2 p=none->Q (.ref p) (upd H2 p (.lst xs.reverse))
theorem uG (he:PE X e te)(hs:PO X (some st) ts):PE X (.Subscript e (.Slice none none (some st) p2) pos) (tRev X.K te ts):=by
 intro pins s σ H Q I h
 refine Subscript_ (thn (he pins s σ H _ I h) fun v s1 qz=>?_)
 obtain⟨x,H1,I1,r1,q1⟩:=qz
 refine wpAny_Slice ?_
 rw[evalPart_none]
 refine wpAny_pure (wpAny_pure (thn (hs pins s1 σ H1 _ I1 q1) fun vs s3 qz=>?_))
 obtain⟨u,H3,I3,pu,q3⟩:=qz
 obtain⟨rfl,a,xs,rfl,hx,q⟩:=q3
 cases r1
 have I4:Inv X pins σ H3 {s3 with heap:=s3.heap.push {cls:=.type "slice",data:=.fields #[.none,.none,vs]}}:=I3.kept (t':=s3.toks) fun b ob q=>Heap.get?_push_of_some _ q
 show wpAny (model X.prog X.w) X.A (subscriptTail e (.Slice none none (some st) p2) (.ref a) (.ref s3.heap.objs.size)) (EP X pins σ Q) X.xe {s3 with heap:=s3.heap.push {cls:=.type "slice",data:=.fields #[.none,.none,vs]}}
 obtain⟨its,r,ht,hz⟩:=I4.list hx
 have hlen:=r.length
 refine tail_any (ops:=[.ref a,.ref s3.heap.objs.size]) ht.isList.typeIs slot_list_getitem.lookup ?_ (by with_unfolding_all rfl)
 refine wpAny_getItem_list_slice ht.isList (Heap.IsSliceOf.new ..) .none .none pu (by simp) ?_ (by rw[List.size_toArray]<;>omega)
 rw[pL]
 refine⟨.ref _,_,I4.laid (t':=s3.toks) (o:=.lst xs.reverse) (fun b ob q=>Heap.get?_push_of_some _ q) (Nat.le_refl _) ?_,rfl,q _ (I4.hok.fresh (Nat.le_refl _))⟩
 exact⟨by rw[List.length_reverse];exact hz,_,0,r.reverse,Heap.get?_push_size _ rfl⟩
theorem Rvs.reverse {K:PySem.W.Frag}{o:Wo}: ∀ {l:List W}{vs:List V},Rvs K o l vs->Rvs K o l.reverse vs.reverse
 |[],vs,h=>by unfold Rvs at h;subst h;exact Rvs.nil
 |w::l,vs,h=>by
  unfold Rvs at h
  obtain⟨v,r,rfl,h1,h2⟩:=h
  rw[List.reverse_cons,List.reverse_cons]
  exact (Rvs.reverse h2).app (Rvs.cons h1 Rvs.nil)
def revW (x:W)(o:Option Int):M W:=match o with
 |some (-1)=>bd (lstOf x) fun l=>pr (.tl l.reverse)
 |_=>no
def mRev (fa:Env'->M W)(fs:Env'->M (Option Int)):Env'->M W:=fun ρ=>bd (fa ρ) fun x=>bd (fs ρ) fun o=>revW x o
theorem u4 (he:JE X E e fa)(hs:JO X E (some st) fs):JE X E (.Subscript e (.Slice none none (some st) p2) pos) (mRev fa fs):=(uG he.h hs.h).imp fun σ H Q h=>by
 obtain⟨o,ρ,rfl,R,S,h⟩:=h
 refine⟨o,ρ,rfl,R,S,Ps.bd h fun p x vx e1 R1 r1 h1=>⟨p,ρ,rfl,R1,S.mono R e1,Ps.bd h1 fun q a va e2 R2 r2 h2=>?_⟩⟩
 subst r2
 have rx:=r1.mono R1 e2
 unfold revW at h2
 split at h2
 ·obtain⟨l,a',vs,rfl,s,r,h2⟩:=bD R2 rx h2
  exact⟨rfl,a',vs,rfl,s,fun q' hq=>fu R2 hq r.reverse h2⟩
 ·exact h2.elim
end
end L2
set_option maxHeartbeats 1000000
namespace L2
open PySem PySem.Spec PyProof.Rows
open Sem (wp)
open AutoSeq1 (wpAny_loadPart')
section
variable {prog:Program}{w:World}{A:Around}{E:Value->Shared->Prop}{s:Shared}
theorem jk {Q:List Value->Shared->Prop}{r:Addr}{a b c:Int}{t u v:Tok}{n:Nat}(hh:A.handled=none)(hr:IsRange s.heap r a b c t u v)(hsmall:Builtin.Range.small a b c=true)
  (hn:Builtin.Range.rangeSize a b c=n)(hlen:n<=2 ^ 24)
  (hQ: ∀ (h':Heap) (tk:Nat) (acc':Array Value),(∀b o',s.heap.get? b=some o'->h'.get? b=some o')->ItemsOf (fun i v=> ∃t,v=.int (a+i * c) t) acc' n->Q acc'.toList {s with heap:=h',toks:=tk}):
  wpAny (model prog w) A (collect (.ref r)) Q E s:=by
 unfold collect
 refine wpAny_bind (wpAny_runValue (codeAny_builtin F.entry_proto_collect ?_))
 rw[Around.under_plainId F.plain_proto_collect _]
 show wpAny _ A.in1 (newList []>>=fun l=>again (.builtin "list.__iadd__" ⟨[l,.ref r],[]⟩)) _ _ s
 refine wpAny_bind (wpAny_newObj_type ?_)
 refine wpAny_pure ⟨plainId_quiet F.plain_list_iadd _,codeAny_builtin F.entry_list_iadd ?_⟩
 rw[Around.under_plainId F.plain_list_iadd _]
 show wpAny _ A.in1 (Builtin.List.listExtendWith (.ref s.heap.objs.size) (.ref r) (.ref s.heap.objs.size)) _ _ _
 have hS:(s.heap.push {cls:=.type "list",data:=.seq ([]:List Value).toArray}).get? s.heap.objs.size=some {cls:=.type "list",data:=.seq #[] 0}:=Heap.get?_push_size _ rfl
 refine wpAny_mono (wpAny_extend_range (A:=A) (R:=fun re s'=> ∃h' tk acc' c',re=.ok (.ret (.ref s.heap.objs.size))/\s'={s with heap:=h',toks:=tk}/\(∀b o',s.heap.get? b=some o'->h'.get? b=some o')/\h'.get? s.heap.objs.size=some {cls:=.type "list",dict:=none,data:=.seq acc' c',slots:= #[]}/\ItemsOf (fun i v=> ∃t,v=.int (a+i * c) t) acc' n)
  (s:={s with heap:=s.heap.push {cls:=.type "list",data:=.seq ([]:List Value).toArray}}) hh (Heap.get?_push_of_some _ hr) hsmall hn hlen _ _ 0 hS fun h' tk acc' c' hk hS' hacc=>⟨h',tk,acc',c',rfl,rfl,fun b o' hb=>hk b o' (Nat.ne_of_lt (Heap.lt_size hb)) (Heap.get?_push_of_some _ hb),hS',hacc⟩) (fun fin s' h=>?_) (fun e s' h=>?_)
 ·have fin': ∀ {re:Result}{s':Shared},(∃h' tk acc' c',re=.ok (.ret (.ref s.heap.objs.size))/\s'={s with heap:=h',toks:=tk}/\(∀b o',s.heap.get? b=some o'->h'.get? b=some o')/\h'.get? s.heap.objs.size=some {cls:=.type "list",dict:=none,data:=.seq acc' c',slots:= #[]}/\ItemsOf (fun i v=> ∃t,v=.int (a+i * c) t) acc' n)->re=.ok (.ret (.ref s.heap.objs.size))/\wpAny (model prog w) A (match Value.ref s.heap.objs.size with
   |Value.ref a=>do
    match (<-load a).data with
     |Data.seq xs _=>pure xs.toList
     |_=>unsupported "internal:collect"
   |_=>unsupported "internal:collect") Q E s':=by
   rintro re s' ⟨h',tk,acc',c',rfl,rfl,hk,hS',hacc⟩
   refine⟨rfl,?_⟩
   show wpAny _ A (load s.heap.objs.size>>=_) _ _ _
   refine wpAny_bind (wpAny_load hS' ?_)
   exact wpAny_pure (hQ h' tk acc' hk hacc)
  cases fin with
  |done f=>
   obtain⟨e,q⟩:=fin' h
   cases e
   exact q
  |again c'=>exact⟨h.1,codeAny_mono h.2 fun re s'' hr=>by
   obtain⟨e,q⟩:=fin' hr
   subst e
   exact q⟩
 ·obtain⟨_,_,_,_,e,_⟩:=h
  cases e
end
theorem gq (r:Addr)(a b c:Int)(t u v:Tok)(n:Nat)(hsmall:Builtin.Range.small a b c=true)(hn:Builtin.Range.rangeSize a b c=n)(hlen:n<=2 ^ 24)(hz:n<=sizeLine):
  Meets (Builtin.«tuple.__new__» ⟨[.type "tuple",.ref r],[]⟩)
   (fun A R s=>A.handled=none/\IsRange s.heap r a b c t u v/\ ∀ (h':Heap) (tk:Nat) (acc':Array Value),(∀b o',s.heap.get? b=some o'->h'.get? b=some o')->ItemsOf (fun i v=> ∃t,v=.int (a+i * c) t) acc' n->R (.ok (.ret (.ref h'.objs.size))) {s with heap:=h'.push {cls:=.type "tuple",data:=.seq acc'},toks:=tk}):=
 .of_wp fun prog w A R s h=>by
  obtain⟨hp,g,d,tk,os⟩:=s;obtain⟨hh,ht,h⟩:=h
  have hsub:=sub_tuple_self
  have hinit:=init_tuple_lookup
  have hmh:=madeHere_tuple
  have hT:Shared.TypeIs ⟨hp,g,d,tk,os⟩ (.ref r) "range":=⟨_,ht,rfl⟩
  wp_walk using wpAny_loadPart' ht,wpAny_typeOf hT,jk (A:=A.in1) hh ht hsmall hn hlen
  intro h' tk' acc' hk hacc
  show wpAny _ _ (Builtin.Tuple.tupleExact acc'.toList.toArray>>=fun v=>ret v) _ _ _
  unfold Builtin.Tuple.tupleExact
  refine wpAny_bind (wpAny_newObj_type ?_ (by show acc'.toList.toArray.size<=sizeLine;have:=hacc.1;simp only[Array.toArray_toList];omega))
  refine wpAny_pure ⟨_,rfl,?_⟩
  have e:acc'.toList.toArray=acc':=by simp
  rw[e]
  exact h h' tk' acc' hk hacc
section
variable {prog:Program}{w:World}{A:Around}{E:Value->Shared->Prop}{s:Shared}
theorem gP {r:Addr}{a b c:Int}{t u v:Tok}{n:Nat}{Q:Value->Shared->Prop}(hh:A.handled=none)(hr:IsRange s.heap r a b c t u v)(hsmall:Builtin.Range.small a b c=true)
  (hn:Builtin.Range.rangeSize a b c=n)(hlen:n<=2 ^ 24)(hz:n<=sizeLine)
  (h:∀ (h':Heap) (tk:Nat) (acc':Array Value),(∀b o',s.heap.get? b=some o'->h'.get? b=some o')->ItemsOf (fun i v=> ∃t,v=.int (a+i * c) t) acc' n->Q (.ref h'.objs.size) {s with heap:=h'.push {cls:=.type "tuple",data:=.seq acc'},toks:=tk}):
  wpAny (model prog w) A (call (.type "tuple") [.ref r]) Q E s:=
 callType_new F.called_tuple (by decide) (F.typeCall_tuple_1 _) (F.newCall_tuple_1 _) (fun obj=>F.args_object_init_2 obj _) F.entry_tuple_new
  (gq r a b c t u v n hsmall hn hlen hz) ⟨hh,hr,fun h' tk acc' hk hacc=>⟨⟨_,Heap.get?_push_size _ rfl,rfl⟩,h h' tk acc' hk hacc⟩⟩
end
section
variable {X:Cx}{E:XK}{a b:Expr}{p p2 pos pos2:Pos}
end
end L2
set_option maxHeartbeats 1000000
namespace L2
open PySem PySem.Spec PyProof.Rows
open Sem (wp)
section
variable {prog:Program}{w:World}{A:Around}{E:Value->Shared->Prop}{s:Shared}
end
section
variable {X:Cx}{pins:List (Addr×Obj)}{σ:St}{H:Hp}{s:Shared}
end
section
variable {X:Cx}{a b:Expr}{p p2 pos pos2:Pos}
end
end L2
set_option maxHeartbeats 1000000
namespace L2
open PySem PySem.Spec PyProof.Rows
section
variable {X:Cx}{E:XK}
def lzW (ws:List W):M W:=match ws with
 |[.tup l,.tup m]=>gd (min l.length m.length<sizeLine) (pr (.tl (zipW l m)))
 |_=>no
open Classical in
noncomputable def eqK (prog:Program)(w:World)(h:Heap)(ns:List Int)(u:Value):Bool:=match u with
 |.ref c=>decide (IsTupleKey (intKind prog w) h ns c)
 |_=>false
open Classical in
noncomputable def maxZ:List Int->Int
 |[]=>0
 |[a]=>a
 |a::l=>if maxZ l<a then a else maxZ l
theorem lI: ∀ {l:List Int},l≠ []->maxZ l∈l/\ ∀x∈l,x<=maxZ l
 |[],h=>absurd rfl h
 |[a],_=>⟨List.mem_singleton.mpr rfl,fun x hx=>by rw[List.mem_singleton.mp hx];exact Int.le_refl _⟩
 |a::b::l,_=>by
  obtain⟨h1,h2⟩:=lI (l:=b::l) (by simp)
  show (if maxZ (b::l)<a then a else maxZ (b::l))∈_/\ ∀x∈_,x<=(if maxZ (b::l)<a then a else maxZ (b::l))
  by_cases c:maxZ (b::l)<a
  ·rw[if_pos c]
   refine⟨List.mem_cons_self,fun x hx=>?_⟩
   rcases List.mem_cons.mp hx with rfl|hx
   ·exact Int.le_refl _
   ·have:=h2 x hx;omega
  ·rw[if_neg c]
   refine⟨List.mem_cons_of_mem _ h1,fun x hx=>?_⟩
   rcases List.mem_cons.mp hx with rfl|hx
   ·omega
   ·exact h2 x hx
theorem i6 (bt:Nat->Nat->Bool): ∀n,argBest bt n<=n
 |0=>Nat.le_refl _
 |n+1=>by
  unfold argBest
  split
  ·exact Nat.le_refl _
  ·exact Nat.le_succ_of_le (i6 bt n)
theorem rG (f:Nat->Int): ∀n j,j<=n->f j<=f (argBest (fun i j=>decide (f i>f j)) n)
 |0,j,h=>by rw[Nat.le_zero.mp h];exact Int.le_refl _
 |n+1,j,h=>by
  unfold argBest
  have ih:=rG f n
  by_cases c:f (n+1)>f (argBest (fun i j=>decide (f i>f j)) n)
  ·rw[if_pos (decide_eq_true c)]
   by_cases e:j=n+1
   ·rw[e];exact Int.le_refl _
   ·have:=ih j (by omega);omega
  ·rw[if_neg (by rw[decide_eq_false c];simp)]
   by_cases e:j=n+1
   ·rw[e];omega
   ·exact ih j (by omega)
theorem mZ {xs:Array (Int×Tok)}{ns:List Int}(e:ns=xs.toList.map (·.1)){i:Nat}(h:i<xs.size):ns[i]?=some (numAt xs i):=by
 rw[e,List.getElem?_map,Array.getElem?_toList,Array.getElem?_eq_getElem h]
 unfold numAt
 rw[Array.getElem?_eq_getElem h]
 rfl
theorem oX (hc:X.calm=true):CallR X (.builtin "max") (fun xs H Q=> ∃ (p:Addr) (ns:List Int),xs=[.ref p]/\SqL X.K H p (ns.map V.int)/\ns≠ []/\Q (.int (maxZ ns)) H):=by
 intro pins s σ H xs us Q I r h
 obtain⟨p,ns,rfl,hq,hne,q⟩:=h
 obtain⟨u,rfl,ru⟩:=vals1 r
 cases ru
 obtain⟨its,rv,pl,hz⟩:=I.list hq
 have hi:=eV rv
 obtain⟨xs,e⟩:=hi.allInts.items
 have hl:s.heap.IsList p (intItems xs):=by rw[<-e];exact pl.isList
 have en:ns=xs.toList.map (·.1):=by
  rw[<-nums_intItems,<-e]
  exact (show numsOf its.toArray.toList=ns from hi.numsOf).symm
 have sz:xs.size=ns.length:=by rw[en,List.length_map,Array.length_toList]
 have pos:0<xs.size:=by rw[sz];exact List.length_pos_iff.mpr hne
 refine max_intList (I.ok.hd hc) hl pos fun v h' tk hv hk=>?_
 obtain⟨t,rfl⟩:=intItems_at hv
 have il:=i6 (fun i j=>decide (numAt xs i>numAt xs j)) (xs.size - 1)
 have e1:=mZ en (i:=argBest (fun i j=>decide (numAt xs i>numAt xs j)) (xs.size - 1)) (by omega)
 obtain⟨m1,m2⟩:=lI hne
 obtain⟨k,hk'⟩:=List.getElem?_of_mem m1
 have kl:=(List.getElem?_eq_some_iff.mp hk').1
 have e2:=mZ en (i:=k) (by omega)
 rw[hk'] at e2
 have a1:=m2 _ (List.mem_of_getElem? e1)
 have a2:=rG (numAt xs) (xs.size - 1) k (by omega)
 have:numAt xs (argBest (fun i j=>decide (numAt xs i>numAt xs j)) (xs.size - 1))=maxZ ns:=by
  have:=Option.some.inj e2
  omega
 rw[this]
 exact⟨.int (maxZ ns),H,I.kept (t':=tk) hk,⟨t,rfl⟩,q⟩
def extW (f:List Int->Int)(ws:List W):M W:=match ws with
 |[w]=>bd (lstOf w) fun l=>match optL iOf l with
  |some ns=>gd (ns≠ []) (pr (.int (f ns)))
  |none=>no
 |_=>no
variable {a:Expr}{p pos:Pos}{l:Env'->M (List W)}
theorem wg {f:List Int->Int}:CallM X E (fun xs H Q=> ∃ (p:Addr) (ns:List Int),xs=[.ref p]/\SqL X.K H p (ns.map V.int)/\ns≠ []/\Q (.int (f ns)) H) (extW f):=fun o ws vs Q R rv h=>by
 unfold extW at h
 split at h
 ·obtain⟨v,rfl,r⟩:=rv.one
  obtain⟨l,a,us,rfl,s,r,h⟩:=bD R r h
  cases e:optL iOf l with
  |none=>rw[e] at h;exact h.elim
  |some ns=>
   rw[e] at h
   obtain⟨hn,h⟩:=h.gd
   have e2:us=ns.map V.int:=dP iX e r
   subst e2
   exact⟨a,ns,rfl,s,hn,h.pr R (rv_int.mpr rfl)⟩
 ·exact h.elim
theorem hZ (hc:X.calm=true)(hm:X.mg "max"=none)(ha:JA X E [a] l)(hg:Gl X "max":=by rfl)(he:starEach [a] X.env=(false,eval a X.env)::starEach [] X.env:=by rfl)(hpl:(backTo pos (starEach [] X.env)).any (·.1)=false:=by rfl):JE X E (.Call (.Name "max" p) [a] [] pos) (mCall (extW maxZ) l):=
 dD (oX hc) wg hg hm rfl ha (by decide) (by decide) he hpl
end
end L2
set_option maxHeartbeats 1000000
namespace L2
open PySem PySem.Spec PyProof.Rows
section
variable {X:Cx}{E:XK}{a b:Expr}{p p2 pos pos2:Pos}
end
end L2
set_option maxHeartbeats 1000000
namespace L2
open PySem PySem.Spec PyProof.Rows
section
variable {prog:Program}{w:World}{A:Around}{E:Value->Shared->Prop}{s:Shared}
noncomputable def RawD (h:Heap)(d:Addr)(es:Array DictEntry)(ep:Nat):Prop:= ∃o,h.get? d=some o/\o.ExactDict/\o.data=.dict es ep
theorem mK {h:Heap}{a:Addr}{o:Obj}{vs:Array Value}(g1:h.get? a=some o)(g3:o.data=.fields vs)(k:Nat)(x:Value):
  ∃o',(h.update a (Obj.mapFields fun z=>z.setIfInBounds k x)).get? a=some o'/\o'.cls=o.cls/\o'.data=.fields (vs.setIfInBounds k x):=by
 obtain⟨c,dd,data,sl⟩:=o
 cases g3
 exact⟨_,Heap.get?_update_self _ g1 rfl,rfl,rfl⟩
theorem kO (h:Heap)(a:Addr)(f:Obj->Obj):Heap.SameBut a h (h.update a f):=⟨Heap.size_update _ _ _,fun b hb=>Heap.get?_update_other _ _ (Ne.symm hb)⟩
theorem qi {Q:Value->Shared->Prop}(k:∀ (h':Heap) (e:Addr),(∀b o,s.heap.get? b=some o->h'.get? b=some o)->s.heap.get? e=none->(∃o,h'.get? e=some o/\o.cls=.type "StopIteration")->Q (.ref e) {s with heap:=h'}):
  wpAny (model prog w) A (newExc (.type "StopIteration") []) Q E s:=by
 have f:firstArgMember (.type "StopIteration") []=pure .none:=by unfold firstArgMember;rfl
 unfold newExc
 refine wpAny_bind (wpAny_newTuple ?_ (Nat.zero_le _))
 rw[f]
 refine wpAny_bind (wpAny_pure (wpAny_newObj_type ?_ (show 6<=_ by decide)))
 refine k _ _ (fun b o q=>Heap.get?_push_of_some _ (Heap.get?_push_of_some _ q)) (by rw[Heap.size_push];exact Heap.get?_none_of_le (Nat.le_succ _)) ⟨_,Heap.get?_push_size _ rfl,rfl⟩
end
section
variable {X:Cx}{o:Expr}{p apos cpos pos:Pos}
end
end L2
set_option maxHeartbeats 1000000
namespace L2
open PyProof.Rows
section
variable (n:Nat)(lt:Nat->Nat->Bool)
noncomputable def sGet (p:Array Nat)(i:Nat):Option Nat:=match p[i]? with
 |some a=>if a<n then some a else none
 |none=>none
def sLt (p:Array Nat)(i j:Nat):Option Bool:=match sGet n p i,sGet n p j with
 |some a,some b=>some (lt a b)
 |_,_=>none
def sAsc (p:Array Nat)(lo:Nat):Nat->Nat->Option Nat
 |0,k=>some k
 |f+1,k=>match sLt n lt p (lo+k) (lo+k - 1) with
  |some true=>some k
  |some false=>sAsc p lo f (k+1)
  |none=>none
def jR (p:Array Nat)(lo r:Nat):Option Nat:=match sAsc n lt p lo (r - 1) 1 with
 |some k=>if (k==r)=true then some k else if k>1 then (match sLt n lt p lo (lo+k - 1) with
  |some true=>some k
  |_=>none) else none
 |none=>none
def fR (p:Array Nat)(lo k:Nat):Nat->Nat->Nat->Option Nat
 |0,l,_=>some l
 |f+1,l,r=>if l≥r then some l else match sLt n lt p (lo+k) (lo+(l+r) / 2) with
  |some true=>fR p lo k f l ((l+r) / 2)
  |some false=>fR p lo k f ((l+r) / 2+1) r
  |none=>none
def sBin (lo:Nat):Nat->Nat->Array Nat->Option (Array Nat)
 |0,_,p=>some p
 |f+1,k,p=>match fR n lt p lo k k 0 k with
  |some l=>sBin lo f (k+1) (bubble p (lo+k) (lo+k - (lo+l)))
  |none=>none
def sBey (left:Bool)(key:Nat)(a:Array Nat)(i:Nat):Option Bool:=match sGet n a i with
 |some x=>if key<n then (if left=true then some (lt x key) else some (!lt key x)) else none
 |none=>none
def sUp (left:Bool)(key:Nat)(a:Array Nat)(base hint mx:Nat):Nat->Nat->Nat->Option (Nat×Nat)
 |0,la,o=>some (la,o)
 |f+1,la,o=>if o≥mx then some (la,o) else match sBey n lt left key a (base+(hint+o)) with
  |some true=>sUp left key a base hint mx f o (2 * o+1)
  |some false=>some (la,o)
  |none=>none
def sDown (left:Bool)(key:Nat)(a:Array Nat)(base hint mx:Nat):Nat->Nat->Nat->Option (Nat×Nat)
 |0,la,o=>some (la,o)
 |f+1,la,o=>if o≥mx then some (la,o) else match sBey n lt left key a (base+(hint - o)) with
  |some false=>sDown left key a base hint mx f o (2 * o+1)
  |some true=>some (la,o)
  |none=>none
def sHalf (left:Bool)(key:Nat)(a:Array Nat)(base:Nat):Nat->Nat->Nat->Option Nat
 |0,_,hi=>some hi
 |f+1,lo,hi=>if lo≥hi then some hi else match sBey n lt left key a (base+(lo+(hi - lo) / 2)) with
  |some true=>sHalf left key a base f (lo+(hi - lo) / 2+1) hi
  |some false=>sHalf left key a base f lo (lo+(hi - lo) / 2)
  |none=>none
def sGal (left:Bool)(key:Nat)(a:Array Nat)(base m hint:Nat):Option Nat:=match sBey n lt left key a (base+hint) with
 |some true=>(match sUp n lt left key a base hint (m - hint) m 0 1 with
  |some (la,o)=>sHalf n lt left key a base m (hint+la+1) (hint+min o (m - hint))
  |none=>none)
 |some false=>(match sDown n lt left key a base hint (hint+1) m 0 1 with
  |some (la,o)=>sHalf n lt left key a base m (hint+1 - min o (hint+1)) (hint - la)
  |none=>none)
 |none=>none
structure Mg where
 out:Array Nat
 ia:Nat
 ib:Nat
 ac:Nat
 bc:Nat
 g:Nat
section
variable (a b:Array Nat)
noncomputable def sDone (s:Mg):Array Nat:=s.out++a.extract s.ia a.size++b.extract s.ib b.size
noncomputable def sLast (s:Mg):Array Nat:=s.out++b.extract s.ib b.size++a.extract s.ia a.size
def oStep (y x:Nat)(s:Mg):Option (Array Nat)×Mg×Bool:=if lt y x=true then
  (if (s.ib+1==b.size)=true then (some (sDone a b ⟨s.out.push y,s.ia,s.ib+1,0,s.bc+1,s.g⟩),⟨s.out.push y,s.ia,s.ib+1,0,s.bc+1,s.g⟩,true)
   else (none,⟨s.out.push y,s.ia,s.ib+1,0,s.bc+1,s.g⟩,decide (s.bc+1≥s.g)))
 else
  (if (s.ia+1+1==a.size)=true then (some (sLast a b ⟨s.out.push x,s.ia+1,s.ib,s.ac+1,0,s.g⟩),⟨s.out.push x,s.ia+1,s.ib,s.ac+1,0,s.g⟩,true)
   else (none,⟨s.out.push x,s.ia+1,s.ib,s.ac+1,0,s.g⟩,decide (s.ac+1≥s.g)))
def sOne:Nat->Mg->Option (Array Nat ⊕ Mg)
 |0,s=>some (.inr s)
 |f+1,s=>match sGet n b s.ib,sGet n a s.ia with
  |some y,some x=>(match oStep lt a b y x s with
   |(some r,_,_)=>some (.inl r)
   |(none,s',true)=>some (.inr s')
   |(none,s',false)=>sOne f s')
  |_,_=>none
def lStep (s:Mg):Option (Mg×Bool):=match sGet n b s.ib with
 |none=>none
 |some y=>match sGal n lt false y a s.ia (a.size - s.ia) 0 with
  |none=>none
  |some k=>if (k>0/\((s.ia+k+1==a.size)=true\/(s.ia+k==a.size)=true))\/(s.ib+1==b.size)=true then none
   else match sGet n a (s.ia+k) with
   |none=>none
   |some x=>match sGal n lt true x b (s.ib+1) (b.size - (s.ib+1)) 0 with
    |none=>none
    |some j=>if (j>0/\(s.ib+1+j==b.size)=true)\/(s.ia+k+1+1==a.size)=true then none
     else some (⟨((if j>0 then (if k>0 then s.out++a.extract s.ia (s.ia+k) else s.out).push y++b.extract (s.ib+1) (s.ib+1+j) else (if k>0 then s.out++a.extract s.ia (s.ia+k) else s.out).push y)).push x,s.ia+k+1,s.ib+1+j,k,j,if s.g>1 then s.g - 1 else s.g⟩,(decide (k<7) && decide (j<7)))
def sLeap:Nat->Mg->Option Mg
 |0,s=>some s
 |f+1,s=>match lStep n lt a b s with
  |none=>none
  |some (s',true)=>some s'
  |some (s',false)=>sLeap f s'
def iA (t:Nat):Nat->Mg->Option (Array Nat)
 |0,_=>none
 |f+1,s=>match sOne n lt a b t ⟨s.out,s.ia,s.ib,0,0,s.g⟩ with
  |some (.inl r)=>some r
  |some (.inr s1)=>(match sLeap n lt a b t ⟨s1.out,s1.ia,s1.ib,s1.ac,s1.bc,s1.g+1⟩ with
   |some s2=>iA t f ⟨s2.out,s2.ia,s2.ib,s2.ac,s2.bc,s2.g+1⟩
   |none=>none)
  |none=>none
def mi:Option (Array Nat):=match sGet n b 0 with
 |some y=>if (1==b.size)=true then none else if (0+1==a.size)=true then none else iA n lt a b (a.size+b.size) (a.size+b.size) ⟨#[y],0,1,0,0,7⟩
 |none=>none
end
def sPair (p:Array Nat)(x y:Nat):Option (Array Nat):=match sGet n p x with
 |none=>none
 |some key=>match sGal n lt false key p 0 x 0 with
  |none=>none
  |some k=>if (x - k==0)=true then none else match sGet n p (0+k+(x - k) - 1) with
   |none=>none
   |some last=>match sGal n lt true last p x y (y - 1) with
    |none=>none
    |some m=>if (m==0)=true then none else if x - k<=m then (match mi n lt (p.extract (0+k) x) (p.extract x (x+m)) with
     |some r=>some (r.toList.zipIdx.foldl (fun a q=>a.setIfInBounds (0+k+q.2) q.1) p)
     |none=>none) else none
noncomputable def sMin:Nat->Nat->Nat->Nat
 |f+1,m,r=>if m<64 then m+r else sMin f (m / 2) (max r (m % 2))
 |0,m,r=>m+r
def sRun (p:Array Nat)(lo:Nat):Option (Nat×Array Nat):=match jR n lt p lo (n - lo) with
 |none=>none
 |some k=>if k<sMin n n 0 then (match sBin n lt lo (min (n - lo) (sMin n n 0) - max k 1) (max k 1) p with
  |some p'=>some (min (n - lo) (sMin n n 0),p')
  |none=>none) else some (k,p)
def sSort:Option (Array Nat):=match sRun n lt (List.toArray (List.range n)) 0 with
 |none=>none
 |some (x,p)=>if x=n then some p else match sRun n lt p x with
  |none=>none
  |some (y,p')=>if x+y=n then sPair n lt p' x y else none
end
def ltKy (x y:List Int×Int):Bool:=if x.1=y.1 then decide (x.2<y.2) else HT.lexLt x.1 y.1
end L2
set_option maxHeartbeats 1000000
namespace L2
open PySem PySem.W PyProof.Rows
section
variable {M:Model}{A:Around}{E:Value->Shared->Prop}{s:Shared}{σ β:Type}{f:Nat->β->StateT σ Sem (ForInStep β)}{Q:β->σ->Prop}{st:σ}
theorem d6 {b:β}(h:Q b st):wpS M A E s (forIn ([]:List Nat) b f) Q st:=by rw[List.forIn_nil];exact wpS_pure h
theorem aD {x:Nat}{l:List Nat}{b:β}(h:wpS M A E s (f x b) (fun r st'=>match r with
  |.done b'=>Q b' st'
  |.yield b'=>wpS M A E s (forIn l b' f) Q st') st):wpS M A E s (forIn (x::l) b f) Q st:=by
 rw[List.forIn_cons]
 refine wpS_bind (wpS_mono h fun r st' h'=>?_)
 cases r with
 |done b'=>exact wpS_pure h'
 |yield b'=>exact h'
theorem aZ {a b:Nat}{c:β}(h:wpS M A E s (forIn (List.range' a (b - a)) c f) Q st):wpS M A E s (forIn [a:b] c f) Q st:=by
 rw[Std.Legacy.Range.forIn_eq_forIn_range',show ([a:b]:Std.Legacy.Range).size=b - a by simp [Std.Legacy.Range.size]]
 exact h
end
theorem ft {n i a:Nat}{p:Array Nat}(h:sGet n p i=some a):p[i]?=some a/\a<n:=by
 unfold sGet at h
 split at h
 ·rename_i b e
  split at h
  ·rename_i l
   cases h;exact⟨e,l⟩
  ·cases h
 ·cases h
section
variable {prog:Program}{w:World}{A:Around}{E:Value->Shared->Prop}{s:Shared}{κ:SortKind}{it:Array Keyed}{n:Nat}{lt:Nat->Nat->Bool}
noncomputable def sSt (κ:SortKind)(it:Array Keyed)(p:Array Nat)(pe:Array (Nat×Nat×Nat))(g:Nat):SortSt:=SortSt.mk' κ (p.map (kas_item it)) pe g none
noncomputable def Ans (prog:Program)(w:World)(A:Around)(s:Shared)(κ:SortKind)(it:Array Keyed)(n:Nat)(lt:Nat->Nat->Bool):Prop:=
 ∀a b:Nat,a<n->b<n-> ∀Q:Bool->Shared->Prop,Q (lt a b) s->wpAny (model prog w) A (keyLt' κ (kas_item it a).1 (kas_item it b).1) Q (fun _ _=>False) s
variable {p:Array Nat}{pe:Array (Nat×Nat×Nat)}{g:Nat}
theorem aS {i a:Nat}{q:Array Nat}{Q:Keyed->SortSt->Prop}{st:SortSt}(h:sGet n q i=some a)(k:Q (kas_item it a) st):wpS (model prog w) A E s (elem' (q.map (kas_item it)) i) Q st:=by
 rw[elem'_eq,Array.getElem?_map,(ft h).1]
 exact wpS_pure k
theorem mX (H:Ans prog w A s κ it n lt){a b:Nat}{Q:Option Bool->SortSt->Prop}(ha:a<n)(hb:b<n)(k:Q (some (lt a b)) (sSt κ it p pe g)):wpS (model prog w) A E s (lt' (kas_item it a) (kas_item it b)) Q (sSt κ it p pe g):=by
 rw[lt'_eq]
 refine wpS_bind (wpS_get ?_)
 refine wpS_bind (wpS_lift (wpAny_attempt (wpAny_mono (H a b ha hb (fun r s'=>r=lt a b/\s'=s) ⟨rfl,rfl⟩) (fun r s' hr=>?_) fun _ _ z=>z.elim)))
 obtain⟨rfl,rfl⟩:=hr
 exact⟨rfl,wpS_pure k⟩
theorem uq (H:Ans prog w A s κ it n lt){i j:Nat}{c:Bool}{Q:Option Bool->SortSt->Prop}(h:sLt n lt p i j=some c)(k:Q (some c) (sSt κ it p pe g)):wpS (model prog w) A E s (ltAt' i j) Q (sSt κ it p pe g):=by
 unfold sLt at h
 split at h
 ·rename_i a b ea eb
  cases h
  rw[ltAt'_eq]
  refine wpS_bind (wpS_get ?_)
  show wpS _ _ _ _ (do let x<-elem' (p.map (kas_item it)) i;let y<-elem' (p.map (kas_item it)) j;lt' x y) Q _
  refine wpS_bind (aS ea (wpS_bind (aS eb (mX H (ft ea).2 (ft eb).2 k))))
 ·cases h
theorem tD {lo:Nat}{f:Nat->Option (Option Nat)×Nat->StateT SortSt Sem (ForInStep (Option (Option Nat)×Nat))}{st:SortSt}
  (hf: ∀x k c R,sLt n lt p (lo+k) (lo+k - 1)=some c->R (if c=true then .done (none,k) else .yield (none,k+1)) st->wpS (model prog w) A E s (f x (none,k)) R st): ∀ (l:List Nat) (k k':Nat) (Q:Option (Option Nat)×Nat->SortSt->Prop),sAsc n lt p lo l.length k=some k'->Q (none,k') st->wpS (model prog w) A E s (forIn l (none,k) f) Q st
 |[],k,k',Q,h,q=>by
  rw[List.length_nil,sAsc] at h
  cases h
  exact d6 q
 |x::l,k,k',Q,h,q=>by
  rw[List.length_cons,sAsc] at h
  split at h
  ·rename_i e
   cases h
   exact aD (hf x k true _ e (by rw[if_pos rfl];exact q))
  ·rename_i e
   exact aD (hf x k false _ e (by rw[if_neg (by simp)];exact tD hf l (k+1) k' Q h q))
  ·cases h
theorem g9 (H:Ans prog w A s κ it n lt){lo r k:Nat}{Q:Option Nat->SortSt->Prop}(h:jR n lt p lo r=some k)(q:Q (some k) (sSt κ it p pe g)):wpS (model prog w) A E s (countRun' lo r) Q (sSt κ it p pe g):=by
 unfold jR at h
 split at h
 ·rename_i k1 e1
  rw[countRun'_eq]
  dsimp only
  refine wpS_bind (aZ (tD (lo:=lo) (fun x k c R hc hR=>?_) _ 1 k1 _ (by rw[List.length_range'];exact e1) ?_))
  ·refine wpS_bind (uq H hc ?_)
   cases c<;>exact wpS_pure hR
  ·dsimp only
   split at h
   ·rename_i z
    cases h
    rw[if_pos z]
    exact wpS_pure q
   ·rename_i z
    rw[if_neg z]
    split at h
    ·rename_i z1
     rw[if_pos z1]
     split at h
     ·rename_i e2
      cases h
      refine wpS_bind (uq H e2 ?_)
      exact wpS_pure q
     ·cases h
    ·cases h
 ·cases h
theorem jO {lo k:Nat}{f:Nat->Option Bool×Nat×Nat->StateT SortSt Sem (ForInStep (Option Bool×Nat×Nat))}{st:SortSt}
  (h1: ∀x l r R,l≥r->R (.done (none,l,r)) st->wpS (model prog w) A E s (f x (none,l,r)) R st)
  (h2: ∀x l r c R,¬l≥r->sLt n lt p (lo+k) (lo+(l+r) / 2)=some c->R (.yield (if c=true then (none,l,(l+r) / 2) else (none,(l+r) / 2+1,r))) st->wpS (model prog w) A E s (f x (none,l,r)) R st):
  ∀ (ls:List Nat) (l r l':Nat) (Q:Option Bool×Nat×Nat->SortSt->Prop),fR n lt p lo k ls.length l r=some l'->(∀r',Q (none,l',r') st)->wpS (model prog w) A E s (forIn ls (none,l,r) f) Q st
 |[],l,r,l',Q,h,q=>by
  rw[List.length_nil,fR] at h
  cases h
  exact d6 (q _)
 |x::ls,l,r,l',Q,h,q=>by
  rw[List.length_cons,fR] at h
  split at h
  ·rename_i z
   cases h
   exact aD (h1 x l r _ z (q _))
  ·rename_i z
   split at h
   ·rename_i e
    exact aD (h2 x l r true _ z e (by rw[if_pos rfl];exact jO h1 h2 ls _ _ l' Q h q))
   ·rename_i e
    exact aD (h2 x l r false _ z e (by rw[if_neg (by simp)];exact jO h1 h2 ls _ _ l' Q h q))
   ·cases h
theorem jP (src d:Nat):bubble (p.map (kas_item it)) src d=(bubble p src d).map (kas_item it):=kas_swaps_map (kas_item it) (fun k=>src - k) (fun k=>src - k - 1) _ p
theorem kP {lo:Nat}{f:Nat->Option Bool×Unit->StateT SortSt Sem (ForInStep (Option Bool×Unit))}
  (hf: ∀k l p R,fR n lt p lo k k 0 k=some l->R (.yield (none,())) (sSt κ it (bubble p (lo+k) (lo+k - (lo+l))) pe g)->wpS (model prog w) A E s (f k (none,())) R (sSt κ it p pe g)):
  ∀ (m k:Nat) (p p':Array Nat) (Q:Option Bool×Unit->SortSt->Prop),sBin n lt lo m k p=some p'->Q (none,()) (sSt κ it p' pe g)->wpS (model prog w) A E s (forIn (List.range' k m) (none,()) f) Q (sSt κ it p pe g)
 |0,k,p,p',Q,h,q=>by
  rw[sBin] at h
  cases h
  exact d6 q
 |m+1,k,p,p',Q,h,q=>by
  rw[sBin] at h
  split at h
  ·rename_i l e
   rw[List.range'_succ]
   exact aD (hf k l p _ e (kP hf m (k+1) _ p' Q h q))
  ·cases h
theorem tz (H:Ans prog w A s κ it n lt){lo m ok:Nat}{p':Array Nat}{Q:Bool->SortSt->Prop}(h:sBin n lt lo (m - max ok 1) (max ok 1) p=some p')(q:Q true (sSt κ it p' pe g)):wpS (model prog w) A E s (binarySort' lo m ok) Q (sSt κ it p pe g):=by
 rw[binarySort'_eq]
 refine wpS_bind (aZ (kP (fun k l p R e hR=>?_) _ _ p p' _ h ?_))
 ·dsimp only
  refine wpS_bind (aZ (jO (lo:=lo) (k:=k) (fun x l r R z hR=>?_) (fun x l r c R z e hR=>?_) _ 0 k l _ (by rw[List.length_range'];exact e) fun r'=>?_))
  ·dsimp only
   rw[if_pos z]
   exact wpS_pure hR
  ·dsimp only
   rw[if_neg z]
   refine wpS_bind (uq H e ?_)
   cases c<;>exact wpS_pure hR
  ·show wpS _ _ _ _ (do moveDown' (lo+k) (lo+l);pure (ForInStep.yield (none,()))) _ _
   rw[moveDown'_eq]
   refine wpS_bind (wpS_modify (wpS_pure ?_))
   show R _ (SortSt.mk' κ (bubble (p.map (kas_item it)) (lo+k) (lo+k - (lo+l))) pe g none)
   rw[jP];exact hR
 ·exact wpS_pure q
end
end L2
set_option maxHeartbeats 1000000
namespace L2
open PySem PySem.W PyProof.Rows
noncomputable def gal':Bool->Keyed->Array Keyed->Nat->Nat->Nat->StateT SortSt Sem (Option Nat):=sortPriv% PySem.Builtin.gallop
section
variable {prog:Program}{w:World}{A:Around}{E:Value->Shared->Prop}{s:Shared}{κ:SortKind}{it:Array Keyed}{n:Nat}{lt:Nat->Nat->Bool}
variable {p:Array Nat}{pe:Array (Nat×Nat×Nat)}{g:Nat}
theorem jr (H:Ans prog w A s κ it n lt){left c:Bool}{key i:Nat}{a:Array Nat}{Q:Option Bool->SortSt->Prop}(h:sBey n lt left key a i=some c)(q:Q (some c) (sSt κ it p pe g)):
  wpS (model prog w) A E s (do let x<-elem' (a.map (kas_item it)) i;if left=true then lt' x (kas_item it key) else do let r<-lt' (kas_item it key) x;pure (r.map (!·))) Q (sSt κ it p pe g):=by
 unfold sBey at h
 split at h
 ·rename_i x e
  have ax:=(ft e).2
  refine wpS_bind (aS e ?_)
  split at h
  ·rename_i hk
   split at h
   ·rename_i l
    cases h
    rw[if_pos l]
    exact mX H ax hk q
   ·rename_i l
    cases h
    rw[if_neg l]
    exact wpS_bind (mX H hk ax (wpS_pure q))
  ·cases h
 ·cases h
noncomputable abbrev GS:=Option (Option Nat)×Nat×Nat
section
variable {f:Nat->GS->StateT SortSt Sem (ForInStep GS)}{st:SortSt}{left:Bool}{key base hint mx:Nat}{a:Array Nat}
theorem vQ (h1: ∀x la o R,o≥mx->R (.done (none,la,o)) st->wpS (model prog w) A E s (f x (none,la,o)) R st)
  (h2: ∀x la o c R,¬o≥mx->sBey n lt left key a (base+(hint+o))=some c->R (if c=true then .yield (none,o,2 * o+1) else .done (none,la,o)) st->wpS (model prog w) A E s (f x (none,la,o)) R st):
  ∀ (l:List Nat) (la o la' o':Nat) (Q:GS->SortSt->Prop),sUp n lt left key a base hint mx l.length la o=some (la',o')->Q (none,la',o') st->wpS (model prog w) A E s (forIn l (none,la,o) f) Q st
 |[],la,o,la',o',Q,h,q=>by
  rw[List.length_nil,sUp] at h
  cases h
  exact d6 q
 |x::l,la,o,la',o',Q,h,q=>by
  rw[List.length_cons,sUp] at h
  split at h
  ·rename_i z
   cases h
   exact aD (h1 x la o _ z q)
  ·rename_i z
   split at h
   ·rename_i e
    exact aD (h2 x la o true _ z e (by rw[if_pos rfl];exact vQ h1 h2 l _ _ la' o' Q h q))
   ·rename_i e
    cases h
    exact aD (h2 x la o false _ z e (by rw[if_neg (by simp)];exact q))
   ·cases h
theorem pE (h1: ∀x la o R,o≥mx->R (.done (none,la,o)) st->wpS (model prog w) A E s (f x (none,la,o)) R st)
  (h2: ∀x la o c R,¬o≥mx->sBey n lt left key a (base+(hint - o))=some c->R (if c=true then .done (none,la,o) else .yield (none,o,2 * o+1)) st->wpS (model prog w) A E s (f x (none,la,o)) R st):
  ∀ (l:List Nat) (la o la' o':Nat) (Q:GS->SortSt->Prop),sDown n lt left key a base hint mx l.length la o=some (la',o')->Q (none,la',o') st->wpS (model prog w) A E s (forIn l (none,la,o) f) Q st
 |[],la,o,la',o',Q,h,q=>by
  rw[List.length_nil,sDown] at h
  cases h
  exact d6 q
 |x::l,la,o,la',o',Q,h,q=>by
  rw[List.length_cons,sDown] at h
  split at h
  ·rename_i z
   cases h
   exact aD (h1 x la o _ z q)
  ·rename_i z
   split at h
   ·rename_i e
    exact aD (h2 x la o false _ z e (by rw[if_neg (by simp)];exact pE h1 h2 l _ _ la' o' Q h q))
   ·rename_i e
    cases h
    exact aD (h2 x la o true _ z e (by rw[if_pos rfl];exact q))
   ·cases h
theorem jQ (h1: ∀x lo hi R,lo≥hi->R (.done (none,lo,hi)) st->wpS (model prog w) A E s (f x (none,lo,hi)) R st)
  (h2: ∀x lo hi c R,¬lo≥hi->sBey n lt left key a (base+(lo+(hi - lo) / 2))=some c->R (.yield (if c=true then (none,lo+(hi - lo) / 2+1,hi) else (none,lo,lo+(hi - lo) / 2))) st->wpS (model prog w) A E s (f x (none,lo,hi)) R st):
  ∀ (l:List Nat) (lo hi k:Nat) (Q:GS->SortSt->Prop),sHalf n lt left key a base l.length lo hi=some k->(∀lo',Q (none,lo',k) st)->wpS (model prog w) A E s (forIn l (none,lo,hi) f) Q st
 |[],lo,hi,k,Q,h,q=>by
  rw[List.length_nil,sHalf] at h
  cases h
  exact d6 (q _)
 |x::l,lo,hi,k,Q,h,q=>by
  rw[List.length_cons,sHalf] at h
  split at h
  ·rename_i z
   cases h
   exact aD (h1 x lo hi _ z (q _))
  ·rename_i z
   split at h
   ·rename_i e
    exact aD (h2 x lo hi true _ z e (by rw[if_pos rfl];exact jQ h1 h2 l _ _ k Q h q))
   ·rename_i e
    exact aD (h2 x lo hi false _ z e (by rw[if_neg (by simp)];exact jQ h1 h2 l _ _ k Q h q))
   ·cases h
end
theorem gQ (H:Ans prog w A s κ it n lt){left:Bool}{key base m hint k:Nat}{a:Array Nat}{Q:Option Nat->SortSt->Prop}(h:sGal n lt left key a base m hint=some k)(q:Q (some k) (sSt κ it p pe g)):wpS (model prog w) A E s (gal' left (kas_item it key) (a.map (kas_item it)) base m hint) Q (sSt κ it p pe g):=by
 unfold sGal at h
 unfold gal'
 split at h
 ·rename_i e0
  split at h
  ·rename_i la o e1
   refine wpS_bind (jr H e0 ?_)
   dsimp only
   rw[if_pos rfl]
   refine wpS_bind (aZ (vQ (left:=left) (key:=key) (base:=base) (hint:=hint) (mx:=m - hint) (a:=a) (n:=n) (lt:=lt) (fun x la o R z hR=>?_) (fun x la o c R z e hR=>?_) _ 0 1 la o _ (by rw[List.length_range'];exact e1) ?_))
   ·dsimp only
    rw[if_pos z]
    exact wpS_pure hR
   ·dsimp only
    rw[if_neg z]
    refine wpS_bind (jr H e ?_)
    cases c<;>exact wpS_pure hR
   ·dsimp only
    refine wpS_bind (aZ (jQ (left:=left) (key:=key) (base:=base) (a:=a) (n:=n) (lt:=lt) (fun x lo hi R z hR=>?_) (fun x lo hi c R z e hR=>?_) _ _ _ k _ (by rw[List.length_range'];exact h) fun lo'=>?_))
    ·dsimp only
     rw[if_pos z]
     exact wpS_pure hR
    ·dsimp only
     rw[if_neg z]
     refine wpS_bind (jr H e ?_)
     cases c<;>exact wpS_pure hR
    ·exact wpS_pure q
  ·cases h
 ·rename_i e0
  split at h
  ·rename_i la o e1
   refine wpS_bind (jr H e0 ?_)
   dsimp only
   rw[if_neg (by simp)]
   refine wpS_bind (aZ (pE (left:=left) (key:=key) (base:=base) (hint:=hint) (mx:=hint+1) (a:=a) (n:=n) (lt:=lt) (fun x la o R z hR=>?_) (fun x la o c R z e hR=>?_) _ 0 1 la o _ (by rw[List.length_range'];exact e1) ?_))
   ·dsimp only
    rw[if_pos z]
    exact wpS_pure hR
   ·dsimp only
    rw[if_neg z]
    refine wpS_bind (jr H e ?_)
    cases c<;>exact wpS_pure hR
   ·dsimp only
    refine wpS_bind (aZ (jQ (left:=left) (key:=key) (base:=base) (a:=a) (n:=n) (lt:=lt) (fun x lo hi R z hR=>?_) (fun x lo hi c R z e hR=>?_) _ _ _ k _ (by rw[List.length_range'];exact h) fun lo'=>?_))
    ·dsimp only
     rw[if_pos z]
     exact wpS_pure hR
    ·dsimp only
     rw[if_neg z]
     refine wpS_bind (jr H e ?_)
     cases c<;>exact wpS_pure hR
    ·exact wpS_pure q
  ·cases h
 ·cases h
end
end L2
set_option maxHeartbeats 1000000
namespace L2
open PySem PySem.W PyProof.Rows
noncomputable def mrg':Array Keyed->Array Keyed->StateT SortSt Sem (Array Keyed):=sortPriv% PySem.Builtin.mergeLo
section
variable {prog:Program}{w:World}{A:Around}{E:Value->Shared->Prop}{s:Shared}{κ:SortKind}{it:Array Keyed}{n:Nat}{lt:Nat->Nat->Bool}
variable {p:Array Nat}{pe:Array (Nat×Nat×Nat)}{a b:Array Nat}
noncomputable abbrev M6:=Option (Array Keyed)×Array Keyed×Nat×Nat×Nat×Nat
noncomputable abbrev M7:=Option (Array Keyed)×Array Keyed×Nat×Nat×Nat×Nat×Nat
noncomputable abbrev M5:=Option (Array Keyed)×Array Keyed×Nat×Nat×Nat
noncomputable abbrev t6 (it:Array Keyed)(r:Option (Array Nat))(s:Mg):M6:=(r.map (·.map (kas_item it)),s.out.map (kas_item it),s.ia,s.ib,s.ac,s.bc)
noncomputable abbrev t7 (it:Array Keyed)(s:Mg):M7:=(none,s.out.map (kas_item it),s.ia,s.ib,s.g,s.ac,s.bc)
noncomputable abbrev t5 (it:Array Keyed)(r:Option (Array Nat))(s:Mg):M5:=(r.map (·.map (kas_item it)),s.out.map (kas_item it),s.ia,s.ib,s.g)
theorem tu {f:Nat->M6->StateT SortSt Sem (ForInStep M6)}{st:SortSt}{g:Nat}
  (hf: ∀x (m:Mg) y z R,m.g=g->sGet n b m.ib=some y->sGet n a m.ia=some z->R (if (oStep lt a b y z m).2.2=true then .done (t6 it (oStep lt a b y z m).1 (oStep lt a b y z m).2.1) else .yield (t6 it none (oStep lt a b y z m).2.1)) st->wpS (model prog w) A E s (f x (t6 it none m)) R st):
  ∀ (l:List Nat) (m:Mg) (r:Array Nat ⊕ Mg) (Q:M6->SortSt->Prop),m.g=g->sOne n lt a b l.length m=some r->(∀q,r=.inl q-> ∀m',Q (t6 it (some q) m') st)->(∀m',r=.inr m'->m'.g=g->Q (t6 it none m') st)->wpS (model prog w) A E s (forIn l (t6 it none m) f) Q st
 |[],m,r,Q,hg,h,q1,q2=>by
  rw[List.length_nil,sOne] at h
  cases h
  exact d6 (q2 _ rfl hg)
 |x::l,m,r,Q,hg,h,q1,q2=>by
  rw[List.length_cons,sOne] at h
  split at h
  ·rename_i y z ey ez
   have gg:(oStep lt a b y z m).2.1.g=g:=by
    unfold oStep
    repeat' split
    all_goals exact hg
   split at h
   ·rename_i q m' d e
    have d1:d=true:=by
     unfold oStep at e
     repeat' split at e
     all_goals (injection e with e1 e2;first|(injection e2 with _ e3;exact e3.symm)|cases e1)
    refine aD (hf x m y z _ hg ey ez ?_)
    rw[e,d1]
    cases h
    exact q1 _ rfl _
   ·rename_i m' e
    rw[e] at gg
    refine aD (hf x m y z _ hg ey ez ?_)
    rw[e]
    cases h
    exact q2 _ rfl gg
   ·rename_i m' e
    rw[e] at gg
    refine aD (hf x m y z _ hg ey ez ?_)
    rw[e]
    exact tu hf l m' r Q gg h q1 q2
  ·cases h
theorem pC {f:Nat->M7->StateT SortSt Sem (ForInStep M7)}
  (hf: ∀x (m m':Mg) d G R,lStep n lt a b m=some (m',d)->R (if d=true then .done (t7 it m') else .yield (t7 it m')) (sSt κ it p pe m'.g)->wpS (model prog w) A E s (f x (t7 it m)) R (sSt κ it p pe G)):
  ∀ (l:List Nat) (m m':Mg) (G:Nat) (Q:M7->SortSt->Prop),sLeap n lt a b l.length m=some m'->(∀G,Q (t7 it m') (sSt κ it p pe G))->wpS (model prog w) A E s (forIn l (t7 it m) f) Q (sSt κ it p pe G)
 |[],m,m',G,Q,h,q=>by
  rw[List.length_nil,sLeap] at h
  cases h
  exact d6 (q _)
 |x::l,m,m',G,Q,h,q=>by
  rw[List.length_cons,sLeap] at h
  split at h
  ·cases h
  ·rename_i m1 e
   cases h
   exact aD (hf x m _ true G _ e (q _))
  ·rename_i m1 e
   exact aD (hf x m _ false G _ e (pC hf l _ m' _ Q h q))
theorem mW {t:Nat}{f:Nat->M5->StateT SortSt Sem (ForInStep M5)}
  (hf: ∀x (m:Mg) r G R,sOne n lt a b t ⟨m.out,m.ia,m.ib,0,0,m.g⟩=some r->(∀q,r=.inl q-> ∀m',R (.done (t5 it (some q) m')) (sSt κ it p pe G))->(∀m1,r=.inr m1-> ∃m2,sLeap n lt a b t ⟨m1.out,m1.ia,m1.ib,m1.ac,m1.bc,m1.g+1⟩=some m2/\R (.yield (t5 it none ⟨m2.out,m2.ia,m2.ib,m2.ac,m2.bc,m2.g+1⟩)) (sSt κ it p pe (m2.g+1)))->wpS (model prog w) A E s (f x (t5 it none m)) R (sSt κ it p pe G)):
  ∀ (l:List Nat) (m:Mg) (r:Array Nat) (G:Nat) (Q:M5->SortSt->Prop),iA n lt a b t l.length m=some r->(∀m' G,Q (t5 it (some r) m') (sSt κ it p pe G))->wpS (model prog w) A E s (forIn l (t5 it none m) f) Q (sSt κ it p pe G)
 |[],m,r,G,Q,h,q=>by
  rw[List.length_nil,iA] at h
  cases h
 |x::l,m,r,G,Q,h,q=>by
  rw[List.length_cons,iA] at h
  split at h
  ·rename_i r1 e
   cases h
   exact aD (hf x m _ G _ e (fun q' hq m'=>by cases hq;exact q m' G) fun m1 hm=>by cases hm)
  ·rename_i m1 e
   split at h
   ·rename_i m2 e2
    exact aD (hf x m _ G _ e (fun q' hq=>by cases hq) fun m1' hm=>by cases hm;exact⟨m2,e2,mW hf l _ r _ Q h q⟩)
   ·cases h
  ·cases h
theorem dO (q:Array Nat)(i j:Nat):(q.map (kas_item it)).extract i j=(q.extract i j).map (kas_item it):=by simp
theorem be (q:Array Nat)(y:Nat):(q.map (kas_item it)).push (kas_item it y)=(q.push y).map (kas_item it):=by simp
theorem eT (q r:Array Nat):q.map (kas_item it)++r.map (kas_item it)=(q++r).map (kas_item it):=by simp
theorem cB {σ α:Type}{M:Model}{c:Prop} [Decidable c] {x y:StateT σ Sem α}{R:α->σ->Prop}{st:σ}(h:c)(q:wpS M A E s x R st):wpS M A E s (if c then x else y) R st:=by rw[if_pos h];exact q
theorem aF {σ α:Type}{M:Model}{c:Prop} [Decidable c] {x y:StateT σ Sem α}{R:α->σ->Prop}{st:σ}(h:¬c)(q:wpS M A E s y R st):wpS M A E s (if c then x else y) R st:=by rw[if_neg h];exact q
theorem rP (H:Ans prog w A s κ it n lt){r:Array Nat}{Q:Array Keyed->SortSt->Prop}(h:mi n lt a b=some r)(q:∀g,Q (r.map (kas_item it)) (sSt κ it p pe g)):wpS (model prog w) A E s (mrg' (a.map (kas_item it)) (b.map (kas_item it))) Q (sSt κ it p pe 7):=by
 unfold mi at h
 unfold mrg'
 split at h
 ·rename_i y e0
  split at h
  ·cases h
  ·rename_i z1
   split at h
   ·cases h
   ·rename_i z2
    refine wpS_bind (wpS_lift (wpAny_rule ⟨rfl,?_⟩))
    refine wpS_bind (aS e0 ?_)
    rw[show (#[kas_item it y]:Array Keyed)=(#[y]:Array Nat).map (kas_item it) by simp]
    rw[Array.size_map,Array.size_map]
    rw[if_neg z1,if_neg z2]
    refine wpS_bind (wpS_get ?_)
    refine wpS_bind (aZ (mW (κ:=κ) (it:=it) (p:=p) (pe:=pe) (a:=a) (b:=b) (n:=n) (lt:=lt) (t:=a.size+b.size) (fun x m r G R e hR1 hR2=>?_) _ ⟨#[y],0,1,0,0,7⟩ r 7 _ (by rw[List.length_range'];exact h) fun m' G=>?_))
    ·refine wpS_bind (aZ (tu (it:=it) (a:=a) (b:=b) (n:=n) (lt:=lt) (g:=m.g) (fun x m y z R hg ey ez hR=>?_) _ ⟨m.out,m.ia,m.ib,0,0,m.g⟩ r _ rfl (by rw[List.length_range'];exact e) (fun q hq m'=>?_) fun m1 hm hg=>?_))
     ·refine wpS_bind (aS ey (wpS_bind (aS ez (wpS_bind (mX H (ft ey).2 (ft ez).2 ?_)))))
      unfold oStep at hR
      cases hc:lt y z with
      |true=>
       rw[if_pos hc] at hR
       dsimp only
       rw[if_pos rfl]
       refine wpS_bind (aS ey ?_)
       try dsimp only
       by_cases z1:(m.ib+1==b.size)=true
       ·rw[if_pos z1] at hR
        rw[if_pos z1]
        refine wpS_pure ?_
        dsimp only[t6,sDone,Option.map] at hR
        rw[be,dO,dO,eT,eT]
        exact hR
       ·rw[if_neg z1] at hR
        rw[if_neg z1]
        dsimp only at hR
        by_cases z2:m.bc+1≥m.g
        ·rw[if_pos (decide_eq_true z2)] at hR
         rw[if_pos (by rw[<-hg];exact z2)]
         refine wpS_pure ?_
         dsimp only[t6,Option.map] at hR
         rw[be]
         exact hR
        ·rw[if_neg (by simpa using z2)] at hR
         rw[if_neg (by rw[<-hg];exact z2)]
         refine wpS_pure ?_
         dsimp only[t6,Option.map] at hR
         rw[be]
         exact hR
      |false=>
       rw[if_neg (show¬lt y z=true by rw[hc];simp)] at hR
       dsimp only
       rw[if_neg (by simp)]
       refine wpS_bind (aS ez ?_)
       try dsimp only
       by_cases z1:(m.ia+1+1==a.size)=true
       ·rw[if_pos z1] at hR
        rw[if_pos z1]
        refine wpS_pure ?_
        dsimp only[t6,sLast,Option.map] at hR
        rw[be,dO,dO,eT,eT]
        exact hR
       ·rw[if_neg z1] at hR
        rw[if_neg z1]
        dsimp only at hR
        by_cases z2:m.ac+1≥m.g
        ·rw[if_pos (decide_eq_true z2)] at hR
         rw[if_pos (by rw[<-hg];exact z2)]
         refine wpS_pure ?_
         dsimp only[t6,Option.map] at hR
         rw[be]
         exact hR
        ·rw[if_neg (by simpa using z2)] at hR
         rw[if_neg (by rw[<-hg];exact z2)]
         refine wpS_pure ?_
         dsimp only[t6,Option.map] at hR
         rw[be]
         exact hR
     ·exact wpS_pure (hR1 _ hq ⟨m'.out,m'.ia,m'.ib,0,0,m.g⟩)
     ·obtain⟨m2,e2,hR3⟩:=hR2 m1 hm
      refine wpS_bind (wpS_lift (wpAny_rule ⟨rfl,?_⟩))
      refine wpS_bind (aZ (pC (κ:=κ) (it:=it) (p:=p) (pe:=pe) (a:=a) (b:=b) (n:=n) (lt:=lt) (fun x m m' d G R hl hR=>?_) _ ⟨m1.out,m1.ia,m1.ib,m1.ac,m1.bc,m.g+1⟩ m2 G _ (by rw[List.length_range',<-hg];exact e2) fun G=>?_))
      ·unfold lStep at hl
       split at hl
       ·cases hl
       rename_i y ey
       split at hl
       ·cases hl
       rename_i k ek
       split at hl
       ·cases hl
       rename_i nk
       split at hl
       ·cases hl
       rename_i x ex
       split at hl
       ·cases hl
       rename_i j ej
       split at hl
       ·cases hl
       rename_i nj
       have a1: ¬(m.ib+1==b.size)=true:=fun z=>nk (.inr z)
       have a2:k>0-> ¬(m.ia+k+1==a.size)=true:=fun hk z=>nk (.inl ⟨hk,.inl z⟩)
       have a3:k>0-> ¬(m.ia+k==a.size)=true:=fun hk z=>nk (.inl ⟨hk,.inr z⟩)
       have a4:j>0-> ¬(m.ib+1+j==b.size)=true:=fun hj z=>nj (.inl ⟨hj,z⟩)
       have a5: ¬(m.ia+k+1+1==a.size)=true:=fun z=>nj (.inr z)
       clear nk nj
       injection hl with hl
       obtain⟨rfl,rfl⟩:=Prod.mk.inj hl
       dsimp only
       have fin: ∀ (o:Array Nat) (g':Nat),o=(if j>0 then (if k>0 then m.out++a.extract m.ia (m.ia+k) else m.out).push y++b.extract (m.ib+1) (m.ib+1+j) else (if k>0 then m.out++a.extract m.ia (m.ia+k) else m.out).push y)->g'=(if m.g>1 then m.g - 1 else m.g)->wpS (model prog w) A E s (if (decide (k<7) && decide (j<7))=true then pure (ForInStep.done (t7 it ⟨o.push x,m.ia+k+1,m.ib+1+j,k,j,g'⟩)) else pure (ForInStep.yield (t7 it ⟨o.push x,m.ia+k+1,m.ib+1+j,k,j,g'⟩))) R (sSt κ it p pe g'):=fun o g' ho hg'=>by
        rw[<-ho,<-hg'] at hR
        by_cases hd:(decide (k<7) && decide (j<7))=true
        ·rw[if_pos hd] at hR
         exact cB hd (wpS_pure hR)
        ·rw[if_neg hd] at hR
         exact aF hd (wpS_pure hR)
       clear hR
       by_cases hg1:m.g>1
       ·rw[if_pos hg1] at fin
        refine cB hg1 (wpS_bind (wpS_modify ?_))
        show wpS _ _ _ _ _ _ (sSt κ it p pe (m.g - 1))
        refine wpS_bind (aS ey (wpS_bind (gQ H ek ?_)))
        dsimp only
        by_cases hk:k>0
        ·rw[if_pos hk] at fin
         refine cB hk (aF (a2 hk) (aF (a3 hk) (wpS_bind (aS ey ?_))))
         refine aF a1 (wpS_bind (aS ex (wpS_bind (gQ H ej ?_))))
         dsimp only
         by_cases hj:j>0
         ·rw[if_pos hj] at fin
          refine cB hj (aF (a4 hj) (wpS_bind (aS ex ?_)))
          refine aF a5 ?_
          rw[dO,dO,eT,be,eT,be]
          exact fin _ _ rfl rfl
         ·rw[if_neg hj] at fin
          obtain rfl:j=0:=by omega
          refine aF hj (wpS_bind (aS ex ?_))
          refine aF a5 ?_
          rw[dO,eT,be,be]
          exact fin _ _ rfl rfl
        ·rw[if_neg hk] at fin
         obtain rfl:k=0:=by omega
         refine aF hk (wpS_bind (aS ey ?_))
         refine aF a1 (wpS_bind (aS ex (wpS_bind (gQ H ej ?_))))
         dsimp only
         by_cases hj:j>0
         ·rw[if_pos hj] at fin
          refine cB hj (aF (a4 hj) (wpS_bind (aS ex ?_)))
          refine aF a5 ?_
          rw[dO,be,eT,be]
          exact fin _ _ rfl rfl
         ·rw[if_neg hj] at fin
          obtain rfl:j=0:=by omega
          refine aF hj (wpS_bind (aS ex ?_))
          refine aF a5 ?_
          rw[be,be]
          exact fin _ _ rfl rfl
       ·rw[if_neg hg1] at fin
        refine aF hg1 (wpS_bind (wpS_modify ?_))
        show wpS _ _ _ _ _ _ (sSt κ it p pe m.g)
        refine wpS_bind (aS ey (wpS_bind (gQ H ek ?_)))
        dsimp only
        by_cases hk:k>0
        ·rw[if_pos hk] at fin
         refine cB hk (aF (a2 hk) (aF (a3 hk) (wpS_bind (aS ey ?_))))
         refine aF a1 (wpS_bind (aS ex (wpS_bind (gQ H ej ?_))))
         dsimp only
         by_cases hj:j>0
         ·rw[if_pos hj] at fin
          refine cB hj (aF (a4 hj) (wpS_bind (aS ex ?_)))
          refine aF a5 ?_
          rw[dO,dO,eT,be,eT,be]
          exact fin _ _ rfl rfl
         ·rw[if_neg hj] at fin
          obtain rfl:j=0:=by omega
          refine aF hj (wpS_bind (aS ex ?_))
          refine aF a5 ?_
          rw[dO,eT,be,be]
          exact fin _ _ rfl rfl
        ·rw[if_neg hk] at fin
         obtain rfl:k=0:=by omega
         refine aF hk (wpS_bind (aS ey ?_))
         refine aF a1 (wpS_bind (aS ex (wpS_bind (gQ H ej ?_))))
         dsimp only
         by_cases hj:j>0
         ·rw[if_pos hj] at fin
          refine cB hj (aF (a4 hj) (wpS_bind (aS ex ?_)))
          refine aF a5 ?_
          rw[dO,be,eT,be]
          exact fin _ _ rfl rfl
         ·rw[if_neg hj] at fin
          obtain rfl:j=0:=by omega
          refine aF hj (wpS_bind (aS ex ?_))
          refine aF a5 ?_
          rw[be,be]
          exact fin _ _ rfl rfl
      ·refine wpS_bind (wpS_modify (wpS_pure ?_))
       exact hR3
    ·exact wpS_pure (q G)
 ·cases h
end
end L2
set_option maxHeartbeats 1000000
namespace L2
open PySem PySem.W PyProof.Rows
section
variable {prog:Program}{w:World}{A:Around}{E:Value->Shared->Prop}{s:Shared}{κ:SortKind}{it:Array Keyed}{n:Nat}{lt:Nat->Nat->Bool}{p:Array Nat}
theorem tY {σ:Type}{M:Model}{st st':σ}{Q:PUnit->σ->Prop}(h:Q ⟨⟩ st'):wpS M A E s (set st':StateT σ Sem PUnit) Q st:=by unfold wpS;rw[StateT.run_set];exact wpAny_pure ⟨rfl,h⟩
theorem vV (k:Nat)(p:Array Nat): ∀l:List (Nat×Nat),(l.map fun q=>(kas_item it q.1,q.2)).foldl (fun a q=>a.setIfInBounds (0+k+q.2) q.1) (p.map (kas_item it))=(l.foldl (fun a q=>a.setIfInBounds (0+k+q.2) q.1) p).map (kas_item it):=by
 intro l
 induction l generalizing p with
 |nil=>rfl
 |cons q l ih=>
  rw[List.map_cons,List.foldl_cons,List.foldl_cons,<-ih]
  congr 1
  simp
theorem uo (H:Ans prog w A s κ it n lt){x y u v:Nat}{r:Array Nat}{Q:Bool->SortSt->Prop}(h:sPair n lt p x y=some r)(q:∀g,Q true (sSt κ it r #[(0,x+y,u)] g)):wpS (model prog w) A E s (mergeAt' 0) Q (sSt κ it p #[(0,x,u),(x,y,v)] 7):=by
 unfold sPair at h
 unfold mergeAt'
 split at h
 ·cases h
 rename_i key e1
 split at h
 ·cases h
 rename_i k e2
 split at h
 ·cases h
 rename_i z1
 split at h
 ·cases h
 rename_i last e3
 split at h
 ·cases h
 rename_i m e4
 split at h
 ·cases h
 rename_i z2
 split at h
 ·rename_i z3
  split at h
  ·rename_i mg e5
   cases h
   refine wpS_bind (wpS_get ?_)
   have p1:(pendingOf (sSt κ it p #[(0,x,u),(x,y,v)] 7))[0]?=some (0,x,u):=rfl
   have p2:(pendingOf (sSt κ it p #[(0,x,u),(x,y,v)] 7))[0+1]?=some (x,y,v):=rfl
   rw[p1,p2]
   refine wpS_bind (tY ?_)
   show wpS _ _ _ _ _ _ (sSt κ it p ((#[(0,x,u),(x,y,v)]:Array (Nat×Nat×Nat)).setIfInBounds 0 (0,x+y,u)|>.eraseIdxIfInBounds 1) 7)
   rw[show ((#[(0,x,u),(x,y,v)]:Array (Nat×Nat×Nat)).setIfInBounds 0 (0,x+y,u)|>.eraseIdxIfInBounds 1)= #[(0,x+y,u)] by simp [Array.eraseIdxIfInBounds]]
   refine wpS_bind (aS e1 (wpS_bind (gQ H e2 ?_)))
   dsimp only
   refine aF z1 (wpS_bind (aS e3 (wpS_bind (gQ H e4 ?_))))
   dsimp only
   refine aF z2 (cB z3 ?_)
   refine wpS_bind ?_
   show wpS _ _ _ _ (mrg' ((p.map (kas_item it)).extract (0+k) x) ((p.map (kas_item it)).extract x (x+m))) _ _
   rw[dO,dO]
   refine rP H e5 fun g=>?_
   refine wpS_bind (wpS_modify (wpS_bind (wpS_get (wpS_pure ?_))))
   show Q true (SortSt.mk' κ (List.foldl (fun (a:Array Keyed) (x:Keyed×Nat)=>a.setIfInBounds (0+k+x.2) x.1) (p.map (kas_item it)) (mg.map (kas_item it)).toList.zipIdx) #[(0,x+y,u)] g none)
   rw[Array.toList_map,List.zipIdx_map,show (Prod.map (kas_item it) id:Nat×Nat->Keyed×Nat)=fun q=>(kas_item it q.1,q.2) from rfl,vV]
   exact q g
  ·cases h
 ·cases h
theorem tw: ∀f m r,minRun' f m r=sMin f m r
 |0,m,r=>rfl
 |f+1,m,r=>by rw[minRun'_succ,sMin,tw f]
noncomputable abbrev L2S:=Option Unit×Nat
theorem ur {k:Nat}{f:Nat->L2S->StateT SortSt Sem (ForInStep L2S)}{p0 p1 r:Array Nat}{x:Nat}{R:L2S->SortSt->Prop}
  (hA: ∀i lo st R,lo≥k+2->R (.done (none,lo)) st->wpS (model prog w) A E s (f i (none,lo)) R st)
  (hB: ∀i lo y p p' R,¬lo≥k+2->sRun (k+2) lt p lo=some (y,p')->R (.yield (none,lo+y)) (sSt κ it p' #[(lo,y,0)] 7)->wpS (model prog w) A E s (f i (none,lo)) R (sSt κ it p #[] 7))
  (hC: ∀i lo y p p' z R,¬lo≥k+2->sRun (k+2) lt p lo=some (y,p')->(∀u,R (.yield (none,lo+y)) (sSt κ it p' #[(0,z,u),(lo,y,0)] 7))->wpS (model prog w) A E s (f i (none,lo)) R (sSt κ it p #[(0,z,0)] 7))
  (e1:sRun (k+2) lt p0 0=some (x,p1))(h:(if x=k+2 then some p1 else match sRun (k+2) lt p1 x with
   |none=>none
   |some (y,p')=>if x+y=k+2 then sPair (k+2) lt p' x y else none)=some r)
  (q1:p1=r->R (none,k+2) (sSt κ it r #[(0,k+2,0)] 7))(q2: ∀y u p2,sPair (k+2) lt p2 x y=some r->R (none,k+2) (sSt κ it p2 #[(0,x,u),(x,y,0)] 7)):
  wpS (model prog w) A E s (forIn (0::1::List.range' 2 k) (none,0) f) R (sSt κ it p0 #[] 7):=by
 refine aD (hB 0 0 x p0 p1 _ (by omega) e1 ?_)
 dsimp only
 rw[Nat.zero_add]
 by_cases z:x=k+2
 ·rw[if_pos z] at h
  cases h
  subst z
  exact aD (hA 1 _ _ _ (Nat.le_refl _) (q1 rfl))
 ·rw[if_neg z] at h
  split at h
  ·cases h
  rename_i y p2 e2
  split at h
  ·rename_i z2
   refine aD (hC 1 x y p1 p2 x _ (by omega) e2 fun u=>?_)
   dsimp only
   rw[z2]
   cases k with
   |zero=>exact d6 (q2 y u p2 h)
   |succ k=>rw[List.range'_succ];exact aD (hA 2 _ _ _ (Nat.le_refl _) (q2 y u p2 h))
  ·cases h
theorem tq (H:Ans prog w A s κ it n lt){lo y M:Nat}{p':Array Nat}{pe:Array (Nat×Nat×Nat)}{g:Nat}(hM:sMin n n 0=M)(h:sRun n lt p lo=some (y,p')): ∃f,jR n lt p lo (n - lo)=some f/\((f<M/\y=min (n - lo) M/\sBin n lt lo (min (n - lo) M - max f 1) (max f 1) p=some p')\/(¬f<M/\y=f/\p'=p)):=by
 unfold sRun at h
 rw[hM] at h
 split at h
 ·cases h
 rename_i f e
 refine⟨f,e,?_⟩
 split at h
 ·rename_i z
  split at h
  ·rename_i q e2
   cases h
   exact .inl ⟨z,rfl,e2⟩
  ·cases h
 ·rename_i z
  cases h
  exact .inr ⟨z,rfl,rfl⟩
theorem pB (H:Ans prog w A s κ it n lt){r:Array Nat}{Q:Unit->SortSt->Prop}(h2:2<=n)(h:sSort n lt=some r)(q:∀pe g,Q () (sSt κ it r pe g)):wpS (model prog w) A E s sortRuns' Q (sSt κ it (List.toArray (List.range n)) #[] 7):=by
 unfold sSort at h
 split at h
 ·cases h
 rename_i x p1 e1
 rw[sortRuns'_eq]
 refine wpS_bind (wpS_get ?_)
 dsimp only
 have hsz:(arrOf (sSt κ it (List.toArray (List.range n)) #[] 7)).size=n:=by
  show ((List.toArray (List.range n)).map (kas_item it)).size=_
  simp
 rw[hsz,tw]
 obtain⟨k,rfl⟩: ∃k,n=k+2:=⟨n - 2,by omega⟩
 obtain⟨M,hM⟩: ∃M,sMin (k+2) (k+2) 0=M:=⟨_,rfl⟩
 rw[hM]
 refine wpS_bind (aZ ?_)
 show wpS _ _ _ _ (forIn (0::1::List.range' 2 k) _ _) _ _
 refine ur (κ:=κ) (it:=it) (lt:=lt) (fun i lo st R z hR=>?_) (fun i lo y p p' R z e hR=>?_) (fun i lo y p p' v R z e hR=>?_) e1 h (fun e=>?_) fun y u p2 e=>?_
 ·exact cB z (wpS_pure hR)
 ·refine aF z ?_
  obtain⟨f,e2,⟨c1,rfl,e3⟩|⟨c1,rfl,rfl⟩⟩:=tq (pe:= #[]) (g:=7) H hM e
  ·refine wpS_bind (g9 H e2 ?_)
   dsimp only
   refine cB c1 (wpS_bind (wpS_lift (wpAny_rule ⟨rfl,?_⟩)))
   refine wpS_bind (tz H e3 ?_)
   refine aF (by simp) (wpS_bind (wpS_get ?_))
   exact wpS_bind (wpS_modify (wpS_pure hR))
  ·refine wpS_bind (g9 H e2 ?_)
   dsimp only
   refine aF c1 (wpS_bind (wpS_get ?_))
   exact wpS_bind (wpS_modify (wpS_pure hR))
 ·refine aF z ?_
  obtain⟨f,e2,⟨c1,rfl,e3⟩|⟨c1,rfl,rfl⟩⟩:=tq (pe:= #[]) (g:=7) H hM e
  ·refine wpS_bind (g9 H e2 ?_)
   dsimp only
   refine cB c1 (wpS_bind (wpS_lift (wpAny_rule ⟨rfl,?_⟩)))
   refine wpS_bind (tz H e3 ?_)
   refine aF (by simp) (wpS_bind (wpS_get ?_))
   refine wpS_bind (aZ ?_)
   show wpS _ _ _ _ (forIn (0::List.range' 1 (k+1)) _ _) _ _
   refine aD (wpS_bind (wpS_get ?_))
   refine wpS_pure ?_
   dsimp only
   refine wpS_bind (wpS_modify (wpS_bind (wpS_modify (wpS_pure ?_))))
   exact hR _
  ·refine wpS_bind (g9 H e2 ?_)
   dsimp only
   refine aF c1 (wpS_bind (wpS_get ?_))
   refine wpS_bind (aZ ?_)
   show wpS _ _ _ _ (forIn (0::List.range' 1 (k+1)) _ _) _ _
   refine aD (wpS_bind (wpS_get ?_))
   refine wpS_pure ?_
   dsimp only
   refine wpS_bind (wpS_modify (wpS_bind (wpS_modify (wpS_pure ?_))))
   exact hR _
 ·dsimp only
  refine wpS_bind (aZ ?_)
  show wpS _ _ _ _ (forIn (0::List.range' 1 (k+1)) _ _) _ _
  refine aD (wpS_bind (wpS_get ?_))
  refine cB (Nat.le_refl 1) (wpS_pure ?_)
  exact wpS_pure (q _ _)
 ·dsimp only
  refine wpS_bind (aZ ?_)
  show wpS _ _ _ _ (forIn (0::1::List.range' 2 k) _ _) _ _
  refine aD (wpS_bind (wpS_get ?_))
  refine aF (show¬(2<=1) by omega) ?_
  refine wpS_bind (uo (u:=u) (v:=0) H e fun g=>?_)
  refine aF (by simp) (wpS_pure ?_)
  dsimp only
  refine aD (wpS_bind (wpS_get ?_))
  refine cB (Nat.le_refl 1) (wpS_pure ?_)
  exact wpS_pure (q _ _)
end
end L2
set_option maxHeartbeats 1000000
namespace L2
open PySem PySem.W PyProof.Rows
section
variable {prog:Program}{w:World}{A:Around}{E:Value->Shared->Prop}{s:Shared}
structure RowAt (prog:Program)(w:World)(h:Heap)(v:Value)(k:List Int×Int)(m:Int):Prop where
 ex: ∃a o n c t u its,v=.ref a/\h.get? a=some o/\o.cls=.type "tuple"/\o.data=.seq #[.ref c,.int k.2 t,.int m u] n/\IsTup h c its/\IntsAre its.toList k.1/\IsTupleKey (intKind prog w) h k.1 c
theorem nK {a c:Int}{t u:Tok}{Q:Bool->Shared->Prop}(h:Q (decide (a=c)) s):wpAny (model prog w) A (eqBool (.int a t) (.int c u)) Q E s:=
 (intKind prog w).eqBool (a:=a) (b:=c) (by simp [intKind,Value.isInt]) (by simp [intKind,Value.isInt]) h
theorem uv {v v':Value}{k k':List Int×Int}{m m':Int}{Q:Bool->Shared->Prop}(hu:A.units<cLine)(hv:RowAt prog w s.heap v k m)(hv':RowAt prog w s.heap v' k' m')(h:Q (if k=k' then decide (m<m') else ltKy k k') s):
  wpAny (model prog w) A (keyLt' (tuples' false) v v') Q E s:=by
 obtain⟨a,o,n,c,t,u,its,rfl,g1,g2,g3,g4,g5,g6⟩:=hv
 obtain⟨a',o',n',c',t',u',its',rfl,q1,q2,q3,q4,q5,q6⟩:=hv'
 obtain⟨ks,l⟩:=k
 obtain⟨ks',l'⟩:=k'
 refine kat_lt g1 g3 q1 q3 ?_
 show KatLex prog w A false _ Q [(.ref c,.ref c'),(.int l t,.int l' t'),(.int m u,.int m' u')] 0 s
 refine kat_cons (wpAny_eqBool_tuple (knd:=intKind prog w) hu g6 q6 ?_)
 by_cases e1:ks=ks'
 ·subst e1
  rw[decide_eq_true rfl]
  refine kat_yes (kat_cons (nK ?_))
  by_cases e2:l=l'
  ·subst e2
   rw[if_pos rfl] at h
   rw[decide_eq_true rfl]
   refine kat_yes (kat_cons (nK ?_))
   by_cases e3:m=m'
   ·subst e3
    rw[decide_eq_true rfl]
    refine kat_yes (kat_nil ?_)
    rw[decide_eq_false (Int.lt_irrefl m)] at h
    exact h
   ·rw[decide_eq_false e3]
    exact kat_no (kat_one _ _ (lt_int h))
  ·rw[if_neg (fun z=>e2 (Prod.mk.inj z).2)] at h
   rw[decide_eq_false e2]
   unfold ltKy at h
   rw[if_pos rfl] at h
   exact kat_no (kat_one _ _ (lt_int h))
 ·rw[if_neg (fun z=>e1 (Prod.mk.inj z).1)] at h
  rw[decide_eq_false e1]
  unfold ltKy at h
  rw[if_neg e1] at h
  exact kat_no (kat_one _ _ (HT.lt_tupInts g4 q4 g5 q5 hu h))
theorem n8 {a:Addr}{vs:List Value}{n:Nat}{P:Fin->Shared->Prop}{κ:SortKind}{lt:Nat->Nat->Bool}{p:Array Nat}(ho:s.heap.get? a=some (seqObj "list" vs.toArray n))(hz:vs.length<=1000)(hp:sSort vs.length lt=some p)(hl:p.size<=1000)
  (hk: ∀Q:SortKind->Shared->Prop,Q κ {s with heap:=((s.heap.update a (Obj.mapSeq fun _=> #[])).push (seqObj "tuple" vs.toArray 0)).push (seqObj "list" #[] 0)}->wpAny (model prog w) A (keyKind' vs.toArray) Q (fun _ _=>False) {s with heap:=((s.heap.update a (Obj.mapSeq fun _=> #[])).push (seqObj "tuple" vs.toArray 0)).push (seqObj "list" #[] 0)})
  (hA:Ans prog w A {s with heap:=((s.heap.update a (Obj.mapSeq fun _=> #[])).push (seqObj "tuple" vs.toArray 0)).push (seqObj "list" #[] 0)} κ (vs.toArray.zip vs.toArray) vs.length lt)
  (h2:2<=vs.length)
  (h:P (.done (.ret .none)) {s with heap:=sortedHeap s.heap a vs (List.toArray (p.toList.map fun i=>vs.getD i Value.none))}):
  wpAny (model prog w) A (Builtin.«list.sort» ⟨[.ref a],[]⟩) P E s:=by
 have ha:a<s.heap.objs.size:=Heap.lt_size ho
 have big:1000<=sizeLine:=by decide
 obtain⟨e1,o1⟩: ∃e1,(s.heap.update a (Obj.mapSeq fun _=> #[])).get? a=some (seqObj "list" #[] e1):=⟨_,get?_update_seq ho (fun _=> #[])⟩
 rw[list_sort_plain]
 refine wpAny_bind (listItems_at ho rfl (wpAny_bind (listUpdate_at ho rfl ?_ (by rw[List.size_toArray];omega) (Nat.zero_le _))))
 refine wpAny_bind (seqEpoch_at o1 rfl (wpAny_bind (wpAny_newTuple ?_ (by show vs.length<=_;omega))))
 refine wpAny_bind (wpAny_newList ?_ (Nat.zero_le _))
 refine wpAny_holding ?_
 have o6:(((s.heap.update a (Obj.mapSeq fun _=> #[])).push (seqObj "tuple" vs.toArray 0)).push (seqObj "list" #[] 0)).get? a=some (seqObj "list" #[] e1):=Heap.get?_push_of_some _ (Heap.get?_push_of_some _ o1)
 dsimp only
 have n2: ¬vs.toArray.size<2:=by rw[List.size_toArray];omega
 rw[if_neg n2,if_neg n2]
 refine wpAny_bind (wpAny_mono (hk (fun κ' s'=>κ'=κ/\s'=_) ⟨rfl,rfl⟩) (fun κ' s' hκ=>?_) fun _ _ z=>z.elim)
 obtain⟨rfl,rfl⟩:=hκ
 have est:SortSt.mk' κ' (vs.toArray.zip vs.toArray) #[] 7 none=sSt κ' (vs.toArray.zip vs.toArray) (List.toArray (List.range vs.length)) #[] 7:=by
  have e:=kas_range (vs.toArray.zip vs.toArray)
  rw[show (vs.toArray.zip vs.toArray).size=vs.length by simp] at e
  unfold sSt
  rw[e]
 rw[est]
 have run:=pB (E:=E) (Q:=fun _ st=> ∃pe g,st=sSt κ' (vs.toArray.zip vs.toArray) p pe g) hA h2 hp fun pe g=>⟨pe,g,rfl⟩
 unfold wpS at run
 refine wpAny_bind (wpAny_mono run (fun r s' hr=>?_) fun _ _ z=>z)
 obtain⟨u,st⟩:=r
 obtain⟨rfl,pe,g,e⟩:=hr
 dsimp only at e
 subst e
 dsimp only
 have out:(arrOf (sSt κ' (vs.toArray.zip vs.toArray) p pe g)).map (·.2)=List.toArray (p.toList.map fun i=>vs.getD i Value.none):=kat_snds rfl rfl
 rw[out]
 refine wpAny_bind (seqEpoch_at o6 rfl (wpAny_bind (listUpdate_at o6 rfl ?_ (Nat.zero_le _) (by rw[List.size_toArray,List.length_map,Array.length_toList];omega))))
 simp only[bne_self_eq_false,Bool.false_eq_true,if_false]
 exact wpAny_pure h
end
end L2
set_option maxHeartbeats 1000000
namespace L2
open PySem PySem.W PyProof.Rows
section
variable {prog:Program}{w:World}{A:Around}{E:Value->Shared->Prop}{s:Shared}
theorem me {a:Addr}{v:Value}{n:Nat}{P:Fin->Shared->Prop}(ho:s.heap.get? a=some (seqObj "list" [v].toArray n))(h:P (.done (.ret .none)) {s with heap:=sortedHeap s.heap a [v] [v].toArray}):
  wpAny (model prog w) A (Builtin.«list.sort» ⟨[.ref a],[]⟩) P E s:=by
 obtain⟨e1,o1⟩: ∃e1,(s.heap.update a (Obj.mapSeq fun _=> #[])).get? a=some (seqObj "list" #[] e1):=⟨_,get?_update_seq ho (fun _=> #[])⟩
 rw[list_sort_plain]
 refine wpAny_bind (listItems_at ho rfl (wpAny_bind (listUpdate_at ho rfl ?_ (show 1<=sizeLine by decide) (Nat.zero_le _))))
 refine wpAny_bind (seqEpoch_at o1 rfl (wpAny_bind (wpAny_newTuple ?_ (show 1<=sizeLine by decide))))
 refine wpAny_bind (wpAny_newList ?_ (by decide))
 refine wpAny_holding ?_
 have o6:(((s.heap.update a (Obj.mapSeq fun _=> #[])).push (seqObj "tuple" [v].toArray 0)).push (seqObj "list" #[] 0)).get? a=some (seqObj "list" #[] e1):=Heap.get?_push_of_some _ (Heap.get?_push_of_some _ o1)
 dsimp only
 rw[if_pos (by simp),if_pos (by simp)]
 refine wpAny_bind (wpAny_pure ?_)
 rw[StateT.run_pure]
 refine wpAny_bind (wpAny_pure ?_)
 dsimp only
 have out:(arrOf (SortSt.mk' general' (([v].toArray).zip [v].toArray) #[] 7 none)).map (·.2)=[v].toArray:=by
  show (([v].toArray).zip [v].toArray).map (·.2)=_
  simp
 rw[out]
 refine wpAny_bind (seqEpoch_at o6 rfl (wpAny_bind (listUpdate_at o6 rfl ?_ (Nat.zero_le _) (show 1<=sizeLine+1 by decide))))
 simp only[bne_self_eq_false,Bool.false_eq_true,if_false]
 exact wpAny_pure h
end
def RowN (K:PySem.W.Frag)(H:Hp)(v:V)(k:(List Int×Int)×Int):Prop:= ∃a c,v=.ref a/\SqT K H a [.ref c,.int k.1.2,.int k.2]/\SqT K H c (k.1.1.map V.int)
section
variable {X:Cx}{pins:List (Addr×Obj)}{σ:St}{H:Hp}{s:Shared}
theorem nF: ∀ {ks:List Int}{us:List Value},Vals (ks.map V.int) us->IntsAre us ks
 |[],_,r=>by rw[List.map_nil] at r;cases r;exact .nil
 |k::ks,_,r=>by
  rw[List.map_cons] at r
  cases r with
  |cons h t=>
   obtain⟨tk,e⟩:=(show∃t,_=Value.int k t from h)
   subst e
   exact .cons k tk (nF t)
theorem pG (I:Inv X pins σ H s){v:V}{u:Value}{k:(List Int×Int)×Int}(h:RowN X.K H v k)(r:RelV v u):RowAt X.prog X.w s.heap u k.1 k.2:=by
 obtain⟨a,c,rfl,h1,h2⟩:=h
 cases r
 obtain⟨its2,r2,t2,_⟩:=I.tuple h2
 obtain⟨its,r1,⟨o,q1,q2,n,q3⟩,_⟩:=I.tuple h1
 have t2':=t2
 obtain⟨o2,g1,g2,n2,g3⟩:=t2'
 cases r1 with
 |cons hc r1=>
  cases r1 with
  |cons hl r1=>
   cases r1 with
   |cons hm r1=>
    cases r1
    cases hc
    obtain⟨t,e⟩:=(show∃t,_=Value.int k.1.2 t from hl)
    subst e
    obtain⟨u,e⟩:=(show∃t,_=Value.int k.2 t from hm)
    subst e
    exact⟨_,o,n,_,t,u,its2.toArray,rfl,q1,q2,q3,t2,by simpa using nF r2,o2,_,n2,g1,g2,g3,by simpa using iW r2⟩
def rSort (rs:List ((List Int×Int)×Int)):Option (Array Nat):=sSort rs.length fun i j=>ltKy (rs.getD i (([],0),0)).1 (rs.getD j (([],0),0)).1
theorem oI {vs:List Value}{ks:List ((List Int×Int)×Int)}{A:Around}{E:Value->Shared->Prop}{Q:SortKind->Shared->Prop}(hl:vs.length=ks.length)(h0:0<vs.length)(h:∀ (i:Nat) (v:Value) (k:(List Int×Int)×Int),vs[i]?=some v->ks[i]?=some k->RowAt X.prog X.w s.heap v k.1 k.2)(q:Q (tuples' false) s):
  wpAny (model X.prog X.w) A (keyKind' vs.toArray) Q E s:=by
 have fs: ∃fs:List Value,KatTups s.heap vs fs/\fs.length=vs.length/\ ∀f∈fs,Looks (model X.prog X.w) s.heap (typeOf f) (.type "tuple"):=by
  clear h0
  induction vs generalizing ks with
  |nil=>exact⟨[],trivial,rfl,fun f hf=>nomatch hf⟩
  |cons v vs ih=>
   cases ks with
   |nil=>cases hl
   |cons k ks=>
    obtain⟨fs,h1,h2,h3⟩:=ih (ks:=ks) (Nat.succ.inj hl) fun i v k a b=>h (i+1) v k a b
    obtain⟨a,o,n,c,t,u,its,rfl,g1,g2,g3,⟨o2,q1,q2,_⟩,_⟩:=h 0 v k rfl rfl
    refine⟨.ref c::fs,KatTups.cons g1 g2 g3 rfl h1,by rw[List.length_cons,List.length_cons,h2],fun f hf=>?_⟩
    rcases List.mem_cons.mp hf with rfl|hf
    ·rw[<-q2]
     exact (Looks.ld q1).andThen .now
    ·exact h3 f hf
 obtain⟨fs,h1,h2,h3⟩:=fs
 exact kat_kind h1 (by omega) h3 (by decide) q
theorem lX (hu:X.A.units+64<cLine):CallR X (.builtin "sorted") (fun xs H Q=> ∃ (p:Addr) (ys:List V) (rs:List ((List Int×Int)×Int)) (π:Array Nat),xs=[.ref p]/\SqL X.K H p ys/\ys.length=rs.length/\(∀ (i:Nat) (v:V) (k:(List Int×Int)×Int),ys[i]?=some v->rs[i]?=some k->RowN X.K H v k)/\1<=rs.length/\rs.length<=1000/\(rs.map (·.1)).Nodup/\rSort rs=some π/\π.size=rs.length/\(∀i∈π.toList,i<rs.length)/\
  ∀q,H q=none->Q (.ref q) (upd H q (.lst (π.toList.map fun i=>ys.getD i .non)))):=by
 intro pins s σ H xs us Q I r h
 obtain⟨p,ys,rs,π,rfl,hq,hl,hr,h1,hz,nd,hs,ps,pl,q⟩:=h
 obtain⟨u,rfl,ru⟩:=vals1 r
 cases ru
 obtain⟨its,rv,pl',_⟩:=I.list hq
 have il:=rv.length
 have big:1000<=sizeLine:=by decide
 refine Calls.call_function_entry kind_sorted plain_sorted entry_sorted (args_sorted1 _) ?_
 unfold Builtin.«sorted»
 refine wpAny_bind (m:=checkCount "sorted" 1 1 _) (wpAny_pure (wpAny_bind (collect_list pl'.isList ?_ (by omega))))
 refine wpAny_bind (wpAny_newList ?_ (by omega))
 have sz:((s.heap.push (seqObj "list" #[] 0)).update s.heap.objs.size (Obj.mapSeq (· ++its.toArray))).objs.size=s.heap.objs.size+1:=by rw[Heap.size_update,size_push']
 have keep: ∀b o,s.heap.get? b=some o->(((s.heap.push (seqObj "list" #[] 0)).update s.heap.objs.size (Obj.mapSeq (· ++its.toArray))).push (seqObj "list" its.toArray 0)).get? b=some o:=fun b o e=>by
  have lt:b<s.heap.objs.size:=Heap.lt_size e
  refine Heap.get?_push_of_some _ ?_
  rw[Heap.get?_update_ne _ _ _ _ (Nat.ne_of_lt lt)]
  exact Heap.get?_push_of_some _ e
 have oD:(((s.heap.push (seqObj "list" #[] 0)).update s.heap.objs.size (Obj.mapSeq (· ++its.toArray))).push (seqObj "list" its.toArray 0)).get? (s.heap.objs.size+1)=some (seqObj "list" its.toArray 0):=by
  rw[<-sz];exact Heap.get?_push_size _ rfl
 show wpAny _ _ _ _ _ {s with heap:=((s.heap.push (seqObj "list" #[] 0)).update s.heap.objs.size (Obj.mapSeq (· ++its.toArray))).push (seqObj "list" its.toArray 0)}
 rw[sz]
 generalize hB:((s.heap.push (seqObj "list" #[] 0)).update s.heap.objs.size (Obj.mapSeq (· ++its.toArray))).push (seqObj "list" its.toArray 0)=B at *
 have lD:s.heap.objs.size<=s.heap.objs.size+1:=Nat.le_succ _
 have keepE: ∀ (vs:List Value) b o,s.heap.get? b=some o->(((B.update (s.heap.objs.size+1) (Obj.mapSeq fun _=> #[])).push (seqObj "tuple" vs.toArray 0)).push (seqObj "list" #[] 0)).get? b=some o:=fun vs b o e=>by
  have lt:b<s.heap.objs.size:=Heap.lt_size e
  refine Heap.get?_push_of_some _ (Heap.get?_push_of_some _ ?_)
  rw[Heap.get?_update_ne _ _ _ _ (Nat.ne_of_lt (Nat.lt_succ_of_lt lt))]
  exact keep b o e
 have rel: ∀i∈π.toList,RelV (ys.getD i .non) (its.getD i Value.none):=fun i hi=>by
  have li:=pl i hi
  obtain⟨v,e1,r1⟩:=rv.get (show ys[i]?=some (ys.getD i .non) by rw[List.getD_eq_getElem?_getD,List.getElem?_eq_getElem (by omega)];rfl)
  rw[List.getD_eq_getElem?_getD (l:=its),e1]
  exact r1
 have vls: ∀l:List Nat,(∀i∈l,RelV (ys.getD i .non) (its.getD i Value.none))->Vals (l.map fun i=>ys.getD i .non) (l.map fun i=>its.getD i Value.none):=fun l=>by
  induction l with
  |nil=>intro _;exact .nil
  |cons i l ih=>intro hh;exact .cons (hh i List.mem_cons_self) (ih fun j hj=>hh j (List.mem_cons_of_mem _ hj))
 have fin: ∀ (l:List Nat),l.length<=1000->(∀i∈l,RelV (ys.getD i .non) (its.getD i Value.none))->Q (.ref (s.heap.objs.size+1)) (upd H (s.heap.objs.size+1) (.lst (l.map fun i=>ys.getD i .non)))->EP X pins σ Q (.ref (s.heap.objs.size+1)) {s with heap:=sortedHeap B (s.heap.objs.size+1) its (List.toArray (l.map fun i=>its.getD i Value.none))}:=fun l l1 l2 hQ=>by
  obtain⟨e1,o1⟩: ∃e1,(B.update (s.heap.objs.size+1) (Obj.mapSeq fun _=> #[])).get? (s.heap.objs.size+1)=some (seqObj "list" #[] e1):=⟨_,get?_update_seq oD (fun _=> #[])⟩
  have o6:(((B.update (s.heap.objs.size+1) (Obj.mapSeq fun _=> #[])).push (seqObj "tuple" its.toArray 0)).push (seqObj "list" #[] 0)).get? (s.heap.objs.size+1)=some (seqObj "list" #[] e1):=Heap.get?_push_of_some _ (Heap.get?_push_of_some _ o1)
  refine⟨.ref (s.heap.objs.size+1),_,I.laid (t':=s.toks) (o:=.lst (l.map fun i=>ys.getD i .non)) (fun b o e=>?_) lD ?_,rfl,hQ⟩
  ·have lt:b<s.heap.objs.size:=Heap.lt_size e
   unfold sortedHeap
   rw[Heap.get?_update_ne _ _ _ _ (Nat.ne_of_lt (Nat.lt_succ_of_lt lt))]
   exact keepE its b o e
  ·exact⟨by rw[List.length_map];omega,_,_,vls l l2,get?_update_seq o6 fun _=>List.toArray (l.map fun i=>its.getD i Value.none)⟩
 refine wpAny_bind (wpAny_holding (wpAny_call_entry slot_list_sort ⟨_,oD,rfl⟩ entry_list_sort ?_ (args_list_sort _)))
 have hQ:=q (s.heap.objs.size+1) (I.hok.fresh lD)
 by_cases h2:2<=its.length
 ·refine n8 (s:={s with heap:=B}) (κ:=tuples' false) (p:=π) (lt:=fun i j=>ltKy (rs.getD i (([],0),0)).1 (rs.getD j (([],0),0)).1) oD (by omega) (by rw[show its.length=rs.length by omega];exact hs) (by omega) (fun Q' hq'=>?_) (fun a b ha hb Q' hq'=>?_) h2 ?_
  ·have I6:=I.kept (t':=s.toks) (keepE its)
   refine oI (X:=X) (ks:=rs) (by omega) (by omega) (fun i v k e1 e2=>?_) hq'
   obtain⟨y,hy⟩: ∃y,ys[i]?=some y:=⟨_,List.getElem?_eq_getElem (by have:=(List.getElem?_eq_some_iff.mp e1).1;omega)⟩
   obtain⟨v',e3,r3⟩:=rv.get hy
   rw[e1] at e3
   cases e3
   exact pG I6 (hr i y k hy e2) r3
  ·have I6:=I.kept (t':=s.toks) (keepE its)
   have row: ∀i,i<its.length->RowAt X.prog X.w (((B.update (s.heap.objs.size+1) (Obj.mapSeq fun _=> #[])).push (seqObj "tuple" its.toArray 0)).push (seqObj "list" #[] 0)) (its.getD i Value.none) (rs.getD i (([],0),0)).1 (rs.getD i (([],0),0)).2:=fun i hi=>by
    have e1:ys[i]?=some (ys[i]'(by omega)):=List.getElem?_eq_getElem _
    have e2:rs[i]?=some (rs[i]'(by omega)):=List.getElem?_eq_getElem _
    obtain⟨v',e3,r3⟩:=rv.get e1
    have:=pG I6 (hr i _ _ e1 e2) r3
    rw[List.getD_eq_getElem?_getD,List.getD_eq_getElem?_getD,e3,e2]
    exact this
   rw[kat_item rfl,kat_item rfl]
   refine uv (by show X.A.units+1+1<cLine;omega) (row a ha) (row b hb) ?_
   by_cases ek:(rs.getD a (([],0),0)).1=(rs.getD b (([],0),0)).1
   ·have ab:a=b:=by
     have e1:(rs.map (·.1))[a]?=some (rs.getD a (([],0),0)).1:=by rw[List.getElem?_map,List.getD_eq_getElem?_getD,List.getElem?_eq_getElem (show a<rs.length by omega)];rfl
     have e2:(rs.map (·.1))[b]?=some (rs.getD b (([],0),0)).1:=by rw[List.getElem?_map,List.getD_eq_getElem?_getD,List.getElem?_eq_getElem (show b<rs.length by omega)];rfl
     rw[ek,<-e2] at e1
     exact (List.getElem?_inj (by rw[List.length_map];omega) nd).mp e1
    subst ab
    rw[if_pos rfl,decide_eq_false (Int.lt_irrefl _)]
    have:ltKy (rs.getD a (([],0),0)).1 (rs.getD a (([],0),0)).1=false:=by unfold ltKy;rw[if_pos rfl];exact decide_eq_false (Int.lt_irrefl _)
    have hq':Q' (ltKy (rs.getD a (([],0),0)).1 (rs.getD a (([],0),0)).1) _:=hq'
    rw[this] at hq'
    exact hq'
   ·rw[if_neg ek];exact hq'
  ·exact⟨_,rfl,wpAny_pure ⟨_,rfl,fin π.toList (by rw[Array.length_toList];omega) rel hQ⟩⟩
 ·obtain⟨v,rfl⟩: ∃v,its=[v]:=by
   match its,h2,il with
   |[v],_,_=>exact⟨v,rfl⟩
   |[],_,il=>exact absurd (show rs.length=0 by rw[<-hl,il];rfl) (by omega)
   |_::_::_,h2,_=>exact absurd (by simp) h2
  have p1:π.toList=[0]:=by
   have l1:rs.length=1:=by rw[<-hl,il];rfl
   rw[l1] at ps pl
   match hπ:π.toList,(Array.length_toList (xs:=π)) with
   |[i],_=>have:=pl i (by rw[hπ];simp);congr 1;omega
   |[],e=>rw[ps] at e;cases e
   |_::_::_,e=>rw[ps] at e;simp at e
  rw[p1] at hQ rel
  exact me (s:={s with heap:=B}) oD ⟨_,rfl,wpAny_pure ⟨_,rfl,fin [0] (by decide) rel hQ⟩⟩
end
end L2
set_option maxHeartbeats 1000000
namespace L2
open PySem PySem.W PyProof.Rows
section
variable {prog:Program}{w:World}{A:Around}{E:Value->Shared->Prop}{s:Shared}
def lSort (ls:List Nat):Option (Array Nat):=sSort ls.length fun i j=>decide ((ls.getD i 0:Int)<(ls.getD j 0:Int))
theorem ph {h h':Heap}{c:Addr}{its:Array Value}(x:IsTup h c its)(k:∀o,h.get? c=some o->h'.get? c=some o):IsTup h' c its:=by
 obtain⟨o,e,r⟩:=x
 exact⟨o,k o e,r⟩
theorem pw {a:Addr}{vs:List Value}{n:Nat}{P:Fin->Shared->Prop}{ls:List Nat}{p:Array Nat}(ho:s.heap.get? a=some (seqObj "list" vs.toArray n))(hz:vs.length<=1000)(hl:ls.length=vs.length)(h1:1<=vs.length)
  (hv: ∀ (i:Nat) (v:Value),vs[i]?=some v-> ∃c its,v=.ref c/\IsTup s.heap c its/\c≠a/\its.size<=1000/\ls[i]?=some its.size)
  (hp:lSort ls=some p)(hps:p.size<=1000)(hp1:vs.length=1->p.toList=[0])
  (h:∀h' tk c,(∀b o,b≠a->s.heap.get? b=some o->h'.get? b=some o)->h'.get? a=some (seqObj "list" (List.toArray (p.toList.map fun i=>vs.getD i Value.none)) c)->P (.done (.ret .none)) {s with heap:=h',toks:=tk}):
  wpAny (model prog w) A (Builtin.«list.sort» ⟨[.ref a],[(Str.ofString "key",.builtin "len")]⟩) P E s:=by
 have ha:a<s.heap.objs.size:=Heap.lt_size ho
 have big:1000<sizeLine:=by decide
 obtain⟨e1,o1⟩: ∃e1,(s.heap.update a (Obj.mapSeq fun _=> #[])).get? a=some (seqObj "list" #[] e1):=⟨_,get?_update_seq ho (fun _=> #[])⟩
 rw[ksk_t4]
 unfold ksk_tree
 refine wpAny_bind (listItems_at ho rfl (wpAny_bind (listUpdate_at ho rfl ?_ (by rw[List.size_toArray];omega) (Nat.zero_le _))))
 refine wpAny_bind (seqEpoch_at o1 rfl (wpAny_bind (wpAny_newTuple ?_ (by show vs.length<=_;omega))))
 refine wpAny_bind (wpAny_newList ?_ (Nat.zero_le _))
 refine wpAny_holding ?_
 have keep: ∀b o,b≠a->s.heap.get? b=some o->(((s.heap.update a (Obj.mapSeq fun _=> #[])).push (seqObj "tuple" vs.toArray 0)).push (seqObj "list" #[] 0)).get? b=some o:=fun b o hb e=>
  Heap.get?_push_of_some _ (Heap.get?_push_of_some _ (by rw[Heap.get?_update_ne _ _ _ _ hb];exact e))
 have o6:(((s.heap.update a (Obj.mapSeq fun _=> #[])).push (seqObj "tuple" vs.toArray 0)).push (seqObj "list" #[] 0)).get? a=some (seqObj "list" #[] e1):=Heap.get?_push_of_some _ (Heap.get?_push_of_some _ o1)
 have oK:=Heap.get?_push_size ((s.heap.update a (Obj.mapSeq fun _=> #[])).push (seqObj "tuple" vs.toArray 0)) (o:=seqObj "list" #[] 0) rfl
 have sK:a≠((s.heap.update a (Obj.mapSeq fun _=> #[])).push (seqObj "tuple" vs.toArray 0)).objs.size:=by
  rw[size_push',Heap.size_update];exact Nat.ne_of_lt (Nat.lt_succ_of_lt ha)
 have bK: ∀b o,s.heap.get? b=some o->b≠((s.heap.update a (Obj.mapSeq fun _=> #[])).push (seqObj "tuple" vs.toArray 0)).objs.size:=fun b o e=>by
  rw[size_push',Heap.size_update];exact Nat.ne_of_lt (Nat.lt_succ_of_lt (Heap.lt_size e))
 show wpAny (model prog w) A (ksk_rest a (.builtin "len") false vs.toArray e1 (.ref ((s.heap.update a (Obj.mapSeq fun _=> #[])).push (seqObj "tuple" vs.toArray 0)).objs.size)) P E {s with heap:=((s.heap.update a (Obj.mapSeq fun _=> #[])).push (seqObj "tuple" vs.toArray 0)).push (seqObj "list" #[] 0)}
 generalize ((s.heap.update a (Obj.mapSeq fun _=> #[])).push (seqObj "tuple" vs.toArray 0)).objs.size=kS at *
 generalize ((s.heap.update a (Obj.mapSeq fun _=> #[])).push (seqObj "tuple" vs.toArray 0)).push (seqObj "list" #[] 0)=hE at *
 unfold ksk_rest
 refine wpAny_bind (wpAny_rule ?_)
 rw[<-Array.forIn_toList]
 show wpAny _ _ (forIn vs _ _>>=_) _ _ _
 refine wpAny_bind (ksk_fold (fun i s'=> ∃h' tk kA e,s'={s with heap:=h',toks:=tk}/\(∀b o,b≠a->s.heap.get? b=some o->h'.get? b=some o)/\h'.get? a=some (seqObj "list" #[] e1)/\h'.get? kS=some (seqObj "list" kA e)/\IntsAre kA.toList ((ls.take i).map Int.ofNat)) vs 0 _ ⟨hE,s.toks,#[],0,rfl,keep,o6,oK,.nil⟩ ?_ ?_)
 ·rintro j x s' hx ⟨h',tk,kA,e,rfl,k1,k2,k3,k4⟩
  rw[Nat.zero_add] at k4 ⊢
  obtain⟨c,its,rfl,t1,ca,isz,lj⟩:=hv j x hx
  have t2:IsTup h' c its:=ph t1 fun o e=>k1 c o ca e
  have kl:kA.size<=1000:=by
   have h1:=k4.length
   rw[Array.length_toList,List.length_map,List.length_take] at h1
   omega
  refine wpAny_bind (wpAny_attempt (len_tuple t2 (by have:=fX;omega) ?_))
  dsimp only
  refine wpAny_bind (listUpdate_at k3 rfl ?_ (by omega) (Nat.le_trans (Nat.le_of_eq (Array.size_push ..)) (by omega)))
  refine wpAny_pure ⟨rfl,_,_,kA.push (.int its.size (tk+1)),_,rfl,fun b o hb e=>?_,?_,get?_update_seq k3 (·.push (.int its.size (tk+1))),?_⟩
  ·rw[Heap.get?_update_ne _ _ _ _ (bK b o e)];exact k1 b o hb e
  ·rw[Heap.get?_update_ne _ _ _ _ sK];exact k2
  ·rw[List.take_add_one,lj,List.map_append,Array.toList_push]
   exact ksk_snoc k4
 ·rintro s' ⟨h',tk,kA,e,rfl,k1,k2,k3,k4⟩
  rw[Nat.zero_add,List.take_of_length_le (by omega)] at k4
  have ks:kA.size=vs.length:=by
   have h1:=k4.length
   rw[Array.length_toList,List.length_map] at h1
   omega
  refine wpAny_bind (listItems_at k3 rfl ?_)
  have tail: ∀ (st:SortSt),(arrOf st).map (·.2)=List.toArray (p.toList.map fun i=>vs.getD i Value.none)->failedOf st=none->wpAny (model prog w) A (ksk_tail a false e1 (.ref kS) st) P E {s with heap:=h',toks:=tk}:=fun st ea ef=>by
   unfold ksk_tail
   dsimp only
   rw[ea]
   have k5:(h'.update kS (Obj.mapSeq fun _=> #[])).get? a=some (seqObj "list" #[] e1):=by rw[Heap.get?_update_ne _ _ _ _ sK];exact k2
   refine wpAny_bind (listUpdate_at k3 rfl ?_ (by omega) (Nat.zero_le _))
   refine wpAny_bind (wpAny_letGo (wpAny_bind (seqEpoch_at k5 rfl ?_)))
   refine wpAny_bind (listUpdate_at k5 rfl ?_ (Nat.zero_le _) ?_)
   ·rw[ef]
    simp only[bne_self_eq_false,Bool.false_eq_true,if_false]
    refine wpAny_pure (h _ _ _ (fun b o hb e=>?_) (get?_update_seq k5 fun _=>List.toArray (p.toList.map fun i=>vs.getD i Value.none)))
    rw[Heap.get?_update_ne _ _ _ _ hb,Heap.get?_update_ne _ _ _ _ (bK b o e)]
    exact k1 b o hb e
   ·show (List.toArray (p.toList.map fun i=>vs.getD i Value.none)).size<=_
    rw[List.size_toArray,List.length_map,Array.length_toList];omega
  unfold ksk_end
  dsimp only
  simp only[Bool.false_eq_true,if_false]
  by_cases h2:vs.length<2
  ·have h2':vs.toArray.size<2:=by rw[List.size_toArray];exact h2
   rw[if_pos h2',if_pos h2']
   refine wpAny_bind (wpAny_pure ?_)
   rw[StateT.run_pure]
   refine wpAny_bind (wpAny_pure (tail _ ?_ rfl))
   rw[hp1 (by omega)]
   obtain⟨v,rfl⟩: ∃v,vs=[v]:=by
    match vs,h1,h2 with
    |[v],_,_=>exact⟨v,rfl⟩
    |_::_::_,_,h2=>simp at h2;omega
   show (kA.zip [v].toArray).map (·.2)=_
   obtain⟨k,rfl⟩: ∃k,kA= #[k]:=by
    rcases kA with⟨l⟩
    match l,ks with
    |[k],_=>exact⟨k,rfl⟩
   simp
  ·have h2': ¬vs.toArray.size<2:=by rw[List.size_toArray];exact h2
   rw[if_neg h2',if_neg h2',ksk_kind k4 (by omega)]
   refine wpAny_bind (wpAny_pure ?_)
   have zz:(kA.zip vs.toArray).size=vs.length:=by simp [ks]
   have est:SortSt.mk' oneType' (kA.zip vs.toArray) #[] 7 none=sSt oneType' (kA.zip vs.toArray) (List.toArray (List.range vs.length)) #[] 7:=by
    have e:=kas_range (kA.zip vs.toArray)
    rw[zz] at e
    unfold sSt
    rw[e]
   rw[est]
   have ek:kA.toList.toArray=kA:=Array.toArray_toList
   have itm: ∀i,kas_item (kA.zip vs.toArray) i=(kA.toList.getD i Value.none,vs.getD i Value.none):=fun i=>by
    have:=kat_item (ks:=kA.toList) (vs:=vs) (by rw[Array.length_toList,ks]) i
    rw[ek] at this;exact this
   have key: ∀i,i<vs.length-> ∃t,kA.toList.getD i Value.none=.int (ls.getD i 0:Nat) t:=fun i hi=>by
    have gi: ∀ {us:List Value}{ns:List Int}{i:Nat}{m:Int},IntsAre us ns->ns[i]?=some m-> ∃t,us[i]?=some (.int m t):=fun{us ns}=>by
     intro i m x
     induction x generalizing i with
     |nil=>intro e;simp at e
     |cons a t _ ih=>
      intro e
      cases i with
      |zero=>cases e;exact⟨t,rfl⟩
      |succ i=>exact ih e
    obtain⟨t,et⟩:=gi (m:=((ls.getD i 0:Nat):Int)) k4 (i:=i) (by rw[List.getElem?_map,List.getD_eq_getElem?_getD,List.getElem?_eq_getElem (by omega)];rfl)
    exact⟨t,by rw[List.getD_eq_getElem?_getD,et];rfl⟩
   have ans:Ans prog w A {s with heap:=h',toks:=tk} oneType' (kA.zip vs.toArray) vs.length fun i j=>decide ((ls.getD i 0:Int)<(ls.getD j 0:Int)):=fun i j hi hj Q' hq=>by
    rw[itm,itm]
    obtain⟨t,et⟩:=key i hi
    obtain⟨u,eu⟩:=key j hj
    rw[et,eu,keyLt'_oneType]
    exact oneLt_int hq
   have run:=pB (E:=E) (Q:=fun _ st=> ∃pe g,st=sSt oneType' (kA.zip vs.toArray) p pe g) ans (by omega) (by rw[<-hl];exact hp) fun pe g=>⟨pe,g,rfl⟩
   unfold wpS at run
   refine wpAny_bind (wpAny_mono run (fun r s' hr=>?_) fun _ _ z=>z)
   obtain⟨u,st⟩:=r
   obtain⟨rfl,pe,g,e⟩:=hr
   dsimp only at e
   subst e
   refine tail _ ?_ rfl
   have:=kat_snds (ks:=kA.toList) (vs:=vs) (st:=sSt oneType' (kA.zip vs.toArray) p pe g) (p:=p) (by rw[Array.length_toList,ks]) (by rw[ek];rfl)
   exact this
end
end L2
set_option maxHeartbeats 1000000
namespace L2
open PySem PySem.Spec PyProof.Rows
section
variable {X:Cx}{E:XK}{a:Expr}{p p2 pos kpos:Pos}{fa:Env'->M W}{l:Env'->M (List W)}
def rowW (w:W):Option ((List Int×Int)×Int):=match w with
 |.tup [.tup l,.int i,.int m]=>(optL iOf l).map fun ks=>((ks,i),m)
 |_=>none
noncomputable abbrev piOk (π:Array Nat)(n:Nat):Prop:=π.size=n/\ ∀i∈π.toList,i<n
def sortW (ws:List W):M W:=match ws with
 |[w]=>bd (lstOf w) fun l=>match optL rowW l with
  |some rs=>gd (1<=rs.length/\rs.length<=1000/\(rs.map (·.1)).Nodup) (match rSort rs with
   |some π=>gd (piOk π rs.length) (pr (.tl (π.toList.map fun i=>l.getD i .non)))
   |none=>no)
  |none=>no
 |_=>no
theorem kU {α β:Type}{f:α->Option β}: ∀ {l:List α}{m:List β},optL f l=some m->m.length=l.length:=by
 intro l
 induction l with
 |nil=>intro m h;cases h;rfl
 |cons x l ih=>
  intro m h
  unfold optL at h
  cases e1:f x with
  |none=>rw[e1] at h;cases h
  |some y=>
   cases e2:optL f l with
   |none=>rw[e1,e2] at h;cases h
   |some r=>
    rw[e1,e2] at h
    cases h
    rw[List.length_cons,List.length_cons,ih e2]
theorem kW {α β:Type}{f:α->Option β}: ∀ {l:List α}{m:List β}{i:Nat}{x:α},optL f l=some m->l[i]?=some x-> ∃y,m[i]?=some y/\f x=some y:=by
 intro l
 induction l with
 |nil=>intro m i x h e;simp at e
 |cons z l ih=>
  intro m i x h e
  unfold optL at h
  cases e1:f z with
  |none=>rw[e1] at h;cases h
  |some y=>
   cases e2:optL f l with
   |none=>rw[e1,e2] at h;cases h
   |some r=>
    rw[e1,e2] at h
    cases h
    cases i with
    |zero=>cases e;exact⟨y,rfl,e1⟩
    |succ i=>
     obtain⟨y',g1,g2⟩:=ih (m:=r) (i:=i) (x:=x) e2 e
     exact⟨y',g1,g2⟩
theorem rR {K:PySem.W.Frag}{o:Wo}{w:W}{v:V}{k:(List Int×Int)×Int}(h:rowW w=some k)(r:Rv K o w v):RowN K o.H v k:=by
 unfold rowW at h
 split at h
 ·rename_i l i m
  obtain⟨ks,e,rfl⟩:=Option.map_eq_some_iff.mp h
  unfold Rv at r
  obtain⟨a,vs,rfl,s,r⟩:=r
  unfold Rvs at r
  obtain⟨v1,r1,rfl,h1,r⟩:=r
  unfold Rvs at r
  obtain⟨v2,r2,rfl,h2,r⟩:=r
  unfold Rvs at r
  obtain⟨v3,r3,rfl,h3,r⟩:=r
  unfold Rvs at r
  subst r
  rw[rv_int.mp h2,rv_int.mp h3] at s
  unfold Rv at h1
  obtain⟨c,us,rfl,s1,r1⟩:=h1
  have e2:us=ks.map V.int:=dP iX e r1
  subst e2
  exact⟨a,c,rfl,s,s1⟩
 ·cases h
theorem iB {K:PySem.W.Frag}{o:Wo}{l:List W}{vs:List V}(r:Rvs K o l vs): ∀ {π:List Nat},(∀i∈π,i<l.length)->Rvs K o (π.map fun i=>l.getD i .non) (π.map fun i=>vs.getD i .non)
 |[],_=>Rvs.nil
 |i::π,h=>by
  have hi:=h i List.mem_cons_self
  have e1:l[i]?=some (l.getD i .non):=by rw[List.getD_eq_getElem?_getD,List.getElem?_eq_getElem hi];rfl
  obtain⟨v,e2,r2⟩:=r.get e1
  refine Rvs.cons ?_ (iB r fun j hj=>h j (List.mem_cons_of_mem _ hj))
  show Rv K o (l.getD i .non) (vs.getD i .non)
  rw[List.getD_eq_getElem?_getD (l:=vs),e2]
  exact r2
theorem uj:CallM X E (fun xs H Q=> ∃ (p:Addr) (ys:List V) (rs:List ((List Int×Int)×Int)) (π:Array Nat),xs=[.ref p]/\SqL X.K H p ys/\ys.length=rs.length/\(∀ (i:Nat) (v:V) (k:(List Int×Int)×Int),ys[i]?=some v->rs[i]?=some k->RowN X.K H v k)/\1<=rs.length/\rs.length<=1000/\(rs.map (·.1)).Nodup/\rSort rs=some π/\π.size=rs.length/\(∀i∈π.toList,i<rs.length)/\
  ∀q,H q=none->Q (.ref q) (upd H q (.lst (π.toList.map fun i=>ys.getD i .non)))) sortW:=fun o ws vs Q R rv h=>by
 unfold sortW at h
 split at h
 ·obtain⟨v,rfl,r⟩:=rv.one
  obtain⟨l,a,us,rfl,s,r,h⟩:=bD R r h
  cases e:optL rowW l with
  |none=>rw[e] at h;exact h.elim
  |some rs=>
   rw[e] at h
   obtain⟨⟨h1,h2,h3⟩,h⟩:=h.gd
   cases e2:rSort rs with
   |none=>rw[e2] at h;exact h.elim
   |some π=>
    rw[e2] at h
    obtain⟨⟨p1,p2⟩,h⟩:=h.gd
    have ll:=kU e
    have lu:=r.len
    refine⟨a,us,rs,π,rfl,s,by omega,fun i v k e3 e4=>?_,h1,h2,h3,e2,p1,p2,fun q hq=>fu R hq (iB r fun i hi=>by rw[<-ll];exact p2 i hi) h⟩
    obtain⟨w,ew⟩: ∃w,l[i]?=some w:=⟨_,List.getElem?_eq_getElem (by have:=(List.getElem?_eq_some_iff.mp e4).1;omega)⟩
    obtain⟨y,ey,fy⟩:=kW e ew
    rw[e4] at ey
    cases ey
    obtain⟨v',ev,rv'⟩:=r.get ew
    rw[e3] at ev
    cases ev
    exact rR fy rv'
 ·exact h.elim
theorem oz (hu:X.A.units+64<cLine)(hm:X.mg "sorted"=none)(ha:JA X E [a] l)(hg:Gl X "sorted":=by rfl)(he:starEach [a] X.env=(false,eval a X.env)::starEach [] X.env:=by rfl)(hpl:(backTo pos (starEach [] X.env)).any (·.1)=false:=by rfl):JE X E (.Call (.Name "sorted" p) [a] [] pos) (mCall sortW l):=
 dD (lX hu) uj hg hm PyProof.Rows.boot_sorted ha (by decide) (by decide) he hpl
def t9 (K:PySem.W.Frag)(ta:TE):TE:=fun σ H Q=>ta σ H fun x H1=> ∃ (p:Addr) (ys:List V) (ls:List Nat) (π:Array Nat),x=.ref p/\SqL K H1 p ys/\ls.length=ys.length/\(∀ (i:Nat) (v:V),ys[i]?=some v-> ∃c vs,v=.ref c/\SqT K H1 c vs/\vs.length<=1000/\ls[i]?=some vs.length)/\1<=ls.length/\ls.length<=1000/\lSort ls=some π/\piOk π ls.length/\
 ∀q,H1 q=none->Q (.ref q) (upd H1 q (.lst (π.toList.map fun i=>ys.getD i .non)))
theorem pQ {ta:TE}(hg:Gl X "sorted")(hm:X.mg "sorted"=none)(hgl:Gl X "len")(hml:X.mg "len"=none)(ha:PE X a ta)(he:starEach [a] X.env=(false,eval a X.env)::starEach [] X.env:=by rfl):
  PE X (.Call (.Name "sorted" p) [a] [⟨some "key",.Name "len" p2,kpos⟩] pos) (t9 X.K ta):=by
 intro pins s σ H Q I h
 refine wpAny_Call_Name_kw (dc I hg hm PyProof.Rows.boot_sorted ?_ (by decide) (by decide))
 refine PyProof.Rows.callWith_builtin_kwB (first:=[]) (by rw[he];rfl) rfl ?_
 rw[he]
 refine PySem.evalArgs_kw rfl (Calls.spliced_cons (thn (ha pins s σ H _ I h) fun u s1 ⟨x,H1,I1,rx,pp,ys,ls,π,ex,hq,hl,hv,h1,hz,hs,⟨ps,pl⟩,q⟩=>Calls.spliced_nil ?_))
 show wpAny _ _ (evalAll [(do let v<-eval (.Name "len" p2) X.env;standAt pos;pure v)]) _ _ s1
 refine wpAny_evalAll_cons (wpAny_bind (dc I1 hgl hml PySem.boot_len (wpAny_bind (wpAny_standAt (wpAny_pure (wpAny_evalAll_nil ?_)))) (by decide) (by decide)))
 subst ex
 cases rx
 obtain⟨its,rv,pl',_⟩:=I1.list hq
 have il:=rv.length
 have big:1000<=sizeLine:=by decide
 show wpAny _ _ (call (.builtin "sorted") [.ref pp] [(Str.ofString "key",.builtin "len")]) _ _ s1
 refine call_function_entry_kw kind_sorted plain_sorted entry_sorted (ksk_s1 _ _) ?_
 unfold Builtin.«sorted»
 refine wpAny_bind (m:=checkCount "sorted" 1 1 _) (wpAny_pure (wpAny_bind (collect_list pl'.isList ?_ (by omega))))
 refine wpAny_bind (wpAny_newList ?_ (by omega))
 have sz:((s1.heap.push (seqObj "list" #[] 0)).update s1.heap.objs.size (Obj.mapSeq (· ++its.toArray))).objs.size=s1.heap.objs.size+1:=by rw[Heap.size_update,size_push']
 have keep: ∀b o,s1.heap.get? b=some o->(((s1.heap.push (seqObj "list" #[] 0)).update s1.heap.objs.size (Obj.mapSeq (· ++its.toArray))).push (seqObj "list" its.toArray 0)).get? b=some o:=fun b o e=>by
  have lt:b<s1.heap.objs.size:=Heap.lt_size e
  refine Heap.get?_push_of_some _ ?_
  rw[Heap.get?_update_ne _ _ _ _ (Nat.ne_of_lt lt)]
  exact Heap.get?_push_of_some _ e
 have oD:(((s1.heap.push (seqObj "list" #[] 0)).update s1.heap.objs.size (Obj.mapSeq (· ++its.toArray))).push (seqObj "list" its.toArray 0)).get? (s1.heap.objs.size+1)=some (seqObj "list" its.toArray 0):=by
  rw[<-sz];exact Heap.get?_push_size _ rfl
 show wpAny _ _ _ _ _ {s1 with heap:=((s1.heap.push (seqObj "list" #[] 0)).update s1.heap.objs.size (Obj.mapSeq (· ++its.toArray))).push (seqObj "list" its.toArray 0)}
 rw[sz]
 generalize ((s1.heap.push (seqObj "list" #[] 0)).update s1.heap.objs.size (Obj.mapSeq (· ++its.toArray))).push (seqObj "list" its.toArray 0)=B at *
 have lD:s1.heap.objs.size<=s1.heap.objs.size+1:=Nat.le_succ _
 refine wpAny_bind (wpAny_holding (wpAny_call_entry_kw slot_list_sort ⟨_,oD,rfl⟩ entry_list_sort ?_ (ksk_l1 _ _)))
 refine pw (s:={s1 with heap:=B}) (ls:=ls) (p:=π) oD (by omega) (by omega) (by omega) (fun i v ei=>?_) hs (by omega) (fun e1=>?_) fun h' tk c k1 k2=>?_
 ·obtain⟨y,hy⟩: ∃y,ys[i]?=some y:=⟨_,List.getElem?_eq_getElem (by have:=(List.getElem?_eq_some_iff.mp ei).1;omega)⟩
  obtain⟨v',e3,r3⟩:=rv.get hy
  rw[ei] at e3
  cases e3
  obtain⟨cc,vs,rfl,sq,vl,lv⟩:=hv i y hy
  cases r3
  obtain⟨it2,r2,⟨o,g1,g2⟩,_⟩:=I1.tuple sq
  have l2:=r2.length
  refine⟨cc,it2.toArray,rfl,⟨o,keep cc o g1,g2⟩,fun z=>?_,by rw[List.size_toArray];omega,by rw[List.size_toArray,<-l2];exact lv⟩
  have:=Heap.lt_size g1
  rw[z] at this
  exact absurd this (Nat.not_lt.mpr (Nat.le_succ _))
 ·have l1:ls.length=1:=by omega
  rw[l1] at ps pl
  match hπ:π.toList,(Array.length_toList (xs:=π)) with
  |[i],_=>have:=pl i (by rw[hπ];simp);congr 1;omega
  |[],e=>rw[ps] at e;cases e
  |_::_::_,e=>rw[ps] at e;simp at e
 ·refine⟨_,rfl,wpAny_pure ⟨_,rfl,.ref (s1.heap.objs.size+1),_,I1.laid (t':=tk) (o:=.lst (π.toList.map fun i=>ys.getD i .non)) (fun b o e=>?_) lD ?_,rfl,q _ (I1.hok.fresh lD)⟩⟩
  ·exact k1 b o (Nat.ne_of_lt (Nat.lt_succ_of_lt (Heap.lt_size e))) (keep b o e)
  ·refine⟨by rw[List.length_map,Array.length_toList];omega,_,c,?_,k2⟩
   have vls: ∀l:List Nat,(∀i∈l,i<ls.length)->Vals (l.map fun i=>ys.getD i .non) (l.map fun i=>its.getD i Value.none):=fun l=>by
    induction l with
    |nil=>intro _;exact .nil
    |cons i l ih=>
     intro hh
     have li:=hh i List.mem_cons_self
     obtain⟨v,e1,r1⟩:=rv.get (show ys[i]?=some (ys.getD i .non) by rw[List.getD_eq_getElem?_getD,List.getElem?_eq_getElem (by omega)];rfl)
     refine .cons ?_ (ih fun j hj=>hh j (List.mem_cons_of_mem _ hj))
     show RelV (ys.getD i .non) (its.getD i Value.none)
     rw[List.getD_eq_getElem?_getD (l:=its),e1]
     exact r1
   exact vls _ pl
noncomputable def lenT (w:W):Option Nat:=match w with
 |.tup l=>some l.length
 |_=>none
def iw (w:W):M W:=bd (lstOf w) fun l=>match optL lenT l with
 |some ls=>gd (1<=ls.length/\ls.length<=1000/\ ∀n∈ls,n<=1000) (match lSort ls with
  |some π=>gd (piOk π ls.length) (pr (.tl (π.toList.map fun i=>l.getD i .non)))
  |none=>no)
 |none=>no
theorem qu (hm:X.mg "sorted"=none)(hml:X.mg "len"=none)(ha:JE X E a fa)(hg:Gl X "sorted":=by rfl)(hgl:Gl X "len":=by rfl)(he:starEach [a] X.env=(false,eval a X.env)::starEach [] X.env:=by rfl):
  JE X E (.Call (.Name "sorted" p) [a] [⟨some "key",.Name "len" p2,kpos⟩] pos) (m1 iw fa):=(pQ hg hm hgl hml ha.h he).imp fun σ H Q h=>by
 obtain⟨o,ρ,rfl,R,S,h⟩:=h
 refine⟨o,ρ,rfl,R,S,Ps.bd h fun p x vx e1 R1 r1 h1=>?_⟩
 unfold iw at h1
 obtain⟨l,a',us,rfl,s,r,h1⟩:=bD R1 r1 h1
 cases e:optL lenT l with
 |none=>rw[e] at h1;exact h1.elim
 |some ls=>
  rw[e] at h1
  obtain⟨⟨g1,g2,g3⟩,h1⟩:=h1.gd
  cases e2:lSort ls with
  |none=>rw[e2] at h1;exact h1.elim
  |some π=>
   rw[e2] at h1
   obtain⟨pk,h1⟩:=h1.gd
   have ll:=kU e
   have lu:=r.len
   refine⟨a',us,ls,π,rfl,s,by omega,fun i v ei=>?_,g1,g2,e2,pk,fun q hq=>fu R1 hq (iB r fun i hi=>by rw[<-ll];exact pk.2 i hi) h1⟩
   obtain⟨w,ew⟩: ∃w,l[i]?=some w:=⟨_,List.getElem?_eq_getElem (by have:=(List.getElem?_eq_some_iff.mp ei).1;omega)⟩
   obtain⟨y,ey,fy⟩:=kW e ew
   obtain⟨v',ev,rv'⟩:=r.get ew
   rw[ei] at ev
   cases ev
   unfold lenT at fy
   split at fy
   ·rename_i l'
    cases fy
    unfold Rv at rv'
    obtain⟨c,vs,rfl,sq,rs⟩:=rv'
    have:=rs.len
    exact⟨c,vs,rfl,sq,by rw[this];exact g3 _ (List.mem_of_getElem? ey),by rw[this];exact ey⟩
   ·cases fy
end
end L2
set_option maxHeartbeats 1000000
namespace L2
open PySem PySem.Spec PyProof.Rows
open Sem (wp)
section
variable {prog:Program}{w:World}{A:Around}{E:Value->Shared->Prop}{s:Shared}
theorem qh {it d:Addr}{i n ep:Nat}{es:Array DictEntry}{e:DictEntry}{Q:Option Value->Shared->Prop}(hi:s.heap.IsKeyIter it d i n ep)(hd:RawD s.heap d es ep)(hn:es.size=n)(he:es[i]?=some e)
  (k:∀h':Heap,h'.IsKeyIter it d (i+1) n ep->Heap.SameBut it s.heap h'->Q (some e.key) {s with heap:=h'}):
  wpAny (model prog w) A (pyNext (.ref it)) Q E s:=by
 have hT:=hi.typeIs (s:=s)
 obtain⟨o,h1,h2,h3⟩:=hi
 obtain⟨od,g1,g2,g3⟩:=hd
 unfold pyNext
 refine wpAny_bind (wpAny_attempt (wpAny_callSpecial?_slot (name:=Str.ofString "__next__") hT F.slot_dict_keyiterator_next (wpAny_call_entry F.slot_dict_keyiterator_next hT F.entry_dict_keyiterator_next ?_ (F.args_dict_keyiterator_next_1 _))))
 show wpAny _ _ (((typeNameOfWhole (.ref it)>>=_)>>=_)>>=_) _ _ s
 refine wpAny_bind (wpAny_bind (wpAny_bind (wpAny_typeNameOfWhole_keyiter hT (wpAny_pure ?_))))
 refine wpAny_bind (wpAny_fieldsOf h1 h3 ?_)
 show wpAny _ _ (dictEntries d>>=_) _ _ s
 refine wpAny_bind (wpAny_dictEntries g1 g3 ?_)
 have z:((es.size:Int) !=(n:Int))=false:=by rw[hn];simp
 show wpAny _ _ (if ((es.size:Int) !=(n:Int))=true then _ else dictEpoch d>>=_) _ _ s
 rw[z,if_neg (by decide)]
 refine wpAny_bind (wpAny_dictEpoch g1 g3 ?_)
 have z2:((ep:Int) !=(ep:Int))=false:=by simp
 show wpAny _ _ (if ((ep:Int) !=(ep:Int))=true then _ else _) _ _ s
 rw[z2,if_neg (by decide)]
 refine wpAny_pure ?_
 have z3:(if ((i:Nat):Int)<0 then none else es[((i:Nat):Int).toNat]?)=some e:=by rw[if_neg (by omega),Int.toNat_natCast];exact he
 dsimp only
 rw[z3]
 dsimp only
 refine wpAny_bind (wpAny_bind (wpAny_typeNameOfWhole_keyiter hT (wpAny_pure ?_)))
 refine wpAny_bind (wpAny_isOneOf_keyiter hT ?_)
 refine wpAny_bind (wpAny_setField h1 h3 (show 1<4 by decide) ?_)
 obtain⟨o',w1,w2,w3⟩:=mK h1 h3 1 (rawInt ((i:Int)+1))
 have v1:Heap.IsKeyIter (s.heap.update it (Obj.mapFields fun z=>z.setIfInBounds 1 (rawInt ((i:Int)+1)))) it d (i+1) n ep:=⟨o',w1,w2.trans h2,w3⟩
 have v2:=kO s.heap it (Obj.mapFields fun z=>z.setIfInBounds 1 (rawInt ((i:Int)+1)))
 refine wpAny_bind (wpAny_holding ?_)
 have hT2:=v1.typeIs (s:={s with heap:=_})
 refine wpAny_bind (wpAny_isOneOf_keyiter hT2 ?_)
 show wpAny _ _ (pure e.key) _ _ _
 exact wpAny_pure (wpAny_pure ⟨_,rfl,wpAny_pure (k _ v1 v2)⟩)
theorem sX {it d:Addr}{i n ep:Nat}{es:Array DictEntry}{Q:Option Value->Shared->Prop}(hh:A.in1.handled=none)(hi:s.heap.IsKeyIter it d i n ep)(hd:RawD s.heap d es ep)(hn:es.size=n)(he:es[i]?=none)
  (k:∀h':Heap,Heap.ExtBut it s.heap h'->Q none {s with heap:=h'}):
  wpAny (model prog w) A (pyNext (.ref it)) Q E s:=by
 have hT:=hi.typeIs (s:=s)
 obtain⟨o,h1,h2,h3⟩:=hi
 obtain⟨od,g1,g2,g3⟩:=hd
 unfold pyNext
 refine wpAny_bind (wpAny_attempt (wpAny_callSpecial?_slot (name:=Str.ofString "__next__") hT F.slot_dict_keyiterator_next (wpAny_call_entry F.slot_dict_keyiterator_next hT F.entry_dict_keyiterator_next ?_ (F.args_dict_keyiterator_next_1 _))))
 show wpAny _ _ (((typeNameOfWhole (.ref it)>>=_)>>=_)>>=_) _ _ s
 refine wpAny_bind (wpAny_bind (wpAny_bind (wpAny_typeNameOfWhole_keyiter hT (wpAny_pure ?_))))
 refine wpAny_bind (wpAny_fieldsOf h1 h3 ?_)
 show wpAny _ _ (dictEntries d>>=_) _ _ s
 refine wpAny_bind (wpAny_dictEntries g1 g3 ?_)
 have z:((es.size:Int) !=(n:Int))=false:=by rw[hn];simp
 show wpAny _ _ (if ((es.size:Int) !=(n:Int))=true then _ else dictEpoch d>>=_) _ _ s
 rw[z,if_neg (by decide)]
 refine wpAny_bind (wpAny_dictEpoch g1 g3 ?_)
 have z2:((ep:Int) !=(ep:Int))=false:=by simp
 show wpAny _ _ (if ((ep:Int) !=(ep:Int))=true then _ else _) _ _ s
 rw[z2,if_neg (by decide)]
 refine wpAny_pure ?_
 have z3:(if ((i:Nat):Int)<0 then none else es[((i:Nat):Int).toNat]?)=none:=by rw[if_neg (by omega),Int.toNat_natCast];exact he
 dsimp only
 rw[z3]
 dsimp only
 refine wpAny_bind (wpAny_bind (wpAny_typeNameOfWhole_keyiter hT (wpAny_pure ?_)))
 refine wpAny_bind (wpAny_setField h1 h3 (show 0<4 by decide) ?_)
 have v2:=kO s.heap it (Obj.mapFields fun z=>z.setIfInBounds 0 Value.none)
 refine wpAny_bind (qi fun h' e kp nw th=>wpAny_raiseNew_none hh ?_)
 obtain⟨o,q1,q2⟩:=th
 exact wpAny_bind (wpAny_isInstance (T:= "StopIteration") (b:=true) ⟨o,q1,q2⟩ isSubtype_stop (wpAny_pure (k _ fun b o hb q=>kp b o (v2.extBut _ _ hb q))))
theorem qO {d:Addr}{ep:Nat}{es:Array DictEntry}{Q:Value->Shared->Prop}(hs:(d==sysModules)=false)(hd:RawD s.heap d es ep)
  (k:Q (.ref s.heap.objs.size) {s with heap:=s.heap.push {cls:=.type "dict_keyiterator",data:=.fields #[.ref d,.int 0 0,.int (es.size:Nat) 0,.int ep 0]}}):
  wpAny (model prog w) A (pyIter (.ref d)) Q E s:=by
 obtain⟨o,g1,g2,g3⟩:=hd
 have hT:s.TypeIs (.ref d) "dict":=⟨o,g1,g2.1⟩
 refine wpAny_pyIter_slot hT F.slot_dict_iter (wpAny_call_entry F.slot_dict_iter hT F.entry_dict_iter ?_ (F.args_dict_iter_1 _))
 unfold Builtin.«dict.__iter__»
 refine wpAny_bind ?_
 unfold Builtin.Dict.dictSlotNone
 refine wpAny_bind (wpAny_notOrdered_dict hT ?_)
 show wpAny _ _ (pure (Value.ref d)) _ _ s
 refine wpAny_pure ?_
 show wpAny _ _ (Builtin.Dict.showsAll d>>=_) _ _ s
 unfold Builtin.Dict.showsAll
 rw[if_neg (by rw[hs];exact Bool.false_ne_true)]
 refine wpAny_bind (wpAny_pure (wpAny_bind (wpAny_dictEntries g1 g3 (wpAny_bind (wpAny_dictEpoch g1 g3 ?_)))))
 exact wpAny_bind (wpAny_newObj_type (wpAny_pure ⟨_,rfl, "dict_keyiterator",_,⟨_,Heap.get?_push_size _ rfl,rfl⟩,F.slot_dict_keyiterator_next.lookup,k⟩))
end
def Itd (a:Addr)(b:Bool)(xs:List (PKy×Addr×V))(ep:Nat):It where
 go:=fun i H=>H a=some (.dN b xs ep)/\i<xs.length
 yld:=fun i H x H'=>H'=H/\ ∃y,xs[i]?=some y/\x=.ref y.2.1
 stop:=fun i H=>H a=some (.dN b xs ep)/\i=xs.length
section
variable {X:Cx}{pins:List (Addr×Obj)}{σ:St}{H:Hp}{s:Shared}
theorem ml {a:Addr}{b:Bool}{xs:List (PKy×Addr×V)}{ep:Nat}(I:Inv X pins σ H s)(e:H a=some (.dN b xs ep)):(a==sysModules)=false/\ ∃es,RawD s.heap a es ep/\es.size=xs.length/\ ∀ (i:Nat) (y:PKy×Addr×V),xs[i]?=some y-> ∃d,es[i]?=some d/\d.key=.ref y.2.1/\RelV y.2.2 d.val:=by
 obtain⟨_,hs,ys,r,o,es,h1,h2,h3,h4,_⟩:=(show ObjOk X.prog X.w H s.heap a (.dN b xs ep) from I.hok a _ e)
 have gt: ∀ {xs:List (PKy×Addr×V)}{ys:List (PKy×Addr×Value)},KN xs ys-> ∀ {i:Nat}{x:PKy×Addr×V},xs[i]?=some x-> ∃y,ys[i]?=some y/\x.2.1=y.2.1/\RelV x.2.2 y.2.2:=fun{xs ys} r=>by
  induction r with
  |nil=>intro i x e;simp at e
  |cons hh _ ih=>
   intro i x e
   cases i with
   |zero=>cases e;exact⟨_,rfl,hh.2.1,hh.2.2⟩
   |succ i=>exact ih e
 refine⟨hs,es,⟨o,h1,h2,h3⟩,?_,fun i y ei=>?_⟩
 ·rw[<-Array.length_toList,h4,List.length_map];exact (Paired.length r).symm
 ·obtain⟨z,ez,e1,e2⟩:=gt r ei
  refine⟨_,by rw[<-Array.getElem?_toList,h4,List.getElem?_map,ez];rfl,by rw[e1],e2⟩
theorem pc {P:Program}{w:World}{K:PySem.W.Frag}{tg:Expr}(it a:Addr)(b:Bool)(xs:List (PKy×Addr×V))(ep:Nat):Turn P w K tg (Itd a b xs ep) [it] it (fun i h=>h.IsKeyIter it a i xs.length ep) where
 mem:=by simp
 obj:=fun i h st b hb=>by
  have e:b=it:=by simpa using hb
  subst e
  obtain⟨o,e,c,d⟩:=st
  exact⟨o,e,fun v z=>by rw[d] at z;cases z⟩
 keep:=fun i h h' st k=>st.at fun o e=>k it (by simp) o e
 item:=by
  intro X hP hw hK hc i pins s σ H E I hf st hg
  subst hP hw hK
  obtain⟨e,hl⟩:=hg
  obtain⟨hs,es,rd,sz,at_⟩:=ml I e
  obtain⟨y,hy⟩: ∃y,xs[i]?=some y:=⟨_,List.getElem?_eq_getElem hl⟩
  obtain⟨d,hd,kd,_⟩:=at_ i y hy
  obtain⟨f0,f1,f2,f3,f4,f5⟩:=hf it (by simp)
  refine qh st rd sz hd fun h' st' sb=>?_
  have I1:Inv X pins σ H {s with heap:=h'}:=I.turned (t':=s.toks) (fun b o hb e=>(sb.2 b hb).trans e) f0 f1 f3 f4 f5
  obtain⟨o,e2,c,dd⟩:=id st'
  exact⟨d.key,rfl,nH (s:={s with heap:=h'}) e2 c dd (by decide) ⟨.ref y.2.1,H,I1,kd,⟨rfl,y,hy,rfl⟩,st',fun b hb=>(hf b hb).1⟩⟩
 done:=by
  intro X hP hw hK hc i pins s σ H E I hf st hg
  subst hP hw hK
  obtain⟨e,hl⟩:=hg
  obtain⟨hs,es,rd,sz,_⟩:=ml I e
  obtain⟨f0,f1,f2,f3,f4,f5⟩:=hf it (by simp)
  exact sX (I.ok.hd hc) st rd sz (Array.getElem?_eq_none (by omega)) fun h' eb=>⟨rfl,I.turned (t':=s.toks) (fun b o hb e=>eb b o hb e) f0 f1 f3 f4 f5⟩
 self:=fun _ _ _ _ _ st h=>wpAny_pyIter_keyiter st h
end
section
variable {X:Cx}{E:XK}{tg e a b:Expr}{pos p p2 pos2:Pos}{fa fb fv:Env'->M W}{l:Env'->M (List W)}
def iDic (te:TE):TI:=fun σ H R=>te σ H fun x H1=> ∃a b xs ep,x=.ref a/\H1 a=some (.dN b xs ep)/\R (Itd a b xs ep) H1
theorem uE {te:TE}(he:PE X e te):PI X tg e (iDic te):=by
 intro pins s σ H R I h
 refine thn (he pins s σ H _ I h) fun v s1 qz=>?_
 obtain⟨x,H1,I1,r1,q1⟩:=qz
 obtain⟨a,b,xs,ep,rfl,ha,q⟩:=q1
 cases r1
 obtain⟨hs,es,rd,sz,_⟩:=ml I1 ha
 refine qO hs rd ?_
 rw[sz]
 refine⟨s1.heap.objs.size,[s1.heap.objs.size],_,_,H1,rfl,I1.kept (t':=s1.toks) fun b o e=>Heap.get?_push_of_some _ e,pc _ a b xs ep,⟨_,Heap.get?_push_size _ rfl,rfl,rfl⟩,fun b hb=>?_,q⟩
 have e:b=s1.heap.objs.size:=by simpa using hb
 subst e
 exact I1.fpOk (Nat.le_refl _) (I1.hok.fresh (Nat.le_refl _))
def keyW (b:Bool)(k:PKy):W:=match b with
 |false=>.tup [.int k.1,.tup (k.2.map W.int)]
 |true=>.tup [.tup (k.2.map W.int),.int k.1]
theorem mY {K:PySem.W.Frag}{o:Wo}: ∀ns:List Int,Rvs K o (ns.map W.int) (ns.map V.int)
 |[]=>Rvs.nil
 |n::r=>Rvs.cons (rv_int.mpr rfl) (mY r)
theorem nA {K:PySem.W.Frag}{o:Wo}{b:Bool}{c:Addr}{k:PKy}(h:KeyN K o.H b c k):Rv K o (keyW b k) (.ref c):=by
 obtain⟨d,h1,h2⟩:=h
 have r2:Rv K o (.tup (k.2.map W.int)) (.ref d):=by unfold Rv;exact⟨d,_,rfl,h2,mY _⟩
 cases b with
 |false=>unfold keyW;dsimp only;unfold Rv;exact⟨c,_,rfl,h1,Rvs.cons (rv_int.mpr rfl) (Rvs.cons r2 Rvs.nil)⟩
 |true=>unfold keyW;dsimp only;unfold Rv;exact⟨c,_,rfl,h1,Rvs.cons r2 (Rvs.cons (rv_int.mpr rfl) Rvs.nil)⟩
def srcD (w:W):M Sr:=match w with
 |.dn b ks _=>pr ⟨ks.map (keyW b),fun _=>True⟩
 |_=>no
theorem u3 (he:JE X E e fa):JI X E tg e (mSrc fa srcD):=(uE he.h).imp fun σ H Q h=>by
 obtain⟨o,ρ,rfl,R,S,h⟩:=h
 refine⟨o,ρ,rfl,R,S,Ps.bd h fun p x vx e1 R1 r1 h1=>?_⟩
 cases x with
 |dn b ks ws=>
  unfold Rv at r1
  obtain⟨a,⟨xs,ep⟩,rfl,ha,n,hk,hn,_⟩:=r1
  dsimp only at ha hk hn
  refine⟨a,b,xs,ep,rfl,ha,h1.pr R1 ⟨fun o X R g=>⟨(X.fr a _ ha n).1,by rw[List.length_map,<-hk,List.length_map]⟩,fun o i w X R g ei=>?_⟩⟩
  rw[List.getElem?_map] at ei
  obtain⟨k,ek,rfl⟩:=Option.map_eq_some_iff.mp ei
  rw[<-hk,List.getElem?_map] at ek
  obtain⟨y,ey,rfl⟩:=Option.map_eq_some_iff.mp ek
  refine⟨⟨(X.fr a _ ha n).1,(List.getElem?_eq_some_iff.mp ey).1⟩,fun x H' hy=>?_⟩
  obtain⟨rfl,y',ey',rfl⟩:=hy
  rw[ey] at ey'
  cases ey'
  exact⟨o,rfl,rfl,Ex.refl _,R,nA ((hn y (List.mem_of_getElem? ey)).mono X R1)⟩
 |_=>exact h1.elim
def rInN (K:PySem.W.Frag)(neg:Bool):R2:=fun x y H Q=> ∃a b xs ep c k,x=.ref c/\y=.ref a/\H a=some (.dN b xs ep)/\(∀x∈xs,KeyN K H b x.2.1 x.1)/\KeyN K H b c k/\Q (.bl ((valV (kvN xs) k).isSome !=neg)) H
theorem wv (hu:X.A.units+64<cLine):OpR X (compareOp .In) (rInN X.K false):=by
 intro pins s σ H x y v u Q I rx ry h
 obtain⟨a,b,xs,ep,c,k,rfl,rfl,e,hk,hc,q⟩:=h
 cases rx
 cases ry
 obtain⟨z,hd,ys,rel,dd⟩:=jF I e hk
 refine wpAny_in_heap (knd:=gE X.prog X.w b) (by show X.A.units+1+1<cLine;omega) (fB I hc) hd dd ⟨_,H,I.tok _,?_,q⟩
 have:=(rel.val k).isSome_eq
 rw[Option.isSome_map] at this
 rw[<-this]
 cases (valV (kvN xs) k).isSome<;>rfl
theorem sF (hu:X.A.units+64<cLine):OpR X (compareOp .NotIn) (rInN X.K true):=by
 intro pins s σ H x y v u Q I rx ry h
 obtain⟨a,b,xs,ep,c,k,rfl,rfl,e,hk,hc,q⟩:=h
 cases rx
 cases ry
 obtain⟨z,hd,ys,rel,dd⟩:=jF I e hk
 have:=(rel.val k).isSome_eq
 rw[Option.isSome_map] at this
 refine wpAny_notIn_heap (knd:=gE X.prog X.w b) (by show X.A.units+1+1<cLine;omega) (fB I hc) hd dd ⟨_,H,I.tok _,?_,q⟩
 rw[<-this]
 cases (valV (kvN xs) k).isSome<;>rfl
def inNW (neg:Bool)(x y:W):M W:=fun h=>match dinOf y h with
 |some (b,ks,ws)=>match keyN b x with
  |some k=>.ok (.bl ((atK ks ws k).isSome !=neg)) h
  |none=>.bad
 |none=>.bad
theorem sw {neg:Bool}:OpM X E (rInN X.K neg) (inNW neg):=by
 intro o x y vx vy Q R rx ry h
 unfold inNW at h
 cases e1:dinOf y o.h with
 |none=>rw[e1] at h;exact h.elim
 |some t=>
  obtain⟨b,ks,ws⟩:=t
  rw[e1] at h
  cases e2:keyN b x with
  |none=>simp only[e2] at h;exact h.elim
  |some k=>
   simp only[e2] at h
   obtain⟨a,xs,ep,rfl,g1,g2,g3,g4⟩:=lT R e1 ry
   obtain⟨c,rfl,hc⟩:=ii e2 rx
   have hv:=gv (x:=k) (kvs:=kvN xs) (ks:=ks) (ws:=ws) (by unfold kvN;rw[List.map_map];exact g2) (by unfold kvN;rw[List.map_map];exact g4)
   have e3:(valV (kvN xs) k).isSome=(atK ks ws k).isSome:=by
    cases e4:atK ks ws k with
    |none=>rw[e4] at hv;rw[hv];rfl
    |some w=>rw[e4] at hv;obtain⟨v,hv,_⟩:=hv;rw[hv];rfl
   refine⟨a,b,xs,ep,c,k,rfl,rfl,g1,g3,hc,?_⟩
   rw[e3]
   exact Ps.pr (c:=cg X E) (r:=Rv X.K) h R (rv_bl.mpr rfl)
end
end L2
set_option maxHeartbeats 1000000
namespace L2
open PySem PySem.Spec PyProof.Rows
section
variable {X:Cx}{E:XK}{tg e a b:Expr}{pos p p2 pos2:Pos}{fa fb fv:Env'->M W}{l:Env'->M (List W)}
theorem oj: ∀bs:List Bool,((List.range bs.length).any fun i=>(bs[i]?).getD true)=bs.any id:=fun bs=>by
 rw[Bool.eq_iff_iff,List.any_eq_true,List.any_eq_true]
 constructor
 ·rintro⟨i,hi,h⟩
  have hi:=List.mem_range.mp hi
  rw[List.getElem?_eq_getElem hi] at h
  exact⟨_,List.getElem_mem hi,h⟩
 ·rintro⟨b,hb,h⟩
  obtain⟨i,hi,e⟩:=List.mem_iff_getElem.mp hb
  refine⟨i,List.mem_range.mpr hi,?_⟩
  rw[List.getElem?_eq_getElem hi,e]
  exact h
theorem rA (hc:X.calm=true):CallR X (.builtin "any") (fun xs H Q=> ∃ (p:Addr) (bs:List Bool),xs=[.ref p]/\SqL X.K H p (bs.map V.bl)/\Q (.bl (bs.any id)) H):=by
 intro pins s σ H xs us Q I r h
 obtain⟨p,bs,rfl,hq,q⟩:=h
 obtain⟨u,rfl,ru⟩:=vals1 r
 cases ru
 obtain⟨its,rv,pl,hz⟩:=I.list hq
 have hb:=i5 rv
 have hl:=pl.isList
 have hlt:p<s.heap.objs.size:=by obtain⟨_,e,_⟩:=hl;exact Heap.lt_size e
 refine call_any_walk (wpAny_pyIter_list hl ?_)
 refine⟨s.heap.objs.size,[s.heap.objs.size,p],[s.heap.objs.size],its.toArray.size,_,_,fun i=>(bs[i]?).getD true,rfl,Walks.list (A:=X.A.in1) (I.ok.hd hc) _ p (Nat.ne_of_lt hlt) its.toArray,
  ⟨⟨_,Heap.get?_push_size _ rfl,rfl,rfl⟩,hl.push _⟩,fun i v s' Q' E' hP hQ=>?_,fun h' tk hk=>?_⟩
 ·obtain⟨b,e,rfl⟩:=hb.get i v (by simpa using hP)
  simp only[e,Option.getD_some] at hQ
  exact wpAny_truthy_bool hQ
 ·have e:((List.range its.toArray.size).any fun i=>(bs[i]?).getD true)=bs.any id:=by
   rw[List.size_toArray,hb.length];exact oj bs
  rw[e]
  exact⟨.bl _,H,I.kept (t':=tk) (LSm.kept_iter hk),rfl,q⟩
def anyW (ws:List W):M W:=match ws with
 |[w]=>bd (lstOf w) fun l=>match optL bOf l with
  |some ns=>pr (.bl (ns.any id))
  |none=>no
 |_=>no
theorem u7 (hc:X.calm=true)(hm:X.mg "any"=none)(ha:JA X E [a] l)(hg:Gl X "any":=by rfl)(he:starEach [a] X.env=(false,eval a X.env)::starEach [] X.env:=by rfl)(hpl:(backTo pos (starEach [] X.env)).any (·.1)=false:=by rfl):JE X E (.Call (.Name "any" p) [a] [] pos) (mCall anyW l):=
 dD (rA hc) (fun o ws vs Q R rv h=>by
  unfold anyW at h
  split at h
  ·obtain⟨v,rfl,r⟩:=rv.one
   obtain⟨l,a,us,rfl,s,r,h⟩:=bD R r h
   cases e:optL bOf l with
   |none=>rw[e] at h;exact h.elim
   |some ns=>
    rw[e] at h
    rw[dP rD e r] at s
    exact⟨a,ns,rfl,s,h.pr R (rv_bl.mpr rfl)⟩
  ·exact h.elim) hg hm PyProof.Rows.boot_any ha (he:=he) (hpl:=hpl)
def tTR1 (ta:TA):TE:=fun σ H Q=>ta σ H fun vs H1=> ∃j:Int,vs=[.int j]/\(-(2 ^ 62)<=j/\j<2 ^ 62)/\j.toNat<=sizeLine/\ ∀l,H1 l=none->Q (.ref l) (upd H1 l (.tup (intsV 0 j.toNat)))
theorem mt {ta:TA}(hc:X.calm=true)(hgl:Gl X "tuple")(hml:X.mg "tuple"=none)(hg:Gl X "range")(hm:X.mg "range"=none)(ha:PA X [a] ta)(hs:starEach [a] X.env=[(false,eval a X.env)]:=by rfl)
  (he:starEach [.Call (.Name "range" p2) [a] [] pos2] X.env=(false,eval (.Call (.Name "range" p2) [a] [] pos2) X.env)::starEach [] X.env:=by rfl)(hpl:(backTo pos (starEach [] X.env)).any (·.1)=false:=by rfl):
  PE X (.Call (.Name "tuple" p) [.Call (.Name "range" p2) [a] [] pos2] [] pos) (tTR1 ta):=by
 intro pins s σ H Q I h
 refine wpAny_Call_Name_kw (dc I hgl hml PyProof.Rows.boot_tuple ?_ (by decide) (by decide))
 refine PyProof.Rows.callWith_type1 ?_ he hpl
 rw[he]
 refine Calls.spliced_cons ?_
 refine Call_ (dc I hg hm boot_range (PyProof.Rows.callWith_type1 (thn (ha pos2 pins s σ H _ I h) fun us s1 qz=>?_) (by rw[hs];rfl) (by rfl)))
 obtain⟨vs,H1,I1,r1,q1⟩:=qz
 obtain⟨j,e,⟨q3,q4⟩,hz,q⟩:=q1
 subst e
 cases r1 with
 |cons r rr=>
  cases rr
  obtain⟨t,rfl⟩:=r
  refine call_range_1 (Calls.spliced_nil ?_)
  have I2:Inv X pins σ H1 {s1 with heap:=s1.heap.push {cls:=.type "range",data:=.fields #[.int 0 s1.toks,.int j t,.int 1 (s1.toks+1)]},toks:=s1.toks+1+1}:=I1.kept fun b o e=>Heap.get?_push_of_some _ e
  have hn:Builtin.Range.rangeSize 0 j 1=(j.toNat:Int):=by rw[rangeSize_one];split<;>omega
  refine gP (I2.ok.hd hc) (IsRange.new ..) (small_one (by decide) (by decide) q3 q4) hn (Nat.le_trans hz (by decide)) hz fun h' tk acc' hk hacc=>?_
  have vs:Vals (intsV 0 j.toNat) acc'.toList:=iq _ _ _ (by rw[Array.length_toList,hacc.1]) fun k v e=>by
   obtain⟨t,e⟩:=hacc.2 k v (by rw[<-Array.getElem?_toList];exact e)
   exact⟨t,by rw[e];congr 1;omega⟩
  have I3:Inv X pins σ H1 {s1 with heap:=h',toks:=tk}:=I2.kept (t':=tk) hk
  exact⟨.ref _,_,I3.laid (t':=tk) (fun b o e=>Heap.get?_push_of_some _ e) (Nat.le_refl _) (show ObjOk X.prog X.w _ (h'.push {cls:=.type "tuple",data:=.seq acc'}) _ (.tup (intsV 0 j.toNat)) from⟨by rw[jB];exact hz,acc'.toList,vs,by rw[Array.toArray_toList];exact IsTupD.new _ _⟩),rfl,q _ (I3.hok.fresh (Nat.le_refl _))⟩
def tr1W (ws:List W):M W:=match ws with
 |[.int j]=>gd ((-(2 ^ 62)<=j/\j<2 ^ 62)/\j.toNat<=sizeLine) (pr (.tup (intsW 0 j.toNat)))
 |_=>no
theorem mD (hc:X.calm=true)(hml:X.mg "tuple"=none)(hm:X.mg "range"=none)(ha:JA X E [a] l)(hgl:Gl X "tuple":=by rfl)(hg:Gl X "range":=by rfl)(hs:starEach [a] X.env=[(false,eval a X.env)]:=by rfl)
  (he:starEach [.Call (.Name "range" p2) [a] [] pos2] X.env=(false,eval (.Call (.Name "range" p2) [a] [] pos2) X.env)::starEach [] X.env:=by rfl)(hpl:(backTo pos (starEach [] X.env)).any (·.1)=false:=by rfl):JE X E (.Call (.Name "tuple" p) [.Call (.Name "range" p2) [a] [] pos2] [] pos) (mCall tr1W l):=
 (mt hc hgl hml hg hm ha.h hs he hpl).imp fun σ H Q h=>by
  obtain⟨o,ρ,rfl,R,S,h⟩:=h
  refine⟨o,ρ,rfl,R,S,Ps.bd h fun p x vx e1 R1 r1 h1=>?_⟩
  unfold tr1W at h1
  split at h1
  ·obtain⟨v,rfl,r⟩:=r1.one
   obtain⟨hz,h1⟩:=h1.gd
   exact⟨_,by rw[rv_int.mp r],hz.1,hz.2,fun l hl=>hJ R1 hl (js _ _) h1⟩
  ·exact h1.elim
theorem lG {x:Str}{c d:Addr}{ks:List Int}{i:Int}{pos:Pos}(hm:X.mg x=some (.ref c))(hq: ∀H,SqT X.K H c [.ref d,.int i])(hq2: ∀H,SqT X.K H d (ks.map V.int))(hg:Gl X x:=by rfl)(hd:(x==("__debug__":Str))=false:=by decide):JE X E (.Name x pos) (mC (keyW true (i,ks))):=
 sH (v:=.ref c) hg hm rfl (fun o=>nA (b:=true) (k:=(i,ks)) ⟨d,hq _,hq2 _⟩) hd
def ue (K:PySem.W.Frag)(b:Bool)(tk tv:TE):TE:=fun σ H Q=> ∀p,H p=none->tk σ (upd H p (.dN b [] 0)) fun y H1=>tv σ H1 fun v H2=> ∃c k,y=.ref c/\KeyN K H2 b c k/\(∃ep0,H2 p=some (.dN b [] ep0))/\ ∀ep,Q (.ref p) (upd H2 p (.dN b [(k,c,v)] ep))
theorem pU {tk tv:TE}(bb:Bool)(hu:X.A.units+64<cLine)(hk:PE X a tk)(hv:PE X b tv):PE X (.Dict [some a] [b] pos) (ue X.K bb tk tv):=by
 intro pins s σ H Q I h
 have hn:=I.hok.fresh (Nat.le_refl s.heap.objs.size)
 have I1:=I.laid (a:=s.heap.objs.size) (o:=.dN bb [] 0) (h':=s.heap.push {cls:=.type "dict",data:=.dict #[]}) (t':=s.toks) (fun _ _ q=>Heap.get?_push_of_some _ q) (Nat.le_refl _) (lR bb s.heap I.big)
 rw[arm_eval_Dict,zip_pairTrees [some a] [b] X.env pos rfl rfl,dictDisplay_pairs _ (by intro z;cases z) (by show 1<17;decide)]
 refine wpAny_bind (wpAny_standAt (wpAny_bind ?_))
 unfold subDict
 refine wpAny_bind (wpAny_alloc (wpAny_bind (wpAny_holding ?_)))
 rw[if_pos (show (pairTrees [some a] [b] X.env pos).length<=15 from (show 1<=15 by decide))]
 refine wpAny_bind (pairTrees_cons_walk (thn (hk pins _ σ _ _ I1 (h _ hn)) fun kv s2 ⟨y,H2,I2,ry,q2⟩=>thn (hv pins s2 σ H2 _ I2 q2) fun vv s3 ⟨v,H3,I3,rv,c,k,ey,hc,⟨ep0,e3⟩,q3⟩=>pairTrees_nil_walk ?_))
 subst ey
 cases ry
 refine wpAny_holding ?_
 rw[List.forIn_cons]
 obtain⟨z,hd,ys,rel,dd⟩:=jF I3 e3 (fun x hx=>nomatch hx)
 cases rel
 refine wpAny_bind (wpAny_bind (wpAny_bind (wpAny_dictSet_heap (knd:=gE X.prog X.w bb) (hsz:=by show 0<=sizeLine;exact Nat.zero_le _) (by show X.A.units+1<cLine;omega) (fB I3 hc) dd fun h' dd' hs=>wpAny_pure ?_)))
 dsimp only
 rw[List.forIn_nil]
 refine wpAny_pure (wpAny_pure (wpAny_pure (wpAny_pure ?_)))
 obtain⟨q,es,ep2,hq,h2,h3,h4,_,h5⟩:=dd'
 refine⟨.ref s.heap.objs.size,_,?_,rfl,q3 ep2⟩
 exact io I3 (by rw[e3];exact True.intro) hs ⟨q,hq⟩ ⟨by show 1<=sizeLine;decide,hd,_,Paired.cons ⟨rfl,rfl,rv⟩ .nil,q,es,hq,h2,h3,h4,h5⟩
def j8 (bb:Bool)(fk fv:Env'->M W):Env'->M W:=fun ρ h=>bd (fk ρ) (fun y=>bd (fv ρ) fun v=>fun h2=>match h2[h.length]?,keyN bb y with
 |some (.din b' [] []),some k=>if b'=bb then .ok (.loc h.length) (h2.set h.length (.din bb [k] [v])) else .bad
 |_,_=>.bad) (h++[.din bb [] []])
theorem qC (bb:Bool)(hu:X.A.units+64<cLine)(hk:JE X E a fa)(hv:JE X E b fb):JE X E (.Dict [some a] [b] pos) (j8 bb fa fb):=(pU bb hu hk.h hv.h).imp fun σ H Q h=>by
 obtain⟨o,ρ,rfl,R,S,h⟩:=h
 intro q hq
 have X1:Ex o (o.add q (.din bb [] []) (.dN bb [] 0)):=Ex.add hq
 have R1:Rel X.K (o.add q (.din bb [] []) (.dN bb [] 0)):=R.add hq ⟨([],0),aU,rfl,fun _ hx=>absurd hx List.not_mem_nil,Rvs.nil⟩
 have muq:(o.add q (.din bb [] []) (.dN bb [] 0)).mu o.h.length=q:=if_pos rfl
 have lq:o.h.length<(o.add q (.din bb [] []) (.dN bb [] 0)).h.length:=by show o.h.length<(o.h++[_]).length;simp
 have S1:=S.mono R X1
 refine⟨o.add q (.din bb [] []) (.dN bb [] 0),ρ,rfl,R1,S1,Ps.bd (Ps.after X1 h) fun p y vy e2 R2 r2 h2=>⟨p,ρ,rfl,R2,S1.mono R1 e2,Ps.bd h2 fun s v vv e3 R3 r3 h3=>?_⟩⟩
 have X3:=e2.trans e3
 have mu3:s.mu o.h.length=q:=(X3.mu _ lq).trans muq
 dsimp only at h3
 cases e:s.h[o.h.length]? with
 |none=>rw[e] at h3;exact h3.elim
 |some ob=>
  cases ky:keyN bb y with
  |none=>rw[e,ky] at h3;cases ob<;>first|exact h3.elim|(split at h3<;>first|exact h3.elim|(rename_i hh;cases hh))
  |some k=>
   rw[e,ky] at h3
   split at h3
   case h_2=>exact h3.elim
   case h_1 b' k' e4 e5=>
    cases e4
    cases e5
    split at h3
    case isFalse=>exact h3.elim
    case isTrue hb=>
     subst hb
     obtain⟨⟨xs,ep⟩,g1,g2,g3,g4⟩:=R3.ob _ _ e
     have g2':xs=[]:=List.map_eq_nil_iff.mp g2
     subst g2'
     obtain⟨c,rfl,hc⟩:=ii ky (r2.mono R2 e3)
     refine⟨c,k,rfl,hc,⟨ep,by rw[<-mu3];exact g1⟩,fun ep'=>?_⟩
     have XP:Ex s (s.put o.h.length (.din b' [k] [v]) (.dN b' [(k,c,vv)] ep')):=Ex.put e (by simp)
     have:=Ps.at (p:=s.put o.h.length (.din b' [k] [v]) (.dN b' [(k,c,vv)] ep')) (b:=V.ref q) h3 rfl XP (R3.putN e (by simp) rfl (fun x hx=>by cases List.mem_singleton.mp hx;exact hc) (Rvs.cons r3 Rvs.nil)) ?_
     ·rw[<-mu3] at this ⊢;exact this
     ·unfold Rv
      exact⟨by show o.h.length<(s.h.set _ _).length;rw[List.length_set];exact Nat.lt_of_lt_of_le lq X3.le,by rw[<-mu3];rfl⟩
end
end L2
namespace Q
open PySem L2
noncomputable def top (i:Nat):Stmt:=PySem.Challenge.pw_blockfall_k27_right_papers.main.body.getD i (.Pass ⟨0,0,0,0⟩)
noncomputable abbrev cM:Stmt:=top 1
noncomputable abbrev gD:Stmt:=top 2
noncomputable abbrev fm:Stmt:=top 5
noncomputable abbrev bw:Stmt:=top 6
noncomputable abbrev cL:Stmt:=top 7
noncomputable abbrev fj:Stmt:=top 8
noncomputable abbrev ba:Stmt:=top 9
noncomputable abbrev bJ:Stmt:=top 10
noncomputable abbrev cr:Stmt:=top 11
noncomputable abbrev cN:Stmt:=top 13
noncomputable abbrev cq:Stmt:=top 14
noncomputable abbrev cP:Stmt:=top 15
noncomputable abbrev bG:Stmt:=top 16
noncomputable abbrev ck:Stmt:=top 17
noncomputable abbrev cy:Stmt:=top 18
noncomputable abbrev bv:Stmt:=top 19
noncomputable abbrev cx:Stmt:=top 20
noncomputable abbrev cn:Stmt:=top 21
noncomputable abbrev bI:Stmt:=top 22
noncomputable abbrev cw:Stmt:=top 23
noncomputable abbrev bu:Stmt:=top 24
noncomputable abbrev cp:Stmt:=top 25
noncomputable abbrev cO:Stmt:=top 26
noncomputable abbrev bO:Stmt:=top 27
noncomputable abbrev fL:Stmt:=top 28
def eD:Env'->M Fl:=(sSeq (sIf (mB (m2 eqW (m2 ixW (mVar 0) (mC (.int 0))) (mC (.str "go")))) (sRet (mTup (mCons (m2 ixW (mVar 0) (mC (.int 1))) mNil))) sNil) (sSeq (sIf (mB (m2 eqW (m2 ixW (mVar 0) (mC (.int 0))) (mC (.str "if")))) (sRet (mTup (mCons (m2 ixW (mVar 0) (mC (.int 4))) (mCons (m2 ixW (mVar 0) (mC (.int 5))) mNil)))) sNil) (sSeq (sIf (mB (m2 eqW (m2 ixW (mVar 0) (mC (.int 0))) (mC (.str "table")))) (sRet (m2 ixW (mVar 0) (mC (.int 2)))) sNil) (sRet (mTup mNil)))))
def dF:List W->M W:=runF 1 eD
def kh:Env'->M Fl:=(sSeq (sSet 1 (mNew (lenG mNil))) (sSeq (sFor (mSrcA (mCons (m2 ixW (mVar 0) (mC (.int 1))) mNil) enumL) (tgT [2,3]) (sFor (mSrcA (mCons (mCall (arW 1 dF) (mCons (m2 ixW (mVar 3) (mC (.int 2))) mNil)) mNil) enumT) (tgT [4,5]) (sEx (mMeth isL cS (mVar 1) (mCons (mTup (mCons (mVar 2) (mCons (mVar 4) (mCons (mVar 5) mNil)))) mNil))))) (sRet (m1 iceW (mVar 1)))))
def iZ:List W->M W:=runF 6 kh
def im:Env'->M Fl:=(sSeq (sSet 2 j9) (sSeq (sFor (mSrcA (mCons (mCall (arW 1 iZ) (mCons (mVar 0) mNil)) (mCons (mVar 1) mNil)) (srcZ false false)) (tgT [3,4]) (sSeq (sSet 5 (m2 ixW (m2 ixW (m2 ixW (mVar 0) (mC (.int 1))) (m2 ixW (mVar 3) (mC (.int 0)))) (mC (.int 2)))) (sIf (mB (m2 neW (m2 ixW (mVar 5) (mC (.int 0))) (mC (.str "table")))) (sSeq (sSet 6 (mKt (mCons (m2 ixW (mVar 3) (mC (.int 0))) (mCons (m2 ixW (mVar 3) (mC (.int 2))) mNil)))) (bm (mVar 2) (mVar 6) (m2 addW (mGetT (mVar 2) (mVar 6) (mC (.int 0))) (mVar 4)))) sNil))) (sRet (mVar 2))))
def fI:List W->M W:=runF 7 im
def dk:Env'->M Fl:=(sSeq (sSet 1 (mTl (lenG (mCons (mTup (mCons (mC (.int 0)) mNil)) mNil)))) (sSeq (sFor (mSrcA (mCons (mC (.int 1)) (mCons (mVar 0) mNil)) rng2) (tgN 2) (sSet 1 (m2 addW (mVar 1) (mTl (mComp [] (mSrc (mVar 1) srcL) (tgN 0) mYes (m2 addW (mVar 0) (mTup (mCons (mVar 4) mNil))) 2))))) (sRet (mVar 1))))
def cK:List W->M W:=runF 3 dk
def fF:Env'->M Fl:=(sRet (mCall fQ (mCons (mTl (mComp [] (mSrc (mVar 0) srcT) (tgN 0) (mB (m2 neW (mVar 0) (mVar 3))) (mVar 0) 2)) mNil)))
def dm:List W->M W:=runF 2 fF
def ik:Env'->M Fl:=(sSeq (sSet 1 (mNew (lenG (mCons (mC (keyW true (0,[0]))) mNil)))) (sSeq (sFor (mSrc (mCall (arW 1 cK) (mCons (mVar 0) mNil)) srcL) (tgN 2) (sFor (mSrc (m3 slW (mVar 2) (mPart (mC (.int 1))) aP) srcT) (tgN 3) (sEx (mMeth isL cS (mVar 1) (mCons (mTup (mCons (mVar 2) (mCons (mVar 3) mNil))) mNil))))) (sRet (m1 iceW (mVar 1)))))
def fH:List W->M W:=runF 4 ik
def br:Env'->M Fl:=(sSeq (sIf (mB (m2 eqW (mTup (mCons (mVar 0) (mCons (mVar 1) mNil))) (mC (keyW true (0,[0]))))) (sRet (mC (.int 0))) sNil) (sSeq (sSet 4 (mCall (arW 2 dm) (mCons (mVar 0) (mCons (mVar 1) mNil)))) (sSeq (sSet 5 (mIf (mB (m2 eqW (mVar 4) (mTup (mCons (mC (.int 0)) mNil)))) (mVar 4) (m3 slW (mVar 4) (mPart (mC (.int 1))) aP))) (sRet (mCall (extW maxZ) (mCons (mTl (mComp [] (mSrc (mVar 5) srcT) (tgN 0) mYes (m2 addW (m2 ixN' (mVar 4) (mTup (mCons (mVar 6) (mCons (mVar 0) mNil)))) (mGetT (mVar 5) (mTup (mCons (mVar 0) (mCons (mVar 3) mNil))) (mC (.int 0)))) 2)) mNil))))))
def aR:List W->M W:=runF 6 br
def eP:Env'->M Fl:=(sSeq (sSet 3 (mCall (arW 1 fH) (mCons (mCall lenW (mCons (m2 ixW (mVar 0) (mC (.int 1))) mNil)) mNil))) (sSeq (sSet 4 (ka true)) (sSeq (sFor (mSrc (mVar 2) srcL) (tgT [5,6,7]) (fq (mVar 4) (mTup (mCons (mVar 5) (mCons (mVar 6) mNil))) (mVar 7))) (sSeq (sIf (mOr (mB (m2 neW (mCall lenW (mCons (mVar 2) mNil)) (mCall lenW (mCons (mVar 3) mNil)))) (mB (mCall anyW (mCons (mTl (mComp [] (mSrc (mVar 3) srcL) (tgN 0) mYes (m2 (inNW true) (mVar 0) (mVar 6)) 2)) mNil)))) (sRet (mC (.bl false))) sNil) (sSeq (sSet 8 (mCall (arW 2 fI) (mCons (mVar 0) (mCons (mVar 1) mNil)))) (sRet (mCall allW (mCons (mTl (mComp [] (mSrc (mVar 3) srcL) (tgT [0,1]) mYes (m2 geW (m2 ixN' (mVar 7) (mTup (mCons (mVar 0) (mCons (mVar 1) mNil)))) (mCall (arW 4 aR) (mCons (mVar 0) (mCons (mVar 1) (mCons (mVar 7) (mCons (mVar 11) mNil)))))) 3)) mNil))))))))
def dL:List W->M W:=runF 9 eP
def eQ:Env'->M Fl:=(sSeq (sSet 3 (mCall tr1W (mCons (mCall lenW (mCons (m2 ixW (mVar 0) (mC (.int 1))) mNil)) mNil))) (sRet (m2 subW (mCall sumW (mCons (mVar 1) mNil)) (mCall (extW maxZ) (mCons (mTl (mComp [] (mSrc (mVar 2) srcL) (tgT [0,1,2]) (mB (m2 eqW (mVar 0) (mVar 7))) (mVar 2) 4)) mNil)))))
def dM:List W->M W:=runF 4 eQ
def eK:Env'->M Fl:=(sSeq (bm (mVar 0) (mC (.int 1)) (m2 addW (m2 ixW (mVar 0) (mC (.int 1))) (mC (.int 1)))) (sSeq (sSet 2 (m2 ixW (mVar 0) (mC (.int 0)))) (sSeq (sIf (mB (m2 geW (mVar 2) (m2 powW (mC (.int 10)) (mC (.int 18))))) (sSeq (bm (mVar 0) (mC (.int 0)) (m2 fdivW (mVar 2) (mVar 1))) (sRet (m2 modW (mVar 2) (mVar 1)))) sNil) (sSeq (sSet 3 (m2 modW (m2 addW (m2 addW (m2 mulW (mVar 2) (mC (.int 69621))) (m2 mulW (m2 ixW (mVar 0) (mC (.int 1))) (mC (.int 7919)))) (mC (.int 13))) (mC (.int 2147483647)))) (sSeq (sSet 3 (m2 modW (m2 mulW (mVar 3) (mVar 3)) (mC (.int 2147483629)))) (sRet (m2 modW (m2 fdivW (m2 modW (m2 addW (m2 mulW (mVar 3) (mC (.int 48271))) (m2 mulW (m2 ixW (mVar 0) (mC (.int 1))) (mC (.int 40692)))) (mC (.int 2147483587))) (mC (.int 8))) (mVar 1))))))))
def aq:List W->M W:=runF 4 eK
def eJ:Env'->M Fl:=(sSeq (sIf (mB (m2 eqW (mCall lenW (mCons (mVar 0) mNil)) (mC (.int 0)))) (sRet (mTl (lenG (mCons (mNew (lenG (mCons (mC (.int 0)) (mCons (mC (.int 0)) mNil)))) mNil)))) sNil) (sRet (mTl (mComp [] (mSrc (m3 slW (mVar 0) aP (mPart (mC (.int 63)))) srcL) (tgN 0) mYes (mNew (lenG (mCons (mVar 0) (mCons (mC (.int 0)) mNil)))) 2))))
def dI:List W->M W:=runF 1 eJ
def fG:Env'->M Fl:=(sSeq (sSet 2 (mCall (arW 2 aq) (mCons (mVar 0) (mCons (mC (.int 8)) mNil)))) (sSeq (sSet 3 (mCall (arW 2 aq) (mCons (mVar 0) (mCons (mVar 1) mNil)))) (sSeq (sSet 4 (mCall (arW 2 aq) (mCons (mVar 0) (mCons (mVar 1) mNil)))) (sSeq (sIf (mB (m2 eqW (mVar 2) (mC (.int 0)))) (sRet (mTup (mCons (mC (.str "stop")) mNil))) sNil) (sSeq (sIf (mB (m2 ltW (mVar 2) (mC (.int 3)))) (sRet (mTup (mCons (mC (.str "go")) (mCons (mVar 3) mNil)))) sNil) (sSeq (sIf (mB (m2 eqW (mVar 2) (mC (.int 7)))) (sRet (mTup (mCons (mC (.str "table")) (mCons (mTup (mCons (mC (.str "box")) (mCons (mC (.str "a")) mNil))) (mCons (mCall fQ (mCons (mTl (mComp [] (mSrcA (mCons (m2 addW (mC (.int 1)) (mCall (arW 2 aq) (mCons (mVar 0) (mCons (mC (.int 6)) mNil)))) mNil) rng1) (tgN 0) mYes (mCall (arW 2 aq) (mCons (mVar 2) (mCons (mVar 3) mNil))) 2)) mNil)) mNil))))) sNil) (sSeq (sIf (mB (m2 eqW (mVar 2) (mC (.int 6)))) (sSet 4 (mVar 3)) sNil) (sRet (mTup (mCons (mC (.str "if")) (mCons (m2 ixW (mTl (lenG (mCons (mC (.str "<")) (mCons (mC (.str "=")) mNil)))) (mCall (arW 2 aq) (mCons (mVar 0) (mCons (mC (.int 2)) mNil)))) (mCons (mTup (mCons (mC (.str "box")) (mCons (mC (.str "a")) mNil))) (mCons (mTup (mCons (mC (.str "number")) (mCons (mCall (arW 2 aq) (mCons (mVar 0) (mCons (mC (.int 1000)) mNil))) mNil))) (mCons (mVar 3) (mCons (mVar 4) mNil)))))))))))))))
def dq:List W->M W:=runF 5 fG
def cR:Env'->M Fl:=(sSeq (sSet 2 (mTl (lenG (mCons (mTl (lenG mNil)) (mCons (mTl (lenG (mCons (mTup (mCons (mC (.str "say")) (mCons (mTup (mCons (mC (.str "box")) (mCons (mC (.str "a")) mNil))) mNil))) mNil))) (mCons (mTl (lenG (mCons (mTup (mCons (mC (.str "ask")) (mCons (mC (.str "a")) mNil))) mNil))) (mCons (mTl (lenG (mCons (mTup (mCons (mC (.str "put")) (mCons (mC (.str "a")) (mCons (mTup (mCons (mC (.str "number")) (mCons (mC (.int 7)) mNil))) mNil)))) (mCons (mTup (mCons (mC (.str "ask")) (mCons (mC (.str "a")) mNil))) mNil)))) mNil))))))) (sSeq (sSet 3 (mNew (lenG mNil))) (sSeq (sFor (mSrcA (mCons (mVar 1) mNil) rng1) (tgN 4) (sEx (mMeth isL cS (mVar 3) (mCons (mTup (mCons (m2 addW (mC (.str "n")) (m2 ixW (mC (.str "abcdefghij")) (mVar 4))) (mCons (mTl (listL (mCons (m2 ixW (mVar 2) (mCall (arW 2 aq) (mCons (mVar 0) (mCons (mC (.int 4)) mNil)))) mNil))) (mCons (mCall (arW 2 dq) (mCons (mVar 0) (mCons (mVar 1) mNil))) mNil)))) mNil)))) (sRet (mTup (mCons (mTl (lenG (mCons (mTup (mCons (mC (.str "a")) (mCons (mC (.int 3)) mNil))) mNil))) (mCons (m1 iceW (mVar 3)) mNil)))))))
def cj:List W->M W:=runF 5 cR
def eE:Env'->M Fl:=(sSeq (sSet 1 (mNew (lenG mNil))) (sSeq (sFor (mSrcA (mCons (mVar 0) mNil) enumL) (tgG [(tgN 2),(tgT [3,4,5])]) (sSeq (sSet 6 (mTl (lenG mNil))) (sSeq (sIf (mB (m2 eqW (m2 ixW (mVar 5) (mC (.int 0))) (mC (.str "go")))) (sSet 6 (mTl (lenG (mCons (m2 ixW (mVar 5) (mC (.int 1))) mNil)))) sNil) (sSeq (sIf (mB (m2 eqW (m2 ixW (mVar 5) (mC (.int 0))) (mC (.str "if")))) (sSet 6 (mTl (lenG (mCons (m2 ixW (mVar 5) (mC (.int 4))) (mCons (m2 ixW (mVar 5) (mC (.int 5))) mNil))))) sNil) (sSeq (sIf (mB (m2 eqW (m2 ixW (mVar 5) (mC (.int 0))) (mC (.str "table")))) (sSet 6 (mTl (listL (mCons (m2 ixW (mVar 5) (mC (.int 2))) mNil)))) sNil) (sEx (mMeth isL gu (mVar 1) (mCons (mTl (mComp [] (mSrcA (mCons (mVar 6) mNil) enumL) (tgT [0,1]) mYes (mTup (mCons (mVar 5) (mCons (mVar 0) (mCons (mVar 1) mNil)))) 3)) mNil)))))))) (sRet (m1 iceW (mVar 1)))))
def cu:List W->M W:=runF 7 eE
def dU:Env'->M Fl:=(sSeq (sIf (mB (m2 ltW (mVar 1) (mC (.int 3)))) (sRet (mCall (arW 2 aq) (mCons (mVar 0) (mCons (m2 ixW (mTl (lenG (mCons (mC (.int 2)) (mCons (mC (.int 5)) (mCons (mC (.int 1000)) mNil))))) (mVar 1)) mNil)))) sNil) (sRet (m2 addW (m2 mulW (mCall (arW 2 aq) (mCons (mVar 0) (mCons (m2 powW (mC (.int 10)) (mC (.int 9))) mNil))) (m2 powW (mC (.int 10)) (mC (.int 19)))) (mCall (arW 2 aq) (mCons (mVar 0) (mCons (m2 powW (mC (.int 10)) (mC (.int 9))) mNil))))))
def cX:List W->M W:=runF 2 dU
def dj:Env'->M Fl:=(sSeq (sSet 2 (mCall (arW 2 aq) (mCons (m2 ixW (mVar 0) (mC (.int 0))) (mCons (mC (.int 4)) mNil)))) (sRet (mTl (mComp [] (mSrcA (mCons (mCall lenW (mCons (mCall (arW 1 cu) (mCons (mVar 1) mNil)) mNil)) mNil) rng1) (tgN 0) mYes (mCall (arW 2 cX) (mCons (m2 ixW (mVar 2) (m2 modW (mVar 0) (mCall lenW (mCons (mVar 2) mNil)))) (mCons (mVar 4) mNil))) 2))))
def cJ:List W->M W:=runF 3 dj
def dS:Env'->M Fl:=(sSeq (sSet 2 j9) (sSeq (sFor (mSrcA (mCons (mCall (arW 1 cu) (mCons (mVar 0) mNil)) (mCons (mVar 1) mNil)) (srcZ false false)) (tgG [(tgT [3,4,5]),(tgN 6)]) (sIf (mB (m2 neW (m2 ixW (m2 ixW (m2 ixW (mVar 0) (mVar 3)) (mC (.int 2))) (mC (.int 0))) (mC (.str "table")))) (bm (mVar 2) (mKt (mCons (mVar 3) (mCons (mVar 5) mNil))) (m2 addW (mGetT (mVar 2) (mKt (mCons (mVar 3) (mCons (mVar 5) mNil))) (mC (.int 0))) (mVar 6))) sNil)) (sRet (mVar 2))))
def cW:List W->M W:=runF 7 dS
def eG:Env'->M Fl:=(sSeq (sSet 1 (mTl (lenG (mCons (mTup (mCons (mC (.int 0)) mNil)) mNil)))) (sSeq (sFor (mSrcA (mCons (mC (.int 1)) (mCons (mVar 0) mNil)) rng2) (tgN 2) (sSet 1 (m2 addW (mVar 1) (mTl (mComp [] (mSrc (mVar 1) srcL) (tgN 0) mYes (m2 addW (mVar 0) (mTup (mCons (mVar 4) mNil))) 2))))) (sRet (m1 iw (mVar 1)))))
def dG:List W->M W:=runF 3 eG
def dR:Env'->M Fl:=(sSeq (sSet 4 (mCall fQ (mCons (mTl (mComp [] (mSrc (mVar 2) srcT) (tgN 0) (mB (m2 neW (mVar 0) (mVar 5))) (mVar 0) 2)) mNil))) (sSeq (sSet 5 (mNew (lenG mNil))) (sSeq (sFor (mSrc (mVar 4) srcT) (tgN 6) (sIf (mOr (mB (m2 neW (mVar 6) (mC (.int 0)))) (mB (m2 eqW (mCall lenW (mCons (mVar 4) mNil)) (mC (.int 1))))) (sEx (mMeth isL cS (mVar 5) (mCons (m2 addW (m2 ixN' (mVar 1) (mTup (mCons (mVar 4) (mCons (mVar 6) mNil)))) (mGetT (mVar 0) (mTup (mCons (mVar 6) (mCons (mVar 3) mNil))) (mC (.int 0)))) mNil))) sNil)) (sRet (mCall (extW maxZ) (mCons (mVar 5) mNil))))))
def cV:List W->M W:=runF 7 dR
def dQ:Env'->M Fl:=(sSeq (sSet 3 (mCall (arW 2 cW) (mCons (mVar 0) (mCons (mVar 1) mNil)))) (sSeq (sSet 4 (j8 true (mTup (mCons (mTup (mCons (mC (.int 0)) mNil)) (mCons (mC (.int 0)) mNil))) (m2 ixW (mVar 2) (mC (.int 0))))) (sSeq (sSet 5 (mC (.int 1))) (sSeq (sFor (mSrc (mCall (arW 1 dG) (mCons (mCall lenW (mCons (mVar 0) mNil)) mNil)) srcL) (tgN 6) (sFor (mSrc (m3 slW (mVar 6) (mPart (mC (.int 1))) aP) srcT) (tgN 7) (sSeq (fq (mVar 4) (mTup (mCons (mVar 6) (mCons (mVar 7) mNil))) (m2 addW (mCall (arW 4 cV) (mCons (mVar 3) (mCons (mVar 4) (mCons (mVar 6) (mCons (mVar 7) mNil))))) (m2 ixW (mVar 2) (m2 modW (mVar 5) (mCall lenW (mCons (mVar 2) mNil)))))) (sSet 5 (m2 addW (mVar 5) (mC (.int 1))))))) (sRet (m1 iceW (mVar 4)))))))
def cU:List W->M W:=runF 8 dQ
def dh:Env'->M Fl:=(sSeq (sSet 1 (m2 ixW (mTl (lenG (mCons (mC (.int 1)) (mCons (mC (.int 2)) (mCons (mC (.int 1000)) (mCons (m2 powW (mC (.int 10)) (mC (.int 20))) mNil)))))) (mCall (arW 2 aq) (mCons (m2 ixW (mVar 0) (mC (.int 0))) (mCons (mC (.int 4)) mNil))))) (sRet (mTl (mComp [] (mSrc (mVar 0) srcL) (tgN 0) mYes (m2 mulW (mCall (arW 2 aq) (mCons (mVar 0) (mCons (mC (.int 2)) mNil))) (mCall (arW 2 aq) (mCons (mVar 0) (mCons (mVar 3) mNil)))) 2))))
def cH:List W->M W:=runF 2 dh
def eI:Env'->M Fl:=(sSeq (sSet 2 (mTl (mComp [] (mSrc (mVar 0) srcD) (tgT [0,1]) mYes (mTup (mCons (mVar 0) (mCons (mVar 1) (mCons (m2 ixN' (mVar 3) (mTup (mCons (mVar 0) (mCons (mVar 1) mNil)))) mNil)))) 3))) (sSeq (sIf (mB (m2 eqW (mVar 1) (mC (.int 0)))) (sRet (mCall sortW (mCons (mVar 2) mNil))) sNil) (sSeq (sIf (mB (m2 eqW (mVar 1) (mC (.int 1)))) (sRet (mRev (mVar 2) (mPart (m1 negW (mC (.int 1)))))) sNil) (sRet (m2 addW (m3 slW (mVar 2) (mPart (mC (.int 1))) aP) (m3 slW (mVar 2) aP (mPart (mC (.int 1)))))))))
def dH:List W->M W:=runF 3 eI
def eO:Env'->M Fl:=(sSeq (sIf (mB (m2 eqW (mCall (arW 2 aq) (mCons (mVar 0) (mCons (mC (.int 8)) mNil))) (mC (.int 0)))) (sRet (mC (.int 6))) sNil) (sRet (m2 addW (mC (.int 1)) (mCall (arW 2 aq) (mCons (mVar 0) (mCons (mC (.int 5)) mNil))))))
def dJ:List W->M W:=runF 1 eO
def di:Env'->M Fl:=(sRet (mAndV (mCall isiW (mCons (mVar 0) (mCons (mC (.ty "int")) mNil))) (mAndV (mNotV (mCall isiW (mCons (mVar 0) (mCons (mC (.ty "bool")) mNil)))) (m2 eqW (mVar 0) (mVar 1)))))
def cI:List W->M W:=runF 2 di
def nJ:Env'->M Fl:=(sSeq (sSet 1 (mCall (arW 1 dI) (mCons (mVar 0) mNil))) (sSeq (sSet 2 (mCall (arW 2 cj) (mCons (m2 ixW (mVar 1) (mC (.int 0))) (mCons (mCall (arW 1 dJ) (mCons (m2 ixW (mVar 1) (mC (.int 0))) mNil)) mNil)))) (sSeq (sSet 3 (mCall (arW 2 cJ) (mCons (mVar 1) (mCons (m2 ixW (mVar 2) (mC (.int 1))) mNil)))) (sSeq (sSet 4 (mCall (arW 3 cU) (mCons (m2 ixW (mVar 2) (mC (.int 1))) (mCons (mVar 3) (mCons (mCall (arW 1 cH) (mCons (mVar 1) mNil)) mNil))))) (sSeq (sSet 5 (mCall (arW 2 dH) (mCons (mVar 4) (mCons (mCall (arW 2 aq) (mCons (m2 ixW (mVar 1) (mC (.int 0))) (mCons (mC (.int 3)) mNil))) mNil)))) (sSeq (sSet 6 (mTl (listL (mCons (mVar 5) mNil)))) (sSeq (sSet 7 (mTl (listL (mCons (mVar 3) mNil)))) (sSeq (sIf (mB (m2 notBW (mCall (arW 3 dL) (mCons (mVar 2) (mCons (mVar 7) (mCons (mVar 6) mNil)))) (mC (.bl true)))) (sRet (mC (.bl false))) sNil) (sSeq (sSet 8 (mCall (extW maxZ) (mCons (mTl (mComp [] (mSrc (mVar 5) srcL) (tgT [0,1,2]) (mB (m2 eqW (mCall lenW (mCons (mVar 0) mNil)) (mCall lenW (mCons (m2 ixW (mVar 6) (mC (.int 1))) mNil)))) (mVar 2) 4)) mNil))) (sSeq (sIf (mNot (mB (mCall (arW 2 cI) (mCons (mCall (arW 3 dM) (mCons (mVar 2) (mCons (mVar 7) (mCons (mVar 6) mNil)))) (mCons (m2 subW (mCall sumW (mCons (mVar 3) mNil)) (mVar 8)) mNil))))) (sRet (mC (.bl false))) sNil) (sRet (mAndV (m2 eqW (mVar 6) (mVar 5)) (m2 eqW (mVar 7) (mVar 3))))))))))))))
def jE:List W->M W:=runF 9 nJ
section
variable {P:Program}{w:World}{K:PySem.W.Frag}{mg:Str->Option Value}{base:Heap}{f:Addr}{fd:FuncData}
theorem kL:FnScope ["end"] ["end"] (ai cM):=⟨rfl,rfl,rfl,by decide+kernel,rfl,by decide+kernel,by decide+kernel⟩
theorem kX (F:Fun K "sides_of" "sides_of" cM f fd)(B:Binds K fd ["end"] [])(Mf:mg "sides_of"=some (.ref f)):CG P w K mg base 1 "sides_of" f fd ["end"] 1 dF:=by
 refine⟨bF (g:=eD) F kL rfl rfl rfl fun cdv A outer s H E hr=>?_,B,F.kp,Mf⟩
 have hu:=bE hr
 have hu6:=hr.units
 exact (aj (bN (aT ci (bn hu6) (aH hu (af 0) ah (fun _ _=>rfl)) aL (aK _)) (al (aA (aE (ae (aH hu (af 0) ah (fun _ _=>rfl)) ag bq)))) aQ)
  (aj (bN (aT ci (bn hu6) (aH hu (af 0) ah (fun _ _=>rfl)) aL (aK _)) (al (aA (aE (ae (aH hu (af 0) ah (fun _ _=>rfl)) (ae (aH hu (af 0) ah (fun _ _=>rfl)) ag bq) bq)))) aQ)
  (aj (bN (aT ci (bn hu6) (aH hu (af 0) ah (fun _ _=>rfl)) aL (aK _)) (al (aA (aH hu (af 0) ah (fun _ _=>rfl)))) aQ)
  (al (aA (aE ag))))))
theorem sc_ways:FnScope ["program", "told", "place", "block", "side", "behind"] ["program"] (ai gD):=⟨rfl,rfl,rfl,by decide+kernel,rfl,by decide+kernel,by decide+kernel⟩
theorem sA {a_sides_of:Addr}{d_sides_of:FuncData}(y_enumerate:mg "enumerate"=none)(C_sides_of:CG P w K mg base 1 "sides_of" a_sides_of d_sides_of ["end"] 1 dF)(F:Fun K "ways" "ways" gD f fd)(B:Binds K fd ["program"] [])(Mf:mg "ways"=some (.ref f)):CG P w K mg base 2 "ways" f fd ["program"] 1 iZ:=by
 refine⟨bF (g:=kh) F sc_ways rfl rfl rfl fun cdv A outer s H E hr=>?_,B,F.kp,Mf⟩
 have hu:=bE hr
 have hu6:=hr.units
 exact (aj (az (i:=1) sc_ways.nd rfl (Or.inl rfl) (fU (bg ag)))
  (aj (cD PassesOwn.never rfl (j6 y_enumerate (ae (aH hu (af 0) ah (fun _ _=>rfl)) ag bq)) (cQ rfl (ay (ar (i:=2) sc_ways.nd rfl (Or.inl rfl)) (ay (ar (i:=3) sc_ways.nd rfl (Or.inl rfl)) bQ))) (dw 6 [2,3] (by decide)) (al (cD PassesOwn.never rfl (qq y_enumerate (ae (aM (ps:=["end"]) C_sides_of (hr.mono (by omega)) (ae (aH hu (af 3) ah (fun _ _=>rfl)) ag bq) (he:=bq) (hpl:=ao)) ag dy)) (cQ rfl (ay (ar (i:=4) sc_ways.nd rfl (Or.inl rfl)) (ay (ar (i:=5) sc_ways.nd rfl (Or.inl rfl)) bQ))) (dw 6 [4,5] (by decide)) (al (gp (fx (af 1) (ae (aE (ae (af 2) (ae (af 4) (ae (af 5) ag ak) ak) ak)) ag fK)))))))
  (al (aA (iQ (af 1))))))
theorem sc_gains:FnScope ["program", "counted", "gained", "way", "count", "end", "neighbours"] ["program", "counted"] (ai fm):=⟨rfl,rfl,rfl,by decide+kernel,rfl,by decide+kernel,by decide+kernel⟩
theorem qb {a_ways:Addr}{d_ways:FuncData}(y_zip:mg "zip"=none)(C_ways:CG P w K mg base 2 "ways" a_ways d_ways ["program"] 1 iZ)(F:Fun K "gains" "gains" fm f fd)(B:Binds K fd ["program", "counted"] [])(Mf:mg "gains"=some (.ref f)):CG P w K mg base 3 "gains" f fd ["program", "counted"] 2 fI:=by
 refine⟨bF (g:=im) F sc_gains rfl rfl rfl fun cdv A outer s H E hr=>?_,B,F.kp,Mf⟩
 have hu:=bE hr
 have hu6:=hr.units
 exact (aj (az (i:=2) sc_gains.nd rfl (Or.inl rfl) lH)
  (aj (cD PassesOwn.never rfl (qp false false y_zip (ae (aM (ps:=["program"]) C_ways (hr.mono (by omega)) (ae (af 0) ag ak) (he:=ak) (hpl:=ao)) (ae (af 1) ag ak) dy)) (cQ rfl (ay (ar (i:=3) sc_gains.nd rfl (Or.inl rfl)) (ay (ar (i:=4) sc_gains.nd rfl (Or.inl rfl)) bQ))) (dw 7 [3,4] (by decide)) (aj (az (i:=5) sc_gains.nd rfl (Or.inl rfl) (aH hu (aH hu (aH hu (af 0) ah (fun _ _=>rfl)) (aH hu (af 3) ah (fun _ _=>rfl)) (fun _ _=>rfl)) ah (fun _ _=>rfl)))
  (al (bN (aT jv (gF hu6) (aH hu (af 5) ah (fun _ _=>rfl)) aL (aK _)) (aj (az (i:=6) sc_gains.nd rfl (Or.inl rfl) (qx (ae (aH hu (af 3) ah (fun _ _=>rfl)) (ae (aH hu (af 3) ah (fun _ _=>rfl)) ag bq) bq)))
  (al (gn hu (af 2) (af 6) (bA (ie hu (af 2) (af 6) ah) (af 4))))) aQ))))
  (al (aA (af 2)))))
theorem sc_block_sets:FnScope ["many", "told", "place"] ["many"] (ai bw):=⟨rfl,rfl,rfl,by decide+kernel,rfl,by decide+kernel,by decide+kernel⟩
theorem g0:((["blocks", ".0"]:List Str)++(["many", "told", "place"]:List Str).map (hid ["blocks", ".0"])).Nodup:=by decide+kernel
theorem je (y_range:mg "range"=none)(F:Fun K "block_sets" "block_sets" bw f fd)(B:Binds K fd ["many"] [])(Mf:mg "block_sets"=some (.ref f)):CG P w K mg base 1 "block_sets" f fd ["many"] 1 cK:=by
 refine⟨bF (g:=dk) F sc_block_sets rfl rfl rfl fun cdv A outer s H E hr=>?_,B,F.kp,Mf⟩
 have hu:=bE hr
 have hu6:=hr.units
 exact (aj (az (i:=1) sc_block_sets.nd rfl (Or.inl rfl) (aY (bg (ae (aE (ae ah ag aO)) ag fK))))
  (aj (cD PassesOwn.never rfl (jx rfl y_range (ae ah (ae (af 0) ag ak) aO)) (ar (i:=2) sc_block_sets.nd rfl (Or.inr rfl)) (aW 3 2 (by decide)) (al (az (i:=1) sc_block_sets.nd rfl (Or.inl rfl) (bA (af 1) (aY (bH rfl (ls:=["blocks", ".0"]) (.of (ai bw)) (cF (af 1)) (fun _ _ _ _=>(ar (i:=0) g0 rfl (Or.inl rfl) (.inr rfl))) (aW 2 0 (by decide)) (fun _ _ _ _=>cE) (fun _ _ _ _=>(bA (af 0) (aE (ae (af 4) ag ak)))) trivial))))))
  (al (aA (af 1)))))
theorem mh:FnScope ["blocks", "place"] ["blocks", "place"] (ai cL):=⟨rfl,rfl,rfl,by decide+kernel,rfl,by decide+kernel,by decide+kernel⟩
theorem j4:((["block", ".0"]:List Str)++(["blocks", "place"]:List Str).map (hid ["block", ".0"])).Nodup:=by decide+kernel
theorem mv (y_tuple:mg "tuple"=none)(F:Fun K "without" "without" cL f fd)(B:Binds K fd ["blocks", "place"] [])(Mf:mg "without"=some (.ref f)):CG P w K mg base 1 "without" f fd ["blocks", "place"] 2 dm:=by
 refine⟨bF (g:=fF) F mh rfl rfl rfl fun cdv A outer s H E hr=>?_,B,F.kp,Mf⟩
 have hu:=bE hr
 have hu6:=hr.units
 exact (al (aA (iO y_tuple (ae (aY (bH rfl (ls:=["block", ".0"]) (.of (ai cL)) (gJ (af 0)) (fun _ _ _ _=>(ar (i:=0) j4 rfl (Or.inl rfl) (.inr rfl))) (aW 2 0 (by decide)) (fun _ _ _ _=>(hV (aT jv (gF hu6) (af 0) (af 3) (aK _)))) (fun _ _ _ _=>(af 0)) trivial)) ag gf) (he:=gf) (hpl:=ao))))
theorem sc_pairs:FnScope ["many", "told", "blocks", "last"] ["many"] (ai fj):=⟨rfl,rfl,rfl,by decide+kernel,rfl,by decide+kernel,by decide+kernel⟩
theorem qa {a_block_sets:Addr}{d_block_sets:FuncData}{c_FIRST_PAIR e_FIRST_PAIR:Addr}(m_FIRST_PAIR:mg "FIRST_PAIR"=some (.ref c_FIRST_PAIR))(q_FIRST_PAIR: ∀H,SqT K H c_FIRST_PAIR [.ref e_FIRST_PAIR,.int 0])(r_FIRST_PAIR: ∀H,SqT K H e_FIRST_PAIR (([0]:List Int).map V.int))(C_block_sets:CG P w K mg base 1 "block_sets" a_block_sets d_block_sets ["many"] 1 cK)(F:Fun K "pairs" "pairs" fj f fd)(B:Binds K fd ["many"] [])(Mf:mg "pairs"=some (.ref f)):CG P w K mg base 2 "pairs" f fd ["many"] 1 fH:=by
 refine⟨bF (g:=ik) F sc_pairs rfl rfl rfl fun cdv A outer s H E hr=>?_,B,F.kp,Mf⟩
 have hu:=bE hr
 have hu6:=hr.units
 exact (aj (az (i:=1) sc_pairs.nd rfl (Or.inl rfl) (fU (bg (ae (lG (i:=0) (ks:=[0]) m_FIRST_PAIR q_FIRST_PAIR r_FIRST_PAIR) ag ak))))
  (aj (cD PassesOwn.never rfl (cF (aM (ps:=["many"]) C_block_sets (hr.mono (by omega)) (ae (af 0) ag ak) (he:=ak) (hpl:=ao))) (ar (i:=2) sc_pairs.nd rfl (Or.inl rfl)) (aW 4 2 (by decide)) (al (cD PassesOwn.never rfl (gJ (jy (af 2) (d8 ah) fw)) (ar (i:=3) sc_pairs.nd rfl (Or.inl rfl)) (aW 4 3 (by decide)) (al (gp (fx (af 1) (ae (aE (ae (af 2) (ae (af 3) ag ak) ak)) ag fK)))))))
  (al (aA (iQ (af 1))))))
theorem sc_least_number:FnScope ["blocks", "last", "numbers", "gained", "rest", "lasts"] ["blocks", "last", "numbers", "gained"] (ai ba):=⟨rfl,rfl,rfl,by decide+kernel,rfl,by decide+kernel,by decide+kernel⟩
theorem gm:((["place", ".0"]:List Str)++(["blocks", "last", "numbers", "gained", "rest", "lasts"]:List Str).map (hid ["place", ".0"])).Nodup:=by decide+kernel
theorem gX {a_without:Addr}{d_without:FuncData}{c_FIRST_PAIR e_FIRST_PAIR:Addr}(y_max:mg "max"=none)(m_FIRST_PAIR:mg "FIRST_PAIR"=some (.ref c_FIRST_PAIR))(q_FIRST_PAIR: ∀H,SqT K H c_FIRST_PAIR [.ref e_FIRST_PAIR,.int 0])(r_FIRST_PAIR: ∀H,SqT K H e_FIRST_PAIR (([0]:List Int).map V.int))(C_without:CG P w K mg base 1 "without" a_without d_without ["blocks", "place"] 2 dm)(F:Fun K "least_number" "least_number" ba f fd)(B:Binds K fd ["blocks", "last", "numbers", "gained"] [])(Mf:mg "least_number"=some (.ref f)):CG P w K mg base 2 "least_number" f fd ["blocks", "last", "numbers", "gained"] 4 aR:=by
 refine⟨bF (g:=br) F sc_least_number rfl rfl rfl fun cdv A outer s H E hr=>?_,B,F.kp,Mf⟩
 have hu:=bE hr
 have hu6:=hr.units
 exact (aj (bN (aT ci (bn hu6) (aE (ae (af 0) (ae (af 1) ag ak) ak)) (lG (i:=0) (ks:=[0]) m_FIRST_PAIR q_FIRST_PAIR r_FIRST_PAIR) (aK _)) (al (aA ah)) aQ)
  (aj (az (i:=4) sc_least_number.nd rfl (Or.inr rfl) (aM (ps:=["blocks", "place"]) C_without (hr.mono (by omega)) (ae (af 0) (ae (af 1) ag ak) ak) (he:=ak) (hpl:=(aw ak ao))))
  (aj (az (i:=5) sc_least_number.nd rfl (Or.inl rfl) (qA (aT ci (bn hu6) (af 4) (aE (ae ah ag aO)) (aK _)) (af 4) (jy (af 4) (d8 ah) fw)))
  (al (aA (hZ rfl y_max (ae (aY (bH rfl (ls:=["place", ".0"]) (.of (ai ba)) (gJ (af 5)) (fun _ _ _ _=>(ar (i:=0) gm rfl (Or.inl rfl) (.inr rfl))) (aW 2 0 (by decide)) (fun _ _ _ _=>cE) (fun _ _ _ _=>(bA (j7 hu6 (af 4) (aE (ae (af 6) (ae (af 0) ag ak) ak)) (fun _ _=>rfl)) (ie hu (af 5) (aE (ae (af 0) (ae (af 3) ag ak) ak)) ah))) trivial)) ag gf)))))))
theorem sc_is_right:FnScope ["program", "counted", "told", "wanted", "numbers", "blocks", "last", "number", "gained"] ["program", "counted", "told"] (ai bJ):=⟨rfl,rfl,rfl,by decide+kernel,rfl,by decide+kernel,by decide+kernel⟩
theorem ji:((["pair", ".0"]:List Str)++(["program", "counted", "told", "wanted", "numbers", "blocks", "last", "number", "gained"]:List Str).map (hid ["pair", ".0"])).Nodup:=by decide+kernel
theorem fP:((["blocks", "last", ".0"]:List Str)++(["program", "counted", "told", "wanted", "numbers", "blocks", "last", "number", "gained"]:List Str).map (hid ["blocks", "last", ".0"])).Nodup:=by decide+kernel
theorem lw {a_pairs:Addr}{d_pairs:FuncData}{a_gains:Addr}{d_gains:FuncData}{a_least_number:Addr}{d_least_number:FuncData}(y_all:mg "all"=none)(y_any:mg "any"=none)(y_len:mg "len"=none)(C_pairs:CG P w K mg base 2 "pairs" a_pairs d_pairs ["many"] 1 fH)(C_gains:CG P w K mg base 3 "gains" a_gains d_gains ["program", "counted"] 2 fI)(C_least_number:CG P w K mg base 2 "least_number" a_least_number d_least_number ["blocks", "last", "numbers", "gained"] 4 aR)(F:Fun K "is_right" "is_right" bJ f fd)(B:Binds K fd ["program", "counted", "told"] [])(Mf:mg "is_right"=some (.ref f)):CG P w K mg base 4 "is_right" f fd ["program", "counted", "told"] 3 dL:=by
 refine⟨bF (g:=eP) F sc_is_right rfl rfl rfl fun cdv A outer s H E hr=>?_,B,F.kp,Mf⟩
 have hu:=bE hr
 have hu6:=hr.units
 exact (aj (az (i:=3) sc_is_right.nd rfl (Or.inl rfl) (aM (ps:=["many"]) C_pairs (hr.mono (by omega)) (ae (db y_len (ae (aH hu (af 0) ah (fun _ _=>rfl)) ag bq) (he:=bq) (hpl:=ao)) ag dy) (he:=dy) (hpl:=ao)))
  (aj (az (i:=4) sc_is_right.nd rfl (Or.inr rfl) (qB true))
  (aj (cD PassesOwn.never rfl (cF (af 2)) (cQ rfl (ay (ar (i:=5) sc_is_right.nd rfl (Or.inl rfl)) (ay (ar (i:=6) sc_is_right.nd rfl (Or.inl rfl)) (ay (ar (i:=7) sc_is_right.nd rfl (Or.inl rfl)) bQ)))) (dw 9 [5,6,7] (by decide)) (al (jw hu6 (af 4) (aE (ae (af 5) (ae (af 6) ag ak) ak)) (af 7))))
  (aj (bN (tR (tO (aT jv (gF hu6) (db y_len (ae (af 2) ag ak) (he:=ak) (hpl:=ao)) (db y_len (ae (af 3) ag ak) (he:=ak) (hpl:=ao)) (aK _)) (qj (ql (u7 rfl y_any (ae (aY (bH rfl (ls:=["pair", ".0"]) (.of (ai bJ)) (cF (af 3)) (fun _ _ _ _=>(ar (i:=0) ji rfl (Or.inl rfl) (.inr rfl))) (aW 2 0 (by decide)) (fun _ _ _ _=>cE) (fun _ _ _ _=>(iR (sF hu6) sw (af 0) (af 6) (by with_unfolding_all rfl))) trivial)) ag gf) (he:=gf) (hpl:=ao)))))) (al (aA ni)) aQ)
  (aj (az (i:=8) sc_is_right.nd rfl (Or.inr rfl) (aM (ps:=["program", "counted"]) C_gains (hr.mono (by omega)) (ae (af 0) (ae (af 1) ag ak) ak) (he:=ak) (hpl:=(aw ak ao))))
  (al (aA (u8 rfl y_all (ae (aY (bH rfl (ls:=["blocks", "last", ".0"]) (.of (ai bJ)) (cF (af 3)) (fun _ _ _ _=>(cQ rfl (ay (ar (i:=0) fP rfl (Or.inl rfl) (.inr rfl)) (ay (ar (i:=1) fP rfl (Or.inl rfl) (.inr rfl)) bQ)))) (dw 3 [0,1] (by decide)) (fun _ _ _ _=>cE) (fun _ _ _ _=>(iR tL p5 (j7 hu6 (af 7) (aE (ae (af 0) (ae (af 1) ag ak) ak)) (fun _ _=>rfl)) (aM (ps:=["blocks", "last", "numbers", "gained"]) C_least_number (hr.mono (by omega)) (ae (af 0) (ae (af 1) (ae (af 7) (ae (af 11) ag ak) ak) ak) ak) (he:=ak) (hpl:=(aw ak (aw ak (aw ak ao))))) (aK _))) trivial)) ag gf) (he:=gf) (hpl:=ao)))))))))
theorem sc_bound_of:FnScope ["program", "counted", "told", "everything"] ["program", "counted", "told"] (ai cr):=⟨rfl,rfl,rfl,by decide+kernel,rfl,by decide+kernel,by decide+kernel⟩
theorem dX:((["blocks", "last", "number", ".0"]:List Str)++(["program", "counted", "told", "everything"]:List Str).map (hid ["blocks", "last", "number", ".0"])).Nodup:=by decide+kernel
theorem ly (y_len:mg "len"=none)(y_max:mg "max"=none)(y_range:mg "range"=none)(y_sum:mg "sum"=none)(y_tuple:mg "tuple"=none)(F:Fun K "bound_of" "bound_of" cr f fd)(B:Binds K fd ["program", "counted", "told"] [])(Mf:mg "bound_of"=some (.ref f)):CG P w K mg base 1 "bound_of" f fd ["program", "counted", "told"] 3 dM:=by
 refine⟨bF (g:=eQ) F sc_bound_of rfl rfl rfl fun cdv A outer s H E hr=>?_,B,F.kp,Mf⟩
 have hu:=bE hr
 have hu6:=hr.units
 exact (aj (az (i:=3) sc_bound_of.nd rfl (Or.inr rfl) (mD rfl y_tuple y_range (ae (db y_len (ae (aH hu (af 0) ah (fun _ _=>rfl)) ag bq) (he:=bq) (hpl:=ao)) ag dy)))
  (al (aA (qt (qr rfl y_sum (ae (af 1) ag ak) (he:=ak) (hpl:=ao)) (hZ rfl y_max (ae (aY (bH rfl (ls:=["blocks", "last", "number", ".0"]) (.of (ai cr)) (cF (af 2)) (fun _ _ _ _=>(cQ rfl (ay (ar (i:=0) dX rfl (Or.inl rfl) (.inr rfl)) (ay (ar (i:=1) dX rfl (Or.inl rfl) (.inr rfl)) (ay (ar (i:=2) dX rfl (Or.inl rfl) (.inr rfl)) bQ))))) (dw 4 [0,1,2] (by decide)) (fun _ _ _ _=>(hV (aT ci (bn hu6) (af 0) (af 7) (aK _)))) (fun _ _ _ _=>(af 2)) trivial)) ag gf))))))
theorem sc_law_next:FnScope ["pot", "many", "cell", "stir"] ["pot", "many"] (ai cN):=⟨rfl,rfl,rfl,by decide+kernel,rfl,by decide+kernel,by decide+kernel⟩
theorem lh (F:Fun K "_law_next" "_law_next" cN f fd)(B:Binds K fd ["pot", "many"] [])(Mf:mg "_law_next"=some (.ref f)):CG P w K mg base 1 "_law_next" f fd ["pot", "many"] 2 aq:=by
 refine⟨bF (g:=eK) F sc_law_next rfl rfl rfl fun cdv A outer s H E hr=>?_,B,F.kp,Mf⟩
 have hu:=bE hr
 have hu6:=hr.units
 exact (aj (gn hu (af 0) ah (bA (aH hu (af 0) ah (fun _ _=>rfl)) ah))
  (aj (az (i:=2) sc_law_next.nd rfl (Or.inl rfl) (aH hu (af 0) ah (fun _ _=>rfl)))
  (aj (bN (aT tL p5 (af 2) (iP ah ah) (aK _)) (aj (gn hu (af 0) ah (nh (af 2) (af 1)))
  (al (aA (fW (af 2) (af 1))))) aQ)
  (aj (az (i:=3) sc_law_next.nd rfl (Or.inl rfl) (fW (bA (bA (fV (af 2) ah) (fV (aH hu (af 0) ah (fun _ _=>rfl)) ah)) ah) ah))
  (aj (az (i:=3) sc_law_next.nd rfl (Or.inl rfl) (fW (fV (af 3) (af 3)) ah))
  (al (aA (fW (nh (fW (bA (fV (af 3) ah) (fV (aH hu (af 0) ah (fun _ _=>rfl)) ah)) ah) ah) (af 1)))))))))
theorem kM:FnScope ["script"] ["script"] (ai cq):=⟨rfl,rfl,rfl,by decide+kernel,rfl,by decide+kernel,by decide+kernel⟩
theorem jh:((["cell", ".0"]:List Str)++(["script"]:List Str).map (hid ["cell", ".0"])).Nodup:=by decide+kernel
theorem lg (y_len:mg "len"=none)(F:Fun K "_law_pots" "_law_pots" cq f fd)(B:Binds K fd ["script"] [])(Mf:mg "_law_pots"=some (.ref f)):CG P w K mg base 1 "_law_pots" f fd ["script"] 1 dI:=by
 refine⟨bF (g:=eJ) F kM rfl rfl rfl fun cdv A outer s H E hr=>?_,B,F.kp,Mf⟩
 have hu:=bE hr
 have hu6:=hr.units
 exact (aj (bN (aT ci (bn hu6) (db y_len (ae (af 0) ag ak) (he:=ak) (hpl:=ao)) ah (aK _)) (al (aA (aY (bg (ae (fU (bg (ae ah (ae ah ag aO) aO))) ag og))))) aQ)
  (al (aA (aY (bH rfl (ls:=["cell", ".0"]) (.of (ai cq)) (cF (jy (af 0) fw (d8 ah))) (fun _ _ _ _=>(ar (i:=0) jh rfl (Or.inl rfl) (.inr rfl))) (aW 2 0 (by decide)) (fun _ _ _ _=>cE) (fun _ _ _ _=>(fU (bg (ae (af 0) (ae ah ag aO) ak)))) trivial)))))
theorem sc_law_end:FnScope ["pot", "many", "kind", "x", "y"] ["pot", "many"] (ai cP):=⟨rfl,rfl,rfl,by decide+kernel,rfl,by decide+kernel,by decide+kernel⟩
theorem j5:((["k", ".0"]:List Str)++(["pot", "many", "kind", "x", "y"]:List Str).map (hid ["k", ".0"])).Nodup:=by decide+kernel
theorem mw {a_law_next:Addr}{d_law_next:FuncData}(y_range:mg "range"=none)(y_tuple:mg "tuple"=none)(C_law_next:CG P w K mg base 1 "_law_next" a_law_next d_law_next ["pot", "many"] 2 aq)(F:Fun K "_law_end" "_law_end" cP f fd)(B:Binds K fd ["pot", "many"] [])(Mf:mg "_law_end"=some (.ref f)):CG P w K mg base 2 "_law_end" f fd ["pot", "many"] 2 dq:=by
 refine⟨bF (g:=fG) F sc_law_end rfl rfl rfl fun cdv A outer s H E hr=>?_,B,F.kp,Mf⟩
 have hu:=bE hr
 have hu6:=hr.units
 exact (aj (az (i:=2) sc_law_end.nd rfl (Or.inl rfl) (aM (ps:=["pot", "many"]) C_law_next (hr.mono (by omega)) (ae (af 0) (ae ah ag aO) ak) (he:=ak) (hpl:=(aw aO ao))))
  (aj (az (i:=3) sc_law_end.nd rfl (Or.inl rfl) (aM (ps:=["pot", "many"]) C_law_next (hr.mono (by omega)) (ae (af 0) (ae (af 1) ag ak) ak) (he:=ak) (hpl:=(aw ak ao))))
  (aj (az (i:=4) sc_law_end.nd rfl (Or.inl rfl) (aM (ps:=["pot", "many"]) C_law_next (hr.mono (by omega)) (ae (af 0) (ae (af 1) ag ak) ak) (he:=ak) (hpl:=(aw ak ao))))
  (aj (bN (aT ci (bn hu6) (af 2) ah (aK _)) (al (aA (aE (ae aL ag aO)))) aQ)
  (aj (bN (aT tK p4 (af 2) ah (aK _)) (al (aA (aE (ae aL (ae (af 3) ag ak) aO)))) aQ)
  (aj (bN (aT ci (bn hu6) (af 2) ah (aK _)) (al (aA (aE (ae aL (ae (aE (ae aL (ae aL ag aO) aO)) (ae (iO y_tuple (ae (aY (bH rfl (ls:=["k", ".0"]) (.of (ai cP)) (gK rfl y_range (ae (bA ah (aM (ps:=["pot", "many"]) C_law_next (hr.mono (by omega)) (ae (af 0) (ae ah ag aO) ak) (he:=ak) (hpl:=(aw aO ao)))) ag i9)) (fun _ _ _ _=>(ar (i:=0) j5 rfl (Or.inl rfl) (.inr rfl))) (aW 2 0 (by decide)) (fun _ _ _ _=>cE) (fun _ _ _ _=>(aM (ps:=["pot", "many"]) C_law_next (hr.mono (by omega)) (ae (af 2) (ae (af 3) ag ak) ak) (he:=ak) (hpl:=(aw ak ao)))) trivial)) ag gf) (he:=gf) (hpl:=ao)) ag dy) fK) aO)))) aQ)
  (aj (bN (aT ci (bn hu6) (af 2) ah (aK _)) (al (az (i:=4) sc_law_end.nd rfl (Or.inl rfl) (af 3))) aQ)
  (al (aA (aE (ae aL (ae (aH hu (aY (bg (ae aL (ae aL ag aO) aO))) (aM (ps:=["pot", "many"]) C_law_next (hr.mono (by omega)) (ae (af 0) (ae ah ag aO) ak) (he:=ak) (hpl:=(aw aO ao))) (fun _ _=>rfl)) (ae (aE (ae aL (ae aL ag aO) aO)) (ae (aE (ae aL (ae (aM (ps:=["pot", "many"]) C_law_next (hr.mono (by omega)) (ae (af 0) (ae ah ag aO) ak) (he:=ak) (hpl:=(aw aO ao))) ag dy) aO)) (ae (af 3) (ae (af 4) ag ak) ak) fK) fK) bq) aO)))))))))))
theorem sc_law_program:FnScope ["pot", "many", "some", "blocks", "k"] ["pot", "many"] (ai bG):=⟨rfl,rfl,rfl,by decide+kernel,rfl,by decide+kernel,by decide+kernel⟩
theorem iJ {a_law_end:Addr}{d_law_end:FuncData}{a_law_next:Addr}{d_law_next:FuncData}(y_list:mg "list"=none)(y_range:mg "range"=none)(C_law_end:CG P w K mg base 2 "_law_end" a_law_end d_law_end ["pot", "many"] 2 dq)(C_law_next:CG P w K mg base 1 "_law_next" a_law_next d_law_next ["pot", "many"] 2 aq)(F:Fun K "_law_program" "_law_program" bG f fd)(B:Binds K fd ["pot", "many"] [])(Mf:mg "_law_program"=some (.ref f)):CG P w K mg base 3 "_law_program" f fd ["pot", "many"] 2 cj:=by
 refine⟨bF (g:=cR) F sc_law_program rfl rfl rfl fun cdv A outer s H E hr=>?_,B,F.kp,Mf⟩
 have hu:=bE hr
 have hu6:=hr.units
 exact (aj (az (i:=2) sc_law_program.nd rfl (Or.inl rfl) (aY (bg (ae (aY (bg ag)) (ae (aY (bg (ae (aE (ae aL (ae (aE (ae aL (ae aL ag aO) aO)) ag fK) aO)) ag fK))) (ae (aY (bg (ae (aE (ae aL (ae aL ag aO) aO)) ag fK))) (ae (aY (bg (ae (aE (ae aL (ae aL (ae (aE (ae aL (ae ah ag aO) aO)) ag fK) aO) aO)) (ae (aE (ae aL (ae aL ag aO) aO)) ag fK) fK))) ag og) og) og) og))))
  (aj (az (i:=3) sc_law_program.nd rfl (Or.inl rfl) (fU (bg ag)))
  (aj (cD PassesOwn.never rfl (gK rfl y_range (ae (af 1) ag ak)) (ar (i:=4) sc_law_program.nd rfl (Or.inl rfl)) (aW 5 4 (by decide)) (al (gp (fx (af 3) (ae (aE (ae (bA aL (aH hu aL (af 4) (fun _ _=>rfl))) (ae (aY (hW y_list (ae (aH hu (af 2) (aM (ps:=["pot", "many"]) C_law_next (hr.mono (by omega)) (ae (af 0) (ae ah ag aO) ak) (he:=ak) (hpl:=(aw aO ao))) (fun _ _=>rfl)) ag bq) (he:=bq) (hpl:=ao))) (ae (aM (ps:=["pot", "many"]) C_law_end (hr.mono (by omega)) (ae (af 0) (ae (af 1) ag ak) ak) (he:=ak) (hpl:=(aw ak ao))) ag dy) dy) i9)) ag fK)))))
  (al (aA (aE (ae (aY (bg (ae (aE (ae aL (ae ah ag aO) aO)) ag fK))) (ae (iQ (af 3)) ag ak) og)))))))
theorem sc_law_ways:FnScope ["blocks", "found", "k", "name", "statements", "end", "tos"] ["blocks"] (ai ck):=⟨rfl,rfl,rfl,by decide+kernel,rfl,by decide+kernel,by decide+kernel⟩
theorem fM:((["side", "to", ".0"]:List Str)++(["blocks", "found", "k", "name", "statements", "end", "tos"]:List Str).map (hid ["side", "to", ".0"])).Nodup:=by decide+kernel
theorem kY (y_enumerate:mg "enumerate"=none)(y_list:mg "list"=none)(F:Fun K "_law_ways" "_law_ways" ck f fd)(B:Binds K fd ["blocks"] [])(Mf:mg "_law_ways"=some (.ref f)):CG P w K mg base 1 "_law_ways" f fd ["blocks"] 1 cu:=by
 refine⟨bF (g:=eE) F sc_law_ways rfl rfl rfl fun cdv A outer s H E hr=>?_,B,F.kp,Mf⟩
 have hu:=bE hr
 have hu6:=hr.units
 exact (aj (az (i:=1) sc_law_ways.nd rfl (Or.inl rfl) (fU (bg ag)))
  (aj (cD PassesOwn.never rfl (j6 y_enumerate (ae (af 0) ag ak)) (cQ rfl (ay (ar (i:=2) sc_law_ways.nd rfl (Or.inr rfl)) (ay (cQ rfl (ay (ar (i:=3) sc_law_ways.nd rfl (Or.inl rfl)) (ay (ar (i:=4) sc_law_ways.nd rfl (Or.inl rfl)) (ay (ar (i:=5) sc_law_ways.nd rfl (Or.inl rfl)) bQ)))) bQ))) (mR (ga (aW 7 2 (by decide)) (ga (dw 7 [3,4,5] (by decide)) mQ)) rfl) (aj (az (i:=6) sc_law_ways.nd rfl (Or.inl rfl) (aY (bg ag)))
  (aj (bN (aT ci (bn hu6) (aH hu (af 5) ah (fun _ _=>rfl)) aL (aK _)) (al (az (i:=6) sc_law_ways.nd rfl (Or.inl rfl) (aY (bg (ae (aH hu (af 5) ah (fun _ _=>rfl)) ag bq))))) aQ)
  (aj (bN (aT ci (bn hu6) (aH hu (af 5) ah (fun _ _=>rfl)) aL (aK _)) (al (az (i:=6) sc_law_ways.nd rfl (Or.inl rfl) (aY (bg (ae (aH hu (af 5) ah (fun _ _=>rfl)) (ae (aH hu (af 5) ah (fun _ _=>rfl)) ag bq) bq))))) aQ)
  (aj (bN (aT ci (bn hu6) (aH hu (af 5) ah (fun _ _=>rfl)) aL (aK _)) (al (az (i:=6) sc_law_ways.nd rfl (Or.inl rfl) (aY (hW y_list (ae (aH hu (af 5) ah (fun _ _=>rfl)) ag bq) (he:=bq) (hpl:=ao))))) aQ)
  (al (gp (oA (af 1) (ae (aY (bH rfl (ls:=["side", "to", ".0"]) (.of (ai ck)) (j6 y_enumerate (ae (af 6) ag ak)) (fun _ _ _ _=>(cQ rfl (ay (ar (i:=0) fM rfl (Or.inl rfl) (.inr rfl)) (ay (ar (i:=1) fM rfl (Or.inl rfl) (.inr rfl)) bQ)))) (dw 3 [0,1] (by decide)) (fun _ _ _ _=>cE) (fun _ _ _ _=>(aE (ae (af 5) (ae (af 0) (ae (af 1) ag ak) ak) ak))) trivial)) ag gf)))))))))
  (al (aA (iQ (af 1))))))
theorem jN:FnScope ["pot", "size"] ["pot", "size"] (ai cy):=⟨rfl,rfl,rfl,by decide+kernel,rfl,by decide+kernel,by decide+kernel⟩
theorem jY {a_law_next:Addr}{d_law_next:FuncData}(C_law_next:CG P w K mg base 1 "_law_next" a_law_next d_law_next ["pot", "many"] 2 aq)(F:Fun K "_law_count" "_law_count" cy f fd)(B:Binds K fd ["pot", "size"] [])(Mf:mg "_law_count"=some (.ref f)):CG P w K mg base 2 "_law_count" f fd ["pot", "size"] 2 cX:=by
 refine⟨bF (g:=dU) F jN rfl rfl rfl fun cdv A outer s H E hr=>?_,B,F.kp,Mf⟩
 have hu:=bE hr
 have hu6:=hr.units
 exact (aj (bN (aT tK p4 (af 1) ah (aK _)) (al (aA (aM (ps:=["pot", "many"]) C_law_next (hr.mono (by omega)) (ae (af 0) (ae (aH hu (aY (bg (ae ah (ae ah (ae ah ag aO) aO) aO))) (af 1) (fun _ _=>rfl)) ag bq) ak) (he:=ak) (hpl:=(aw bq ao))))) aQ)
  (al (aA (bA (fV (aM (ps:=["pot", "many"]) C_law_next (hr.mono (by omega)) (ae (af 0) (ae (iP ah ah) ag i9) ak) (he:=ak) (hpl:=(aw i9 ao))) (iP ah ah)) (aM (ps:=["pot", "many"]) C_law_next (hr.mono (by omega)) (ae (af 0) (ae (iP ah ah) ag i9) ak) (he:=ak) (hpl:=(aw i9 ao)))))))
theorem sc_law_counts:FnScope ["pots", "blocks", "size"] ["pots", "blocks"] (ai bv):=⟨rfl,rfl,rfl,by decide+kernel,rfl,by decide+kernel,by decide+kernel⟩
theorem gZ:((["k", ".0"]:List Str)++(["pots", "blocks", "size"]:List Str).map (hid ["k", ".0"])).Nodup:=by decide+kernel
theorem jd {a_law_next:Addr}{d_law_next:FuncData}{a_law_ways:Addr}{d_law_ways:FuncData}{a_law_count:Addr}{d_law_count:FuncData}(y_len:mg "len"=none)(y_range:mg "range"=none)(C_law_next:CG P w K mg base 1 "_law_next" a_law_next d_law_next ["pot", "many"] 2 aq)(C_law_ways:CG P w K mg base 1 "_law_ways" a_law_ways d_law_ways ["blocks"] 1 cu)(C_law_count:CG P w K mg base 2 "_law_count" a_law_count d_law_count ["pot", "size"] 2 cX)(F:Fun K "_law_counts" "_law_counts" bv f fd)(B:Binds K fd ["pots", "blocks"] [])(Mf:mg "_law_counts"=some (.ref f)):CG P w K mg base 3 "_law_counts" f fd ["pots", "blocks"] 2 cJ:=by
 refine⟨bF (g:=dj) F sc_law_counts rfl rfl rfl fun cdv A outer s H E hr=>?_,B,F.kp,Mf⟩
 have hu:=bE hr
 have hu6:=hr.units
 exact (aj (az (i:=2) sc_law_counts.nd rfl (Or.inr rfl) (aM (ps:=["pot", "many"]) C_law_next (hr.mono (by omega)) (ae (aH hu (af 0) ah (fun _ _=>rfl)) (ae ah ag aO) bq) (he:=bq) (hpl:=(aw aO ao))))
  (al (aA (aY (bH rfl (ls:=["k", ".0"]) (.of (ai bv)) (gK rfl y_range (ae (db y_len (ae (aM (ps:=["blocks"]) C_law_ways (hr.mono (by omega)) (ae (af 1) ag ak) (he:=ak) (hpl:=ao)) ag dy) (he:=dy) (hpl:=ao)) ag dy)) (fun _ _ _ _=>(ar (i:=0) gZ rfl (Or.inl rfl) (.inr rfl))) (aW 2 0 (by decide)) (fun _ _ _ _=>cE) (fun _ _ _ _=>(aM (ps:=["pot", "size"]) C_law_count (hr.mono (by omega)) (ae (aH hu (af 2) (fW (af 0) (db y_len (ae (af 2) ag ak) (he:=ak) (hpl:=ao))) (fun _ _=>rfl)) (ae (af 4) ag ak) bq) (he:=bq) (hpl:=(aw ak ao)))) trivial)))))
theorem sc_law_gains:FnScope ["blocks", "counted", "gains_v", "place", "side", "to", "count"] ["blocks", "counted"] (ai cx):=⟨rfl,rfl,rfl,by decide+kernel,rfl,by decide+kernel,by decide+kernel⟩
theorem jX {a_law_ways:Addr}{d_law_ways:FuncData}(y_zip:mg "zip"=none)(C_law_ways:CG P w K mg base 1 "_law_ways" a_law_ways d_law_ways ["blocks"] 1 cu)(F:Fun K "_law_gains" "_law_gains" cx f fd)(B:Binds K fd ["blocks", "counted"] [])(Mf:mg "_law_gains"=some (.ref f)):CG P w K mg base 2 "_law_gains" f fd ["blocks", "counted"] 2 cW:=by
 refine⟨bF (g:=dS) F sc_law_gains rfl rfl rfl fun cdv A outer s H E hr=>?_,B,F.kp,Mf⟩
 have hu:=bE hr
 have hu6:=hr.units
 exact (aj (az (i:=2) sc_law_gains.nd rfl (Or.inl rfl) lH)
  (aj (cD PassesOwn.never rfl (qp false false y_zip (ae (aM (ps:=["blocks"]) C_law_ways (hr.mono (by omega)) (ae (af 0) ag ak) (he:=ak) (hpl:=ao)) (ae (af 1) ag ak) dy)) (cQ rfl (ay (cQ rfl (ay (ar (i:=3) sc_law_gains.nd rfl (Or.inl rfl)) (ay (ar (i:=4) sc_law_gains.nd rfl (Or.inl rfl)) (ay (ar (i:=5) sc_law_gains.nd rfl (Or.inl rfl)) bQ)))) (ay (ar (i:=6) sc_law_gains.nd rfl (Or.inl rfl)) bQ))) (mR (ga (dw 7 [3,4,5] (by decide)) (ga (aW 7 6 (by decide)) mQ)) rfl) (al (bN (aT jv (gF hu6) (aH hu (aH hu (aH hu (af 0) (af 3) (fun _ _=>rfl)) ah (fun _ _=>rfl)) ah (fun _ _=>rfl)) aL (aK _)) (al (gn hu (af 2) (qx (ae (af 3) (ae (af 5) ag ak) ak)) (bA (ie hu (af 2) (qx (ae (af 3) (ae (af 5) ag ak) ak)) ah) (af 6)))) aQ)))
  (al (aA (af 2)))))
theorem sc_law_sets:FnScope ["many", "found", "place"] ["many"] (ai cn):=⟨rfl,rfl,rfl,by decide+kernel,rfl,by decide+kernel,by decide+kernel⟩
theorem jf:((["one", ".0"]:List Str)++(["many", "found", "place"]:List Str).map (hid ["one", ".0"])).Nodup:=by decide+kernel
theorem kZ (y_len:mg "len"=none)(y_range:mg "range"=none)(y_sorted:mg "sorted"=none)(F:Fun K "_law_sets" "_law_sets" cn f fd)(B:Binds K fd ["many"] [])(Mf:mg "_law_sets"=some (.ref f)):CG P w K mg base 1 "_law_sets" f fd ["many"] 1 dG:=by
 refine⟨bF (g:=eG) F sc_law_sets rfl rfl rfl fun cdv A outer s H E hr=>?_,B,F.kp,Mf⟩
 have hu:=bE hr
 have hu6:=hr.units
 exact (aj (az (i:=1) sc_law_sets.nd rfl (Or.inl rfl) (aY (bg (ae (aE (ae ah ag aO)) ag fK))))
  (aj (cD PassesOwn.never rfl (jx rfl y_range (ae ah (ae (af 0) ag ak) aO)) (ar (i:=2) sc_law_sets.nd rfl (Or.inr rfl)) (aW 3 2 (by decide)) (al (az (i:=1) sc_law_sets.nd rfl (Or.inl rfl) (bA (af 1) (aY (bH rfl (ls:=["one", ".0"]) (.of (ai cn)) (cF (af 1)) (fun _ _ _ _=>(ar (i:=0) jf rfl (Or.inl rfl) (.inr rfl))) (aW 2 0 (by decide)) (fun _ _ _ _=>cE) (fun _ _ _ _=>(bA (af 0) (aE (ae (af 4) ag ak)))) trivial))))))
  (al (aA (qu y_sorted y_len (af 1) (he:=ak))))))
theorem sc_law_least:FnScope ["gains_v", "numbers", "places", "last", "without_v", "found", "place"] ["gains_v", "numbers", "places", "last"] (ai bI):=⟨rfl,rfl,rfl,by decide+kernel,rfl,by decide+kernel,by decide+kernel⟩
theorem iL:((["place", ".0"]:List Str)++(["gains_v", "numbers", "places", "last", "without_v", "found", "place"]:List Str).map (hid ["place", ".0"])).Nodup:=by decide+kernel
theorem jW (y_len:mg "len"=none)(y_max:mg "max"=none)(y_tuple:mg "tuple"=none)(F:Fun K "_law_least" "_law_least" bI f fd)(B:Binds K fd ["gains_v", "numbers", "places", "last"] [])(Mf:mg "_law_least"=some (.ref f)):CG P w K mg base 1 "_law_least" f fd ["gains_v", "numbers", "places", "last"] 4 cV:=by
 refine⟨bF (g:=dR) F sc_law_least rfl rfl rfl fun cdv A outer s H E hr=>?_,B,F.kp,Mf⟩
 have hu:=bE hr
 have hu6:=hr.units
 exact (aj (az (i:=4) sc_law_least.nd rfl (Or.inl rfl) (iO y_tuple (ae (aY (bH rfl (ls:=["place", ".0"]) (.of (ai bI)) (gJ (af 2)) (fun _ _ _ _=>(ar (i:=0) iL rfl (Or.inl rfl) (.inr rfl))) (aW 2 0 (by decide)) (fun _ _ _ _=>(hV (aT jv (gF hu6) (af 0) (af 5) (aK _)))) (fun _ _ _ _=>(af 0)) trivial)) ag gf) (he:=gf) (hpl:=ao)))
  (aj (az (i:=5) sc_law_least.nd rfl (Or.inl rfl) (fU (bg ag)))
  (aj (cD PassesOwn.never rfl (gJ (af 4)) (ar (i:=6) sc_law_least.nd rfl (Or.inl rfl)) (aW 7 6 (by decide)) (al (bN (tR (tO (aT jv (gF hu6) (af 6) ah (aK _)) (qj (aT ci (bn hu6) (db y_len (ae (af 4) ag ak) (he:=ak) (hpl:=ao)) ah (aK _))))) (al (gp (fx (af 5) (ae (bA (j7 hu6 (af 1) (aE (ae (af 4) (ae (af 6) ag ak) ak)) (fun _ _=>rfl)) (ie hu (af 0) (aE (ae (af 6) (ae (af 3) ag ak) ak)) ah)) ag i9)))) aQ)))
  (al (aA (hZ rfl y_max (ae (af 5) ag ak)))))))
theorem sc_law_paper:FnScope ["blocks", "counted", "slacks", "gains_v", "numbers", "at", "places", "last"] ["blocks", "counted", "slacks"] (ai cw):=⟨rfl,rfl,rfl,by decide+kernel,rfl,by decide+kernel,by decide+kernel⟩
theorem jV {a_law_gains:Addr}{d_law_gains:FuncData}{a_law_sets:Addr}{d_law_sets:FuncData}{a_law_least:Addr}{d_law_least:FuncData}(y_len:mg "len"=none)(C_law_gains:CG P w K mg base 2 "_law_gains" a_law_gains d_law_gains ["blocks", "counted"] 2 cW)(C_law_sets:CG P w K mg base 1 "_law_sets" a_law_sets d_law_sets ["many"] 1 dG)(C_law_least:CG P w K mg base 1 "_law_least" a_law_least d_law_least ["gains_v", "numbers", "places", "last"] 4 cV)(F:Fun K "_law_paper" "_law_paper" cw f fd)(B:Binds K fd ["blocks", "counted", "slacks"] [])(Mf:mg "_law_paper"=some (.ref f)):CG P w K mg base 3 "_law_paper" f fd ["blocks", "counted", "slacks"] 3 cU:=by
 refine⟨bF (g:=dQ) F sc_law_paper rfl rfl rfl fun cdv A outer s H E hr=>?_,B,F.kp,Mf⟩
 have hu:=bE hr
 have hu6:=hr.units
 exact (aj (az (i:=3) sc_law_paper.nd rfl (Or.inl rfl) (aM (ps:=["blocks", "counted"]) C_law_gains (hr.mono (by omega)) (ae (af 0) (ae (af 1) ag ak) ak) (he:=ak) (hpl:=(aw ak ao))))
  (aj (az (i:=4) sc_law_paper.nd rfl (Or.inl rfl) (qC true hu6 (aE (ae (aE (ae ah ag aO)) (ae ah ag aO) fK)) (aH hu (af 2) ah (fun _ _=>rfl))))
  (aj (az (i:=5) sc_law_paper.nd rfl (Or.inl rfl) ah)
  (aj (cD PassesOwn.never rfl (cF (aM (ps:=["many"]) C_law_sets (hr.mono (by omega)) (ae (db y_len (ae (af 0) ag ak) (he:=ak) (hpl:=ao)) ag dy) (he:=dy) (hpl:=ao))) (ar (i:=6) sc_law_paper.nd rfl (Or.inl rfl)) (aW 8 6 (by decide)) (al (cD PassesOwn.never rfl (gJ (jy (af 6) (d8 ah) fw)) (ar (i:=7) sc_law_paper.nd rfl (Or.inl rfl)) (aW 8 7 (by decide)) (aj (jw hu6 (af 4) (aE (ae (af 6) (ae (af 7) ag ak) ak)) (bA (aM (ps:=["gains_v", "numbers", "places", "last"]) C_law_least (hr.mono (by omega)) (ae (af 3) (ae (af 4) (ae (af 6) (ae (af 7) ag ak) ak) ak) ak) (he:=ak) (hpl:=(aw ak (aw ak (aw ak ao))))) (aH hu (af 2) (fW (af 5) (db y_len (ae (af 2) ag ak) (he:=ak) (hpl:=ao))) (fun _ _=>rfl))))
  (al (az (i:=5) sc_law_paper.nd rfl (Or.inl rfl) (bA (af 5) ah)))))))
  (al (aA (iQ (af 4))))))))
theorem sc_law_slacks:FnScope ["pots", "size"] ["pots"] (ai bu):=⟨rfl,rfl,rfl,by decide+kernel,rfl,by decide+kernel,by decide+kernel⟩
theorem gY:((["pot", ".0"]:List Str)++(["pots", "size"]:List Str).map (hid ["pot", ".0"])).Nodup:=by decide+kernel
theorem jb {a_law_next:Addr}{d_law_next:FuncData}(C_law_next:CG P w K mg base 1 "_law_next" a_law_next d_law_next ["pot", "many"] 2 aq)(F:Fun K "_law_slacks" "_law_slacks" bu f fd)(B:Binds K fd ["pots"] [])(Mf:mg "_law_slacks"=some (.ref f)):CG P w K mg base 2 "_law_slacks" f fd ["pots"] 1 cH:=by
 refine⟨bF (g:=dh) F sc_law_slacks rfl rfl rfl fun cdv A outer s H E hr=>?_,B,F.kp,Mf⟩
 have hu:=bE hr
 have hu6:=hr.units
 exact (aj (az (i:=1) sc_law_slacks.nd rfl (Or.inr rfl) (aH hu (aY (bg (ae ah (ae ah (ae ah (ae (iP ah ah) ag i9) aO) aO) aO))) (aM (ps:=["pot", "many"]) C_law_next (hr.mono (by omega)) (ae (aH hu (af 0) ah (fun _ _=>rfl)) (ae ah ag aO) bq) (he:=bq) (hpl:=(aw aO ao))) (fun _ _=>rfl)))
  (al (aA (aY (bH rfl (ls:=["pot", ".0"]) (.of (ai bu)) (cF (af 0)) (fun _ _ _ _=>(ar (i:=0) gY rfl (Or.inl rfl) (.inr rfl))) (aW 2 0 (by decide)) (fun _ _ _ _=>cE) (fun _ _ _ _=>(fV (aM (ps:=["pot", "many"]) C_law_next (hr.mono (by omega)) (ae (af 0) (ae ah ag aO) ak) (he:=ak) (hpl:=(aw aO ao))) (aM (ps:=["pot", "many"]) C_law_next (hr.mono (by omega)) (ae (af 0) (ae (af 3) ag ak) ak) (he:=ak) (hpl:=(aw ak ao))))) trivial)))))
theorem sc_law_rows:FnScope ["numbers", "turn", "rows"] ["numbers", "turn"] (ai cp):=⟨rfl,rfl,rfl,by decide+kernel,rfl,by decide+kernel,by decide+kernel⟩
theorem fN:((["places", "last", ".0"]:List Str)++(["numbers", "turn", "rows"]:List Str).map (hid ["places", "last", ".0"])).Nodup:=by decide+kernel
theorem lf (y_sorted:mg "sorted"=none)(F:Fun K "_law_rows" "_law_rows" cp f fd)(B:Binds K fd ["numbers", "turn"] [])(Mf:mg "_law_rows"=some (.ref f)):CG P w K mg base 1 "_law_rows" f fd ["numbers", "turn"] 2 dH:=by
 refine⟨bF (g:=eI) F sc_law_rows rfl rfl rfl fun cdv A outer s H E hr=>?_,B,F.kp,Mf⟩
 have hu:=bE hr
 have hu6:=hr.units
 exact (aj (qm (i:=2) sc_law_rows.nd rfl rfl rfl (ls:=["places", "last", ".0"]) (.of (ai cp)) (u3 (af 0)) (fun _ _ _ _=>(cQ rfl (ay (ar (i:=0) fN rfl (Or.inl rfl) (.inr rfl)) (ay (ar (i:=1) fN rfl (Or.inl rfl) (.inr rfl)) bQ)))) (dw 3 [0,1] (by decide)) (fun _ _ _ _=>cE) (fun _ _ _ _=>(aE (ae (af 0) (ae (af 1) (ae (j7 hu6 (af 3) (aE (ae (af 0) (ae (af 1) ag ak) ak)) (fun _ _=>rfl)) ag bq) ak) ak))) trivial)
  (aj (bN (aT ci (bn hu6) (af 1) ah (aK _)) (al (aA (oz hu6 y_sorted (ae (af 2) ag ak) (he:=ak) (hpl:=ao)))) aQ)
  (aj (bN (aT ci (bn hu6) (af 1) ah (aK _)) (al (aA (u4 (af 2) (d8 (u6 ah))))) aQ)
  (al (aA (bA (jy (af 2) (d8 ah) fw) (jy (af 2) fw (d8 ah))))))))
theorem kN:FnScope ["pot"] ["pot"] (ai cO):=⟨rfl,rfl,rfl,by decide+kernel,rfl,by decide+kernel,by decide+kernel⟩
theorem lm {a_law_next:Addr}{d_law_next:FuncData}(C_law_next:CG P w K mg base 1 "_law_next" a_law_next d_law_next ["pot", "many"] 2 aq)(F:Fun K "_law_many" "_law_many" cO f fd)(B:Binds K fd ["pot"] [])(Mf:mg "_law_many"=some (.ref f)):CG P w K mg base 2 "_law_many" f fd ["pot"] 1 dJ:=by
 refine⟨bF (g:=eO) F kN rfl rfl rfl fun cdv A outer s H E hr=>?_,B,F.kp,Mf⟩
 have hu:=bE hr
 have hu6:=hr.units
 exact (aj (bN (aT ci (bn hu6) (aM (ps:=["pot", "many"]) C_law_next (hr.mono (by omega)) (ae (af 0) (ae ah ag aO) ak) (he:=ak) (hpl:=(aw aO ao))) ah (aK _)) (al (aA ah)) aQ)
  (al (aA (bA ah (aM (ps:=["pot", "many"]) C_law_next (hr.mono (by omega)) (ae (af 0) (ae ah ag aO) ak) (he:=ak) (hpl:=(aw aO ao)))))))
theorem ja:FnScope ["told", "due"] ["told", "due"] (ai bO):=⟨rfl,rfl,rfl,by decide+kernel,rfl,by decide+kernel,by decide+kernel⟩
theorem jc (y_bool:mg "bool"=none)(y_int:mg "int"=none)(y_isinstance:mg "isinstance"=none)(F:Fun K "_law_number" "_law_number" bO f fd)(B:Binds K fd ["told", "due"] [])(Mf:mg "_law_number"=some (.ref f)):CG P w K mg base 1 "_law_number" f fd ["told", "due"] 2 cI:=by
 refine⟨bF (g:=di) F ja rfl rfl rfl fun cdv A outer s H E hr=>?_,B,F.kp,Mf⟩
 have hu:=bE hr
 have hu6:=hr.units
 exact (al (aA (mE (qy y_isinstance (ae (af 0) (ae (tQ y_int PyProof.Rows.boot_int) ag ak) ak) (he:=ak) (hpl:=(aw ak ao))) (mE (u5 (qy y_isinstance (ae (af 0) (ae (tQ y_bool PyProof.Rows.boot_bool) ag ak) ak) (he:=ak) (hpl:=(aw ak ao)))) (qw (iR ci (bn hu6) (af 0) (af 1) (aK _)))))))
theorem sc_law:FnScope ["script", "pots", "program", "counted", "numbers", "rows", "handed", "some", "great"] ["script"] (ai fL):=⟨rfl,rfl,rfl,by decide+kernel,rfl,by decide+kernel,by decide+kernel⟩
theorem iM:((["places", "last", "number", ".0"]:List Str)++(["script", "pots", "program", "counted", "numbers", "rows", "handed", "some", "great"]:List Str).map (hid ["places", "last", "number", ".0"])).Nodup:=by decide+kernel
theorem uW {a_law_pots:Addr}{d_law_pots:FuncData}{a_law_program:Addr}{d_law_program:FuncData}{a_law_many:Addr}{d_law_many:FuncData}{a_law_counts:Addr}{d_law_counts:FuncData}{a_law_paper:Addr}{d_law_paper:FuncData}{a_law_slacks:Addr}{d_law_slacks:FuncData}{a_law_rows:Addr}{d_law_rows:FuncData}{a_law_next:Addr}{d_law_next:FuncData}{a_is_right:Addr}{d_is_right:FuncData}{a_law_number:Addr}{d_law_number:FuncData}{a_bound_of:Addr}{d_bound_of:FuncData}(y_len:mg "len"=none)(y_list:mg "list"=none)(y_max:mg "max"=none)(y_sum:mg "sum"=none)(C_law_pots:CG P w K mg base 1 "_law_pots" a_law_pots d_law_pots ["script"] 1 dI)(C_law_program:CG P w K mg base 3 "_law_program" a_law_program d_law_program ["pot", "many"] 2 cj)(C_law_many:CG P w K mg base 2 "_law_many" a_law_many d_law_many ["pot"] 1 dJ)(C_law_counts:CG P w K mg base 3 "_law_counts" a_law_counts d_law_counts ["pots", "blocks"] 2 cJ)(C_law_paper:CG P w K mg base 3 "_law_paper" a_law_paper d_law_paper ["blocks", "counted", "slacks"] 3 cU)(C_law_slacks:CG P w K mg base 2 "_law_slacks" a_law_slacks d_law_slacks ["pots"] 1 cH)(C_law_rows:CG P w K mg base 1 "_law_rows" a_law_rows d_law_rows ["numbers", "turn"] 2 dH)(C_law_next:CG P w K mg base 1 "_law_next" a_law_next d_law_next ["pot", "many"] 2 aq)(C_is_right:CG P w K mg base 4 "is_right" a_is_right d_is_right ["program", "counted", "told"] 3 dL)(C_law_number:CG P w K mg base 1 "_law_number" a_law_number d_law_number ["told", "due"] 2 cI)(C_bound_of:CG P w K mg base 1 "bound_of" a_bound_of d_bound_of ["program", "counted", "told"] 3 dM)(F:Fun K "law" "law" fL f fd)(B:Binds K fd ["script"] [])(Mf:mg "law"=some (.ref f)):CG P w K mg base 5 "law" f fd ["script"] 1 jE:=by
 refine⟨bF (g:=nJ) F sc_law rfl rfl rfl fun cdv A outer s H E hr=>?_,B,F.kp,Mf⟩
 have hu:=bE hr
 have hu6:=hr.units
 exact (aj (az (i:=1) sc_law.nd rfl (Or.inl rfl) (aM (ps:=["script"]) C_law_pots (hr.mono (by omega)) (ae (af 0) ag ak) (he:=ak) (hpl:=ao)))
  (aj (az (i:=2) sc_law.nd rfl (Or.inr rfl) (aM (ps:=["pot", "many"]) C_law_program (hr.mono (by omega)) (ae (aH hu (af 1) ah (fun _ _=>rfl)) (ae (aM (ps:=["pot"]) C_law_many (hr.mono (by omega)) (ae (aH hu (af 1) ah (fun _ _=>rfl)) ag bq) (he:=bq) (hpl:=ao)) ag dy) bq) (he:=bq) (hpl:=(aw dy ao))))
  (aj (az (i:=3) sc_law.nd rfl (Or.inl rfl) (aM (ps:=["pots", "blocks"]) C_law_counts (hr.mono (by omega)) (ae (af 1) (ae (aH hu (af 2) ah (fun _ _=>rfl)) ag bq) ak) (he:=ak) (hpl:=(aw bq ao))))
  (aj (az (i:=4) sc_law.nd rfl (Or.inl rfl) (aM (ps:=["blocks", "counted", "slacks"]) C_law_paper (hr.mono (by omega)) (ae (aH hu (af 2) ah (fun _ _=>rfl)) (ae (af 3) (ae (aM (ps:=["pots"]) C_law_slacks (hr.mono (by omega)) (ae (af 1) ag ak) (he:=ak) (hpl:=ao)) ag dy) ak) bq) (he:=bq) (hpl:=(aw ak (aw dy ao)))))
  (aj (az (i:=5) sc_law.nd rfl (Or.inl rfl) (aM (ps:=["numbers", "turn"]) C_law_rows (hr.mono (by omega)) (ae (af 4) (ae (aM (ps:=["pot", "many"]) C_law_next (hr.mono (by omega)) (ae (aH hu (af 1) ah (fun _ _=>rfl)) (ae ah ag aO) bq) (he:=bq) (hpl:=(aw aO ao))) ag dy) ak) (he:=ak) (hpl:=(aw dy ao))))
  (aj (az (i:=6) sc_law.nd rfl (Or.inl rfl) (aY (hW y_list (ae (af 5) ag ak) (he:=ak) (hpl:=ao))))
  (aj (az (i:=7) sc_law.nd rfl (Or.inl rfl) (aY (hW y_list (ae (af 3) ag ak) (he:=ak) (hpl:=ao))))
  (aj (bN (aT sy p3 (aM (ps:=["program", "counted", "told"]) C_is_right (hr.mono (by omega)) (ae (af 2) (ae (af 7) (ae (af 6) ag ak) ak) ak) (he:=ak) (hpl:=(aw ak (aw ak ao)))) ni (aK _)) (al (aA ni)) aQ)
  (aj (az (i:=8) sc_law.nd rfl (Or.inl rfl) (hZ rfl y_max (ae (aY (bH rfl (ls:=["places", "last", "number", ".0"]) (.of (ai fL)) (cF (af 5)) (fun _ _ _ _=>(cQ rfl (ay (ar (i:=0) iM rfl (Or.inl rfl) (.inr rfl)) (ay (ar (i:=1) iM rfl (Or.inl rfl) (.inr rfl)) (ay (ar (i:=2) iM rfl (Or.inl rfl) (.inr rfl)) bQ))))) (dw 4 [0,1,2] (by decide)) (fun _ _ _ _=>(hV (aT ci (bn hu6) (db y_len (ae (af 0) ag ak) (he:=ak) (hpl:=ao)) (db y_len (ae (aH hu (af 6) ah (fun _ _=>rfl)) ag bq) (he:=bq) (hpl:=ao)) (aK _)))) (fun _ _ _ _=>(af 2)) trivial)) ag gf)))
  (aj (bN (uZ (ql (aM (ps:=["told", "due"]) C_law_number (hr.mono (by omega)) (ae (aM (ps:=["program", "counted", "told"]) C_bound_of (hr.mono (by omega)) (ae (af 2) (ae (af 7) (ae (af 6) ag ak) ak) ak) (he:=ak) (hpl:=(aw ak (aw ak ao)))) (ae (qt (qr rfl y_sum (ae (af 3) ag ak) (he:=ak) (hpl:=ao)) (af 8)) ag i9) dy) (he:=dy) (hpl:=(aw i9 ao))))) (al (aA ni)) aQ)
  (al (aA (mE (iR ci (bn hu6) (af 6) (af 5) (aK _)) (qw (iR ci (bn hu6) (af 7) (af 3) (aK _))))))))))))))))
end
end Q
set_option maxHeartbeats 1000000
namespace Q
open PySem L2
local macro_rules | `(tactic| simp! only [$xs,*]) => `(tactic| try simp only [finF,bp,bW,bV,bZ,bY,bS,df,dg,sFor,mMet,aJ,sAug,sAugW,sFldW,tupW,sRet,sSet,sNil,sEx,sPass,bT,sCont,sUnp,bm,mB,L2.m2,L2.m1,L2.m3,mVar,mC,mCall,mCons,mNil,mTup,mTl,mNew,lenG,listL,mPart,aP,mAnd,mOr,mNot,mAndV,mOrV,mNotV,mIf,bU,mMeth,isS,mSrc,mSrcA,srcL,srcT,srcS,tgN,tgT,setW,mYes,aV,bd_no,asB_bl,addW_int,subW_int,ltW_int,leW_int,gtW_int,geW_int,eqW_int,eqW_str,neW_int,neW_str,neW_bl,slW_tl,slW_cl,lenW_tl,lenW_tup,negW,List.set_cons_zero,List.set_cons_succ,List.getElem?_cons_zero,List.getElem?_cons_succ,List.length_cons,List.length_nil,arW,if_true,if_false,Bool.false_eq_true,ite_true,ite_false,reduceIte,decide_true,decide_false,Bool.not_true,Bool.not_false,de,gdn0,gdn1,gdn2,gdn3,gdn4,gdn5,gdn6,gdn7,gdn8,gdn9,gdn10,gdn11,gdn12,gdn13,gdn14,gdn15,gdn16,gdn17,gdn18,gdn19,gdn20,gdn21,gdn22,gdn23,gdn24,$xs,*])
local macro_rules | `(tactic| simp!) => `(tactic| simp! only [aa])
section
theorem sz {n:Nat}(h:n<=100000):n<=sizeLine:=Nat.le_trans h (by decide)
theorem sJ (l:List W):lstO (.tl l)=pr l:=rfl
theorem fg (l:List W):srcL (.tl l)=pr ⟨l,fun _=>True⟩:=rfl
theorem gy (l:List W):fQ [.tl l]=pr (.tup l):=rfl
theorem kD (a b:List W)(h:a.length+b.length<=sizeLine):addW (.tl a) (.tl b)=pr (.tl (a++b)):=by
 show gd (a.length+b.length<=sizeLine) (pr (W.tl (a++b)))=_
 exact ap h
noncomputable def Pot (h:List Ob)(j:Nat):Prop:= ∃a b:Int,h[j]?=some (.lst [.int a,.int b])
structure Kp (j:Nat)(h h':List Ob):Prop where
 fr:Fr j h h'
 re:Pot h' j
theorem Kp.trans {j:Nat}{a b c:List Ob}(x:Kp j a b)(y:Kp j b c):Kp j a c:=⟨x.fr.trans y.fr,y.re⟩
structure Kn (j:Nat)(h h':List Ob):Prop where
 le:h.length<=h'.length
 eq: ∀i,i<h.length->i≠j->h'[i]?=h[i]?
 re:Pot h' j
theorem Kp.kn {j:Nat}{h h':List Ob}(x:Kp j h h'):Kn j h h':=⟨Nat.le_of_eq x.fr.len.symm,fun i _ hj=>x.fr.eq i hj,x.re⟩
theorem Kn.trans {j:Nat}{a b c:List Ob}(x:Kn j a b)(y:Kn j b c):Kn j a c:=⟨Nat.le_trans x.le y.le,fun i hi hj=>(y.eq i (Nat.lt_of_lt_of_le hi x.le) hj).trans (x.eq i hi hj),y.re⟩
theorem cp18:CPow 10 18:=⟨by decide,by decide,by decide⟩
theorem ng {h:List Ob}{j:Nat}{m:Int}(R:Pot h j)(hm:0<m)(hz:m<2 ^ 200):Ok (aq [.loc j,.int m]) h fun w h'=> ∃v:Int,w=.int v/\0<=v/\v<m/\Kp j h h':=by
 obtain⟨a,b,e⟩:=R
 have e0:aq [.loc j,.int m]=bd (eK [some (.loc j),some (.int m),none,none]) finF:=rfl
 rw[e0]
 unfold eK
 simp! only[aa,eX cp18]
 refine lp e (w:=.int b) rfl ?_
 simp!
 refine tN e (i:=1) rfl ?_
 have e1:(h.set j (.lst ([.int a,.int b].set 1 (.int (b+1)))))[j]?=some (.lst [.int a,.int (b+1)]):=gc e
 have f1:Fr j h (h.set j (.lst ([.int a,.int b].set 1 (.int (b+1))))):=Fr.set
 generalize h.set j (.lst ([.int a,.int b].set 1 (.int (b+1))))=h1 at *
 generalize b+1=c at *
 simp!
 refine lp e1 (w:=.int a) rfl ?_
 by_cases hc:10 ^ (18:Int).toNat<=a
 ·simp! only[aa,decide_eq_true hc,jD hm hz]
  refine tN e1 (i:=0) rfl ?_
  simp! only[aa,dC hm]
  exact av ⟨a % m,rfl,Int.emod_nonneg _ (by omega),Int.emod_lt_of_pos _ hm,f1.trans Fr.set,_,_,gc e1⟩
 ·simp! only[aa,decide_eq_false hc,dB (iN (i:=a) (j:=69621) (by decide) (by decide))]
  refine lp e1 (w:=.int c) rfl ?_
  simp! only[aa,dB (iN (i:=c) (j:=7919) (by decide) (by decide)),dC (show (0:Int)<2147483647 by decide)]
  generalize hx:(a * 69621+c * 7919+13) % 2147483647=x
  have b0:0<=x:=by rw[<-hx];exact Int.emod_nonneg _ (by decide)
  have b1:x<2147483647:=by rw[<-hx];exact Int.emod_lt_of_pos _ (by decide)
  simp! only[aa,dB (qk (i:=x) (j:=x) (by omega) (by omega)),dC (show (0:Int)<2147483629 by decide),dB (iN (i:=x * x % 2147483629) (j:=48271) (by decide) (by decide))]
  refine lp e1 (w:=.int c) rfl ?_
  simp! only[aa,dB (iN (i:=c) (j:=40692) (by decide) (by decide)),dC (show (0:Int)<2147483587 by decide),jD (show (0:Int)<8 by decide) (by decide),dC hm]
  exact av ⟨_,rfl,Int.emod_nonneg _ (by omega),Int.emod_lt_of_pos _ hm,f1,_,_,e1⟩
theorem bB {β:Type}{h:List Ob}{k:W->M β}{Q:β->List Ob->Prop}{j:Nat}{m:Int}(R:Pot h j)(hm:0<m)(hz:m<2 ^ 200)(q:∀v h',0<=v->v<m->Kp j h h'->Ok (k (.int v)) h' Q):Ok (bd (aq [.loc j,.int m]) k) h Q:=
 bC (ng R hm hz) fun w h' ⟨v,e,a,b,K⟩=>by subst e;exact q v h' a b K
theorem nr (l:List W):lenW [.cl l]=pr (.int l.length):=rfl
def Pots (h:List Ob)(ks:List Nat):Prop:= ∀k∈ks,Pot h k
theorem Pots.kn {h h':List Ob}{ks:List Nat}{j:Nat}(P:Pots h ks)(K:Kn j h h'):Pots h' ks:=fun k hk=>by
 by_cases z:k=j
 ·subst z;exact K.re
 ·obtain⟨a,b,e⟩:=P k hk
  exact⟨a,b,(K.eq k (d9 e) z).trans e⟩
theorem oU (ns:List Int):(cutW ns none (some 63)).length<=63:=by
 unfold cutW
 rw[List.length_take]
 show min (min (63:Int).toNat ns.length - 0) _<=63
 have:(63:Int).toNat=63:=rfl
 omega
theorem rh (ns:List Int)(h:ns≠ []):cutW ns none (some 63)≠ []:=by
 unfold cutW
 intro z
 have z:=congrArg List.length z
 rw[List.length_take,List.length_drop,List.length_nil] at z
 have h0:0<ns.length:=List.length_pos_iff.mpr h
 have z:min (min (63:Int).toNat ns.length - 0) (ns.length - 0)=0:=z
 have:(63:Int).toNat=63:=rfl
 omega
theorem r6 (ns:List Int)(h:List Ob):Ok (dI [.cl (ns.map W.int)]) h fun w h'=> ∃ks:List Nat,w=.tl (ks.map W.loc)/\ks≠ []/\ks.length<=63/\Pots h' ks:=by
 have e0:dI [.cl (ns.map W.int)]=bd (eJ [some (.cl (ns.map W.int))]) finF:=rfl
 rw[e0]
 unfold eJ
 cases ns with
 |nil=>
  have z0:decide (((0:Nat):Int)=0)=true:=rfl
  simp! only[aa,nr,List.map_nil,z0]
  refine gI ?_
  simp!
  refine av ⟨[h.length],rfl,by simp,by simp,fun k hk=>?_⟩
  rw[List.mem_singleton.mp hk]
  exact⟨_,_,fE⟩
 |cons c ns=>
  have hne: ¬(((((c::ns).map W.int).length:Nat):Int)=0):=by rw[List.length_map,List.length_cons];omega
  have cm:=sZ W.int (c::ns) none (some 63)
  have c1:=oU (c::ns)
  have c2:=rh (c::ns) (by simp)
  generalize cutW (c::ns) none (some 63)=cs at *
  generalize c::ns=ms at *
  have gl: ∀ {α:Type} (q:M α),gd ((cs.map W.int).length<=sizeLine) q=q:=fun q=>ap (by rw[List.length_map];exact sz (by omega))
  simp! only[aa,nr,decide_eq_false hne,aJ,cm,fg,gl]
  refine cC (I:=fun i a h'=> ∃ks:List Nat,a=ks.map W.loc/\ks.length=i/\Pots h' ks) ⟨[],rfl,rfl,fun k hk=>absurd hk List.not_mem_nil⟩ du (fun _ _ _ _=>trivial) (fun i w a h' hw I=>?_) fun a h' I=>?_
  ·obtain⟨ks,rfl,rfl,P⟩:=I
   rw[List.getElem?_map] at hw
   obtain⟨x,hx,rfl⟩:=Option.map_eq_some_iff.mp hw
   refine⟨_,rfl,?_⟩
   simp! only[List.replicate,List.cons_append,List.nil_append,aa]
   refine⟨.loc h'.length,h'++[.lst [.int x,.int 0]],rfl,ks++[h'.length],by rw[List.map_append];rfl,by simp,fun k hk=>?_⟩
   rcases List.mem_append.mp hk with hk|hk
   ·obtain⟨a,b,e⟩:=P k hk
    exact⟨a,b,nI e⟩
   ·rw[List.mem_singleton.mp hk]
    exact⟨_,_,fE⟩
  ·obtain⟨ks,rfl,e,P⟩:=I
   rw[List.length_map] at e
   simp!
   refine av ⟨ks,rfl,fun z=>c2 ?_,by omega,P⟩
   rw[z] at e
   exact List.eq_nil_of_length_eq_zero e.symm
noncomputable def Pd:Nat->W->Prop
 |0,_=>False
 |n+1,w=>(∃i,w=.int i)\/(∃z,w=.str z/\PyData.strOk z=true)\/ ∃l,(w=.tup l\/w=.tl l)/\l.length<=1000/\ ∀x∈l,Pd n x
theorem Pd.mono: ∀ {n:Nat}{w:W},Pd n w->Pd (n+1) w
 |n+1,w,p=>by
  rcases p with p|p|⟨l,e,z,p⟩
  ·exact .inl p
  ·exact .inr (.inl p)
  ·exact .inr (.inr ⟨l,e,z,fun x hx=>(p x hx).mono⟩)
theorem Pd.up {n m:Nat}{w:W}(p:Pd n w)(h:n<=m):Pd m w:=by
 induction m with
 |zero=>
  have:n=0:=by omega
  subst this;exact p
 |succ m ih=>
  by_cases e:n=m+1
  ·subst e;exact p
  ·exact (ih (by omega)).mono
theorem Pd.int {n:Nat}{i:Int}:Pd (n+1) (.int i):=.inl ⟨i,rfl⟩
theorem Pd.str {n:Nat}{i:Str}(h:PyData.strOk i=true):Pd (n+1) (.str i):=.inr (.inl ⟨i,rfl,h⟩)
theorem Pd.tup {n:Nat}{l:List W}(z:l.length<=1000)(p:∀x∈l,Pd n x):Pd (n+1) (.tup l):=.inr (.inr ⟨l,.inl rfl,z,p⟩)
theorem Pd.lst {n:Nat}{l:List W}(z:l.length<=1000)(p:∀x∈l,Pd n x):Pd (n+1) (.tl l):=.inr (.inr ⟨l,.inr rfl,z,p⟩)
theorem pd2i {a:Str}{i:Int}{n:Nat}(h:PyData.strOk a=true):Pd (n+2) (.tup [.str a,.int i]):=.tup (by simp) fun x hx=>by
 rcases List.mem_cons.mp hx with rfl|hx
 ·exact .str h
 ·rw[List.mem_singleton.mp hx];exact .int
theorem pd2s {a b:Str}{n:Nat}(h:PyData.strOk a=true)(h2:PyData.strOk b=true):Pd (n+2) (.tup [.str a,.str b]):=.tup (by simp) fun x hx=>by
 rcases List.mem_cons.mp hx with rfl|hx
 ·exact .str h
 ·rw[List.mem_singleton.mp hx];exact .str h2
theorem pdT {l:List W}{n:Nat}(z:l.length<=1000)(h:∀x∈l,Pd n x):Pd (n+1) (.tup l):=.tup z h
theorem aI {n:Nat}{w:W}{l:List W}(h:Pd n w)(r:∀x∈l,Pd n x): ∀x∈w::l,Pd n x:=fun x hx=>by
 rcases List.mem_cons.mp hx with rfl|hx
 ·exact h
 ·exact r x hx
theorem da {n:Nat}: ∀x∈([]:List W),Pd n x:=fun x hx=>absurd hx List.not_mem_nil
theorem iI {n:Nat}{h:List Ob}: ∀ (l:List W),(∀x∈l,∃d,dataH h n x=some d/\d.canLay0=true)-> ∃ds,optL (dataH h n) l=some ds/\PyData.canLayAll0 ds=true
 |[],_=>⟨[],rfl,by rw[PyData.canLayAll0]⟩
 |x::l,q=>by
  obtain⟨d,e,c⟩:=q x List.mem_cons_self
  obtain⟨ds,es,cs⟩:=iI l fun y hy=>q y (List.mem_cons_of_mem _ hy)
  refine⟨d::ds,?_,?_⟩
  ·simp only[optL,e,es]
  ·rw[PyData.canLayAll0,c,cs];rfl
theorem Pd.data {h:List Ob}: ∀ {n:Nat}{w:W},Pd n w-> ∃d,dataH h n w=some d/\d.canLay0=true
 |n+1,w,p=>by
  rcases p with⟨i,rfl⟩|⟨z,rfl,hz⟩|⟨l,e,_,p⟩
  ·exact⟨.int i,rfl,by rw[PyData.canLay0]⟩
  ·exact⟨.str z,rfl,by rw[PyData.canLay0];exact hz⟩
  ·obtain⟨ds,es,cs⟩:=iI (h:=h) l fun x hx=>(p x hx).data
   rcases e with rfl|rfl
   ·exact⟨.tuple ds,by show (optL (dataH h n) l).map PyData.tuple=_;rw[es];rfl,by rw[PyData.canLay0];exact cs⟩
   ·exact⟨.list ds,by show (optL (dataH h n) l).map PyData.list=_;rw[es];rfl,by rw[PyData.canLay0];exact cs⟩
theorem qW {l:List W}(p:∀x∈l,Pd 49 x):eqW (.tl l) (.tl l)=pr (.bl true):=ko fun h=>by
 obtain⟨ds,es,cs⟩:=iI (h:=h) l fun x hx=>(p x hx).data
 rw[oQ es es cs cs,dW ds cs]
inductive E17
 |go (t:Int)
 |iff (s:Str)(a b:W)(x y:Int)
 |table (e:W)(ts:List Int)
 |stop
noncomputable def E17.w:E17->W
 |.go t=>.tup [.str "go",.int t]
 |.iff s a b x y=>.tup [.str "if",.str s,a,b,.int x,.int y]
 |.table e ts=>.tup [.str "table",e,.tup (ts.map W.int)]
 |.stop=>.tup [.str "stop"]
def E17.Good (m:Int):E17->Prop
 |.go t=>0<=t/\t<m
 |.iff s a b x y=>(0<=x/\x<m)/\(0<=y/\y<m)/\Pd 8 a/\Pd 8 b/\PyData.strOk s=true
 |.table e ts=>ts.length<=6/\(∀t∈ts,0<=t/\t<m)/\Pd 8 e
 |.stop=>True
theorem j2:PyData.strOk "box"=true:=by decide+kernel
theorem my:PyData.strOk "a"=true:=by decide+kernel
theorem gH:PyData.strOk "number"=true:=by decide+kernel
theorem sg2 {v:Int}(h0:0<=v)(h1:v<2): ∃s:Str,atI [W.str "<",.str "="] v=some (.str s)/\PyData.strOk s=true:=by
 have:v=0\/v=1:=by omega
 rcases this with rfl|rfl
 ·exact⟨"<",rfl,by decide+kernel⟩
 ·exact⟨"=",rfl,by decide+kernel⟩
theorem vo {h:List Ob}{j:Nat}{m:Int}(hm:0<m)(hz:m<=100)(R:Pot h j):Ok (dq [.loc j,.int m]) h fun w h'=> ∃e:E17,w=e.w/\e.Good m/\Kn j h h':=by
 have e0:dq [.loc j,.int m]=bd (fG [some (.loc j),some (.int m),none,none,none]) finF:=rfl
 have hz':m<2 ^ 200:=Int.lt_of_le_of_lt hz (by decide)
 rw[e0]
 unfold fG
 simp!
 refine bB R (by decide) (by decide) fun kind h1 k0 k8 K1=>?_
 simp!
 refine bB K1.re hm hz' fun x h2 x0 x1 K2=>?_
 simp!
 refine bB K2.re hm hz' fun y h3 y0 y1 K3=>?_
 have K13:=(K1.trans K2).trans K3
 by_cases c0:kind=0
 ·simp! only[aa,decide_eq_true c0,tupW]
  exact av ⟨.stop,rfl,trivial,K13.kn⟩
 by_cases c3:kind<3
 ·simp! only[aa,decide_eq_false c0,decide_eq_true c3,tupW]
  exact av ⟨.go x,rfl,⟨x0,x1⟩,K13.kn⟩
 by_cases c7:kind=7
 ·simp! only[aa,decide_eq_false c0,decide_eq_false c3,decide_eq_true c7,tupW,aJ]
  refine bB K13.re (by decide) (by decide) fun n h4 n0 n1 K4=>?_
  have K14:=K13.trans K4
  have gl: ∀ {α:Type} (q:M α),gd ((intsW 0 (1+n).toNat).length<=sizeLine) q=q:=fun q=>ap (by rw[cG];exact sz (by omega))
  simp! only[aa,iC (show (-(2 ^ 62):Int)<=1+n by omega) (show 1+n<2 ^ 62 by omega),gl]
  refine cC (I:=fun i a h'=> ∃ts:List Int,a=ts.map W.int/\ts.length=i/\(∀t∈ts,0<=t/\t<m)/\Kp j h h') ⟨[],rfl,rfl,fun t ht=>absurd ht List.not_mem_nil,K14⟩ du (fun _ _ _ _=>trivial) (fun i w a h' hw I=>?_) fun a h' I=>?_
  ·obtain⟨ts,rfl,rfl,q,K5⟩:=I
   refine⟨_,rfl,?_⟩
   simp! only[List.replicate,List.cons_append,List.nil_append,aa]
   refine Ok.imp (ng K5.re hm hz') fun w h6 qz=>?_
   obtain⟨v,e,v0,v1,K6⟩:=qz
   refine⟨ts++[v],by rw[e,List.map_append];rfl,by simp,fun t ht=>?_,K5.trans K6⟩
   rcases List.mem_append.mp ht with ht|ht
   ·exact q t ht
   ·rw[List.mem_singleton.mp ht];exact⟨v0,v1⟩
  ·obtain⟨ts,rfl,e,q,K5⟩:=I
   rw[cG] at e
   simp! only[aa,gy,tupW]
   exact av ⟨.table (.tup [.str "box",.str "a"]) ts,rfl,⟨by omega,q,pd2s j2 my⟩,K5.kn⟩
 ·by_cases c6:kind=6
  ·simp! only[aa,decide_eq_false c0,decide_eq_false c3,decide_eq_false c7,decide_eq_true c6,tupW]
   refine bB K13.re (by decide) (by decide) fun v h4 v0 v1 K4=>?_
   obtain⟨s,es,sk⟩:=sg2 v0 v1
   simp! only[aa,eZ es]
   refine bB K4.re (by decide) (by decide) fun n h5 n0 n1 K5=>?_
   simp! only[aa,tupW]
   exact av ⟨.iff s (.tup [.str "box",.str "a"]) (.tup [.str "number",.int n]) x x,rfl,⟨⟨x0,x1⟩,⟨x0,x1⟩,pd2s j2 my,pd2i gH,sk⟩,((K13.trans K4).trans K5).kn⟩
  ·simp! only[aa,decide_eq_false c0,decide_eq_false c3,decide_eq_false c7,decide_eq_false c6,tupW]
   refine bB K13.re (by decide) (by decide) fun v h4 v0 v1 K4=>?_
   obtain⟨s,es,sk⟩:=sg2 v0 v1
   simp! only[aa,eZ es]
   refine bB K4.re (by decide) (by decide) fun n h5 n0 n1 K5=>?_
   simp! only[aa,tupW]
   exact av ⟨.iff s (.tup [.str "box",.str "a"]) (.tup [.str "number",.int n]) x y,rfl,⟨⟨x0,x1⟩,⟨y0,y1⟩,pd2s j2 my,pd2i gH,sk⟩,((K13.trans K4).trans K5).kn⟩
end
set_option maxHeartbeats 1000000
section
section
variable {β:Type}{h:List Ob}{k:W->M β}{Q:β->List Ob->Prop}{j:Nat}{l:List W}
end
theorem addT (a:W)(l m:List W)(h:l.length+m.length<=100):addW (.tup (a::l)) (.tup m)=pr (.tup (a::(l++m))):=by
 show gd ((a::l).isEmpty=false/\(a::l).length+m.length<=sizeLine) (pr (W.tup ((a::l)++m)))=_
 rw[ap ⟨rfl,sz (by rw[List.length_cons];omega)⟩];rfl
theorem slos {os:List Int}(h:1<=os.length):slW (.tup (os.map W.int)) (some 1) none=pr (.tup (os.tail.map W.int)):=by
 show gd (¬(HT.sIx (os.map W.int).length 0 (some 1)=0/\HT.sIx (os.map W.int).length (os.map W.int).length none=(os.map W.int).length)) (pr (W.tup (cutW (os.map W.int) (some 1) none)))=_
 have s1:HT.sIx (os.map W.int).length 0 (some 1)=1:=by
  show (if (1:Int)<0 then ((1:Int)+((os.map W.int).length:Int)).toNat else min (1:Int).toNat (os.map W.int).length)=1
  rw[if_neg (by decide),List.length_map]
  show min 1 os.length=1
  omega
 rw[ap (by rw[s1];omega)]
 congr 2
 unfold cutW
 rw[s1,show HT.sIx (os.map W.int).length (os.map W.int).length none=(os.map W.int).length from rfl]
 cases os with
 |nil=>rfl
 |cons a os=>
  rw[List.map_cons,List.drop_one,List.tail_cons,List.tail_cons,List.length_cons,Nat.add_sub_cancel,List.take_length]
end
set_option maxHeartbeats 1000000
section
theorem vX:decide (("if":Str)= "go")=false:=by decide+kernel
theorem wm:decide (("go":Str)= "if")=false:=by decide+kernel
theorem vY:decide (("go":Str)= "table")=false:=by decide+kernel
theorem vW:decide (("if":Str)= "table")=false:=by decide+kernel
theorem vS:decide (("table":Str)= "go")=false:=by decide+kernel
theorem vR:decide (("table":Str)= "if")=false:=by decide+kernel
theorem vU:decide (("stop":Str)= "go")=false:=by decide+kernel
theorem vT:decide (("stop":Str)= "if")=false:=by decide+kernel
theorem um:decide (("stop":Str)= "table")=false:=by decide+kernel
noncomputable def E17.tos:E17->List Int
 |.go t=>[t]
 |.iff _ _ _ x y=>[x,y]
 |.table _ ts=>ts
 |.stop=>[]
noncomputable def E17.tab:E17->Bool
 |.table _ _=>true
 |_=>false
theorem E17.Good.six {m:Int}{e:E17}(g:e.Good m):e.tos.length<=6:=by
 cases e with
 |go t=>show ([t]:List Int).length<=6;simp
 |iff s a b x y=>show ([x,y]:List Int).length<=6;simp
 |table e ts=>exact g.1
 |stop=>exact Nat.zero_le _
structure B23 where
 nm:Str
 s:List W
 e:E17
def B23.w (b:B23):W:=.tup [.str b.nm,.tl b.s,b.e.w]
noncomputable abbrev Way:=Int×Int×Int
def wayW (w:Way):W:=.tup [.int w.1,.int w.2.1,.int w.2.2]
def cZ (k:Int)(ts:List Int):List Way:=ts.zipIdx.map fun p=>(k,(p.2:Int),p.1)
def waysL (es:List E17):List Way:=es.zipIdx.flatMap fun p=>cZ p.2 p.1.tos
theorem iz (k:Int)(ts:List Int)(t:Int):cZ k (ts++[t])=cZ k ts++[(k,(ts.length:Int),t)]:=by
 unfold cZ
 rw[List.zipIdx_append,List.map_append]
 simp
theorem gC (k:Int)(ts:List Int):(cZ k ts).length=ts.length:=by unfold cZ;simp
theorem gx (es:List E17)(e:E17):waysL (es++[e])=waysL es++cZ es.length e.tos:=by
 unfold waysL
 rw[List.zipIdx_append,List.flatMap_append]
 simp
theorem dY (es:List E17)(h:∀e∈es,e.tos.length<=6): ∀n,n<=es.length->(waysL (es.take n)).length<=6 * n
 |0,_=>by rw[List.take_zero];exact Nat.le_refl _
 |n+1,hn=>by
  have ih:=dY es h n (by omega)
  have e1:es[n]?=some es[n]:=List.getElem?_eq_getElem (by omega)
  have h6:=h _ (List.mem_of_getElem? e1)
  rw[show es.take (n+1)=es.take n++[es[n]] by rw[List.take_succ,e1];rfl,gx,List.length_append,gC]
  omega
theorem kH {es:List E17}{w:Way}(h:w∈waysL es): ∃e,es[w.1.toNat]?=some e/\0<=w.1/\w.2.2∈e.tos:=by
 unfold waysL at h
 obtain⟨⟨e,i⟩,hp,hw⟩:=List.mem_flatMap.mp h
 rw[List.mem_zipIdx_iff_getElem?] at hp
 unfold cZ at hw
 obtain⟨⟨t,n⟩,hq,rfl⟩:=List.mem_map.mp hw
 rw[List.mem_zipIdx_iff_getElem?] at hq
 exact⟨e,hp,Int.natCast_nonneg _,List.mem_of_getElem? hq⟩
structure Nw (h h':List Ob):Prop where
 le:h.length<=h'.length
 eq: ∀i,i<h.length->h'[i]?=h[i]?
theorem Nw.trans {a b c:List Ob}(x:Nw a b)(y:Nw b c):Nw a c:=⟨Nat.le_trans x.le y.le,fun i hi=>(y.eq i (Nat.lt_of_lt_of_le hi x.le)).trans (x.eq i hi)⟩
theorem Nw.get {h h':List Ob}{j:Nat}{b:Ob}(x:Nw h h')(e:h[j]?=some b):h'[j]?=some b:=(x.eq j (d9 e)).trans e
theorem Pots.nw {h h':List Ob}{ks:List Nat}(P:Pots h ks)(K:Nw h h'):Pots h' ks:=fun k hk=>by
 obtain⟨a,b,e⟩:=P k hk
 exact⟨a,b,K.get e⟩
structure Nf (h h':List Ob)(b:Ob):Prop where
 len:h'.length=h.length+1
 eq: ∀i,i<h.length->h'[i]?=h[i]?
 new:h'[h.length]?=some b
theorem Nf.put {h h':List Ob}{b:Ob}(N:Nf h h' b)(c:Ob):Nf h (h'.set h.length c) c:=
 ⟨by rw[List.length_set];exact N.len,fun i hi=>by rw[List.getElem?_set_ne (by omega)];exact N.eq i hi,gc N.new⟩
theorem Nf.mk0 {h:List Ob}{b:Ob}:Nf h (h++[b]) b:=⟨by simp,fun i hi=>by rw[List.getElem?_append_left hi],fE⟩
theorem Nf.nw {h h':List Ob}{b:Ob}(N:Nf h h' b):Nw h h':=⟨by rw[N.len];omega,N.eq⟩
theorem Nf.get {h h':List Ob}{b c:Ob}{j:Nat}(N:Nf h h' b)(e:h[j]?=some c):h'[j]?=some c:=(N.eq j (d9 e)).trans e
theorem pz (e:E17):dF [e.w]=pr (.tup (e.tos.map W.int)):=by
 have e0:dF [e.w]=bd (eD [some e.w]) finF:=rfl
 rw[e0]
 unfold eD
 cases e<;>(unfold E17.w E17.tos;simp! only[aa,ix0,ix1,ix2,ix4,ix5,vX,vS,vR,vU,vT,um,eq_self,decide_true,tupW,List.map_cons,List.map_nil])
theorem aC {α:Type}{l:List α}{i:Nat}{x:α}(h:l[i]?=some x):l.take (i+1)=l.take i++[x]:=by rw[List.take_succ,h];rfl
theorem g8 {α:Type}{l:List α}{i:Nat}{x:α}(h:l[i]?=some x):(l.take i).length=i:=by
 have:=(List.getElem?_eq_some_iff.mp h).1
 rw[List.length_take];omega
noncomputable def esOf (bs:List B23):List E17:=bs.map B23.e
def pgW (bx:W)(bs:List B23):W:=.tup [bx,.tl (bs.map B23.w)]
theorem Lw.enum {β:Type}{h:List Ob}{Q:β->List Ob->Prop}{x:W}{l:List W}{k:Sr->M β}(p:Lw h x l)(q:∀G,(∀h',Lw h' x l->G h')->Ok (k ⟨numd 0 l,G⟩) h Q):Ok (bd (enumL [x]) k) h Q:=by
 show Ok (bd (bd (srcL x) fun s=>pr ⟨numd 0 s.l,s.G⟩) k) h Q
 rw[aa]
 refine Lw.src p fun G g=>?_
 rw[aV]
 exact q G g
theorem vg {β:Type}{h:List Ob}{k:W->M β}{Q:β->List Ob->Prop}{P x:W}{bs:List B23}(hp:ixW P (.int 1)=pr x)(hx:Lw h x (bs.map B23.w))(hl:bs.length<=10)(hb: ∀b∈bs,b.e.tos.length<=6)(q:∀h',Nw h h'->Ok (k (.tl ((waysL (esOf bs)).map wayW))) h' Q):Ok (bd (iZ [P]) k) h Q:=by
 have e0:iZ [P]=bd (kh [some P,none,none,none,none,none]) finF:=rfl
 rw[e0]
 unfold kh
 have h6: ∀e∈esOf bs,e.tos.length<=6:=fun e he=>by
  obtain⟨b,hb',rfl⟩:=List.mem_map.mp he
  exact hb b hb'
 simp!
 refine gI ?_
 simp! only[aa,hp]
 refine Lw.enum (hx.keep (Nf.mk0 (h:=h) (b:=.lst [])).nw.eq) fun G hG=>?_
 simp!
 refine dz (I:=fun i ρ h'=> ∃a b c d,ρ=[some P,some (.loc h.length),a,b,c,d]/\Nf h h' (.lst ((waysL ((esOf bs).take i)).map wayW))) ⟨_,_,_,_,rfl,Nf.mk0⟩ (fun _ _ _ I=>by obtain⟨_,_,_,_,_,N⟩:=I;exact hG _ (hx.keep N.nw.eq)) (fun i w ρ h1 hw I=>?_) fun ρ h1 I=>?_
 ·obtain⟨a,b,c,d,rfl,N⟩:=I
  obtain⟨x',hx',rfl⟩:=dA _ _ _ _ hw
  rw[List.getElem?_map] at hx'
  obtain⟨b,hp',rfl⟩:=Option.map_eq_some_iff.mp hx'
  have he:(esOf bs)[i]?=some b.e:=by unfold esOf;rw[List.getElem?_map,hp'];rfl
  have t6:=h6 _ (List.mem_of_getElem? he)
  have hi:i<bs.length:=(List.getElem?_eq_some_iff.mp hp').1
  have hi':i<(esOf bs).length:=(List.getElem?_eq_some_iff.mp he).1
  have w6:=dY (esOf bs) h6 i (by omega)
  obtain⟨nm,sts,e⟩:=b
  have t6:e.tos.length<=6:=t6
  have hs:ixW (B23.w ⟨nm,sts,e⟩) (.int 2)=pr e.w:=ix2 ..
  refine⟨_,rfl,?_⟩
  simp! only[aa,hs,pz,oR]
  generalize B23.w ⟨nm,sts,e⟩=B at *
  refine j1 (I:=fun n ρ h'=> ∃c d,ρ=[some P,some (.loc h.length),some (.int (0+(i:Int))),some B,c,d]/\Nf h h' (.lst ((waysL ((esOf bs).take i)++cZ i (e.tos.take n)).map wayW))) ⟨_,_,rfl,by rw[List.take_zero];show Nf h h1 (.lst ((_++[]).map wayW));rw[List.append_nil];exact N⟩ (fun _ _ _ _=>trivial) (fun n w ρ h2 hw I=>?_) fun ρ h2 I=>?_
  ·obtain⟨c,d,rfl,N2⟩:=I
   obtain⟨y,hy,rfl⟩:=dA _ _ _ _ hw
   rw[List.getElem?_map] at hy
   obtain⟨t,ht,rfl⟩:=Option.map_eq_some_iff.mp hy
   have hn:n<e.tos.length:=(List.getElem?_eq_some_iff.mp ht).1
   refine⟨_,rfl,?_⟩
   simp!
   refine iK N2.new ?_
   simp!
   refine j3 N2.new (by
    rw[List.length_map,List.length_append,gC,List.length_take]
    exact Nat.lt_of_le_of_lt (show _<=66 by omega) (by decide)) ?_
   simp!
   refine av ⟨_,rfl,_,_,rfl,?_⟩
   rw[aC ht,iz,g8 ht,<-List.append_assoc]
   generalize waysL ((esOf bs).take i)++cZ i (e.tos.take n)=A at *
   rw[show (A++[((i:Int),(n:Int),t)]).map wayW=A.map wayW++[.tup [.int (0+(i:Int)),.int (0+(n:Int)),.int t]] by rw[List.map_append,Int.zero_add,Int.zero_add];rfl]
   exact N2.put _
  ·obtain⟨c,d,rfl,N2⟩:=I
   rw[cT,List.length_map,List.take_length] at N2
   refine⟨_,rfl,_,_,_,_,rfl,?_⟩
   rw[aC he,gx,g8 he]
   exact N2
 ·obtain⟨a,b,c,d,rfl,N⟩:=I
  rw[cT,List.length_map,show bs.length=(esOf bs).length by unfold esOf;rw[List.length_map],List.take_length] at N
  simp!
  refine j0 N.new ?_
  simp!
  exact q _ (N.put .gone).nw
section
variable {β:Type}{h:List Ob}{Q:β->List Ob->Prop}{j:Nat}
theorem uX {l mm:List W}{k:W->M β}(e:h[j]?=some (.lst l))(hz:l.length+mm.length<=sizeLine)(q:Ok (k .non) (h.set j (.lst (l++mm))) Q):Ok (bd (gu (.loc j) [.tl mm]) k) h Q:=by
 refine bf (a:=.non) (h':=h.set j (.lst (l++mm))) ?_ q
 unfold gu
 dsimp only
 rw[eU (show lstO (.tl mm) h=.ok mm h from rfl)]
 simp only[e,if_pos hz]
end
def bX:Env'->M Fl:=(sEx (mMeth isL gu (mVar 1) (mCons (mTl (mComp [] (mSrcA (mCons (mVar 6) mNil) enumL) (tgT [0,1]) mYes (mTup (mCons (mVar 5) (mCons (mVar 0) (mCons (mVar 1) mNil)))) 3)) mNil)))
theorem iF:eE=(sSeq (sSet 1 (mNew (lenG mNil))) (sSeq (sFor (mSrcA (mCons (mVar 0) mNil) enumL) (tgG [(tgN 2),(tgT [3,4,5])]) (sSeq (sSet 6 (mTl (lenG mNil))) (sSeq (sIf (mB (m2 eqW (m2 ixW (mVar 5) (mC (.int 0))) (mC (.str "go")))) (sSet 6 (mTl (lenG (mCons (m2 ixW (mVar 5) (mC (.int 1))) mNil)))) sNil) (sSeq (sIf (mB (m2 eqW (m2 ixW (mVar 5) (mC (.int 0))) (mC (.str "if")))) (sSet 6 (mTl (lenG (mCons (m2 ixW (mVar 5) (mC (.int 4))) (mCons (m2 ixW (mVar 5) (mC (.int 5))) mNil))))) sNil) (sSeq (sIf (mB (m2 eqW (m2 ixW (mVar 5) (mC (.int 0))) (mC (.str "table")))) (sSet 6 (mTl (listL (mCons (m2 ixW (mVar 5) (mC (.int 2))) mNil)))) sNil) bX))))) (sRet (m1 iceW (mVar 1))))):=rfl
theorem nB {β:Type}{h:List Ob}{k:W->M β}{Q:β->List Ob->Prop}{X:W}{bs:List B23}(hX:Lw h X (bs.map B23.w))(hl:bs.length<=10)(hb: ∀b∈bs,b.e.tos.length<=6)(q:∀h',Nw h h'->Ok (k (.tl ((waysL (esOf bs)).map wayW))) h' Q):Ok (bd (cu [X]) k) h Q:=by
 have e0:cu [X]=bd (eE [some X,none,none,none,none,none,none]) finF:=rfl
 rw[e0]
 rw[iF]
 have h6: ∀e∈esOf bs,e.tos.length<=6:=fun e he=>by
  obtain⟨b,hb',rfl⟩:=List.mem_map.mp he
  exact hb b hb'
 simp!
 refine gI ?_
 simp!
 refine Lw.enum (hX.keep (Nf.mk0 (h:=h) (b:=.lst [])).nw.eq) fun G hG=>?_
 simp!
 refine dz (I:=fun i ρ h'=> ∃a b c d e,ρ=[some X,some (.loc h.length),a,b,c,d,e]/\Nf h h' (.lst ((waysL ((esOf bs).take i)).map wayW))) ⟨_,_,_,_,_,rfl,Nf.mk0⟩ (fun _ _ _ I=>by obtain⟨_,_,_,_,_,_,N⟩:=I;exact hG _ (hX.keep N.nw.eq)) (fun i w ρ h1 hw I=>?_) fun ρ h1 I=>?_
 ·obtain⟨a,b,c,d,f,rfl,N⟩:=I
  obtain⟨x,hx,rfl⟩:=dA _ _ _ _ hw
  rw[List.getElem?_map] at hx
  obtain⟨b,hp,rfl⟩:=Option.map_eq_some_iff.mp hx
  have he:(esOf bs)[i]?=some b.e:=by unfold esOf;rw[List.getElem?_map,hp];rfl
  have t6:=h6 _ (List.mem_of_getElem? he)
  have hi:i<bs.length:=(List.getElem?_eq_some_iff.mp hp).1
  have hi':i<(esOf bs).length:=(List.getElem?_eq_some_iff.mp he).1
  have w6:=dY (esOf bs) h6 i (by omega)
  obtain⟨nm,sts,e⟩:=b
  have t6:e.tos.length<=6:=t6
  refine⟨[some X,some (.loc h.length),some (.int (0+(i:Int))),some (.str nm),some (.tl sts),some e.w,f],rfl,?_⟩
  have fin: ∀ {Q:Fl->List Ob->Prop},(∀h2,Nf h h2 (.lst ((waysL ((esOf bs).take (i+1))).map wayW))->Q (.nx [some X,some (.loc h.length),some (.int (0+(i:Int))),some (.str nm),some (.tl sts),some e.w,some (.tl (e.tos.map W.int))]) h2)->Ok (bX [some X,some (.loc h.length),some (.int (0+(i:Int))),some (.str nm),some (.tl sts),some e.w,some (.tl (e.tos.map W.int))]) h1 Q:=by
   intro Q q2
   unfold bX
   have gl: ∀ {α:Type} (q:M α),gd ((numd 0 (e.tos.map W.int)).length<=sizeLine) q=q:=fun q=>ap (by rw[cT,List.length_map];exact sz (by omega))
   simp!
   refine iK N.new ?_
   simp! only[aa,qZ,gl]
   refine cC (I:=fun n a h'=>h'=h1/\a=(cZ i (e.tos.take n)).map wayW) ⟨rfl,rfl⟩ du (fun _ _ _ _=>trivial) (fun n w a h' hw I=>?_) fun a h' I=>?_
   ·obtain⟨rfl,rfl⟩:=I
    obtain⟨y,hy,rfl⟩:=dA _ _ _ _ hw
    rw[List.getElem?_map] at hy
    obtain⟨t,ht,rfl⟩:=Option.map_eq_some_iff.mp hy
    refine⟨_,rfl,?_⟩
    simp! only[List.replicate,List.cons_append,List.nil_append,aa]
    refine av ⟨rfl,?_⟩
    rw[aC ht,iz,g8 ht,List.map_append,Int.zero_add,Int.zero_add]
    rfl
   ·obtain⟨rfl,rfl⟩:=I
    rw[cT,List.length_map,List.take_length]
    simp!
    refine uX N.new (mm:=(cZ i e.tos).map wayW) (by rw[List.length_map,List.length_map,gC];exact sz (by omega)) ?_
    simp!
    refine av (q2 _ ?_)
    rw[aC he,gx,g8 he,List.map_append]
    exact N.put _
  cases e with
  |go t=>
   unfold E17.w
   simp! only[aa,ix0,ix1,wm,vY]
   exact fin fun h2 N2=>⟨_,rfl,_,_,_,_,_,rfl,N2⟩
  |iff s a b x y=>
   unfold E17.w
   simp! only[aa,ix0,ix4,ix5,vX,vW]
   exact fin fun h2 N2=>⟨_,rfl,_,_,_,_,_,rfl,N2⟩
  |table e ts=>
   unfold E17.w
   simp! only[aa,ix0,ix2,vS,vR]
   exact fin fun h2 N2=>⟨_,rfl,_,_,_,_,_,rfl,N2⟩
  |stop=>
   unfold E17.w
   simp! only[aa,ix0,vU,vT,um]
   exact fin fun h2 N2=>⟨_,rfl,_,_,_,_,_,rfl,N2⟩
 ·obtain⟨a,b,c,d,e,rfl,N⟩:=I
  rw[cT,List.length_map,show bs.length=(esOf bs).length by unfold esOf;rw[List.length_map],List.take_length] at N
  simp!
  refine j0 N.new ?_
  simp!
  exact q _ (N.put .gone).nw
end
set_option maxHeartbeats 1000000
section
theorem nV {κ:Type} [DecidableEq κ] (x x':κ)(y:W): ∀ (ks:List κ) (ws:List W),ks.length=ws.length->atK ks (mapAt ks ws x y) x'=if x=x' then (if (ks.any fun k=>decide (k=x))=true then some y else none) else atK ks ws x'
 |[],ws,_=>by
  unfold atK
  split<;>rfl
 |k::ks,[],h=>by cases h
 |k::ks,w::ws,h=>by
  have ih:=nV x x' y ks ws (Nat.succ.inj h)
  rw[mapAt,atK,atK,ih,List.any_cons]
  by_cases e:x=x'
  ·subst e
   by_cases e2:k=x
   ·simp [e2]
   ·simp [e2]
  ·by_cases e2:k=x'
   ·have:k≠x:=fun z=>e (z.symm.trans e2)
    simp [e,e2,this]
    intro z;exact absurd z.symm e
   ·simp [e,e2]
theorem nW {κ:Type} [DecidableEq κ] (x x':κ)(y:W): ∀ (ks:List κ) (ws:List W),ks.length=ws.length->(ks.any fun k=>decide (k=x))=false->atK (ks++[x]) (ws++[y]) x'=if x=x' then some y else atK ks ws x'
 |[],[],_,_=>by simp [atK]
 |[],_::_,h,_=>by cases h
 |k::ks,[],h,_=>by cases h
 |k::ks,w::ws,h,a=>by
  rw[List.any_cons,Bool.or_eq_false_iff] at a
  have ih:=nW x x' y ks ws (Nat.succ.inj h) a.2
  rw[List.cons_append,List.cons_append,atK,atK,ih]
  have e2:k≠x:=of_decide_eq_false a.1
  by_cases e:k=x'
  ·have:x≠x':=fun z=>e2 (e.trans z.symm)
   simp [e,this]
  ·simp [e]
theorem jA {κ:Type} [DecidableEq κ] (x:κ)(y:W): ∀ (ks:List κ) (ws:List W),ks.length=ws.length->(mapAt ks ws x y).length=ws.length
 |[],ws,h=>h
 |k::ks,[],h=>by cases h
 |k::ks,w::ws,h=>by rw[mapAt,List.length_cons,List.length_cons,jA x y ks ws (Nat.succ.inj h)]
theorem kz {κ:Type} [DecidableEq κ] {x:κ}{y:W}{ks ks':List κ}{ws ws':List W}(h:ks.length=ws.length)(e:putW ks ws x y=(ks',ws')):ks'.length=ws'.length/\ks'.length<=ks.length+1/\ ∀x',atK ks' ws' x'=if x=x' then some y else atK ks ws x':=by
 unfold putW at e
 by_cases a:(ks.any fun k=>decide (k=x))=true
 ·rw[if_pos a] at e
  cases e
  refine⟨by rw[jA x y ks ws h];exact h,Nat.le_succ _,fun x'=>?_⟩
  rw[nV x x' y ks ws h,if_pos a]
 ·rw[if_neg a] at e
  cases e
  refine⟨by rw[List.length_append,List.length_append,h];rfl,by rw[List.length_append];exact Nat.le_refl _,fun x'=>?_⟩
  exact nW x x' y ks ws h (by rw[<-Bool.not_eq_true];exact a)
section
variable {β:Type}{h:List Ob}{Q:β->List Ob->Prop}{j:Nat}
theorem lx {k:W->M β}{ρ:Env'}(q:Ok (k (.loc h.length)) (h++[.dit [] []]) Q):Ok (bd (j9 ρ) k) h Q:=bf (a:=.loc h.length) (h':=h++[.dit [] []]) rfl q
theorem hU {ks:List (List Key)}{ws:List W}{k:W->M β}(e:h[j]?=some (.dit ks ws))(q:Ok (k (.loc j)) h Q):Ok (bd (isDT (.loc j)) k) h Q:=by
 refine bf (a:=.loc j) (h':=h) ?_ q
 have:ditOf (.loc j) h=some (ks,ws):=by unfold ditOf;simp only[e]
 unfold isDT
 rw[this]
theorem ij {ks:List (List Key)}{ws:List W}{y d:W}{q:List Key}(e:h[j]?=some (.dit ks ws))(ek:keyT y=some q):getT (.loc j) y d h=.ok ((atK ks ws q).getD d) h:=by
 have:ditOf (.loc j) h=some (ks,ws):=by unfold ditOf;simp only[e]
 unfold getT
 simp only[this,ek]
theorem p8 {ks ks':List (List Key)}{ws ws':List W}{q:List Key}{v:W}{k:Unit->M β}(e:h[j]?=some (.dit ks ws))(hz:ks.length<sizeLine)(e2:putW ks ws q v=(ks',ws'))(r:Ok (k ()) (h.set j (.dit ks' ws')) Q):Ok (bd (gz (.loc j) (.kt q) v) k) h Q:=by
 refine bf (a:=()) (h':=h.set j (.dit ks' ws')) ?_ r
 unfold gz
 simp only[e,if_pos hz,e2]
end
structure Nd (h h':List Ob)(j:Nat)(b:Ob):Prop where
 nw:Nw h h'
 ge:h.length<=j
 new:h'[j]?=some b
theorem Nd.put {h h':List Ob}{j:Nat}{b:Ob}(N:Nd h h' j b)(c:Ob):Nd h (h'.set j c) j c:=
 ⟨⟨by rw[List.length_set];exact N.nw.le,fun i hi=>by rw[List.getElem?_set_ne (by have:=N.ge;omega)];exact N.nw.eq i hi⟩,N.ge,gc N.new⟩
theorem Nd.more {h h' h2:List Ob}{j:Nat}{b:Ob}(N:Nd h h' j b)(K:Nw h' h2):Nd h h2 j b:=⟨N.nw.trans K,N.ge,K.get N.new⟩
theorem Nd.mk0 {h:List Ob}{b:Ob}:Nd h (h++[b]) h.length b:=⟨Nf.mk0.nw,Nat.le_refl _,fE⟩
noncomputable abbrev Zw:=Bool×Int×Int×Int
def tabOf (es:List E17)(a:Int):Bool:=match es[a.toNat]? with
 |some e=>e.tab
 |none=>false
def zsL (es:List E17)(cs:List Int):List Zw:=List.zipWith (fun (w:Way) c=>(tabOf es w.1,w.1,w.2.2,c)) (waysL es) cs
def gsum (zs:List Zw)(a b:Int):Int:=(zs.map fun z=>if z.1=false/\z.2.1=a/\z.2.2.1=b then z.2.2.2 else 0).sum
theorem fD (zs:List Zw)(z:Zw)(a b:Int):gsum (zs++[z]) a b=gsum zs a b+if z.1=false/\z.2.1=a/\z.2.2.1=b then z.2.2.2 else 0:=by
 unfold gsum
 rw[List.map_append,List.sum_append]
 simp
noncomputable def E17.kind:E17->Str
 |.go _=> "go"
 |.iff _ _ _ _ _=> "if"
 |.table _ _=> "table"
 |.stop=> "stop"
theorem nC (e:E17):ixW e.w (.int 0)=pr (.str e.kind):=by cases e<;>exact ix0 ..
theorem lK (e:E17):decide (e.kind= "table")=e.tab:=by
 cases e with
 |go _=>exact vY
 |iff _ _ _ _ _=>exact vW
 |table _ _=>exact decide_eq_true rfl
 |stop=>exact um
theorem qN (b:B23):ixW b.w (.int 2)=pr b.e.w:=ix2 ..
theorem qV {bs:List B23}{i:Nat}{e:E17}(h:(esOf bs)[i]?=some e): ∃b,bs[i]?=some b/\b.e=e:=by
 unfold esOf at h
 rw[List.getElem?_map] at h
 obtain⟨b,h1,h2⟩:=Option.map_eq_some_iff.mp h
 exact⟨b,h1,h2⟩
theorem mT (a b:List W):srcZ false false [.tl a,.tl b]=pr ⟨zipW a b,fun _=>True/\True⟩:=rfl
theorem kt2 (a b:Int):ktW [.int a,.int b]=pr (.kt [.inl a,.inl b]):=by
 show gd (([.int a,.int b]:List W).length<=sizeLine) (pr (W.kt [.inl a,.inl b]))=_
 exact ap (show 2<=sizeLine by decide)
structure GK (ks:List (List Key))(ws:List W)(G:Int->Int->Int):Prop where
 len:ks.length=ws.length
 get: ∀a b,(atK ks ws [.inl a,.inl b]).getD (.int 0)=.int (G a b)
theorem o3 {es:List E17}{cs:List Int}{i:Nat}{w:Way}{c:Int}(h1:(waysL es)[i]?=some w)(h2:cs[i]?=some c):(zsL es cs)[i]?=some (tabOf es w.1,w.1,w.2.2,c):=by
 unfold zsL
 rw[List.getElem?_zipWith,h1,h2]
theorem kF {es:List E17}{cs:List Int}{i:Nat}{x:W}(e:(zipW ((waysL es).map wayW) (cs.map W.int))[i]?=some x): ∃w c,(waysL es)[i]?=some w/\cs[i]?=some c/\x=.tup [wayW w,.int c]:=by
 obtain⟨x,y,hx,hy,rfl⟩:=kG e
 rw[List.getElem?_map] at hx hy
 obtain⟨w,hw,rfl⟩:=Option.map_eq_some_iff.mp hx
 obtain⟨c,hc,rfl⟩:=Option.map_eq_some_iff.mp hy
 exact⟨w,c,hw,hc,rfl⟩
theorem mP {α β:Type}(f:α->W)(g:β->W)(l:List α)(m:List β)(h:l.length=m.length):(zipW (l.map f) (m.map g)).length=m.length:=by
 unfold zipW
 rw[List.length_zipWith,List.length_map,List.length_map,h,Nat.min_self]
theorem oZ {es:List E17}{cs:List Int}(h:(waysL es).length=cs.length):(zsL es cs).length=cs.length:=by
 unfold zsL
 rw[List.length_zipWith,h,Nat.min_self]
theorem qU {h:List Ob}{P x:W}{bs:List B23}{cs:List Int}(hp:ixW P (.int 1)=pr x)(hx:Lw h x (bs.map B23.w))(hl:bs.length<=10)(hb: ∀b∈bs,b.e.tos.length<=6)(hc:(waysL (esOf bs)).length=cs.length):
  Ok (fI [P,.tl (cs.map W.int)]) h fun w h'=> ∃j ks ws,w=.loc j/\Nd h h' j (.dit ks ws)/\GK ks ws (gsum (zsL (esOf bs) cs)):=by
 have e0:fI [P,.tl (cs.map W.int)]=bd (im [some (P),some (.tl (cs.map W.int)),none,none,none,none,none]) finF:=rfl
 rw[e0]
 unfold im
 have lc:cs.length<=60:=by
  have h6: ∀e∈esOf bs,e.tos.length<=6:=fun e he=>by
   obtain⟨b,hb',rfl⟩:=List.mem_map.mp he
   exact hb b hb'
  have l2:(esOf bs).length=bs.length:=by unfold esOf;rw[List.length_map]
  have:=dY (esOf bs) h6 (esOf bs).length (Nat.le_refl _)
  rw[List.take_length] at this
  omega
 simp!
 refine lx ?_
 simp!
 refine vg hp (hx.keep (Nf.mk0 (h:=h) (b:=.dit [] [])).nw.eq) hl hb fun h1 N1=>?_
 have D1:=(Nd.mk0 (h:=h) (b:=.dit [] [])).more N1
 simp! only[aa,mT]
 refine dz (I:=fun i ρ h'=> ∃a b c d ks ws,ρ=[some P,some (.tl (cs.map W.int)),some (.loc h.length),a,b,c,d]/\Nd h h' h.length (.dit ks ws)/\GK ks ws (gsum ((zsL (esOf bs) cs).take i))/\ks.length<=i) ⟨_,_,_,_,[],[],rfl,D1,⟨rfl,fun a b=>rfl⟩,Nat.le_refl _⟩ (fun _ _ _ _=>⟨trivial,trivial⟩) (fun i y ρ h2 hy I=>?_) fun ρ h2 I=>?_
 ·obtain⟨a,b,c,d,ks,ws,rfl,D,G,lk⟩:=I
  obtain⟨w,n,hw,hn,rfl⟩:=kF hy
  have hi:i<cs.length:=(List.getElem?_eq_some_iff.mp hn).1
  obtain⟨e,he,w0,_⟩:=kH (List.mem_of_getElem? hw)
  have hz:=o3 hw hn
  have ht:tabOf (esOf bs) w.1=e.tab:=by unfold tabOf;rw[he]
  rw[ht] at hz
  obtain⟨b',hb',rfl⟩:=qV he
  obtain⟨wa,wn,wt⟩:=w
  refine⟨[some P,some (.tl (cs.map W.int)),some (.loc h.length),some (wayW (wa,wn,wt)),some (.int n),c,d],rfl,?_⟩
  unfold wayW
  have w0:0<=wa:=w0
  have hb':bs[wa.toNat]?=some b':=hb'
  simp! only[aa,hp,ix0,ix2]
  refine (hx.keep D.nw.eq).ix (w:=b'.w) (dl w0 (by rw[List.getElem?_map,hb'];rfl)) ?_
  simp! only[aa,qN,ix2,nC,lK]
  rw[aC hz]
  cases et:b'.e.tab with
  |true=>
   simp!
   refine av ⟨_,rfl,_,_,_,_,ks,ws,rfl,D,⟨G.len,fun a b=>?_⟩,Nat.le_succ_of_le lk⟩
   rw[G.get,fD,if_neg (by simp),Int.add_zero]
  |false=>
   simp! only[aa,mKt,kt2,mGetT]
   refine hU D.new ?_
   simp!
   refine bf (ij D.new rfl) ?_
   rw[G.get wa wt]
   simp!
   rcases ep:putW ks ws [.inl wa,.inl wt] (.int (gsum ((zsL (esOf bs) cs).take i) wa wt+n)) with⟨ks',ws'⟩
   obtain⟨l1,l2,g⟩:=kz G.len ep
   refine p8 D.new (Nat.lt_of_le_of_lt (show _<=60 by omega) (by decide)) ep ?_
   simp!
   refine av ⟨_,rfl,_,_,_,_,ks',ws',rfl,D.put _,⟨l1,fun a b=>?_⟩,by omega⟩
   rw[g,fD]
   by_cases q:wa=a/\wt=b
   ·rw[if_pos (by rw[q.1,q.2]),if_pos ⟨rfl,q⟩,q.1,q.2];rfl
   ·rw[if_neg (fun z=>q ⟨by injection z with z1 z2;exact Sum.inl.inj z1,by injection z with z1 z2;injection z2 with z3 z4;exact Sum.inl.inj z3⟩),if_neg (fun z=>q z.2),Int.add_zero]
    exact G.get a b
 ·obtain⟨a,b,c,d,ks,ws,rfl,D,G,lk⟩:=I
  rw[mP _ _ _ _ hc,<-oZ hc,List.take_length] at G
  simp!
  exact av ⟨_,ks,ws,rfl,D,G⟩
end
set_option maxHeartbeats 1000000
section
theorem wd {k:Nat}(hk:k<10): ∃s:Str,ixW (.str "abcdefghij") (.int (0+(k:Int)))=pr (.str s)/\addW (.str "n") (.str s)=pr (.str ("n"++s))/\PyData.strOk ("n"++s)=true:=by
 have:k=0\/k=1\/k=2\/k=3\/k=4\/k=5\/k=6\/k=7\/k=8\/k=9:=by omega
 rcases this with rfl|rfl|rfl|rfl|rfl|rfl|rfl|rfl|rfl|rfl<;>exact⟨_,sT (by decide+kernel) rfl,rH (by decide+kernel),by decide+kernel⟩
theorem jU (ts:List Int){n:Nat}: ∀x∈ts.map W.int,Pd (n+1) x:=fun x hx=>by
 obtain⟨t,_,rfl⟩:=List.mem_map.mp hx
 exact .int
structure Ky (ks:List Nat)(h h':List Ob):Prop where
 le:h.length<=h'.length
 eq: ∀i,i<h.length->i ∉ ks->h'[i]?=h[i]?
 re:Pots h' ks
theorem Ky.trans {ks:List Nat}{a b c:List Ob}(x:Ky ks a b)(y:Ky ks b c):Ky ks a c:=⟨Nat.le_trans x.le y.le,fun i hi hj=>(y.eq i (Nat.lt_of_lt_of_le hi x.le) hj).trans (x.eq i hi hj),y.re⟩
theorem Ky.of_kn {ks:List Nat}{a b:List Ob}{j:Nat}(P:Pots a ks)(x:Kn j a b)(hj:j∈ks):Ky ks a b:=⟨x.le,fun i hi n=>x.eq i hi fun z=>n (z▸hj),P.kn x⟩
theorem Ky.of_nw {ks:List Nat}{a b:List Ob}(P:Pots a ks)(x:Nw a b):Ky ks a b:=⟨x.le,fun i hi _=>x.eq i hi,P.nw x⟩
theorem kg {ks:List Nat}{i:Int}(h0:0<=i)(h1:i<(ks.length:Int)): ∃k∈ks,ixW (.tl (ks.map W.loc)) (.int i)=pr (.loc k):=by
 have hi:i.toNat<ks.length:=by omega
 exact⟨ks[i.toNat],List.getElem_mem _,eZ (dl h0 (by rw[List.getElem?_map,List.getElem?_eq_getElem hi];rfl))⟩
theorem oP {w:W}(hv: ∀a,vOf w=some a->scal a a=false)(p:Pd 50 w):eqW w w=pr (.bl true):=ko fun h=>by
 obtain⟨d,e,c⟩:=p.data (h:=h)
 have:(match dataH h 50 w,dataH h 50 w with
  |some d,some e=>if d.canLay0=true/\e.canLay0=true then some (PyData.eqv d e) else none
  |_,_=>none)=some true:=by
  rw[e]
  show (if d.canLay0=true/\d.canLay0=true then some (PyData.eqv d d) else none)=_
  rw[if_pos ⟨c,c⟩,lO d c]
 unfold eqB
 cases v:vOf w with
 |none=>exact this
 |some a=>
  show (if scal a a=true then _ else _)=_
  rw[if_neg (by rw[hv a v];simp)];exact this
section
variable {β:Type}{h:List Ob}{Q:β->List Ob->Prop}{j:Nat}
end
end
set_option maxHeartbeats 1000000
section
theorem wb:PyData.strOk "if"=true:=by decide+kernel
theorem wc:PyData.strOk "go"=true:=by decide+kernel
theorem p7:PyData.strOk "table"=true:=by decide+kernel
theorem sB:PyData.strOk "stop"=true:=by decide+kernel
theorem uU:PyData.strOk "say"=true:=by decide+kernel
theorem qf:PyData.strOk "ask"=true:=by decide+kernel
theorem uV:PyData.strOk "put"=true:=by decide+kernel
theorem E17.Good.pd {m:Int}{e:E17}(g:e.Good m):Pd 10 e.w:=by
 cases e with
 |go t=>exact pdT (by simp) (aI (.str wc) (aI .int da))
 |iff s a b x y=>exact pdT (by simp) (aI (.str wb) (aI (.str g.2.2.2.2) (aI (g.2.2.1.up (by decide)) (aI (g.2.2.2.1.up (by decide)) (aI .int (aI .int da))))))
 |table e ts=>exact pdT (by simp) (aI (.str p7) (aI (g.2.2.up (by decide)) (aI (pdT (by rw[List.length_map];have:=g.1;omega) (jU ts (n:=7))) da)))
 |stop=>exact pdT (by simp) (aI (.str sB) da)
structure BG (m:Int)(b:B23):Prop where
 g:b.e.Good m
 pd:Pd 12 b.w
theorem BG.mk' {m:Int}{nm:Str}{sts:List W}{e:E17}(g:e.Good m)(hn:PyData.strOk nm=true)(hs:sts.length<=8)(hp: ∀x∈sts,Pd 9 x):BG m ⟨nm,sts,e⟩:=
 ⟨g,pdT (by simp) (aI (.str hn) (aI (.lst (Nat.le_trans hs (by decide)) fun x hx=>(hp x hx).up (by decide)) (aI (g.pd.up (by decide)) da)))⟩
def stsW:List W:=[.tl [],.tl [.tup [.str "say",.tup [.str "box",.str "a"]]],.tl [.tup [.str "ask",.str "a"]],.tl [.tup [.str "put",.str "a",.tup [.str "number",.int 7]],.tup [.str "ask",.str "a"]]]
theorem ui {v:Int}(h0:0<=v)(h1:v<4): ∃sts:List W,atI stsW v=some (.tl sts)/\sts.length<=8/\ ∀x∈sts,Pd 9 x:=by
 have:v=0\/v=1\/v=2\/v=3:=by omega
 rcases this with rfl|rfl|rfl|rfl
 ·exact⟨_,rfl,by simp,da⟩
 ·exact⟨_,rfl,by simp,aI (pdT (by simp) (aI (.str uU) (aI (pd2s j2 my) da))) da⟩
 ·exact⟨_,rfl,by simp,aI (pd2s qf my) da⟩
 ·exact⟨_,rfl,by simp,aI (pdT (by simp) (aI (.str uV) (aI (.str my) (aI (pd2i gH) da)))) (aI (pd2s qf my) da)⟩
noncomputable def bxW:W:=.tl [.tup [.str "a",.int 3]]
def bP:Env'->M Fl:=(sEx (mMeth isL cS (mVar 3) (mCons (mTup (mCons (m2 addW (mC (.str "n")) (m2 ixW (mC (.str "abcdefghij")) (mVar 4))) (mCons (mTl (listL (mCons (m2 ixW (mVar 2) (mCall (arW 2 aq) (mCons (mVar 0) (mCons (mC (.int 4)) mNil)))) mNil))) (mCons (mCall (arW 2 dq) (mCons (mVar 0) (mCons (mVar 1) mNil))) mNil)))) mNil)))
theorem gh:cR=(sSeq (sSet 2 (mTl (lenG (mCons (mTl (lenG mNil)) (mCons (mTl (lenG (mCons (mTup (mCons (mC (.str "say")) (mCons (mTup (mCons (mC (.str "box")) (mCons (mC (.str "a")) mNil))) mNil))) mNil))) (mCons (mTl (lenG (mCons (mTup (mCons (mC (.str "ask")) (mCons (mC (.str "a")) mNil))) mNil))) (mCons (mTl (lenG (mCons (mTup (mCons (mC (.str "put")) (mCons (mC (.str "a")) (mCons (mTup (mCons (mC (.str "number")) (mCons (mC (.int 7)) mNil))) mNil)))) (mCons (mTup (mCons (mC (.str "ask")) (mCons (mC (.str "a")) mNil))) mNil)))) mNil))))))) (sSeq (sSet 3 (mNew (lenG mNil))) (sSeq (sFor (mSrcA (mCons (mVar 1) mNil) rng1) (tgN 4) bP) (sRet (mTup (mCons (mTl (lenG (mCons (mTup (mCons (mC (.str "a")) (mCons (mC (.int 3)) mNil))) mNil))) (mCons (m1 iceW (mVar 3)) mNil))))))):=rfl
theorem mo {h:List Ob}{j:Nat}{N:Int}{m:Nat}(hN:N=(m:Int))(m1:1<=m)(m2:m<=10)(R:Pot h j):Ok (cj [.loc j,.int N]) h fun w h'=> ∃bs:List B23,w=pgW bxW bs/\bs.length=m/\(∀b∈bs,BG N b)/\Kn j h h':=by
 have e0:cj [.loc j,.int N]=bd (cR [some (.loc j),some (.int N),none,none,none]) finF:=rfl
 have bj:j<h.length:=by obtain⟨a,b,e⟩:=R;exact d9 e
 rw[e0,gh]
 simp! only[aa,tupW]
 refine gI ?_
 simp! only[aa,iC (show (-(2 ^ 62):Int)<=N by omega) (show N<2 ^ 62 by omega)]
 have eN:N.toNat=m:=by omega
 refine dz (I:=fun i ρ h'=> ∃a,∃bs:List B23,ρ=[some (.loc j),some (.int N),some (.tl stsW),some (.loc h.length),a]/\Kn j h h'/\h'[h.length]?=some (.lst (bs.map B23.w))/\bs.length=i/\ ∀b∈bs,BG N b) ⟨_,[],rfl,⟨by simp,fun i hi _=>by rw[List.getElem?_append_left hi],?_⟩,fE,rfl,fun b hb=>absurd hb List.not_mem_nil⟩ (fun _ _ _ _=>trivial) (fun i w ρ h1 hw I=>?_) fun ρ h1 I=>?_
 ·obtain⟨a,b,e⟩:=R;exact⟨a,b,nI e⟩
 ·obtain⟨a,bs,rfl,K,e1,l1,g1⟩:=I
  obtain⟨rfl,hi⟩:=dZ _ _ _ _ hw
  rw[eN] at hi
  obtain⟨s,s1,s2,s3⟩:=wd (k:=i) (by omega)
  refine⟨_,rfl,?_⟩
  unfold bP
  simp!
  refine iK e1 ?_
  simp! only[aa,s1,s2]
  refine bB K.re (by decide) (by decide) fun v h2 v0 v1 K2=>?_
  obtain⟨sts,t1,t2,t3⟩:=ui v0 v1
  simp! only[aa,eZ t1,dE,sJ]
  refine bC (vo (by omega) (by omega) K2.re) fun w h3 qq_=>?_
  obtain⟨e,ew,eg,K3⟩:=qq_
  subst ew
  have K4:=(K.trans K2.kn).trans K3
  have e3:h3[h.length]?=some (.lst (bs.map B23.w)):=by
   rw[K3.eq _ (Nat.lt_of_lt_of_le (d9 e1) K2.kn.le) (by omega),K2.kn.eq _ (d9 e1) (by omega)];exact e1
  simp! only[aa,tupW]
  refine j3 e3 (by rw[List.length_map];exact Nat.lt_of_le_of_lt (show _<=10 by omega) (by decide)) ?_
  simp!
  refine av ⟨_,rfl,_,bs++[⟨"n"++s,sts,e⟩],rfl,⟨by rw[List.length_set];exact K4.le,fun i hi hj=>by rw[List.getElem?_set_ne (by omega)];exact K4.eq i hi hj,?_⟩,?_,by rw[List.length_append,l1];rfl,fun b hb=>?_⟩
  ·obtain⟨a,b,q⟩:=K4.re
   exact⟨a,b,by rw[List.getElem?_set_ne (by omega)];exact q⟩
  ·rw[gc e3,List.map_append];rfl
  ·rcases List.mem_append.mp hb with hb|hb
   ·exact g1 b hb
   ·rw[List.mem_singleton.mp hb];exact BG.mk' eg s3 t2 t3
 ·obtain⟨a,bs,rfl,K,e1,l1,g1⟩:=I
  rw[cG,eN] at l1
  simp!
  refine j0 e1 ?_
  simp! only[aa,tupW]
  refine av ⟨bs,rfl,l1,g1,⟨by rw[List.length_set];exact K.le,fun i hi hj=>by rw[List.getElem?_set_ne (by omega)];exact K.eq i hi hj,?_⟩⟩
  obtain⟨a,b,q⟩:=K.re
  exact⟨a,b,by rw[List.getElem?_set_ne (by omega)];exact q⟩
theorem cp9:CPow 10 9:=⟨by decide,by decide,by decide⟩
theorem cp19:CPow 10 19:=⟨by decide,by decide,by decide⟩
theorem rN {v:Int}(h0:0<=v)(h1:v<3): ∃s:Int,atI [W.int 2,.int 5,.int 1000] v=some (.int s)/\0<s/\s<=1000:=by
 have:v=0\/v=1\/v=2:=by omega
 rcases this with rfl|rfl|rfl
 ·exact⟨_,rfl,by decide,by decide⟩
 ·exact⟨_,rfl,by decide,by decide⟩
 ·exact⟨_,rfl,by decide,by decide⟩
theorem rj {h:List Ob}{j:Nat}{v:Int}(v0:0<=v)(v1:v<4)(R:Pot h j):Ok (cX [.loc j,.int v]) h fun w h'=> ∃c:Int,w=.int c/\0<=c/\Kp j h h':=by
 have e0:cX [.loc j,.int v]=bd (dU [some (.loc j),some (.int v)]) finF:=rfl
 rw[e0]
 unfold dU
 by_cases c:v<3
 ·obtain⟨s,s1,s2,s3⟩:=rN v0 c
  simp! only[aa,decide_eq_true c,eZ s1]
  refine bB R s2 (Int.lt_of_le_of_lt s3 (by decide)) fun x h1 x0 _ K=>?_
  simp!
  exact av ⟨x,rfl,x0,K⟩
 ·simp! only[aa,decide_eq_false c,eX cp9]
  refine bB R (by decide) (by decide) fun x h1 x0 _ K=>?_
  simp! only[aa,eX cp19,eX cp9,dB (iN (i:=x) (j:=10 ^ (19:Int).toNat) (by decide) (by decide))]
  refine bB K.re (by decide) (by decide) fun y h2 y0 _ K2=>?_
  simp!
  exact av ⟨_,rfl,Int.add_nonneg (Int.mul_nonneg x0 (by decide)) y0,K.trans K2⟩
theorem oV {h:List Ob}{ks:List Nat}{bs:List B23}(hk:ks≠ [])(hl:bs.length<=10)(hb: ∀b∈bs,b.e.tos.length<=6)(P:Pots h ks):Ok (cJ [.tl (ks.map W.loc),.tl (bs.map B23.w)]) h fun w h'=> ∃cs:List Int,w=.tl (cs.map W.int)/\(waysL (esOf bs)).length=cs.length/\(∀c∈cs,0<=c)/\Ky ks h h':=by
 have e0:cJ [.tl (ks.map W.loc),.tl (bs.map B23.w)]=bd (dj [some (.tl (ks.map W.loc)),some (.tl (bs.map B23.w)),none]) finF:=rfl
 rw[e0]
 unfold dj
 have lk:0<ks.length:=List.length_pos_iff.mpr hk
 obtain⟨k0,hk0,ek0⟩:=kg (ks:=ks) (i:=0) (by decide) (by omega)
 obtain⟨L,hL⟩: ∃L:Int,L=(ks.length:Int):=⟨_,rfl⟩
 have lc:(waysL (esOf bs)).length<=60:=by
  have h6: ∀e∈esOf bs,e.tos.length<=6:=fun e he=>by
   obtain⟨b,hb',rfl⟩:=List.mem_map.mp he
   exact hb b hb'
  have l2:(esOf bs).length=bs.length:=by unfold esOf;rw[List.length_map]
  have:=dY (esOf bs) h6 (esOf bs).length (Nat.le_refl _)
  rw[List.take_length] at this
  omega
 have eL:lenW [.tl (ks.map W.loc)]=pr (.int L):=by rw[hL,lenW_tl,List.length_map]
 have ixk: ∀i:Int,0<=i->i<L-> ∃k∈ks,ixW (.tl (ks.map W.loc)) (.int i)=pr (.loc k):=fun i a b=>kg a (by rw[<-hL];exact b)
 have L0:0<L:=by omega
 obtain⟨N,hN⟩: ∃N:Int,N=((waysL (esOf bs)).length:Int):=⟨_,rfl⟩
 have eNn:N.toNat=(waysL (esOf bs)).length:=by omega
 have eW:lenW [.tl ((waysL (esOf bs)).map wayW)]=pr (.int N):=by rw[hN,lenW_tl,List.length_map]
 generalize (W.tl (ks.map W.loc))=PW at *
 simp! only[aa,ek0]
 refine bB (P k0 hk0) (by decide) (by decide) fun v h1 v0 v1 K1=>?_
 have Y1:=Ky.of_kn P K1.kn hk0
 simp!
 refine nB (.inl rfl) hl hb fun h2 N2=>?_
 have Y2:=Y1.trans (Ky.of_nw Y1.re N2)
 have gl: ∀ {α:Type} (q:M α),gd ((intsW 0 N.toNat).length<=sizeLine) q=q:=fun q=>ap (by rw[cG];exact sz (by omega))
 generalize W.tl ((waysL (esOf bs)).map wayW)=WW at *
 simp! only[aa,eW,iC (show (-(2 ^ 62):Int)<=N by omega) (show N<2 ^ 62 by omega),gl]
 refine cC (I:=fun i a h'=> ∃cs:List Int,a=cs.map W.int/\cs.length=i/\(∀c∈cs,0<=c)/\Ky ks h h') ⟨[],rfl,rfl,fun t ht=>absurd ht List.not_mem_nil,Y2⟩ du (fun _ _ _ _=>trivial) (fun i w a h' hw I=>?_) fun a h' I=>?_
 ·obtain⟨cs,rfl,rfl,c0,Y⟩:=I
  obtain⟨rfl,hi⟩:=dZ _ _ _ _ hw
  refine⟨_,rfl,?_⟩
  obtain⟨k,hk,ek⟩:=ixk ((0+(cs.length:Int)) % L) (Int.emod_nonneg _ (by omega)) (Int.emod_lt_of_pos _ L0)
  simp! only[List.replicate,List.cons_append,List.nil_append,aa,eL,dC L0,ek]
  refine Ok.imp (rj v0 v1 (Y.re k hk)) fun w h3 qz=>?_
  obtain⟨c,ew,cc,K⟩:=qz
  refine⟨cs++[c],by rw[ew,List.map_append];rfl,by simp,fun t ht=>?_,Y.trans (Ky.of_kn Y.re K.kn hk)⟩
  rcases List.mem_append.mp ht with ht|ht
  ·exact c0 t ht
  ·rw[List.mem_singleton.mp ht];exact cc
 ·obtain⟨cs,rfl,l1,c0,Y⟩:=I
  rw[cG,eNn] at l1
  simp!
  exact av ⟨cs,rfl,l1.symm,c0,Y⟩
theorem BG.six {m:Int}{b:B23}(g:BG m b):b.e.tos.length<=6:=g.g.six
end
set_option maxHeartbeats 1000000
section
noncomputable def bsets:Nat->List (List Int)
 |0=>[[0]]
 |n+1=>bsets n++(bsets n).map (· ++[((n+1:Nat):Int)])
theorem d5: ∀n,(bsets n).length=2 ^ n
 |0=>rfl
 |n+1=>by rw[bsets,List.length_append,List.length_map,d5 n,Nat.pow_succ];omega
theorem cA: ∀ {n:Nat}{s:List Int},s∈bsets n-> ∃r,s=0::r/\r.Nodup/\r.length<=n/\ ∀x∈r,1<=x/\x<=n
 |0,s,h=>by
  rw[bsets,List.mem_singleton] at h
  exact⟨[],h,List.nodup_nil,Nat.le_refl _,fun x hx=>absurd hx List.not_mem_nil⟩
 |n+1,s,h=>by
  rw[bsets] at h
  rcases List.mem_append.mp h with h|h
  ·obtain⟨r,e,nd,l,q⟩:=cA h
   exact⟨r,e,nd,by omega,fun x hx=>by have:=q x hx;omega⟩
  ·obtain⟨t,ht,rfl⟩:=List.mem_map.mp h
   obtain⟨r,rfl,nd,l,q⟩:=cA ht
   refine⟨r++[((n+1:Nat):Int)],rfl,?_,by rw[List.length_append];show r.length+1<=n+1;omega,fun x hx=>?_⟩
   ·rw[List.nodup_append]
    refine⟨nd,by simp,fun a ha b hb=>?_⟩
    rw[List.mem_singleton.mp hb]
    have:=q a ha
    omega
   ·rcases List.mem_append.mp hx with hx|hx
    ·have:=q x hx;omega
    ·rw[List.mem_singleton.mp hx];omega
noncomputable def wo (r:List Int)(p:Int):List Int:=r.filter fun x=>!decide (x=p)
theorem o5 (a b:List Int)(p:Int):wo (a++b) p=wo a p++wo b p:=by unfold wo;rw[List.filter_append]
theorem iOfs (l:List Int):optL iOf (l.map W.int)=some l:=by
 have:=cz (f:=iOf) (g:=W.int) (k:=fun i=>i) (fun a=>rfl) l
 rw[this];simp
section
variable {β:Type}{h:List Ob}{Q:β->List Ob->Prop}{j:Nat}
theorem ke (p:Int)(l:List Int):keyN true (.tup [.tup (l.map W.int),.int p])=some (p,l):=by
 show (optL iOf (l.map W.int)).map (fun ns=>(p,ns))=_
 rw[iOfs];rfl
theorem jZ {x:W}{ks:List PKy}{ws:List W}{p:Int}{l:List Int}{v:W}{k:W->M β}(e:dinOf x h=some (true,ks,ws))(a:atK ks ws (p,l)=some v)(q:Ok (k v) h Q):Ok (bd (ixN' x (.tup [.tup (l.map W.int),.int p])) k) h Q:=by
 refine bf (a:=v) (h':=h) ?_ q
 unfold ixN'
 simp only[e,ke,a]
theorem p9 {ks ks':List PKy}{ws ws':List W}{p:Int}{l:List Int}{v:W}{k:Unit->M β}(e:h[j]?=some (.din true ks ws))(hz:ks.length<sizeLine)(e2:putW ks ws (p,l) v=(ks',ws'))(r:Ok (k ()) (h.set j (.din true ks' ws')) Q):Ok (bd (jL (.loc j) (.tup [.tup (l.map W.int),.int p]) v) k) h Q:=by
 refine bf (a:=()) (h':=h.set j (.din true ks' ws')) ?_ r
 unfold jL
 simp only[e,ke,if_pos hz,e2]
theorem kq {ks:List PKy}{ws:List W}(e:h[j]?=some (.din true ks ws)):dinOf (.loc j) h=some (true,ks,ws):=by unfold dinOf;simp only[e]
theorem qd {b:Bool}{k:W->M β}{ρ:Env'}(q:Ok (k (.loc h.length)) (h++[.din b [] []]) Q):Ok (bd (ka b ρ) k) h Q:=bf (a:=.loc h.length) (h':=h++[.din b [] []]) rfl q
end
theorem lY (r:List Int)(p:Int)(hr:r.length<=1000)(h:List Ob):Ok (dm [.tup (r.map W.int),.int p]) h fun w h'=>w=.tup ((wo r p).map W.int)/\h'=h:=by
 have e0:dm [.tup (r.map W.int),.int p]=bd (fF [some (.tup (r.map W.int)),some (.int p)]) finF:=rfl
 rw[e0]
 unfold fF
 have gl: ∀ {α:Type} (q:M α),gd ((r.map W.int).length<=sizeLine) q=q:=fun q=>ap (by rw[List.length_map];exact sz (by omega))
 simp! only[aa,gl]
 refine gj (I:=fun i a h'=>h'=h/\a=(wo (r.take i) p).map W.int) ⟨rfl,rfl⟩ (fun _ _ _ _=>trivial) (fun i w a h' hw I=>?_) fun a h' I=>?_
 ·obtain⟨rfl,rfl⟩:=I
  rw[List.getElem?_map] at hw
  obtain⟨x,hx,rfl⟩:=Option.map_eq_some_iff.mp hw
  refine⟨_,rfl,?_⟩
  simp! only[List.replicate,List.cons_append,List.nil_append,aa]
  rw[aC hx,o5]
  by_cases e:x=p
  ·refine av (.inl ⟨by simp [e],rfl,?_⟩)
   have:wo [x] p=[]:=by unfold wo;simp [e]
   rw[this,List.append_nil]
  ·refine av (.inr ⟨by simp [e],av ⟨rfl,?_⟩⟩)
   have:wo [x] p=[x]:=by unfold wo;simp [e]
   rw[this,List.map_append]
   rfl
 ·obtain⟨rfl,rfl⟩:=I
  rw[List.length_map,List.take_length]
  simp! only[aa,gy]
  exact av ⟨rfl,rfl⟩
noncomputable def setW' (s:List Int):W:=.tup (s.map W.int)
theorem rO {N:Int}{m:Nat}(hN:N=(m:Int))(m1:1<=m)(m2:m<=10)(h:List Ob):Ok (cK [.int N]) h fun w h'=>w=.tl ((bsets (m - 1)).map setW')/\h'=h:=by
 have e0:cK [.int N]=bd (dk [some (.int N),none,none]) finF:=rfl
 rw[e0]
 unfold dk
 simp! only[aa,tupW,kR (show (-(2 ^ 62):Int)<=1 by decide) (show (1:Int)<2 ^ 62 by decide) (show (-(2 ^ 62):Int)<=N by omega) (show N<2 ^ 62 by omega)]
 have eN:(N - 1).toNat=m - 1:=by omega
 refine dz (I:=fun i ρ h'=> ∃a,ρ=[some (.int N),some (.tl ((bsets i).map setW')),a]/\h'=h) ⟨_,rfl,rfl⟩ (fun _ _ _ _=>trivial) (fun i w ρ h1 hw I=>?_) fun ρ h1 I=>?_
 ·obtain⟨a,rfl,rfl⟩:=I
  obtain⟨rfl,hi⟩:=dZ _ _ _ _ hw
  rw[eN] at hi
  have bl:(bsets i).length<=512:=by
   rw[d5]
   exact Nat.pow_le_pow_right (by decide) (show i<=9 by omega)
  refine⟨_,rfl,?_⟩
  have gl: ∀ {α:Type} (q:M α),gd (((bsets i).map setW').length<=sizeLine) q=q:=fun q=>ap (by rw[List.length_map];exact sz (by omega))
  simp! only[aa,gl]
  refine cC (I:=fun k a h'=>h'=h1/\a=(((bsets i).take k).map (· ++[((i+1:Nat):Int)])).map setW') ⟨rfl,rfl⟩ du (fun _ _ _ _=>trivial) (fun k w a h' hw I=>?_) fun a h' I=>?_
  ·obtain⟨rfl,rfl⟩:=I
   rw[List.getElem?_map] at hw
   obtain⟨s,hs,rfl⟩:=Option.map_eq_some_iff.mp hw
   obtain⟨r,rfl,_,lr,_⟩:=cA (List.mem_of_getElem? hs)
   refine⟨_,rfl,?_⟩
   have ea:addW (setW' (0::r)) (.tup [.int (1+(i:Int))])=pr (setW' (0::r++[((i+1:Nat):Int)])):=by
    show addW (.tup (.int 0::r.map W.int)) (.tup [.int (1+(i:Int))])=_
    rw[addT _ _ _ (by rw[List.length_map];show r.length+1<=100;omega)]
    unfold setW'
    rw[List.map_append,List.map_cons]
    have:(1:Int)+(i:Int)=((i+1:Nat):Int):=by omega
    rw[this];rfl
   simp! only[List.replicate,List.cons_append,List.nil_append,aa,tupW]
   rw[ea]
   refine av ⟨rfl,?_⟩
   rw[aC hs,List.map_append,List.map_append]
   rfl
  ·obtain⟨rfl,rfl⟩:=I
   rw[List.length_map,List.take_length]
   simp! only[aa,kD _ _ (show ((bsets i).map setW').length+(((bsets i).map (· ++[((i+1:Nat):Int)])).map setW').length<=sizeLine by rw[List.length_map,List.length_map,List.length_map];exact sz (by omega))]
   refine av ⟨_,rfl,some (.int (1+(i:Int))),?_,rfl⟩
   rw[bsets,List.map_append]
 ·obtain⟨a,rfl,rfl⟩:=I
  rw[cG,eN]
  simp!
  exact av ⟨rfl,rfl⟩
end
set_option maxHeartbeats 1000000
section
def setsL (n:Nat):List (List Int):=(List.range (n+2)).flatMap fun k=>(bsets n).filter fun s=>decide (s.length=k)
def prOf (ss:List (List Int)):List PKy:=ss.flatMap fun s=>s.tail.map fun l=>(l,s)
noncomputable abbrev kf:PKy:=(0,[0])
def prs (n:Nat):List PKy:=kf::prOf (bsets n)
def lpr (n:Nat):List PKy:=kf::prOf (setsL n)
noncomputable def lst0 (s:List Int):List Int:=if s=[0] then s else s.tail
noncomputable def six (p:Nat->Bool):Bool:=p 0 && (p 1 && (p 2 && (p 3 && (p 4 && p 5))))
theorem gB {p:Nat->Bool}(h:six p=true){n:Nat}(hn:n<6):p n=true:=by
 unfold six at h
 simp only[Bool.and_eq_true] at h
 obtain⟨h0,h1,h2,h3,h4,h5⟩:=h
 have:n=0\/n=1\/n=2\/n=3\/n=4\/n=5:=by omega
 rcases this with rfl|rfl|rfl|rfl|rfl|rfl<;>assumption
def ckL (n:Nat):Bool:=match lSort ((bsets n).map List.length) with
 |some π=>decide (π.size=(bsets n).length) && (π.toList.all (fun i=>decide (i<(bsets n).length)) && decide ((π.toList.map fun i=>(bsets n).getD i [])=setsL n))
 |none=>false
theorem vM:six ckL=true:=by decide+kernel
theorem vB {n:Nat}(hn:n<6): ∃π,lSort ((bsets n).map List.length)=some π/\π.size=(bsets n).length/\(∀i∈π.toList,i<(bsets n).length)/\(π.toList.map fun i=>(bsets n).getD i [])=setsL n:=by
 have h:=gB vM hn
 unfold ckL at h
 cases e:lSort ((bsets n).map List.length) with
 |none=>rw[e] at h;cases h
 |some π=>
  rw[e] at h
  simp only[Bool.and_eq_true,decide_eq_true_eq,List.all_eq_true] at h
  exact⟨π,rfl,h⟩
def ckK (n:Nat):Bool:=decide (lpr n).Nodup && (prs n).isPerm (lpr n)
theorem vN:six ckK=true:=by decide+kernel
theorem gO {n:Nat}(hn:n<6):(lpr n).Nodup/\(prs n).Perm (lpr n):=by
 have h:=gB vN hn
 unfold ckK at h
 simp only[Bool.and_eq_true,decide_eq_true_eq,List.isPerm_iff] at h
 exact h
def ckS (n:Nat):Bool:=(List.range (setsL n).length).all fun i=>match (setsL n)[i]? with
 |some s=>decide (s=0::s.tail) && (decide (s.length<=6) && s.tail.all fun l=>decide (1<=l) && (decide (((wo s l).length:Int)+1=s.length) && (decide (wo s l=0::(wo s l).tail) && ((wo s l).tail.all fun p=>decide (1<=p)) && ((lst0 (wo s l)).all fun p=>decide ((p,wo s l)∈kf::prOf ((setsL n).take i))))))
 |none=>false
theorem vK:six ckS=true:=by decide+kernel
structure SK (k:PKy):Prop where
 z:k.2=0::k.2.tail
 le:k.2.length<=6
 l1:1<=k.1
 len:(wo k.2 k.1).length+1=k.2.length
 wz:wo k.2 k.1=0::(wo k.2 k.1).tail
 w1: ∀p∈(wo k.2 k.1).tail,1<=p
theorem rk {n:Nat}(hn:n<6){i:Nat}{s:List Int}(h:(setsL n)[i]?=some s):(s=0::s.tail/\s.length<=6)/\ ∀l∈s.tail,SK (l,s)/\ ∀p∈lst0 (wo s l),(p,wo s l)∈kf::prOf ((setsL n).take i):=by
 have q:=gB vK hn
 unfold ckS at q
 rw[List.all_eq_true] at q
 have q:=q i (List.mem_range.mpr (List.getElem?_eq_some_iff.mp h).1)
 rw[h] at q
 simp only[Bool.and_eq_true,decide_eq_true_eq,List.all_eq_true] at q
 obtain⟨z,le,q⟩:=q
 refine⟨⟨z,le⟩,fun l hl=>?_⟩
 obtain⟨l1,w,⟨wz,w1⟩,c⟩:=q l hl
 exact⟨⟨z,le,l1,by show (wo s l).length+1=s.length;omega,wz,w1⟩,c⟩
theorem prOf_mem {ss:List (List Int)}{k:PKy}:k∈prOf ss↔k.2∈ss/\k.1∈k.2.tail:=by
 unfold prOf
 rw[List.mem_flatMap]
 constructor
 ·rintro⟨s,hs,h⟩
  obtain⟨l,hl,rfl⟩:=List.mem_map.mp h
  exact⟨hs,hl⟩
 ·rintro⟨h1,h2⟩
  exact⟨k.2,h1,List.mem_map.mpr ⟨k.1,h2,rfl⟩⟩
theorem kb {n:Nat}(hn:n<6){k:PKy}(h:k∈lpr n)(hk:k≠kf):SK k/\ ∀p∈lst0 (wo k.2 k.1),(p,wo k.2 k.1)∈lpr n:=by
 rcases List.mem_cons.mp h with h|h
 ·exact absurd h hk
 ·obtain⟨h1,h2⟩:=prOf_mem.mp h
  obtain⟨i,hi⟩:=List.getElem?_of_mem h1
  obtain⟨s1,s2⟩:=(rk hn hi).2 k.1 h2
  refine⟨s1,fun p hp=>?_⟩
  rcases List.mem_cons.mp (s2 p hp) with q|q
  ·exact List.mem_cons.mpr (.inl q)
  ·obtain⟨q1,q2⟩:=prOf_mem.mp q
   exact List.mem_cons.mpr (.inr (prOf_mem.mpr ⟨List.mem_of_mem_take q1,q2⟩))
def kSort (ks:List PKy):Option (Array Nat):=sSort ks.length fun i j=>ltKy ((ks.map fun k=>(k.2,k.1)).getD i ([],0)) ((ks.map fun k=>(k.2,k.1)).getD j ([],0))
theorem rS (ks:List PKy)(F:PKy->Int):rSort (ks.map fun k=>((k.2,k.1),F k))=kSort ks:=by
 unfold rSort kSort
 rw[List.length_map]
 have: ∀i:Nat,((ks.map fun k=>(((k.2,k.1),F k):(List Int×Int)×Int)).getD i (([],0),0)).1=(ks.map fun k=>(k.2,k.1)).getD i ([],0):=fun i=>by
  rw[List.getD_eq_getElem?_getD,List.getD_eq_getElem?_getD,List.getElem?_map,List.getElem?_map]
  cases ks[i]?<;>rfl
 congr 1
 funext i j
 rw[this,this]
def ckR (n:Nat):Bool:=match kSort (lpr n) with
 |some π=>decide (π.size=(lpr n).length) && (π.toList.all (fun i=>decide (i<(lpr n).length)) && (π.toList.map fun i=>(lpr n).getD i kf).isPerm (lpr n))
 |none=>false
theorem vL:six ckR=true:=by decide+kernel
theorem vA {n:Nat}(hn:n<6): ∃π,kSort (lpr n)=some π/\π.size=(lpr n).length/\(∀i∈π.toList,i<(lpr n).length)/\(π.toList.map fun i=>(lpr n).getD i kf).Perm (lpr n):=by
 have h:=gB vL hn
 unfold ckR at h
 cases e:kSort (lpr n) with
 |none=>rw[e] at h;cases h
 |some π=>
  rw[e] at h
  simp only[Bool.and_eq_true,decide_eq_true_eq,List.all_eq_true,List.isPerm_iff] at h
  exact⟨π,rfl,h⟩
def ckE (n:Nat):Bool:=((lpr n).all fun k=>decide (k.2.length=n+1)==decide (k.2=(List.range (n+1)).map Int.ofNat)) && (lpr n).any fun k=>decide (k.2.length=n+1)
theorem vO:six ckE=true:=by decide+kernel
theorem rl {n:Nat}(hn:n<6):(∀k∈lpr n,decide (k.2.length=n+1)=decide (k.2=(List.range (n+1)).map Int.ofNat))/\ ∃k∈lpr n,k.2.length=n+1:=by
 have h:=gB vO hn
 unfold ckE at h
 simp only[Bool.and_eq_true,List.all_eq_true,List.any_eq_true,beq_iff_eq,decide_eq_true_eq] at h
 exact h
def ckZ (n:Nat):Bool:=decide ((lpr n).length<=81) && decide ((setsL n).length<=32)
theorem vJ:six ckZ=true:=by decide+kernel
theorem gN {n:Nat}(hn:n<6):(lpr n).length<=81/\(setsL n).length<=32:=by
 have h:=gB vJ hn
 unfold ckZ at h
 simp only[Bool.and_eq_true,decide_eq_true_eq] at h
 exact h
def lstN (G:Int->Int->Int)(F:PKy->Int)(k:PKy):Int:=maxZ ((lst0 (wo k.2 k.1)).map fun p=>F (p,wo k.2 k.1)+G p k.1)
def nu (G:Int->Int->Int)(S:PKy->Int):Nat->PKy->Int
 |0,k=>S k
 |n+1,k=>lstN G (nu G S n) k+S k
def Fn (G:Int->Int->Int)(S:PKy->Int)(k:PKy):Int:=nu G S (k.2.length - 1) k
theorem tV (G:Int->Int->Int)(S:PKy->Int):Fn G S kf=S kf:=rfl
theorem tU (G:Int->Int->Int)(S:PKy->Int){k:PKy}(c:SK k):Fn G S k=lstN G (Fn G S) k+S k:=by
 have h1:=c.len
 have h2:(wo k.2 k.1).length≠0:=by rw[c.wz];simp
 obtain⟨n,hn⟩: ∃n,(wo k.2 k.1).length=n+1:=⟨_,(Nat.succ_pred_eq_of_ne_zero h2).symm⟩
 unfold Fn
 rw[show k.2.length - 1=n+1 by omega,nu]
 congr 1
 unfold lstN
 congr 1
 refine List.map_congr_left fun p _=>?_
 show nu G S n (p,wo k.2 k.1)+_=nu G S ((wo k.2 k.1).length - 1) (p,wo k.2 k.1)+_
 rw[hn]
 rfl
theorem nq (c:SK k):lst0 (wo k.2 k.1)≠ []:=by
 unfold lst0
 split
 ·rw[c.wz];simp
 ·rename_i h
  intro z
  exact h (by rw[c.wz,z])
theorem mG {G:Int->Int->Int}{F F':PKy->Int}{k:PKy}(h:∀p∈lst0 (wo k.2 k.1),F (p,wo k.2 k.1)=F' (p,wo k.2 k.1)):lstN G F k=lstN G F' k:=by
 unfold lstN
 congr 1
 exact List.map_congr_left fun p hp=>by rw[h p hp]
end
set_option maxHeartbeats 1000000
section
theorem lP (a b:List Int):PyData.eqvAll (a.map PyData.int) (b.map PyData.int)=decide (a=b):=by
 induction a generalizing b with
 |nil=>
  cases b with
  |nil=>rw[List.map_nil,PyData.eqvAll];rfl
  |cons y b=>rw[List.map_nil,List.map_cons,PyData.eqvAll]<;>simp
 |cons x a ih=>
  cases b with
  |nil=>rw[List.map_nil,List.map_cons,PyData.eqvAll]<;>simp
  |cons y b=>
   rw[List.map_cons,List.map_cons,PyData.eqvAll,ih,PyData.eqv]
   rw[Bool.eq_iff_iff]
   simp
theorem i4 (a:List Int):(PyData.tuple (a.map PyData.int)).canLay0=true:=by rw[PyData.canLay0];exact rn a fun z hz=>by rw[PyData.canLay0]
theorem eqT (a b:List Int):eqW (.tup (a.map W.int)) (.tup (b.map W.int))=pr (.bl (decide (a=b))):=ko fun h=>by
 have o1: ∀a:List Int,dataH h 50 (.tup (a.map W.int))=some (.tuple (a.map PyData.int)):=fun a=>by
  show (optL (dataH h 49) (a.map W.int)).map PyData.tuple=_
  rw[cz (f:=dataH h 49) (g:=W.int) (k:=PyData.int) (fun a=>rfl) a];rfl
 show (match dataH h 50 (.tup (a.map W.int)),dataH h 50 (.tup (b.map W.int)) with
  |some d,some e=>if d.canLay0=true/\e.canLay0=true then some (PyData.eqv d e) else none
  |_,_=>none)=_
 rw[o1,o1]
 dsimp only
 rw[if_pos ⟨i4 a,i4 b⟩,PyData.eqv,lP]
theorem eqK (k q:PKy):eqW (.tup [.tup (k.2.map W.int),.int k.1]) (.tup [.tup (q.2.map W.int),.int q.1])=pr (.bl (decide (k=q))):=ko fun h=>by
 have o1: ∀k:PKy,dataH h 50 (.tup [.tup (k.2.map W.int),.int k.1])=some (.tuple [.tuple (k.2.map PyData.int),.int k.1]):=fun k=>by
  show (optL (dataH h 49) [.tup (k.2.map W.int),.int k.1]).map PyData.tuple=_
  have o2:dataH h 49 (.tup (k.2.map W.int))=some (.tuple (k.2.map PyData.int)):=by
   show (optL (dataH h 48) (k.2.map W.int)).map PyData.tuple=_
   rw[cz (f:=dataH h 48) (g:=W.int) (k:=PyData.int) (fun a=>rfl) k.2];rfl
  unfold optL
  rw[o2]
  rfl
 have c1: ∀k:PKy,(PyData.tuple [.tuple (k.2.map PyData.int),.int k.1]).canLay0=true:=fun k=>by
  rw[PyData.canLay0,PyData.canLayAll0,i4,PyData.canLayAll0,PyData.canLay0,PyData.canLayAll0];rfl
 show (match dataH h 50 (.tup [.tup (k.2.map W.int),.int k.1]),dataH h 50 (.tup [.tup (q.2.map W.int),.int q.1]) with
  |some d,some e=>if d.canLay0=true/\e.canLay0=true then some (PyData.eqv d e) else none
  |_,_=>none)=_
 rw[o1,o1]
 dsimp only
 rw[if_pos ⟨c1 k,c1 q⟩,PyData.eqv,PyData.eqvAll,PyData.eqv,lP,PyData.eqvAll,PyData.eqv,PyData.eqvAll]
 congr 1
 rw[Bool.eq_iff_iff]
 simp only[Bool.and_eq_true,decide_eq_true_eq,Prod.ext_iff,beq_iff_eq,and_true]
 exact⟨fun z=>⟨z.2,z.1⟩,fun z=>⟨z.2,z.1⟩⟩
theorem kj {l:List Int}(h:l≠ []):extW maxZ [.tl (l.map W.int)]=pr (.int (maxZ l)):=by
 show bd (lstOf (.tl (l.map W.int))) (fun l=>match optL iOf l with
  |some ns=>gd (ns≠ []) (pr (W.int (maxZ ns)))
  |none=>no)=_
 rw[dE,aV,iOfs]
 exact ap h
def bLn:Env'->M Fl:=(sRet (mCall (extW maxZ) (mCons (mTl (mComp [] (mSrc (mVar 5) srcT) (tgN 0) mYes (m2 addW (m2 ixN' (mVar 4) (mTup (mCons (mVar 6) (mCons (mVar 0) mNil)))) (mGetT (mVar 5) (mTup (mCons (mVar 0) (mCons (mVar 3) mNil))) (mC (.int 0)))) 2)) mNil)))
theorem fS:br=(sSeq (sIf (mB (m2 eqW (mTup (mCons (mVar 0) (mCons (mVar 1) mNil))) (mC (keyW true (0,[0]))))) (sRet (mC (.int 0))) sNil) (sSeq (sSet 4 (mCall (arW 2 dm) (mCons (mVar 0) (mCons (mVar 1) mNil)))) (sSeq (sSet 5 (mIf (mB (m2 eqW (mVar 4) (mTup (mCons (mC (.int 0)) mNil)))) (mVar 4) (m3 slW (mVar 4) (mPart (mC (.int 1))) aP))) bLn))):=rfl
section
variable {h:List Ob}{jg:Nat}{gk:List (List Key)}{gw:List W}{G:Int->Int->Int}{X:W}{ks:List PKy}{ws:List W}{F:PKy->Int}{k:PKy}
theorem qF (c:SK k):(lst0 (wo k.2 k.1)).length<=6:=by
 have h1:=c.len
 have h2:=c.le
 unfold lst0
 split
 ·omega
 ·rw[List.length_tail];omega
theorem rE {x:Option W}{L:List Int}(eL:L=lst0 (wo k.2 k.1))(eg:h[jg]?=some (.dit gk gw))(GG:GK gk gw G)(ed:dinOf X h=some (true,ks,ws))(c:SK k)
  (ha: ∀p∈lst0 (wo k.2 k.1),atK ks ws (p,wo k.2 k.1)=some (.int (F (p,wo k.2 k.1)))):Ok (bLn [x,some (.int k.1),some X,some (.loc jg),some (.tup ((wo k.2 k.1).map W.int)),some (.tup (L.map W.int))]) h fun x h'=>x=.rt (.int (lstN G F k))/\h'=h:=by
 unfold bLn
 have gl: ∀ {α:Type} (q:M α),gd ((L.map W.int).length<=sizeLine) q=q:=fun q=>ap (by
  rw[List.length_map,eL]
  have:=qF c
  exact sz (by omega))
 simp! only[aa,gl]
 refine cC (I:=fun i a h'=>h'=h/\a=((L.take i).map fun p=>F (p,wo k.2 k.1)+G p k.1).map W.int) ⟨rfl,rfl⟩ du (fun _ _ _ _=>trivial) (fun i w a h' hw I=>?_) fun a h' I=>?_
 ·obtain⟨rfl,rfl⟩:=I
  rw[List.getElem?_map] at hw
  obtain⟨p,hp,rfl⟩:=Option.map_eq_some_iff.mp hw
  have pm:=List.mem_of_getElem? hp
  rw[eL] at pm
  refine⟨_,rfl,?_⟩
  simp! only[List.replicate,List.cons_append,List.nil_append,aa,tupW]
  refine jZ ed (ha p pm) ?_
  simp! only[aa,mGetT,tupW]
  refine hU eg ?_
  simp! only[aa,tupW]
  refine bf (ij eg rfl) ?_
  rw[GG.get p k.1]
  simp!
  refine av ⟨rfl,?_⟩
  rw[aC hp,List.map_append,List.map_append]
  rfl
 ·obtain⟨rfl,rfl⟩:=I
  rw[List.length_map,List.take_length]
  simp! only[aa,kj (show L.map (fun p=>F (p,wo k.2 k.1)+G p k.1)≠ [] by rw[eL];exact fun z=>nq c (List.map_eq_nil_iff.mp z))]
  refine av ⟨?_,rfl⟩
  rw[eL]
  rfl
theorem qI (eg:h[jg]?=some (.dit gk gw))(GG:GK gk gw G)(ed:dinOf X h=some (true,ks,ws))(c:SK k)
  (ha: ∀p∈lst0 (wo k.2 k.1),atK ks ws (p,wo k.2 k.1)=some (.int (F (p,wo k.2 k.1)))):Ok (aR [.tup (k.2.map W.int),.int k.1,X,.loc jg]) h fun w h'=>w=.int (lstN G F k)/\h'=h:=by
 have e0:aR [.tup (k.2.map W.int),.int k.1,X,.loc jg]=bd (br [some (.tup (k.2.map W.int)),some (.int k.1),some X,some (.loc jg),none,none]) finF:=rfl
 rw[e0,fS]
 have hk:k≠kf:=fun z=>by have:=c.l1;rw[z] at this;exact absurd this (by decide)
 have ef:eqW (.tup [.tup (k.2.map W.int),.int k.1]) (keyW true (0,[0]))=pr (.bl false):=by
  show eqW (.tup [.tup (k.2.map W.int),.int k.1]) (.tup [.tup (kf.2.map W.int),.int kf.1])=_
  rw[eqK,decide_eq_false hk]
 simp! only[aa,tupW,ef]
 refine bC (lY k.2 k.1 (by have:=c.le;omega) h) fun w h1 qq_=>?_
 obtain⟨ew,e1⟩:=qq_
 subst ew e1
 have e2:eqW (.tup ((wo k.2 k.1).map W.int)) (.tup [.int 0])=pr (.bl (decide (wo k.2 k.1=[0]))):=eqT _ [0]
 have sl1:slW (.tup ((wo k.2 k.1).map W.int)) (some 1) none=pr (.tup ((wo k.2 k.1).tail.map W.int)):=slos (os:=wo k.2 k.1) (by rw[c.wz];simp)
 by_cases z:wo k.2 k.1=[0]
 ·simp! only[aa,tupW,e2,decide_eq_true z]
  refine bC (rE (by unfold lst0;rw[if_pos z]) eg GG ed c ha) fun x h2 qq_=>?_
  obtain⟨ex,e2⟩:=qq_
  subst ex e2
  simp!
  exact av ⟨rfl,rfl⟩
 ·simp! only[aa,tupW,e2,decide_eq_false z,sl1]
  refine bC (rE (by unfold lst0;rw[if_neg z]) eg GG ed c ha) fun x h2 qq_=>?_
  obtain⟨ex,e2⟩:=qq_
  subst ex e2
  simp!
  exact av ⟨rfl,rfl⟩
end
theorem mf {n:Nat}(hn:n<6):iw (.tl ((bsets n).map setW'))=pr (.tl ((setsL n).map setW')):=by
 obtain⟨π,e1,e2,e3,e4⟩:=vB hn
 have o:optL lenT ((bsets n).map setW')=some ((bsets n).map List.length):=cz (f:=lenT) (g:=setW') (k:=List.length) (fun s=>by show some (s.map W.int).length=_;rw[List.length_map]) _
 unfold iw
 rw[dE,aV,o]
 dsimp only
 rw[e1]
 dsimp only
 have b:=d5 n
 have b1:2 ^ n<=2 ^ 5:=Nat.pow_le_pow_right (by decide) (by omega)
 have b2:=Nat.two_pow_pos n
 have b3: ∀x∈(bsets n).map List.length,x<=1000:=fun x hx=>by
  obtain⟨s,hs,rfl⟩:=List.mem_map.mp hx
  obtain⟨r,rfl,_,lr,_⟩:=cA hs
  rw[List.length_cons]
  omega
 rw[List.length_map,ap ⟨by omega,by omega,b3⟩,ap ⟨e2,e3⟩]
 congr 2
 rw[<-e4,List.map_map]
 refine List.map_congr_left fun i hi=>?_
 show ((bsets n).map setW').getD i .non=setW' ((bsets n).getD i [])
 rw[List.getD_eq_getElem?_getD,List.getD_eq_getElem?_getD,List.getElem?_map,List.getElem?_eq_getElem (e3 i hi)]
 rfl
theorem qG {N:Int}{m:Nat}(hN:N=(m:Int))(m1:1<=m)(m2:m<=6)(h:List Ob):Ok (dG [.int N]) h fun w h'=>w=.tl ((setsL (m - 1)).map setW')/\h'=h:=by
 have e0:dG [.int N]=bd (eG [some (.int N),none,none]) finF:=rfl
 rw[e0]
 unfold eG
 simp! only[aa,tupW,kR (show (-(2 ^ 62):Int)<=1 by decide) (show (1:Int)<2 ^ 62 by decide) (show (-(2 ^ 62):Int)<=N by omega) (show N<2 ^ 62 by omega)]
 have eN:(N - 1).toNat=m - 1:=by omega
 refine dz (I:=fun i ρ h'=> ∃a,ρ=[some (.int N),some (.tl ((bsets i).map setW')),a]/\h'=h) ⟨_,rfl,rfl⟩ (fun _ _ _ _=>trivial) (fun i w ρ h1 hw I=>?_) fun ρ h1 I=>?_
 ·obtain⟨a,rfl,rfl⟩:=I
  obtain⟨rfl,hi⟩:=dZ _ _ _ _ hw
  rw[eN] at hi
  have bl:(bsets i).length<=512:=by
   rw[d5]
   exact Nat.pow_le_pow_right (by decide) (show i<=9 by omega)
  refine⟨_,rfl,?_⟩
  have gl: ∀ {α:Type} (q:M α),gd (((bsets i).map setW').length<=sizeLine) q=q:=fun q=>ap (by rw[List.length_map];exact sz (by omega))
  simp! only[aa,gl]
  refine cC (I:=fun k a h'=>h'=h1/\a=(((bsets i).take k).map (· ++[((i+1:Nat):Int)])).map setW') ⟨rfl,rfl⟩ du (fun _ _ _ _=>trivial) (fun k w a h' hw I=>?_) fun a h' I=>?_
  ·obtain⟨rfl,rfl⟩:=I
   rw[List.getElem?_map] at hw
   obtain⟨s,hs,rfl⟩:=Option.map_eq_some_iff.mp hw
   obtain⟨r,rfl,_,lr,_⟩:=cA (List.mem_of_getElem? hs)
   refine⟨_,rfl,?_⟩
   have ea:addW (setW' (0::r)) (.tup [.int (1+(i:Int))])=pr (setW' (0::r++[((i+1:Nat):Int)])):=by
    show addW (.tup (.int 0::r.map W.int)) (.tup [.int (1+(i:Int))])=_
    rw[addT _ _ _ (by rw[List.length_map];show r.length+1<=100;omega)]
    unfold setW'
    rw[List.map_append,List.map_cons]
    have:(1:Int)+(i:Int)=((i+1:Nat):Int):=by omega
    rw[this];rfl
   simp! only[List.replicate,List.cons_append,List.nil_append,aa,tupW]
   rw[ea]
   refine av ⟨rfl,?_⟩
   rw[aC hs,List.map_append,List.map_append]
   rfl
  ·obtain⟨rfl,rfl⟩:=I
   rw[List.length_map,List.take_length]
   simp! only[aa,kD _ _ (show ((bsets i).map setW').length+(((bsets i).map (· ++[((i+1:Nat):Int)])).map setW').length<=sizeLine by rw[List.length_map,List.length_map,List.length_map];exact sz (by omega))]
   refine av ⟨_,rfl,some (.int (1+(i:Int))),?_,rfl⟩
   rw[bsets,List.map_append]
 ·obtain⟨a,rfl,rfl⟩:=I
  rw[cG,eN]
  simp! only[aa,mf (show m - 1<6 by omega)]
  first|exact av ⟨rfl,rfl⟩|done
end
set_option maxHeartbeats 1000000
section
theorem sC {β:Type}{h:List Ob}{j:Nat}{l:List Int}{k:W->M β}{Q:β->List Ob->Prop}(e:h[j]?=some (.lst (l.map W.int)))(hl:l≠ [])(q:Ok (k (.int (maxZ l))) h Q):Ok (bd (extW maxZ [.loc j]) k) h Q:=by
 refine bf (a:=.int (maxZ l)) (h':=h) ?_ q
 show bd (lstOf (.loc j)) (fun l=>match optL iOf l with
  |some ns=>gd (ns≠ []) (pr (W.int (maxZ ns)))
  |none=>no) h=_
 have:lstOf (.loc j) h=.ok (l.map W.int) h:=Lw.of (.inr ⟨j,rfl,e⟩)
 unfold bd
 rw[this]
 dsimp only
 rw[iOfs]
 dsimp only
 rw[ap hl]
 rfl
noncomputable def cnd (R:List Int)(p:Int):Bool:=!decide (p=0)||decide (R.length=1)
theorem s9 {R:List Int}(hz:R=0::R.tail)(h1: ∀p∈R.tail,1<=p):R.filter (cnd R)=lst0 R:=by
 unfold lst0
 obtain⟨r,hr⟩: ∃r,R=0::r:=⟨_,hz⟩
 subst hr
 cases r with
 |nil=>rfl
 |cons a r=>
  rw[if_neg (by simp),List.filter_cons_of_neg (by simp [cnd])]
  refine List.filter_eq_self.mpr fun p hp=>?_
  have:=h1 p hp
  have:p≠0:=by omega
  simp [cnd,this]
section
variable {h:List Ob}{jg:Nat}{gk:List (List Key)}{gw:List W}{G:Int->Int->Int}{X:W}{ks:List PKy}{ws:List W}{F:PKy->Int}{k:PKy}
theorem vq {h h':List Ob}{X:W}{b:Bool}{ks:List PKy}{ws:List W}(N:Nw h h')(e:dinOf X h=some (b,ks,ws)):dinOf X h'=some (b,ks,ws):=by
 unfold dinOf at e ⊢
 split at e
 ·rename_i j
  split at e
  ·rename_i e1
   rw[N.get e1]
   exact e
  ·cases e
 ·exact e
 ·cases e
def bAl:Env'->M Fl:=(sEx (mMeth isL cS (mVar 5) (mCons (m2 addW (m2 ixN' (mVar 1) (mTup (mCons (mVar 4) (mCons (mVar 6) mNil)))) (mGetT (mVar 0) (mTup (mCons (mVar 6) (mCons (mVar 3) mNil))) (mC (.int 0)))) mNil)))
theorem gW:dR=(sSeq (sSet 4 (mCall fQ (mCons (mTl (mComp [] (mSrc (mVar 2) srcT) (tgN 0) (mB (m2 neW (mVar 0) (mVar 5))) (mVar 0) 2)) mNil))) (sSeq (sSet 5 (mNew (lenG mNil))) (sSeq (sFor (mSrc (mVar 4) srcT) (tgN 6) (sIf (mOr (mB (m2 neW (mVar 6) (mC (.int 0)))) (mB (m2 eqW (mCall lenW (mCons (mVar 4) mNil)) (mC (.int 1))))) bAl sNil)) (sRet (mCall (extW maxZ) (mCons (mVar 5) mNil)))))):=rfl
theorem vD {x:Option W}{h2:List Ob}{R:List Int}{p:Int}{l:List W}{N:Nat}(eg:h2[jg]?=some (.dit gk gw))(GG:GK gk gw G)(ed:dinOf X h2=some (true,ks,ws))(ha:atK ks ws (p,R)=some (.int (F (p,R))))(en:h2[N]?=some (.lst l))(lz:l.length<sizeLine):
  Ok (bAl [some (.loc jg),some X,x,some (.int k.1),some (.tup (R.map W.int)),some (.loc N),some (.int p)]) h2 fun w h3=>w=.nx [some (.loc jg),some X,x,some (.int k.1),some (.tup (R.map W.int)),some (.loc N),some (.int p)]/\h3=h2.set N (.lst (l++[.int (F (p,R)+G p k.1)])):=by
 unfold bAl
 simp! only[aa,tupW]
 refine iK en ?_
 simp! only[aa,tupW]
 refine jZ ed ha ?_
 simp! only[aa,mGetT,tupW]
 refine hU eg ?_
 simp! only[aa,tupW]
 refine bf (ij eg rfl) ?_
 rw[GG.get p k.1]
 simp!
 refine j3 en lz ?_
 simp!
 exact av ⟨rfl,rfl⟩
theorem oE (eg:h[jg]?=some (.dit gk gw))(GG:GK gk gw G)(ed:dinOf X h=some (true,ks,ws))(c:SK k)
  (ha: ∀p∈lst0 (wo k.2 k.1),atK ks ws (p,wo k.2 k.1)=some (.int (F (p,wo k.2 k.1)))):Ok (cV [.loc jg,X,.tup (k.2.map W.int),.int k.1]) h fun w h'=>w=.int (lstN G F k)/\Nw h h':=by
 have e0:cV [.loc jg,X,.tup (k.2.map W.int),.int k.1]=bd (dR [some (.loc jg),some X,some (.tup (k.2.map W.int)),some (.int k.1),none,none,none]) finF:=rfl
 rw[e0,gW]
 have gl: ∀ {α:Type} (q:M α),gd ((k.2.map W.int).length<=sizeLine) q=q:=fun q=>ap (by rw[List.length_map];have:=c.le;exact sz (by omega))
 simp! only[aa,gl]
 refine gj (I:=fun i a h'=>h'=h/\a=(wo (k.2.take i) k.1).map W.int) ⟨rfl,rfl⟩ (fun _ _ _ _=>trivial) (fun i w a h' hw I=>?_) fun a h' I=>?_
 ·obtain⟨rfl,rfl⟩:=I
  rw[List.getElem?_map] at hw
  obtain⟨x,hx,rfl⟩:=Option.map_eq_some_iff.mp hw
  refine⟨_,rfl,?_⟩
  simp! only[List.replicate,List.cons_append,List.nil_append,aa]
  rw[aC hx,o5]
  by_cases e:x=k.1
  ·refine av (.inl ⟨by simp [e],rfl,?_⟩)
   have:wo [x] k.1=[]:=by unfold wo;simp [e]
   rw[this,List.append_nil]
  ·refine av (.inr ⟨by simp [e],av ⟨rfl,?_⟩⟩)
   have:wo [x] k.1=[x]:=by unfold wo;simp [e]
   rw[this,List.map_append]
   rfl
 ·obtain⟨rfl,rfl⟩:=I
  rw[List.length_map,List.take_length]
  have hw1:=c.len
  have hw2:=c.le
  have cl:=s9 c.wz c.w1
  have lst0_ne':=nq c
  have eN:W.int (lstN G F k)=.int (maxZ ((lst0 (wo k.2 k.1)).map fun p=>F (p,wo k.2 k.1)+G p k.1)):=rfl
  generalize wo k.2 k.1=R at *
  have eL:lenW [.tup (R.map W.int)]=pr (.int (R.length:Int)):=by rw[lenW_tup,List.length_map]
  simp! only[aa,gy]
  refine gI ?_
  simp!
  refine dz (I:=fun i ρ h2=> ∃a,ρ=[some (.loc jg),some X,some (.tup (k.2.map W.int)),some (.int k.1),some (.tup (R.map W.int)),some (.loc h'.length),a]/\Nf h' h2 (.lst ((((R.take i).filter (cnd R)).map fun p=>F (p,R)+G p k.1).map W.int))) ⟨_,rfl,Nf.mk0⟩ (fun _ _ _ _=>trivial) (fun i w ρ h2 hw I=>?_) fun ρ h2 I=>?_
  ·obtain⟨a,rfl,N2⟩:=I
   rw[List.getElem?_map] at hw
   obtain⟨p,hp,rfl⟩:=Option.map_eq_some_iff.mp hw
   have pm:=List.mem_of_getElem? hp
   refine⟨_,rfl,?_⟩
   rw[aC hp,List.filter_append]
   have lz:((((R.take i).filter (cnd R)).map fun p=>F (p,R)+G p k.1).map W.int).length<sizeLine:=by
    rw[List.length_map,List.length_map]
    have:=List.length_filter_le (cnd R) (R.take i)
    rw[List.length_take] at this
    exact Nat.lt_of_le_of_lt (show _<=6 by omega) (by decide)
   by_cases q:cnd R p=true
   ·have pl:p∈lst0 R:=by rw[<-cl];exact List.mem_filter.mpr ⟨pm,q⟩
    have e1:([p]:List Int).filter (cnd R)=[p]:=by rw[List.filter_cons_of_pos q];rfl
    have fin:=vD (x:=some (.tup (k.2.map W.int))) (k:=k) (F:=F) (N2.get eg) GG (vq N2.nw ed) (ha p pl) N2.new lz
    have N3:=N2.put (.lst ((((R.take i).filter (cnd R)).map fun p=>F (p,R)+G p k.1).map W.int++[.int (F (p,R)+G p k.1)]))
    rw[e1,List.map_append,List.map_append]
    by_cases q1:p=0
    ·have q2:((R.length:Int)=1):=by
      unfold cnd at q
      rw[decide_eq_true q1] at q
      have:R.length=1:=by simpa using q
      omega
     simp! only[aa,decide_eq_true q1,eL,decide_eq_true q2]
     refine fin.imp fun w h3 qz=>?_
     obtain⟨ew,e3⟩:=qz
     subst ew e3
     exact⟨_,rfl,_,rfl,N3⟩
    ·simp! only[aa,decide_eq_false q1]
     refine fin.imp fun w h3 qz=>?_
     obtain⟨ew,e3⟩:=qz
     subst ew e3
     exact⟨_,rfl,_,rfl,N3⟩
   ·have e1:([p]:List Int).filter (cnd R)=[]:=by rw[List.filter_cons_of_neg q];rfl
    have q': ¬(p≠0\/R.length=1):=fun z=>q (by unfold cnd;simpa using z)
    have q1:p=0:=Classical.byContradiction fun z=>q' (.inl z)
    have q2: ¬((R.length:Int)=1):=fun z=>q' (.inr (by omega))
    simp! only[aa,decide_eq_true q1,eL,decide_eq_false q2]
    rw[e1,List.append_nil]
    exact av ⟨_,rfl,_,rfl,N2⟩
  ·obtain⟨a,rfl,N2⟩:=I
   rw[List.length_map,List.take_length,cl] at N2
   simp!
   refine sC N2.new (fun z=>lst0_ne' (List.map_eq_nil_iff.mp z)) ?_
   simp!
   exact av ⟨eN.symm,N2.nw⟩
end
end
set_option maxHeartbeats 1000000
section
theorem oF {h:List Ob}{P:W}{bs:List B23}{cs:List Int}(hx:Lw h P (bs.map B23.w))(hl:bs.length<=10)(hb: ∀b∈bs,b.e.tos.length<=6)(hc:(waysL (esOf bs)).length=cs.length):
  Ok (cW [P,.tl (cs.map W.int)]) h fun w h'=> ∃j ks ws,w=.loc j/\Nd h h' j (.dit ks ws)/\GK ks ws (gsum (zsL (esOf bs) cs)):=by
 have e0:cW [P,.tl (cs.map W.int)]=bd (dS [some (P),some (.tl (cs.map W.int)),none,none,none,none,none]) finF:=rfl
 rw[e0]
 unfold dS
 have lc:cs.length<=60:=by
  have h6: ∀e∈esOf bs,e.tos.length<=6:=fun e he=>by
   obtain⟨b,hb',rfl⟩:=List.mem_map.mp he
   exact hb b hb'
  have l2:(esOf bs).length=bs.length:=by unfold esOf;rw[List.length_map]
  have:=dY (esOf bs) h6 (esOf bs).length (Nat.le_refl _)
  rw[List.take_length] at this
  omega
 simp!
 refine lx ?_
 simp!
 refine nB (hx.keep (Nf.mk0 (h:=h) (b:=.dit [] [])).nw.eq) hl hb fun h1 N1=>?_
 have D1:=(Nd.mk0 (h:=h) (b:=.dit [] [])).more N1
 simp! only[aa,mT]
 refine dz (I:=fun i ρ h'=> ∃a b c d ks ws,ρ=[some P,some (.tl (cs.map W.int)),some (.loc h.length),a,b,c,d]/\Nd h h' h.length (.dit ks ws)/\GK ks ws (gsum ((zsL (esOf bs) cs).take i))/\ks.length<=i) ⟨_,_,_,_,[],[],rfl,D1,⟨rfl,fun a b=>rfl⟩,Nat.le_refl _⟩ (fun _ _ _ _=>⟨trivial,trivial⟩) (fun i y ρ h2 hy I=>?_) fun ρ h2 I=>?_
 ·obtain⟨a,b,c,d,ks,ws,rfl,D,G,lk⟩:=I
  obtain⟨w,n,hw,hn,rfl⟩:=kF hy
  have hi:i<cs.length:=(List.getElem?_eq_some_iff.mp hn).1
  obtain⟨e,he,w0,_⟩:=kH (List.mem_of_getElem? hw)
  have hz:=o3 hw hn
  have ht:tabOf (esOf bs) w.1=e.tab:=by unfold tabOf;rw[he]
  rw[ht] at hz
  obtain⟨b',hb',rfl⟩:=qV he
  obtain⟨wa,wn,wt⟩:=w
  refine⟨[some P,some (.tl (cs.map W.int)),some (.loc h.length),some (.int wa),some (.int wn),some (.int wt),some (.int n)],rfl,?_⟩
  have w0:0<=wa:=w0
  have hb':bs[wa.toNat]?=some b':=hb'
  simp! only[aa,ix0,ix2]
  refine (hx.keep D.nw.eq).ix (w:=b'.w) (dl w0 (by rw[List.getElem?_map,hb'];rfl)) ?_
  simp! only[aa,qN,ix2,nC,lK]
  rw[aC hz]
  cases et:b'.e.tab with
  |true=>
   simp!
   refine av ⟨_,rfl,_,_,_,_,ks,ws,rfl,D,⟨G.len,fun a b=>?_⟩,Nat.le_succ_of_le lk⟩
   rw[G.get,fD,if_neg (by simp),Int.add_zero]
  |false=>
   simp! only[aa,mKt,kt2,mGetT]
   refine hU D.new ?_
   simp!
   refine bf (ij D.new rfl) ?_
   rw[G.get wa wt]
   simp!
   rcases ep:putW ks ws [.inl wa,.inl wt] (.int (gsum ((zsL (esOf bs) cs).take i) wa wt+n)) with⟨ks',ws'⟩
   obtain⟨l1,l2,g⟩:=kz G.len ep
   refine p8 D.new (Nat.lt_of_le_of_lt (show _<=60 by omega) (by decide)) ep ?_
   simp!
   refine av ⟨_,rfl,_,_,_,_,ks',ws',rfl,D.put _,⟨l1,fun a b=>?_⟩,by omega⟩
   rw[g,fD]
   by_cases q:wa=a/\wt=b
   ·rw[if_pos (by rw[q.1,q.2]),if_pos ⟨rfl,q⟩,q.1,q.2];rfl
   ·rw[if_neg (fun z=>q ⟨by injection z with z1 z2;exact Sum.inl.inj z1,by injection z with z1 z2;injection z2 with z3 z4;exact Sum.inl.inj z3⟩),if_neg (fun z=>q z.2),Int.add_zero]
    exact G.get a b
 ·obtain⟨a,b,c,d,ks,ws,rfl,D,G,lk⟩:=I
  rw[mP _ _ _ _ hc,<-oZ hc,List.take_length] at G
  simp!
  exact av ⟨_,ks,ws,rfl,D,G⟩
theorem jt (a:List (List Int))(s:List Int):prOf (a++[s])=prOf a++s.tail.map fun l=>(l,s):=by
 unfold prOf
 rw[List.flatMap_append,List.flatMap_cons,List.flatMap_nil,List.append_nil]
theorem pY {N:Int}{m:Nat}(hN:N=(m:Int))(m1:1<=m)(m2:m<=6)(h:List Ob):Ok (fH [.int N]) h fun w h'=>w=.tl ((prs (m - 1)).map (keyW true))/\Nw h h':=by
 have e0:fH [.int N]=bd (ik [some (.int N),none,none,none]) finF:=rfl
 rw[e0]
 unfold ik
 simp!
 refine gI ?_
 simp!
 refine bC (rO hN m1 (by omega) _) fun w h2 qq_=>?_
 obtain⟨ew,e2⟩:=qq_
 subst ew e2
 simp!
 refine dz (I:=fun i ρ h'=> ∃a b L,ρ=[some (.int N),some (.loc h.length),a,b]/\Nf h h' (.lst (L.map (keyW true)))/\L=kf::prOf ((bsets (m - 1)).take i)/\L.length<=1+10 * i) ⟨_,_,[kf],rfl,Nf.mk0,rfl,by simp⟩ (fun _ _ _ _=>trivial) (fun i w ρ h2 hw I=>?_) fun ρ h2 I=>?_
 ·obtain⟨a,b,L,rfl,N2,eL,lL⟩:=I
  rw[List.getElem?_map] at hw
  obtain⟨s,hs,rfl⟩:=Option.map_eq_some_iff.mp hw
  obtain⟨r,rfl,_,lr,_⟩:=cA (List.mem_of_getElem? hs)
  have hi:i<32:=by
   have:=(List.getElem?_eq_some_iff.mp hs).1
   rw[d5] at this
   exact Nat.lt_of_lt_of_le this (Nat.pow_le_pow_right (by decide) (show m - 1<=5 by omega))
  refine⟨_,rfl,?_⟩
  have sl1:slW (setW' (0::r)) (some 1) none=pr (.tup (r.map W.int)):=slos (os:=0::r) (by simp)
  simp! only[aa,sl1]
  refine j1 (I:=fun l ρ h'=> ∃b M,ρ=[some (.int N),some (.loc h.length),some (setW' (0::r)),b]/\Nf h h' (.lst (M.map (keyW true)))/\M=L++(r.take l).map (fun x=>(x,0::r))/\M.length<=L.length+l) ⟨_,L,rfl,N2,by simp,Nat.le_refl _⟩ (fun _ _ _ _=>trivial) (fun l w ρ h3 hw I=>?_) fun ρ h3 I=>?_
  ·obtain⟨b,M,rfl,N3,eM,lM⟩:=I
   rw[List.getElem?_map] at hw
   obtain⟨p,hp,rfl⟩:=Option.map_eq_some_iff.mp hw
   have hl:=(List.getElem?_eq_some_iff.mp hp).1
   refine⟨_,rfl,?_⟩
   simp! only[aa,tupW]
   refine iK N3.new ?_
   simp! only[aa,tupW]
   refine j3 N3.new (by rw[List.length_map];exact Nat.lt_of_le_of_lt (show _<=400 by omega) (by decide)) ?_
   simp!
   refine av ⟨_,rfl,_,M++[(p,0::r)],rfl,?_,?_,by rw[List.length_append];show M.length+1<=_;omega⟩
   ·have:=N3.put (.lst (M.map (keyW true)++[.tup [setW' (0::r),.int p]]))
    rw[List.map_append]
    exact this
   ·rw[aC hp,eM,List.map_append,List.append_assoc]
    rfl
  ·obtain⟨b,M,rfl,N3,eM,lM⟩:=I
   rw[List.length_map] at eM lM
   rw[List.take_length] at eM
   refine⟨_,rfl,_,_,M,rfl,N3,?_,by omega⟩
   rw[aC hs,jt,eM,eL]
   rfl
 ·obtain⟨a,b,L,rfl,N2,eL,lL⟩:=I
  rw[List.length_map,List.take_length] at eL
  simp!
  refine j0 N2.new ?_
  simp!
  refine av ⟨by rw[eL];rfl,?_⟩
  have:=N2.put .gone
  exact this.nw
end
set_option maxHeartbeats 1000000
section
theorem cp20:CPow 10 20:=⟨by decide,by decide,by decide⟩
theorem size4 {v:Int}(h0:0<=v)(h1:v<4): ∃s:Int,atI [W.int 1,.int 2,.int 1000,.int (10 ^ (20:Int).toNat)] v=some (.int s)/\0<s/\s<2 ^ 200:=by
 have:v=0\/v=1\/v=2\/v=3:=by omega
 rcases this with rfl|rfl|rfl|rfl
 ·exact⟨_,rfl,by decide,by decide⟩
 ·exact⟨_,rfl,by decide,by decide⟩
 ·exact⟨_,rfl,by decide,by decide⟩
 ·exact⟨_,rfl,by decide,by decide⟩
theorem n9 {h:List Ob}{ks:List Nat}(hk:ks≠ [])(lz:ks.length<=1000)(P:Pots h ks):Ok (cH [.tl (ks.map W.loc)]) h fun w h'=> ∃ss:List Int,w=.tl (ss.map W.int)/\ss.length=ks.length/\(∀s∈ss,0<=s)/\Ky ks h h':=by
 have e0:cH [.tl (ks.map W.loc)]=bd (dh [some (.tl (ks.map W.loc)),none]) finF:=rfl
 rw[e0]
 unfold dh
 have lk:0<ks.length:=List.length_pos_iff.mpr hk
 obtain⟨k0,hk0,ek0⟩:=kg (ks:=ks) (i:=0) (by decide) (by omega)
 simp! only[aa,eX cp20,ek0]
 refine bB (P k0 hk0) (by decide) (by decide) fun v h1 v0 v1 K1=>?_
 have Y1:=Ky.of_kn P K1.kn hk0
 obtain⟨s,s1,s2,s3⟩:=size4 v0 v1
 have gl: ∀ {α:Type} (q:M α),gd ((ks.map W.loc).length<=sizeLine) q=q:=fun q=>ap (by rw[List.length_map];exact sz (by omega))
 simp! only[aa,eZ s1,gl]
 refine cC (I:=fun i a h'=> ∃ss:List Int,a=ss.map W.int/\ss.length=i/\(∀c∈ss,0<=c)/\Ky ks h h') ⟨[],rfl,rfl,fun t ht=>absurd ht List.not_mem_nil,Y1⟩ du (fun _ _ _ _=>trivial) (fun i w a h' hw I=>?_) fun a h' I=>?_
 ·obtain⟨ss,rfl,rfl,c0,Y⟩:=I
  rw[List.getElem?_map] at hw
  obtain⟨k,hk',rfl⟩:=Option.map_eq_some_iff.mp hw
  have km:=List.mem_of_getElem? hk'
  refine⟨_,rfl,?_⟩
  simp! only[List.replicate,List.cons_append,List.nil_append,aa]
  refine bB (Y.re k km) (by decide) (by decide) fun x h2 x0 x1 K2=>?_
  have Y2:=Y.trans (Ky.of_kn Y.re K2.kn km)
  simp!
  refine bB (Y2.re k km) s2 s3 fun y h3 y0 y1 K3=>?_
  have Y3:=Y2.trans (Ky.of_kn Y2.re K3.kn km)
  simp! only[aa,dB (qk (i:=x) (j:=y) (by omega) (by omega))]
  refine av ⟨ss++[x * y],by rw[List.map_append];rfl,by simp,fun t ht=>?_,Y3⟩
  rcases List.mem_append.mp ht with ht|ht
  ·exact c0 t ht
  ·rw[List.mem_singleton.mp ht];exact Int.mul_nonneg x0 y0
 ·obtain⟨ss,rfl,l1,c0,Y⟩:=I
  rw[List.length_map] at l1
  simp!
  exact av ⟨ss,rfl,l1,c0,Y⟩
theorem kB {f:PKy->W}: ∀ {ks:List PKy}{k:PKy},k∈ks->atK ks (ks.map f) k=some (f k)
 |[],_,h=>absurd h List.not_mem_nil
 |q::ks,k,h=>by
  rw[List.map_cons,atK]
  by_cases e:q=k
  ·rw[if_pos e,e]
  ·rw[if_neg e]
   rcases List.mem_cons.mp h with h|h
   ·exact absurd h.symm e
   ·exact kB h
theorem rW {ks:List PKy}{ws:List W}{k:PKy}{v:W}(h:k ∉ ks):putW ks ws k v=(ks++[k],ws++[v]):=by
 unfold putW
 rw[if_neg]
 intro z
 obtain⟨x,hx,e⟩:=List.any_eq_true.mp z
 rw[of_decide_eq_true e] at hx
 exact h hx
theorem nG {r:List PKy}{x:PKy}: ∀ {M:List PKy},x ∉ M->(M++x::r).idxOf x=M.length
 |[],_=>by rw[List.nil_append,List.idxOf_cons_self];rfl
 |y::M,h=>by
  have e:y≠x:=fun z=>h (by rw[z];exact List.mem_cons_self)
  rw[List.cons_append,List.idxOf_cons,nG fun z=>h (List.mem_cons_of_mem _ z),show (y==x)=false from beq_eq_false_iff_ne.mpr e]
  rfl
theorem sL {n i l:Nat}{s:List Int}{p:Int}(hs:(setsL n)[i]?=some s)(hp:s.tail[l]?=some p): ∃r,lpr n=(kf::prOf ((setsL n).take i)++(s.tail.take l).map fun x=>(x,s))++(p,s)::r:=by
 have e1:setsL n=(setsL n).take i++s::(setsL n).drop (i+1):=by
  have:=List.getElem?_eq_some_iff.mp hs
  obtain⟨hi,e⟩:=this
  rw[<-e,<-List.drop_eq_getElem_cons hi,List.take_append_drop]
 have e2:s.tail=s.tail.take l++p::s.tail.drop (l+1):=by
  have:=List.getElem?_eq_some_iff.mp hp
  obtain⟨hi,e⟩:=this
  rw[<-e,<-List.drop_eq_getElem_cons hi,List.take_append_drop]
 refine⟨(s.tail.drop (l+1)).map (fun x=>(x,s))++prOf ((setsL n).drop (i+1)),?_⟩
 have e3:prOf (setsL n)=prOf ((setsL n).take i)++(s.tail.map (fun x=>(x,s))++prOf ((setsL n).drop (i+1))):=by
  have:prOf ((setsL n).take i++s::(setsL n).drop (i+1))=prOf ((setsL n).take i)++(s.tail.map (fun x=>(x,s))++prOf ((setsL n).drop (i+1))):=by
   unfold prOf
   rw[List.flatMap_append,List.flatMap_cons]
  rw[<-e1] at this
  exact this
 have e4:s.tail.map (fun x=>(x,s))=(s.tail.take l).map (fun x=>(x,s))++(p,s)::(s.tail.drop (l+1)).map (fun x=>(x,s)):=by
  have:(s.tail.take l++p::s.tail.drop (l+1)).map (fun x=>(x,s))=(s.tail.take l).map (fun x=>(x,s))++(p,s)::(s.tail.drop (l+1)).map (fun x=>(x,s)):=by
   rw[List.map_append,List.map_cons]
  rw[<-e2] at this
  exact this
 unfold lpr
 rw[e3,e4]
 simp [List.append_assoc]
theorem qe {β:Type}{h:List Ob}{fk fv:Env'->M W}{ρ:Env'}{p:Int}{l:List Int}{v:W}{k:W->M β}{Q:β->List Ob->Prop}(ek:fk ρ=pr (.tup [.tup (l.map W.int),.int p]))(ev:fv ρ=pr v)(q:Ok (k (.loc h.length)) (h++[.din true [(p,l)] [v]]) Q):Ok (bd (j8 true fk fv ρ) k) h Q:=by
 refine bf (a:=.loc h.length) (h':=h++[.din true [(p,l)] [v]]) ?_ q
 unfold j8
 rw[ek,ev,aV,aV]
 have e:(h++[Ob.din true [] []])[h.length]?=some (.din true [] []):=fE
 rw[e,ke]
 dsimp only
 rw[if_pos rfl]
 simp
noncomputable def slA (ss:List Int)(i:Nat):Int:=(ss[i % ss.length]?).getD 0
theorem ul {ss:List Int}{i:Nat}{a:Int}(hi:a=(i:Int))(hs:0<ss.length):ixW (.tl (ss.map W.int)) (.int (a % (ss.length:Int)))=pr (.int (slA ss i)):=by
 have l:=Nat.mod_lt i hs
 refine eZ (dl (by rw[hi];exact Int.emod_nonneg _ (by omega)) ?_)
 rw[hi,show ((i:Int) % (ss.length:Int)).toNat=i % ss.length by rw[<-Int.natCast_emod,Int.toNat_natCast],List.getElem?_map]
 unfold slA
 rw[List.getElem?_eq_getElem l]
 rfl
def slS (ss:List Int)(n:Nat)(k:PKy):Int:=slA ss ((lpr n).idxOf k)
theorem pX {h:List Ob}{BW:W}{bs:List B23}{cs ss:List Int}{m:Nat}(hx:Lw h BW (bs.map B23.w))(hm:bs.length=m)(m1:1<=m)(m2:m<=6)(hb: ∀b∈bs,b.e.tos.length<=6)(hc:(waysL (esOf bs)).length=cs.length)(hs0:ss≠ []):
  Ok (cU [BW,.tl (cs.map W.int),.tl (ss.map W.int)]) h fun w h'=>w=.dn true (lpr (m - 1)) ((lpr (m - 1)).map fun k=>.int (Fn (gsum (zsL (esOf bs) cs)) (slS ss (m - 1)) k))/\Nw h h':=by
 have e0:cU [BW,.tl (cs.map W.int),.tl (ss.map W.int)]=bd (dQ [some BW,some (.tl (cs.map W.int)),some (.tl (ss.map W.int)),none,none,none,none,none]) finF:=rfl
 rw[e0]
 unfold dQ
 obtain⟨n,hn⟩: ∃n,n=m - 1:=⟨_,rfl⟩
 have n6:n<6:=by omega
 rw[<-hn]
 have sl0:0<ss.length:=List.length_pos_iff.mpr hs0
 have eL:lenW [.tl (ss.map W.int)]=pr (.int (ss.length:Int)):=by rw[lenW_tl,List.length_map]
 have six:=fun (i:Nat) (a:Int) (hi:a=(i:Int))=>ul (ss:=ss) hi sl0
 have six0:ixW (.tl (ss.map W.int)) (.int 0)=pr (.int (slA ss 0)):=by
  have:=six 0 0 rfl
  rw[Int.zero_emod] at this
  exact this
 obtain⟨N,hN⟩: ∃N:Int,N=(m:Int):=⟨_,rfl⟩
 simp!
 refine bC (oF hx (by omega) hb hc) fun w h1 qq_=>?_
 obtain⟨jg,gk,gw,ew,D,GG⟩:=qq_
 subst ew
 generalize gsum (zsL (esOf bs) cs)=G at *
 generalize W.tl (ss.map W.int)=SW at *
 generalize W.tl (cs.map W.int)=CW at *
 generalize eF:Fn G (slS ss n)=F
 have F0:F kf=slA ss 0:=by
  rw[<-eF,tV]
  unfold slS lpr
  rw[List.idxOf_cons_self]
 have jgl:jg<h1.length:=d9 D.new
 simp!
 refine qe (p:=0) (l:=[0]) (v:=.int (slA ss 0)) (by simp! only[aa,tupW];rfl) (by simp! only[aa,six0]) ?_
 simp!
 refine Lw.len_eq ((hx.keep D.nw.eq).keep (Nf.mk0 (h:=h1) (b:=.din true [(0,[0])] [.int (slA ss 0)])).nw.eq) (N:=N) (by rw[List.length_map,hm];exact hN) ?_
 simp!
 refine bC (qG hN m1 m2 _) fun w h2 qq_=>?_
 obtain⟨ew,e2⟩:=qq_
 subst ew e2
 rw[<-hn]
 simp!
 refine dz (I:=fun i ρ h'=> ∃a b A L,ρ=[some BW,some CW,some SW,some (.loc jg),some (.loc h1.length),some (.int A),a,b]/\A=((L.length:Nat):Int)/\Nd h1 h' h1.length (.din true L (L.map fun k=>.int (F k)))/\L=kf::prOf ((setsL n).take i)) ⟨_,_,_,[kf],rfl,rfl,by rw[List.map_cons,F0];exact Nd.mk0,rfl⟩ (fun _ _ _ _=>trivial) (fun i w ρ h2 hw I=>?_) fun ρ h2 I=>?_
 ·obtain⟨a,b,A,L,rfl,eA,N2,eq⟩:=I
  rw[List.getElem?_map] at hw
  obtain⟨s,hs,rfl⟩:=Option.map_eq_some_iff.mp hw
  obtain⟨⟨sz0,sle⟩,sk⟩:=rk n6 hs
  refine⟨_,rfl,?_⟩
  have sl1:slW (setW' s) (some 1) none=pr (.tup (s.tail.map W.int)):=slos (os:=s) (by rw[sz0];simp)
  simp! only[aa,sl1]
  refine j1 (I:=fun l ρ h'=> ∃b A M,ρ=[some BW,some CW,some SW,some (.loc jg),some (.loc h1.length),some (.int A),some (setW' s),b]/\A=((M.length:Nat):Int)/\Nd h1 h' h1.length (.din true M (M.map fun k=>.int (F k)))/\M=L++(s.tail.take l).map (fun x=>(x,s))) ⟨_,A,L,rfl,eA,N2,by simp⟩ (fun _ _ _ _=>trivial) (fun l w ρ h3 hw I=>?_) fun ρ h3 I=>?_
  ·obtain⟨b,A,M,rfl,eA,N3,eM⟩:=I
   rw[List.getElem?_map] at hw
   obtain⟨p,hp,rfl⟩:=Option.map_eq_some_iff.mp hw
   have pm:=List.mem_of_getElem? hp
   obtain⟨c,cl⟩:=sk p pm
   obtain⟨r,er⟩:=sL hs hp
   rw[<-eq,<-eM] at er
   have nd:=(gO n6).1
   have lz:=(gN n6).1
   rw[er] at nd lz
   have nm:(p,s) ∉ M:=fun z=>(List.nodup_append.mp nd).2.2 _ z _ List.mem_cons_self rfl
   have Ml:M.length<=81:=by rw[List.length_append] at lz;omega
   have Fk:F (p,s)=lstN G F (p,s)+slA ss M.length:=by
    have h1:=tU G (slS ss n) c
    rw[eF] at h1
    rw[h1]
    congr 1
    unfold slS
    rw[er,nG nm]
   refine⟨_,rfl,?_⟩
   simp! only[aa,fq]
   refine bC (oE (k:=(p,s)) (F:=F) (N3.nw.get D.new) GG (kq N3.new) c fun q hq=>kB (f:=fun k=>.int (F k)) (by rw[eM,eq];exact List.mem_append_left _ (cl q hq))) fun w h4 qq_=>?_
   obtain⟨ew,K4⟩:=qq_
   subst ew
   have N4:=N3.more K4
   simp! only[aa,eL,dC (show (0:Int)<(ss.length:Int) by omega),six M.length A eA,tupW]
   refine p9 N4.new (Nat.lt_of_le_of_lt Ml (by decide)) (rW nm) ?_
   simp!
   refine av ⟨_,rfl,_,_,M++[(p,s)],rfl,by rw[List.length_append,eA];rfl,?_,by rw[aC hp,eM,List.map_append,List.append_assoc];rfl⟩
   rw[List.map_append,List.map_cons,List.map_nil,Fk]
   exact N4.put _
  ·obtain⟨b,A,M,rfl,eA,N3,eM⟩:=I
   rw[List.length_map,List.take_length] at eM
   refine⟨_,rfl,_,_,A,M,rfl,eA,N3,?_⟩
   rw[aC hs,jt,eM,eq]
   rfl
 ·obtain⟨a,b,A,L,rfl,eA,N2,eq⟩:=I
  rw[List.length_map,List.take_length] at eq
  have eq':L=lpr n:=eq
  subst eq'
  simp!
  refine bf (a:=.dn true (lpr n) ((lpr n).map fun k=>.int (F k))) (h':=h2.set h1.length .gone) (by unfold iceW;simp only[N2.new]) ?_
  simp!
  exact av ⟨rfl,D.nw.trans (N2.put .gone).nw⟩
end
set_option maxHeartbeats 1000000
section
def rwW (r:PKy×Int):W:=.tup [.tup (r.1.2.map W.int),.int r.1.1,.int r.2]
def kyW (k:PKy):W:=.tup [.tup (k.2.map W.int),.int k.1]
def lk (rs:List (PKy×Int))(k:PKy):Option Int:=rs.foldl (fun o r=>if r.1=k then some r.2 else o) none
theorem sN (rs:List (PKy×Int))(r:PKy×Int)(k:PKy):lk (rs++[r]) k=if r.1=k then some r.2 else lk rs k:=by
 unfold lk
 rw[List.foldl_append]
 rfl
def vl (rs:List (PKy×Int))(k:PKy):Int:=(lk rs k).getD 0
def lowN (G:Int->Int->Int)(F:PKy->Int)(k:PKy):Int:=if k=kf then 0 else lstN G F k
def jS (n:Nat)(G:Int->Int->Int)(rs:List (PKy×Int)):Bool:=decide (rs.length=(prs n).length) && ((prs n).all (fun k=>(lk rs k).isSome) && (prs n).all fun k=>decide (lowN G (vl rs) k<=vl rs k))
theorem vE (l:List Bool):anyW [.tl (l.map W.bl)]=pr (.bl (l.any id)):=by
 show bd (lstOf (.tl (l.map W.bl))) (fun l=>match optL bOf l with
  |some ns=>pr (W.bl (ns.any id))
  |none=>no)=_
 rw[dE,aV,cz (f:=bOf) (g:=W.bl) (k:=fun b=>b) (fun a=>rfl),List.map_id']
theorem vF (l:List Bool):allW [.tl (l.map W.bl)]=pr (.bl (l.all id)):=by
 show bd (lstOf (.tl (l.map W.bl))) (fun l=>match optL bOf l with
  |some ns=>pr (W.bl (ns.all id))
  |none=>no)=_
 rw[dE,aV,cz (f:=bOf) (g:=W.bl) (k:=fun b=>b) (fun a=>rfl),List.map_id']
theorem qJ {h:List Ob}{X Y:W}:aR [.tup (kf.2.map W.int),.int kf.1,X,Y]=pr (.int 0):=by
 have e0:aR [.tup (kf.2.map W.int),.int kf.1,X,Y]=bd (br [some (.tup (kf.2.map W.int)),some (.int kf.1),some X,some Y,none,none]) finF:=rfl
 rw[e0]
 unfold br
 have ef:eqW (.tup [.tup (kf.2.map W.int),.int kf.1]) (keyW true (0,[0]))=pr (.bl true):=by
  show eqW (.tup [.tup (kf.2.map W.int),.int kf.1]) (.tup [.tup (kf.2.map W.int),.int kf.1])=_
  rw[eqK,decide_eq_true rfl]
 generalize W.tup (kf.2.map W.int)=A at *
 generalize kf.1=B at *
 simp! only[aa,tupW,ef]
theorem u9 {h:List Ob}{jg:Nat}{gk:List (List Key)}{gw:List W}{G:Int->Int->Int}{X:W}{ks:List PKy}{ws:List W}{F:PKy->Int}{k:PKy}(eg:h[jg]?=some (.dit gk gw))(GG:GK gk gw G)(ed:dinOf X h=some (true,ks,ws))(c:k≠kf->SK k/\ ∀p∈lst0 (wo k.2 k.1),atK ks ws (p,wo k.2 k.1)=some (.int (F (p,wo k.2 k.1)))):
  Ok (aR [.tup (k.2.map W.int),.int k.1,X,.loc jg]) h fun w h'=>w=.int (lowN G F k)/\h'=h:=by
 unfold lowN
 by_cases e:k=kf
 ·rw[if_pos e,e,qJ (h:=h)]
  exact av ⟨rfl,rfl⟩
 ·rw[if_neg e]
  exact qI eg GG ed (c e).1 (c e).2
def bRv:Env'->M Fl:=(sSeq (sSet 8 (mCall (arW 2 fI) (mCons (mVar 0) (mCons (mVar 1) mNil)))) (sRet (mCall allW (mCons (mTl (mComp [] (mSrc (mVar 3) srcL) (tgT [0,1]) mYes (m2 geW (m2 ixN' (mVar 7) (mTup (mCons (mVar 0) (mCons (mVar 1) mNil)))) (mCall (arW 4 aR) (mCons (mVar 0) (mCons (mVar 1) (mCons (mVar 7) (mCons (mVar 11) mNil)))))) 3)) mNil))))
def bRt:Env'->M Fl:=(sSeq (sIf (mOr (mB (m2 neW (mCall lenW (mCons (mVar 2) mNil)) (mCall lenW (mCons (mVar 3) mNil)))) (mB (mCall anyW (mCons (mTl (mComp [] (mSrc (mVar 3) srcL) (tgN 0) mYes (m2 (inNW true) (mVar 0) (mVar 6)) 2)) mNil)))) (sRet (mC (.bl false))) sNil) bRv)
theorem iG:eP=(sSeq (sSet 3 (mCall (arW 1 fH) (mCons (mCall lenW (mCons (m2 ixW (mVar 0) (mC (.int 1))) mNil)) mNil))) (sSeq (sSet 4 (ka true)) (sSeq (sFor (mSrc (mVar 2) srcL) (tgT [5,6,7]) (fq (mVar 4) (mTup (mCons (mVar 5) (mCons (mVar 6) mNil))) (mVar 7))) bRt))):=rfl
theorem vC {h:List Ob}{P x t:W}{bs:List B23}{cs:List Int}{n jn:Nat}{a b c:Option W}{ks:List PKy}{ws:List W}{rs:List (PKy×Int)}(hp:ixW P (.int 1)=pr x)(hx:Lw h x (bs.map B23.w))(hl:bs.length<=10)(n6:n<6)(hb: ∀b∈bs,b.e.tos.length<=6)(hc:(waysL (esOf bs)).length=cs.length)
  (en:h[jn]?=some (.din true ks ws))(ek: ∀k,atK ks ws k=(lk rs k).map W.int)(hs: ∀k∈prs n,(lk rs k).isSome=true):
  Ok (bRv [some P,some (.tl (cs.map W.int)),some t,some (.tl ((prs n).map kyW)),some (.loc jn),a,b,c,none]) h fun w h'=>w=.rt (.bl ((prs n).all fun k=>decide (lowN (gsum (zsL (esOf bs) cs)) (vl rs) k<=vl rs k)))/\Nw h h':=by
 unfold bRv
 have hat: ∀k,(lk rs k).isSome=true->atK ks ws k=some (.int (vl rs k)):=fun k hk=>by
  rw[ek]
  unfold vl
  obtain⟨v,e⟩:=Option.isSome_iff_exists.mp hk
  rw[e];rfl
 simp!
 refine bC (qU hp hx hl hb hc) fun w h1 qq_=>?_
 obtain⟨jg,gk,gw,ew,D,GG⟩:=qq_
 subst ew
 have lz:=(gN n6).1
 have pl:=(gO n6).2
 have gl: ∀ {α:Type} (q:M α),gd (((prs n).map kyW).length<=sizeLine) q=q:=fun q=>ap (by rw[List.length_map,pl.length_eq];exact sz (by omega))
 generalize gsum (zsL (esOf bs) cs)=G at *
 simp! only[aa,fg,gl]
 refine cC (I:=fun i l h'=>h'=h1/\l=(((prs n).take i).map fun k=>decide (lowN G (vl rs) k<=vl rs k)).map W.bl) ⟨rfl,rfl⟩ du (fun _ _ _ _=>trivial) (fun i w l h' hw I=>?_) fun l h' I=>?_
 ·obtain⟨rfl,rfl⟩:=I
  rw[List.getElem?_map] at hw
  obtain⟨k,hk,rfl⟩:=Option.map_eq_some_iff.mp hw
  have km:=List.mem_of_getElem? hk
  refine⟨[some (.tup (k.2.map W.int)),some (.int k.1),none,some P,some (.tl (cs.map W.int)),some t,some (.tl ((prs n).map kyW)),some (.loc jn),a,b,c,some (.loc jg)],rfl,?_⟩
  have e1:=kq (D.nw.get en)
  simp! only[List.replicate,List.cons_append,List.nil_append,aa,tupW]
  refine jZ e1 (hat k (hs k km)) ?_
  simp!
  have cc:k≠kf->SK k/\ ∀p∈lst0 (wo k.2 k.1),atK ks ws (p,wo k.2 k.1)=some (.int (vl rs (p,wo k.2 k.1))):=fun ne=>by
   obtain⟨q1,q2⟩:=kb n6 (pl.mem_iff.mp km) ne
   exact⟨q1,fun p hp=>hat _ (hs _ (pl.mem_iff.mpr (q2 p hp)))⟩
  refine bC (u9 (F:=vl rs) D.new GG e1 cc) fun w h2 qq_=>?_
  obtain⟨ew,e2⟩:=qq_
  subst ew e2
  simp!
  refine av ⟨rfl,?_⟩
  rw[aC hk,List.map_append,List.map_append]
  rfl
 ·obtain⟨rfl,rfl⟩:=I
  rw[List.length_map,List.take_length]
  simp! only[aa,vF]
  refine av ⟨?_,D.nw⟩
  rw[List.all_map]
  rfl
theorem pH {h:List Ob}{P x:W}{bs:List B23}{cs:List Int}{m:Nat}{rs:List (PKy×Int)}(hp:ixW P (.int 1)=pr x)(hx:Lw h x (bs.map B23.w))(hm:bs.length=m)(m1:1<=m)(m2:m<=6)(hb: ∀b∈bs,b.e.tos.length<=6)(hc:(waysL (esOf bs)).length=cs.length)(lr:rs.length<=1000):
  Ok (dL [P,.tl (cs.map W.int),.tl (rs.map rwW)]) h fun w h'=>w=.bl (jS (m - 1) (gsum (zsL (esOf bs) cs)) rs)/\Nw h h':=by
 have e0:dL [P,.tl (cs.map W.int),.tl (rs.map rwW)]=bd (eP [some P,some (.tl (cs.map W.int)),some (.tl (rs.map rwW)),none,none,none,none,none,none]) finF:=rfl
 rw[e0,iG]
 obtain⟨n,hn⟩: ∃n,n=m - 1:=⟨_,rfl⟩
 have n6:n<6:=by omega
 rw[<-hn]
 obtain⟨N,hN⟩: ∃N:Int,N=(m:Int):=⟨_,rfl⟩
 have lz:=(gN n6).1
 have pl:=(gO n6).2
 have gl: ∀ {α:Type} (q:M α),gd (((prs n).map kyW).length<=sizeLine) q=q:=fun q=>ap (by rw[List.length_map,pl.length_eq];exact sz (by omega))
 have v2:=fun (h:List Ob) (jn:Nat) (a b c:Option W) (ks:List PKy) (ws:List W) hx en ek hs=>vC (h:=h) (P:=P) (x:=x) (t:=.tl (rs.map rwW)) (bs:=bs) (cs:=cs) (n:=n) (jn:=jn) (a:=a) (b:=b) (c:=c) (ks:=ks) (ws:=ws) (rs:=rs) hp hx (by omega) n6 hb hc en ek hs
 generalize W.tl (cs.map W.int)=CW at *
 simp! only[aa,hp]
 refine Lw.len_eq hx (N:=N) (by rw[List.length_map,hm];exact hN) ?_
 simp!
 refine bC (pY hN m1 m2 h) fun w h1 qq_=>?_
 obtain⟨ew,N1⟩:=qq_
 rw[<-hn,show keyW true=kyW from rfl] at ew
 subst ew
 simp!
 refine qd ?_
 simp! only[aa,fg]
 refine dz (I:=fun i ρ h'=> ∃a b c ks ws,ρ=[some P,some CW,some (.tl (rs.map rwW)),some (.tl ((prs n).map kyW)),some (.loc h1.length),a,b,c,none]/\Nf h1 h' (.din true ks ws)/\ks.length=ws.length/\ks.length<=i/\ ∀k,atK ks ws k=(lk (rs.take i) k).map W.int) ⟨_,_,_,[],[],rfl,Nf.mk0,rfl,Nat.le_refl _,fun _=>rfl⟩ (fun _ _ _ _=>trivial) (fun i w' ρ h2 hw I=>?_) fun ρ h2 I=>?_
 ·obtain⟨a,b,c,ks,ws,rfl,N2,l1,l2,ek⟩:=I
  rw[List.getElem?_map] at hw
  obtain⟨r,hr,rfl⟩:=Option.map_eq_some_iff.mp hw
  have hi:=(List.getElem?_eq_some_iff.mp hr).1
  obtain⟨⟨p,s⟩,v⟩:=r
  refine⟨[some P,some CW,some (.tl (rs.map rwW)),some (.tl ((prs n).map kyW)),some (.loc h1.length),some (.tup (s.map W.int)),some (.int p),some (.int v),none],rfl,?_⟩
  simp! only[aa,fq,tupW]
  rcases ep:putW ks ws (p,s) (.int v) with⟨ks',ws'⟩
  obtain⟨g1,g2,g3⟩:=kz l1 ep
  refine p9 N2.new (Nat.lt_of_le_of_lt (show _<=1000 by omega) (by decide)) ep ?_
  simp!
  refine av ⟨_,rfl,_,_,_,ks',ws',rfl,N2.put _,g1,by omega,fun k=>?_⟩
  rw[aC hr,sN,g3]
  by_cases e:(p,s)=k
  ·rw[if_pos e,if_pos e];rfl
  ·rw[if_neg e,if_neg e];exact ek k
 ·obtain⟨a,b,c,ks,ws,rfl,N2,l1,l2,ek⟩:=I
  rw[List.length_map,List.take_length] at ek
  unfold bRt
  unfold jS
  by_cases q:((rs.map rwW).length:Int)=(((prs n).map kyW).length:Int)
  ·have q':rs.length=(prs n).length:=by rw[List.length_map,List.length_map] at q;omega
   rw[decide_eq_true q',Bool.true_and]
   simp! only[aa,decide_eq_true q,fg,gl]
   refine cC (I:=fun i l h'=>h'=h2/\l=(((prs n).take i).map fun k=>!(lk rs k).isSome).map W.bl) ⟨rfl,rfl⟩ du (fun _ _ _ _=>trivial) (fun i w' l h' hw I=>?_) fun l h' I=>?_
   ·obtain⟨rfl,rfl⟩:=I
    rw[List.getElem?_map] at hw
    obtain⟨k,hk,rfl⟩:=Option.map_eq_some_iff.mp hw
    refine⟨_,rfl,?_⟩
    unfold kyW
    simp! only[List.replicate,List.cons_append,List.nil_append,aa,tupW]
    refine v9 (a:=.bl ((atK ks ws k).isSome !=true)) (h':=h') ?_ ⟨rfl,?_⟩
    ·unfold inNW
     simp only[kq N2.new,ke]
    ·rw[aC hk,List.map_append,List.map_append,List.map_cons,List.map_cons,ek,Option.isSome_map]
     cases (lk rs k).isSome<;>rfl
   ·obtain⟨rfl,rfl⟩:=I
    rw[List.length_map,List.take_length]
    simp! only[aa,vE]
    by_cases s:(prs n).all (fun k=>(lk rs k).isSome)=true
    ·have s1:((prs n).map fun k=>!(lk rs k).isSome).any id=false:=by
      rw[List.any_map,List.any_eq_false]
      intro k hk
      have:=List.all_eq_true.mp s k hk
      show¬(!(lk rs k).isSome)=true
      rw[this];simp
     rw[s1,s,Bool.true_and]
     simp!
     refine bC (v2 _ _ _ _ _ _ _ ((hx.keep N1.eq).keep N2.nw.eq) N2.new ek fun k hk=>List.all_eq_true.mp s k hk) fun x h3 qq_=>?_
     obtain⟨ex,N3⟩:=qq_
     subst ex
     simp!
     exact av ⟨rfl,(N1.trans N2.nw).trans N3⟩
    ·have s1:((prs n).map fun k=>!(lk rs k).isSome).any id=true:=by
      rw[List.any_map,List.any_eq_true]
      have s2:(prs n).all (fun k=>(lk rs k).isSome)=false:=by rw[<-Bool.not_eq_true];exact s
      obtain⟨k,hk,e⟩:=List.all_eq_false.mp s2
      exact⟨k,hk,by show (!(lk rs k).isSome)=true;rw[Bool.not_eq_true] at e;rw[e];rfl⟩
     have s2:(prs n).all (fun k=>(lk rs k).isSome)=false:=by rw[<-Bool.not_eq_true];exact s
     rw[s1,s2,Bool.false_and]
     simp!
     exact av ⟨rfl,N1.trans N2.nw⟩
  ·have q': ¬(rs.length=(prs n).length):=by rw[List.length_map,List.length_map] at q;omega
   rw[decide_eq_false q',Bool.false_and]
   simp! only[aa,decide_eq_false q]
   exact av ⟨rfl,N1.trans N2.nw⟩
end
set_option maxHeartbeats 1000000
section
theorem qH (F:PKy->Int)(k:PKy): ∀ (l:List PKy),lk (l.map fun k=>(k,F k)) k=if k∈l then some (F k) else none:=by
 have: ∀ (l:List PKy) (o:Option Int),(l.map fun k=>(k,F k)).foldl (fun o r=>if r.1=k then some r.2 else o) o=if k∈l then some (F k) else o:=by
  intro l
  induction l with
  |nil=>intro o;rw[if_neg List.not_mem_nil];rfl
  |cons q l ih=>
   intro o
   rw[List.map_cons,List.foldl_cons,ih]
   by_cases e:q=k
   ·subst e
    rw[if_pos List.mem_cons_self]
    split<;>simp
   ·have:(k∈q::l)=(k∈l):=by
     rw[List.mem_cons]
     have:k≠q:=fun z=>e z.symm
     simp [this]
    simp only[this,e,if_false]
 intro l
 exact this l none
theorem o8 {F:PKy->Int}{l:List PKy}{k:PKy}(h:k∈l):vl (l.map fun k=>(k,F k)) k=F k:=by
 unfold vl
 rw[qH,if_pos h]
 rfl
theorem mj {n:Nat}(n6:n<6){G:Int->Int->Int}{F:PKy->Int}{l:List PKy}(hl:l.Perm (lpr n)):jS n G (l.map fun k=>(k,F k))=(prs n).all fun k=>decide (lowN G F k<=F k):=by
 have pl:=(gO n6).2
 have mem: ∀ {k},k∈lpr n->k∈l:=fun h=>hl.mem_iff.mpr h
 unfold jS
 have e1:(l.map fun k=>(k,F k)).length=(prs n).length:=by rw[List.length_map,hl.length_eq,pl.length_eq]
 have e2:(prs n).all (fun k=>(lk (l.map fun k=>(k,F k)) k).isSome)=true:=List.all_eq_true.mpr fun k hk=>by
  rw[qH,if_pos (mem (pl.mem_iff.mp hk))];rfl
 rw[decide_eq_true e1,e2,Bool.true_and,Bool.true_and,Bool.eq_iff_iff,List.all_eq_true,List.all_eq_true]
 have e3: ∀k∈prs n,decide (lowN G (vl (l.map fun k=>(k,F k))) k<=vl (l.map fun k=>(k,F k)) k)=decide (lowN G F k<=F k):=fun k hk=>by
  have km:=pl.mem_iff.mp hk
  rw[o8 (mem km)]
  congr 1
  unfold lowN
  by_cases e:k=kf
  ·rw[if_pos e,if_pos e]
  ·rw[if_neg e,if_neg e,mG fun p hp=>o8 (mem ((kb n6 km e).2 p hp))]
 exact⟨fun h k hk=>by rw[<-e3 k hk];exact h k hk,fun h k hk=>by rw[e3 k hk];exact h k hk⟩
theorem uk {ss:List Int}(h:∀s∈ss,0<=s)(n:Nat)(k:PKy):0<=slS ss n k:=by
 unfold slS slA
 cases e:ss[(lpr n).idxOf k % ss.length]? with
 |none=>exact Int.le_refl _
 |some s=>exact h s (List.mem_of_getElem? e)
theorem rJ {n:Nat}(n6:n<6){G:Int->Int->Int}{S:PKy->Int}(h:∀k,0<=S k):((prs n).all fun k=>decide (lowN G (Fn G S) k<=Fn G S k))=true:=List.all_eq_true.mpr fun k hk=>by
 have km:=(gO n6).2.mem_iff.mp hk
 refine decide_eq_true ?_
 unfold lowN
 by_cases e:k=kf
 ·rw[if_pos e,e,tV];exact h _
 ·rw[if_neg e,tU G S (kb n6 km e).1]
  have:=h k
  omega
theorem wl {α:Type}(l:List α)(h:1<=l.length):cutW l (some 1) none=l.drop 1:=by
 unfold cutW
 show (l.drop (if (1:Int)<0 then ((1:Int)+(l.length:Int)).toNat else min (1:Int).toNat l.length)).take (l.length - (if (1:Int)<0 then ((1:Int)+(l.length:Int)).toNat else min (1:Int).toNat l.length))=_
 rw[if_neg (by omega),show (1:Int).toNat=1 from rfl,Nat.min_eq_left h,List.take_of_length_le (by rw[List.length_drop];exact Nat.le_refl _)]
theorem vt {α:Type}(l:List α)(h:1<=l.length):cutW l none (some 1)=l.take 1:=by
 unfold cutW
 show (l.drop 0).take ((if (1:Int)<0 then ((1:Int)+(l.length:Int)).toNat else min (1:Int).toNat l.length) - 0)=_
 rw[if_neg (by omega),show (1:Int).toNat=1 from rfl,List.drop_zero,Nat.sub_zero,Nat.min_eq_left h]
theorem nZ {n:Nat}(n6:n<6)(F:PKy->Int): ∃κ:List PKy,sortW [.tl (((lpr n).map fun k=>(k,F k)).map rwW)]=pr (.tl ((κ.map fun k=>(k,F k)).map rwW))/\κ.Perm (lpr n):=by
 obtain⟨π,e1,e2,e3,e4⟩:=vA n6
 refine⟨_,?_,e4⟩
 have nd:=(gO n6).1
 have lz:=(gN n6).1
 have o:optL rowW (((lpr n).map fun k=>(k,F k)).map rwW)=some ((lpr n).map fun k=>((k.2,k.1),F k)):=by
  rw[List.map_map]
  exact cz (f:=rowW) (g:=fun k=>rwW (k,F k)) (k:=fun k:PKy=>((k.2,k.1),F k)) (fun k=>by
   show (optL iOf (k.2.map W.int)).map (fun ks=>((ks,k.1),F k))=_
   rw[iOfs];rfl) _
 show bd (lstOf (.tl (((lpr n).map fun k=>(k,F k)).map rwW))) (fun l=>match optL rowW l with
  |some rs=>gd (1<=rs.length/\rs.length<=1000/\(rs.map (·.1)).Nodup) (match rSort rs with
   |some π=>gd (piOk π rs.length) (pr (W.tl (π.toList.map fun i=>l.getD i .non)))
   |none=>no)
  |none=>no)=_
 rw[dE,aV,o]
 dsimp only
 rw[rS,e1]
 dsimp only
 have nd2:(((lpr n).map fun k=>(((k.2,k.1),F k):(List Int×Int)×Int)).map (·.1)).Nodup:=by
  rw[List.map_map]
  exact List.Pairwise.map _ (fun a b (h:a≠b) (e:(a.2,a.1)=(b.2,b.1))=>h (by injection e with e1 e2;exact Prod.ext e2 e1)) nd
 have l1:1<=(lpr n).length:=by unfold lpr;simp
 rw[List.length_map,ap ⟨l1,by omega,nd2⟩,ap ⟨e2,e3⟩]
 congr 2
 simp only[List.map_map]
 refine List.map_congr_left fun i hi=>?_
 show ((lpr n).map (rwW∘fun k=>(k,F k))).getD i .non=rwW ((lpr n).getD i kf,F ((lpr n).getD i kf))
 rw[List.getD_eq_getElem?_getD,List.getD_eq_getElem?_getD,List.getElem?_map,List.getElem?_eq_getElem (e3 i hi)]
 rfl
theorem rQ {h:List Ob}{n:Nat}(n6:n<6)(F:PKy->Int)(t:Int):Ok (dH [.dn true (lpr n) ((lpr n).map fun k=>.int (F k)),.int t]) h fun w h'=> ∃κ:List PKy,w=.tl ((κ.map fun k=>(k,F k)).map rwW)/\κ.Perm (lpr n)/\h'=h:=by
 have e0:dH [.dn true (lpr n) ((lpr n).map fun k=>.int (F k)),.int t]=bd (eI [some (.dn true (lpr n) ((lpr n).map fun k=>.int (F k))),some (.int t),none]) finF:=rfl
 rw[e0]
 unfold eI
 have lz:=(gN n6).1
 have sD:srcD (.dn true (lpr n) ((lpr n).map fun k=>.int (F k)))=pr ⟨(lpr n).map kyW,fun _=>True⟩:=rfl
 have dN: ∀h,dinOf (.dn true (lpr n) ((lpr n).map fun k=>.int (F k))) h=some (true,lpr n,(lpr n).map fun k=>.int (F k)):=fun h=>rfl
 have gl: ∀ {α:Type} (q:M α),gd (((lpr n).map kyW).length<=sizeLine) q=q:=fun q=>ap (by rw[List.length_map];exact sz (by omega))
 generalize W.dn true (lpr n) ((lpr n).map fun k=>.int (F k))=X at *
 simp! only[aa,sD,gl]
 refine cC (I:=fun i l h'=>h'=h/\l=(((lpr n).take i).map fun k=>(k,F k)).map rwW) ⟨rfl,rfl⟩ du (fun _ _ _ _=>trivial) (fun i w' l h' hw I=>?_) fun l h' I=>?_
 ·obtain⟨rfl,rfl⟩:=I
  rw[List.getElem?_map] at hw
  obtain⟨k,hk,rfl⟩:=Option.map_eq_some_iff.mp hw
  refine⟨[some (.tup (k.2.map W.int)),some (.int k.1),none,some X,some (.int t),none],rfl,?_⟩
  simp! only[List.replicate,List.cons_append,List.nil_append,aa,tupW]
  refine jZ (dN h') (kB (f:=fun k=>.int (F k)) (List.mem_of_getElem? hk)) ?_
  simp! only[aa,tupW]
  refine av ⟨rfl,?_⟩
  rw[aC hk,List.map_append,List.map_append]
  rfl
 ·obtain⟨rfl,rfl⟩:=I
  rw[List.length_map,List.take_length]
  obtain⟨κ,e1,e2⟩:=nZ n6 F
  have l1:1<=(((lpr n).map fun k=>(k,F k)).map rwW).length:=by unfold lpr;simp
  have rv:revW (.tl (((lpr n).map fun k=>(k,F k)).map rwW)) (some (-1))=pr (.tl (((lpr n).reverse.map fun k=>(k,F k)).map rwW)):=by
   show bd (pr (((lpr n).map fun k=>(k,F k)).map rwW)) (fun l=>pr (W.tl l.reverse))=_
   rw[aV,List.map_reverse,List.map_reverse]
  have ad:addW (.tl (cutW (((lpr n).map fun k=>(k,F k)).map rwW) (some 1) none)) (.tl (cutW (((lpr n).map fun k=>(k,F k)).map rwW) none (some 1)))=pr (.tl (((((lpr n).drop 1++(lpr n).take 1)).map fun k=>(k,F k)).map rwW)):=by
   rw[wl _ l1,vt _ l1,kD,List.map_append,List.map_append,List.map_drop,List.map_drop,List.map_take,List.map_take]
   rw[List.length_drop,List.length_take,List.length_map,List.length_map]
   exact sz (by omega)
  simp!
  by_cases t0:t=0
  ·simp! only[aa,decide_eq_true t0,e1]
   exact av ⟨κ,rfl,e2,rfl⟩
  ·simp! only[aa,decide_eq_false t0]
   by_cases t1:t=1
   ·simp! only[aa,decide_eq_true t1,mRev,rv]
    exact av ⟨_,rfl,List.reverse_perm _,rfl⟩
   ·simp! only[aa,decide_eq_false t1,ad]
    refine av ⟨_,rfl,?_,rfl⟩
    have:=List.perm_append_comm (l₁:=(lpr n).drop 1) (l₂:=(lpr n).take 1)
    rw[List.take_append_drop] at this
    exact this
end
set_option maxHeartbeats 1000000
section
noncomputable abbrev ev (m:Nat):List Int:=(List.range m).map Int.ofNat
theorem iV: ∀ (n:Nat) (lo:Int),intsW lo n=(List.range n).map fun i=>W.int (lo+(i:Nat))
 |0,_=>rfl
 |n+1,lo=>by
  rw[intsW,iV n,List.range_succ_eq_map,List.map_cons,List.map_map]
  congr 1
  ·show W.int lo=W.int (lo+0)
   rw[Int.add_zero]
  ·refine List.map_congr_left fun i _=>?_
   show W.int (lo+1+(i:Nat))=W.int (lo+((i+1:Nat):Int))
   congr 1
   omega
theorem sU (m:Nat):intsW 0 m=(ev m).map W.int:=by
 rw[iV,List.map_map]
 refine List.map_congr_left fun i _=>?_
 show W.int (0+(i:Nat))=W.int (Int.ofNat i)
 rw[Int.zero_add]
 rfl
theorem jo (ns:List Int):sumW [.tl (ns.map W.int)]=pr (.int ns.sum):=by
 show (match optL iOf (ns.map W.int) with
  |some ns=>(pr (W.int ns.sum):M W)
  |none=>no)=_
 rw[iOfs]
theorem rC {h:List Ob}{P x:W}{bs:List B23}{cs:List Int}{m:Nat}{rs:List (PKy×Int)}(hp:ixW P (.int 1)=pr x)(hx:Lw h x (bs.map B23.w))(hm:bs.length=m)(m2:m<=6)(lr:rs.length<=1000)(ne:(rs.filter fun r=>decide (r.1.2=ev m))≠ []):
  Ok (dM [P,.tl (cs.map W.int),.tl (rs.map rwW)]) h fun w h'=>w=.int (cs.sum - maxZ ((rs.filter fun r=>decide (r.1.2=ev m)).map (·.2)))/\h'=h:=by
 have e0:dM [P,.tl (cs.map W.int),.tl (rs.map rwW)]=bd (eQ [some P,some (.tl (cs.map W.int)),some (.tl (rs.map rwW)),none]) finF:=rfl
 rw[e0]
 unfold eQ
 obtain⟨N,hN⟩: ∃N:Int,N=(m:Int):=⟨_,rfl⟩
 have tr:tr1W [.int N]=pr (.tup ((ev m).map W.int)):=by
  show gd ((-(2 ^ 62)<=N/\N<2 ^ 62)/\N.toNat<=sizeLine) (pr (W.tup (intsW 0 N.toNat)))=_
  rw[ap ⟨⟨by omega,by omega⟩,sz (by omega)⟩,show N.toNat=m by omega,sU]
 have gl: ∀ {α:Type} (q:M α),gd ((rs.map rwW).length<=sizeLine) q=q:=fun q=>ap (by rw[List.length_map];exact sz (by omega))
 simp! only[aa,hp]
 refine Lw.len_eq hx (N:=N) (by rw[List.length_map,hm];exact hN) ?_
 generalize ev m=E at *
 have sm:=jo cs
 generalize W.tl (cs.map W.int)=CW at *
 simp! only[aa,tr,sm,fg,gl]
 refine gj (I:=fun i l h'=>h'=h/\l=(((rs.take i).filter fun r=>decide (r.1.2=E)).map (·.2)).map W.int) ⟨rfl,rfl⟩ (fun _ _ _ _=>trivial) (fun i w' l h' hw I=>?_) fun l h' I=>?_
 ·obtain⟨rfl,rfl⟩:=I
  rw[List.getElem?_map] at hw
  obtain⟨r,hr,rfl⟩:=Option.map_eq_some_iff.mp hw
  obtain⟨⟨p,s⟩,v⟩:=r
  refine⟨[some (.tup (s.map W.int)),some (.int p),some (.int v),none,some P,some CW,some (.tl (rs.map rwW)),some (.tup (E.map W.int))],rfl,?_⟩
  simp! only[List.replicate,List.cons_append,List.nil_append,aa,eqT]
  rw[aC hr,List.filter_append]
  by_cases e:s=E
  ·refine av (.inr ⟨decide_eq_true e,av ⟨rfl,?_⟩⟩)
   rw[List.filter_cons_of_pos (by exact decide_eq_true e),List.map_append,List.map_append]
   rfl
  ·refine av (.inl ⟨decide_eq_false e,rfl,?_⟩)
   rw[List.filter_cons_of_neg (by simp only[decide_eq_true_eq];exact e),List.filter_nil,List.append_nil]
 ·obtain⟨rfl,rfl⟩:=I
  rw[List.length_map,List.take_length]
  simp! only[aa,kj (show (rs.filter fun r=>decide (r.1.2=E)).map (·.2)≠ [] from fun z=>ne (List.map_eq_nil_iff.mp z))]
  exact av ⟨rfl,rfl⟩
end
set_option maxHeartbeats 1000000
section
theorem uY (c:Int):cI [.int c,.int c]=pr (.bl true):=by
 have e0:cI [.int c,.int c]=bd (di [some (.int c),some (.int c)]) finF:=rfl
 rw[e0]
 unfold di
 simp! only[aa,nE (i:=c) (c:= "int") (b:=true) (by decide) (by decide),nE (i:=c) (c:= "bool") (b:=false) (by decide) (by decide),eq_self,decide_true]
theorem vn (cs:List Int):eqW (.tl (cs.map W.int)) (.tl (cs.map W.int))=pr (.bl true):=qW (jU cs (n:=48))
theorem vm {rs:List (PKy×Int)}(lr:rs.length<=1000)(ls: ∀r∈rs,r.1.2.length<=1000):eqW (.tl (rs.map rwW)) (.tl (rs.map rwW))=pr (.bl true):=oP (fun a e=>by cases e) (.lst (by rw[List.length_map];exact lr) fun x hx=>by
 obtain⟨r,hr,rfl⟩:=List.mem_map.mp hx
 exact pdT (by simp) (aI (pdT (by rw[List.length_map];exact ls r hr) (jU _ (n:=46))) (aI .int (aI .int da))))
theorem sI {h:List Ob}{j:Nat}(R:Pot h j):Ok (dJ [.loc j]) h fun w h'=> ∃ (N:Int) (m:Nat),w=.int N/\N=(m:Int)/\1<=m/\m<=6/\Kn j h h':=by
 have e0:dJ [.loc j]=bd (eO [some (.loc j)]) finF:=rfl
 rw[e0]
 unfold eO
 simp!
 refine bB R (by decide) (by decide) fun v h1 v0 v1 K1=>?_
 by_cases c:v=0
 ·simp! only[aa,decide_eq_true c]
  exact av ⟨6,6,rfl,rfl,by decide,by decide,K1.kn⟩
 ·simp! only[aa,decide_eq_false c]
  refine bB K1.re (by decide) (by decide) fun u h2 u0 u1 K2=>?_
  simp!
  exact av ⟨1+u,(1+u).toNat,rfl,by omega,by omega,by omega,K1.kn.trans K2.kn⟩
theorem qS {n:Nat}(n6:n<6){κ:List PKy}{F:PKy->Int}(hk:κ.Perm (lpr n)):((κ.map fun k=>(k,F k)).filter fun r=>decide (r.1.2=ev (n+1)))≠ []:=by
 obtain⟨h1,k,km,hl⟩:=rl n6
 intro z
 have:(k,F k)∈((κ.map fun k=>(k,F k)).filter fun r=>decide (r.1.2=ev (n+1))):=List.mem_filter.mpr ⟨List.mem_map.mpr ⟨k,hk.mem_iff.mpr km,rfl⟩,by
  show decide (k.2=ev (n+1))=true
  rw[<-h1 k km]
  exact decide_eq_true hl⟩
 rw[z] at this
 exact absurd this List.not_mem_nil
theorem qT {n:Nat}(n6:n<6){κ:List PKy}{F:PKy->Int}(hk:κ.Perm (lpr n)):((κ.map fun k=>(k,F k)).filter fun r=>decide (r.1.2.length=n+1))=(κ.map fun k=>(k,F k)).filter fun r=>decide (r.1.2=ev (n+1)):=List.filter_congr fun r hr=>by
 obtain⟨k,km,rfl⟩:=List.mem_map.mp hr
 exact (rl n6).1 k (hk.mem_iff.mp km)
theorem sM {n:Nat}(n6:n<6){k:PKy}(h:k∈lpr n):k.2.length<=1000:=by
 by_cases e:k=kf
 ·rw[e];decide
 ·have:=(kb n6 h e).1.le
  omega
theorem sP (ns:List Int)(hh:List Ob):Ok (jE [.cl (ns.map W.int)]) hh fun w _=>w=.bl true:=by
 have e0:jE [.cl (ns.map W.int)]=bd (nJ [some (.cl (ns.map W.int)),none,none,none,none,none,none,none,none]) finF:=rfl
 rw[e0]
 unfold nJ
 simp!
 refine bC (r6 ns hh) fun w h1 qq_=>?_
 obtain⟨ks,ew,hk,k63,P1⟩:=qq_
 subst ew
 have lk0:0<ks.length:=List.length_pos_iff.mpr hk
 obtain⟨k0,hk0,ek0⟩:=kg (ks:=ks) (i:=0) (by decide) (by omega)
 have sl:=fun h P=>n9 (h:=h) (ks:=ks) hk (by omega) P
 have ct:=fun h bs hl hb P=>oV (h:=h) (ks:=ks) (bs:=bs) hk hl hb P
 generalize W.tl (ks.map W.loc)=PW at *
 simp! only[aa,ek0]
 refine bC (sI (P1 k0 hk0)) fun w h2 qq_=>?_
 obtain⟨N,m,ew,hN,m1,m2,K2⟩:=qq_
 subst ew
 have P2:=P1.kn K2
 simp! only[aa,ek0]
 refine bC (mo hN m1 (by omega) (P2 k0 hk0)) fun w h3 qq_=>?_
 obtain⟨bs,ew,lb,gb,K3⟩:=qq_
 subst ew
 have P3:=P2.kn K3
 have hl:bs.length<=10:=by omega
 have h6: ∀b∈bs,b.e.tos.length<=6:=fun b hb=>(gb b hb).six
 have hp:ixW (pgW bxW bs) (.int 1)=pr (.tl (bs.map B23.w)):=ix1 ..
 have ct3:=ct h3 bs hl h6 P3
 have hx: ∀h,Lw h (.tl (bs.map B23.w)) (bs.map B23.w):=fun h=>.inl rfl
 have eB:lenW [.tl (bs.map B23.w)]=pr (.int N):=by rw[lenW_tl,List.length_map,lb,hN]
 generalize pgW bxW bs=GW at *
 generalize W.tl (bs.map B23.w)=BW at *
 simp! only[aa,hp]
 refine bC ct3 fun w h4 qq_=>?_
 obtain⟨cs,ew,lc,c0,Y4⟩:=qq_
 subst ew
 simp! only[aa,hp]
 refine bC (sl h4 Y4.re) fun w h5 qq_=>?_
 obtain⟨ss,ew,ls,s0,Y5⟩:=qq_
 subst ew
 obtain⟨n,rfl⟩: ∃n,m=n+1:=⟨m - 1,by omega⟩
 have n6:n<6:=by omega
 have ssn:ss≠ []:=fun z=>by rw[z] at ls;simp at ls;omega
 have pp:=pX (h:=h5) (ss:=ss) (hx h5) lb m1 m2 h6 lc ssn
 have rg:=fun h rs lr=>pH (h:=h) (rs:=rs) hp (hx h) lb m1 m2 h6 lc lr
 have bo:=fun h rs lr ne=>rC (h:=h) (cs:=cs) (rs:=rs) hp (hx h) lb m2 lr ne
 have sm:=jo cs
 have ec:=vn cs
 have eS:(n+1 - 1)=n:=rfl
 rw[eS] at pp rg
 have rt:=rJ n6 (G:=gsum (zsL (esOf bs) cs)) (uk s0 n)
 generalize gsum (zsL (esOf bs) cs)=G at *
 generalize W.tl (ss.map W.int)=SW at *
 generalize Fn G (slS ss n)=F at *
 simp! only[aa,hp]
 refine bC pp fun w h6 qq_=>?_
 obtain⟨ew,N6⟩:=qq_
 subst ew
 have P6:=Y5.re.nw N6
 have rw6:=fun h t=>rQ (h:=h) n6 F t
 generalize W.dn true (lpr n) ((lpr n).map fun k=>.int (F k))=NW at *
 simp! only[aa,ek0]
 refine bB (P6 k0 hk0) (by decide) (by decide) fun t h7 t0 t1 K7=>?_
 simp!
 refine bC (rw6 h7 t) fun w h8 qq_=>?_
 obtain⟨κ,ew,hκ,e8⟩:=qq_
 subst ew e8
 have lz:=(gN n6).1
 have lr:(κ.map fun k=>(k,F k)).length<=1000:=by rw[List.length_map,hκ.length_eq];omega
 have rg1:=rg h8 (κ.map fun k=>(k,F k)) lr
 rw[mj n6 hκ,rt] at rg1
 have ne:=qS n6 (F:=F) hκ
 have ge:=qT n6 (F:=F) hκ
 have er:=vm lr fun r hr=>by
  obtain⟨k,km,rfl⟩:=List.mem_map.mp hr
  exact sM n6 (hκ.mem_iff.mp km)
 generalize (κ.map fun k=>(k,F k))=rs at *
 have bo1:=fun h=>bo h rs lr ne
 have gl: ∀ {α:Type} (q:M α),gd ((rs.map rwW).length<=sizeLine) q=q:=fun q=>ap (by rw[List.length_map];exact sz (by omega))
 simp! only[aa,dE]
 generalize W.tl (cs.map W.int)=CW at *
 refine bC rg1 fun w h9 qq_=>?_
 obtain⟨ew,N9⟩:=qq_
 subst ew
 have nb:notBW (.bl true) (.bl true)=pr (.bl false):=rfl
 simp! only[aa,nb,fg,gl]
 refine gj (I:=fun i l h'=>h'=h9/\l=(((rs.take i).filter fun r=>decide (r.1.2.length=n+1)).map (·.2)).map W.int) ⟨rfl,rfl⟩ (fun _ _ _ _=>trivial) (fun i w' l h' hw I=>?_) fun l h' I=>?_
 ·obtain⟨rfl,rfl⟩:=I
  rw[List.getElem?_map] at hw
  obtain⟨r,hr,rfl⟩:=Option.map_eq_some_iff.mp hw
  obtain⟨⟨p,s⟩,v⟩:=r
  refine⟨[some (.tup (s.map W.int)),some (.int p),some (.int v),none,some (.cl (ns.map W.int)),some PW,some GW,some CW,some NW,some (.tl (rs.map rwW)),some (.tl (rs.map rwW)),some CW,none],rfl,?_⟩
  have eS:lenW [.tup (s.map W.int)]=pr (.int (s.length:Int)):=by rw[lenW_tup,List.length_map]
  generalize W.tup (s.map W.int)=SW at *
  simp! only[List.replicate,List.cons_append,List.nil_append,aa,hp,eB,eS]
  rw[aC hr,List.filter_append]
  by_cases e:s.length=n+1
  ·refine av (.inr ⟨decide_eq_true (by omega),av ⟨rfl,?_⟩⟩)
   rw[List.filter_cons_of_pos (by exact decide_eq_true e),List.map_append,List.map_append]
   rfl
  ·refine av (.inl ⟨decide_eq_false (by omega),rfl,?_⟩)
   rw[List.filter_cons_of_neg (by simp only[decide_eq_true_eq];exact e),List.filter_nil,List.append_nil]
 ·obtain⟨rfl,rfl⟩:=I
  rw[List.length_map,List.take_length,ge]
  have em:=kj (show (rs.filter fun r=>decide (r.1.2=ev (n+1))).map (·.2)≠ [] from fun z=>ne (List.map_eq_nil_iff.mp z))
  have bo2:=bo1 h'
  generalize (rs.filter fun r=>decide (r.1.2=ev (n+1))).map (·.2)=gs at *
  simp! only[aa,em]
  refine bC bo2 fun w h10 qq_=>?_
  obtain⟨ew,e10⟩:=qq_
  subst ew e10
  simp! only[aa,sm,uY]
  simp! only[aa,er,ec]
  exact av rfl
theorem law_true (ns:List Int)(hh:List Ob): ∃h',jE [.cl (ns.map W.int)] hh=.ok (.bl true) h':=by
 obtain⟨w,h',e,rfl⟩:=sP ns hh
 exact⟨h',e⟩
end
end Q
namespace Q
open PySem L2
theorem ln1 {α:Type}: ∀ {us:List α},us.length=1-> ∃a0,us=[a0]
 |[a0],_=>⟨a0,rfl⟩
theorem ln2 {α:Type}: ∀ {us:List α},us.length=2-> ∃a0 a1,us=[a0,a1]
 |[a0,a1],_=>⟨a0,a1,rfl⟩
theorem ln3 {α:Type}: ∀ {us:List α},us.length=3-> ∃a0 a1 a2,us=[a0,a1,a2]
 |[a0,a1,a2],_=>⟨a0,a1,a2,rfl⟩
theorem ln4 {α:Type}: ∀ {us:List α},us.length=4-> ∃a0 a1 a2 a3,us=[a0,a1,a2,a3]
 |[a0,a1,a2,a3],_=>⟨a0,a1,a2,a3,rfl⟩
def spLaw (K:PySem.W.Frag):Sp:=fun vs H Q _=> ∃ (a:Addr) (ns:List Int),vs=[.ref a]/\SqL K H a (ns.map V.int)/\ns.length<=63/\ ∀H',Q (.bl true) H'
theorem kQ {K:PySem.W.Frag}{o:Wo}: ∀ns:List Int,Rvs K o (ns.map W.int) (ns.map V.int)
 |[]=>Rvs.nil
 |n::r=>Rvs.cons (rv_int.mpr rfl) (kQ r)
theorem law_ok {P:Program}{w:World}{K:PySem.W.Frag}{mg:Str->Option Value}{base:Heap}{f:Addr}{fd:FuncData}(C:CG P w K mg base 5 "law" f fd ["script"] 1 jE):FnOk P w K mg base CX0 5 f fd ["script"] (spLaw K):=
 C.ok.imp fun vs H Q E h=>by
  obtain⟨a,ns,rfl,sq,hn,q⟩:=h
  have nl: ¬Lv ⟨fun _=>0,[],H⟩ a:=fun⟨k,b,hk,_⟩=>by simp at hk
  refine⟨⟨fun _=>0,[],H⟩,[.cl (ns.map W.int)],rfl,rfl,⟨fun k b hk=>by simp at hk,fun j k b c hj=>by simp at hj⟩,Rvs.cons ?_ Rvs.nil,?_⟩
  ·unfold Rv
   exact⟨a,_,rfl,sq.imp (fun r=>⟨r,nl⟩) id,kQ ns⟩
  ·obtain⟨h',e⟩:=law_true ns []
   show Ps _ _ _ (jE [.cl (ns.map W.int)] []) Q
   rw[e]
   intro p b _ _ _ rb
   rw[rv_bl.mp rb]
   exact q _
theorem all_mk {l:PySem.W.OpenLaw}{w:World}{K:PySem.W.Frag}{h:Heap}{mg:Str->Option Value}{fa f1 f2 f3 f4 f5 f6 f7 f8 f9 f10 f11 f12 f13 f14 f15 f16 f17 f18 f19 f20 f21 f22 f23 f24 f25 c_FIRST_PAIR e_FIRST_PAIR:Addr}(X:K.In h)(G:h.Ns mainGlobals mg)(hfa:mg "law"=some (.ref fa))
  {od1 an1 od2 an2 od3 an3 od4 an4 od5 an5 od6 an6 od7 an7 od8 an8 od9 an9 od10 an10 od11 an11 od12 an12 od13 an13 od14 an14 od15 an15 od16 an16 od17 an17 od18 an18 od19 an19 od20 an20 od21 an21 od22 an22 od23 an23 od24 an24 od25 an25:Option Addr}{sl1 sl2 sl3 sl4 sl5 sl6 sl7 sl8 sl9 sl10 sl11 sl12 sl13 sl14 sl15 sl16 sl17 sl18 sl19 sl20 sl21 sl22 sl23 sl24 sl25:Array (Option Value)}{oc1 kV1 dc1 pm1 cd1 ct1 oc2 kV2 dc2 pm2 cd2 ct2 oc3 kV3 dc3 pm3 cd3 ct3 oc4 kV4 dc4 pm4 cd4 ct4 oc5 kV5 dc5 pm5 cd5 ct5 oc6 kV6 dc6 pm6 cd6 ct6 oc7 kV7 dc7 pm7 cd7 ct7 oc8 kV8 dc8 pm8 cd8 ct8 oc9 kV9 dc9 pm9 cd9 ct9 oc10 kV10 dc10 pm10 cd10 ct10 oc11 kV11 dc11 pm11 cd11 ct11 oc12 kV12 dc12 pm12 cd12 ct12 oc13 kV13 dc13 pm13 cd13 ct13 oc14 kV14 dc14 pm14 cd14 ct14 oc15 kV15 dc15 pm15 cd15 ct15 oc16 kV16 dc16 pm16 cd16 ct16 oc17 kV17 dc17 pm17 cd17 ct17 oc18 kV18 dc18 pm18 cd18 ct18 oc19 kV19 dc19 pm19 cd19 ct19 oc20 kV20 dc20 pm20 cd20 ct20 oc21 kV21 dc21 pm21 cd21 ct21 oc22 kV22 dc22 pm22 cd22 ct22 oc23 kV23 dc23 pm23 cd23 ct23 oc24 kV24 dc24 pm24 cd24 ct24 oc25 kV25 dc25 pm25 cd25 ct25:Value}
  {od_FIRST_PAIR odd_FIRST_PAIR:Option Addr}{nn_FIRST_PAIR nnd_FIRST_PAIR:Nat}{sl_FIRST_PAIR sld_FIRST_PAIR:Array (Option Value)}{t0_FIRST_PAIR t1_FIRST_PAIR:Tok}
  (a1:nsIn K mainGlobals "sides_of"=some (some (.ref f1)))
  (l1:K.lookup f1=some ⟨oc1,od1,.func (fnOf "sides_of" "sides_of" (aG cM) (aB cM) (ai cM) .none kV1 dc1 pm1 an1 cd1 ct1),sl1⟩)
  (c1:codeIn K cd1 "sides_of"=true)
  (k1:keepIn K (.ref f1)=true)
  (a2:nsIn K mainGlobals "ways"=some (some (.ref f2)))
  (l2:K.lookup f2=some ⟨oc2,od2,.func (fnOf "ways" "ways" (aG gD) (aB gD) (ai gD) .none kV2 dc2 pm2 an2 cd2 ct2),sl2⟩)
  (c2:codeIn K cd2 "ways"=true)
  (k2:keepIn K (.ref f2)=true)
  (a3:nsIn K mainGlobals "gains"=some (some (.ref f3)))
  (l3:K.lookup f3=some ⟨oc3,od3,.func (fnOf "gains" "gains" (aG fm) (aB fm) (ai fm) .none kV3 dc3 pm3 an3 cd3 ct3),sl3⟩)
  (c3:codeIn K cd3 "gains"=true)
  (k3:keepIn K (.ref f3)=true)
  (a4:nsIn K mainGlobals "block_sets"=some (some (.ref f4)))
  (l4:K.lookup f4=some ⟨oc4,od4,.func (fnOf "block_sets" "block_sets" (aG bw) (aB bw) (ai bw) .none kV4 dc4 pm4 an4 cd4 ct4),sl4⟩)
  (c4:codeIn K cd4 "block_sets"=true)
  (k4:keepIn K (.ref f4)=true)
  (a5:nsIn K mainGlobals "without"=some (some (.ref f5)))
  (l5:K.lookup f5=some ⟨oc5,od5,.func (fnOf "without" "without" (aG cL) (aB cL) (ai cL) .none kV5 dc5 pm5 an5 cd5 ct5),sl5⟩)
  (c5:codeIn K cd5 "without"=true)
  (k5:keepIn K (.ref f5)=true)
  (a6:nsIn K mainGlobals "pairs"=some (some (.ref f6)))
  (l6:K.lookup f6=some ⟨oc6,od6,.func (fnOf "pairs" "pairs" (aG fj) (aB fj) (ai fj) .none kV6 dc6 pm6 an6 cd6 ct6),sl6⟩)
  (c6:codeIn K cd6 "pairs"=true)
  (k6:keepIn K (.ref f6)=true)
  (a7:nsIn K mainGlobals "least_number"=some (some (.ref f7)))
  (l7:K.lookup f7=some ⟨oc7,od7,.func (fnOf "least_number" "least_number" (aG ba) (aB ba) (ai ba) .none kV7 dc7 pm7 an7 cd7 ct7),sl7⟩)
  (c7:codeIn K cd7 "least_number"=true)
  (k7:keepIn K (.ref f7)=true)
  (a8:nsIn K mainGlobals "is_right"=some (some (.ref f8)))
  (l8:K.lookup f8=some ⟨oc8,od8,.func (fnOf "is_right" "is_right" (aG bJ) (aB bJ) (ai bJ) .none kV8 dc8 pm8 an8 cd8 ct8),sl8⟩)
  (c8:codeIn K cd8 "is_right"=true)
  (k8:keepIn K (.ref f8)=true)
  (a9:nsIn K mainGlobals "bound_of"=some (some (.ref f9)))
  (l9:K.lookup f9=some ⟨oc9,od9,.func (fnOf "bound_of" "bound_of" (aG cr) (aB cr) (ai cr) .none kV9 dc9 pm9 an9 cd9 ct9),sl9⟩)
  (c9:codeIn K cd9 "bound_of"=true)
  (k9:keepIn K (.ref f9)=true)
  (a10:nsIn K mainGlobals "_law_next"=some (some (.ref f10)))
  (l10:K.lookup f10=some ⟨oc10,od10,.func (fnOf "_law_next" "_law_next" (aG cN) (aB cN) (ai cN) .none kV10 dc10 pm10 an10 cd10 ct10),sl10⟩)
  (c10:codeIn K cd10 "_law_next"=true)
  (k10:keepIn K (.ref f10)=true)
  (a11:nsIn K mainGlobals "_law_pots"=some (some (.ref f11)))
  (l11:K.lookup f11=some ⟨oc11,od11,.func (fnOf "_law_pots" "_law_pots" (aG cq) (aB cq) (ai cq) .none kV11 dc11 pm11 an11 cd11 ct11),sl11⟩)
  (c11:codeIn K cd11 "_law_pots"=true)
  (k11:keepIn K (.ref f11)=true)
  (a12:nsIn K mainGlobals "_law_end"=some (some (.ref f12)))
  (l12:K.lookup f12=some ⟨oc12,od12,.func (fnOf "_law_end" "_law_end" (aG cP) (aB cP) (ai cP) .none kV12 dc12 pm12 an12 cd12 ct12),sl12⟩)
  (c12:codeIn K cd12 "_law_end"=true)
  (k12:keepIn K (.ref f12)=true)
  (a13:nsIn K mainGlobals "_law_program"=some (some (.ref f13)))
  (l13:K.lookup f13=some ⟨oc13,od13,.func (fnOf "_law_program" "_law_program" (aG bG) (aB bG) (ai bG) .none kV13 dc13 pm13 an13 cd13 ct13),sl13⟩)
  (c13:codeIn K cd13 "_law_program"=true)
  (k13:keepIn K (.ref f13)=true)
  (a14:nsIn K mainGlobals "_law_ways"=some (some (.ref f14)))
  (l14:K.lookup f14=some ⟨oc14,od14,.func (fnOf "_law_ways" "_law_ways" (aG ck) (aB ck) (ai ck) .none kV14 dc14 pm14 an14 cd14 ct14),sl14⟩)
  (c14:codeIn K cd14 "_law_ways"=true)
  (k14:keepIn K (.ref f14)=true)
  (a15:nsIn K mainGlobals "_law_count"=some (some (.ref f15)))
  (l15:K.lookup f15=some ⟨oc15,od15,.func (fnOf "_law_count" "_law_count" (aG cy) (aB cy) (ai cy) .none kV15 dc15 pm15 an15 cd15 ct15),sl15⟩)
  (c15:codeIn K cd15 "_law_count"=true)
  (k15:keepIn K (.ref f15)=true)
  (a16:nsIn K mainGlobals "_law_counts"=some (some (.ref f16)))
  (l16:K.lookup f16=some ⟨oc16,od16,.func (fnOf "_law_counts" "_law_counts" (aG bv) (aB bv) (ai bv) .none kV16 dc16 pm16 an16 cd16 ct16),sl16⟩)
  (c16:codeIn K cd16 "_law_counts"=true)
  (k16:keepIn K (.ref f16)=true)
  (a17:nsIn K mainGlobals "_law_gains"=some (some (.ref f17)))
  (l17:K.lookup f17=some ⟨oc17,od17,.func (fnOf "_law_gains" "_law_gains" (aG cx) (aB cx) (ai cx) .none kV17 dc17 pm17 an17 cd17 ct17),sl17⟩)
  (c17:codeIn K cd17 "_law_gains"=true)
  (k17:keepIn K (.ref f17)=true)
  (a18:nsIn K mainGlobals "_law_sets"=some (some (.ref f18)))
  (l18:K.lookup f18=some ⟨oc18,od18,.func (fnOf "_law_sets" "_law_sets" (aG cn) (aB cn) (ai cn) .none kV18 dc18 pm18 an18 cd18 ct18),sl18⟩)
  (c18:codeIn K cd18 "_law_sets"=true)
  (k18:keepIn K (.ref f18)=true)
  (a19:nsIn K mainGlobals "_law_least"=some (some (.ref f19)))
  (l19:K.lookup f19=some ⟨oc19,od19,.func (fnOf "_law_least" "_law_least" (aG bI) (aB bI) (ai bI) .none kV19 dc19 pm19 an19 cd19 ct19),sl19⟩)
  (c19:codeIn K cd19 "_law_least"=true)
  (k19:keepIn K (.ref f19)=true)
  (a20:nsIn K mainGlobals "_law_paper"=some (some (.ref f20)))
  (l20:K.lookup f20=some ⟨oc20,od20,.func (fnOf "_law_paper" "_law_paper" (aG cw) (aB cw) (ai cw) .none kV20 dc20 pm20 an20 cd20 ct20),sl20⟩)
  (c20:codeIn K cd20 "_law_paper"=true)
  (k20:keepIn K (.ref f20)=true)
  (a21:nsIn K mainGlobals "_law_slacks"=some (some (.ref f21)))
  (l21:K.lookup f21=some ⟨oc21,od21,.func (fnOf "_law_slacks" "_law_slacks" (aG bu) (aB bu) (ai bu) .none kV21 dc21 pm21 an21 cd21 ct21),sl21⟩)
  (c21:codeIn K cd21 "_law_slacks"=true)
  (k21:keepIn K (.ref f21)=true)
  (a22:nsIn K mainGlobals "_law_rows"=some (some (.ref f22)))
  (l22:K.lookup f22=some ⟨oc22,od22,.func (fnOf "_law_rows" "_law_rows" (aG cp) (aB cp) (ai cp) .none kV22 dc22 pm22 an22 cd22 ct22),sl22⟩)
  (c22:codeIn K cd22 "_law_rows"=true)
  (k22:keepIn K (.ref f22)=true)
  (a23:nsIn K mainGlobals "_law_many"=some (some (.ref f23)))
  (l23:K.lookup f23=some ⟨oc23,od23,.func (fnOf "_law_many" "_law_many" (aG cO) (aB cO) (ai cO) .none kV23 dc23 pm23 an23 cd23 ct23),sl23⟩)
  (c23:codeIn K cd23 "_law_many"=true)
  (k23:keepIn K (.ref f23)=true)
  (a24:nsIn K mainGlobals "_law_number"=some (some (.ref f24)))
  (l24:K.lookup f24=some ⟨oc24,od24,.func (fnOf "_law_number" "_law_number" (aG bO) (aB bO) (ai bO) .none kV24 dc24 pm24 an24 cd24 ct24),sl24⟩)
  (c24:codeIn K cd24 "_law_number"=true)
  (k24:keepIn K (.ref f24)=true)
  (a25:nsIn K mainGlobals "law"=some (some (.ref f25)))
  (l25:K.lookup f25=some ⟨oc25,od25,.func (fnOf "law" "law" (aG fL) (aB fL) (ai fL) .none kV25 dc25 pm25 an25 cd25 ct25),sl25⟩)
  (c25:codeIn K cd25 "law"=true)
  (k25:keepIn K (.ref f25)=true)
  (g_FIRST_PAIR:nsIn K mainGlobals "FIRST_PAIR"=some (some (.ref c_FIRST_PAIR)))
  (l_FIRST_PAIR:K.lookup c_FIRST_PAIR=some ⟨.type "tuple",od_FIRST_PAIR,.seq #[.ref e_FIRST_PAIR,.int 0 t0_FIRST_PAIR] nn_FIRST_PAIR,sl_FIRST_PAIR⟩)
  (v_FIRST_PAIR:K.lookup e_FIRST_PAIR=some ⟨.type "tuple",odd_FIRST_PAIR,.seq #[.int 0 t1_FIRST_PAIR] nnd_FIRST_PAIR,sld_FIRST_PAIR⟩)
  (z_all:nsIn K mainGlobals "all"=some none)
  (z_any:nsIn K mainGlobals "any"=some none)
  (z_bool:nsIn K mainGlobals "bool"=some none)
  (z_enumerate:nsIn K mainGlobals "enumerate"=some none)
  (z_int:nsIn K mainGlobals "int"=some none)
  (z_isinstance:nsIn K mainGlobals "isinstance"=some none)
  (z_len:nsIn K mainGlobals "len"=some none)
  (z_list:nsIn K mainGlobals "list"=some none)
  (z_max:nsIn K mainGlobals "max"=some none)
  (z_range:nsIn K mainGlobals "range"=some none)
  (z_sorted:nsIn K mainGlobals "sorted"=some none)
  (z_sum:nsIn K mainGlobals "sum"=some none)
  (z_tuple:nsIn K mainGlobals "tuple"=some none)
  (z_zip:nsIn K mainGlobals "zip"=some none):
  ∃fd:FuncData,(∀ (s:Shared) (v:Value),BindsTo s fd ⟨[v],[]⟩ [("script",v)])/\ ∀base:Heap,K.In base->base.Ns mainGlobals mg->FnOk l.prog w K mg base CX0 5 fa fd ["script"] (spLaw K):=by
 have e:=hfa.symm.trans (mg_of X G a25)
 cases e
 have y_all:=mg_none_of X G z_all
 have y_any:=mg_none_of X G z_any
 have y_bool:=mg_none_of X G z_bool
 have y_enumerate:=mg_none_of X G z_enumerate
 have y_int:=mg_none_of X G z_int
 have y_isinstance:=mg_none_of X G z_isinstance
 have y_len:=mg_none_of X G z_len
 have y_list:=mg_none_of X G z_list
 have y_max:=mg_none_of X G z_max
 have y_range:=mg_none_of X G z_range
 have y_sorted:=mg_none_of X G z_sorted
 have y_sum:=mg_none_of X G z_sum
 have y_tuple:=mg_none_of X G z_tuple
 have y_zip:=mg_none_of X G z_zip
 have m_FIRST_PAIR:=mg_of X G g_FIRST_PAIR
 have r_FIRST_PAIR: ∀H,SqT K H e_FIRST_PAIR (([0]:List Int).map V.int):=fun H=>.inr ⟨_,_,_,v_FIRST_PAIR,rfl,rfl,by show 1<=sizeLine;decide,.cons ⟨_,rfl⟩ (.nil)⟩
 have q_FIRST_PAIR: ∀H,SqT K H c_FIRST_PAIR [.ref e_FIRST_PAIR,.int 0]:=fun H=>.inr ⟨_,_,_,l_FIRST_PAIR,rfl,rfl,by show 2<=sizeLine;decide,.cons rfl (.cons ⟨_,rfl⟩ .nil)⟩
 have F1:=aX (st:=cM) l1 c1 k1
 have b1:=F1.binds (ps:=["end"]) fun _ _ _ _ _ _ us hl=>by obtain⟨_,rfl⟩:=ln1 hl;rfl
 have m1:=mg_of X G a1
 have F2:=aX (st:=gD) l2 c2 k2
 have b2:=F2.binds (ps:=["program"]) fun _ _ _ _ _ _ us hl=>by obtain⟨_,rfl⟩:=ln1 hl;rfl
 have m2:=mg_of X G a2
 have F3:=aX (st:=fm) l3 c3 k3
 have b3:=F3.binds (ps:=["program", "counted"]) fun _ _ _ _ _ _ us hl=>by obtain⟨_,_,rfl⟩:=ln2 hl;rfl
 have m3:=mg_of X G a3
 have F4:=aX (st:=bw) l4 c4 k4
 have b4:=F4.binds (ps:=["many"]) fun _ _ _ _ _ _ us hl=>by obtain⟨_,rfl⟩:=ln1 hl;rfl
 have m4:=mg_of X G a4
 have F5:=aX (st:=cL) l5 c5 k5
 have b5:=F5.binds (ps:=["blocks", "place"]) fun _ _ _ _ _ _ us hl=>by obtain⟨_,_,rfl⟩:=ln2 hl;rfl
 have m5:=mg_of X G a5
 have F6:=aX (st:=fj) l6 c6 k6
 have b6:=F6.binds (ps:=["many"]) fun _ _ _ _ _ _ us hl=>by obtain⟨_,rfl⟩:=ln1 hl;rfl
 have m6:=mg_of X G a6
 have F7:=aX (st:=ba) l7 c7 k7
 have b7:=F7.binds (ps:=["blocks", "last", "numbers", "gained"]) fun _ _ _ _ _ _ us hl=>by obtain⟨_,_,_,_,rfl⟩:=ln4 hl;rfl
 have m7:=mg_of X G a7
 have F8:=aX (st:=bJ) l8 c8 k8
 have b8:=F8.binds (ps:=["program", "counted", "told"]) fun _ _ _ _ _ _ us hl=>by obtain⟨_,_,_,rfl⟩:=ln3 hl;rfl
 have m8:=mg_of X G a8
 have F9:=aX (st:=cr) l9 c9 k9
 have b9:=F9.binds (ps:=["program", "counted", "told"]) fun _ _ _ _ _ _ us hl=>by obtain⟨_,_,_,rfl⟩:=ln3 hl;rfl
 have m9:=mg_of X G a9
 have F10:=aX (st:=cN) l10 c10 k10
 have b10:=F10.binds (ps:=["pot", "many"]) fun _ _ _ _ _ _ us hl=>by obtain⟨_,_,rfl⟩:=ln2 hl;rfl
 have m10:=mg_of X G a10
 have F11:=aX (st:=cq) l11 c11 k11
 have b11:=F11.binds (ps:=["script"]) fun _ _ _ _ _ _ us hl=>by obtain⟨_,rfl⟩:=ln1 hl;rfl
 have m11:=mg_of X G a11
 have F12:=aX (st:=cP) l12 c12 k12
 have b12:=F12.binds (ps:=["pot", "many"]) fun _ _ _ _ _ _ us hl=>by obtain⟨_,_,rfl⟩:=ln2 hl;rfl
 have m12:=mg_of X G a12
 have F13:=aX (st:=bG) l13 c13 k13
 have b13:=F13.binds (ps:=["pot", "many"]) fun _ _ _ _ _ _ us hl=>by obtain⟨_,_,rfl⟩:=ln2 hl;rfl
 have m13:=mg_of X G a13
 have F14:=aX (st:=ck) l14 c14 k14
 have b14:=F14.binds (ps:=["blocks"]) fun _ _ _ _ _ _ us hl=>by obtain⟨_,rfl⟩:=ln1 hl;rfl
 have m14:=mg_of X G a14
 have F15:=aX (st:=cy) l15 c15 k15
 have b15:=F15.binds (ps:=["pot", "size"]) fun _ _ _ _ _ _ us hl=>by obtain⟨_,_,rfl⟩:=ln2 hl;rfl
 have m15:=mg_of X G a15
 have F16:=aX (st:=bv) l16 c16 k16
 have b16:=F16.binds (ps:=["pots", "blocks"]) fun _ _ _ _ _ _ us hl=>by obtain⟨_,_,rfl⟩:=ln2 hl;rfl
 have m16:=mg_of X G a16
 have F17:=aX (st:=cx) l17 c17 k17
 have b17:=F17.binds (ps:=["blocks", "counted"]) fun _ _ _ _ _ _ us hl=>by obtain⟨_,_,rfl⟩:=ln2 hl;rfl
 have m17:=mg_of X G a17
 have F18:=aX (st:=cn) l18 c18 k18
 have b18:=F18.binds (ps:=["many"]) fun _ _ _ _ _ _ us hl=>by obtain⟨_,rfl⟩:=ln1 hl;rfl
 have m18:=mg_of X G a18
 have F19:=aX (st:=bI) l19 c19 k19
 have b19:=F19.binds (ps:=["gains_v", "numbers", "places", "last"]) fun _ _ _ _ _ _ us hl=>by obtain⟨_,_,_,_,rfl⟩:=ln4 hl;rfl
 have m19:=mg_of X G a19
 have F20:=aX (st:=cw) l20 c20 k20
 have b20:=F20.binds (ps:=["blocks", "counted", "slacks"]) fun _ _ _ _ _ _ us hl=>by obtain⟨_,_,_,rfl⟩:=ln3 hl;rfl
 have m20:=mg_of X G a20
 have F21:=aX (st:=bu) l21 c21 k21
 have b21:=F21.binds (ps:=["pots"]) fun _ _ _ _ _ _ us hl=>by obtain⟨_,rfl⟩:=ln1 hl;rfl
 have m21:=mg_of X G a21
 have F22:=aX (st:=cp) l22 c22 k22
 have b22:=F22.binds (ps:=["numbers", "turn"]) fun _ _ _ _ _ _ us hl=>by obtain⟨_,_,rfl⟩:=ln2 hl;rfl
 have m22:=mg_of X G a22
 have F23:=aX (st:=cO) l23 c23 k23
 have b23:=F23.binds (ps:=["pot"]) fun _ _ _ _ _ _ us hl=>by obtain⟨_,rfl⟩:=ln1 hl;rfl
 have m23:=mg_of X G a23
 have F24:=aX (st:=bO) l24 c24 k24
 have b24:=F24.binds (ps:=["told", "due"]) fun _ _ _ _ _ _ us hl=>by obtain⟨_,_,rfl⟩:=ln2 hl;rfl
 have m24:=mg_of X G a24
 have F25:=aX (st:=fL) l25 c25 k25
 have b25:=F25.binds (ps:=["script"]) fun _ _ _ _ _ _ us hl=>by obtain⟨_,rfl⟩:=ln1 hl;rfl
 have m25:=mg_of X G a25
 refine⟨fnOf "law" "law" (aG fL) (aB fL) (ai fL) .none kV25 dc25 pm25 an25 cd25 ct25,fun s v=>.of_eq rfl,fun base _ _=>?_⟩
 have C_sides_of:=kX (P:=l.prog) (w:=w) (K:=K) (mg:=mg) (base:=base) F1 b1 m1
 have C_ways:=sA (P:=l.prog) (w:=w) (K:=K) (mg:=mg) (base:=base) y_enumerate C_sides_of F2 b2 m2
 have C_gains:=qb (P:=l.prog) (w:=w) (K:=K) (mg:=mg) (base:=base) y_zip C_ways F3 b3 m3
 have C_block_sets:=je (P:=l.prog) (w:=w) (K:=K) (mg:=mg) (base:=base) y_range F4 b4 m4
 have C_without:=mv (P:=l.prog) (w:=w) (K:=K) (mg:=mg) (base:=base) y_tuple F5 b5 m5
 have C_pairs:=qa (P:=l.prog) (w:=w) (K:=K) (mg:=mg) (base:=base) m_FIRST_PAIR q_FIRST_PAIR r_FIRST_PAIR C_block_sets F6 b6 m6
 have C_least_number:=gX (P:=l.prog) (w:=w) (K:=K) (mg:=mg) (base:=base) y_max m_FIRST_PAIR q_FIRST_PAIR r_FIRST_PAIR C_without F7 b7 m7
 have C_is_right:=lw (P:=l.prog) (w:=w) (K:=K) (mg:=mg) (base:=base) y_all y_any y_len C_pairs C_gains C_least_number F8 b8 m8
 have C_bound_of:=ly (P:=l.prog) (w:=w) (K:=K) (mg:=mg) (base:=base) y_len y_max y_range y_sum y_tuple F9 b9 m9
 have C_law_next:=lh (P:=l.prog) (w:=w) (K:=K) (mg:=mg) (base:=base) F10 b10 m10
 have C_law_pots:=lg (P:=l.prog) (w:=w) (K:=K) (mg:=mg) (base:=base) y_len F11 b11 m11
 have C_law_end:=mw (P:=l.prog) (w:=w) (K:=K) (mg:=mg) (base:=base) y_range y_tuple C_law_next F12 b12 m12
 have C_law_program:=iJ (P:=l.prog) (w:=w) (K:=K) (mg:=mg) (base:=base) y_list y_range C_law_end C_law_next F13 b13 m13
 have C_law_ways:=kY (P:=l.prog) (w:=w) (K:=K) (mg:=mg) (base:=base) y_enumerate y_list F14 b14 m14
 have C_law_count:=jY (P:=l.prog) (w:=w) (K:=K) (mg:=mg) (base:=base) C_law_next F15 b15 m15
 have C_law_counts:=jd (P:=l.prog) (w:=w) (K:=K) (mg:=mg) (base:=base) y_len y_range C_law_next C_law_ways C_law_count F16 b16 m16
 have C_law_gains:=jX (P:=l.prog) (w:=w) (K:=K) (mg:=mg) (base:=base) y_zip C_law_ways F17 b17 m17
 have C_law_sets:=kZ (P:=l.prog) (w:=w) (K:=K) (mg:=mg) (base:=base) y_len y_range y_sorted F18 b18 m18
 have C_law_least:=jW (P:=l.prog) (w:=w) (K:=K) (mg:=mg) (base:=base) y_len y_max y_tuple F19 b19 m19
 have C_law_paper:=jV (P:=l.prog) (w:=w) (K:=K) (mg:=mg) (base:=base) y_len C_law_gains C_law_sets C_law_least F20 b20 m20
 have C_law_slacks:=jb (P:=l.prog) (w:=w) (K:=K) (mg:=mg) (base:=base) C_law_next F21 b21 m21
 have C_law_rows:=lf (P:=l.prog) (w:=w) (K:=K) (mg:=mg) (base:=base) y_sorted F22 b22 m22
 have C_law_many:=lm (P:=l.prog) (w:=w) (K:=K) (mg:=mg) (base:=base) C_law_next F23 b23 m23
 have C_law_number:=jc (P:=l.prog) (w:=w) (K:=K) (mg:=mg) (base:=base) y_bool y_int y_isinstance F24 b24 m24
 have C_law:=uW (P:=l.prog) (w:=w) (K:=K) (mg:=mg) (base:=base) y_len y_list y_max y_sum C_law_pots C_law_program C_law_many C_law_counts C_law_paper C_law_slacks C_law_rows C_law_next C_is_right C_law_number C_bound_of F25 b25 m25
 exact law_ok C_law
theorem walk {l:PySem.W.OpenLaw}{q:Program}{loose:List Str}{XP:(Str->Option Value)->Heap->Prop}{YP:World->Heap->Prop}{d:DefRec}{K:Params->PySem.W.Frag}(hn:l.most=some 63)(hdf:d.params.defaults=[])
  (hY: ∀ (w:World) (h:Heap),YP w h->(K w.params).In h)
  (F:∀ (w:World) (mg:Str->Option Value) (fa:Addr) (h:Heap),(K w.params).In h->h.Ns mainGlobals mg->mg d.name=some (.ref fa)->
    ∃fd:FuncData,(∀ (s:Shared) (u:Value),BindsTo s fd ⟨[u],[]⟩ [("script",u)])/\ ∀base:Heap,(K w.params).In base->base.Ns mainGlobals mg->FnOk l.prog w (K w.params) mg base CX0 5 fa fd ["script"] (spLaw (K w.params))):
  PySem.W.WalkO q loose XP YP l.row.toRowW d [] (fun f vs=>PySem.call f vs):=
 L2.walk_of (n:=63) (k:=5) (x:= "script") (CX:=fun _=>CX0) (sp:=fun w=>spLaw (K w.params)) hn (by decide) hdf ⟨rfl,by decide,by decide⟩ hY F (fun _ _ a ns hl _ hS=>⟨a,ns,rfl,hS,hl,fun _=>rfl⟩) fun _ _ _ _ _ z=>z
theorem walk_x {q:Program}{loose:List Str}{XP:(Str->Option Value)->Heap->Prop}{K:Params->PySem.W.Frag}{as:List Addr}{n t:Nat}{r:PySem.W.RowW}{d:DefRec}{kwd:List (Str×Expr)}{run:Value->List Value->Sem Value}(e:∀P,as=(K P).map (·.1))
  (W:PySem.W.WalkO q loose XP (fun w h=>(K w.params).In h) r d kwd run):PySem.W.WalkX q loose XP (PySem.W.X.obsZ as) (PySem.W.X.valZ K n t) r d kwd run:=
 fun w s₀ s₁ mg mb G y a o pm cd doc dV kV ho hd hcd hD hmg hg args vals bs L hpre hlay hrd hwl hlo=>
  W w s₀ s₁ mg mb G (PySem.W.InK.keeps w _ _ (PySem.W.X.z_facts e y).2.1 L.keeps) a o pm cd doc dV kV ho hd hcd hD hmg hg args vals bs hpre hlay hrd hwl hlo
end Q
open PySem PySem.W PyProof.Rows
set_option maxRecDepth 100000 in
set_option maxHeartbeats 0 in
theorem PySem.Challenge.cw_blockfall_k27_right_papers_holds : PySem.Challenge.rw_blockfall_k27_right_papers.Holds := by
 w_on;o_law;z_head;(case hw=>w_witness2)
 k_fill
 refine Q.walk_x (fun _=>by kernel_rfl) (Q.walk (l:=PySem.Challenge.rw_blockfall_k27_right_papers) rfl rfl (fun w h Y=>Y) ?F)
 case F=>
  intro w mg fa h KX G hmg
  refine' Q.all_mk KX G hmg ?a1 ?l1 ?c1 ?k1 ?a2 ?l2 ?c2 ?k2 ?a3 ?l3 ?c3 ?k3 ?a4 ?l4 ?c4 ?k4 ?a5 ?l5 ?c5 ?k5 ?a6 ?l6 ?c6 ?k6 ?a7 ?l7 ?c7 ?k7 ?a8 ?l8 ?c8 ?k8 ?a9 ?l9 ?c9 ?k9 ?a10 ?l10 ?c10 ?k10 ?a11 ?l11 ?c11 ?k11 ?a12 ?l12 ?c12 ?k12 ?a13 ?l13 ?c13 ?k13 ?a14 ?l14 ?c14 ?k14 ?a15 ?l15 ?c15 ?k15 ?a16 ?l16 ?c16 ?k16 ?a17 ?l17 ?c17 ?k17 ?a18 ?l18 ?c18 ?k18 ?a19 ?l19 ?c19 ?k19 ?a20 ?l20 ?c20 ?k20 ?a21 ?l21 ?c21 ?k21 ?a22 ?l22 ?c22 ?k22 ?a23 ?l23 ?c23 ?k23 ?a24 ?l24 ?c24 ?k24 ?a25 ?l25 ?c25 ?k25 ?g_FIRST_PAIR ?l_FIRST_PAIR ?v_FIRST_PAIR ?z_all ?z_any ?z_bool ?z_enumerate ?z_int ?z_isinstance ?z_len ?z_list ?z_max ?z_range ?z_sorted ?z_sum ?z_tuple ?z_zip
  (case a1=>k_is)
  (case l1=>k_is)
  (case c1=>k_is)
  (case k1=>k_is)
  (case a2=>k_is)
  (case l2=>k_is)
  (case c2=>k_is)
  (case k2=>k_is)
  (case a3=>k_is)
  (case l3=>k_is)
  (case c3=>k_is)
  (case k3=>k_is)
  (case a4=>k_is)
  (case l4=>k_is)
  (case c4=>k_is)
  (case k4=>k_is)
  (case a5=>k_is)
  (case l5=>k_is)
  (case c5=>k_is)
  (case k5=>k_is)
  (case a6=>k_is)
  (case l6=>k_is)
  (case c6=>k_is)
  (case k6=>k_is)
  (case a7=>k_is)
  (case l7=>k_is)
  (case c7=>k_is)
  (case k7=>k_is)
  (case a8=>k_is)
  (case l8=>k_is)
  (case c8=>k_is)
  (case k8=>k_is)
  (case a9=>k_is)
  (case l9=>k_is)
  (case c9=>k_is)
  (case k9=>k_is)
  (case a10=>k_is)
  (case l10=>k_is)
  (case c10=>k_is)
  (case k10=>k_is)
  (case a11=>k_is)
  (case l11=>k_is)
  (case c11=>k_is)
  (case k11=>k_is)
  (case a12=>k_is)
  (case l12=>k_is)
  (case c12=>k_is)
  (case k12=>k_is)
  (case a13=>k_is)
  (case l13=>k_is)
  (case c13=>k_is)
  (case k13=>k_is)
  (case a14=>k_is)
  (case l14=>k_is)
  (case c14=>k_is)
  (case k14=>k_is)
  (case a15=>k_is)
  (case l15=>k_is)
  (case c15=>k_is)
  (case k15=>k_is)
  (case a16=>k_is)
  (case l16=>k_is)
  (case c16=>k_is)
  (case k16=>k_is)
  (case a17=>k_is)
  (case l17=>k_is)
  (case c17=>k_is)
  (case k17=>k_is)
  (case a18=>k_is)
  (case l18=>k_is)
  (case c18=>k_is)
  (case k18=>k_is)
  (case a19=>k_is)
  (case l19=>k_is)
  (case c19=>k_is)
  (case k19=>k_is)
  (case a20=>k_is)
  (case l20=>k_is)
  (case c20=>k_is)
  (case k20=>k_is)
  (case a21=>k_is)
  (case l21=>k_is)
  (case c21=>k_is)
  (case k21=>k_is)
  (case a22=>k_is)
  (case l22=>k_is)
  (case c22=>k_is)
  (case k22=>k_is)
  (case a23=>k_is)
  (case l23=>k_is)
  (case c23=>k_is)
  (case k23=>k_is)
  (case a24=>k_is)
  (case l24=>k_is)
  (case c24=>k_is)
  (case k24=>k_is)
  (case a25=>k_is)
  (case l25=>k_is)
  (case c25=>k_is)
  (case k25=>k_is)
  (case g_FIRST_PAIR=>k_is)
  (case l_FIRST_PAIR=>k_is)
  (case v_FIRST_PAIR=>k_is)
  (case z_all=>k_is)
  (case z_any=>k_is)
  (case z_bool=>k_is)
  (case z_enumerate=>k_is)
  (case z_int=>k_is)
  (case z_isinstance=>k_is)
  (case z_len=>k_is)
  (case z_list=>k_is)
  (case z_max=>k_is)
  (case z_range=>k_is)
  (case z_sorted=>k_is)
  (case z_sum=>k_is)
  (case z_tuple=>k_is)
  (case z_zip=>k_is)
#print axioms PySem.Challenge.cw_blockfall_k27_right_papers_holds
