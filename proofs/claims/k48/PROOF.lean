import PyProof.Rows.All
import Wide.All
import OpenK.AllK
import Wide.FinOn
import Lean
import PyProof.EqAt
import PyProof.EqKinds
import PyProof.TupleCall
import PyProof.ZipIter
import PySem.Challenge.RW_blockfall_k48_whole_lengths_are_least
set_option bootstrap.genMatcherCode false
set_option genSizeOf false
set_option genSizeOfSpec false
set_option Elab.async false
set_option linter.all false
set_option maxRecDepth 100000
set_option maxHeartbeats 4000000
noncomputable section
open PySem.W (instObj plainGet hasDictIn findIn isFn emptyDict keepIn kitOne kia_one fnOf nsIn mg_of mg_none_of)
namespace L2
open PySem
noncomputable abbrev PKy:=Int×List Int
noncomputable def Bm (b:Bool)(v u:Value):List Value:=match b with
 |false=>[v,u]
 |true=>[u,v]
noncomputable def u6 (ks:List Int):Int:=reduceHash (Builtin.Tuple.tupleHashOf (ks.map hashInt))
def zI (b:Bool)(k:PKy):Int:=match b with
 |false=>reduceHash (Builtin.Tuple.tupleHashOf [hashInt k.1,u6 k.2])
 |true=>reduceHash (Builtin.Tuple.tupleHashOf [u6 k.2,hashInt k.1])
section
variable {prog:Program}{w:World}
variable {A:Around}{E:Value->Shared->Prop}{s:Shared}
end
end L2
namespace L2
open PySem PySem.Spec PyProof.Rows
noncomputable abbrev Key:=Sum Int Str
def keyIs:Key->Value->Bool
 |.inl k,v=>Value.isInt k v
 |.inr x,v=>Value.isStrOf x v
def keyH (w:World):Key->Int
 |.inl k=>hashInt k
 |.inr x=>hashStr w x
theorem cE: ∀ {k:Key}{v:Value},keyIs k v=true->(∃i t,k=Sum.inl i/\v=Value.int i t)\/(∃x t,k=Sum.inr x/\v=Value.str x t)
 |.inl i,v,h=>by
  obtain⟨t,e⟩:=Value.isInt_shape (k:=i) (v:=v) h
  exact .inl ⟨i,t,rfl,e⟩
 |.inr x,v,h=>by
  obtain⟨t,e⟩:=Value.isStrOf_shape (x:=x) (v:=v) h
  exact .inr ⟨x,t,rfl,e⟩
theorem uC (i:Int)(t:Tok):keyIs (.inl i) (.int i t)=true:=by simp [keyIs,Value.isInt]
theorem uB (x:Str)(t:Tok):keyIs (.inr x) (.str x t)=true:=by simp [keyIs,Value.isStrOf]
theorem Ax (a b:Int):decide ((Sum.inl a:Key)=Sum.inl b)=(a==b):=by
 by_cases e:a=b
 ·subst e;simp
 ·have h: ¬(Sum.inl a:Key)=Sum.inl b:=fun q=>e (Sum.inl.inj q)
  rw[decide_eq_false h]
  exact (beq_eq_false_iff_ne.mpr e).symm
theorem Au (a b:Str):decide ((Sum.inr a:Key)=Sum.inr b)=decide (a=b):=by
 by_cases e:a=b
 ·subst e;simp
 ·have h: ¬(Sum.inr a:Key)=Sum.inr b:=fun q=>e (Sum.inr.inj q)
  rw[decide_eq_false h,decide_eq_false e]
theorem Aw (a:Int)(b:Str):decide ((Sum.inl a:Key)=Sum.inr b)=false:=decide_eq_false (fun q=>nomatch q)
theorem Av (a:Str)(b:Int):decide ((Sum.inr a:Key)=Sum.inl b)=false:=decide_eq_false (fun q=>nomatch q)
def dz (prog:Program)(w:World):PySem.KeyKind prog w Key where
 is:=keyIs
 hash:=keyH w
 inj:=fun v a b ha hb=>by
  rcases cE ha with⟨i,t,rfl,rfl⟩|⟨x,t,rfl,rfl⟩
  ·rcases cE hb with⟨j,u,rfl,e⟩|⟨y,u,rfl,e⟩
   ·injection e with e1 _;rw[e1]
   ·exact nomatch e
  ·rcases cE hb with⟨j,u,rfl,e⟩|⟨y,u,rfl,e⟩
   ·exact nomatch e
   ·injection e with e1 _;rw[e1]
 byValue:=fun k v h=>by
  rcases cE h with⟨i,t,rfl,rfl⟩|⟨x,t,rfl,rfl⟩<;>rfl
 pyHash:=fun hv h=>by
  rcases cE hv with⟨i,t,rfl,rfl⟩|⟨x,t,rfl,rfl⟩
  ·exact wpAny_pyHash_int h
  ·exact wpAny_pyHash_str h
 eqBool:=fun hu hv h=>by
  rcases cE hu with⟨i,t,rfl,rfl⟩|⟨x,t,rfl,rfl⟩
  ·rcases cE hv with⟨j,u,rfl,rfl⟩|⟨y,u,rfl,rfl⟩
   ·rw[Ax] at h;exact wpAny_eqBool_int h
   ·rw[Aw] at h;exact SeqAt.EqAt.int_str i t y u _ _ _ _ h
  ·rcases cE hv with⟨j,u,rfl,rfl⟩|⟨y,u,rfl,rfl⟩
   ·rw[Av] at h;exact SeqAt.EqAt.str_int x t j u _ _ _ _ h
   ·rw[Au] at h;exact wpAny_eqBool_str h
 «strs»:=fun k x t v h=>by
  rcases cE h with⟨i,u,rfl,e⟩|⟨y,u,rfl,e⟩
  ·exact nomatch e
  ·injection e with e1 _
   subst e1
   cases v<;>rfl
theorem qt (prog:Program)(w:World)(i:Int)(t:Tok):(dz prog w).is (.inl i) (.int i t)=true:=uC i t
theorem qr (prog:Program)(w:World)(x:Str)(t:Tok):(dz prog w).is (.inr x) (.str x t)=true:=uB x t
section
inductive V where
 |non|bl (b:Bool)|int (i:Int)|str (x:Str)|byt (b:Array UInt8)|flt (b:UInt64)|ref (a:Addr)|ty (n:String)
 deriving DecidableEq
noncomputable def RelV:V->Value->Prop
 |.non,u=>u=Value.none
 |.bl b,u=>u=Value.bool b
 |.int i,u=> ∃t,u=Value.int i t
 |.str x,u=> ∃t,u=Value.str x t
 |.byt b,u=> ∃t,u=Value.bytes b t
 |.flt b,u=> ∃t,u=Value.float b t
 |.ref a,u=>u=Value.ref a
 |.ty n,u=>u=Value.type n
noncomputable abbrev Vals:List V->List Value->Prop:=Paired RelV
theorem Vals.length {xs:List V}{us:List Value}(r:Vals xs us):xs.length=us.length:=Paired.length r
theorem Vals.get: ∀ {xs:List V}{us:List Value}{i:Nat}{x:V},Vals xs us->xs[i]?=some x-> ∃u,us[i]?=some u/\RelV x u
 |_,_,_,_,.nil,e=>by simp at e
 |_,_,0,_,.cons r _,e=>by simp at e;subst e;exact⟨_,rfl,r⟩
 |_,_,i+1,x,.cons _ t,e=>by
  obtain⟨u,h1,h2⟩:=Vals.get (i:=i) (x:=x) t (by simpa using e)
  exact⟨u,by simpa using h1,h2⟩
theorem Vals.set {x:V}{u:Value}(r:RelV x u): ∀ {xs:List V}{us:List Value} (i:Nat),Vals xs us->Vals (xs.set i x) (us.set i u)
 |_,_,_,.nil=>.nil
 |_,_,0,.cons _ t=>.cons r t
 |_,_,i+1,.cons q t=>.cons q (Vals.set r i t)
theorem Vals.append: ∀ {xs ys:List V}{us ws:List Value},Vals xs us->Vals ys ws->Vals (xs++ys) (us++ws)
 |_,_,_,_,.nil,s=>s
 |_,_,_,_,.cons r t,s=>.cons r (Vals.append t s)
theorem Vals.take: ∀ {xs:List V}{us:List Value} (n:Nat),Vals xs us->Vals (xs.take n) (us.take n)
 |_,_,0,_=>.nil
 |_,_,_+1,.nil=>.nil
 |_,_,n+1,.cons r t=>.cons r (Vals.take n t)
theorem Vals.drop: ∀ {xs:List V}{us:List Value} (n:Nat),Vals xs us->Vals (xs.drop n) (us.drop n)
 |_,_,0,r=>r
 |_,_,_+1,.nil=>.nil
 |_,_,n+1,.cons _ t=>Vals.drop n t
def RelO:Option V->Option Value->Prop
 |some v,some u=>RelV v u
 |none,none=>True
 |_,_=>False
def KV {κ:Type}:List (κ×V)->List (κ×Value)->Prop:=Paired fun (p:κ×V) (q:κ×Value)=>p.1=q.1/\RelV p.2 q.2
def kV:Key->V
 |.inl i=>.int i
 |.inr x=>.str x
inductive HO where
 |lst (xs:List V)
 |tup (xs:List V)
 |dK (kvs:List (Key×V))|dT (kvs:List (List Key×V))|dN (b:Bool)(xs:List (PKy×Addr×V))(ep:Nat)
 |set (S:Int->Bool)(n:Nat)
 |ins (C dx:Addr)(fs:List (Str×V))
 |own (x:Addr)
 |xd (fs:List (Str×V))
 |met (f x:Addr)
 |rng (lo hi:Int)
 |frz (o:Obj)(u:HO)
 |tbl (ps:Array Value)
 |ext (φ:Heap->Prop)
noncomputable abbrev Hp:=Addr->Option HO
def upd (H:Hp)(a:Addr)(o:HO):Hp:=fun b=>if b=a then some o else H b
theorem bb {H:Hp}{a:Addr}{o:HO}:upd H a o a=some o:=by unfold upd;rw[if_pos rfl]
theorem aH {H:Hp}{a b:Addr}{o:HO}(h:b≠a):upd H a o b=H b:=by unfold upd;rw[if_neg h]
theorem Bb {H:Hp}{a b:Addr}{o u:HO}(h:H a=some o)(h':H b=some u)(d:o≠u):a≠b:=by
 intro e;subst e;rw[h] at h';exact d (Option.some.inj h')
theorem bZ {H:Hp}{a b:Addr}{o:HO}(h:H a=some o)(h':H b=none):a≠b:=by
 intro e;subst e;rw[h] at h';cases h'
noncomputable def IsTupD (h:Heap)(a:Addr)(its:Array Value):Prop:=IsTup h a its/\ ∃o,h.get? a=some o/\o.dict=none
theorem IsTupD.new (h:Heap)(its:Array Value):IsTupD (h.push {cls:=.type "tuple",data:=.seq its}) h.objs.size its:=⟨IsTup.new _ _,_,Heap.get?_push_size _ rfl,rfl⟩
section
variable (P:Program)(w:World)
def ObjOk (H:Hp)(h:Heap)(a:Addr):HO->Prop
 |.lst xs=>xs.length<=sizeLine/\ ∃ (its:List Value) (n:Nat),Vals xs its/\h.get? a=some {cls:=.type "list",data:=.seq its.toArray n}
 |.tup xs=>xs.length<=sizeLine/\ ∃its:List Value,Vals xs its/\IsTupD h a its.toArray
 |.dK kvs=>kvs.length<=sizeLine/\(a==sysModules)=false/\ ∃vs,KV kvs vs/\h.DictOf (dz P w) a vs
 |.dT kvs=>kvs.length<=sizeLine/\(a==sysModules)=false/\ ∃xs:List (List Key×Addr×Value),
  Paired (fun (p:List Key×V) (q:List Key×Addr×Value)=>p.1=q.1/\H q.2.1=some (.tup (p.1.map kV))/\RelV p.2 q.2.2) kvs xs/\
  ∃o es ep,h.get? a=some o/\o.ExactDict/\o.data=.dict es ep/\es.toList=xs.map (entryOfKey (tupleKind (dz P w)))/\(xs.map (·.1)).Nodup
 |.dN b xs ep=>xs.length<=sizeLine/\(a==sysModules)=false/\ ∃ys:List (PKy×Addr×Value),Paired (fun (p:PKy×Addr×V) (q:PKy×Addr×Value)=>p.1=q.1/\p.2.1=q.2.1/\RelV p.2.2 q.2.2) xs ys/\
  ∃o es,h.get? a=some o/\o.ExactDict/\o.data=.dict es ep/\es.toList=ys.map (fun y=>(⟨zI b y.1,.ref y.2.1,y.2.2⟩:DictEntry))/\(ys.map (·.1)).Nodup
 |.set S n=>h.SetOf (intKind P w) a S n
 |.ins C dx fs=>H dx=some (.own a)/\fs.length<=1000/\dx≠a/\h.get? a=some (instObj C dx)/\
  ∃mA,h.Ns1 dx mA/\(∀f,RelO (fs.lookup f) (mA f))/\PySem.Within mA (fs.map (·.1))
 |.own _=> ∃o,h.get? a=some o
 |.xd fs=> ∃mA,h.Ns1 a mA/\ ∀f,RelO (fs.lookup f) (mA f)
 |.rng lo hi=> ∃t u v,h.get? a=some {cls:=.type "range",data:=.fields #[.int lo t,.int hi u,.int 1 v]}
 |.frz o u=>h.get? a=some o/\ObjOk H h a u
 |.tbl ps=>h.get? a=some {cls:=.none,data:=.fields ps}
 |.met f x=>h.get? a=some (PySem.W.methodObj (.ref f) (.ref x))
 |.ext φ=>φ h/\(∃o,h.get? a=some o)/\ ∀h1 h2:Heap,φ h1->(∀o,h1.get? a=some o->h2.get? a=some o)->φ h2
def HOk (H:Hp)(h:Heap):Prop:= ∀a o,H a=some o->ObjOk P w H h a o
end
section
variable {P:Program}{w:World}{H H':Hp}{h h':Heap}{a:Addr}{o:HO}
theorem ObjOk.lt (x:ObjOk P w H h a o):a<h.objs.size:=by
 cases o with
 |lst xs=>obtain⟨_,_,_,_,e⟩:=x;exact Heap.lt_size e
 |tup xs=>obtain⟨_,_,_,p⟩:=x;exact p.1.lt
 |dK kvs=>obtain⟨_,_,_,_,o,_,_,e,_⟩:=x;exact Heap.lt_size e
 |dT kvs=>obtain⟨_,_,_,_,o,_,_,e,_⟩:=x;exact Heap.lt_size e
 |dN b xs ep=>obtain⟨_,_,_,_,o,_,e,_⟩:=x;exact Heap.lt_size e
 |set S n=>obtain⟨o,_,_,_,e,_⟩:=x;exact Heap.lt_size e
 |ins C dx fs=>obtain⟨_,_,_,e,_⟩:=x;exact Heap.lt_size e
 |own y=>obtain⟨_,e⟩:=x;exact Heap.lt_size e
 |xd fs=>obtain⟨_,⟨_,_,_,e,_⟩,_⟩:=x;exact Heap.lt_size e
 |rng lo hi=>obtain⟨_,_,_,e⟩:=x;exact Heap.lt_size e
 |frz ob u=>obtain⟨e,_⟩:=x;exact Heap.lt_size e
 |tbl ps=>exact Heap.lt_size (show h.get? a=some _ from x)
 |met f y=>exact Heap.lt_size (show h.get? a=some _ from x)
 |ext φ=>obtain⟨_,⟨_,e⟩,_⟩:=x;exact Heap.lt_size e
theorem Paired.mapP {α β:Type}{F G:α->β->Prop}: ∀ {l₁:List α}{l₂:List β},Paired F l₁ l₂->(∀a b,F a b->G a b)->Paired G l₁ l₂
 |_,_,.nil,_=>.nil
 |_,_,.cons r t,f=>.cons (f _ _ r) (Paired.mapP t f)
theorem ObjOk.stay (x:ObjOk P w H h a o)(k:∀b u,(b=a\/H b=some (.own a))->h.get? b=some u->h'.get? b=some u)
  (ho: ∀b,H b=some (.own a)->H' b=some (.own a))(ht: ∀b xs,H b=some (.tup xs)->H' b=some (.tup xs)):ObjOk P w H' h' a o:=by
 induction o with
 |lst xs=>obtain⟨z,its,n,r,e⟩:=x;exact⟨z,its,n,r,k _ _ (.inl rfl) e⟩
 |tup xs=>obtain⟨z,its,r,⟨ob,e,c⟩,o2,e2,c2⟩:=x;exact⟨z,its,r,⟨ob,k _ _ (.inl rfl) e,c⟩,o2,k _ _ (.inl rfl) e2,c2⟩
 |dK kvs=>obtain⟨z,y,vs,r,ob,es,ep,e,c⟩:=x;exact⟨z,y,vs,r,ob,es,ep,k _ _ (.inl rfl) e,c⟩
 |dT kvs=>
  obtain⟨z,y,xs,r,ob,es,ep,e,c⟩:=x
  exact⟨z,y,xs,Paired.mapP r fun p q z=>⟨z.1,ht _ _ z.2.1,z.2.2⟩,ob,es,ep,k _ _ (.inl rfl) e,c⟩
 |dN b xs ep=>obtain⟨z,y,ys,r,ob,es,e,c⟩:=x;exact⟨z,y,ys,r,ob,es,k _ _ (.inl rfl) e,c⟩
 |set S n=>obtain⟨ob,es,ep,t,e,c⟩:=x;exact⟨ob,es,ep,t,k _ _ (.inl rfl) e,c⟩
 |ins C dx fs=>
  obtain⟨d,z,ne,e,mA,⟨od,es,ep,e2,c⟩,r⟩:=x
  exact⟨ho _ d,z,ne,k _ _ (.inl rfl) e,mA,⟨od,es,ep,k _ _ (.inr d) e2,c⟩,r⟩
 |own y=>obtain⟨ob,e⟩:=x;exact⟨ob,k _ _ (.inl rfl) e⟩
 |xd fs=>obtain⟨mA,⟨od,es,ep,e,c⟩,r⟩:=x;exact⟨mA,⟨od,es,ep,k _ _ (.inl rfl) e,c⟩,r⟩
 |rng lo hi=>obtain⟨t,u,v,e⟩:=x;exact⟨t,u,v,k _ _ (.inl rfl) e⟩
 |frz ob u ih=>obtain⟨e,q⟩:=x;exact⟨k _ _ (.inl rfl) e,ih q⟩
 |tbl ps=>
  have e:h.get? a=some {cls:=.none,data:=.fields ps}:=x
  show h'.get? a=some {cls:=.none,data:=.fields ps}
  exact k a _ (.inl rfl) e
 |met f y=>
  have e:h.get? a=some (PySem.W.methodObj (.ref f) (.ref y)):=x
  show h'.get? a=some (PySem.W.methodObj (.ref f) (.ref y))
  exact k a _ (.inl rfl) e
 |ext φ=>obtain⟨p,⟨o,e⟩,st⟩:=x;exact⟨st _ _ p fun o q=>k _ _ (.inl rfl) q,⟨o,k _ _ (.inl rfl) e⟩,st⟩
theorem HOk.lt (x:HOk P w H h)(e:H a=some o):a<h.objs.size:=(x a o e).lt
theorem HOk.fresh (x:HOk P w H h)(e:h.objs.size<=a):H a=none:=by
 cases q:H a with
 |none=>rfl
 |some u=>exact absurd (Nat.lt_of_lt_of_le (x.lt q) e) (Nat.lt_irrefl _)
theorem HOk.kept (x:HOk P w H h)(k:∀b u,h.get? b=some u->h'.get? b=some u):HOk P w H h':=fun a o e=>
 (x a o e).stay (fun b u _ q=>k b u q) (fun _ q=>q) fun _ _ q=>q
theorem HOk.laid (x:HOk P w H h)(k:∀b u,h.get? b=some u->h'.get? b=some u)(hp:h.objs.size<=a)(new:ObjOk P w (upd H a o) h' a o):HOk P w (upd H a o) h':=fun b u e=>by
 have hn:=x.fresh hp
 by_cases hb:b=a
 ·subst hb;rw[bb] at e;cases e;exact new
 ·rw[aH hb] at e
  exact (x b u e).stay (fun c v _ q=>k c v q) (fun c q=>by rw[aH (bZ q hn)];exact q) fun c xs q=>by rw[aH (bZ q hn)];exact q
end
def Rd (H:Hp)(a:Addr)(u:HO):Prop:=H a=some u\/ ∃o,H a=some (.frz o u)
theorem Rd.ok {P:Program}{w:World}{H:Hp}{h:Heap}{a:Addr}{u:HO}(r:Rd H a u)(x:HOk P w H h):ObjOk P w H h a u:=by
 rcases r with r|⟨o,r⟩
 ·exact x a u r
 ·obtain⟨_,q⟩:=x a _ r
  exact q
noncomputable def Mut:Option HO->Prop
 |some (.lst _)=>True
 |some (.dK _)=>True
 |some (.dT _)=>True
 |some (.dN _ _ _)=>True
 |some (.set _ _)=>True
 |some (.ins _ _ _)=>True
 |some (.ext _)=>True
 |_=>False
section
variable {P:Program}{w:World}{H:Hp}{h h':Heap}{x e:Addr}{o':HO}
theorem HOk.write (ok:HOk P w H h)(mu:Mut (H x))(he:e=x\/H e=some (.own x))(k:∀b u,b≠e->h.get? b=some u->h'.get? b=some u)(heo: ∃u,h'.get? e=some u)
  (new:ObjOk P w (upd H x o') h' x o'):HOk P w (upd H x o') h':=fun b u q=>by
 have nown: ∀c y,H c=some (.own y)->c≠x:=fun c y r z=>by subst z;rw[r] at mu;exact mu
 have ntup: ∀c xs,H c=some (.tup xs)->c≠x:=fun c xs r z=>by subst z;rw[r] at mu;exact mu
 by_cases hb:b=x
 ·subst hb;rw[bb] at q;cases q;exact new
 ·rw[aH hb] at q
  by_cases hbe:b=e
  ·have q':H b=some (.own x):=by
    rcases he with z|z
    ·exact absurd (hbe.trans z) hb
    ·rw[hbe];exact z
   rw[q] at q';cases q'
   obtain⟨v,hv⟩:=heo
   exact⟨v,by rw[hbe];exact hv⟩
  ·refine (ok b u q).stay (fun c v hc r=>k c v ?_ r) (fun c r=>by rw[aH (nown c b r)];exact r) fun c xs r=>by rw[aH (ntup c xs r)];exact r
   rcases hc with rfl|hc
   ·exact hbe
   ·rintro rfl
    rcases he with z|z
    ·exact nown c b hc z
    ·rw[hc] at z;cases z;exact hb rfl
end
structure Un (fs ex:List Addr)(H H':Hp)(h h':Heap):Prop where
 keep: ∀b o,h.get? b=some o->H b=none->b ∉ fs->b ∉ ex->h'.get? b=some o
 slot: ∀b o,h.get? b=some o->H b=none->b∈fs->b ∉ ex-> ∃sl,h'.get? b=some {o with slots:=sl}
 free: ∀b o,h.get? b=some o->H b=none->b ∉ ex->H' b=none
 there: ∀b o,h.get? b=some o->b ∉ ex-> ∃o',h'.get? b=some o'
 tups: ∀b xs,H b=some (.tup xs)->H' b=some (.tup xs)
 frzs: ∀b o u,H b=some (.frz o u)->H' b=some (.frz o u)
 tbls: ∀b ps,H b=some (.tbl ps)-> ∃more,H' b=some (.tbl (ps++more))
section
variable {fs fs' ex ex':List Addr}{H H1 H2:Hp}{h h1 h2 h':Heap}{a x e:Addr}{o:HO}
theorem Un.any (u:Un fs ex H H1 h h1){b:Addr}{ob:Obj}(q:h.get? b=some ob)(n:H b=none)(hx:b ∉ ex): ∃sl,h1.get? b=some {ob with slots:=sl}:=by
 by_cases hb:b∈fs
 ·exact u.slot b ob q n hb hx
 ·exact⟨ob.slots,u.keep b ob q n hb hx⟩
theorem Un.kept (k:∀b u,h.get? b=some u->h'.get? b=some u):Un fs ex H H h h':=
 ⟨fun b ob q _ _ _=>k b ob q,fun b ob q _ _ _=>⟨ob.slots,k b ob q⟩,fun _ _ _ n _=>n,fun b ob q _=>⟨ob,k b ob q⟩,fun _ _ q=>q,fun _ _ _ q=>q,fun _ ps q=>⟨#[],by rw[q];simp⟩⟩
theorem Un.refl:Un fs ex H H h h:=Un.kept fun _ _ q=>q
theorem Un.laid (k:∀b u,h.get? b=some u->h'.get? b=some u)(hp:h.objs.size<=a)(hn:H a=none):Un fs ex H (upd H a o) h h' where
 keep:=fun b u q _ _ _=>k b u q
 slot:=fun b u q _ _ _=>⟨u.slots,k b u q⟩
 free:=fun b u q n _=>by rw[aH (Nat.ne_of_lt (Nat.lt_of_lt_of_le (Heap.lt_size q) hp))];exact n
 there:=fun b u q _=>⟨u,k b u q⟩
 tups:=fun b xs q=>by rw[aH (bZ q hn)];exact q
 frzs:=fun b u xs q=>by rw[aH (bZ q hn)];exact q
 tbls:=fun b ps q=>⟨#[],by rw[aH (bZ q hn),q];simp⟩
theorem Un.write (mu:Mut (H x))(he:e=x\/H e=some (.own x))(k:∀b u,b≠e->h.get? b=some u->h'.get? b=some u)(heo: ∃u,h'.get? e=some u):Un fs ex H (upd H x o) h h':=by
 have hx: ∀b,H b=none->b≠x:=fun b n z=>by subst z;rw[n] at mu;exact mu
 have hb: ∀b,H b=none->b≠e:=fun b n z=>by
  subst z
  rcases he with r|r
  ·exact hx b n r
  ·rw[n] at r;cases r
 have hm: ∀b u,H b=some u-> ¬Mut (some u)->b≠x:=fun b u q nm z=>by subst z;rw[q] at mu;exact nm mu
 refine⟨fun b u q n _ _=>k b u (hb b n) q,fun b u q n _ _=>⟨u.slots,k b u (hb b n) q⟩,fun b u q n _=>by rw[aH (hx b n)];exact n,fun b u q _=>?_,
  fun b xs q=>by rw[aH (hm b _ q fun z=>z)];exact q,fun b u xs q=>by rw[aH (hm b _ q fun z=>z)];exact q,fun b ps q=>⟨#[],by rw[aH (hm b _ q fun z=>z),q];simp⟩⟩
 by_cases hbe:b=e
 ·subst hbe;exact heo
 ·exact⟨u,k b u hbe q⟩
end
def trk (h:Heap)(H:Hp):List Addr:=(List.range h.objs.size).filter fun a=>(H a).isSome
def hidT (h:Heap)(H:Hp):Heap:=PySem.W.hideAll h (trk h H)
theorem uJ (h:Heap)(H:Hp):(hidT h H).objs.size=h.objs.size:=PySem.W.hideAll_size _ _
theorem wN {h:Heap}{H:Hp}{b:Addr}{o:Obj}(e:h.get? b=some o)(n:H b=none):(hidT h H).get? b=some o:=
 PySem.W.hideAll_get _ e fun hm=>by
  have q:(H b).isSome=true:=(List.mem_filter.mp hm).2
  rw[n] at q;simp at q
theorem yd {h:Heap}{H:Hp}{b:Addr}{o:Obj}(e:(hidT h H).get? b=some o):h.get? b=some o/\H b=none:=by
 have e':h.get? b=some o:=PySem.W.of_hideAll (trk h H) e
 refine⟨e',?_⟩
 cases q:H b with
 |none=>rfl
 |some x=>
  have hm:b∈trk h H:=List.mem_filter.mpr ⟨List.mem_range.mpr (Heap.lt_size e'),by simp [q]⟩
  have z:(hidT h H).get? b=none:=PySem.W.hideAll_none (trk h H) hm
  rw[z] at e;cases e
noncomputable def yQ (g h:Heap)(L:Addr):List (Addr×Obj):=(List.range h.objs.size).filterMap fun a=>if a=L\/(g.get? a).isSome=true then none else (h.get? a).map fun o=>(a,o)
def rest (g h:Heap)(L d:Addr):List (Addr×Obj):=(yQ g h L).filter fun p=>decide (p.1≠d)
end
section
structure Mod (K:PySem.W.Frag)(mg:Str->Option Value)(base:Heap):Prop where
 kin:K.In base
 glob:base.Ns mainGlobals mg
 blt: ∃mb,base.Ns builtinsNs mb/\ ∀x:Str,x≠ "__name__"->mb x=bootBuiltins x
 nolimit:base.NoLimit
structure Cx where
 prog:Program
 w:World
 K:PySem.W.Frag
 mg:Str->Option Value
 base:Heap
 A:Around
 N:List Str
 s₀:Shared
 H₀:Hp
 env:Env
 outer:List Env
 stack:List Env
 ex:List Addr
 fn:Str->Bool
 calm:Bool
 pn:List (Addr×Obj)
 xe:Value->Shared->Prop
noncomputable def frs (l:List Env):List Addr:=l.filterMap (·.frame)
noncomputable abbrev Cx.fs (X:Cx):List Addr:=frs X.outer
noncomputable def Vis (sc:Scope)(x:Str):Prop:=sc.names.lookup x=some .local \/sc.names.lookup x=some .cell\/sc.names.lookup x=some .free
noncomputable def Loc (sc:Scope)(x:Str):Prop:=sc.names.lookup x=some .local \/sc.names.lookup x=some .cell
noncomputable def Look (env:Env)(h:Heap)(m:Str->Option Value)(x:Str)(u:Value):Prop:=
 (env.kindOf x=some .local /\m x=some u)\/((env.kindOf x=some .cell\/env.kindOf x=some .free)/\ ∃c,env.cells.lookup x=some c/\h.IsCell c (some u))
structure Cx.Ok (X:Cx):Prop where
 mod:Mod X.K X.mg X.base
 kind:X.env.scope.kind=.function
 glob:X.env.globals=mainGlobals
 blt:X.env.builtins=builtinsNs
 above:X.s₀.heap.objs.size<=X.env.locals
 inj: ∀x y c,X.env.cells.lookup x=some c->X.env.cells.lookup y=some c->x=y
 has: ∀x,(X.env.kindOf x=some .cell\/X.env.kindOf x=some .free)-> ∃c,X.env.cells.lookup x=some c
 cab: ∀x c,X.fn x=true->X.env.cells.lookup x=some c->X.s₀.heap.objs.size<=c
 hd:X.calm=true->X.A.handled=none
 frames:X.A.frames=some X.stack
 stk:X.stack=X.outer\/(X.stack=X.env::X.outer/\X.env.frame=some X.env.locals)
 exf: ∀b∈X.ex,b≠X.env.locals/\ ∀x c,X.env.cells.lookup x=some c->c≠b
 bs: ∀b o,X.base.get? b=some o->X.s₀.heap.get? b=some o/\X.H₀ b=none
 bsz:X.base.objs.size<=X.s₀.heap.objs.size
 noex: ∀b o,X.base.get? b=some o->b ∉ X.ex
 exfs: ∀b∈X.ex,b ∉ X.fs
 funs:X.s₀.heap.FunFrames X.base X.outer
 frf: ∀b∈X.fs,X.H₀ b=none
structure Inv (X:Cx)(pins:List (Addr×Obj))(σ:List (Option V))(H:Hp)(s:Shared):Prop where
 ok:X.Ok
 os:s.os=X.s₀.os
 bare:AllBare s.gens
 base:Un X.fs X.ex X.H₀ H X.s₀.heap s.heap
 loc: ∃m,s.heap.Ns X.env.locals m/\ ∀ (i:Nat) (x:Str) (v:V),X.N[i]?=some x->σ[i]?=some (some v)->Vis X.env.scope x-> ∃u,RelV v u/\Look X.env s.heap m x u
 cell: ∀x c,X.env.cells.lookup x=some c-> ∃v,s.heap.IsCell c v
 free:H X.env.locals=none
 freeC: ∀x c,X.env.cells.lookup x=some c->H c=none
 pin: ∀p∈X.pn++pins,s.heap.get? p.1=some p.2/\H p.1=none/\p.1≠X.env.locals/\p.1 ∉ X.fs/\ ∀v,p.2.data≠.cell v
 hok:HOk X.prog X.w H s.heap
 len:σ.length=X.N.length
section
variable {X:Cx}{pins:List (Addr×Obj)}{σ:List (Option V)}{H H':Hp}{s:Shared}{h':Heap}
theorem Cx.Ok.nofr (ok:X.Ok){b:Addr}{o:Obj}(e:X.base.get? b=some o):b ∉ X.fs:=fun hb=>by
 have:=(ok.funs.mem hb).1
 rw[e] at this;cases this
theorem Inv.bs (I:Inv X pins σ H s): ∀b o,X.base.get? b=some o->s.heap.get? b=some o/\H b=none:=fun b o e=>
 ⟨I.base.keep b o (I.ok.bs b o e).1 (I.ok.bs b o e).2 (I.ok.nofr e) (I.ok.noex b o e),I.base.free b o (I.ok.bs b o e).1 (I.ok.bs b o e).2 (I.ok.noex b o e)⟩
theorem Inv.bk (I:Inv X pins σ H s): ∀b o,X.base.get? b=some o->s.heap.get? b=some o:=fun b o e=>(I.bs b o e).1
theorem Inv.mod (I:Inv X pins σ H s):Mod X.K X.mg X.base:=I.ok.mod
theorem Inv.kIn (I:Inv X pins σ H s):X.K.In s.heap:=I.ok.mod.kin.keeps I.bk
theorem Inv.fr (I:Inv X pins σ H s): ∃m,Fr X.base X.env.locals s.heap m:=
 let ⟨m,hn,_⟩:=I.loc
 ⟨m,hn,I.bk,Nat.le_trans I.ok.bsz I.ok.above⟩
theorem Inv.lt (I:Inv X pins σ H s):X.env.locals<s.heap.objs.size:=let ⟨_,hn,_⟩:=I.loc;hn.lt
theorem Inv.sz (I:Inv X pins σ H s):X.s₀.heap.objs.size<=s.heap.objs.size:=Nat.le_trans I.ok.above (Nat.le_of_lt I.lt)
theorem Inv.nofs (I:Inv X pins σ H s){a:Addr}(h:s.heap.objs.size<=a):a ∉ X.fs:=fun hb=>by
 obtain⟨_,o,ho,_⟩:=I.ok.funs.mem hb
 exact absurd (Nat.lt_of_lt_of_le (Heap.lt_size ho) (Nat.le_trans I.sz h)) (Nat.lt_irrefl _)
theorem Inv.cne (I:Inv X pins σ H s): ∀x c,X.env.cells.lookup x=some c->c≠X.env.locals:=fun x c e z=>by
 obtain⟨v,o,ho,hd⟩:=I.cell x c e
 obtain⟨m,⟨o',es,ep,ho',hd',_⟩,_⟩:=I.loc
 rw[z,ho'] at ho;cases ho;rw[hd'] at hd;cases hd
theorem Inv.funs (I:Inv X pins σ H s):s.heap.FunFrames X.base X.outer:=by
 have all: ∀ (l:List Env),(∀b∈frs l,b∈X.fs)->X.s₀.heap.FunFrames X.base l->s.heap.FunFrames X.base l:=by
  intro l
  induction l with
  |nil=>intro _ _;trivial
  |cons env r ih=>
   intro hs hl
   obtain⟨hk,⟨L,o,hf,hn,ho,hd⟩,hr⟩:=hl
   have hL:L∈X.fs:=hs L (by unfold frs;rw[List.filterMap_cons,hf];exact List.mem_cons_self)
   obtain⟨sl,e⟩:=I.base.slot L o ho (I.ok.frf L hL) hL fun z=>I.ok.exfs L z hL
   exact⟨hk,⟨L,_,hf,hn,e,hd⟩,ih (fun b hb=>hs b (by unfold frs;rw[List.filterMap_cons,hf];exact List.mem_cons_of_mem _ hb)) hr⟩
 exact all X.outer (fun _ hb=>hb) I.ok.funs
theorem Inv.stack (I:Inv X pins σ H s):s.heap.FunFrames X.base X.stack:=by
 rcases I.ok.stk with e|⟨e,hf⟩
 ·rw[e];exact I.funs
 ·rw[e]
  obtain⟨m,hn,_⟩:=I.loc
  refine .cons (by rw[I.ok.kind];decide) hf hn ?_ I.funs
  exact Heap.get?_none_of_le (Nat.le_trans I.ok.bsz I.ok.above)
theorem Inv.stkSub (I:Inv X pins σ H s): ∀b∈frs X.stack,b∈X.env.locals::X.fs:=fun b hb=>by
 rcases I.ok.stk with e|⟨e,hf⟩
 ·rw[e] at hb;exact List.mem_cons_of_mem _ hb
 ·rw[e] at hb
  unfold frs at hb
  rw[List.filterMap_cons,hf] at hb
  exact hb
theorem Inv.stkFree (I:Inv X pins σ H s): ∀b∈frs X.stack,H b=none:=fun b hb=>by
 rcases List.mem_cons.mp (I.stkSub b hb) with e|hb
 ·rw[e];exact I.free
 ·obtain⟨_,o,ho,_⟩:=I.ok.funs.mem hb
  exact I.base.free b o ho (I.ok.frf b hb) fun z=>I.ok.exfs b z hb
theorem Inv.step {g':Array GenState}{t':Nat}{d':Drawn}{ch:List Addr}(I:Inv X pins σ H s)
  (hch: ∀b∈ch,(b∈X.ex\/X.s₀.heap.objs.size<=b)/\b≠X.env.locals/\(∀x c,X.env.cells.lookup x=some c->c≠b)/\ ∀p∈X.pn++pins,p.1≠b)
  (keep: ∀b o,b≠X.env.locals->b ∉ X.fs->b ∉ ch->s.heap.get? b=some o->H b=none->h'.get? b=some o)
  (slot: ∀b o,b≠X.env.locals->b∈X.fs->b ∉ ch->s.heap.get? b=some o->H b=none-> ∃sl,h'.get? b=some {o with slots:=sl})(free: ∀b o,b ∉ ch->s.heap.get? b=some o->H b=none->H' b=none)
  (there: ∀b o,b ∉ ch->s.heap.get? b=some o-> ∃o',h'.get? b=some o')
  (tups: ∀b xs,H b=some (.tup xs)->H' b=some (.tup xs))(frzs: ∀b o u,H b=some (.frz o u)->H' b=some (.frz o u))(tbls: ∀b ps,H b=some (.tbl ps)-> ∃more,H' b=some (.tbl (ps++more)))
  (ns: ∀m,s.heap.Ns X.env.locals m->h'.Ns X.env.locals m)(hok:HOk X.prog X.w H' h')(hg:AllBare g'):
  Inv X pins σ H' {s with heap:=h',gens:=g',drawn:=d',toks:=t'}:=by
 have neL: ∀b o,X.s₀.heap.get? b=some o->b≠X.env.locals:=fun b o e=>Nat.ne_of_lt (Nat.lt_of_lt_of_le (Heap.lt_size e) I.ok.above)
 have neC: ∀b o,X.s₀.heap.get? b=some o->b ∉ X.ex->b ∉ ch:=fun b o e hx hb=>by
  rcases (hch b hb).1 with z|z
  ·exact hx z
  ·exact absurd (Nat.lt_of_lt_of_le (Heap.lt_size e) z) (Nat.lt_irrefl _)
 have cellK: ∀x c,X.env.cells.lookup x=some c-> ∀v,s.heap.IsCell c v->h'.IsCell c v:=fun x c e v ⟨o,ho,hd⟩=>by
  have nch:c ∉ ch:=fun z=>(hch c z).2.2.1 x c e rfl
  by_cases hc:c∈X.fs
  ·obtain⟨sl,q⟩:=slot c o (I.cne x c e) hc nch ho (I.freeC x c e)
   exact⟨_,q,hd⟩
  ·exact⟨o,keep c o (I.cne x c e) hc nch ho (I.freeC x c e),hd⟩
 refine⟨I.ok,I.os,hg,⟨fun b o e n hb hx=>?_,fun b o e n hb hx=>?_,fun b o e n hx=>?_,fun b o e hx=>?_,fun b xs e=>tups b xs (I.base.tups b xs e),fun b o xs e=>frzs b o xs (I.base.frzs b o xs e),fun b ps e=>?_⟩,?_,fun x c e=>?_,?_,fun x c e=>?_,fun p hp=>?_,hok,I.len⟩
 ·exact keep b o (neL b o e) hb (neC b o e hx) (I.base.keep b o e n hb hx) (I.base.free b o e n hx)
 ·obtain⟨sl,e1⟩:=I.base.slot b o e n hb hx
  obtain⟨sl',e2⟩:=slot b _ (neL b o e) hb (neC b o e hx) e1 (I.base.free b o e n hx)
  exact⟨sl',e2⟩
 ·obtain⟨o',e1⟩:=I.base.there b o e hx
  exact free b o' (neC b o e hx) e1 (I.base.free b o e n hx)
 ·obtain⟨o',e1⟩:=I.base.there b o e hx
  exact there b o' (neC b o e hx) e1
 ·obtain⟨m1,e1⟩:=I.base.tbls b ps e
  obtain⟨m2,e2⟩:=tbls b _ e1
  exact⟨m1++m2,by rw[e2,Array.append_assoc]⟩
 ·obtain⟨m,hn,hl⟩:=I.loc
  refine⟨m,ns m hn,fun i x v e1 e2 e3=>?_⟩
  obtain⟨u,r,l⟩:=hl i x v e1 e2 e3
  refine⟨u,r,?_⟩
  rcases l with l|⟨k,c,e,z⟩
  ·exact .inl l
  ·exact .inr ⟨k,c,e,cellK x c e _ z⟩
 ·obtain⟨v,z⟩:=I.cell x c e
  exact⟨v,cellK x c e v z⟩
 ·obtain⟨m,⟨o,_,_,ho,_⟩,_⟩:=I.loc
  exact free _ o (fun z=>(hch _ z).2.1 rfl) ho I.free
 ·obtain⟨v,o,ho,hd⟩:=I.cell x c e
  exact free c o (fun z=>(hch c z).2.2.1 x c e rfl) ho (I.freeC x c e)
 ·obtain⟨e,n,ne,nf,d⟩:=I.pin p hp
  have nch:p.1 ∉ ch:=fun z=>(hch p.1 z).2.2.2 p hp rfl
  exact⟨keep p.1 p.2 ne nf nch e n,free p.1 p.2 nch e n,ne,nf,d⟩
theorem Inv.un {t':Nat}(I:Inv X pins σ H s)(u:Un X.fs [] H H' s.heap h')(hok:HOk X.prog X.w H' h'):Inv X pins σ H' {s with heap:=h',toks:=t'}:=by
 obtain⟨m,⟨o,es,ep,ho,r⟩,_⟩:=id I.loc
 obtain⟨sl,hL⟩:=u.any ho I.free (by simp)
 exact I.step (g':=s.gens) (d':=s.drawn) (ch:=[]) (fun _ z=>nomatch z) (fun b o _ hb _ e n=>u.keep b o e n hb (by simp)) (fun b o _ hb _ e n=>u.slot b o e n hb (by simp)) (fun b o _ e n=>u.free b o e n (by simp)) (fun b o _ e=>u.there b o e (by simp)) u.tups u.frzs u.tbls (fun m' hm=>by
  obtain⟨o',es',ep',ho',r'⟩:=hm
  rw[ho] at ho';cases ho'
  exact⟨_,es',ep',hL,r'⟩) hok I.bare
theorem Inv.call {g':Array GenState}{t':Nat}{d':Drawn}{ch:List Addr}(I:Inv X pins σ H s)(u:Un (frs X.stack) ch H H' s.heap h')(hok:HOk X.prog X.w H' h')(hg:AllBare g')
  (hch: ∀b∈ch,(b∈X.ex\/X.s₀.heap.objs.size<=b)/\b≠X.env.locals/\(∀x c,X.env.cells.lookup x=some c->c≠b)/\ ∀p∈X.pn++pins,p.1≠b):
  Inv X pins σ H' {s with heap:=h',gens:=g',drawn:=d',toks:=t'}:=by
 obtain⟨m,⟨o,es,ep,ho,r⟩,_⟩:=id I.loc
 obtain⟨sl,hL⟩:=u.any ho I.free fun z=>(hch _ z).2.1 rfl
 exact I.step (ch:=ch) hch (fun b o hL hb hc e n=>u.keep b o e n (fun z=>(List.mem_cons.mp (I.stkSub b z)).elim hL hb) hc) (fun b o _ _ hc e n=>u.any e n hc) (fun b o hc e n=>u.free b o e n hc) (fun b o hc e=>u.there b o e hc) u.tups u.frzs u.tbls (fun m' hm=>by
  obtain⟨o',es',ep',ho',r'⟩:=hm
  rw[ho] at ho';cases ho'
  exact⟨_,es',ep',hL,r'⟩) hok hg
theorem Inv.turned {t':Nat}{it:Addr}(I:Inv X pins σ H s)(k:∀b o,b≠it->s.heap.get? b=some o->h'.get? b=some o)(hn:H it=none)(hL:it≠X.env.locals)
  (h1:it∈X.ex\/X.s₀.heap.objs.size<=it)(h2: ∀x c,X.env.cells.lookup x=some c->c≠it)(h3: ∀p∈X.pn++pins,p.1≠it):Inv X pins σ H {s with heap:=h',toks:=t'}:=by
 have nit: ∀b u,H b=some u->b≠it:=fun b u e z=>by rw[z,hn] at e;cases e
 refine I.step (g':=s.gens) (d':=s.drawn) (ch:=[it]) (fun b hb=>?_) (fun b o _ _ hc e _=>k b o (fun z=>hc (by simp [z])) e) (fun b o _ _ hc e _=>⟨o.slots,k b o (fun z=>hc (by simp [z])) e⟩) (fun _ _ _ _ n=>n)
  (fun b o hc e=>⟨o,k b o (fun z=>hc (by simp [z])) e⟩) (fun _ _ e=>e) (fun _ _ _ e=>e) (fun b ps e=>⟨#[],by rw[e];simp⟩) (fun m hm=>?_) (fun b u e=>?_) I.bare
 ·have e:b=it:=by simpa using hb
  subst e
  exact⟨h1,hL,h2,h3⟩
 ·obtain⟨o,es,ep,ho,r⟩:=hm
  exact⟨o,es,ep,k _ o (Ne.symm hL) ho,r⟩
 ·refine (I.hok b u e).stay (fun c v hc q=>k c v ?_ q) (fun _ q=>q) fun _ _ q=>q
  rcases hc with z|z
  ·rw[z];exact nit b u e
  ·exact nit c _ z
theorem Inv.tok (I:Inv X pins σ H s)(t:Nat):Inv X pins σ H {s with toks:=t}:=I.un (h':=s.heap) (t':=t) Un.refl I.hok
theorem Inv.kept {t':Nat}(I:Inv X pins σ H s)(k:∀b u,s.heap.get? b=some u->h'.get? b=some u):Inv X pins σ H {s with heap:=h',toks:=t'}:=I.un (Un.kept k) (I.hok.kept k)
theorem Inv.laid {a:Addr}{o:HO}{t':Nat}(I:Inv X pins σ H s)(k:∀b u,s.heap.get? b=some u->h'.get? b=some u)(hp:s.heap.objs.size<=a)(new:ObjOk X.prog X.w (upd H a o) h' a o):
 Inv X pins σ (upd H a o) {s with heap:=h',toks:=t'}:=I.un (Un.laid k hp (I.hok.fresh hp)) (I.hok.laid k hp new)
theorem Inv.write {x e:Addr}{o:HO}{t':Nat}(I:Inv X pins σ H s)(mu:Mut (H x))(he:e=x\/H e=some (.own x))(k:∀b u,b≠e->s.heap.get? b=some u->h'.get? b=some u)(heo: ∃u,h'.get? e=some u)
 (new:ObjOk X.prog X.w (upd H x o) h' x o):Inv X pins σ (upd H x o) {s with heap:=h',toks:=t'}:=I.un (Un.write mu he k heo) (I.hok.write mu he k heo new)
theorem Inv.weak {σ':List (Option V)}(I:Inv X pins σ H s)(hl:σ'.length=σ.length)(w:∀ (i:Nat) v,σ'[i]?=some (some v)->σ[i]?=some (some v)):Inv X pins σ' H s:=
 ⟨I.ok,I.os,I.bare,I.base,let ⟨m,hn,hl'⟩:=I.loc;⟨m,hn,fun i x v e1 e2 e3=>hl' i x v e1 (w i v e2) e3⟩,I.cell,I.free,I.freeC,I.pin,I.hok,hl.trans I.len⟩
theorem Inv.pins_of {pins':List (Addr×Obj)}(I:Inv X pins σ H s)(h:∀p∈pins',s.heap.get? p.1=some p.2/\H p.1=none/\p.1≠X.env.locals/\p.1 ∉ X.fs/\ ∀v,p.2.data≠.cell v):Inv X pins' σ H s:=
 ⟨I.ok,I.os,I.bare,I.base,I.loc,I.cell,I.free,I.freeC,fun p hp=>(List.mem_append.mp hp).elim (fun z=>I.pin p (List.mem_append_left _ z)) (h p),I.hok,I.len⟩
theorem qq {N:List Str}(hN:N.Nodup){i j:Nat}{x:Str}(a:N[i]?=some x)(b:N[j]?=some x):i=j:=by
 obtain⟨h1,e1⟩:=List.getElem?_eq_some_iff.mp a
 obtain⟨h2,e2⟩:=List.getElem?_eq_some_iff.mp b
 exact (List.getElem_inj hN).mp (e1.trans e2.symm)
theorem nI {M:Model}{A:Around}{E:Value->Shared->Prop}{i:Nat}{x:Str}{v:V}{u:Value}{Q:Unit->Shared->Prop}(I:Inv X pins σ H s)(hN:X.N.Nodup)(hi:X.N[i]?=some x)(hx:Loc X.env.scope x)(r:RelV v u)
  (h:∀s',Inv X pins (σ.set i (some v)) H s'->(∃a,Heap.SameBut a s.heap s'.heap/\(a=X.env.locals\/X.env.cells.lookup x=some a))->Q () s')(hf:X.fn x=true\/X.env.scope.names.lookup x=some .local :=by first|exact .inl rfl|exact .inr rfl|assumption):wpAny M A (storeName X.env x u) Q E s:=by
 obtain⟨m,hn,hl⟩:=id I.loc
 have hcls:(X.env.scope.kind==.class||(X.env.scope.kind==.module && X.env.locals !=X.env.globals))=false:=by rw[I.ok.kind];rfl
 have hiσ:i<σ.length:=by rw[I.len];exact (List.getElem?_eq_some_iff.mp hi).1
 have cne:=I.cne
 have tracked: ∀ {a:Addr}{h':Heap},(∃o,s.heap.get? a=some o/\H a=none)->Heap.SameBut a s.heap h'->HOk X.prog X.w H h':=fun{a h'} ha hs b ob e=>by
  obtain⟨_,_,hfree⟩:=ha
  refine (I.hok b ob e).stay (fun c w' hc q=>(hs.2 c ?_).trans q) (fun _ q=>q) fun _ _ q=>q
  rintro rfl
  rcases hc with rfl|hc
  ·rw[hfree] at e;cases e
  ·rw[hfree] at hc;cases hc
 rcases hx with hk|hk
 ·refine wpAny_storeName_local hk hn (fun h' hn' hs=>?_) hcls
  obtain⟨oL,_,_,hoL,_⟩:=id hn
  refine h _ ⟨I.ok,I.os,I.bare,⟨fun b o e n hb hx=>?_,fun b o e n hb hx=>?_,I.base.free,fun b o e hx=>?_,I.base.tups,I.base.frzs,I.base.tbls⟩,⟨_,hn',fun j y v' e1 e2 e3=>?_⟩,fun y c e=>?_,I.free,I.freeC,fun p hp=>?_,tracked ⟨oL,hoL,I.free⟩ hs,by simpa using I.len⟩ ⟨_,hs,.inl rfl⟩
  ·exact (hs.2 b (Nat.ne_of_lt (Nat.lt_of_lt_of_le (Heap.lt_size e) I.ok.above))).trans (I.base.keep b o e n hb hx)
  ·obtain⟨sl,e1⟩:=I.base.slot b o e n hb hx
   exact⟨sl,(hs.2 b (Nat.ne_of_lt (Nat.lt_of_lt_of_le (Heap.lt_size e) I.ok.above))).trans e1⟩
  ·obtain⟨o',e1⟩:=I.base.there b o e hx
   exact⟨o',(hs.2 b (Nat.ne_of_lt (Nat.lt_of_lt_of_le (Heap.lt_size e) I.ok.above))).trans e1⟩
  ·by_cases hj:j=i
   ·subst hj
    rw[hi] at e1;cases e1
    rw[List.getElem?_set_self hiσ] at e2
    cases e2
    exact⟨u,r,.inl ⟨hk,by simp⟩⟩
   ·rw[List.getElem?_set_ne (Ne.symm hj)] at e2
    obtain⟨u',r',q⟩:=hl j y v' e1 e2 e3
    refine⟨u',r',?_⟩
    rcases q with⟨k,e⟩|⟨k,c,e,z⟩
    ·refine .inl ⟨k,?_⟩
     have:y≠x:=fun e=>hj (qq hN e1 (e▸hi))
     simp [this,e]
    ·exact .inr ⟨k,c,e,z.sameBut hs (cne y c e)⟩
  ·obtain⟨w',z⟩:=I.cell y c e
   exact⟨w',z.sameBut hs (cne y c e)⟩
  ·obtain⟨e,n,ne,nf,d⟩:=I.pin p hp
   exact⟨(hs.2 p.1 ne).trans e,n,ne,nf,d⟩
 ·have hfn:X.fn x=true:=by
   rcases hf with z|z
   ·exact z
   ·rw[z] at hk;cases hk
  obtain⟨c,hc⟩:=I.ok.has x (.inl hk)
  obtain⟨w',z⟩:=I.cell x c hc
  refine wpAny_storeName_cell I.ok.kind hk hc z (fun h' hc' hs=>?_)
  obtain⟨oc,hoc,hocd⟩:=id z
  refine h {s with heap:=h'} ⟨I.ok,I.os,I.bare,⟨fun b o e n hb hx=>?_,fun b o e n hb hx=>?_,I.base.free,fun b o e hx=>?_,I.base.tups,I.base.frzs,I.base.tbls⟩,⟨m,hn.sameBut hs (Ne.symm (cne x c hc)),fun j y v' e1 e2 e3=>?_⟩,fun y c' e=>?_,I.free,I.freeC,fun p hp=>?_,tracked ⟨oc,hoc,I.freeC x c hc⟩ hs,by simpa using I.len⟩ ⟨c,hs,.inr hc⟩
  ·exact (hs.2 b (Nat.ne_of_lt (Nat.lt_of_lt_of_le (Heap.lt_size e) (I.ok.cab x c hfn hc)))).trans (I.base.keep b o e n hb hx)
  ·obtain⟨sl,e1⟩:=I.base.slot b o e n hb hx
   exact⟨sl,(hs.2 b (Nat.ne_of_lt (Nat.lt_of_lt_of_le (Heap.lt_size e) (I.ok.cab x c hfn hc)))).trans e1⟩
  ·obtain⟨o',e1⟩:=I.base.there b o e hx
   exact⟨o',(hs.2 b (Nat.ne_of_lt (Nat.lt_of_lt_of_le (Heap.lt_size e) (I.ok.cab x c hfn hc)))).trans e1⟩
  ·by_cases hj:j=i
   ·subst hj
    rw[hi] at e1;cases e1
    rw[List.getElem?_set_self hiσ] at e2
    cases e2
    exact⟨u,r,.inr ⟨.inl hk,c,hc,hc'⟩⟩
   ·rw[List.getElem?_set_ne (Ne.symm hj)] at e2
    obtain⟨u',r',q⟩:=hl j y v' e1 e2 e3
    refine⟨u',r',?_⟩
    rcases q with q|⟨k,c',e,z'⟩
    ·exact .inl q
    ·refine .inr ⟨k,c',e,z'.sameBut hs ?_⟩
     rintro rfl
     exact hj (qq hN e1 (I.ok.inj _ _ _ e hc▸hi))
  ·by_cases hcc:c'=c
   ·subst hcc;exact⟨_,hc'⟩
   ·obtain⟨w2,z2⟩:=I.cell y c' e
    exact⟨w2,z2.sameBut hs hcc⟩
  ·obtain⟨e,n,ne,nf,d⟩:=I.pin p hp
   refine⟨(hs.2 p.1 ?_).trans e,n,ne,nf,d⟩
   intro q
   rw[q,hoc] at e
   have q':oc=p.2:=Option.some.inj e
   exact d w' (by rw[<-q'];exact hocd)
theorem pT {M:Model}{A:Around}{E:Value->Shared->Prop}{i:Nat}{x:Str}{v:V}{u:Value}{Q:Unit->Shared->Prop}(I:Inv X pins σ H s)(hN:X.N.Nodup)(hi:X.N[i]?=some x)(hx:Loc X.env.scope x)(r:RelV v u)
  (h:∀s',Inv X pins (σ.set i (some v)) H s'->Q () s')(hf:X.fn x=true\/X.env.scope.names.lookup x=some .local :=by first|exact .inl rfl|exact .inr rfl|assumption):wpAny M A (storeName X.env x u) Q E s:=
 nI I hN hi hx r (fun s' I' _=>h s' I') hf
theorem Inv.call' {s':Shared}{ch:List Addr}(I:Inv X pins σ H s)(ho:s'.os=s.os)(u:Un (frs X.stack) ch H H' s.heap s'.heap)(hok:HOk X.prog X.w H' s'.heap)(hg:AllBare s'.gens)
  (hch: ∀b∈ch,(b∈X.ex\/X.s₀.heap.objs.size<=b)/\b≠X.env.locals/\(∀x c,X.env.cells.lookup x=some c->c≠b)/\ ∀p∈X.pn++pins,p.1≠b):Inv X pins σ H' s':=by
 obtain⟨h',g',d',t',o'⟩:=s'
 have e:o'=s.os:=ho
 subst e
 exact I.call (g':=g') (t':=t') (d':=d') u hok hg hch
end
noncomputable abbrev XK:=Value->Option Addr->Hp->Prop
noncomputable abbrev St:=List (Option V)
noncomputable abbrev VK:=V->Hp->Prop
noncomputable abbrev TE:=St->Hp->VK->Prop
noncomputable abbrev TT:=St->Hp->(Bool->Hp->Prop)->Prop
noncomputable abbrev TA:=St->Hp->(List V->Hp->Prop)->Prop
structure Ends where
 nx:St->Hp->Prop
 rt:VK
 bk:St->Hp->Prop:=fun _ _=>False
 ct:St->Hp->Prop:=fun _ _=>False
noncomputable abbrev TS:=Ends->St->Hp->Prop
def EP (X:Cx)(pins:List (Addr×Obj))(σ:St)(Q:VK)(u:Value)(s':Shared):Prop:= ∃v H',Inv X pins σ H' s'/\RelV v u/\Q v H'
def TP (X:Cx)(pins:List (Addr×Obj))(σ:St)(Q:Bool->Hp->Prop)(b:Bool)(s':Shared):Prop:= ∃H',Inv X pins σ H' s'/\Q b H'
def AP (X:Cx)(pins:List (Addr×Obj))(σ:St)(Q:List V->Hp->Prop)(us:List Value)(s':Shared):Prop:= ∃vs H',Inv X pins σ H' s'/\Vals vs us/\Q vs H'
def SP (X:Cx)(pins:List (Addr×Obj))(D:Ends)(f:Flow)(s':Shared):Prop:=
 match f with
 |.next=> ∃σ' H',Inv X pins σ' H' s'/\D.nx σ' H'
 |.brk=> ∃σ' H',Inv X pins σ' H' s'/\D.bk σ' H'
 |.cont=> ∃σ' H',Inv X pins σ' H' s'/\D.ct σ' H'
 |.ret u=> ∃v σ' H',Inv X pins σ' H' s'/\RelV v u/\D.rt v H'
def PE (X:Cx)(e:Expr)(t:TE):Prop:=
 ∀ (pins:List (Addr×Obj)) (s:Shared) (σ:St) (H:Hp) (Q:VK),Inv X pins σ H s->t σ H Q->wpAny (model X.prog X.w) X.A (eval e X.env) (EP X pins σ Q) X.xe s
def PT (X:Cx)(e:Expr)(t:TT):Prop:=
 ∀ (pins:List (Addr×Obj)) (s:Shared) (σ:St) (H:Hp) (Q:Bool->Hp->Prop),Inv X pins σ H s->t σ H Q->wpAny (model X.prog X.w) X.A (isTrue e X.env (eval e X.env)) (TP X pins σ Q) X.xe s
def PW (X:Cx)(e:Expr)(t:TT):Prop:=
 ∀ (whole:Sem Value) (pins:List (Addr×Obj)) (s:Shared) (σ:St) (H:Hp) (Q:Bool->Hp->Prop),Inv X pins σ H s->t σ H Q->wpAny (model X.prog X.w) X.A (isTrue e X.env whole) (TP X pins σ Q) X.xe s
theorem PW.pt {X:Cx}{e:Expr}{t:TT}(h:PW X e t):PT X e t:=h _
def PA (X:Cx)(es:List Expr)(t:TA):Prop:=
 ∀ (pos:Pos) (pins:List (Addr×Obj)) (s:Shared) (σ:St) (H:Hp) (Q:List V->Hp->Prop),Inv X pins σ H s->t σ H Q->wpAny (model X.prog X.w) X.A (spliced (backTo pos (starEach es X.env))) (AP X pins σ Q) X.xe s
def PS (X:Cx)(st:Stmt)(t:TS):Prop:=
 ∀ (pins:List (Addr×Obj)) (s:Shared) (σ:St) (H:Hp) (D:Ends),Inv X pins σ H s->t D σ H->wpAny (model X.prog X.w) X.A (exec st X.env) (SP X pins D) X.xe s
def PSs (X:Cx)(st:List Stmt)(t:TS):Prop:=
 ∀ (pins:List (Addr×Obj)) (s:Shared) (σ:St) (H:Hp) (D:Ends),Inv X pins σ H s->t D σ H->wpAny (model X.prog X.w) X.A (execs st X.env) (SP X pins D) X.xe s
theorem thn {α:Type}{t:Sem α}{Q Q':α->Shared->Prop}{M:Model}{A:Around}{E:Value->Shared->Prop}{s:Shared}(h:wpAny M A t Q E s)(hQ: ∀a s,Q a s->Q' a s):wpAny M A t Q' E s:=wpAny_mono h hQ fun _ _ x=>x
end
section
section
variable {X:Cx}
theorem bin {a b:Expr}{ta tb:TE}(ha:PE X a ta)(hb:PE X b tb){pins:List (Addr×Obj)}{s:Shared}{σ:St}{H:Hp}{R:V->V->Hp->Prop}(I:Inv X pins σ H s)(h:ta σ H fun x H1=>tb σ H1 fun y H2=>R x y H2)
  {α:Type}{Q:α->Shared->Prop}{f:Value->Value->Sem α}
  (hf: ∀v u s2 x y H2,Inv X pins σ H2 s2->RelV x v->RelV y u->R x y H2->wpAny (model X.prog X.w) X.A (f v u) Q X.xe s2):
  wpAny (model X.prog X.w) X.A (eval a X.env) (fun v s₁=>wpAny (model X.prog X.w) X.A (eval b X.env) (fun u s₂=>wpAny (model X.prog X.w) X.A (f v u) Q X.xe s₂) X.xe s₁) X.xe s:=by
 refine thn (ha pins s σ H _ I h) fun v s1 qz=>?_
 obtain⟨x,H1,I1,r1,q1⟩:=qz
 refine thn (hb pins s1 σ H1 _ I1 q1) fun u s2 qz=>?_
 obtain⟨y,H2,I2,r2,q2⟩:=qz
 exact hf v u s2 x y H2 I2 r1 r2 q2
def tVar (i:Nat):TE:=fun σ H Q=> ∃v,σ[i]?=some (some v)/\Q v H
def tC (v:V):TE:=fun _ H Q=>Q v H
theorem zM {i:Nat}{x:Str}{pos:Pos}(hN:X.N[i]?=some x)(hv:Vis X.env.scope x)(hd:(x==("__debug__":Str))=false:=by decide)(hcd:(x==("__classdict__":Str))=false:=by decide):PE X (.Name x pos) (tVar i):=by
 intro pins s σ H Q I h
 obtain⟨v,e,h⟩:=h
 obtain⟨m,hn,hl⟩:=I.loc
 obtain⟨u,r,l⟩:=hl i x v hN e hv
 have fin:EP X pins σ Q u s:=⟨v,H,I,r,h⟩
 rcases l with⟨hk,hm⟩|⟨hk,c,hc,hcell⟩
 ·exact wpAny_Name (wpAny_loadName_local I.ok.kind hk hn hm fin) hd
 ·rcases hk with hk|hk
  ·exact wpAny_Name (wpAny_loadName_cell I.ok.kind hk hc hcell fin) hd
  ·exact wpAny_Name (wpAny_loadName_free I.ok.kind hk hc hcell fin hcd) hd
theorem pe_int {i j pos}:PE X (.Constant (.int i) j pos) (tC (.int i)):=fun _ _ _ H _ I h=>wpAny_Constant_int ⟨.int i,H,I.tok _,⟨_,rfl⟩,h⟩
theorem pe_bl {b j pos}:PE X (.Constant (.bool b) j pos) (tC (.bl b)):=fun _ _ _ H _ I h=>Constant_bool ⟨.bl b,H,I,rfl,h⟩
theorem pe_non {j pos}:PE X (.Constant .none j pos) (tC .non):=fun _ _ _ H _ I h=>Constant_none ⟨.non,H,I,rfl,h⟩
theorem pe_str {x j pos}:PE X (.Constant (.str x) j pos) (tC (.str x)):=fun _ _ _ H _ I h=>Calls.Constant_str ⟨.str x,H,I.tok _,⟨_,rfl⟩,h⟩
noncomputable def Gl (X:Cx)(x:Str):Prop:=X.env.kindOf x=some .globalImplicit
theorem kr {E:Value->Shared->Prop}{pins:List (Addr×Obj)}{s:Shared}{σ:St}{H:Hp}{x:Str}{u:Value}{pos:Pos}{Q:Value->Shared->Prop}(I:Inv X pins σ H s)(hg:Gl X x)(hm:X.mg x=some u)(h:Q u s)
  (hd:(x==("__debug__":Str))=false:=by decide):wpAny (model X.prog X.w) X.A (eval (.Name x pos) X.env) Q E s:=
 Calls.Name_function_global I.ok.kind hg (Calls.loadGlobal_global (by rw[I.ok.glob];exact I.mod.glob.keeps I.bk) hm h) hd
theorem j0 {E:Value->Shared->Prop}{pins:List (Addr×Obj)}{s:Shared}{σ:St}{H:Hp}{x:Str}{u:Value}{pos:Pos}{Q:Value->Shared->Prop}(I:Inv X pins σ H s)(hg:Gl X x)(hm:X.mg x=none)(hv:bootBuiltins x=some u)(h:Q u s)
  (hn:x≠ "__name__":=by decide)(hd:(x==("__debug__":Str))=false:=by decide):wpAny (model X.prog X.w) X.A (eval (.Name x pos) X.env) Q E s:=by
 obtain⟨mb,h1,h2⟩:=I.mod.blt
 exact Calls.Name_function_global I.ok.kind hg (Calls.loadGlobal_builtin (by rw[I.ok.glob];exact I.mod.glob.keeps I.bk) hm (by rw[I.ok.blt];exact h1.keeps I.bk) ((h2 x hn).trans hv) h) hd
theorem eO {x:Str}{v:V}{u:Value}{pos:Pos}(hg:Gl X x)(hm:X.mg x=some u)(r:RelV v u)(hd:(x==("__debug__":Str))=false:=by decide):PE X (.Name x pos) (tC v):=
 fun _ _ _ H _ I h=>kr I hg hm ⟨v,H,I,r,h⟩ hd
theorem xS {x:Str}{v:V}{u:Value}{pos:Pos}(hg:Gl X x)(hm:X.mg x=none)(hv:bootBuiltins x=some u)(r:RelV v u)(hn:x≠ "__name__":=by decide)(hd:(x==("__debug__":Str))=false:=by decide):PE X (.Name x pos) (tC v):=
 fun _ _ _ H _ I h=>j0 I hg hm hv ⟨v,H,I,r,h⟩ hn hd
variable {a b:Expr}{ta tb:TE}{pos:Pos}
def PC (X:Cx)(op:CmpOp)(a b:Expr)(t:TE):Prop:=
 ∀ (pins:List (Addr×Obj)) (s:Shared) (σ:St) (H:Hp) (Q:VK),Inv X pins σ H s->t σ H Q->
   wpAny (model X.prog X.w) X.A (eval a X.env) (fun v s₁=>wpAny (model X.prog X.w) X.A (eval b X.env) (fun u s₂=>wpAny (model X.prog X.w) X.A (compareOp op v u) (EP X pins σ Q) X.xe s₂) X.xe s₁) X.xe s
def tB (t:TE):TT:=fun σ H Q=>t σ H fun x H1=> ∃c,x=.bl c/\Q c H1
theorem Bx {op:CmpOp}{t:TE}(h:PC X op a b t)(h1:behindInMarks op b=false:=by first|exact nobehind _ (by decide) (by decide)|rfl):PT X (.Compare a [op] [b] pos) (tB t):=by
 intro pins s σ H Q I hw
 refine wpAny_isTrue_Compare1 (thn (h pins s σ H _ I hw) fun v s1 h1=>thn h1 fun u s2 h2=>thn h2 fun c s3 qz=>?_) h1
 obtain⟨x,H1,I1,r1,q1⟩:=qz
 obtain⟨d,rfl,q⟩:=q1
 cases r1
 exact wpAny_truthy_bool ⟨H1,I1,q⟩
theorem io {e:Expr}{t:TE}(h:PE X e t)(he: ∀whole,isTrue e X.env whole=(do let v<-whole;standAt e.pos;holding [v] (truthy v)):=by intro _;rfl):PT X e (tB t):=by
 intro pins s σ H Q I hw
 refine isTrue_plain (thn (h pins s σ H _ I hw) fun v s1 qz=>?_) (he _)
 obtain⟨x,H1,I1,r1,q1⟩:=qz
 obtain⟨d,rfl,q⟩:=q1
 cases r1
 exact wpAny_truthy_bool ⟨H1,I1,q⟩
variable {tA tB':TT}{rest:List Expr}
def tAnd (t u:TT):TT:=fun σ H Q=>t σ H fun c H1=>if c=true then u σ H1 Q else Q false H1
def tOr (t u:TT):TT:=fun σ H Q=>t σ H fun c H1=>if c=true then Q true H1 else u σ H1 Q
def tNot (t:TT):TT:=fun σ H Q=>t σ H fun c H1=>Q (!c) H1
theorem sJ (ha:PT X a tA):PW X (.BoolOp .And [a] pos) tA:=by
 intro wh pins s σ H Q I h
 refine isTrue_and (thn (ha pins s σ H Q I h) fun c s1 e=>?_)
 cases c with
 |true=>exact isTrue_and_nil e
 |false=>exact e
theorem rC (ha:PT X a tA):PW X (.BoolOp .Or [a] pos) tA:=by
 intro wh pins s σ H Q I h
 refine isTrue_or (thn (ha pins s σ H Q I h) fun c s1 e=>?_)
 cases c with
 |false=>exact isTrue_or_nil e
 |true=>exact e
theorem vG (ha:PT X a tA)(hb:PW X (.BoolOp .And (b::rest) pos) tB'):PW X (.BoolOp .And (a::b::rest) pos) (tAnd tA tB'):=by
 intro wh pins s σ H Q I h
 refine isTrue_and (thn (ha pins s σ H _ I h) fun c s1 qz=>?_)
 obtain⟨H1,I1,q1⟩:=qz
 cases c with
 |true=>exact hb wh pins s1 σ H1 Q I1 q1
 |false=>exact⟨H1,I1,q1⟩
theorem vF (ha:PT X a tA)(hb:PW X (.BoolOp .Or (b::rest) pos) tB'):PW X (.BoolOp .Or (a::b::rest) pos) (tOr tA tB'):=by
 intro wh pins s σ H Q I h
 refine isTrue_or (thn (ha pins s σ H _ I h) fun c s1 qz=>?_)
 obtain⟨H1,I1,q1⟩:=qz
 cases c with
 |true=>exact⟨H1,I1,q1⟩
 |false=>exact hb wh pins s1 σ H1 Q I1 q1
theorem rD (ha:PT X a tA):PT X (.UnaryOp .Not a pos) (tNot tA):=by
 intro pins s σ H Q I h
 exact isTrue_not (ha pins s σ H (fun c H1=>Q (!c) H1) I h)
def tAndV (ta tb:TE):TE:=fun σ H Q=>ta σ H fun x H1=> ∃c,x=.bl c/\if c=true then tb σ H1 Q else Q (.bl false) H1
def tNotV (ta:TE):TE:=fun σ H Q=>ta σ H fun x H1=> ∃c,x=.bl c/\Q (.bl (!c)) H1
theorem vN {op}{t:TE}(h:PE X a t):PE X (.BoolOp op [a] pos) t:=fun pins s σ H Q I hw=>BoolOp_one (h pins s σ H Q I hw)
theorem vQ (ha:PE X a ta)(hb:PE X (.BoolOp .And (b::rest) pos) tb):PE X (.BoolOp .And (a::b::rest) pos) (tAndV ta tb):=by
 intro pins s σ H Q I h
 refine BoolOp_and (thn (ha pins s σ H _ I h) fun v s1 qz=>?_)
 obtain⟨x,H1,I1,r1,q1⟩:=qz
 obtain⟨c,rfl,q1⟩:=q1
 cases r1
 refine wpAny_truthy_bool ?_
 cases c with
 |true=>exact hb pins s1 σ H1 Q I1 q1
 |false=>exact⟨.bl false,H1,I1,rfl,q1⟩
theorem zO (ha:PE X a ta):PE X (.UnaryOp .Not a pos) (tNotV ta):=by
 intro pins s σ H Q I h
 refine UnaryOp_ (thn (ha pins s σ H _ I h) fun v s1 qz=>?_)
 obtain⟨x,H1,I1,r1,q1⟩:=qz
 obtain⟨c,rfl,q1⟩:=q1
 cases r1
 exact not_of (wpAny_truthy_bool ⟨.bl (!c),H1,I1,rfl,q1⟩)
def tIf (t:TT)(ta tb:TE):TE:=fun σ H Q=>t σ H fun c H1=>if c=true then ta σ H1 Q else tb σ H1 Q
theorem vP {c:Expr}(hc:PT X c tA)(ha:PE X a ta)(hb:PE X b tb):PE X (.IfExp c a b pos) (tIf tA ta tb):=by
 intro pins s σ H Q I h
 refine wpAny_IfExp (thn (hc pins s σ H _ I h) fun d s1 qz=>?_)
 obtain⟨H1,I1,q1⟩:=qz
 cases d with
 |true=>exact ha pins s1 σ H1 Q I1 q1
 |false=>exact hb pins s1 σ H1 Q I1 q1
end
end
section
def SqL (K:PySem.W.Frag)(H:Hp)(a:Addr)(xs:List V):Prop:=
 Rd H a (.lst xs)\/
  ∃ (o:Obj) (its:Array Value) (n:Nat),K.lookup a=some o/\o.cls=.type "list"/\o.dict=none/\o.data=.seq its n/\its.size<=sizeLine/\Vals xs its.toList
def SqT (K:PySem.W.Frag)(H:Hp)(a:Addr)(xs:List V):Prop:=
 Rd H a (.tup xs)\/
  ∃ (o:Obj) (its:Array Value) (n:Nat),K.lookup a=some o/\o.cls=.type "tuple"/\o.data=.seq its n/\its.size<=sizeLine/\Vals xs its.toList
noncomputable def absV:Value->Option V
 |.none=>some .non
 |.bool b=>some (.bl b)
 |.int i _=>some (.int i)
 |.str x _=>some (.str x)
 |.bytes b _=>some (.byt b)
 |.float b _=>some (.flt b)
 |.ref a=>some (.ref a)
 |.type n=>some (.ty n)
 |_=>none
theorem RelV.abs {x:V}{u:Value}(r:RelV x u):absV u=some x:=by
 cases x with
 |non=>cases r;rfl
 |bl _=>cases r;rfl
 |int _=>obtain⟨t,rfl⟩:=r;rfl
 |str _=>obtain⟨t,rfl⟩:=r;rfl
 |byt _=>obtain⟨t,rfl⟩:=r;rfl
 |flt _=>obtain⟨t,rfl⟩:=r;rfl
 |ref _=>cases r;rfl
 |ty _=>cases r;rfl
theorem RelV.inj {x y:V}{u:Value}(r:RelV x u)(q:RelV y u):x=y:=Option.some.inj (r.abs.symm.trans q.abs)
theorem Vals.inj: ∀ {xs ys:List V}{us:List Value},Vals xs us->Vals ys us->xs=ys
 :=by
 intro xs ys us h
 induction h generalizing ys with
 |nil=>intro g;cases g;rfl
 |cons r t ih=>
  intro g
  cases g with
  |cons r' t'=>rw[r.inj r',ih t']
section
variable {X:Cx}{pins:List (Addr×Obj)}{σ:St}{H:Hp}{s:Shared}{a:Addr}{xs ys:List V}
theorem SqL.of {K:PySem.W.Frag}(h:H a=some (.lst xs)):SqL K H a xs:=.inl (.inl h)
theorem SqT.of {K:PySem.W.Frag}(h:H a=some (.tup xs)):SqT K H a xs:=.inl (.inl h)
theorem Inv.list (I:Inv X pins σ H s)(h:SqL X.K H a xs): ∃its:List Value,Vals xs its/\PlainL s.heap a its.toArray/\xs.length<=sizeLine:=by
 rcases h with h|⟨o,its,n,hk,hc,hd,hs,hz,r⟩
 ·obtain⟨z,its,n,r,e⟩:=h.ok I.hok
  exact⟨its,r,⟨_,n,e,rfl,rfl,rfl⟩,z⟩
 ·refine⟨its.toList,r,⟨o,n,I.kIn a o hk,hc,hd,by simpa using hs⟩,?_⟩
  have e:=r.length
  simp only[Array.length_toList] at e
  omega
theorem Inv.tuple (I:Inv X pins σ H s)(h:SqT X.K H a xs): ∃its:List Value,Vals xs its/\IsTup s.heap a its.toArray/\xs.length<=sizeLine:=by
 rcases h with h|⟨o,its,n,hk,hc,hs,hz,r⟩
 ·obtain⟨z,its,r,p⟩:=h.ok I.hok
  exact⟨its,r,p.1,z⟩
 ·refine⟨its.toList,r,⟨o,I.kIn a o hk,hc,n,by simpa using hs⟩,?_⟩
  have e:=r.length
  simp only[Array.length_toList] at e
  omega
theorem Inv.list_inj (I:Inv X pins σ H s)(h:SqL X.K H a xs)(h':SqL X.K H a ys):xs=ys:=by
 obtain⟨its,r,⟨o,n,e,_,_,d⟩,_⟩:=I.list h
 obtain⟨its',r',⟨o',n',e',_,_,d'⟩,_⟩:=I.list h'
 rw[e] at e';cases e'
 rw[d] at d'
 injection d' with d1 _
 have:its=its':=by simpa using congrArg Array.toList d1
 subst this
 exact r.inj r'
theorem Inv.tuple_inj (I:Inv X pins σ H s)(h:SqT X.K H a xs)(h':SqT X.K H a ys):xs=ys:=by
 obtain⟨its,r,⟨o,e,_,n,d⟩,_⟩:=I.tuple h
 obtain⟨its',r',⟨o',e',_,n',d'⟩,_⟩:=I.tuple h'
 rw[e] at e';cases e'
 rw[d] at d'
 injection d' with d1 _
 have:its=its':=by simpa using congrArg Array.toList d1
 subst this
 exact r.inj r'
end
noncomputable abbrev Cx.wish (X:Cx)(E:Value->Shared->Prop):Cx:={X with xe:=E}
noncomputable abbrev Cx.nox (X:Cx):Cx:=X.wish fun _ _=>False
theorem Cx.Ok.wish {X:Cx}(ok:X.Ok)(E:Value->Shared->Prop):(X.wish E).Ok:=
 ⟨ok.mod,ok.kind,ok.glob,ok.blt,ok.above,ok.inj,ok.has,ok.cab,ok.hd,ok.frames,ok.stk,ok.exf,ok.bs,ok.bsz,ok.noex,ok.exfs,ok.funs,ok.frf⟩
theorem Cx.Ok.unwish {X:Cx}{E:Value->Shared->Prop}(ok:(X.wish E).Ok):X.Ok:=
 ⟨ok.mod,ok.kind,ok.glob,ok.blt,ok.above,ok.inj,ok.has,ok.cab,ok.hd,ok.frames,ok.stk,ok.exf,ok.bs,ok.bsz,ok.noex,ok.exfs,ok.funs,ok.frf⟩
section
variable {X:Cx}{pins:List (Addr×Obj)}{σ:St}{H:Hp}{s:Shared}{E:Value->Shared->Prop}
theorem Inv.wish (I:Inv X pins σ H s)(E:Value->Shared->Prop):Inv (X.wish E) pins σ H s:=⟨I.ok.wish E,I.os,I.bare,I.base,I.loc,I.cell,I.free,I.freeC,I.pin,I.hok,I.len⟩
theorem Inv.unwish (I:Inv (X.wish E) pins σ H s):Inv X pins σ H s:=⟨I.ok.unwish,I.os,I.bare,I.base,I.loc,I.cell,I.free,I.freeC,I.pin,I.hok,I.len⟩
theorem SP.unwish {D:Ends}{f:Flow}{s':Shared}(h:SP (X.wish E) pins D f s'):SP X pins D f s':=by
 cases f with
 |next=>obtain⟨σ',H',I,q⟩:=h;exact⟨σ',H',I.unwish,q⟩
 |brk=>obtain⟨σ',H',I,q⟩:=h;exact⟨σ',H',I.unwish,q⟩
 |cont=>obtain⟨σ',H',I,q⟩:=h;exact⟨σ',H',I.unwish,q⟩
 |ret u=>obtain⟨v,σ',H',I,r,q⟩:=h;exact⟨v,σ',H',I.unwish,r,q⟩
theorem PSs.nox {st:List Stmt}{t:TS}(h:PSs X.nox st t):PSs X st t:=fun pins s σ H D I hw=>
 wpAny_mono (h pins s σ H D (I.wish _) hw) (fun _ _ q=>q.unwish) fun _ _ z=>False.elim z
end
section
variable {X:Cx}{st:Stmt}{rest:List Stmt}{t u:TS}{e:Expr}{te:TE}{pos:Pos}
def tNext:TS:=fun D σ H=>D.nx σ H
def tSeq (t u:TS):TS:=fun D σ H=>t {D with nx:=u D} σ H
theorem pss_nil:PSs X [] tNext:=fun _ _ σ H _ I h=>wpAny_execs_nil ⟨σ,H,I,h⟩
theorem aR (h1:PS X st t)(h2:PSs X rest u):PSs X (st::rest) (tSeq t u):=by
 intro pins s σ H D I h
 refine wpAny_execs_cons (thn (h1 pins s σ H {D with nx:=u D} I h) fun f s1 q=>?_)
 cases f with
 |next=>
  obtain⟨σ',H',I',q⟩:=q
  exact h2 pins s1 σ' H' D I' q
 |ret v=>exact q
 |brk=>exact q
 |cont=>exact q
theorem bC (h1:PS X st t):PSs X [st] t:=by
 intro pins s σ H D I h
 refine wpAny_execs_cons (thn (h1 pins s σ H D I h) fun f s1 q=>?_)
 cases f with
 |next=>exact wpAny_execs_nil q
 |ret v=>exact q
 |brk=>exact q
 |cont=>exact q
theorem Inv.quiet {pins:List (Addr×Obj)}{σ:St}{H:Hp}{s:Shared}(I:Inv X pins σ H s):interactive X.env=false:=by simp [interactive,I.ok.kind]
def tDrop (te:TE):TS:=fun D σ H=>te σ H fun _ H1=>D.nx σ H1
theorem oJ (he:PE X e te)(hs:swapsWith e none pos.line X.env=pure false:=by rfl):PS X (.Expr e pos) (tDrop te):=by
 intro pins s σ H D I h
 exact wpAny_Expr_any (thn (he pins s σ H _ I h) fun v s1 ⟨x,H1,I1,r1,q1⟩=>⟨σ,H1,I1,q1⟩) I.quiet hs
def tRet (te:TE):TS:=fun D σ H=>te σ H D.rt
theorem dg (he:PE X e te):PS X (.Return (some e) pos) (tRet te):=by
 intro pins s σ H D I h
 exact wpAny_Return_some (thn (he pins s σ H _ I h) fun v s1 ⟨x,H1,I1,r1,q1⟩=>⟨x,σ,H1,I1,r1,q1⟩)
def tIfS (c:TT)(t u:TS):TS:=fun D σ H=>c σ H fun b H1=>if b=true then t D σ H1 else u D σ H1
theorem iN {c:Expr}{a b:List Stmt}{tc:TT}(hc:PT X c tc)(ha:PSs X a t)(hb:PSs X b u):PS X (.If c a b pos) (tIfS tc t u):=by
 intro pins s σ H D I h
 refine wpAny_If (thn (hc pins s σ H _ I h) fun d s1 qz=>?_)
 obtain⟨H1,I1,q1⟩:=qz
 cases d with
 |true=>exact ha pins s1 σ H1 D I1 q1
 |false=>exact hb pins s1 σ H1 D I1 q1
def zk:TS:=fun _ _ _=>False
theorem ug {sts:List Stmt}:PSs X sts zk:=fun _ _ _ _ _ _ h=>h.elim
end
noncomputable abbrev TG:=V->St->Hp->(St->Hp->Prop)->Prop
noncomputable abbrev TGs:=List V->St->Hp->(St->Hp->Prop)->Prop
def PG (X:Cx)(target:Expr)(t:TG):Prop:=
 ∀ (pins:List (Addr×Obj)) (s:Shared) (σ:St) (H:Hp) (v:V) (u:Value) (Q:St->Hp->Prop),Inv X pins σ H s->RelV v u->t v σ H Q->
   wpAny (model X.prog X.w) X.A (assign target X.env u) (fun _ s'=> ∃σ' H',Inv X pins σ' H' s'/\Q σ' H') X.xe s
def PGs (X:Cx)(ts:List Expr)(t:TGs):Prop:=
 ∀ (pins:List (Addr×Obj)) (s:Shared) (σ:St) (H:Hp) (vs:List V) (us:List Value) (Q:St->Hp->Prop),Inv X pins σ H s->Vals vs us->t vs σ H Q->
   wpAny (model X.prog X.w) X.A (assignInOrder ((assignEach ts X.env).map (·.2)) us) (fun _ s'=> ∃σ' H',Inv X pins σ' H' s'/\Q σ' H') X.xe s
noncomputable abbrev TSet:=V->V->V->Hp->(Hp->Prop)->Prop
def PSet (X:Cx)(t:TSet):Prop:=
 ∀ (pins:List (Addr×Obj)) (s:Shared) (σ:St) (H:Hp) (o i v:V) (ov iv u:Value) (Q:Hp->Prop),Inv X pins σ H s->RelV o ov->RelV i iv->RelV v u->t o i v H Q->
   wpAny (model X.prog X.w) X.A (setItem ov iv u) (fun _ s'=> ∃H',Inv X pins σ H' s'/\Q H') X.xe s
section
variable {X:Cx}{pos:Pos}
def gName (i:Nat):TG:=fun v σ H Q=>Q (σ.set i (some v)) H
theorem aZ {i:Nat}{x:Str}(hN:X.N.Nodup)(hi:X.N[i]?=some x)(hx:Loc X.env.scope x)(hf:X.fn x=true\/X.env.scope.names.lookup x=some .local :=by first|exact .inl rfl|exact .inr rfl|assumption):PG X (.Name x pos) (gName i):=by
 intro pins s σ H v u Q I r h
 exact wpAny_assign_Name (pT I hN hi hx r (fun s' I'=>⟨_,H,I',h⟩) hf)
def gNil:TGs:=fun vs σ H Q=>vs=[]/\Q σ H
def gCons (t:TG)(u:TGs):TGs:=fun vs σ H Q=> ∃v r,vs=v::r/\t v σ H fun σ' H'=>u r σ' H' Q
theorem ka:PGs X [] gNil:=by
 intro pins s σ H vs us Q I r h
 obtain⟨e,h⟩:=h
 subst e
 cases r
 exact assignInOrder_nil ⟨σ,H,I,h⟩
theorem dh {e:Expr}{es:List Expr}{t:TG}{u:TGs}(h1:PG X e t)(h2:PGs X es u)
  (hs:(assignEach (e::es) X.env).map (·.2)=assign e X.env::(assignEach es X.env).map (·.2):=by rfl):PGs X (e::es) (gCons t u):=by
 intro pins s σ H vs us Q I r h
 obtain⟨v,vr,e1,h⟩:=h
 subst e1
 cases r with
 |cons r rr=>
  rw[hs]
  refine assignInOrder_cons (thn (h1 pins s σ H _ _ _ I r h) fun _ s1 qz=>?_)
  obtain⟨σ1,H1,I1,q1⟩:=qz
  exact h2 pins s1 σ1 H1 _ _ Q I1 rr q1
def gTup (K:PySem.W.Frag)(n:Nat)(t:TGs):TG:=fun v σ H Q=> ∃a xs,v=.ref a/\SqT K H a xs/\xs.length=n/\t xs σ H Q
theorem mn {es:List Expr}{k:Nat}{t:TGs}{n:Nat}(hc:X.calm=true)(h:PGs X es t)
  (hn:(assignEach es X.env).length=n:=by rfl)(hst:(assignEach es X.env).findIdx? (·.1)=none:=by rfl):PG X (.Tuple es k pos) (gTup X.K n t):=by
 intro pins s σ H v u Q I r hw
 obtain⟨a,xs,e1,hq,hl,hw⟩:=hw
 subst e1
 cases r
 obtain⟨its,rv,ht,hz⟩:=I.tuple hq
 refine assign_Tuple_tuple (I.ok.hd hc) ht (by simp [hn,<-hl,rv.length]) hst fun h' hx=>?_
 have I1:Inv X pins σ H {s with heap:=h'}:=I.kept (t':=s.toks) fun b o e=>hx b o (Nat.ne_of_lt (Heap.lt_size e)) e
 exact h pins _ σ H xs _ Q I1 (by simpa using rv) hw
def gSub (to ti:TE)(t:TSet):TG:=fun v σ H Q=>to σ H fun o H1=>ti σ H1 fun i H2=>t o i v H2 fun H3=>Q σ H3
theorem zL {o i:Expr}{to ti:TE}{t:TSet}(ho:PE X o to)(hi:PE X i ti)(hs:PSet X t)
  (ha: ∀v,assign (.Subscript o i pos) X.env v=(do
   let ov<-holding [v] (eval o X.env)
   let iv<-holding [v,ov] (eval i X.env)
   standAt pos
   holding [v,ov,iv] (setItem ov iv v)
   release [v,ov,iv] []):=by intro _;rfl):PG X (.Subscript o i pos) (gSub to ti t):=by
 intro pins s σ H v u Q I r h
 rw[ha]
 refine wpAny_bind (wpAny_holding (thn (ho pins s σ H _ I h) fun ov s1 qz=>?_))
 obtain⟨x,H1,I1,r1,q1⟩:=qz
 refine wpAny_bind (wpAny_holding (thn (hi pins s1 σ H1 _ I1 q1) fun iv s2 qz=>?_))
 obtain⟨y,H2,I2,r2,q2⟩:=qz
 refine wpAny_bind (wpAny_standAt (wpAny_bind (wpAny_holding (thn (hs pins s2 σ H2 x y v ov iv u _ I2 r1 r2 r q2) fun _ s3 qz=>?_))))
 obtain⟨H3,I3,q3⟩:=qz
 exact wpAny_release ⟨σ,H3,I3,q3⟩
def tAsg (te:TE)(g:TG):TS:=fun D σ H=>te σ H fun x H1=>g x σ H1 D.nx
theorem zF {tg e:Expr}{te:TE}{g:TG}(he:PE X e te)(hg:PG X tg g)(hs:swapsWithSole [tg] e pos.line X.env=pure false:=by rfl)(hw:swappedStores [tg] e X.env=pure none:=by rfl)
  (h1:(assignEach [tg] X.env).map (·.2)=[assign tg X.env]:=by rfl):PS X (.Assign [tg] e pos) (tAsg te g):=by
 intro pins s σ H D I h
 refine wpAny_Assign_stores (thn (he pins s σ H _ I h) fun v s1 qz=>?_) hs hw
 obtain⟨x,H1,I1,r1,q1⟩:=qz
 rw[h1]
 exact thn (hg pins s1 σ H1 x v _ I1 r1 q1) fun _ s2 q=>q
theorem fj {i:Nat}{x:Str}{e:Expr}{te:TE}{pos':Pos}(hN:X.N.Nodup)(hi:X.N[i]?=some x)(hx:Loc X.env.scope x)(he:PE X e te)(hs:swapsWith e (some (.Name x pos')) pos.line X.env=pure false:=by rfl)(hf:X.fn x=true\/X.env.scope.names.lookup x=some .local :=by first|exact .inl rfl|exact .inr rfl|assumption):
  PS X (.Assign [.Name x pos'] e pos) (tAsg te (gName i)):=by
 intro pins s σ H D I h
 refine wpAny_Assign_Name (thn (he pins s σ H _ I h) fun v s1 qz=>?_) hs
 obtain⟨y,H1,I1,r1,q1⟩:=qz
 exact pT I1 hN hi hx r1 (fun s2 I2=>⟨_,H1,I2,q1⟩) hf
end
section
variable {X:Cx}{pos:Pos}
def zg (c:TT)(tb:TS):TS:=fun D σ H=> ∃W:Nat->St->Hp->Prop,(∃m,W m σ H)/\ ∀m σ H,W m σ H->
 c σ H fun b H1=>if b=true then∃N:St->Hp->Prop,(∀σ' H',N σ' H'-> ∃m',m'<m/\W m' σ' H')/\tb {D with nx:=N,ct:=N,bk:=D.nx} σ H1 else D.nx σ H1
theorem j5 {c:Expr}{body:List Stmt}{tc:TT}{tb:TS}(hp:PassesOwn (model X.prog X.w) X.A X.env X.xe)(hc:PT X c tc)(hb:PSs X body tb):PS X (.While c body [] pos) (zg tc tb):=by
 intro pins s σ H D I h
 obtain⟨W,⟨m0,w0⟩,turn⟩:=h
 refine wpAny_While (codeAny_whileLoop (fun n s'=> ∃σ' H',Inv X pins σ' H' s'/\W n σ' H') ?_ m0 ⟨σ,H,I,w0⟩)
 rintro n s1 ⟨σ1,H1,I1,w1⟩
 refine wpAny_passesOwn hp (thn (hc pins s1 σ1 H1 _ I1 (turn n σ1 H1 w1)) fun b s2 qz=>?_)
 obtain⟨H2,I2,q2⟩:=qz
 cases b with
 |true=>
  obtain⟨N,hN,q2⟩:=q2
  rw[if_pos rfl]
  refine wpAny_passesOwn hp (thn (hb pins s2 σ1 H2 _ I2 q2) fun f s3 q3=>?_)
  cases f with
  |next=>
   obtain⟨σ3,H3,I3,n3⟩:=q3
   obtain⟨m',hm,w3⟩:=hN σ3 H3 n3
   exact⟨m',hm,σ3,H3,I3,w3⟩
  |cont=>
   obtain⟨σ3,H3,I3,n3⟩:=q3
   obtain⟨m',hm,w3⟩:=hN σ3 H3 n3
   exact⟨m',hm,σ3,H3,I3,w3⟩
  |brk=>exact q3
  |ret v=>exact q3
 |false=>
  rw[if_neg Bool.false_ne_true]
  exact wpAny_execs_nil ⟨σ1,H2,I2,q2⟩
end
structure It where
 go:Nat->Hp->Prop
 yld:Nat->Hp->V->Hp->Prop
 stop:Nat->Hp->Prop
def FpOk (X:Cx)(pins:List (Addr×Obj))(H:Hp)(b:Addr):Prop:=
 H b=none/\b≠X.env.locals/\b ∉ X.fs/\(b∈X.ex\/X.s₀.heap.objs.size<=b)/\(∀x c,X.env.cells.lookup x=some c->c≠b)/\ ∀p∈X.pn++pins,p.1≠b
theorem Inv.fpOk {X:Cx}{pins:List (Addr×Obj)}{σ:St}{H H':Hp}{s:Shared}{b:Addr}(I:Inv X pins σ H s)(hb:s.heap.objs.size<=b)(hn:H' b=none):FpOk X pins H' b:=by
 refine⟨hn,Nat.ne_of_gt (Nat.lt_of_lt_of_le I.lt hb),I.nofs hb,.inr (Nat.le_trans I.sz hb),fun x c e z=>?_,fun p hp z=>?_⟩
 ·obtain⟨v,q⟩:=I.cell x c e
  exact absurd (Nat.lt_of_lt_of_le q.lt (by rw[z];exact hb)) (Nat.lt_irrefl _)
 ·exact absurd (Nat.lt_of_lt_of_le (Heap.lt_size (I.pin p hp).1) (by rw[z];exact hb)) (Nat.lt_irrefl _)
structure Turn (P:Program)(w:World)(K:PySem.W.Frag)(tg:Expr)(J:It)(fp:List Addr)(it:Addr)(tn:Nat->Heap->Prop):Prop where
 mem:it∈fp
 obj: ∀i h,tn i h-> ∀b∈fp,∃o,h.get? b=some o/\ ∀v,o.data≠.cell v
 keep: ∀i h h',tn i h->(∀b∈fp,∀o,h.get? b=some o->h'.get? b=some o)->tn i h'
 item: ∀ (X:Cx),X.prog=P->X.w=w->X.K=K->X.calm=true-> ∀ (i:Nat) (pins:List (Addr×Obj)) (s:Shared) (σ:St) (H:Hp) (E:Value->Shared->Prop),Inv X pins σ H s->(∀b∈fp,FpOk X pins H b)->tn i s.heap->J.go i H->
  wpAny (model P w) X.A (pyNext (.ref it)) (fun r s1=> ∃u,r=some u/\
   wpAny (model P w) X.A (letOwnedTupleGo tg (.ref it) u) (fun _ s2=> ∃x H',Inv X pins σ H' s2/\RelV x u/\J.yld i H x H'/\tn (i+1) s2.heap/\ ∀b∈fp,H' b=none) E s1) E s
 done: ∀ (X:Cx),X.prog=P->X.w=w->X.K=K->X.calm=true-> ∀ (i:Nat) (pins:List (Addr×Obj)) (s:Shared) (σ:St) (H:Hp) (E:Value->Shared->Prop),Inv X pins σ H s->(∀b∈fp,FpOk X pins H b)->tn i s.heap->J.stop i H->
  wpAny (model P w) X.A (pyNext (.ref it)) (fun r s1=>r=none/\Inv X pins σ H s1) E s
 self: ∀ (A:Around) (i:Nat) (s:Shared) (Q:Value->Shared->Prop) (E:Value->Shared->Prop),tn i s.heap->Q (.ref it) s->wpAny (model P w) A (pyIter (.ref it)) Q E s
noncomputable abbrev TI:=St->Hp->(It->Hp->Prop)->Prop
def PIE (X:Cx)(pins:List (Addr×Obj))(σ:St)(tg:Expr)(R:It->Hp->Prop)(itv:Value)(s2:Shared):Prop:=
 ∃ (it:Addr) (fp:List Addr) (tn:Nat->Heap->Prop) (J:It) (H':Hp),itv=.ref it/\Inv X pins σ H' s2/\Turn X.prog X.w X.K tg J fp it tn/\tn 0 s2.heap/\(∀b∈fp,FpOk X pins H' b)/\R J H'
def PI (X:Cx)(tg iter:Expr)(wi:TI):Prop:=
 ∀ (pins:List (Addr×Obj)) (s:Shared) (σ:St) (H:Hp) (R:It->Hp->Prop),Inv X pins σ H s->wi σ H R->
   wpAny (model X.prog X.w) X.A (eval iter X.env) (fun v s1=>wpAny (model X.prog X.w) X.A (pyIter v) (PIE X pins σ tg R) X.xe s1) X.xe s
theorem tq {M:Model}{A:Around}{E:Value->Shared->Prop}{s:Shared}{tg:Expr}{it:Addr}{u:Value}{o:Obj}{n:String}{vs:Array Value}{Q:Unit->Shared->Prop}(ho:s.heap.get? it=some o)(hc:o.cls=.type n)(hd:o.data=.fields vs)
  (hn:["enumerate", "zip", "dict_itemiterator", "dict_reverseitemiterator", "odict_iterator", "itertools.zip_longest", "itertools.pairwise"].contains n=false)(hQ:Q () s):wpAny M A (letOwnedTupleGo tg (.ref it) u) Q E s:=by
 unfold letOwnedTupleGo
 cases tg<;>first
  |exact wpAny_pure hQ
  |(cases u<;>first
   |exact wpAny_pure hQ
   |(refine wpAny_bind (wpAny_load ho ?_)
     rw[hc,hd]
     show wpAny M A (if (["enumerate", "zip", "dict_itemiterator", "dict_reverseitemiterator", "odict_iterator", "itertools.zip_longest", "itertools.pairwise"].contains n && vs[0]?==some (rawInt _))=true then _ else _) Q E s
     rw[if_neg (by intro h;rw[hn,Bool.false_and] at h;cases h)]
     exact wpAny_pure hQ))
def Itl (K:PySem.W.Frag)(a:Addr):It:=
 ⟨fun i H=> ∃xs x,SqL K H a xs/\xs[i]?=some x,fun i H x H'=>H'=H/\ ∀xs,SqL K H a xs->xs[i]?=some x,fun i H=> ∃xs,SqL K H a xs/\xs.length<=i⟩
def Itt (K:PySem.W.Frag)(a:Addr):It:=
 ⟨fun i H=> ∃xs x,SqT K H a xs/\xs[i]?=some x,fun i H x H'=>H'=H/\ ∀xs,SqT K H a xs->xs[i]?=some x,fun i H=> ∃xs,SqT K H a xs/\xs.length<=i⟩
noncomputable def Itr (lo:Int)(n:Nat):It:=⟨fun i _=>i<n,fun i H x H'=>H'=H/\x=.int (lo+i),fun i _=>n<=i⟩
theorem t9 {P:Program}{w:World}{K:PySem.W.Frag}{tg:Expr}(a it:Addr):Turn P w K tg (Itl K a) [it] it (fun i h=>h.IsListIter it a i) where
 mem:=by simp
 obj:=fun i h st b hb=>by
  have e:b=it:=by simpa using hb
  subst e
  obtain⟨o,e,c,d⟩:=st
  exact⟨o,e,fun v z=>by rw[d] at z;cases z⟩
 keep:=fun i h h' st k=>st.at fun o e=>k it (by simp) o e
 item:=by
  intro X hP hw hK hc i pins s σ H E I hf st hg
  subst hP hw hK
  obtain⟨xs,x,hq,hx⟩:=hg
  obtain⟨its,rv,p,hz⟩:=I.list hq
  obtain⟨u,hu,ru⟩:=rv.get hx
  obtain⟨f0,f1,f2,f3,f4,f5⟩:=hf it (by simp)
  refine wpAny_pyNext_list_item st p.isList (x:=u) (by simpa using hu) fun h' st' sb=>?_
  have I1:Inv X pins σ H {s with heap:=h'}:=I.turned (t':=s.toks) (fun b o hb e=>(sb.2 b hb).trans e) f0 f1 f3 f4 f5
  obtain⟨o,e,c,d⟩:=id st'
  exact⟨u,rfl,tq (s:={s with heap:=h'}) e c d (by decide) ⟨x,H,I1,ru,⟨rfl,fun ys hy=>by rw[I.list_inj hy hq];exact hx⟩,st',fun b hb=>(hf b hb).1⟩⟩
 done:=by
  intro X hP hw hK hc i pins s σ H E I hf st hg
  subst hP hw hK
  obtain⟨xs,hq,hx⟩:=hg
  obtain⟨its,rv,p,hz⟩:=I.list hq
  obtain⟨f0,f1,f2,f3,f4,f5⟩:=hf it (by simp)
  have hl:=rv.length
  exact wpAny_pyNext_list_end (I.ok.hd hc) st p.isList (by simp;omega) fun h' eb=>⟨rfl,I.turned (t':=s.toks) (fun b o hb e=>eb b o hb e) f0 f1 f3 f4 f5⟩
 self:=fun _ _ _ _ _ st h=>wpAny_pyIter_listiter st h
theorem qY {P:Program}{w:World}{K:PySem.W.Frag}{tg:Expr}(a it:Addr):Turn P w K tg (Itt K a) [it] it (fun i h=>h.IsTupleIter it a i) where
 mem:=by simp
 obj:=fun i h st b hb=>by
  have e:b=it:=by simpa using hb
  subst e
  obtain⟨o,e,c,d⟩:=st
  exact⟨o,e,fun v z=>by rw[d] at z;cases z⟩
 keep:=fun i h h' st k=>st.at fun o e=>k it (by simp) o e
 item:=by
  intro X hP hw hK hc i pins s σ H E I hf st hg
  subst hP hw hK
  obtain⟨xs,x,hq,hx⟩:=hg
  obtain⟨its,rv,p,hz⟩:=I.tuple hq
  obtain⟨u,hu,ru⟩:=rv.get hx
  obtain⟨f0,f1,f2,f3,f4,f5⟩:=hf it (by simp)
  refine wpAny_pyNext_tuple_item st (show s.heap.IsTuple a its.toArray from p) (x:=u) (by simpa using hu) fun h' st' sb=>?_
  have I1:Inv X pins σ H {s with heap:=h'}:=I.turned (t':=s.toks) (fun b o hb e=>(sb.2 b hb).trans e) f0 f1 f3 f4 f5
  obtain⟨o,e,c,d⟩:=id st'
  exact⟨u,rfl,tq (s:={s with heap:=h'}) e c d (by decide) ⟨x,H,I1,ru,⟨rfl,fun ys hy=>by rw[I.tuple_inj hy hq];exact hx⟩,st',fun b hb=>(hf b hb).1⟩⟩
 done:=by
  intro X hP hw hK hc i pins s σ H E I hf st hg
  subst hP hw hK
  obtain⟨xs,hq,hx⟩:=hg
  obtain⟨its,rv,p,hz⟩:=I.tuple hq
  obtain⟨f0,f1,f2,f3,f4,f5⟩:=hf it (by simp)
  have hl:=rv.length
  exact wpAny_pyNext_tuple_end (I.ok.hd hc) st (show s.heap.IsTuple a its.toArray from p) (by simp;omega) fun h' eb=>⟨rfl,I.turned (t':=s.toks) (fun b o hb e=>eb b o hb e) f0 f1 f3 f4 f5⟩
 self:=fun _ _ _ _ _ st h=>wpAny_pyIter_tupleiter st h
theorem qZ {P:Program}{w:World}{K:PySem.W.Frag}{tg:Expr}(it:Addr)(lo:Int)(n:Nat):Turn P w K tg (Itr lo n) [it] it (fun i h=>IsRangeIter h it (lo+(i:Nat) * 1) ((n:Int) - (i:Nat)) 1) where
 mem:=by simp
 obj:=fun i h st b hb=>by
  have e:b=it:=by simpa using hb
  subst e
  exact⟨_,st,fun v z=>by
   have z':Data.fields _=Data.cell v:=z
   cases z'⟩
 keep:=fun i h h' st k=>k it (by simp) _ st
 item:=by
  intro X hP hw hK hc i pins s σ H E I hf st hg
  subst hP hw hK
  obtain⟨f0,f1,f2,f3,f4,f5⟩:=hf it (by simp)
  have W:=Walks.range (prog:=X.prog) (w:=X.w) (I.ok.hd hc) it lo 1 n
  refine W.item i s _ _ hg st fun v h' tk hv st' kk=>?_
  obtain⟨t,rfl⟩:=hv
  have I1:Inv X pins σ H {s with heap:=h',toks:=tk}:=I.turned (fun b o hb e=>kk b o (by simpa using hb) e) f0 f1 f3 f4 f5
  refine⟨_,rfl,tq (s:={s with heap:=h',toks:=tk}) (n:= "range_iterator") st' rfl rfl (by decide) ⟨.int (lo+i),H,I1,⟨t,?_⟩,⟨rfl,rfl⟩,st',fun b hb=>(hf b hb).1⟩⟩
  rw[Int.mul_one]
 done:=by
  intro X hP hw hK hc i pins s σ H E I hf st hg
  subst hP hw hK
  obtain⟨f0,f1,f2,f3,f4,f5⟩:=hf it (by simp)
  exact wpAny_pyNext_range_end (I.ok.hd hc) st (by have:n<=i:=hg;omega) fun h' eb=>⟨rfl,I.turned (t':=s.toks) (fun b o hb e=>eb b o hb e) f0 f1 f3 f4 f5⟩
 self:=fun _ _ _ _ _ st h=>wpAny_pyIter_rangeiter st h
end
section
section
variable {X:Cx}{tg:Expr}
def iList (K:PySem.W.Frag)(tl:TE):TI:=fun σ H R=>tl σ H fun x H1=> ∃a,x=.ref a/\(∃xs,SqL K H1 a xs)/\R (Itl K a) H1
def iTup (K:PySem.W.Frag)(tl:TE):TI:=fun σ H R=>tl σ H fun x H1=> ∃a,x=.ref a/\(∃xs,SqT K H1 a xs)/\R (Itt K a) H1
theorem xP {l:Expr}{tl:TE}(hl:PE X l tl):PI X tg l (iList X.K tl):=by
 intro pins s σ H R I h
 refine thn (hl pins s σ H _ I h) fun v s1 qz=>?_
 obtain⟨x,H1,I1,r1,q1⟩:=qz
 obtain⟨a,e,⟨xs,hq⟩,q⟩:=q1
 subst e
 cases r1
 obtain⟨its,rv,p,hz⟩:=I1.list hq
 refine wpAny_pyIter_list p.isList ?_
 refine⟨s1.heap.objs.size,[s1.heap.objs.size],_,_,H1,rfl,I1.kept (t':=s1.toks) fun b o e=>Heap.get?_push_of_some _ e,t9 a _,⟨_,Heap.get?_push_size _ rfl,rfl,rfl⟩,fun b hb=>?_,q⟩
 have e:b=s1.heap.objs.size:=by simpa using hb
 subst e
 exact I1.fpOk (Nat.le_refl _) (I1.hok.fresh (Nat.le_refl _))
theorem zK {l:Expr}{tl:TE}(hl:PE X l tl):PI X tg l (iTup X.K tl):=by
 intro pins s σ H R I h
 refine thn (hl pins s σ H _ I h) fun v s1 qz=>?_
 obtain⟨x,H1,I1,r1,q1⟩:=qz
 obtain⟨a,e,⟨xs,hq⟩,q⟩:=q1
 subst e
 cases r1
 obtain⟨its,rv,p,hz⟩:=I1.tuple hq
 refine wpAny_pyIter_tuple (show s1.heap.IsTuple a its.toArray from p) ?_
 refine⟨s1.heap.objs.size,[s1.heap.objs.size],_,_,H1,rfl,I1.kept (t':=s1.toks) fun b o e=>Heap.get?_push_of_some _ e,qY a _,⟨_,Heap.get?_push_size _ rfl,rfl,rfl⟩,fun b hb=>?_,q⟩
 have e:b=s1.heap.objs.size:=by simpa using hb
 subst e
 exact I1.fpOk (Nat.le_refl _) (I1.hok.fresh (Nat.le_refl _))
theorem qd {pins:List (Addr×Obj)}{σ:St}{H:Hp}{s:Shared}{R:It->Hp->Prop}{E:Value->Shared->Prop}{lo hi:Int}{t u v:Tok}{tk:Nat}(I:Inv X pins σ H s)(h1: -(2 ^ 62)<=lo)(h2:lo<2 ^ 62)(h3: -(2 ^ 62)<=hi)(h4:hi<2 ^ 62)
  (q:R (Itr lo (hi - lo).toNat) H):wpAny (model X.prog X.w) X.A (pyIter (.ref s.heap.objs.size)) (PIE X pins σ tg R) E {s with heap:=s.heap.push {cls:=.type "range",data:=.fields #[.int lo t,.int hi u,.int 1 v]},toks:=tk}:=by
 refine wpAny_pyIter_range (IsRange.new ..) (small_one h1 h2 h3 h4) ?_
 have I1:Inv X pins σ H {s with heap:=s.heap.push {cls:=.type "range",data:=.fields #[.int lo t,.int hi u,.int 1 v]},toks:=tk}:=I.kept fun b o e=>Heap.get?_push_of_some _ e
 refine⟨(s.heap.push {cls:=.type "range",data:=.fields #[.int lo t,.int hi u,.int 1 v]}).objs.size,[(s.heap.push {cls:=.type "range",data:=.fields #[.int lo t,.int hi u,.int 1 v]}).objs.size],_,_,H,rfl,
  I1.kept (t':=tk) fun b o e=>Heap.get?_push_of_some _ e,qZ _ lo (hi - lo).toNat,?_,fun b hb=>?_,q⟩
 ·have e1:lo+((0:Nat):Int) * 1=lo:=by simp
  have e2:(((hi - lo).toNat:Nat):Int) - ((0:Nat):Int)=Builtin.Range.rangeSize lo hi 1:=by rw[rangeSize_one];split<;>omega
  show IsRangeIter _ _ (lo+((0:Nat):Int) * 1) ((((hi - lo).toNat:Nat):Int) - ((0:Nat):Int)) 1
  rw[e1,e2]
  exact Heap.get?_push_size _ rfl
 ·have e:b=(s.heap.push {cls:=.type "range",data:=.fields #[.int lo t,.int hi u,.int 1 v]}).objs.size:=by simpa using hb
  subst e
  exact I1.fpOk (Nat.le_refl _) (I1.hok.fresh (Nat.le_refl _))
def iRng1 (ta:TA):TI:=fun σ H R=>ta σ H fun vs H1=> ∃j:Int,vs=[.int j]/\ -(2 ^ 62)<=j/\j<2 ^ 62/\R (Itr 0 j.toNat) H1
def iRng2 (ta:TA):TI:=fun σ H R=>ta σ H fun vs H1=> ∃i j:Int,vs=[.int i,.int j]/\(-(2 ^ 62)<=i/\i<2 ^ 62/\ -(2 ^ 62)<=j/\j<2 ^ 62)/\R (Itr i (j - i).toNat) H1
theorem uj {a:Expr}{ta:TA}{p pos:Pos}(hg:Gl X "range")(hm:X.mg "range"=none)(ha:PA X [a] ta)(hs:starEach [a] X.env=[(false,eval a X.env)]:=by rfl):PI X tg (.Call (.Name "range" p) [a] [] pos) (iRng1 ta):=by
 intro pins s σ H R I h
 refine Call_ (j0 I hg hm boot_range (PyProof.Rows.callWith_type1 (thn (ha pos pins s σ H _ I h) fun us s1 qz=>?_) hs rfl))
 obtain⟨vs,H1,I1,r1,q1⟩:=qz
 obtain⟨j,e,q1,q2,q⟩:=q1
 subst e
 cases r1 with
 |cons r rr=>
  cases rr
  obtain⟨t,rfl⟩:=r
  exact call_range_1 (qd I1 (by omega) (by omega) q1 q2 (by simpa using q))
theorem ui {a b:Expr}{ta:TA}{p pos:Pos}(hg:Gl X "range")(hm:X.mg "range"=none)(ha:PA X [a,b] ta)(hs:starEach [a,b] X.env=[(false,eval a X.env),(false,eval b X.env)]:=by rfl)(hs2:starEach [b] X.env=[(false,eval b X.env)]:=by rfl):
  PI X tg (.Call (.Name "range" p) [a,b] [] pos) (iRng2 ta):=by
 intro pins s σ H R I h
 refine Call_ (j0 I hg hm boot_range (PyProof.Rows.callWith_type1 (thn (ha pos pins s σ H _ I h) fun us s1 qz=>?_) (by rw[hs,hs2]) (by rw[hs2];rfl)))
 obtain⟨vs,H1,I1,r1,q1⟩:=qz
 obtain⟨i,j,e,⟨q1,q2,q3,q4⟩,q⟩:=q1
 subst e
 cases r1 with
 |cons r rr=>
  cases rr with
  |cons r' rr=>
   cases rr
   obtain⟨t,rfl⟩:=r
   obtain⟨t',rfl⟩:=r'
   exact call_range_2 (qd I1 q1 q2 q3 q4 q)
def tFor (wi:TI)(g:TG)(tb:TS):TS:=fun D σ H=>wi σ H fun J H1=> ∃W:Nat->Nat->St->Hp->Prop,(∃m,W 0 m σ H1)/\ ∀i m σ H,W i m σ H->
 (J.stop i H/\D.nx σ H)\/(J.go i H/\ ∃N:St->Hp->Prop,(∀σ' H',N σ' H'-> ∃m',m'<m/\W (i+1) m' σ' H')/\ ∀x H',J.yld i H x H'->g x σ H' fun σ2 H2=>tb {D with nx:=N,ct:=N,bk:=D.nx} σ2 H2)
noncomputable def ml (fp:List Addr)(h:Heap):List (Addr×Obj):=fp.filterMap fun b=>(h.get? b).map fun o=>(b,o)
theorem jX {fp:List Addr}{h:Heap}{b:Addr}{o:Obj}(hb:b∈fp)(e:h.get? b=some o):(b,o)∈ml fp h:=List.mem_filterMap.mpr ⟨b,hb,by rw[e];rfl⟩
theorem uo {fp:List Addr}{h:Heap}{p:Addr×Obj}(hp:p∈ml fp h):p.1∈fp/\h.get? p.1=some p.2:=by
 obtain⟨b,hb,e⟩:=List.mem_filterMap.mp hp
 cases q:h.get? b with
 |none=>rw[q] at e;cases e
 |some o=>
  rw[q] at e
  have e':(b,o)=p:=Option.some.inj e
  subst e'
  exact⟨hb,q⟩
theorem Inv.pinned {pins:List (Addr×Obj)}{σ:St}{H:Hp}{s:Shared}{fp:List Addr}(I:Inv X pins σ H s)(hf: ∀b∈fp,FpOk X pins H b)(ho: ∀b∈fp,∃o,s.heap.get? b=some o/\ ∀v,o.data≠.cell v):Inv X (pins++ml fp s.heap) σ H s:=
 I.pins_of fun p hp=>(List.mem_append.mp hp).elim (fun z=>I.pin p (List.mem_append_right _ z)) fun z=>by
  obtain⟨hb,e⟩:=uo z
  obtain⟨f0,f1,f2,_⟩:=hf p.1 hb
  obtain⟨o,e',d⟩:=ho p.1 hb
  rw[e] at e';cases e'
  exact⟨e,f0,f1,f2,d⟩
theorem Inv.unpinned {pins pl:List (Addr×Obj)}{σ:St}{H:Hp}{s:Shared}(I:Inv X (pins++pl) σ H s):Inv X pins σ H s:=I.pins_of fun p hp=>I.pin p (List.mem_append_right _ (List.mem_append_left _ hp))
theorem zE {iter:Expr}{body:List Stmt}{wi:TI}{g:TG}{tb:TS}{pos:Pos}(hp:PassesOwn (model X.prog X.w) X.A X.env X.xe)(hc:X.calm=true)(hi:PI X tg iter wi)(hg:PG X tg g)(hb:PSs X body tb)
  (hs: ∀x,foldedSetIterable iter X.env x=pure x:=by intro _;rfl):PS X (.For tg iter body [] pos) (tFor wi g tb):=by
 intro pins s σ H D I h
 refine wpAny_For (thn (hi pins s σ H _ I h) fun v s1 h1=>thn h1 fun itv s2 h2=>?_) hs
 obtain⟨it,fp,tn,J,H2,e,I2,T,st2,f2,W,⟨m0,w0⟩,turn⟩:=h2
 subst e
 have stat: ∀ {H':Hp},(∀b∈fp,H' b=none)-> ∀b∈fp,FpOk X pins H' b:=fun hn b hb=>⟨hn b hb,(f2 b hb).2⟩
 refine codeAny_forLoop_any (fun n s'=> ∃i σ' H',Inv X pins σ' H' s'/\tn i s'.heap/\(∀b∈fp,H' b=none)/\W i n σ' H') ?_ m0 ⟨0,σ,H2,I2,st2,fun b hb=>(f2 b hb).1,w0⟩
 rintro n s3 ⟨i,σ3,H3,I3,st3,fr3,w3⟩
 rcases turn i n σ3 H3 w3 with⟨stop,qn⟩|⟨go,N,hN,step⟩
 ·refine wpAny_passesOwn hp (thn (T.done X rfl rfl rfl hc i pins s3 σ3 H3 X.xe I3 (stat fr3) st3 stop) fun r s4 qz=>?_)
  obtain⟨hr,I4⟩:=qz
  subst hr
  exact wpAny_execs_nil ⟨σ3,H3,I4,qn⟩
 ·refine wpAny_passesOwn hp (thn (T.item X rfl rfl rfl hc i pins s3 σ3 H3 X.xe I3 (stat fr3) st3 go) fun r s4 qz=>?_)
  obtain⟨u,hr,h4⟩:=qz
  subst hr
  refine wpAny_passesOwn hp (thn h4 fun _ s5 qz=>?_)
  obtain⟨x,H5,I5,r5,y5,st5,fr5⟩:=qz
  have I5':=I5.pinned (stat fr5) (T.obj _ _ st5)
  refine wpAny_passesOwn hp (thn (hg _ s5 σ3 H5 x u _ I5' r5 (step x H5 y5)) fun _ s6 qz=>?_)
  obtain⟨σ6,H6,I6,q6⟩:=qz
  refine wpAny_passesOwn hp (thn (hb _ s6 σ6 H6 _ I6 q6) fun f s7 q7=>?_)
  have again: ∀ {σ7:St}{H7:Hp},Inv X (pins++ml fp s5.heap) σ7 H7 s7->N σ7 H7-> ∃m,m<n/\ ∃i σ' H',Inv X pins σ' H' s7/\tn i s7.heap/\(∀b∈fp,H' b=none)/\W i m σ' H':=fun{σ7 H7} I7 n7=>by
   obtain⟨m',hm,w7⟩:=hN σ7 H7 n7
   refine⟨m',hm,i+1,σ7,H7,I7.unpinned,T.keep _ _ _ st5 fun b hb o e=>(I7.pin (b,o) (List.mem_append_right _ (List.mem_append_right _ (jX hb e)))).1,fun b hb=>?_,w7⟩
   obtain⟨o,e,d⟩:=T.obj _ _ st5 b hb
   exact (I7.pin (b,o) (List.mem_append_right _ (List.mem_append_right _ (jX hb e)))).2.1
  cases f with
  |next=>obtain⟨σ7,H7,I7,n7⟩:=q7;exact again I7 n7
  |cont=>obtain⟨σ7,H7,I7,n7⟩:=q7;exact again I7 n7
  |brk=>obtain⟨σ7,H7,I7,q7⟩:=q7;exact⟨σ7,H7,I7.unpinned,q7⟩
  |ret v=>obtain⟨x7,σ7,H7,I7,r7,q7⟩:=q7;exact⟨x7,σ7,H7,I7.unpinned,r7,q7⟩
end
end
section
noncomputable abbrev R2:=V->V->Hp->VK->Prop
def OpR (X:Cx)(f:Value->Value->Sem Value)(r:R2):Prop:=
 ∀ (pins:List (Addr×Obj)) (s:Shared) (σ:St) (H:Hp) (x y:V) (v u:Value) (Q:VK),Inv X pins σ H s->RelV x v->RelV y u->r x y H Q->
   wpAny (model X.prog X.w) X.A (f v u) (EP X pins σ Q) X.xe s
def UnR (X:Cx)(f:Value->Sem Value)(r:V->Hp->VK->Prop):Prop:=
 ∀ (pins:List (Addr×Obj)) (s:Shared) (σ:St) (H:Hp) (x:V) (v:Value) (Q:VK),Inv X pins σ H s->RelV x v->r x H Q->
   wpAny (model X.prog X.w) X.A (f v) (EP X pins σ Q) X.xe s
def CallR (X:Cx)(f:Value)(r:List V->Hp->VK->Prop):Prop:=
 ∀ (pins:List (Addr×Obj)) (s:Shared) (σ:St) (H:Hp) (xs:List V) (us:List Value) (Q:VK),Inv X pins σ H s->Vals xs us->r xs H Q->
   wpAny (model X.prog X.w) X.A (call f us) (EP X pins σ Q) X.xe s
def tOp (r:R2)(ta tb:TE):TE:=fun σ H Q=>ta σ H fun x H1=>tb σ H1 fun y H2=>r x y H2 Q
def tUn (r:V->Hp->VK->Prop)(ta:TE):TE:=fun σ H Q=>ta σ H fun x H1=>r x H1 Q
def rI (C:Int->Int->Prop)(g:Int->Int->V):R2:=fun x y H Q=> ∃i j,x=.int i/\y=.int j/\C i j/\Q (g i j) H
def rI0 (g:Int->Int->V):R2:=fun x y H Q=> ∃i j,x=.int i/\y=.int j/\Q (g i j) H
def rU (g:Int->V):V->Hp->VK->Prop:=fun x H Q=> ∃i,x=.int i/\Q (g i) H
section
variable {X:Cx}{a b c:Expr}{ta tb tc:TE}{pos:Pos}
theorem binT (ha:PE X a ta)(hb:PE X b tb){pins:List (Addr×Obj)}{s:Shared}{σ:St}{H:Hp}{R:V->V->Hp->Prop}(I:Inv X pins σ H s)
  (h:ta σ H fun x H1=>tb σ H1 fun y H2=>R x y H2){Q:Value->Shared->Prop}{f:Value->Value->Sem Value}
  (hf: ∀v u s2 x y H2,Inv X pins σ H2 s2->RelV x v->RelV y u->R x y H2->wpAny (model X.prog X.w) X.A (f v u) Q X.xe s2):
  wpAny (model X.prog X.w) X.A (eval a X.env) (fun v s₁=>wpAny (model X.prog X.w) X.A (eval b X.env) (fun u s₂=>wpAny (model X.prog X.w) X.A (f v u) Q X.xe s₂) X.xe s₁) X.xe s:=by
 refine thn (ha pins s σ H _ I h) fun v s1 qz=>?_
 obtain⟨x,H1,I1,r1,q1⟩:=qz
 refine thn (hb pins s1 σ H1 _ I1 q1) fun u s2 qz=>?_
 obtain⟨y,H2,I2,r2,q2⟩:=qz
 exact hf v u s2 x y H2 I2 r1 r2 q2
theorem sN {op:Operator}{r:R2}(ho:OpR X (binaryOp op) r)(ha:PE X a ta)(hb:PE X b tb):PE X (.BinOp a op b pos) (tOp r ta tb):=by
 intro pins s σ H Q I h
 exact wpAny_BinOp (binT ha hb I h fun v u s2 x y H2 I2 rx ry q=>ho pins s2 σ H2 x y v u Q I2 rx ry q)
theorem A2 {op:UnaryOp}{r:V->Hp->VK->Prop}(ho:UnR X (unaryOp op) r)(ha:PE X a ta):PE X (.UnaryOp op a pos) (tUn r ta):=by
 intro pins s σ H Q I h
 exact UnaryOp_ (thn (ha pins s σ H _ I h) fun v s1 ⟨x,H1,I1,r1,q1⟩=>ho pins s1 σ H1 x v Q I1 r1 q1)
theorem opI {f:Value->Value->Sem Value}{C:Int->Int->Prop}{g:Int->Int->Int}
  (rule: ∀ (i j:Int) (t u:Tok) (s:Shared) (Q:Value->Shared->Prop) (E:Value->Shared->Prop),C i j->Q (.int (g i j) s.toks) {s with toks:=s.toks+1}->wpAny (model X.prog X.w) X.A (f (.int i t) (.int j u)) Q E s):
  OpR X f (rI C fun i j=>.int (g i j)):=by
 intro pins s σ H x y v u Q I rx ry h
 obtain⟨i,j,rfl,rfl,hc,q⟩:=h
 obtain⟨t,rfl⟩:=rx
 obtain⟨t',rfl⟩:=ry
 exact rule i j t t' s _ _ hc ⟨.int (g i j),H,I.tok _,⟨_,rfl⟩,q⟩
theorem opI0 {f:Value->Value->Sem Value}{g:Int->Int->Int}
  (rule: ∀ (i j:Int) (t u:Tok) (s:Shared) (Q:Value->Shared->Prop) (E:Value->Shared->Prop),Q (.int (g i j) s.toks) {s with toks:=s.toks+1}->wpAny (model X.prog X.w) X.A (f (.int i t) (.int j u)) Q E s):
  OpR X f (rI0 fun i j=>.int (g i j)):=by
 intro pins s σ H x y v u Q I rx ry h
 obtain⟨i,j,rfl,rfl,q⟩:=h
 obtain⟨t,rfl⟩:=rx
 obtain⟨t',rfl⟩:=ry
 exact rule i j t t' s _ _ ⟨.int (g i j),H,I.tok _,⟨_,rfl⟩,q⟩
theorem opB0 {f:Value->Value->Sem Value}{g:Int->Int->Bool}
  (rule: ∀ (i j:Int) (t u:Tok) (s:Shared) (Q:Value->Shared->Prop) (E:Value->Shared->Prop),Q (.bool (g i j)) s->wpAny (model X.prog X.w) X.A (f (.int i t) (.int j u)) Q E s):
  OpR X f (rI0 fun i j=>.bl (g i j)):=by
 intro pins s σ H x y v u Q I rx ry h
 obtain⟨i,j,rfl,rfl,q⟩:=h
 obtain⟨t,rfl⟩:=rx
 obtain⟨t',rfl⟩:=ry
 exact rule i j t t' s _ _ ⟨.bl (g i j),H,I,rfl,q⟩
noncomputable def CPow (i j:Int):Prop:=0<=j/\j<=1000000/\i.natAbs<2 ^ 64
noncomputable def CMul (i j:Int):Prop:=(-(2 ^ 64)<i/\i<2 ^ 64)\/(-(2 ^ 64)<j/\j<2 ^ 64)
theorem CMul.ok {i j:Int}(h:CMul i j):IntMulOk i j:=by
 rcases h with⟨h1,h2⟩|⟨h1,h2⟩
 ·exact .of_left (intBits_le_64 h1 h2)
 ·exact .of_right (intBits_le_64 h1 h2)
theorem op_add:OpR X (binaryOp .Add) (rI0 fun i j=>.int (i+j)):=opI0 fun _ _ _ _ _ _ _ q=>add_int q
theorem zV:OpR X (binaryOp .Sub) (rI0 fun i j=>.int (i - j)):=opI0 fun _ _ _ _ _ _ _ q=>sub_int q
theorem zZ:OpR X (binaryOp .Mod) (rI (fun _ j=>0<j) fun i j=>.int (i % j)):=opI fun i j _ _ _ _ _ hc q=>by
 have h1:(0:Int)<j:=hc
 exact mod_int' (by omega) (by rw[Int.fmod_eq_emod_of_nonneg i (by omega)];exact q)
theorem zX:OpR X (binaryOp .Pow) (rI CPow fun i j=>.int (i ^ j.toNat)):=opI fun _ _ _ _ _ _ _ hc q=>pow_int_small hc.1 hc.2.1 hc.2.2 q
theorem unI {f:Value->Sem Value}{g:Int->Int}
  (rule: ∀ (i:Int) (t:Tok) (s:Shared) (Q:Value->Shared->Prop) (E:Value->Shared->Prop),Q (.int (g i) s.toks) {s with toks:=s.toks+1}->wpAny (model X.prog X.w) X.A (f (.int i t)) Q E s):
  UnR X f (rU fun i=>.int (g i)):=by
 intro pins s σ H x v Q I rx h
 obtain⟨i,rfl,q⟩:=h
 obtain⟨t,rfl⟩:=rx
 exact rule i t s _ _ ⟨.int (g i),H,I.tok _,⟨_,rfl⟩,q⟩
theorem zc:UnR X (unaryOp .USub) (rU fun i=>.int (-i)):=unI fun _ _ _ _ _ q=>neg_int q
end
noncomputable def scal:V->V->Bool
 |.non,.non=>true|.non,.int _=>true|.int _,.non=>true|.non,.bl _=>true|.bl _,.non=>true|.non,.str _=>true|.str _,.non=>true
 |.int _,.int _=>true|.bl _,.bl _=>true|.str _,.str _=>true|.byt _,.byt _=>true
 |.int _,.str _=>true|.str _,.int _=>true|.bl _,.str _=>true|.str _,.bl _=>true
 |_,_=>false
def rEq:R2:=fun x y H Q=>scal x y=true/\Q (.bl (decide (x=y))) H
def rNe:R2:=fun x y H Q=>scal x y=true/\Q (.bl (!decide (x=y))) H
theorem tN {i j:Int}:decide (V.int i=V.int j)=(i==j):=by
 rw[Bool.eq_iff_iff]
 simp
theorem w9 {i j:Bool}:decide (V.bl i=V.bl j)=(i==j):=by
 rw[Bool.eq_iff_iff]
 simp
theorem tK {i j:Str}:decide (V.str i=V.str j)=(i==j):=by
 rw[Bool.eq_iff_iff]
 simp
theorem tO {i j:Array UInt8}:decide (V.byt i=V.byt j)=(i.toList==j.toList):=by
 rw[Bool.eq_iff_iff]
 cases i
 cases j
 simp
section
variable {X:Cx}{a b c:Expr}{ta tb tc:TE}{pos:Pos}
theorem bG {pins:List (Addr×Obj)}{σ:St}{H:Hp}{s:Shared}{Q:VK}{k k':Bool}(I:Inv X pins σ H s)(q:Q (.bl k) H)(e:k=k'):EP X pins σ Q (.bool k') s:=by
 subst e
 exact⟨.bl k,H,I,rfl,q⟩
theorem op_eq:OpR X (compareOp .Eq) rEq:=by
 intro pins s σ H x y v u Q I rx ry h
 obtain⟨hs,q⟩:=h
 cases x with
 |non=>
  cases rx
  cases y with
  |non=>cases ry;exact PySem.EqNone.eq_none_none (bG I q (by simp))
  |bl j=>cases ry;exact PySem.EqNone.eq_none_bool (bG I q (by simp))
  |int j=>obtain⟨t',rfl⟩:=ry;exact PySem.EqNone.eq_none_int (bG I q (by simp))
  |str j=>obtain⟨t',rfl⟩:=ry;exact PySem.EqNone.eq_none_str (bG I q (by simp))
  |_=>exact absurd (show false=true from hs) Bool.false_ne_true
 |bl i=>
  cases rx
  cases y with
  |non=>cases ry;exact PySem.EqNone.eq_bool_none (bG I q (by simp))
  |bl j=>cases ry;exact eq_bool (bG I q w9)
  |str j=>obtain⟨t',rfl⟩:=ry;exact PySem.EqMixed.eq_bool_str (bG I q (by simp))
  |_=>exact absurd (show false=true from hs) Bool.false_ne_true
 |int i=>
  obtain⟨t,rfl⟩:=rx
  cases y with
  |non=>cases ry;exact PySem.EqNone.eq_int_none (bG I q (by simp))
  |int j=>obtain⟨t',rfl⟩:=ry;exact eq_int (bG I q tN)
  |str j=>obtain⟨t',rfl⟩:=ry;exact PySem.EqMixed.eq_int_str (bG I q (by simp))
  |_=>exact absurd (show false=true from hs) Bool.false_ne_true
 |str i=>
  obtain⟨t,rfl⟩:=rx
  cases y with
  |non=>cases ry;exact PySem.EqNone.eq_str_none (bG I q (by simp))
  |bl j=>cases ry;exact PySem.EqMixed.eq_str_bool (bG I q (by simp))
  |int j=>obtain⟨t',rfl⟩:=ry;exact PySem.EqMixed.eq_str_int (bG I q (by simp))
  |str j=>obtain⟨t',rfl⟩:=ry;exact eq_str (bG I q tK)
  |_=>exact absurd (show false=true from hs) Bool.false_ne_true
 |byt i=>
  obtain⟨t,rfl⟩:=rx
  cases y with
  |byt j=>obtain⟨t',rfl⟩:=ry;exact PySem.W.eq_bytes (bG I q tO)
  |_=>exact absurd (show false=true from hs) Bool.false_ne_true
 |_=>cases y<;>exact absurd (show false=true from hs) Bool.false_ne_true
theorem op_ne:OpR X (compareOp .NotEq) rNe:=by
 intro pins s σ H x y v u Q I rx ry h
 obtain⟨hs,q⟩:=h
 cases x with
 |non=>
  cases rx
  cases y with
  |non=>cases ry;exact PySem.EqNone.ne_none_none (bG I q (by simp))
  |bl j=>cases ry;exact PySem.EqNone.ne_none_bool (bG I q (by simp))
  |int j=>obtain⟨t',rfl⟩:=ry;exact PySem.EqNone.ne_none_int (bG I q (by simp))
  |str j=>obtain⟨t',rfl⟩:=ry;exact PySem.EqNone.ne_none_str (bG I q (by simp))
  |_=>exact absurd (show false=true from hs) Bool.false_ne_true
 |bl i=>
  cases rx
  cases y with
  |non=>cases ry;exact PySem.EqNone.ne_bool_none (bG I q (by simp))
  |bl j=>cases ry;exact ne_bool (bG I q (congrArg not w9))
  |str j=>obtain⟨t',rfl⟩:=ry;exact PySem.EqMixed.ne_bool_str (bG I q (by simp))
  |_=>exact absurd (show false=true from hs) Bool.false_ne_true
 |int i=>
  obtain⟨t,rfl⟩:=rx
  cases y with
  |non=>cases ry;exact PySem.EqNone.ne_int_none (bG I q (by simp))
  |int j=>obtain⟨t',rfl⟩:=ry;exact ne_int (bG I q (congrArg not tN))
  |str j=>obtain⟨t',rfl⟩:=ry;exact PySem.EqMixed.ne_int_str (bG I q (by simp))
  |_=>exact absurd (show false=true from hs) Bool.false_ne_true
 |str i=>
  obtain⟨t,rfl⟩:=rx
  cases y with
  |non=>cases ry;exact PySem.EqNone.ne_str_none (bG I q (by simp))
  |bl j=>cases ry;exact PySem.EqMixed.ne_str_bool (bG I q (by simp))
  |int j=>obtain⟨t',rfl⟩:=ry;exact PySem.EqMixed.ne_str_int (bG I q (by simp))
  |str j=>obtain⟨t',rfl⟩:=ry;exact ne_str (bG I q (congrArg not tK))
  |_=>exact absurd (show false=true from hs) Bool.false_ne_true
 |byt i=>
  obtain⟨t,rfl⟩:=rx
  cases y with
  |byt j=>obtain⟨t',rfl⟩:=ry;exact PySem.W.ne_bytes (bG I q (congrArg not tO))
  |_=>exact absurd (show false=true from hs) Bool.false_ne_true
 |_=>cases y<;>exact absurd (show false=true from hs) Bool.false_ne_true
theorem vU:OpR X (compareOp .Lt) (rI0 fun i j=>.bl (decide (i<j))):=opB0 fun _ _ _ _ _ _ _ q=>lt_int q
theorem A7:OpR X (compareOp .LtE) (rI0 fun i j=>.bl (decide (i<=j))):=opB0 fun _ _ _ _ _ _ _ q=>le_int q
theorem nN:OpR X (compareOp .Gt) (rI0 fun i j=>.bl (decide (j<i))):=opB0 fun _ _ _ _ _ _ _ q=>gt_int q
theorem A8:OpR X (compareOp .GtE) (rI0 fun i j=>.bl (decide (j<=i))):=opB0 fun _ _ _ _ _ _ _ q=>ge_int q
theorem op_in_str:OpR X (compareOp .In) (fun x y H Q=> ∃i j,x=.str i/\y=.str j/\Q (.bl (!(Builtin.Str.occurrences j i 0 j.length 1).isEmpty)) H):=by
 intro pins s σ H x y v u Q I rx ry h
 obtain⟨i,j,rfl,rfl,q⟩:=h
 obtain⟨t,rfl⟩:=rx
 obtain⟨t',rfl⟩:=ry
 exact in_str (bG I q rfl)
theorem OpR.or {f:Value->Value->Sem Value}{r r':R2}(h:OpR X f r)(h':OpR X f r'):OpR X f (fun x y H Q=>r x y H Q\/r' x y H Q):=by
 intro pins s σ H x y v u Q I rx ry q
 rcases q with q|q
 ·exact h pins s σ H x y v u Q I rx ry q
 ·exact h' pins s σ H x y v u Q I rx ry q
theorem av (b:Expr){op:CmpOp}(h:op≠.In:=by decide)(h2:op≠.NotIn:=by decide):behindInMarks op b=false:=by
 have e1:(op==CmpOp.In)=false:=by cases op<;>first|rfl|exact absurd rfl h
 have e2:(op==CmpOp.NotIn)=false:=by cases op<;>first|rfl|exact absurd rfl h2
 cases b<;>simp [behindInMarks,e1,e2]
theorem jk {op:CmpOp}{r:R2}(ho:OpR X (compareOp op) r)(ha:PE X a ta)(hb:PE X b tb)(hm:behindInMarks op b=false):PE X (.Compare a [op] [b] pos) (tOp r ta tb):=by
 intro pins s σ H Q I h
 exact wpAny_Compare1 (binT ha hb I h fun v u s2 x y H2 I2 rx ry q=>ho pins s2 σ H2 x y v u Q I2 rx ry q) hm
def tTest (t:TE):TT:=fun σ H Q=>t σ H fun x H'=> ∃k,x=.bl k/\Q k H'
theorem ft {op:CmpOp}{r:R2}(ho:OpR X (compareOp op) r)(ha:PE X a ta)(hb:PE X b tb)(hm:behindInMarks op b=false):PT X (.Compare a [op] [b] pos) (tTest (tOp r ta tb)):=by
 intro pins s σ H Q I h
 refine wpAny_isTrue_Compare1 (thn (ha pins s σ H _ I h) fun v s1 ⟨x,H1,I1,r1,q1⟩=>thn (hb pins s1 σ H1 _ I1 q1) fun u s2 ⟨y,H2,I2,r2,q2⟩=>
  thn (ho pins s2 σ H2 x y v u _ I2 r1 r2 q2) fun c s3 ⟨z,H3,I3,r3,k,e,q3⟩=>?_) hm
 subst e
 cases r3
 exact wpAny_truthy_bool ⟨H3,I3,q3⟩
def u9 (r r':R2)(ta tb tc:TE):TE:=fun σ H Q=>ta σ H fun x H1=>tb σ H1 fun y H2=>r x y H2 fun z H3=> ∃k,z=.bl k/\
 (if k=true then tc σ H3 fun w' H4=>r' y w' H4 Q else Q (.bl false) H3)
theorem vH {op op':CmpOp}{r r':R2}(ho:OpR X (compareOp op) r)(ho':OpR X (compareOp op') r')(ha:PE X a ta)(hb:PE X b tb)(hc:PE X c tc)
  (hm:lastMarks [op,op'] [b,c]=false:=by with_unfolding_all rfl):PT X (.Compare a [op,op'] [b,c] pos) (tTest (u9 r r' ta tb tc)):=by
 intro pins s σ H Q I h
 refine isTrue_chain (thn (ha pins s σ H _ I h) fun v s1 ⟨x,H1,I1,r1,q1⟩=>test_link (thn (hb pins s1 σ H1 _ I1 q1) fun u s2 ⟨y,H2,I2,r2,q2⟩=>
  thn (ho pins s2 σ H2 x y v u _ I2 r1 r2 q2) fun d s3 ⟨z,H3,I3,r3,k,e,q3⟩=>?_)) hm
 subst e
 cases r3
 refine wpAny_truthy_bool ?_
 cases k with
 |false=>
  obtain⟨k',e',q'⟩:=q3
  cases e'
  exact ite_ff ⟨H3,I3,q'⟩
 |true=>
  refine ite_tt (test_last (thn (hc pins s3 σ H3 _ I3 q3) fun w' s4 ⟨z',H4,I4,r4,q4⟩=>thn (ho' pins s4 σ H4 y z' u w' _ I4 r2 r4 q4) fun d' s5 qz=>?_))
  obtain⟨z2,H5,I5,r5,k2,e2,q5⟩:=qz
  subst e2
  cases r5
  exact wpAny_truthy_bool ⟨H5,I5,q5⟩
theorem jZ:(sizeLine:Nat)<2 ^ 63:=by rw[sizeLine_eq];decide
theorem op_add_str:OpR X (binaryOp .Add) (fun x y H Q=> ∃i j,x=.str i/\y=.str j/\i.length+j.length<=sizeLine/\Q (.str (i++j)) H):=by
 intro pins s σ H x y v u Q I rx ry h
 obtain⟨i,j,rfl,rfl,hz,q⟩:=h
 obtain⟨t,rfl⟩:=rx
 obtain⟨t',rfl⟩:=ry
 exact add_str (fun t' tk=>⟨.str (i++j),H,I.tok _,⟨_,rfl⟩,q⟩) hz
theorem vals1 {x:V}{us:List Value}(r:Vals [x] us): ∃u,us=[u]/\RelV x u:=by
 cases r with
 |cons r1 r2=>cases r2;exact⟨_,rfl,r1⟩
theorem vals2 {x y:V}{us:List Value}(r:Vals [x,y] us): ∃u w',us=[u,w']/\RelV x u/\RelV y w':=by
 cases r with
 |cons r1 r2=>
  cases r2 with
  |cons r3 r4=>cases r4;exact⟨_,_,rfl,r1,r3⟩
theorem xf:CallR X (.builtin "abs") (fun xs H Q=> ∃i,xs=[.int i]/\Q (.int (if i<0 then -i else i)) H):=by
 intro pins s σ H xs us Q I r h
 obtain⟨i,rfl,q⟩:=h
 obtain⟨u,rfl,t,rfl⟩:=vals1 r
 exact call_abs_int fun u tk=>⟨.int (if i<0 then -i else i),H,I.tok _,⟨_,rfl⟩,q⟩
theorem uS (hc:X.calm=true):CallR X (.builtin "min") (fun xs H Q=> ∃i j,xs=[.int i,.int j]/\Q (.int (if j<i then j else i)) H):=by
 intro pins s σ H xs us Q I r h
 obtain⟨i,j,rfl,q⟩:=h
 obtain⟨u,w',rfl,⟨t,rfl⟩,⟨t',rfl⟩⟩:=vals2 r
 refine min_two_ints (I.ok.hd hc) fun h' tk k=>⟨_,H,I.kept k,?_,q⟩
 by_cases hj:j<i
 ·rw[if_pos hj,if_pos hj];exact⟨_,rfl⟩
 ·rw[if_neg hj,if_neg hj];exact⟨_,rfl⟩
theorem call_int1:CallR X (.type "int") (fun xs H Q=>(∃i,xs=[.int i]/\Q (.int i) H)\/ ∃k,xs=[.bl k]/\Q (.int (if k then 1 else 0)) H):=by
 intro pins s σ H xs us Q I r h
 rcases h with⟨i,rfl,q⟩|⟨k,rfl,q⟩
 ·obtain⟨u,rfl,t,rfl⟩:=vals1 r
  exact call_int_int ⟨.int i,H,I,⟨_,rfl⟩,q⟩
 ·obtain⟨u,rfl,r1⟩:=vals1 r
  cases r1
  exact call_int_bool ⟨.int (if k then 1 else 0),H,I.tok _,⟨_,rfl⟩,q⟩
theorem call_str_int:CallR X (.type "str") (fun xs H Q=> ∃i,xs=[.int i]/\i.natAbs.log2<1920/\Q (.str (toString i)) H):=by
 intro pins s σ H xs us Q I r h
 obtain⟨i,rfl,hz,q⟩:=h
 obtain⟨u,rfl,t,rfl⟩:=vals1 r
 exact PySem.P.str_of_int hz ⟨.str _,H,I.tok _,⟨_,rfl⟩,q⟩
end
end
section
structure ObjM (h:Heap)(x dx C:Addr)(mA:Str->Option Value):Prop where
 obj:h.get? x=some (instObj C dx)
 ns:h.Ns1 dx mA
 ne:dx≠x
theorem uy {h:Heap}{dx:Addr}{mA:Str->Option Value}(n:h.Ns1 dx mA): ∃od,h.get? dx=some od/\ ∀name,PySem.W.lookIn name od=some (mA name):=by
 obtain⟨o,es,ep,ho,hd,hk,_,hm⟩:=n
 refine⟨o,ho,fun name=>?_⟩
 have e:=hm name
 unfold nsFind findBy at e
 rw[<-Array.find?_toList] at e
 unfold PySem.W.lookIn
 rw[hd]
 dsimp only
 split
 ·rename_i y q
  rw[q] at e
  exact congrArg some e
 ·rename_i q
  rw[q] at e
  have a:es.toList.any (·.refKey)=false:=by
   rw[List.any_eq_false]
   intro y hy
   obtain⟨z,t,hkey⟩:=hk y (Array.mem_toList_iff.mp hy)
   simp [DictEntry.refKey,hkey]
  have a': ¬es.toList.any (·.refKey)=true:=by rw[a];exact Bool.false_ne_true
  rw[if_neg a']
  exact congrArg some e
theorem ObjM.look {h:Heap}{x dx C:Addr}{mA:Str->Option Value}(I:ObjM h x dx C mA): ∃od,PySem.W.InstAt h x (instObj C dx) C (some od)/\ ∀name,PySem.W.lookIn name od=some (mA name):=
 let ⟨od,ho,hl⟩:=uy I.ns
 ⟨od,⟨I.obj,rfl,rfl,ho⟩,hl⟩
section
variable {prog:Program}{w:World}{A:Around}{E:Value->Shared->Prop}{s:Shared}{K:PySem.W.Frag}{x dx C f:Addr}{mA:Str->Option Value}{name:Str}{v:Value}
theorem yA {expr:Bool}{Q:Value->Shared->Prop}(X:K.In s.heap)(I:ObjM s.heap x dx C mA)(hg:plainGet K C name=true)(hh:hasDictIn K C=true)
  (ha:findIn K (.ref C) name=some none)(hv:mA name=some v)(hv':PySem.W.handedIn v=true)(h:Q v {s with toks:=s.toks+1}):
  wpAny (model prog w) A (getAttr (.ref x) name expr) Q E s:=by
 obtain⟨od,J,hl⟩:=I.look
 exact PySem.W.get_value X J (PySem.W.plainGet_of hg).1 (PySem.W.findObj_own hh ha rfl (by rw[hl,hv])) hv' h
theorem wT {pl:Sem Bool}{Q:Value×List Value->Shared->Prop}(X:K.In s.heap)(I:ObjM s.heap x dx C mA)(hg:plainGet K C name=true)
  (hf:findIn K (.ref C) name=some (some (.ref f)))(ht:isFn K (.ref f)=true)(hv:mA name=none)(h:Q (.ref f,[.ref x]) s):
  wpAny (model prog w) A (getMethod (.ref x) name pl) Q E s:=by
 obtain⟨od,J,hl⟩:=I.look
 exact PySem.W.method_fn X J (PySem.W.plainGet_of hg).1 (PySem.W.plainGet_of hg).2 hf (beq_iff_eq.mp ht) (by show (PySem.W.lookIn name od).map (·.isSome)=some false;rw[hl,hv];rfl) h
theorem xC {ns:List Str}{Q:Unit->Shared->Prop}(X:K.In s.heap)(I:ObjM s.heap x dx C mA)
  (hs:findIn K (.ref C) "__setattr__"=some (some (.builtin "object.__setattr__")))(hp:PySem.W.plainOver K C=true)(ht:PySem.W.takerIn K C name=some none)(hh:hasDictIn K C=true)
  (hw:PySem.Within mA ns)(hsz:ns.length<=sizeLine)
  (h:∀h',ObjM h' x dx C (fun y=>if y=name then some v else mA y)->Heap.SameBut dx s.heap h'->Q () {s with heap:=h',toks:=s.toks+2}):
  wpAny (model prog w) A (setAttr (.ref x) name v) Q E s:=by
 obtain⟨od,J,hl⟩:=I.look
 refine PySem.W.set_plain X J hs (PySem.W.osa_open (s:={s with toks:=s.toks+1}) (r:=none) X J hp ht fun b=>?_)
 obtain⟨cd,hc,hd'⟩:=PySem.W.any_some hh
 have hx:s.heap.get? x=some ⟨.ref C,some dx,.plain,#[]⟩:=I.obj
 refine wpAny_bind (wpAny_pure (wpAny_bind (wpAny_bind (wpAny_loadPart hx (wpAny_bind (PySem.W.Looks.here (s:={s with toks:=s.toks+1}) (PySem.W.looks_clsIn X hc) ?_))))))
 rw[hd']
 refine wpAny_pure (a:=some dx) (wpAny_bind (wpAny_pure (wpAny_bind ?_)))
 refine wpAny_nsSet1 (s:={s with toks:=s.toks+1}) I.ns fun h' hn2 hs2=>?_
 obtain⟨oD,esD,epD,hoD,hdD,hcD⟩:=hn2.count (PySem.Within.cons name v hw)
 refine wpAny_bind (wpAny_lookBehind hoD (by rw[hdD];exact pastItsLine_dict (Nat.le_trans hcD (by rw[List.length_cons];omega))) ?_)
 exact wpAny_pure (h _ ⟨(hs2.2 _ (Ne.symm I.ne)).trans I.obj,hn2,I.ne⟩ hs2)
theorem wr {R:Result->Shared->Prop}{vs:List Value}{kw:List (Str×Value)}(X:K.In s.heap)(hm:PySem.W.makesIn K C=true)
  (hi:findIn K (.ref C) "__init__"=some (some (.ref f)))(hf:PySem.W.typeIn K (.ref f)=some (.type "function"))
  (h:codeAny (model prog w) (A.under (.builtin "type.__call__" ⟨.ref C::vs,kw⟩)) (.call (.ref f) ⟨.ref (s.heap.objs.size+1)::vs,kw⟩) (PySem.W.InitBack (s.heap.objs.size+1) R)
    {s with heap:=(s.heap.push emptyDict).push (instObj C s.heap.objs.size)}):
  codeAny (model prog w) A (.call (.ref C) ⟨vs,kw⟩) R s:=by
 obtain⟨hh,g,d,t,os⟩:=s
 exact PySem.W.make_core (PySem.W.makes_of X hm) (PySem.W.looks_findIn X hi) (fun self=>PySem.W.bind_fn X self hf) (.inl rfl) h
end
noncomputable def putF (f:Str)(v:V):List (Str×V)->List (Str×V)
 |[]=>[(f,v)]
 |(g,x)::r=>if g=f then (g,v)::r else (g,x)::putF f v r
theorem dj (f g:Str)(v:V): ∀fs:List (Str×V),(putF f v fs).lookup g=if g=f then some v else fs.lookup g
 |[]=>by
  show List.lookup g [(f,v)]=_
  by_cases h:g=f
  ·have hb:(g==f)=true:=beq_iff_eq.mpr h
   simp only[List.lookup,hb,if_pos h]
  ·have hb:(g==f)=false:=beq_eq_false_iff_ne.mpr h
   simp only[List.lookup,hb,if_neg h]
 |(k,x)::r=>by
  have ih:=dj f g v r
  rw[show putF f v ((k,x)::r)=(if k=f then (k,v)::r else (k,x)::putF f v r) from rfl]
  by_cases hk:k=f
  ·rw[if_pos hk]
   by_cases h:g=k
   ·have hb:(g==k)=true:=beq_iff_eq.mpr h
    simp only[List.lookup,hb,if_pos (h.trans hk)]
   ·have hb:(g==k)=false:=beq_eq_false_iff_ne.mpr h
    simp only[List.lookup,hb,if_neg (fun e:g=f=>h (e.trans hk.symm))]
  ·rw[if_neg hk]
   by_cases h:g=k
   ·have hb:(g==k)=true:=beq_iff_eq.mpr h
    simp only[List.lookup,hb,if_neg (fun e:g=f=>hk (h.symm.trans e))]
   ·have hb:(g==k)=false:=beq_eq_false_iff_ne.mpr h
    simp only[List.lookup,hb]
    exact ih
theorem li (f:Str)(v:V): ∀fs:List (Str×V),f∈(putF f v fs).map (·.1)/\ ∀g,g∈fs.map (·.1)->g∈(putF f v fs).map (·.1)
 |[]=>⟨by simp [putF],fun g h=>by simp at h⟩
 |(k,x)::r=>by
  obtain⟨i1,i2⟩:=li f v r
  rw[show putF f v ((k,x)::r)=(if k=f then (k,v)::r else (k,x)::putF f v r) from rfl]
  by_cases hk:k=f
  ·rw[if_pos hk]
   subst hk
   exact⟨by simp,fun g h=>by simpa using h⟩
  ·rw[if_neg hk]
   refine⟨?_,fun g h=>?_⟩
   ·rw[List.map_cons]
    exact List.mem_cons_of_mem _ i1
   ·rw[List.map_cons] at h ⊢
    rcases List.mem_cons.mp h with e|e
    ·exact List.mem_cons.mpr (.inl e)
    ·exact List.mem_cons_of_mem _ (i2 g e)
theorem lA (f:Str)(v:V): ∀fs:List (Str×V),(putF f v fs).length<=fs.length+1
 |[]=>by simp [putF]
 |(k,x)::r=>by
  have ih:=lA f v r
  rw[show putF f v ((k,x)::r)=(if k=f then (k,v)::r else (k,x)::putF f v r) from rfl]
  by_cases hk:k=f
  ·rw[if_pos hk,List.length_cons,List.length_cons];omega
  ·rw[if_neg hk,List.length_cons,List.length_cons];omega
theorem RelO.some_of {v:V}{o:Option Value}(r:RelO (some v) o): ∃u,o=some u/\RelV v u:=by
 cases o with
 |none=>exact (show False from r).elim
 |some u=>exact⟨u,rfl,r⟩
theorem RelO.none_of {o:Option Value}(r:RelO none o):o=none:=by
 cases o with
 |none=>rfl
 |some u=>exact (show False from r).elim
theorem uK {v:V}{u:Value}(r:RelV v u):PySem.W.handedIn u=true:=by
 cases v with
 |non=>cases (show u=Value.none from r);rfl
 |bl b=>cases (show u=Value.bool b from r);rfl
 |int i=>obtain⟨t,e⟩:=(show∃t,u=Value.int i t from r);cases e;rfl
 |str x=>obtain⟨t,e⟩:=(show∃t,u=Value.str x t from r);cases e;rfl
 |byt b=>obtain⟨t,e⟩:=(show∃t,u=Value.bytes b t from r);cases e;rfl
 |flt b=>obtain⟨t,e⟩:=(show∃t,u=Value.float b t from r);cases e;rfl
 |ref a=>cases (show u=Value.ref a from r);rfl
 |ty n=>cases (show u=Value.type n from r);rfl
section
variable {P:Program}{w:World}{H H':Hp}{h h':Heap}{a C dx:Addr}{fs fs':List (Str×V)}
theorem lM (hok:HOk P w H h)(e:H a=some (.ins C dx fs)): ∃mA,ObjM h a dx C mA/\(∀f,RelO (fs.lookup f) (mA f))/\PySem.Within mA (fs.map (·.1))/\fs.length<=1000/\H dx=some (.own a):=by
 obtain⟨d,z,ne,ob,mA,n,r,q⟩:=(show ObjOk P w H h a (.ins C dx fs) from hok a _ e)
 exact⟨mA,⟨ob,n,ne⟩,r,q,z,d⟩
end
structure Cls (K:PySem.W.Frag)(C:Addr):Prop where
 pg:plainGet K C Str.empty=true
 hd:hasDictIn K C=true
 po:PySem.W.plainOver K C=true
 sa:findIn K (.ref C) "__setattr__"=some (some (.builtin "object.__setattr__"))
theorem Cls.get {K:PySem.W.Frag}{C:Addr}(c:Cls K C)(f:Str):plainGet K C f=true:=c.pg
noncomputable def NoAttr (K:PySem.W.Frag)(C:Addr)(f:Str):Prop:=findIn K (.ref C) f=some none
theorem NoAttr.taker {K:PySem.W.Frag}{C:Addr}{f:Str}(n:NoAttr K C f):PySem.W.takerIn K C f=some none:=by
 unfold PySem.W.takerIn
 rw[show findIn K (.ref C) f=some none from n]
 rfl
structure Meth (K:PySem.W.Frag)(C:Addr)(m:Str)(f:Addr):Prop where
 at_:findIn K (.ref C) m=some (some (.ref f))
 fn:isFn K (.ref f)=true
 kp:keepIn K (.ref f)=true
section
variable {X:Cx}{pins:List (Addr×Obj)}{σ:St}{H:Hp}{s:Shared}{a C dx:Addr}{fs:List (Str×V)}{f:Str}{v:V}{A:Around}{E:Value->Shared->Prop}
theorem nj {b:Bool}{Q:Value->Shared->Prop}(I:Inv X pins σ H s)(e:H a=some (.ins C dx fs))(c:Cls X.K C)(n:NoAttr X.K C f)(l:fs.lookup f=some v)
  (h:∀u s',Inv X pins σ H s'->RelV v u->Q u s'):wpAny (model X.prog X.w) A (getAttr (.ref a) f b) Q E s:=by
 obtain⟨mA,O,r,_,_,_⟩:=lM I.hok e
 obtain⟨u,hu,ru⟩:=RelO.some_of (v:=v) (o:=mA f) (by rw[<-l];exact r f)
 exact yA I.kIn O (c.get f) c.hd n hu (uK ru) (h u _ (I.tok _) ru)
theorem j1 {m:Str}{g:Addr}{pl:Sem Bool}{Q:Value×List Value->Shared->Prop}(I:Inv X pins σ H s)(e:H a=some (.ins C dx fs))(c:Cls X.K C)(k:Meth X.K C m g)(l:fs.lookup m=none)
  (h:Q (.ref g,[.ref a]) s):wpAny (model X.prog X.w) A (getMethod (.ref a) m pl) Q E s:=by
 obtain⟨mA,O,r,_,_,_⟩:=lM I.hok e
 have hn:mA m=none:=RelO.none_of (by rw[<-l];exact r m)
 exact wT I.kIn O (c.get m) k.at_ k.fn hn h
theorem lZ {y:V}{u:Value}{Q:Unit->Shared->Prop}(I:Inv X pins σ H s)(e:H a=some (.ins C dx fs))(c:Cls X.K C)(n:NoAttr X.K C f)(hl:fs.length<1000)(ry:RelV y u)
  (h:∀s',Inv X pins σ (upd H a (.ins C dx (putF f y fs))) s'->Q () s'):wpAny (model X.prog X.w) A (setAttr (.ref a) f u) Q E s:=by
 obtain⟨mA,O,r,wi,_,ho⟩:=lM I.hok e
 have hz:(fs.map (·.1)).length<=sizeLine:=by rw[List.length_map,sizeLine_eq];omega
 refine xC I.kIn O c.sa c.po n.taker c.hd wi hz fun h' O' sb=>h _ ?_
 have hd: ∃o,h'.get? dx=some o:=let ⟨o,_,_,e',_⟩:=O'.ns;⟨o,e'⟩
 refine I.write (x:=a) (e:=dx) (by rw[e];exact True.intro) (.inr ho) (fun b q hb z=>(sb.2 b hb).trans z) hd ?_
 refine⟨by rw[aH O.ne];exact ho,?_,O.ne,O'.obj,_,O'.ns,fun g=>?_,fun g hg=>?_⟩
 ·have:=lA f y fs;omega
 ·show RelO ((putF f y fs).lookup g) (if g=f then some u else mA g)
  rw[dj]
  by_cases q:g=f
  ·rw[if_pos q,if_pos q];exact ry
  ·rw[if_neg q,if_neg q];exact r g
 ·by_cases q:g=f
  ·rw[q];exact (li f y fs).1
  ·refine (li f y fs).2 g (wi g fun z=>hg ?_)
   show (if g=f then some u else mA g)=none
   rw[if_neg q];exact z
theorem Inv.made (I:Inv X pins σ H s):Inv X pins σ (upd (upd H s.heap.objs.size (.own (s.heap.objs.size+1))) (s.heap.objs.size+1) (.ins C s.heap.objs.size []))
  {s with heap:=(s.heap.push emptyDict).push (instObj C s.heap.objs.size)}:=by
 have e1:(s.heap.push emptyDict).get? s.heap.objs.size=some emptyDict:=Heap.get?_push_size s.heap rfl
 have e2:((s.heap.push emptyDict).push (instObj C s.heap.objs.size)).get? (s.heap.objs.size+1)=some (instObj C s.heap.objs.size):=by
  have:=Heap.get?_push_size (s.heap.push emptyDict) (o:=instObj C s.heap.objs.size) rfl
  rwa[Heap.size_push] at this
 have e3:(s.heap.push emptyDict).Ns s.heap.objs.size (fun _=>none):=⟨emptyDict,#[],_,e1,rfl,(fun e he=>absurd he (by simp)),fun _=>rfl⟩
 have I1:=I.laid (a:=s.heap.objs.size) (o:=.own (s.heap.objs.size+1)) (h':=s.heap.push emptyDict) (t':=s.toks) (fun b u q=>Heap.get?_push_of_some _ q) (Nat.le_refl _) ⟨_,e1⟩
 refine I1.laid (a:=s.heap.objs.size+1) (o:=.ins C s.heap.objs.size []) (t':=s.toks) (fun b u q=>Heap.get?_push_of_some _ q) (Nat.le_of_eq (Heap.size_push _ _)) ?_
 have ne:s.heap.objs.size≠s.heap.objs.size+1:=Nat.ne_of_lt (Nat.lt_succ_self _)
 refine⟨by rw[aH ne,bb],Nat.zero_le _,ne,e2,fun _=>none,(Heap.Ns1.of_empty e3).at fun o q=>Heap.get?_push_of_some _ q,fun _=>True.intro,fun y hy=>absurd rfl hy⟩
theorem yP {prog:Program}{w:World}{env:Env}{e:Expr}{f:Str}{pos:Pos}{s:Shared}{Q:Value->Shared->Prop}(hb:attributeBase e f env (eval e env)=eval e env)
  (h:wpAny (model prog w) A (eval e env) (fun o s₁=>wpAny (model prog w) A (getAttr o f true) Q E s₁) E s):wpAny (model prog w) A (eval (.Attribute e f pos) env) Q E s:=
 Attribute_any_ h (by rw[arm_eval_Attribute,hb])
end
def tFld (K:PySem.W.Frag)(ta:TE)(f:Str):TE:=fun σ H Q=>ta σ H fun x H1=> ∃a C dx fs v,x=.ref a/\H1 a=some (.ins C dx fs)/\Cls K C/\NoAttr K C f/\fs.lookup f=some v/\Q v H1
def sFld (K:PySem.W.Frag)(ta tv:TE)(f:Str):TS:=fun D σ H=>tv σ H fun y H1=>ta σ H1 fun x H2=> ∃a C dx fs,x=.ref a/\H2 a=some (.ins C dx fs)/\Cls K C/\NoAttr K C f/\fs.length<1000/\
 D.nx σ (upd H2 a (.ins C dx (putF f y fs)))
def InOp (X:Cx)(op:Operator)(rd:V->V->Hp->VK->Prop):Prop:=
 ∀ (pins:List (Addr×Obj)) (s:Shared) (σ:St) (H:Hp) (x y:V) (u v:Value) (Q:VK),Inv X pins σ H s->RelV x u->RelV y v->rd x y H Q->wpAny (model X.prog X.w) X.A (inplaceOp op u v) (EP X pins σ Q) X.xe s
def xG (K:PySem.W.Frag)(ta tv:TE)(rd:V->V->Hp->VK->Prop)(f:Str):TS:=fun D σ H=>ta σ H fun x H1=> ∃a C dx fs v,x=.ref a/\H1 a=some (.ins C dx fs)/\Cls K C/\NoAttr K C f/\fs.lookup f=some v/\
 tv σ H1 fun y H2=>rd v y H2 fun z H3=> ∃dx' fs',H3 a=some (.ins C dx' fs')/\fs'.length<1000/\D.nx σ (upd H3 a (.ins C dx' (putF f z fs')))
section
variable {X:Cx}{o e value:Expr}{f:Str}{pos pos' tpos:Pos}{ta tv:TE}
theorem gS (he:PE X e ta)(hb:attributeBase e f X.env (eval e X.env)=eval e X.env):PE X (.Attribute e f pos) (tFld X.K ta f):=by
 intro pins s σ H Q I h
 refine yP hb (thn (he pins s σ H _ I h) fun u s1 qz=>?_)
 obtain⟨x,H1,I1,rx,a,C,dx,fs,v,ex,ea,c,n,l,q⟩:=qz
 subst ex
 obtain rfl:u=Value.ref a:=rx
 exact nj I1 ea c n l fun u' s2 I2 ru=>⟨v,H1,I2,ru,q⟩
theorem rE (ha:PE X o ta)(hv:PE X value tv)(hs:swapsWith value (some (.Attribute o f pos')) pos.line X.env=pure false):PS X (.Assign [.Attribute o f pos'] value pos) (sFld X.K ta tv f):=by
 intro pins s σ H D I h
 refine plainObj_wpAny_Assign_Attribute (thn (hv pins s σ H _ I h) fun u s1 ⟨y,H1,I1,ry,q⟩=>thn (ha pins s1 σ H1 _ I1 q) fun ov s2 qz=>?_) hs
 obtain⟨x,H2,I2,rx,a,C,dx,fs,ex,ea,c,n,l,q2⟩:=qz
 subst ex
 obtain rfl:ov=Value.ref a:=rx
 exact lZ I2 ea c n l ry fun s3 I3=>⟨σ,_,I3,q2⟩
theorem nL {op:Operator}{rd:V->V->Hp->VK->Prop}(ha:PE X o ta)(hv:PE X value tv)(hop:InOp X op rd):PS X (.AugAssign (.Attribute o f tpos) op value pos) (xG X.K ta tv rd f):=by
 intro pins s σ H D I h
 refine wpAny_AugAssign_AttributeAny (thn (ha pins s σ H _ I h) fun ov s1 qz=>?_)
 obtain⟨x,H1,I1,rx,a,C,dx,fs,v,ex,ea,c,n,l,q⟩:=qz
 subst ex
 obtain rfl:ov=Value.ref a:=rx
 refine nj I1 ea c n l fun u s2 I2 ru=>thn (hv pins s2 σ H1 _ I2 q) fun w3 s3 ⟨y,H2,I3,ry,q3⟩=>thn (hop pins s3 σ H2 v y u w3 _ I3 ru ry q3) fun w4 s4 qz=>?_
 obtain⟨z,H3,I4,rz,dx',fs',ea',l',q4⟩:=qz
 exact lZ I4 ea' c n l' rz fun s5 I5=>⟨σ,_,I5,q4⟩
def rAdd:V->V->Hp->VK->Prop:=fun x y H Q=> ∃i j,x=.int i/\y=.int j/\Q (.int (i+j)) H
theorem wK:InOp X .Add rAdd:=by
 rintro pins s σ H x y u v Q I rx ry ⟨i,j,rfl,rfl,q⟩
 obtain⟨t,rfl⟩:=(show∃t,u=Value.int i t from rx)
 obtain⟨t',rfl⟩:=(show∃t',v=Value.int j t' from ry)
 exact PyProof.Rows.iadd_int ⟨.int (i+j),H,I.tok _,⟨_,rfl⟩,q⟩
theorem yY {pl:Sem Bool}{m:Str}{apos:Pos}{args:List Expr}{pins:List (Addr×Obj)}{s:Shared}{σ:St}{H:Hp}{Q:Value->Shared->Prop}{te:TE}(he:PE X e te)(I:Inv X pins σ H s)
  (h:te σ H fun x H1=> ∃a C dx fs g,x=.ref a/\H1 a=some (.ins C dx fs)/\Cls X.K C/\Meth X.K C m g/\fs.lookup m=none/\
    ∀s1,Inv X pins σ H1 s1->wpAny (model X.prog X.w) X.A (callWith pos (.ref g) [.ref a] (backTo pos (starEach args X.env)) (backToKw pos (keywordEach [] X.env))) Q X.xe s1)
  (ht:eval (.Call (.Attribute e m apos) args [] pos) X.env=(do
   let ov<-eval e X.env
   standAt apos.atName
   let (f,first)<-holding [ov] (getMethod ov m pl)
   callWith pos f first (backTo pos (starEach args X.env)) (backToKw pos (keywordEach [] X.env)))):
  wpAny (model X.prog X.w) X.A (eval (.Call (.Attribute e m apos) args [] pos) X.env) Q X.xe s:=by
 refine PySem.W.methodCall_KW (pl:=pl) (thn (he pins s σ H _ I h) fun u s1 qz=>?_) ht
 obtain⟨x,H1,I1,rx,a,C,dx,fs,g,ex,ea,c,k,l,q⟩:=qz
 subst ex
 obtain rfl:u=Value.ref a:=rx
 exact j1 I1 ea c k l (q s1 I1)
end
section
variable {X:Cx}{pins:List (Addr×Obj)}{σ:St}{H:Hp}{s:Shared}{A:Around}{E:Value->Shared->Prop}{Q:Value->Shared->Prop}{c:Value}{b:Bool}
inductive TyOf (K:PySem.W.Frag)(H:Hp):V->Value->Prop where
 |non:TyOf K H .non (.type "NoneType")
 |bl (x:Bool):TyOf K H (.bl x) (.type "bool")
 |int (i:Int):TyOf K H (.int i) (.type "int")
 |str (x:Str):TyOf K H (.str x) (.type "str")
 |flt (x:UInt64):TyOf K H (.flt x) (.type "float")
 |lst {a:Addr}{xs:List V} (e:H a=some (.lst xs)):TyOf K H (.ref a) (.type "list")
 |frz {a:Addr}{o:Obj}{xs:List V} (e:H a=some (.frz o (.lst xs))):TyOf K H (.ref a) (.type "list")
 |tup {a:Addr}{xs:List V} (e:H a=some (.tup xs)):TyOf K H (.ref a) (.type "tuple")
 |dK {a:Addr}{kvs:List (Key×V)} (e:H a=some (.dK kvs)):TyOf K H (.ref a) (.type "dict")
 |dT {a:Addr}{kvs:List (List Key×V)} (e:H a=some (.dT kvs)):TyOf K H (.ref a) (.type "dict")
 |ins {a C dx:Addr}{fs:List (Str×V)} (e:H a=some (.ins C dx fs)) (cl:Cls K C) (ha:findIn K (.ref C) "__class__"=some (some (.builtin "object.__class__")))
  (hn:PySem.W.specialIn K (.builtin "object.__class__") "__get__"=some (some (.builtin "getset_descriptor.__get__"))) (htk:PySem.W.takesIn K (.builtin "object.__class__")=some true)
  (hm:PySem.W.mroIn K C (.type "object")=some true):TyOf K H (.ref a) (.ref C)
theorem uE {x:V}{u t:Value}(I:Inv X pins σ H s)(rx:RelV x u)(ty:TyOf X.K H x t)(e:kitOne X.K t c=some b)(h:∀tk,Q (.bool b) {s with toks:=tk}):
  wpAny (model X.prog X.w) A (call (.builtin "isinstance") [u,c]) Q E s:=by
 cases ty with
 |non=>cases (show u=Value.none from rx);exact kia_one PySem.W.kitx_none I.kIn True.intro e (fun z=>nomatch z) h
 |bl y=>cases (show u=Value.bool y from rx);exact kia_one PySem.W.kitx_bool I.kIn True.intro e (fun z=>nomatch z) h
 |int i=>obtain⟨t,q⟩:=(show∃t,u=Value.int i t from rx);cases q;exact kia_one PySem.W.kitx_int I.kIn True.intro e (fun z=>nomatch z) h
 |str y=>obtain⟨t,q⟩:=(show∃t,u=Value.str y t from rx);cases q;exact kia_one PySem.W.kitx_str I.kIn True.intro e (fun z=>nomatch z) h
 |flt y=>obtain⟨t,q⟩:=(show∃t,u=Value.float y t from rx);cases q;exact kia_one PySem.W.kitx_float I.kIn True.intro e (fun z=>nomatch z) h
 | @lst a xs ea=>
   cases (show u=Value.ref a from rx)
   obtain⟨_,_,n,_,h1⟩:=(show ObjOk X.prog X.w H s.heap a (.lst xs) from I.hok a _ ea)
   exact kia_one PySem.W.kitx_list I.kIn ⟨_,h1,rfl⟩ e (fun z=>nomatch z) h
 | @frz a ob xs ea=>
   cases (show u=Value.ref a from rx)
   obtain⟨_,_,_,n,_,h1⟩:=(show ObjOk X.prog X.w H s.heap a (.frz ob (.lst xs)) from I.hok a _ ea)
   exact kia_one PySem.W.kitx_list I.kIn ⟨_,h1,rfl⟩ e (fun z=>nomatch z) h
 | @tup a xs ea=>
   cases (show u=Value.ref a from rx)
   obtain⟨_,_,_,p⟩:=(show ObjOk X.prog X.w H s.heap a (.tup xs) from I.hok a _ ea)
   obtain⟨o,h1,h2,_⟩:=p.1
   exact kia_one PySem.W.kitx_tuple I.kIn ⟨o,h1,h2⟩ e (fun z=>nomatch z) h
 | @dK a kvs ea=>
   cases (show u=Value.ref a from rx)
   obtain⟨_,_,vs,_,p⟩:=(show ObjOk X.prog X.w H s.heap a (.dK kvs) from I.hok a _ ea)
   obtain⟨o,es,ep,h1,h2,_⟩:=p
   exact kia_one PySem.W.kitx_dict I.kIn ⟨o,h1,h2.1⟩ e (fun z=>nomatch z) h
 | @dT a kvs ea=>
   cases (show u=Value.ref a from rx)
   obtain⟨_,_,xs,_,o,es,ep,h1,h2,_⟩:=(show ObjOk X.prog X.w H s.heap a (.dT kvs) from I.hok a _ ea)
   exact kia_one PySem.W.kitx_dict I.kIn ⟨o,h1,h2.1⟩ e (fun z=>nomatch z) h
 | @ins a C dx fs ea cl ha hn htk hm=>
   cases (show u=Value.ref a from rx)
   obtain⟨mA,O,_⟩:=lM I.hok ea
   obtain⟨od,J,_⟩:=O.look
   exact kia_one (PySem.W.kitx_own (cl.get _) cl.hd ha hn htk hm) I.kIn J e (fun z=>nomatch z) h
end
end
section
structure Room (k:Nat)(A:Around):Prop where
 hd:A.handled=none
 dp:A.depth+3 * k+5<recursionLimit
 un:A.units+16 * k+200<cLine
theorem Room.mono {j k:Nat}{A:Around}(r:Room k A)(h:j<=k):Room j A:=⟨r.hd,by have:=r.dp;omega,by have:=r.un;omega⟩
theorem Room.deeper {k:Nat}{A:Around}(r:Room (k+1) A)(env:Env):Room k (A.deeper env):=
 ⟨r.hd,by have:=r.dp;show A.depth+1+3 * k+5<_;omega,by have:=r.un;show A.units+3+16 * k+200<_;omega⟩
theorem rT {A:Around}{C:Addr}{us:List Value}{kw:List (Str×Value)}:(A.under (.builtin "type.__call__" ⟨.ref C::us,kw⟩)).depth=A.depth+1:=by
 first|rfl|simp [Around.under,Code.weight,Code.isCreation,Code.isGuard,Code.isCaller,Code.frames,Code.isFrame,guardIds]
theorem rS {A:Around}{C:Addr}{us:List Value}{kw:List (Str×Value)}:(A.under (.builtin "type.__call__" ⟨.ref C::us,kw⟩)).units=A.units+1:=by
 first|rfl|simp [Around.under,Code.cUnits,Code.frames,Code.isFrame]
theorem Room.make {k:Nat}{A:Around}(r:Room (k+1) A)(C:Addr)(us:List Value)(kw:List (Str×Value)):Room k (A.under (.builtin "type.__call__" ⟨.ref C::us,kw⟩)):=
 ⟨r.hd,by have:=r.dp;rw[rT];omega,by have:=r.un;rw[rS];omega⟩
theorem Room.depth {k:Nat}{A:Around}(r:Room k A):A.depth<recursionLimit:=by have:=r.dp;omega
theorem Room.units {k:Nat}{A:Around}(r:Room k A):A.units+64<cLine:=by have:=r.un;omega
def tNil:TA:=fun _ H Q=>Q [] H
def tCons (ta:TE)(tr:TA):TA:=fun σ H Q=>ta σ H fun x H1=>tr σ H1 fun xs H2=>Q (x::xs) H2
section
variable {X:Cx}{e:Expr}{es:List Expr}{te:TE}{t:TA}{pos:Pos}
theorem pa_nil:PA X [] tNil:=fun _ _ _ _ H Q I h=>Calls.spliced_nil ⟨[],H,I,.nil,h⟩
theorem aA (ha:PE X e te)(hr:PA X es t)(hs:starEach (e::es) X.env=(false,eval e X.env)::starEach es X.env:=by rfl):PA X (e::es) (tCons te t):=by
 intro pos pins s σ H Q I h
 rw[hs]
 show wpAny _ _ (spliced ((false,eval e X.env)::backTo pos (starEach es X.env))) _ _ s
 refine Calls.spliced_cons (thn (ha pins s σ H _ I h) fun u s1 qz=>?_)
 obtain⟨x,H1,I1,r1,q1⟩:=qz
 exact thn (hr pos pins s1 σ H1 _ I1 q1) fun us s2 ⟨xs,H2,I2,r2,q2⟩=>⟨x::xs,H2,I2,.cons r1 r2,q2⟩
def tTup (t:TA):TE:=fun σ H Q=>t σ H fun xs H1=>xs.length<=sizeLine/\ ∀p,H1 p=none->Q (.ref p) (upd H1 p (.tup xs))
def tLst (t:TA):TE:=fun σ H Q=>t σ H fun xs H1=>xs.length<=sizeLine/\ ∀p,H1 p=none->Q (.ref p) (upd H1 p (.lst xs))
theorem mq {x1}(h:PA X es t):PE X (.Tuple es x1 pos) (tTup t):=by
 intro pins s σ H Q I hq
 refine wpAny_Tuple_spliced (thn (h pos pins s σ H _ I hq) fun us s1 ⟨xs,H1,I1,r,z,q⟩=>⟨by rw[<-r.length];exact z,?_⟩)
 have hf:H1 s1.heap.objs.size=none:=I1.hok.fresh (Nat.le_refl _)
 refine⟨.ref s1.heap.objs.size,upd H1 s1.heap.objs.size (.tup xs),I1.laid (t':=s1.toks) (fun b u e=>Heap.get?_push_of_some _ e) (Nat.le_refl _) ?_,rfl,q _ hf⟩
 exact⟨z,us,r,IsTupD.new _ _⟩
theorem zP (h:PA X es t):PE X (.List es pos) (tLst t):=by
 intro pins s σ H Q I hq
 refine wpAny_List_spliced (thn (h pos pins s σ H _ I hq) fun us s1 ⟨xs,H1,I1,r,z,q⟩=>⟨by rw[<-r.length];exact z,?_⟩)
 have hf:H1 s1.heap.objs.size=none:=I1.hok.fresh (Nat.le_refl _)
 refine⟨.ref s1.heap.objs.size,upd H1 s1.heap.objs.size (.lst xs),I1.laid (t':=s1.toks) (fun b u e=>Heap.get?_push_of_some _ e) (Nat.le_refl _) ?_,rfl,q _ hf⟩
 exact⟨z,us,0,r,Heap.get?_push_size _ rfl⟩
end
noncomputable abbrev Sp:=List V->Hp->VK->XK->Prop
noncomputable abbrev CXT:=List Env->Hp->Shared->XK->Value->Shared->Prop
structure Env0 (P:Program)(w:World)(K:PySem.W.Frag)(mg:Str->Option Value)(base:Heap)(A:Around)(outer:List Env)(s:Shared)(H:Hp):Prop where
 frames:A.frames=some outer
 mod:Mod K mg base
 bs: ∀b o,base.get? b=some o->s.heap.get? b=some o/\H b=none
 bsz:base.objs.size<=s.heap.objs.size
 funs:s.heap.FunFrames base outer
 frf: ∀b∈frs outer,H b=none
 hok:HOk P w H s.heap
 bare:AllBare s.gens
def CE (outer:List Env)(P:Program)(w:World)(H:Hp)(s:Shared)(Q:VK)(u:Value)(s':Shared):Prop:=
 ∃v H',s'.os=s.os/\AllBare s'.gens/\Un (frs outer) [] H H' s.heap s'.heap/\HOk P w H' s'.heap/\RelV v u/\Q v H'
def CR (CX:CXT)(outer:List Env)(P:Program)(w:World)(H:Hp)(s:Shared)(Q:VK)(E:XK)(r:Result)(s':Shared):Prop:=
 match r with
 |.ok (.ret u)=>CE outer P w H s Q u s'
 |.ok _=>False
 |.error e=>CX outer H s E e s'
structure FnOk (P:Program)(w:World)(K:PySem.W.Frag)(mg:Str->Option Value)(base:Heap)(CX:CXT)(k:Nat)(f:Addr)(fd:FuncData)(ps:List Str)(sp:Sp):Prop where
 len: ∀vs H Q E,sp vs H Q E->vs.length=ps.length
 run: ∀ (A:Around) (outer:List Env) (s:Shared) (H:Hp) (args:Args) (us:List Value) (vs:List V) (Q:VK) (E:XK),Room k A->Env0 P w K mg base A outer s H->BindsTo s fd args (ps.zip us)->Vals vs us->sp vs H Q E->
  codeAny (model P w) A (.call (.ref f) args) (CR CX outer P w H s Q E) s
theorem FnOk.mono {P:Program}{w:World}{K:PySem.W.Frag}{mg:Str->Option Value}{base:Heap}{CX:CXT}{j k:Nat}{f:Addr}{fd:FuncData}{ps:List Str}{sp:Sp}(F:FnOk P w K mg base CX j f fd ps sp)(h:j<=k):
 FnOk P w K mg base CX k f fd ps sp:=⟨F.len,fun A outer s H args us vs Q E hr=>F.run A outer s H args us vs Q E (hr.mono h)⟩
theorem FnOk.imp {P:Program}{w:World}{K:PySem.W.Frag}{mg:Str->Option Value}{base:Heap}{CX:CXT}{k:Nat}{f:Addr}{fd:FuncData}{ps:List Str}{sp sp':Sp}(F:FnOk P w K mg base CX k f fd ps sp)
  (h:∀vs H Q E,sp' vs H Q E->sp vs H Q E):FnOk P w K mg base CX k f fd ps sp':=
 ⟨fun vs H Q E q=>F.len vs H Q E (h _ _ _ _ q),fun A outer s H args us vs Q E hr he hb hv hs=>F.run A outer s H args us vs Q E hr he hb hv (h _ _ _ _ hs)⟩
theorem Env0.make {P:Program}{w:World}{K:PySem.W.Frag}{mg:Str->Option Value}{base:Heap}{A:Around}{outer:List Env}{s:Shared}{H:Hp}(e:Env0 P w K mg base A outer s H)(C:Addr)(us:List Value)(kw:List (Str×Value)):
 Env0 P w K mg base (A.under (.builtin "type.__call__" ⟨.ref C::us,kw⟩)) outer s H:=⟨by first|exact e.frames|(simpa [Around.under,Code.envs,Code.isFrame,pushEnvs] using e.frames),e.mod,e.bs,e.bsz,e.funs,e.frf,e.hok,e.bare⟩
section
variable {X:Cx}{pins:List (Addr×Obj)}{σ:St}{H:Hp}{s s':Shared}
theorem Inv.env0 (I:Inv X pins σ H s):Env0 X.prog X.w X.K X.mg X.base X.A X.stack s H:=
 ⟨I.ok.frames,I.ok.mod,I.bs,Nat.le_trans I.ok.bsz I.sz,I.stack,I.stkFree,I.hok,I.bare⟩
theorem Inv.after {Q:VK}{u:Value}(I:Inv X pins σ H s)(h:CE X.stack X.prog X.w H s Q u s'):EP X pins σ Q u s':=by
 obtain⟨v,H',os,bare,un,hok,r,q⟩:=h
 obtain⟨hh,g,d,t,os'⟩:=s'
 obtain rfl:os'=s.os:=os
 exact⟨v,H',I.call (h':=hh) (g':=g) (d':=d) (t':=t) (ch:=[]) un hok bare (fun b z=>absurd z (by simp)),r,q⟩
end
def tCall (sp:Sp)(dvs:List V)(E:XK)(t:TA):TE:=fun σ H Q=>t σ H fun vs H1=>sp (vs++dvs) H1 Q E
def tMeth (C:Addr)(m:Str)(sp:Sp)(dvs:List V)(E:XK)(ta:TE)(t:TA):TE:=fun σ H Q=>ta σ H fun x H1=> ∃a dx fs,x=.ref a/\H1 a=some (.ins C dx fs)/\fs.lookup m=none/\
 t σ H1 fun vs H2=>sp (x::(vs++dvs)) H2 Q E
def tMake (C:Addr)(sp:Sp)(dvs:List V)(E:XK)(t:TA):TE:=fun σ H Q=>t σ H fun vs H1=> ∀x dx,H1 x=none->H1 dx=none->dx≠x->
 sp (.ref x::(vs++dvs)) (upd (upd H1 dx (.own x)) x (.ins C dx [])) (fun v H2=>v=.non/\Q (.ref x) H2) E
noncomputable def Binds (K:PySem.W.Frag)(fd:FuncData)(ps:List Str)(ds:List Value):Prop:=
 ∀ (s:Shared) (us:List Value),K.In s.heap->(us++ds).length=ps.length->BindsTo s fd ⟨us,[]⟩ (ps.zip (us++ds))
theorem Binds.all {K:PySem.W.Frag}{fd:FuncData}{ps:List Str}(h:∀us:List Value,us.length=ps.length->bindArgs fd ⟨us,[]⟩=pure (ps.zip us)):Binds K fd ps []:=fun s us _ hl=>by
 rw[List.append_nil] at hl ⊢
 exact .of_eq (h us hl)
def iL (CX:CXT)(X:Cx)(E:XK):Prop:= ∀ (pins:List (Addr×Obj)) (σ:St) (H:Hp) (s:Shared) (e:Value) (s':Shared),Inv X pins σ H s->CX X.stack H s E e s'->X.xe e s'
section
variable {X:Cx}{CX:CXT}{k:Nat}{f C:Addr}{fd:FuncData}{ps:List Str}{sp:Sp}{dvs:List V}{ds:List Value}{E:XK}{x m:Str}{p pos apos:Pos}{e o:Expr}{es:List Expr}{ta:TE}{t:TA}
theorem rB {pins:List (Addr×Obj)}{σ:St}{H:Hp}{s:Shared}{Q:VK}{us:List Value}{vs:List V}(F:FnOk X.prog X.w X.K X.mg X.base CX k f fd ps sp)(hr:Room k X.A)(hb:Binds X.K fd ps ds)(hd:Vals dvs ds)(hx:iL CX X E)
  (I:Inv X pins σ H s)(r:Vals vs us)(h:sp (vs++dvs) H Q E):wpAny (model X.prog X.w) X.A (call (.ref f) us) (EP X pins σ Q) X.xe s:=by
 have r2:Vals (vs++dvs) (us++ds):=r.append hd
 have hl:(us++ds).length=ps.length:=by rw[<-r2.length];exact F.len _ _ _ _ h
 refine wpAny_call (codeAny_mono (F.run X.A X.stack s H ⟨us,[]⟩ (us++ds) (vs++dvs) Q E hr I.env0 (hb s us I.kIn hl) r2 h) fun r s' hq=>?_)
 cases r with
 |error e=>exact hx pins σ H s e s' I hq
 |ok fl=>
  cases fl with
  |ret u=>exact I.after hq
  |next=>exact False.elim hq
  |brk=>exact False.elim hq
  |cont=>exact False.elim hq
theorem fu (F:FnOk X.prog X.w X.K X.mg X.base CX k f fd ps sp)(hr:Room k X.A)(hg:Gl X x)(hm:X.mg x=some (.ref f))(hk:keepIn X.K (.ref f)=true)(hb:Binds X.K fd ps ds)(hd:Vals dvs ds)(hx:iL CX X E)
  (ha:PA X (e::es) t)(hdb:(x==("__debug__":Str))=false:=by decide)(he:starEach (e::es) X.env=(false,eval e X.env)::starEach es X.env:=by rfl)(hpl:(backTo pos (starEach es X.env)).any (·.1)=false:=by rfl):
  PE X (.Call (.Name x p) (e::es) [] pos) (tCall sp dvs E t):=by
 intro pins s σ H Q I h
 refine wpAny_Call_Name_kw (kr I hg hm ?_ hdb)
 refine PySem.W.callWith_K (h₀:=X.base) I.ok.mod.kin hk (thn (ha pos pins s σ H _ I h) fun us s1 ⟨vs,H1,I1,r,q⟩=>⟨I1.kIn,?_⟩) he hpl
 exact rB F hr hb hd hx I1 r q
theorem ip {pl:Sem Bool}(he:PE X o ta)(c:Cls X.K C)(hm:Meth X.K C m f)(F:FnOk X.prog X.w X.K X.mg X.base CX k f fd ps sp)(hr:Room k X.A)(hb:Binds X.K fd ps ds)(hd:Vals dvs ds)(hx:iL CX X E)(ha:PA X (e::es) t)
  (hst:starEach (e::es) X.env=(false,eval e X.env)::starEach es X.env:=by rfl)(hpl:(backTo pos (starEach es X.env)).any (·.1)=false:=by rfl)
  (ht:eval (.Call (.Attribute o m apos) (e::es) [] pos) X.env=(do
   let ov<-eval o X.env
   standAt apos.atName
   let (f,first)<-holding [ov] (getMethod ov m pl)
   callWith pos f first (backTo pos (starEach (e::es) X.env)) (backToKw pos (keywordEach [] X.env))):=by rfl):
  PE X (.Call (.Attribute o m apos) (e::es) [] pos) (tMeth C m sp dvs E ta t):=by
 intro pins s σ H Q I h
 refine PySem.W.methodCall_KW (pl:=pl) (thn (he pins s σ H _ I h) fun u s1 qz=>?_) ht
 obtain⟨x,H1,I1,rx,a,dx,fs,ex,ea,l,q⟩:=qz
 subst ex
 obtain rfl:u=Value.ref a:=rx
 refine j1 I1 ea c hm l ?_
 refine PySem.W.callWith_K (first:=[.ref a]) (h₀:=X.base) I.ok.mod.kin hm.kp (thn (ha pos pins s1 σ H1 _ I1 q) fun us s2 ⟨vs,H2,I2,r,q2⟩=>⟨I2.kIn,?_⟩) hst hpl
 exact rB (us:=.ref a::us) (vs:=.ref a::vs) F hr hb hd hx I2 (.cons rfl r) q2
theorem gp {pl:Sem Bool}(he:PE X o ta)(c:Cls X.K C)(hm:Meth X.K C m f)(F:FnOk X.prog X.w X.K X.mg X.base CX k f fd ps sp)(hr:Room k X.A)(hb:Binds X.K fd ps ds)(hd:Vals dvs ds)(hx:iL CX X E)
  (ht:eval (.Call (.Attribute o m apos) [] [] pos) X.env=(do
   let ov<-eval o X.env
   standAt apos.atName
   let (f,first)<-holding [ov] (getMethod ov m pl)
   callWith pos f first (backTo pos (starEach [] X.env)) (backToKw pos (keywordEach [] X.env))):=by rfl):
  PE X (.Call (.Attribute o m apos) [] [] pos) (tMeth C m sp dvs E ta tNil):=by
 intro pins s σ H Q I h
 refine PySem.W.methodCall_KW (pl:=pl) (thn (he pins s σ H _ I h) fun u s1 qz=>?_) ht
 obtain⟨x,H1,I1,rx,a,dx,fs,ex,ea,l,q⟩:=qz
 subst ex
 obtain rfl:u=Value.ref a:=rx
 refine j1 I1 ea c hm l ?_
 exact PySem.W.callWith_K0 (first:=[.ref a]) I1.kIn hm.kp (rB (us:=[.ref a]) (vs:=[.ref a]) F hr hb hd hx I1 (.cons rfl .nil) q)
structure Mk (K:PySem.W.Frag)(C f:Addr):Prop where
 makes:PySem.W.makesIn K C=true
 init:findIn K (.ref C) "__init__"=some (some (.ref f))
 fn:isFn K (.ref f)=true
 kp:keepIn K (.ref C)=true
theorem p8 {pins:List (Addr×Obj)}{σ:St}{H:Hp}{s:Shared}{Q:VK}{us:List Value}{vs:List V}(M:Mk X.K C f)(F:FnOk X.prog X.w X.K X.mg X.base CX k f fd ps sp)(hr:Room (k+1) X.A)(hb:Binds X.K fd ps ds)(hd:Vals dvs ds)
  (hx:iL CX X E)(I:Inv X pins σ H s)(r:Vals vs us)
  (h:∀x dx,H x=none->H dx=none->dx≠x->sp (.ref x::(vs++dvs)) (upd (upd H dx (.own x)) x (.ins C dx [])) (fun v H2=>v=.non/\Q (.ref x) H2) E):
  wpAny (model X.prog X.w) X.A (call (.ref C) us) (EP X pins σ Q) X.xe s:=by
 have hq:=h (s.heap.objs.size+1) s.heap.objs.size (I.hok.fresh (Nat.le_succ _)) (I.hok.fresh (Nat.le_refl _)) (Nat.ne_of_lt (Nat.lt_succ_self _))
 have I2:=Inv.made (C:=C) I
 have r2:Vals (V.ref (s.heap.objs.size+1)::(vs++dvs)) (Value.ref (s.heap.objs.size+1)::(us++ds)):=.cons rfl (r.append hd)
 have hl:(Value.ref (s.heap.objs.size+1)::us++ds).length=ps.length:=by
  have e:=r2.length
  rw[F.len _ _ _ _ hq] at e
  exact e.symm
 refine wpAny_call (wr (f:=f) I.kIn M.makes M.init (beq_iff_eq.mp M.fn) (codeAny_mono (F.run _ X.stack _ _ ⟨Value.ref (s.heap.objs.size+1)::us,[]⟩ (Value.ref (s.heap.objs.size+1)::(us++ds)) _ _ E (hr.make C us [])
  (I2.env0.make C us []) (hb _ (Value.ref (s.heap.objs.size+1)::us) I2.kIn hl) r2 hq) fun r s' hq'=>?_))
 cases r with
 |error e=>exact hx pins σ _ _ e s' I2 hq'
 |ok fl=>
  cases fl with
  |ret u=>
   obtain⟨v,H',I3,rv,ev,q3⟩:=I2.after hq'
   subst ev
   exact⟨rv,⟨V.ref (s.heap.objs.size+1),H',I3,rfl,q3⟩⟩
  |next=>exact False.elim hq'
  |brk=>exact False.elim hq'
  |cont=>exact False.elim hq'
theorem xR (M:Mk X.K C f)(F:FnOk X.prog X.w X.K X.mg X.base CX k f fd ps sp)(hr:Room (k+1) X.A)(hg:Gl X x)(hm:X.mg x=some (.ref C))(hb:Binds X.K fd ps ds)(hd:Vals dvs ds)(hx:iL CX X E)
  (ha:PA X (e::es) t)(hdb:(x==("__debug__":Str))=false:=by decide)(he:starEach (e::es) X.env=(false,eval e X.env)::starEach es X.env:=by rfl)(hpl:(backTo pos (starEach es X.env)).any (·.1)=false:=by rfl):
  PE X (.Call (.Name x p) (e::es) [] pos) (tMake C sp dvs E t):=by
 intro pins s σ H Q I h
 refine wpAny_Call_Name_kw (kr I hg hm ?_ hdb)
 refine PySem.W.callWith_K (h₀:=X.base) I.ok.mod.kin M.kp (thn (ha pos pins s σ H _ I h) fun us s1 ⟨vs,H1,I1,r,q⟩=>⟨I1.kIn,?_⟩) he hpl
 exact p8 M F hr hb hd hx I1 r q
theorem vO (M:Mk X.K C f)(F:FnOk X.prog X.w X.K X.mg X.base CX k f fd ps sp)(hr:Room (k+1) X.A)(hg:Gl X x)(hm:X.mg x=some (.ref C))(hb:Binds X.K fd ps ds)(hd:Vals dvs ds)(hx:iL CX X E)
  (hdb:(x==("__debug__":Str))=false:=by decide):PE X (.Call (.Name x p) [] [] pos) (tMake C sp dvs E tNil):=by
 intro pins s σ H Q I h
 refine wpAny_Call_Name_kw (kr I hg hm ?_ hdb)
 exact PySem.W.callWith_K0 I.kIn M.kp (p8 (us:=[]) M F hr hb hd hx I .nil h)
end
section
variable {X:Cx}{CX:CXT}{k:Nat}{f C:Addr}{fd:FuncData}{ps ks:List Str}{sp:Sp}{E:XK}{x m:Str}{p pos apos kpos:Pos}{e o:Expr}{es:List Expr}{kws:List Keyword}{te ta:TE}{t tk:TA}{nm:Option Str}
variable {g:List Value->List Value->List Value}{gV:List V->List V->List V}
end
structure FnScope (N P:List Str)(sc:Scope):Prop where
 kind:sc.kind=.function
 co:sc.isCoroutine=false
 gen:sc.isGenerator=false
 nd:N.Nodup
 pre:N.take P.length=P
 par: ∀x∈P,sc.names.lookup x=some .local \/sc.names.lookup x=some .cell
 nofree: ∀y∈sc.names,y.2≠.free
theorem og {kindOf:Str->Option NameKind}{x:Str}: ∀ {binds:List (Str×Value)}{m:Str->Option Value},(∀v,(x,v) ∉ binds)->bindL kindOf binds m x=m x
 |[],_,_=>rfl
 |(n,v)::r,m,h=>by
  unfold bindL
  rw[og fun w hw=>h w (List.mem_cons_of_mem _ hw)]
  split
  ·have:x≠n:=by rintro rfl;exact h v List.mem_cons_self
   simp [this]
  ·rfl
theorem oj {kindOf:Str->Option NameKind}{x:Str}: ∀ {binds:List (Str×Value)}{m:Str->Option Value},(∀v,(x,v) ∉ binds)->bindC kindOf binds m x=m x
 |[],_,_=>rfl
 |(n,v)::r,m,h=>by
  unfold bindC
  rw[oj fun w hw=>h w (List.mem_cons_of_mem _ hw)]
  split
  ·rfl
  ·have:x≠n:=by rintro rfl;exact h v List.mem_cons_self
   simp [this]
theorem oh {kindOf:Str->Option NameKind}{x:Str}{v:Value}: ∀ {P:List Str}{vs:List Value}{i:Nat}{m:Str->Option Value},P.Nodup->P[i]?=some x->vs[i]?=some v->kindOf x=some .local ->
  bindL kindOf (P.zip vs) m x=some v
 |[],_,_,_,_,h,_,_=>by simp at h
 |_::_,[],_,_,_,_,h,_=>by simp at h
 |p::P,w::vs,0,m,nd,h1,h2,hk=>by
  simp at h1 h2;subst h1;subst h2
  show bindL kindOf ((p,w)::P.zip vs) m p=_
  unfold bindL
  rw[og fun v hv=>(List.nodup_cons.mp nd).1 (List.of_mem_zip hv).1,if_pos hk]
  simp
 |p::P,w::vs,i+1,m,nd,h1,h2,hk=>by
  show bindL kindOf ((p,w)::P.zip vs) m x=_
  unfold bindL
  exact oh (i:=i) (List.nodup_cons.mp nd).2 (by simpa using h1) (by simpa using h2) hk
theorem ol {kindOf:Str->Option NameKind}{x:Str}{v:Value}: ∀ {P:List Str}{vs:List Value}{i:Nat}{m:Str->Option Value},P.Nodup->P[i]?=some x->vs[i]?=some v->kindOf x≠some .local ->
  bindC kindOf (P.zip vs) m x=some v
 |[],_,_,_,_,h,_,_=>by simp at h
 |_::_,[],_,_,_,_,h,_=>by simp at h
 |p::P,w::vs,0,m,nd,h1,h2,hk=>by
  simp at h1 h2;subst h1;subst h2
  show bindC kindOf ((p,w)::P.zip vs) m p=_
  unfold bindC
  rw[oj fun v hv=>(List.nodup_cons.mp nd).1 (List.of_mem_zip hv).1,if_neg hk]
  simp
 |p::P,w::vs,i+1,m,nd,h1,h2,hk=>by
  show bindC kindOf ((p,w)::P.zip vs) m x=_
  unfold bindC
  exact ol (i:=i) (List.nodup_cons.mp nd).2 (by simpa using h1) (by simpa using h2) hk
def start (N:List Str)(vs:List V):St:=vs.map some++List.replicate (N.length - vs.length) none
def cxOf (CX:CXT)(P:Program)(w:World)(K:PySem.W.Frag)(mg:Str->Option Value)(base:Heap)(N:List Str)(qual:Str)(scope:Scope)(f:Addr)(cd:Value)(A:Around)(outer:List Env)(s:Shared)(H:Hp)(E:XK):Cx where
 prog:=P
 w:=w
 K:=K
 mg:=mg
 base:=base
 A:=A.deeper (envOfC qual scope s.heap.objs.size f cd)
 N:=N
 s₀:=s
 H₀:=H
 env:=envOfC qual scope s.heap.objs.size f cd
 outer:=outer
 stack:=envOfC qual scope s.heap.objs.size f cd::outer
 ex:=[]
 calm:=true
 fn:=fun _=>true
 pn:=[]
 xe:=fun e s'=>wpAny (model P w) (A.deeper (envOfC qual scope s.heap.objs.size f cd)) (leaving (envOfC qual scope s.heap.objs.size f cd) e) (fun _ s''=>CX outer H s E e s'') (fun e' s''=>CX outer H s E e' s'') s'
theorem qS {sc:Scope}{n:Nat}{x:Str}(h:sc.names.lookup x=some .cell): ∃c,(cellsFrom n sc.names []).lookup x=some c:=by
 have q:=PySem.W.cellsFrom_some sc.names n [] (.inl h)
 exact Option.isSome_iff_exists.mp q
theorem uG {CX:CXT}{P:Program}{w:World}{K:PySem.W.Frag}{mg:Str->Option Value}{base:Heap}{N ps:List Str}{qual:Str}{scope:Scope}{f:Addr}{cd:Value}{A:Around}{outer:List Env}{s s1:Shared}{H:Hp}{E:XK}{us:List Value}{vs:List V}
  (S:FnScope N ps scope)(hd:A.handled=none)(e0:Env0 P w K mg base A outer s H)(hl:vs.length=ps.length)(r:Vals vs us)
  (x:InCallC s s.heap.objs.size (bindL (envOfC qual scope s.heap.objs.size f cd).kindOf (ps.zip us) fun _=>none) (cellsFrom (s.heap.objs.size+1) scope.names []) (bindC (envOfC qual scope s.heap.objs.size f cd).kindOf (ps.zip us) fun _=>none) s1):
  Inv (cxOf CX P w K mg base N qual scope f cd A outer s H E) [] (start N vs) H s1:=by
 have hpl:ps.length<=N.length:=by have:=congrArg List.length S.pre;rw[List.length_take] at this;omega
 obtain⟨h1,tk,rfl,hk⟩:=x.done
 have noA: ∀b:Addr,b ∉ (cxOf CX P w K mg base N qual scope f cd A outer s H E).ex:=fun b z=>absurd (show b∈([]:List Addr) from z) (by simp)
 refine⟨⟨e0.mod,S.kind,rfl,rfl,Nat.le_refl _,fun y z c h1 h2=>?_,fun y hy=>?_,fun y c _ h=>?_,fun _=>hd,Around.frames_deeper e0.frames,.inr ⟨rfl,rfl⟩,fun b z=>absurd z (noA b),e0.bs,e0.bsz,fun b _ _=>noA b,fun b z=>absurd z (noA b),e0.funs,e0.frf⟩,
  rfl,e0.bare,Un.kept hk,⟨_,x.toInCall.ns,fun i y v h1 h2 h3=>?_⟩,fun y c h=>⟨_,x.cell y c h⟩,e0.hok.fresh (Nat.le_refl _),fun y c h=>?_,fun p hp=>absurd (show p∈([]:List (Addr×Obj)) from hp) (by simp),e0.hok.kept hk,?_⟩
 ·exact name_of_addr x.apart (PySem.mem_of_lookup h1) (PySem.mem_of_lookup h2)
 ·have hy:scope.names.lookup y=some .cell\/scope.names.lookup y=some .free:=hy
  rcases hy with hy|hy
  ·exact qS hy
  ·exact absurd rfl (S.nofree _ (PySem.mem_of_lookup hy))
 ·exact Nat.le_of_lt (x.above y c (PySem.mem_of_lookup h))
 ·have hi:i<vs.length:=by
   unfold start at h2
   by_cases hi:i<vs.length
   ·exact hi
   ·rw[List.getElem?_append_right (by simpa using hi)] at h2
    rw[List.getElem?_replicate] at h2
    split at h2<;>cases h2
  have ha:vs[i]?=some v:=by
   unfold start at h2
   rw[List.getElem?_append_left (by simpa using hi),List.getElem?_map] at h2
   cases e:vs[i]? with
   |none=>rw[e] at h2;cases h2
   |some a=>rw[e] at h2;cases h2;rfl
  obtain⟨u,hu,rv⟩:=r.get ha
  have hp:ps[i]?=some y:=by
   rw[<-S.pre,List.getElem?_take_of_lt (by omega)];exact h1
  have ndP:ps.Nodup:=by rw[<-S.pre];exact S.nd.sublist (List.take_sublist _ _)
  refine⟨u,rv,?_⟩
  rcases S.par y (List.mem_of_getElem? hp) with k|k
  ·exact .inl ⟨k,oh ndP hp hu k⟩
  ·obtain⟨c,e⟩:=qS (n:=s.heap.objs.size+1) k
   refine .inr ⟨.inl k,c,e,?_⟩
   have q:=x.cell y c e
   rw[ol ndP hp hu (by show scope.names.lookup y≠_;rw[k];decide)] at q
   exact q
 ·exact e0.hok.fresh (Nat.le_of_lt (x.above y c (PySem.mem_of_lookup h)))
 ·unfold start
  show _=N.length
  rw[List.length_append,List.length_map,List.length_replicate]
  omega
theorem y6 {CX:CXT}{P:Program}{w:World}{K:PySem.W.Frag}{mg:Str->Option Value}{base:Heap}{k:Nat}{f:Addr}{name qual:Str}{params:Arguments}{body:List Stmt}{scope:Scope}{dV kV doc pm cdv ct oc:Value}{an od:Option Addr}
  {osl:Array (Option Value)}{N ps:List Str}{sp:Sp}(lk:K.lookup f=some ⟨oc,od,.func (fnOf name qual params body scope dV kV doc pm an cdv ct),osl⟩)(hcd:PySem.W.codeIn K cdv qual=true)(S:FnScope N ps scope)
  (len: ∀vs H Q E,sp vs H Q E->vs.length=ps.length)
  (hbody: ∀ (A:Around) (outer:List Env) (s:Shared) (H:Hp) (vs:List V) (Q:VK) (E:XK),Room k (A.deeper (envOfC qual scope s.heap.objs.size f cdv))->sp vs H Q E->
   ∃t,PSs (cxOf CX P w K mg base N qual scope f cdv A outer s H E) body t/\t {nx:=fun _ H'=>Q .non H',rt:=Q} (start N vs) H):
  FnOk P w K mg base CX (k+1) f (fnOf name qual params body scope dV kV doc pm an cdv ct) ps sp:=by
 refine⟨len,fun A outer s H args us vs Q E hr e0 hb r hsp=>?_⟩
 have hl:=len _ _ _ _ hsp
 have KX:K.In s.heap:=e0.mod.kin.keeps fun b o e=>(e0.bs b o e).1
 have lim:s.heap.NoLimit:=e0.mod.nolimit.keeps fun b o e=>(e0.bs b o e).1
 have hkind: ∀y∈ps.zip us,scope.names.lookup y.1=some .local \/(scope.names.lookup y.1=some .cell/\((cellsFrom (s.heap.objs.size+1) scope.names []).lookup y.1).isSome=true):=fun⟨n,v⟩ hy=>by
  rcases S.par n (List.of_mem_zip hy).1 with q|q
  ·exact .inl q
  ·exact .inr ⟨q,PySem.W.cellsFrom_some _ _ _ (.inl q)⟩
 refine codeAny_call_function hr.depth (KX _ _ lk) rfl S.co S.gen rfl (PySem.W.codeRec_of KX hcd) (hb _ _ _ _ ?_)
 refine wpAny_newFunctionEnv_cells S.kind hkind fun env he s1 x=>?_
 subst he
 refine⟨lim.keeps x.toInCall.keep,codeAny_func ?_⟩
 obtain⟨t,ht,hq⟩:=hbody A outer s H vs Q E (hr.deeper _) hsp
 have I:Inv (cxOf CX P w K mg base N qual scope f cdv A outer s H E) [] (start N vs) H s1:=uG S hr.hd e0 hl r x
 refine wpAny_mono (ht [] s1 (start N vs) H _ I hq) (fun fl s' hs=>?_) fun e s' hs=>hs
 have fin: ∀ {σ':St}{H':Hp}{v:V}{u:Value},Inv (cxOf CX P w K mg base N qual scope f cdv A outer s H E) [] σ' H' s'->RelV v u->Q v H'->CE outer P w H s Q u s':=
  fun{σ' H' v u} J rv q=>⟨v,H',J.os,J.bare,J.base,J.hok,rv,q⟩
 cases fl with
 |ret u=>
  obtain⟨v,σ',H',J,rv,q⟩:=hs
  exact fin J rv q
 |next=>
  obtain⟨σ',H',J,q⟩:=hs
  exact fin (v:=V.non) (u:=Value.none) J rfl q
 |brk=>
  obtain⟨_,_,_,q⟩:=hs
  exact False.elim q
 |cont=>
  obtain⟨_,_,_,q⟩:=hs
  exact False.elim q
end
section
section
variable {X:Cx}{x:Str}{p pos:Pos}{e:Expr}{es:List Expr}{t:TA}{id T:String}{r:List V->Hp->VK->Prop}
def tCB (r:List V->Hp->VK->Prop)(t:TA):TE:=fun σ H Q=>t σ H fun vs H1=>r vs H1 Q
theorem eP (hc:CallR X (.builtin id) r)(hg:Gl X x)(hm:X.mg x=none)(hv:bootBuiltins x=some (.builtin id))(ha:PA X (e::es) t)(hn:x≠ "__name__":=by decide)(hdb:(x==("__debug__":Str))=false:=by decide)
  (he:starEach (e::es) X.env=(false,eval e X.env)::starEach es X.env:=by rfl)(hpl:(backTo pos (starEach es X.env)).any (·.1)=false:=by rfl):PE X (.Call (.Name x p) (e::es) [] pos) (tCB r t):=by
 intro pins s σ H Q I h
 refine wpAny_Call_Name_kw (j0 I hg hm hv ?_ hn hdb)
 exact PyProof.Rows.callWith_builtin1 (thn (ha pos pins s σ H _ I h) fun us s1 ⟨vs,H1,I1,r1,q1⟩=>hc pins s1 σ H1 vs us Q I1 r1 q1) he hpl
theorem kQ (hc:CallR X (.type T) r)(hg:Gl X x)(hm:X.mg x=none)(hv:bootBuiltins x=some (.type T))(ha:PA X (e::es) t)(hn:x≠ "__name__":=by decide)(hdb:(x==("__debug__":Str))=false:=by decide)
  (he:starEach (e::es) X.env=(false,eval e X.env)::starEach es X.env:=by rfl)(hpl:(backTo pos (starEach es X.env)).any (·.1)=false:=by rfl):PE X (.Call (.Name x p) (e::es) [] pos) (tCB r t):=by
 intro pins s σ H Q I h
 refine wpAny_Call_Name_kw (j0 I hg hm hv ?_ hn hdb)
 exact PyProof.Rows.callWith_type1 (thn (ha pos pins s σ H _ I h) fun us s1 ⟨vs,H1,I1,r1,q1⟩=>hc pins s1 σ H1 vs us Q I1 r1 q1) he hpl
end
end
end L2
namespace HT
open PySem PyProof.Rows
section
open PySem.SeqAt
open PySem.AutoSeq1 (wpAny_loadPart')
open PySem.MeetsSeq PySem.MeetsSeq2 PySem.MeetsSeq3
end
section
variable {prog:Program}{w:World}{A:Around}{E:Value->Shared->Prop}{s:Shared}
theorem cat_tup {t b:Addr}{vs ws:List Value}{Q:Value->Shared->Prop}(ht:IsTup s.heap t vs.toArray)(hb:IsTup s.heap b ws.toArray)(hv:vs≠ [])
  (h1:ws=[]->Q (.ref t) s)(h2:ws≠ []->Q (.ref s.heap.objs.size) {s with heap:=s.heap.push {cls:=.type "tuple",data:=.seq (vs++ws).toArray}})
  (hsz:vs.length+ws.length<=sizeLine):wpAny (model prog w) A (binaryOp .Add (.ref t) (.ref b)) Q E s:=by
 obtain⟨⟨cls,dd,data,sl⟩,ho,hc,n,hd⟩:=id ht
 obtain⟨⟨cls2,dd2,data2,sl2⟩,ho2,hc2,n2,hd2⟩:=id hb
 simp only at hc hd hc2 hd2
 subst hc hd hc2 hd2
 have e:vs.toArray++ws.toArray=(vs++ws).toArray:=by simp
 by_cases hw:ws=[]
 ·exact concat_meets ⟨_,ho,rfl⟩ ⟨_,ho2,rfl⟩ noFill_tuple_add seq_tuple_add PySem.F.slot_tuple_add PySem.F.entry_tuple_add (PySem.F.args_tuple_add_2 _ _)
   (tuple_addW1 t b vs.toArray ws.toArray n n2 dd dd2 sl sl2 (by simpa using hv) (by simp [hw])) ⟨ho,ho2,h1 hw⟩
 ·refine concat_meets ⟨_,ho,rfl⟩ ⟨_,ho2,rfl⟩ noFill_tuple_add seq_tuple_add PySem.F.slot_tuple_add PySem.F.entry_tuple_add (PySem.F.args_tuple_add_2 _ _)
   (tuple_addW2 t b vs.toArray ws.toArray n n2 dd dd2 sl sl2 (by simpa using hv) (by simpa using hw) (by rw[List.size_toArray,List.size_toArray];exact hsz)) ⟨ho,ho2,?_⟩
  rw[e]
  exact h2 hw
noncomputable def sIx (n d:Nat):Option Int->Nat
 |none=>d
 |some v=>if v<0 then (v+(n:Int)).toNat else min v.toNat n
theorem zx (n d:Nat)(hd:d<=n)(o:Option Int):sIx n d o<=n:=by
 cases o with
 |none=>exact hd
 |some v=>
  show (if v<0 then (v+(n:Int)).toNat else min v.toNat n)<=n
  by_cases hv:v<0
  ·rw[if_pos hv];omega
  ·rw[if_neg hv];exact Nat.min_le_right _ _
theorem tX (v:Int)(n d:Nat):(if v<0 then max (v+(n:Int)) 0 else min v (n:Int))=((sIx n d (some v):Nat):Int):=by
 show (if v<0 then max (v+(n:Int)) 0 else min v (n:Int))=(((if v<0 then (v+(n:Int)).toNat else min v.toNat n):Nat):Int)
 by_cases hv:v<0
 ·simp only[if_pos hv];omega
 ·simp only[if_neg hv];omega
theorem sr (lo hi:Option Int)(n:Nat):Builtin.Slice.sliceAdjust lo hi 1 (n:Int)=(((sIx n 0 lo:Nat):Int),((sIx n n hi:Nat):Int)):=by
 have h1: ¬((1:Int)<0):=by omega
 unfold Builtin.Slice.sliceAdjust
 simp only[h1,if_false]
 refine Prod.ext ?_ ?_
 ·cases lo with
  |none=>rfl
  |some v=>exact tX v n 0
 ·cases hi with
  |none=>rfl
  |some v=>exact tX v n n
theorem rF (i j:Nat):Builtin.Slice.slicePlaces (i:Int) (j:Int) 1=j - i:=by
 unfold Builtin.Slice.slicePlaces
 have h1:(1:Int)>0:=by omega
 simp only[h1,if_true,Int.ediv_one]
 split<;>omega
theorem lY {v:Value}{o:Option Int}{Q:Option Int->Shared->Prop}(p:IsPart v o)(h:Q o s):wpAny (model prog w) A (Builtin.Slice.slicePartIndex v) Q E s:=by
 cases p with
 |none=>exact slicePart_none h
 |int i t=>exact slicePart_int h
theorem gU {sl:Addr}{vl vu:Value}{lo hi:Option Int}{n:Nat}{Q:Int×Int×Nat->Shared->Prop}(hs:s.heap.IsSliceOf sl vl vu .none)(pl:IsPart vl lo)(pu:IsPart vu hi)
  (h:Q (((sIx n 0 lo:Nat):Int),1,sIx n n hi - sIx n 0 lo) s):wpAny (model prog w) A (Builtin.Slice.sliceApplied (.ref sl) (pure (n:Int))) Q E s:=by
 obtain⟨os,hos,hcs,hds⟩:=id hs
 unfold Builtin.Slice.sliceApplied Builtin.Slice.sliceFields
 refine wpAny_bind (wpAny_bind (wpAny_field hos hds (x:=vl) rfl (wpAny_bind (wpAny_field hos hds (x:=vu) rfl (wpAny_bind (wpAny_field hos hds (x:=.none) rfl (wpAny_pure ?_)))))))
 refine wpAny_bind (slicePart_none ?_)
 show wpAny _ _ (if ((1:Int)==0)=true then _ else _) _ _ s
 rw[if_neg (by decide)]
 refine wpAny_bind (lY pl (wpAny_bind (lY pu (wpAny_bind (wpAny_pure ?_)))))
 show wpAny _ _ (match Builtin.Slice.sliceAdjust lo hi 1 (n:Int) with|(lo,hi)=>pure (lo,(1:Int),Builtin.Slice.slicePlaces lo hi 1)) _ _ s
 rw[sr lo hi n]
 show wpAny _ _ (pure (((sIx n 0 lo:Nat):Int),(1:Int),Builtin.Slice.slicePlaces ((sIx n 0 lo:Nat):Int) ((sIx n n hi:Nat):Int) 1)) _ _ s
 rw[rF]
 exact wpAny_pure h
theorem vL (xs:Array Value)(i k:Nat):((List.range k).filterMap fun (m:Nat)=>xs[((i:Int)+(m:Int) * 1).toNat]?).toArray=((xs.toList.drop i).take k).toArray:=by
 have e:(fun (m:Nat)=>xs[((i:Int)+(m:Int) * 1).toNat]?)=fun m=>xs[i+m]?:=by
  funext m
  have:((i:Int)+(m:Int) * 1).toNat=i+m:=by omega
  rw[this]
 rw[e]
 have:=pick_run xs i k
 rw[List.filterMap_map] at this
 have e2:((fun x=>xs[x]?)∘fun x=>i+x)=fun m=>xs[i+m]?:=rfl
 rw[e2] at this
 rw[this]
theorem getItem_tuple_cut {t sl:Addr}{items:Array Value}{vl vu:Value}{lo hi:Option Int}{Q:Value->Shared->Prop}(ht:IsTup s.heap t items)(hs:s.heap.IsSliceOf sl vl vu .none)(pl:IsPart vl lo)(pu:IsPart vu hi)
  (hw: ¬(sIx items.size 0 lo=0/\sIx items.size items.size hi=items.size))
  (h:Q (.ref s.heap.objs.size) {s with heap:=s.heap.push {cls:=.type "tuple",data:=.seq ((items.toList.drop (sIx items.size 0 lo)).take (sIx items.size items.size hi - sIx items.size 0 lo)).toArray}})
  (hsz:items.size<=sizeLine):wpAny (model prog w) A (getItem (.ref t) (.ref sl)) Q E s:=by
 have htake:sizeOk (.seq ((items.toList.drop (sIx items.size 0 lo)).take (sIx items.size items.size hi - sIx items.size 0 lo)).toArray):=by
  show ((items.toList.drop (sIx items.size 0 lo)).take (sIx items.size items.size hi - sIx items.size 0 lo)).toArray.size<=sizeLine
  rw[List.size_toArray,List.length_take,List.length_drop,Array.length_toList]
  omega
 have hj:sIx items.size items.size hi<=items.size:=zx _ _ (Nat.le_refl _) hi
 obtain⟨os,hos,hcs,hds⟩:=id hs
 have hTs:s.TypeIs (.ref sl) "slice":=⟨os,hos,hcs⟩
 unfold getItem
 try with_reducible refine wpAny_holding ?_
 first|refine wpAny_bind (wpAny_pure ?_)|skip
 refine wpAny_bind (wpAny_sequenceKey ht.typeIs (by decide) ?_)
 refine wpAny_bind (wpAny_callSpecial?_slot (name:=Str.ofString "__getitem__") ht.typeIs PyProof.Rows.slot_tuple_getitem
  (wpAny_call_entry PyProof.Rows.slot_tuple_getitem ht.typeIs entry_tuple_getitem ?_ (args_tuple_getitem _ _)))
 show wpAny _ _ (Builtin.Tuple.tupleItemsOf (.ref t)>>=_) _ _ s
 refine wpAny_bind (tupleItemsOf_ ht ?_)
 refine wpAny_bind (wpAny_typeOf hTs ?_)
 rw[if_pos (by decide)]
 refine wpAny_bind (gU hs pl pu ?_)
 have hno: ¬((((sIx items.size 0 lo:Nat):Int)==0 && (1:Int)==1 && (sIx items.size items.size hi - sIx items.size 0 lo)==items.size)=true):=by
  intro q
  rw[Bool.and_eq_true,Bool.and_eq_true] at q
  have q1:((sIx items.size 0 lo:Nat):Int)=0:=eq_of_beq q.1.1
  have q2:sIx items.size items.size hi - sIx items.size 0 lo=items.size:=eq_of_beq q.2
  exact hw ⟨by omega,by omega⟩
 show wpAny _ _ (if (((sIx items.size 0 lo:Nat):Int)==0 && (1:Int)==1 && (sIx items.size items.size hi - sIx items.size 0 lo)==items.size)=true then _ else _) _ _ s
 rw[if_neg hno,vL]
 first
  |exact wpAny_bind (m:=Builtin.Tuple.tupleExact _) (wpAny_newObj_type (wpAny_pure ⟨_,rfl,wpAny_pure h⟩) htake)
  |exact wpAny_bind (m:=Builtin.Tuple.tupleExact _) (wpAny_newObj_type (wpAny_bind (wpAny_pure (wpAny_pure ⟨_,rfl,wpAny_pure h⟩))) htake)
  |exact wpAny_bind (wpAny_bind (m:=Builtin.Tuple.tupleExact _) (wpAny_newObj_type (wpAny_pure (wpAny_pure ⟨_,rfl,wpAny_pure h⟩)) htake))
  |exact wpAny_bind (wpAny_bind (m:=Builtin.Tuple.tupleExact _) (wpAny_newObj_type (wpAny_pure ⟨_,rfl,wpAny_pure h⟩) htake))
end
end HT
namespace L2
open PySem PySem.Spec PyProof.Rows
noncomputable abbrev TO:=St->Hp->(Option Int->Hp->Prop)->Prop
def PO (X:Cx)(e:Option Expr)(t:TO):Prop:=
 ∀ (pins:List (Addr×Obj)) (s:Shared) (σ:St) (H:Hp) (Q:Option Int->Hp->Prop),Inv X pins σ H s->t σ H Q->
   wpAny (model X.prog X.w) X.A (evalPart e X.env) (fun u s'=> ∃o H',Inv X pins σ H' s'/\IsPart u o/\Q o H') X.xe s
def xw:TO:=fun _ H Q=>Q none H
def tPart (t:TE):TO:=fun σ H Q=>t σ H fun x H1=> ∃i,x=.int i/\Q (some i) H1
section
variable {X:Cx}{e:Expr}{te:TE}{lo hi:Option Expr}{tl th:TO}{pos p2:Pos}
theorem po_none:PO X none xw:=by
 intro pins s σ H Q I h
 rw[evalPart_none]
 exact wpAny_pure ⟨none,H,I,.none,h⟩
theorem oK (h:PE X e te):PO X (some e) (tPart te):=by
 intro pins s σ H Q I hw
 rw[evalPart_some]
 refine thn (h pins s σ H _ I hw) fun u s1 qz=>?_
 obtain⟨x,H1,I1,r1,q1⟩:=qz
 obtain⟨i,rfl,q⟩:=q1
 obtain⟨t,rfl⟩:=r1
 exact⟨some i,H1,I1,.int i t,q⟩
def SlR (X:Cx)(r:V->Option Int->Option Int->Hp->VK->Prop):Prop:=
 ∀ (pins:List (Addr×Obj)) (s:Shared) (σ:St) (H:Hp) (x:V) (v vl vu:Value) (lo hi:Option Int) (sl:Addr) (Q:VK),Inv X pins σ H s->RelV x v->s.heap.IsSliceOf sl vl vu .none->IsPart vl lo->IsPart vu hi->r x lo hi H Q->
   ∃T id,typeLookup (.type T) "__getitem__"=pure (some (.builtin id))/\s.TypeIs v T/\wpAny (model X.prog X.w) X.A (getItem v (.ref sl)) (EP X pins σ Q) X.xe s
theorem SlR.or {r r':V->Option Int->Option Int->Hp->VK->Prop}(h:SlR X r)(h':SlR X r'):SlR X (fun x lo hi H Q=>r x lo hi H Q\/r' x lo hi H Q):=by
 intro pins s σ H x v vl vu lo hi sl Q I rx hs pl pu q
 rcases q with q|q
 ·exact h pins s σ H x v vl vu lo hi sl Q I rx hs pl pu q
 ·exact h' pins s σ H x v vl vu lo hi sl Q I rx hs pl pu q
def tSl (r:V->Option Int->Option Int->Hp->VK->Prop)(te:TE)(tl th:TO):TE:=fun σ H Q=>te σ H fun x H1=>tl σ H1 fun l H2=>th σ H2 fun u H3=>r x l u H3 Q
theorem mr {r:V->Option Int->Option Int->Hp->VK->Prop}(hr:SlR X r)(he:PE X e te)(hl:PO X lo tl)(hu:PO X hi th):PE X (.Subscript e (.Slice lo hi none p2) pos) (tSl r te tl th):=by
 intro pins s σ H Q I h
 refine Subscript_ (thn (he pins s σ H _ I h) fun v s1 qz=>?_)
 obtain⟨x,H1,I1,r1,q1⟩:=qz
 refine wpAny_Slice (thn (hl pins s1 σ H1 _ I1 q1) fun vl s2 ⟨l,H2,I2,pl,q2⟩=>thn (hu pins s2 σ H2 _ I2 q2) fun vu s3 qz=>?_)
 obtain⟨u,H3,I3,pu,q3⟩:=qz
 rw[evalPart_none]
 refine wpAny_pure ?_
 have I4:Inv X pins σ H3 {s3 with heap:=s3.heap.push {cls:=.type "slice",data:=.fields #[vl,vu,.none]}}:=I3.kept (t':=s3.toks) fun b ob q=>Heap.get?_push_of_some _ q
 obtain⟨T,id,hT,ht,hg⟩:=hr pins {s3 with heap:=s3.heap.push {cls:=.type "slice",data:=.fields #[vl,vu,.none]}} σ H3 x v vl vu l u s3.heap.objs.size Q I4 r1 (Heap.IsSliceOf.new ..) pl pu q3
 show wpAny (model X.prog X.w) X.A (subscriptTail e (.Slice lo hi none p2) v (.ref s3.heap.objs.size)) (EP X pins σ Q) X.xe {s3 with heap:=s3.heap.push {cls:=.type "slice",data:=.fields #[vl,vu,.none]}}
 exact tail_any (ops:=[.ref s3.heap.objs.size,v]) ht hT hg (by with_unfolding_all rfl)
def cutV (xs:List V)(lo hi:Option Int):List V:=(xs.drop (HT.sIx xs.length 0 lo)).take (HT.sIx xs.length xs.length hi - HT.sIx xs.length 0 lo)
theorem lC (xs:List V)(lo hi:Option Int):(cutV xs lo hi).length<=xs.length:=by
 unfold cutV
 rw[List.length_take,List.length_drop]
 omega
def rSlT (K:PySem.W.Frag):V->Option Int->Option Int->Hp->VK->Prop:=fun x lo hi H Q=> ∃a xs,x=.ref a/\SqT K H a xs/\
 ¬(HT.sIx xs.length 0 lo=0/\HT.sIx xs.length xs.length hi=xs.length)/\ ∀p,H p=none->Q (.ref p) (upd H p (.tup (cutV xs lo hi)))
theorem sl_tup:SlR X (rSlT X.K):=by
 intro pins s σ H x v vl vu lo hi sl Q I rx hs pl pu h
 obtain⟨a,xs,rfl,hx,hw,q⟩:=h
 cases rx
 obtain⟨its,r,ht,hz⟩:=I.tuple hx
 have hlen:its.toArray.size=xs.length:=by rw[List.size_toArray];exact r.length.symm
 refine⟨"tuple",_,PyProof.Rows.slot_tuple_getitem.lookup,ht.typeIs,?_⟩
 refine HT.getItem_tuple_cut ht hs pl pu (by rw[hlen];exact hw) ?_ (by rw[hlen];exact hz)
 rw[hlen]
 refine⟨.ref s.heap.objs.size,_,I.laid (t':=s.toks) (o:=.tup (cutV xs lo hi)) (fun b ob q=>Heap.get?_push_of_some _ q) (Nat.le_refl _) ?_,rfl,q _ (I.hok.fresh (Nat.le_refl _))⟩
 exact⟨Nat.le_trans (lC xs lo hi) hz,_,(r.drop (HT.sIx xs.length 0 lo)).take (HT.sIx xs.length xs.length hi - HT.sIx xs.length 0 lo),IsTupD.new _ _⟩
def rCatT (K:PySem.W.Frag):R2:=fun x y H Q=> ∃a b xs ys,x=.ref a/\y=.ref b/\SqT K H a xs/\SqT K H b ys/\xs≠ []/\xs.length+ys.length<=sizeLine/\
 (ys=[]->Q (.ref a) H)/\(ys≠ []-> ∀p,H p=none->Q (.ref p) (upd H p (.tup (xs++ys))))
theorem Vals.nil_iff {xs:List V}{us:List Value}(r:Vals xs us):us=[]↔xs=[]:=by
 cases r with
 |nil=>simp
 |cons _ _=>simp
theorem op_catT:OpR X (binaryOp .Add) (rCatT X.K):=by
 intro pins s σ H x y v u Q I rx ry h
 obtain⟨a,b,xs,ys,rfl,rfl,ha,hb,hx,hz,q1,q2⟩:=h
 cases rx
 cases ry
 obtain⟨its,r1,p1,_⟩:=I.tuple ha
 obtain⟨its2,r2,p2,_⟩:=I.tuple hb
 refine HT.cat_tup p1 p2 (fun z=>hx (r1.nil_iff.mp z)) (fun z=>⟨.ref a,H,I,rfl,q1 (r2.nil_iff.mp z)⟩) (fun z=>?_) (by rw[<-r1.length,<-r2.length];exact hz)
 refine⟨.ref s.heap.objs.size,_,I.laid (t':=s.toks) (o:=.tup (xs++ys)) (fun b ob q=>Heap.get?_push_of_some _ q) (Nat.le_refl _) ?_,rfl,q2 (fun w=>z (r2.nil_iff.mpr w)) _ (I.hok.fresh (Nat.le_refl _))⟩
 exact⟨by rw[List.length_append];exact hz,_,r1.append r2,IsTupD.new _ _⟩
end
section
noncomputable def ixN (n:Nat)(i:Int):Option Nat:=if 0<=i then (if i<n then some i.toNat else none) else if -(n:Int)<=i then some (i+n).toNat else none
def atI {α:Type}(xs:List α)(i:Int):Option α:=(ixN xs.length i).bind fun j=>xs[j]?
theorem tj {n:Nat}{i:Int}{j:Nat}(h:ixN n i=some j):seqIndex? i n=some j/\j<n/\ -(n:Int)<=i/\i<n:=by
 unfold ixN at h
 by_cases h0:0<=i
 ·rw[if_pos h0] at h
  by_cases h1:i<n
  ·rw[if_pos h1] at h
   have e:i.toNat=j:=Option.some.inj h
   exact⟨by rw[seqIndex_of h0 h1,e],by omega,by omega,h1⟩
  ·rw[if_neg h1] at h;cases h
 ·rw[if_neg h0] at h
  by_cases h1: -(n:Int)<=i
  ·rw[if_pos h1] at h
   have e:(i+n).toNat=j:=Option.some.inj h
   exact⟨by rw[seqIndex_neg (by omega) h1,e],by omega,h1,by omega⟩
  ·rw[if_neg h1] at h;cases h
theorem pK {α:Type}{xs:List α}{i:Int}{v:α}(h:atI xs i=some v): ∃j,seqIndex? i xs.length=some j/\xs[j]?=some v/\j<xs.length/\ -(xs.length:Int)<=i/\i<xs.length:=by
 unfold atI at h
 cases e:ixN xs.length i with
 |none=>rw[e] at h;cases h
 |some j=>
  rw[e] at h
  obtain⟨h1,h2,h3,h4⟩:=tj e
  exact⟨j,h1,h,h2,h3,h4⟩
theorem kD {α:Type}{xs:List α}{j:Nat}{v:α}(h:xs[j]?=some v):atI xs (j:Int)=some v:=by
 have hj:j<xs.length:=(List.getElem?_eq_some_iff.mp h).1
 have e:ixN xs.length (j:Int)=some j:=by
  unfold ixN
  rw[if_pos (by omega),if_pos (by omega)];simp
 unfold atI;rw[e];exact h
theorem jf {α:Type}(xs:List α)(v:α):atI (xs++[v]) (-1)=some v:=by
 have hl:(xs++[v]).length=xs.length+1:=by simp
 have e:ixN (xs++[v]).length (-1)=some xs.length:=by
  unfold ixN
  rw[hl,if_neg (by decide),if_pos (by omega)]
  congr 1
  omega
 unfold atI
 rw[e]
 show (xs++[v])[xs.length]?=some v
 simp
noncomputable def t6 (b:Expr):Prop:= ∀o i,subscripted b false o i=operate [o,i] (getItem o i)
def IxR (X:Cx)(r:R2):Prop:=
 ∀ (value slice:Expr) (pins:List (Addr×Obj)) (s:Shared) (σ:St) (H:Hp) (x y:V) (v u:Value) (Q:VK),Inv X pins σ H s->RelV x v->RelV y u->r x y H Q->
   subscripted slice false v u=operate [v,u] (getItem v u)->wpAny (model X.prog X.w) X.A (subscriptTail value slice v u) (EP X pins σ Q) X.xe s
def MtR (X:Cx)(id:String)(r:V->List V->Hp->VK->Prop):Prop:=
 ∀ (pins:List (Addr×Obj)) (s:Shared) (σ:St) (H:Hp) (x:V) (xs:List V) (v:Value) (us:List Value) (Q:VK),Inv X pins σ H s->RelV x v->Vals xs us->r x xs H Q->
   wpAny (model X.prog X.w) X.A (call (.builtin id) (v::us)) (EP X pins σ Q) X.xe s
section
variable {X:Cx}{a b:Expr}{ta tb:TE}{pos:Pos}
theorem IxR.or {r r':R2}(h:IxR X r)(h':IxR X r'):IxR X (fun x y H Q=>r x y H Q\/r' x y H Q):=by
 intro value slice pins s σ H x y v u Q I rx ry q hs
 rcases q with q|q
 ·exact h value slice pins s σ H x y v u Q I rx ry q hs
 ·exact h' value slice pins s σ H x y v u Q I rx ry q hs
theorem sO {r:R2}(hr:IxR X r)(ha:PE X a ta)(hb:PE X b tb)(hs:t6 b):PE X (.Subscript a b pos) (tOp r ta tb):=by
 intro pins s σ H Q I h
 exact Subscript_ (binT ha hb I h fun v u s2 x y H2 I2 rx ry q=>hr a b pins s2 σ H2 x y v u Q I2 rx ry q (hs _ _))
def rIxL (K:PySem.W.Frag):R2:=fun x y H Q=> ∃p xs i v,x=.ref p/\y=.int i/\SqL K H p xs/\atI xs i=some v/\Q v H
def rIxT (K:PySem.W.Frag):R2:=fun x y H Q=> ∃p xs i v,x=.ref p/\y=.int i/\SqT K H p xs/\atI xs i=some v/\Q v H
def rIxS:R2:=fun x y H Q=> ∃z i c,x=.str z/\y=.int i/\z.length<=sizeLine/\atI z.cps.toList i=some c/\Q (.str ⟨#[c]⟩) H
theorem ix_list:IxR X (rIxL X.K):=by
 intro value slice pins s σ H x y v u Q I rx ry h hs
 obtain⟨p,xs,i,z,rfl,rfl,hq,he,q⟩:=h
 cases rx
 obtain⟨t,rfl⟩:=ry
 obtain⟨its,r,pl,hz⟩:=I.list hq
 obtain⟨j,h1,h2,h3,h4,h5⟩:=pK he
 obtain⟨w,ew,rw'⟩:=r.get h2
 have hl:=r.length
 have hn:=jZ
 have fin:EP X pins σ Q w s:=⟨z,H,I,rw',q⟩
 by_cases h0:0<=i
 ·have hj:i.toNat=j:=by
   rw[seqIndex_of h0 h5] at h1
   exact Option.some.inj h1
  exact item_listR pl.isList h0 (by omega) (by rw[hj];simpa using ew) fin hs
 ·have hj:(i+(its.toArray.size:Int)).toNat=j:=by
   rw[seqIndex_neg (by omega) h4] at h1
   rw[List.size_toArray,<-hl]
   exact Option.some.inj h1
  exact subscriptTail_builtinR (x:=w) pl.isList.typeIs slot_list_getitem.lookup
   (wpAny_getItem_list_neg (Q:=fun r s'=>r=w/\EP X pins σ Q r s') pl.isList (by omega) (by rw[List.size_toArray]<;>omega) (by omega) (by rw[hj];simpa using ew) ⟨rfl,fin⟩) hs
theorem ix_tup:IxR X (rIxT X.K):=by
 intro value slice pins s σ H x y v u Q I rx ry h hs
 obtain⟨p,xs,i,z,rfl,rfl,hq,he,q⟩:=h
 cases rx
 obtain⟨t,rfl⟩:=ry
 obtain⟨its,r,pl,hz⟩:=I.tuple hq
 obtain⟨j,h1,h2,h3,h4,h5⟩:=pK he
 obtain⟨w,ew,rw'⟩:=r.get h2
 have hl:=r.length
 have hn:=jZ
 have fin:EP X pins σ Q w s:=⟨z,H,I,rw',q⟩
 exact subscriptTail_builtinR (x:=w) pl.typeIs slot_tuple_getitem.lookup
  (getItem_tuple (j:=j) (Q:=fun r s'=>r=w/\EP X pins σ Q r s') pl (by omega) (by omega) (by rw[List.size_toArray,<-hl];exact h1) (by simpa using ew) ⟨rfl,fin⟩) hs
theorem pk:IxR X rIxS:=by
 intro value slice pins s σ H x y v u Q I rx ry h hs
 obtain⟨z,i,c,rfl,rfl,hz,he,q⟩:=h
 obtain⟨t,rfl⟩:=rx
 obtain⟨t',rfl⟩:=ry
 obtain⟨j,h1,h2,h3,h4,h5⟩:=pK he
 have hl:z.cps.toList.length=z.length:=by simp [Str.length]
 rw[hl] at h1 h4 h5
 have hn:=jZ
 exact tail_any (typeIs_str s z t) slot_str_getitem.lookup (getItem_str (c:=c) (by
  have e1:decide (i< -(2 ^ 63:Int))=false:=decide_eq_false (by omega)
  have e2:decide (i≥2 ^ 63)=false:=decide_eq_false (by omega)
  rw[e1,e2,Bool.or_false]) (by rw[h1];simpa using h2) ⟨.str ⟨#[c]⟩,H,I.tok _,⟨_,rfl⟩,q⟩) hs
def rIx (K:PySem.W.Frag):R2:=fun x y H Q=>rIxL K x y H Q\/rIxT K x y H Q\/rIxS x y H Q
theorem ix_seq:IxR X (rIx X.K):=ix_list.or (ix_tup.or pk)
theorem rR (its:List Value)(n j:Nat)(u:Value):Obj.mapSeq (·.setIfInBounds j u) {cls:=.type "list",data:=.seq its.toArray n}={cls:=.type "list",data:=.seq (its.set j u).toArray n}:=by
 simp [Obj.mapSeq]
theorem Inv.lst {pins:List (Addr×Obj)}{σ:St}{H:Hp}{s:Shared}{p:Addr}{xs:List V}(I:Inv X pins σ H s)(h:H p=some (.lst xs)):
  ∃ (its:List Value) (n:Nat),Vals xs its/\s.heap.get? p=some {cls:=.type "list",data:=.seq its.toArray n}/\xs.length<=sizeLine:=by
 obtain⟨z,its,n,r,e⟩:=I.hok p _ h
 exact⟨its,n,r,e,z⟩
theorem Inv.lstUpd {pins:List (Addr×Obj)}{σ:St}{H:Hp}{s:Shared}{p:Addr}{xs ys:List V}{its its':List Value}{n n':Nat}{f:Obj->Obj}(I:Inv X pins σ H s)(h:H p=some (.lst xs))
  (ho:s.heap.get? p=some {cls:=.type "list",data:=.seq its.toArray n})(hf:f {cls:=.type "list",data:=.seq its.toArray n}={cls:=.type "list",data:=.seq its'.toArray n'})(r:Vals ys its')(hz:ys.length<=sizeLine)(t:Nat):
  Inv X pins σ (upd H p (.lst ys)) {s with heap:=s.heap.update p f,toks:=t}:=by
 have e:(s.heap.update p f).get? p=some {cls:=.type "list",data:=.seq its'.toArray n'}:=by
  rw[Heap.get?_update_self f ho (by rw[hf]<;>rfl),hf]
 refine I.write (x:=p) (e:=p) (by rw[h];trivial) (.inl rfl) (fun b u hb q=>(Heap.get?_update_other _ _ (Ne.symm hb)).trans q) ⟨_,e⟩ ?_
 exact⟨hz,its',n',r,e⟩
def rSetL:V->V->V->Hp->(Hp->Prop)->Prop:=fun o i v H Q=> ∃p xs k j,o=.ref p/\i=.int k/\H p=some (.lst xs)/\ixN xs.length k=some j/\Q (upd H p (.lst (xs.set j v)))
theorem set_list:PSet X rSetL:=by
 intro pins s σ H o i v ov iv u Q I ro ri rv h
 obtain⟨p,xs,k,j,rfl,rfl,hp,hj,q⟩:=h
 cases ro
 obtain⟨t,rfl⟩:=ri
 obtain⟨its,n,r,ho,hz⟩:=I.lst hp
 obtain⟨h1,h2,h3,h4⟩:=tj hj
 have hl:=r.length
 have hn:=jZ
 have I':Inv X pins σ (upd H p (.lst (xs.set j v))) {s with heap:=s.heap.update p (Obj.mapSeq (·.setIfInBounds j u))}:=
  I.lstUpd hp ho (rR its n j u) (r.set rv j) (by rw[List.length_set];exact hz) s.toks
 by_cases h0:0<=k
 ·have hk:k.toNat=j:=by
   rw[seqIndex_of h0 h4] at h1
   exact Option.some.inj h1
  exact PySem.W.ki_setAt ho h0 (by omega) (by rw[List.size_toArray,<-hl];exact h4) (by rw[hk];exact⟨_,I',q⟩)
 ·have hk:(k+(its.toArray.size:Int)).toNat=j:=by
   rw[seqIndex_neg (by omega) h3] at h1
   rw[List.size_toArray,<-hl]
   exact Option.some.inj h1
  exact PySem.W.ki_setBack ho (by omega) (by rw[List.size_toArray,<-hl];exact h3) (by omega) (by rw[hk];exact⟨_,I',q⟩)
theorem oA (lo hi:Option Int)(n:Nat):(sliceBounds lo hi none n).1=((HT.sIx n 0 lo:Nat):Int)/\(sliceBounds lo hi none n).2.1=((HT.sIx n n hi:Nat):Int)/\(sliceBounds lo hi none n).2.2=1:=by
 refine⟨?_,?_,rfl⟩
 ·cases lo with
  |none=>simp [sliceBounds,HT.sIx]
  |some i=>
   simp only[sliceBounds,HT.sIx,Option.getD_none,show (1:Int)>0 by decide,if_true]
   by_cases h:i<0
   ·simp only[h,if_true]<;>omega
   ·simp only[h,if_false]<;>omega
 ·cases hi with
  |none=>simp [sliceBounds,HT.sIx]
  |some i=>
   simp only[sliceBounds,HT.sIx,Option.getD_none,show (1:Int)>0 by decide,if_true]
   by_cases h:i<0
   ·simp only[h,if_true]<;>omega
   ·simp only[h,if_false]<;>omega
theorem nv (its:List Value)(lo hi:Option Int):slicePick its.toArray lo hi none=((its.drop (HT.sIx its.length 0 lo)).take (HT.sIx its.length its.length hi - HT.sIx its.length 0 lo)).toArray:=by
 obtain⟨h1,h2,h3⟩:=oA lo hi its.toArray.size
 unfold slicePick
 rw[h1,h2,h3]
 simp only[sliceRange_one,pick_run,List.size_toArray]<;>rfl
def rSlL (K:PySem.W.Frag):V->Option Int->Option Int->Hp->VK->Prop:=fun x lo hi H Q=> ∃a xs,x=.ref a/\SqL K H a xs/\ ∀p,H p=none->Q (.ref p) (upd H p (.lst (cutV xs lo hi)))
theorem xB:SlR X (rSlL X.K):=by
 intro pins s σ H x v vl vu lo hi sl Q I rx hs pl pu h
 obtain⟨a,xs,rfl,hx,q⟩:=h
 cases rx
 obtain⟨its,r,ht,hz⟩:=I.list hx
 have hlen:=r.length
 refine⟨"list",_,slot_list_getitem.lookup,ht.isList.typeIs,?_⟩
 refine wpAny_getItem_list_slice ht.isList hs pl pu .none (by simp) ?_ (by rw[List.size_toArray]<;>omega)
 rw[nv,<-hlen]
 refine⟨.ref s.heap.objs.size,_,I.laid (t':=s.toks) (o:=.lst (cutV xs lo hi)) (fun b ob q=>Heap.get?_push_of_some _ q) (Nat.le_refl _) ?_,rfl,q _ (I.hok.fresh (Nat.le_refl _))⟩
 exact⟨Nat.le_trans (lC xs lo hi) hz,_,0,(r.drop (HT.sIx xs.length 0 lo)).take (HT.sIx xs.length xs.length hi - HT.sIx xs.length 0 lo),Heap.get?_push_size _ rfl⟩
noncomputable def flatV:V->Bool
 |.non=>true
 |.bl _=>true
 |.int _=>true
 |.str _=>true
 |_=>false
noncomputable def eqV:V->V->Bool
 |.non,.non=>true
 |.bl a,.bl b=>a==b
 |.bl a,.int b=>(if a then 1 else 0)==b
 |.int a,.bl b=>a==(if b then 1 else 0)
 |.int a,.int b=>a==b
 |.str a,.str b=>a==b
 |_,_=>false
theorem AG {A:Around}{s:Shared}{y x:V}{u v:Value}(ry:RelV y u)(rx:RelV x v)(fy:flatV y=true)(fx:flatV x=true):SeqAt.EqAt A s u v (eqV y x):=by
 cases y with
 |non=>
  cases ry
  cases x with
  |non=>cases rx;exact SeqAt.EqAt.same _
  |bl b=>cases rx;exact SeqAt.EqAt.none_bool b
  |int b=>obtain⟨t,rfl⟩:=rx;exact SeqAt.EqAt.none_int b t
  |str b=>obtain⟨t,rfl⟩:=rx;exact SeqAt.EqAt.none_str b t
  |_=>exact absurd (show false=true from fx) Bool.false_ne_true
 |bl a=>
  cases ry
  cases x with
  |non=>cases rx;exact SeqAt.EqAt.bool_none a
  |bl b=>cases rx;exact SeqAt.EqAt.bool_bool a b
  |int b=>obtain⟨t,rfl⟩:=rx;exact SeqAt.EqAt.bool_int a b t
  |str b=>obtain⟨t,rfl⟩:=rx;exact SeqAt.EqAt.bool_str a b t
  |_=>exact absurd (show false=true from fx) Bool.false_ne_true
 |int a=>
  obtain⟨t',rfl⟩:=ry
  cases x with
  |non=>cases rx;exact SeqAt.EqAt.int_none a t'
  |bl b=>cases rx;exact SeqAt.EqAt.int_bool a t' b
  |int b=>obtain⟨t,rfl⟩:=rx;exact SeqAt.EqAt.int_int a t' b t
  |str b=>obtain⟨t,rfl⟩:=rx;exact SeqAt.EqAt.int_str a t' b t
  |_=>exact absurd (show false=true from fx) Bool.false_ne_true
 |str a=>
  obtain⟨t',rfl⟩:=ry
  cases x with
  |non=>cases rx;exact SeqAt.EqAt.str_none a t'
  |bl b=>cases rx;exact SeqAt.EqAt.str_bool a t' b
  |int b=>obtain⟨t,rfl⟩:=rx;exact SeqAt.EqAt.str_int a t' b t
  |str b=>obtain⟨t,rfl⟩:=rx;exact SeqAt.EqAt.str_str a t' b t
  |_=>exact absurd (show false=true from fx) Bool.false_ne_true
 |_=>exact absurd (show false=true from fy) Bool.false_ne_true
def eqU (x:V)(u:Value):Bool:=match u with
 |.none=>eqV .non x
 |.bool b=>eqV (.bl b) x
 |.int i _=>eqV (.int i) x
 |.str z _=>eqV (.str z) x
 |_=>false
theorem se {x y:V}{u:Value}(r:RelV y u)(f:flatV y=true):eqU x u=eqV y x:=by
 cases y with
 |non=>cases r;rfl
 |bl b=>cases r;rfl
 |int i=>obtain⟨t,rfl⟩:=r;rfl
 |str z=>obtain⟨t,rfl⟩:=r;rfl
 |_=>exact absurd (show false=true from f) Bool.false_ne_true
theorem kE {x:V}: ∀ {xs:List V}{us:List Value},Vals xs us->xs.all flatV=true->us.any (eqU x)=xs.any fun y=>eqV y x
 |_,_,.nil,_=>rfl
 |y::xs,u::us,.cons r t,f=>by
  rw[List.all_cons,Bool.and_eq_true] at f
  rw[List.any_cons,List.any_cons,se r f.1,kE t f.2]
theorem g6 {A:Around}{s:Shared}{x:V}{v:Value}(rx:RelV x v)(fx:flatV x=true): ∀ {xs:List V}{us:List Value},Vals xs us->xs.all flatV=true-> ∀u∈us,SeqAt.EqAt A s u v (eqU x u)
 |_,_,.nil,_=>fun u hu=>by cases hu
 |y::xs,u::us,.cons r t,f=>fun u' hu=>by
  rw[List.all_cons,Bool.and_eq_true] at f
  rcases List.mem_cons.mp hu with rfl|hu
  ·rw[se r f.1];exact AG r rx f.1 fx
  ·exact g6 rx fx t f.2 u' hu
def inV (x:V)(xs:List V):Bool:=xs.any fun y=>eqV y x
def rIn (K:PySem.W.Frag)(neg:Bool):R2:=fun x y H Q=> ∃p xs,y=.ref p/\(SqL K H p xs\/SqT K H p xs)/\flatV x=true/\xs.all flatV=true/\Q (.bl (if neg then !inV x xs else inV x xs)) H
theorem op_in_seq:OpR X (compareOp .In) (rIn X.K false):=by
 intro pins s σ H x y v u Q I rx ry h
 obtain⟨p,xs,rfl,hq,fx,fs,q⟩:=h
 cases ry
 rcases hq with hq|hq
 ·obtain⟨its,r,pl,hz⟩:=I.list hq
  refine SeqAt.in_listAt (eqU x) pl.isList (fun w hw=>g6 rx fx r fs w (by simpa using hw)) ⟨.bl _,H,I,rfl,?_⟩
  rw[show its.toArray.any (eqU x)=its.any (eqU x) by simp,kE r fs]
  exact q
 ·obtain⟨its,r,pl,hz⟩:=I.tuple hq
  refine SeqAt.in_tupleAt (eqU x) pl (fun w hw=>g6 rx fx r fs w (by simpa using hw)) ⟨.bl _,H,I,rfl,?_⟩
  rw[show its.toArray.any (eqU x)=its.any (eqU x) by simp,kE r fs]
  exact q
theorem op_notIn_seq:OpR X (compareOp .NotIn) (rIn X.K true):=by
 intro pins s σ H x y v u Q I rx ry h
 obtain⟨p,xs,rfl,hq,fx,fs,q⟩:=h
 cases ry
 rcases hq with hq|hq
 ·obtain⟨its,r,pl,hz⟩:=I.list hq
  refine SeqAt.notIn_listAt (eqU x) pl.isList (fun w hw=>g6 rx fx r fs w (by simpa using hw)) ⟨.bl _,H,I,rfl,?_⟩
  rw[show its.toArray.any (eqU x)=its.any (eqU x) by simp,kE r fs]
  exact q
 ·obtain⟨its,r,pl,hz⟩:=I.tuple hq
  refine SeqAt.notIn_tupleAt (eqU x) pl (fun w hw=>g6 rx fx r fs w (by simpa using hw)) ⟨.bl _,H,I,rfl,?_⟩
  rw[show its.toArray.any (eqU x)=its.any (eqU x) by simp,kE r fs]
  exact q
theorem op_notIn_str:OpR X (compareOp .NotIn) (fun x y H Q=> ∃i j,x=.str i/\y=.str j/\Q (.bl (!(!(Builtin.Str.occurrences j i 0 j.length 1).isEmpty))) H):=by
 intro pins s σ H x y v u Q I rx ry h
 obtain⟨i,j,rfl,rfl,q⟩:=h
 obtain⟨t,rfl⟩:=rx
 obtain⟨t',rfl⟩:=ry
 exact notIn_str ⟨.bl _,H,I,rfl,q⟩
theorem pI:CallR X (.builtin "len") (fun xs H Q=> ∃p ys,xs=[.ref p]/\(SqL X.K H p ys\/SqT X.K H p ys)/\Q (.int ys.length) H):=by
 intro pins s σ H xs us Q I r h
 obtain⟨p,ys,rfl,hq,q⟩:=h
 obtain⟨u,rfl,rx⟩:=vals1 r
 cases rx
 have hn:=jZ
 rcases hq with hq|hq
 ·obtain⟨its,r',pl,hz⟩:=I.list hq
  have hlen:=r'.length
  exact Calls.call_len_list pl.isList (by simp only[List.size_toArray]<;>omega) ⟨.int ys.length,H,I.tok _,⟨s.toks+1,by rw[List.size_toArray,hlen]⟩,q⟩
 ·obtain⟨its,r',pl,hz⟩:=I.tuple hq
  have hlen:=r'.length
  exact len_tuple pl (by simp only[List.size_toArray]<;>omega) ⟨.int ys.length,H,I.tok _,⟨s.toks+1,by rw[List.size_toArray,hlen]⟩,q⟩
theorem call_len_str:CallR X (.builtin "len") (fun xs H Q=> ∃z,xs=[.str z]/\z.length<=sizeLine/\Q (.int z.length) H):=by
 intro pins s σ H xs us Q I r h
 obtain⟨z,rfl,hz,q⟩:=h
 obtain⟨u,rfl,t,rfl⟩:=vals1 r
 have hn:=jZ
 exact len_str (by omega) ⟨.int z.length,H,I.tok _,⟨_,rfl⟩,q⟩
theorem CallR.or {f:Value}{r r':List V->Hp->VK->Prop}(h:CallR X f r)(h':CallR X f r'):CallR X f (fun xs H Q=>r xs H Q\/r' xs H Q):=by
 intro pins s σ H xs us Q I rs q
 rcases q with q|q
 ·exact h pins s σ H xs us Q I rs q
 ·exact h' pins s σ H xs us Q I rs q
theorem pH:CallR X (.type "list") (fun xs H Q=> ∃p ys,xs=[.ref p]/\(SqL X.K H p ys\/SqT X.K H p ys)/\ ∀l,H l=none->Q (.ref l) (upd H l (.lst ys))):=by
 intro pins s σ H xs us Q I r h
 obtain⟨p,ys,rfl,hq,q⟩:=h
 obtain⟨u,rfl,rx⟩:=vals1 r
 cases rx
 have fin: ∀ (its:List Value),Vals ys its->ys.length<=sizeLine-> ∀ (h':Heap) (c':Nat),(∀b o',s.heap.get? b=some o'->h'.get? b=some o')->
   h'.get? s.heap.objs.size=some {cls:=.type "list",dict:=none,data:=.seq its.toArray c',slots:= #[]}->EP X pins σ Q (.ref s.heap.objs.size) {s with heap:=h'}:=fun its r' hz h' c' kp e=>
  ⟨.ref s.heap.objs.size,_,I.laid (t':=s.toks) kp (Nat.le_refl _) (show ObjOk X.prog X.w _ h' _ (.lst ys) from⟨hz,its,c',r',e⟩),rfl,q _ (I.hok.fresh (Nat.le_refl _))⟩
 rcases hq with hq|hq
 ·obtain⟨its,r',pl,hz⟩:=I.list hq
  have hlen:=r'.length
  obtain⟨o,ho,hc,n,hd⟩:=pl.isList
  exact call_list_seq p (.inl rfl) ho hc hd (fun h' c' kp e=>fin its r' hz h' c' kp e) (by simp only[List.size_toArray]<;>omega)
 ·obtain⟨its,r',pl,hz⟩:=I.tuple hq
  have hlen:=r'.length
  obtain⟨o,ho,hc,n,hd⟩:=pl
  exact call_list_seq p (.inr rfl) ho hc hd (fun h' c' kp e=>fin its r' hz h' c' kp e) (by simp only[List.size_toArray]<;>omega)
theorem nB:CallR X (.type "tuple") (fun xs H Q=> ∃p ys,xs=[.ref p]/\((SqL X.K H p ys/\ ∀l,H l=none->Q (.ref l) (upd H l (.tup ys)))\/(SqT X.K H p ys/\Q (.ref p) H))):=by
 intro pins s σ H xs us Q I r h
 obtain⟨p,ys,rfl,h⟩:=h
 obtain⟨u,rfl,rx⟩:=vals1 r
 cases rx
 rcases h with⟨hq,q⟩|⟨hq,q⟩
 ·obtain⟨its,r',pl,hz⟩:=I.list hq
  have hlen:=r'.length
  refine call_tuple_list pl.isList (fun h' kp=>?_) (by simp only[List.size_toArray]<;>omega)
  have I1:Inv X pins σ H {s with heap:=h'}:=I.kept (t':=s.toks) kp
  have I2:Inv X pins σ (upd H h'.objs.size (.tup ys)) {s with heap:=h'.push {cls:=.type "tuple",data:=.seq its.toArray}}:=
   I1.laid (t':=s.toks) (fun b o e=>Heap.get?_push_of_some _ e) (Nat.le_refl _) (show ObjOk X.prog X.w _ _ _ (.tup ys) from⟨hz,its,r',IsTupD.new _ _⟩)
  exact⟨.ref h'.objs.size,_,I2,rfl,q _ (I1.hok.fresh (Nat.le_refl _))⟩
 ·obtain⟨its,r',pl,hz⟩:=I.tuple hq
  exact call_tuple_same pl ⟨.ref p,H,I,rfl,q⟩
def tyV (K:PySem.W.Frag)(T:String)(x:V)(H:Hp):Prop:=match x with
 |.str _=>T= "str"
 |.int _=>T= "int"
 |.ref p=>(T= "list"/\ ∃xs,SqL K H p xs)\/(T= "tuple"/\ ∃o,K.lookup p=some o/\o.cls=.type "tuple"/\o.dict=none)\/
  (T= "dict"/\((∃kvs,H p=some (.dK kvs))\/ ∃kvs,H p=some (.dT kvs)))\/(T= "set"/\ ∃S n,H p=some (.set S n))
 |_=>False
theorem zd {pins:List (Addr×Obj)}{σ:St}{H:Hp}{s:Shared}{T:String}{x:V}{v:Value}(I:Inv X pins σ H s)(r:RelV x v)(ty:tyV X.K T x H):
  s.TypeIs v T/\ ∀a,v=.ref a-> ∃ob,s.heap.get? a=some ob/\ob.dict=none:=by
 cases x with
 |str z=>
  obtain⟨t,rfl⟩:=r
  cases (show T= "str" from ty)
  exact⟨typeIs_str s z t,fun _ e=>nomatch e⟩
 |int i=>
  obtain⟨t,rfl⟩:=r
  cases (show T= "int" from ty)
  exact⟨typeIs_int s i t,fun _ e=>nomatch e⟩
 |ref p=>
  cases r
  rcases ty with⟨rfl,xs,hq⟩|⟨rfl,o,hk,hc,hd⟩|⟨rfl,hk⟩|⟨rfl,S,n,hk⟩
  ·obtain⟨its,_,pl,_⟩:=I.list hq
   refine⟨pl.isList.typeIs,fun a e=>?_⟩
   cases e
   obtain⟨o,n,e,c,hd,_⟩:=pl
   exact⟨o,e,hd⟩
  ·refine⟨⟨o,I.kIn p o hk,hc⟩,fun a e=>?_⟩
   cases e
   exact⟨o,I.kIn _ o hk,hd⟩
  ·have z: ∃o,s.heap.get? p=some o/\o.ExactDict:=by
    rcases hk with⟨kvs,hk⟩|⟨kvs,hk⟩
    ·obtain⟨_,_,_,_,o,_,_,e,ex,_⟩:=I.hok p _ hk
     exact⟨o,e,ex⟩
    ·obtain⟨_,_,_,_,o,_,_,e,ex,_⟩:=I.hok p _ hk
     exact⟨o,e,ex⟩
   obtain⟨o,e,ex⟩:=z
   refine⟨⟨o,e,ex.1⟩,fun a e2=>?_⟩
   cases e2
   exact⟨o,e,ex.2.1⟩
  ·obtain⟨o,_,_,_,e,ex,_⟩:=I.hok p _ hk
   refine⟨⟨o,e,ex.1⟩,fun a e2=>?_⟩
   cases e2
   exact⟨o,e,ex.2.1⟩
 |_=>exact False.elim ty
def tBM (K:PySem.W.Frag)(T:String)(r:V->List V->Hp->VK->Prop)(to:TE)(t:TA):TE:=fun σ H Q=>to σ H fun x H1=>tyV K T x H1/\t σ H1 fun xs H2=>r x xs H2 Q
variable {o e:Expr}{es:List Expr}{to:TE}{t:TA}{name:Str}{apos cpos:Pos}{T id:String}{r:V->List V->Hp->VK->Prop}
theorem qg (pa:PlainAttrs T)(slot:Slot T name id)(hty:typeOf (.builtin id)=pure (.type "method_descriptor"))(hm:MtR X id r)(ho:PE X o to)(ha:PA X (e::es) t)
  (hbase:attributeBase o name X.env (eval o X.env)=eval o X.env:=by rfl)
  (hfew:((backTo cpos (starEach (e::es) X.env)).all (fun x=>!x.1) && (backToKw cpos (keywordEach [] X.env)).all (fun x=>x.1.isSome)
   && decide ((e::es).length+([]:List Keyword).length+(if ([]:List Keyword).isEmpty then 0 else 1)<30))=true:=by rfl)
  (hline:(apos.endLine==cpos.line)=true:=by rfl)(hs:starEach (e::es) X.env=(false,eval e X.env)::starEach es X.env:=by rfl)(hplain:(backTo cpos (starEach es X.env)).any (·.1)=false:=by rfl):
  PE X (.Call (.Attribute o name apos) (e::es) [] cpos) (tBM X.K T r to t):=by
 intro pins s σ H Q I h
 refine wpAny_Call_method_late hbase hfew hline rfl (thn (ho pins s σ H _ I h) fun v s1 qz=>?_)
 obtain⟨x,H1,I1,r1,ty,q1⟩:=qz
 obtain⟨h1,h2⟩:=zd I1 r1 ty
 refine⟨T,id,pa,slot,hty,h1,h2,?_⟩
 have hA:=ha cpos pins s1 σ H1 _ I1 q1
 rw[hs] at hA ⊢
 refine Calls.callWith_builtin (by show (false||(backTo cpos (starEach es X.env)).any (·.1))=false;rw[hplain]<;>rfl) (Calls.evalArgs_plain ?_)
 exact thn hA fun us s2 ⟨vs,H2,I2,r2,q2⟩=>hm pins s2 σ H2 x vs v us Q I2 r1 r2 q2
end
end
section
def MtM (X:Cx)(id:String)(r:V->List V->Hp->VK->Prop):Prop:=
 ∀ (pins:List (Addr×Obj)) (s:Shared) (σ:St) (H:Hp) (x:V) (xs:List V) (v:Value) (us:List Value) (Q:VK),Inv X pins σ H s->RelV x v->Vals xs us->r x xs H Q->
   wpAny (model X.prog X.w) X.A (call (.builtin id) (v::us)) (EP X pins σ Q) X.xe s
theorem Vals.one: ∀ {x:V}{us:List Value},Vals [x] us-> ∃u,us=[u]/\RelV x u
 :=by
 intro x us h
 cases h with
 |cons r q=>cases q;exact⟨_,rfl,r⟩
theorem Vals.two: ∀ {x y:V}{us:List Value},Vals [x,y] us-> ∃u v,us=[u,v]/\RelV x u/\RelV y v
 :=by
 intro x y us h
 cases h with
 |cons r q=>
  cases q with
  |cons q z=>cases z;exact⟨_,_,rfl,r,q⟩
theorem Vals.reverse {xs:List V}{us:List Value}(h:Vals xs us):Vals xs.reverse us.reverse:=by
 induction h with
 |nil=>exact .nil
 |cons r t ih=>rw[List.reverse_cons,List.reverse_cons];exact Vals.append ih (.cons r .nil)
theorem Vals.rep {xs:List V}{us:List Value}(h:Vals xs us): ∀k:Nat,Vals (List.replicate k xs).flatten (List.replicate k us).flatten
 |0=>.nil
 |k+1=>by
  rw[List.replicate_succ,List.replicate_succ,List.flatten_cons,List.flatten_cons]
  exact Vals.append h (Vals.rep h k)
theorem nY (its:List Value): ∀ (k:Nat) (acc:List Value),
  List.foldl (fun x1 x2=>x1++x2) acc.toArray (List.replicate k its.toArray)=(acc++(List.replicate k its).flatten).toArray
 |0,acc=>by simp
 |k+1,acc=>by
  have e:acc.toArray++its.toArray=(acc++its).toArray:=by simp
  have e2:(acc++its)++(List.replicate k its).flatten=acc++(List.replicate (k+1) its).flatten:=by
   rw[List.replicate_succ,List.flatten_cons,List.append_assoc]
  rw[<-e2,<-nY its k (acc++its),<-e,List.replicate_succ,List.foldl_cons]
section
variable {X:Cx}{pins:List (Addr×Obj)}{σ:St}{H:Hp}{s:Shared}{l b:Addr}{xs ys zs:List V}
theorem Inv.lset {its its':List Value}{n:Nat}{f:Array Value->Array Value}{t':Nat}(I:Inv X pins σ H s)(hH:H l=some (.lst xs))
  (e:s.heap.get? l=some {cls:=.type "list",data:=.seq its.toArray n})(hf:f its.toArray=its'.toArray)(hv:Vals ys its')(hz:ys.length<=sizeLine):
  Inv X pins σ (upd H l (.lst ys)) {s with heap:=s.heap.update l (Obj.mapSeq f),toks:=t'}:=by
 have q:=PySem.IsL.update e f
 rw[hf] at q
 refine I.write (x:=l) (e:=l) (by rw[hH];exact trivial) (.inl rfl) (fun b' u hb hu=>(Heap.get?_update_other s.heap (Obj.mapSeq f) (Ne.symm hb)).trans hu) ⟨_,q⟩ ?_
 exact⟨hz,its',_,hv,q⟩
theorem Inv.lnew {its:List Value}{t':Nat}(I:Inv X pins σ H s)(hv:Vals ys its)(hz:ys.length<=sizeLine):
  Inv X pins σ (upd H s.heap.objs.size (.lst ys)) {s with heap:=s.heap.push {cls:=.type "list",data:=.seq its.toArray},toks:=t'}:=
 I.laid (fun _ _ q=>Heap.get?_push_of_some _ q) (Nat.le_refl _) ⟨hz,its,0,hv,Heap.get?_push_size _ rfl⟩
theorem Inv.fresh (I:Inv X pins σ H s):H s.heap.objs.size=none:=I.hok.fresh (Nat.le_refl _)
theorem Inv.lstM (I:Inv X pins σ H s)(hH:H l=some (.lst xs)):xs.length<=sizeLine/\ ∃ (its:List Value) (n:Nat),Vals xs its/\xs.length=its.length/\s.heap.get? l=some {cls:=.type "list",data:=.seq its.toArray n}:=by
 obtain⟨z,its,n,r,e⟩:=I.hok l _ hH
 exact⟨z,its,n,r,r.length,e⟩
theorem qp {n:Nat}(h:n<=sizeLine):Builtin.List.listTooLong n=false:=by
 unfold Builtin.List.listTooLong
 exact decide_eq_false (by omega)
end
section
variable {X:Cx}
def xK:V->List V->Hp->VK->Prop:=fun x vs H Q=> ∃l xs y,x=.ref l/\vs=[y]/\H l=some (.lst xs)/\xs.length<sizeLine/\Q .non (upd H l (.lst (xs++[y])))
theorem uu:MtM X "list.append" xK:=by
 intro pins s σ H x vs v us Q I rx rv h
 obtain⟨l,xs,y,rfl,rfl,hH,hz,q⟩:=h
 cases rx
 obtain⟨u,rfl,ru⟩:=rv.one
 obtain⟨z,its,n,r,hl,e⟩:=I.lstM hH
 refine call_meets F.slot_list_append ⟨_,e,rfl⟩ F.entry_list_append (F.args_list_append_2 _ _) (PySem.list_append l its.toArray n u (by rw[List.size_toArray];omega)) ⟨e,?_⟩
 refine⟨.non,_,I.lset (its':=its++[u]) hH e (by simp) (r.append (.cons ru .nil)) ?_,rfl,q⟩
 rw[List.length_append,List.length_singleton]
 omega
def xJ:V->List V->Hp->VK->Prop:=fun x vs H Q=> ∃l b xs zs,x=.ref l/\vs=[.ref b]/\H l=some (.lst xs)/\H b=some (.lst zs)/\xs.length+zs.length<=sizeLine/\Q .non (upd H l (.lst (xs++zs)))
theorem ut:MtM X "list.extend" xJ:=by
 intro pins s σ H x vs v us Q I rx rv h
 obtain⟨l,b,xs,zs,rfl,rfl,hH,hB,hz,q⟩:=h
 cases rx
 obtain⟨u,rfl,ru⟩:=rv.one
 cases ru
 obtain⟨z,its,n,r,hl,e⟩:=I.lstM hH
 obtain⟨z2,its2,n2,r2,hl2,e2⟩:=I.lstM hB
 have hsz:its.toArray.size+its2.toArray.size<=sizeLine:=by rw[List.size_toArray,List.size_toArray];omega
 have hlong: ¬(!its.toArray.isEmpty && Builtin.List.listTooLong (its.toArray.size+its2.toArray.size))=true:=by
  rw[qp hsz,Bool.and_false]
  exact Bool.false_ne_true
 refine call_meets F.slot_list_extend ⟨_,e,rfl⟩ F.entry_list_extend (F.args_list_extend_2 _ _)
  (AutoSeq1.list_extend_list_list_0 l its.toArray n b its2.toArray n2 hlong (by rw[List.size_toArray];omega) (by omega)) ⟨e,e2,?_⟩
 refine⟨.non,_,I.lset (its':=its++its2) hH e (by simp) (r.append r2) ?_,rfl,q⟩
 rw[List.length_append]
 omega
def rCat:R2:=fun x y H Q=> ∃l b xs zs,x=.ref l/\y=.ref b/\H l=some (.lst xs)/\H b=some (.lst zs)/\xs.length+zs.length<=sizeLine/\ ∀p,H p=none->Q (.ref p) (upd H p (.lst (xs++zs)))
theorem vW:OpR X (binaryOp .Add) rCat:=by
 intro pins s σ H x y v u Q I rx ry h
 obtain⟨l,b,xs,zs,rfl,rfl,hH,hB,hz,q⟩:=h
 cases rx
 cases ry
 obtain⟨z,its,n,r,hl,e⟩:=I.lstM hH
 obtain⟨z2,its2,n2,r2,hl2,e2⟩:=I.lstM hB
 refine PySem.P.add_list e e2 ?_ (by rw[List.size_toArray,List.size_toArray];omega)
 have ea:its.toArray++its2.toArray=(its++its2).toArray:=by simp
 rw[ea]
 exact⟨.ref _,_,I.lnew (t':=s.toks) (r.append r2) (by rw[List.length_append];omega),rfl,q _ I.fresh⟩
def rRep:R2:=fun x y H Q=> ∃l k xs,x=.ref l/\y=.int k/\H l=some (.lst xs)/\ -(2 ^ 63)<=k/\k<2 ^ 63/\xs.length * k.toNat<=sizeLine/\
 ∀p,H p=none->Q (.ref p) (upd H p (.lst (List.replicate k.toNat xs).flatten))
theorem yp {α:Type}(xs:List α)(k:Nat):(List.replicate k xs).flatten.length=k * xs.length:=by
 induction k with
 |zero=>simp
 |succ k ih=>rw[List.replicate_succ,List.flatten_cons,List.length_append,ih,Nat.succ_mul,Nat.add_comm]
theorem zW:OpR X (binaryOp .Mult) rRep:=by
 intro pins s σ H x y v u Q I rx ry h
 obtain⟨l,k,xs,rfl,rfl,hH,h1,h2,hz,q⟩:=h
 cases rx
 obtain⟨t,rfl⟩:=ry
 obtain⟨z,its,n,r,hl,e⟩:=I.lstM hH
 have hlen:its.toArray.size * k.toNat<=sizeLine:=by rw[List.size_toArray,<-hl];exact hz
 have hcap: ¬its.toArray.size * k.toNat>(2 ^ 63 - 1) / 8:=by
  have:(sizeLine:Nat)<=(2 ^ 63 - 1) / 8:=by decide
  omega
 have hfit: ¬(!Builtin.List.listFitsIndex k)=true:=by
  rw[fitsIndex_both h1 h2]
  exact Bool.false_ne_true
 have hlong: ¬Builtin.List.listTooLong (its.toArray.size * k.toNat)=true:=by
  rw[qp hlen]
  exact Bool.false_ne_true
 have hnew:List.foldl (fun x1 x2=>x1++x2) #[] (List.replicate (if its.toArray.isEmpty=true then 0 else k.toNat) its.toArray)=(List.replicate k.toNat its).flatten.toArray:=by
  have f0: ∀m:Nat,List.foldl (fun x1 x2=>x1++x2) #[] (List.replicate m its.toArray)=(List.replicate m its).flatten.toArray:=fun m=>by
   have:=nY its m []
   rw[List.nil_append] at this
   exact this
  rw[f0]
  cases its with
  |nil=>simp
  |cons a r'=>rw[if_neg (by simp)]
 refine wpAny_binaryOp_repeat_ref (T:= "list") (U:= "int") (by decide) ⟨_,e,rfl⟩ (fun s'=>typeIs_int s' k t) noFill_list_mul F.fills_int_mul F.slot_int_rmul repeat_list F.slot_int_index.lookup
  (call_meets F.slot_int_rmul (typeIs_int s k t) F.entry_int_rmul (F.args_int_rmul_2 _ _) (int___rmul___int_list k t l its.toArray n)
   ⟨e,rfl,⟨_,e,rfl⟩,call_meets F.slot_list_mul ⟨_,e,rfl⟩ F.entry_list_mul (F.args_list_mul_2 _ _) (AutoListH.list___mul___list_int_3 l its.toArray n k t hfit hcap hlong) ⟨e,?_⟩⟩)
 rw[hnew]
 exact⟨.ref _,_,I.lnew (t':=s.toks) (r.rep k.toNat) (by rw[yp,Nat.mul_comm];exact hz),rfl,q _ I.fresh⟩
end
section
variable {prog:Program}{w:World}{A:Around}{E:Value->Shared->Prop}{s:Shared}
end
section
variable {X:Cx}
end
end
section
section
variable {κ:Type} [DecidableEq κ]
noncomputable def valV (kvs:List (κ×V))(k:κ):Option V:=(kvs.find? fun kv=>decide (kv.1=k)).map (·.2)
noncomputable def putK (kvs:List (κ×V))(k:κ)(v:V):List (κ×V):=
 if (kvs.any fun kv=>decide (kv.1=k))=true then kvs.map (fun kv=>if kv.1=k then (kv.1,v) else kv) else kvs++[(k,v)]
theorem lR {p:κ×V}{r:List (κ×V)}{k:κ}(e:p.1=k):valV (p::r) k=some p.2:=by simp [valV,List.find?_cons,e]
theorem lS {p:κ×V}{r:List (κ×V)}{k:κ}(e:¬p.1=k):valV (p::r) k=valV r k:=by simp [valV,List.find?_cons,e]
theorem pM (k:κ): ∀kvs:List (κ×V),(kvs.any fun kv=>decide (kv.1=k))=(valV kvs k).isSome
 |[]=>rfl
 |p::r=>by
  rw[List.any_cons]
  by_cases e:p.1=k
  ·simp only[lR e,decide_eq_true e,Bool.true_or,Option.isSome_some]
  ·rw[lS e,decide_eq_false e,Bool.false_or];exact pM k r
theorem ly (kvs:List (κ×V))(k:κ)(v:V):(putK kvs k v).length<=kvs.length+1:=by
 unfold putK
 split
 ·rw[List.length_map];omega
 ·rw[List.length_append,List.length_cons,List.length_nil];omega
theorem RelO.isSome_eq {o:Option V}{u:Option Value}(r:RelO o u):o.isSome=u.isSome:=by
 cases o with
 |none=>cases u with
  |none=>rfl
  |some _=>exact (show False from r).elim
 |some _=>cases u with
  |none=>exact (show False from r).elim
  |some _=>rfl
theorem KV.val {kvs:List (κ×V)}{vs:List (κ×Value)}(r:KV kvs vs)(k:κ):RelO (valV kvs k) (valueAt vs k):=by
 unfold KV at r
 induction r with
 |nil=>exact True.intro
 | @cons p q ps qs h t ih=>
   obtain⟨h1,h2⟩:=h
   by_cases e:p.1=k
   ·have e':q.1=k:=h1.symm.trans e
    have b:valueAt (q::qs) k=some q.2:=by simp [valueAt,List.find?_cons,e']
    rw[lR e,b];exact h2
   ·have e': ¬q.1=k:=fun z=>e (h1.trans z)
    have b:valueAt (q::qs) k=valueAt qs k:=by simp [valueAt,List.find?_cons,e']
    rw[lS e,b];exact ih
theorem KV.any {kvs:List (κ×V)}{vs:List (κ×Value)}(r:KV kvs vs)(k:κ):(kvs.any fun kv=>decide (kv.1=k))=vs.any fun kv=>decide (kv.1=k):=by
 unfold KV at r
 induction r with
 |nil=>rfl
 |cons h t ih=>rw[List.any_cons,List.any_cons,ih,h.1]
theorem KV.repl {kvs:List (κ×V)}{vs:List (κ×Value)}(r:KV kvs vs)(k:κ){y:V}{u:Value}(ry:RelV y u):
  KV (kvs.map fun kv=>if kv.1=k then (kv.1,y) else kv) (vs.map fun kv=>if kv.1=k then (kv.1,u) else kv):=by
 unfold KV at r ⊢
 induction r with
 |nil=>exact .nil
 | @cons p q ps qs h t ih=>
   rw[List.map_cons,List.map_cons]
   refine .cons ?_ ih
   obtain⟨h1,h2⟩:=h
   by_cases e:p.1=k
   ·rw[if_pos e,if_pos (h1.symm.trans e)];exact⟨h1,ry⟩
   ·rw[if_neg e,if_neg (fun z=>e (h1.trans z))];exact⟨h1,h2⟩
theorem KV.put {kvs:List (κ×V)}{vs:List (κ×Value)}(r:KV kvs vs)(k:κ){y:V}{u:Value}(ry:RelV y u):KV (putK kvs k y) (stored vs k u):=by
 unfold putK stored
 rw[r.any k]
 by_cases e:(vs.any fun kv=>decide (kv.1=k))=true
 ·rw[if_pos e,if_pos e];exact r.repl k ry
 ·rw[if_neg e,if_neg e];exact Paired.snoc r ⟨rfl,ry⟩
theorem KV.length {kvs:List (κ×V)}{vs:List (κ×Value)}(r:KV kvs vs):kvs.length=vs.length:=Paired.length r
end
theorem qD {P:Program}{w:World}{k:Key}{u:Value}(r:RelV (kV k) u):(dz P w).is k u=true:=by
 cases k with
 |inl i=>obtain⟨t,e⟩:=(show∃t,u=Value.int i t from r);subst e;exact qt P w i t
 |inr x=>obtain⟨t,e⟩:=(show∃t,u=Value.str x t from r);subst e;exact qr P w x t
theorem nX {P:Program}{w:World}: ∀ {ks:List Key}{us:List Value},Vals (ks.map kV) us->ItemsAre (dz P w) ks us
 |[],_,r=>by rw[List.map_nil] at r;cases r;exact .nil
 |k::ks,_,r=>by
  rw[List.map_cons] at r
  cases r with
  |cons h t=>exact .cons (qD h) (nX t)
noncomputable abbrev KT (H:Hp):List (List Key×V)->List (List Key×Addr×Value)->Prop:=Paired fun p q=>p.1=q.1/\H q.2.1=some (.tup (p.1.map kV))/\RelV p.2 q.2.2
theorem KT.val {H:Hp}{kvs:List (List Key×V)}{xs:List (List Key×Addr×Value)}(r:KT H kvs xs)(k:List Key):RelO (valV kvs k) ((atKey xs k).map (·.2)):=by
 induction r with
 |nil=>exact True.intro
 | @cons p q ps qs h t ih=>
   obtain⟨h1,_,h2⟩:=h
   by_cases e:p.1=k
   ·have e':q.1=k:=h1.symm.trans e
    have b:atKey (q::qs) k=some q.2:=by simp [atKey,List.find?_cons,e']
    rw[lR e,b];exact h2
   ·have e': ¬q.1=k:=fun z=>e (h1.trans z)
    have b:atKey (q::qs) k=atKey qs k:=by simp [atKey,List.find?_cons,e']
    rw[lS e,b];exact ih
theorem KT.repl {H:Hp}{kvs:List (List Key×V)}{xs:List (List Key×Addr×Value)}(r:KT H kvs xs)(k:List Key){y:V}{u:Value}(ry:RelV y u):
  KT H (kvs.map fun kv=>if kv.1=k then (kv.1,y) else kv) (xs.map (putAt k u)):=by
 induction r with
 |nil=>exact .nil
 | @cons p q ps qs h t ih=>
   rw[List.map_cons,List.map_cons]
   refine .cons ?_ ih
   obtain⟨h1,h2,h3⟩:=h
   unfold putAt
   by_cases e:p.1=k
   ·rw[if_pos e,if_pos (h1.symm.trans e)];exact⟨h1,h2,ry⟩
   ·rw[if_neg e,if_neg (fun z=>e (h1.trans z))];exact⟨h1,h2,h3⟩
theorem KT.put {H:Hp}{kvs:List (List Key×V)}{xs:List (List Key×Addr×Value)}(r:KT H kvs xs)(k:List Key){b:Addr}{y:V}{u:Value}(hb:H b=some (.tup (k.map kV)))(ry:RelV y u):
  KT H (putK kvs k y) (storedH xs k b u):=by
 have e:(kvs.any fun kv=>decide (kv.1=k))=(atKey xs k).isSome:=by
  rw[pM,(r.val k).isSome_eq,Option.isSome_map]
 unfold putK storedH
 rw[e]
 by_cases q:(atKey xs k).isSome=true
 ·rw[if_pos q,if_pos q];exact r.repl k ry
 ·rw[if_neg q,if_neg q];exact Paired.snoc r ⟨rfl,hb,ry⟩
theorem KT.keeps {H H':Hp}{kvs:List (List Key×V)}{xs:List (List Key×Addr×Value)}(r:KT H kvs xs)(ht: ∀b ys,H b=some (.tup ys)->H' b=some (.tup ys)):KT H' kvs xs:=
 Paired.mapP r fun _ _ z=>⟨z.1,ht _ _ z.2.1,z.2.2⟩
section
variable {P:Program}{w:World}{H:Hp}{h:Heap}{a:Addr}
theorem yU {u:HO}(ok:HOk P w H h)(e:Rd H a u):ObjOk P w H h a u:=e.ok ok
theorem qM {kvs:List (Key×V)}(ok:HOk P w H h)(e:Rd H a (.dK kvs)):kvs.length<=sizeLine/\(a==sysModules)=false/\ ∃vs,KV kvs vs/\h.DictOf (dz P w) a vs:=
 show ObjOk P w H h a (.dK kvs) from yU ok e
theorem Bj {kvs:List (Key×V)}(ok:HOk P w H h)(e:H a=some (.dK kvs)):kvs.length<=sizeLine/\(a==sysModules)=false/\ ∃vs,KV kvs vs/\h.DictOf (dz P w) a vs:=qM ok (.inl e)
theorem mX {ks:List Key}(ok:HOk P w H h)(e:H a=some (.tup (ks.map kV))):(tupleKind (dz P w)).is h ks a:=by
 obtain⟨_,its,r,⟨o,h1,h2,n,h3⟩,_⟩:=(show ObjOk P w H h a (.tup (ks.map kV)) from ok a _ e)
 exact⟨o,its.toArray,n,h1,h2,h3,by simpa using nX r⟩
theorem qK {kvs:List (List Key×V)}(ok:HOk P w H h)(e:Rd H a (.dT kvs)):kvs.length<=sizeLine/\(a==sysModules)=false/\
  ∃xs,KT H kvs xs/\h.DictOfH (tupleKind (dz P w)) a xs:=by
 obtain⟨z,y,xs,r,o,es,ep,h1,h2,h3,h4,h5⟩:=(show ObjOk P w H h a (.dT kvs) from yU ok e)
 refine⟨z,y,xs,r,o,es,ep,h1,h2,h3,h4,fun x hx=>?_,h5⟩
 have all: ∀ {l:List (List Key×V)}{m:List (List Key×Addr×Value)},KT H l m-> ∀x∈m,(tupleKind (dz P w)).is h x.1 x.2.1:=by
  intro l m q
  induction q with
  |nil=>intro x hx;exact nomatch hx
  | @cons p q ps qs hq t ih=>
    intro x hx
    rcases List.mem_cons.mp hx with e|hx
    ·subst e
     exact mX ok (by rw[<-hq.1];exact hq.2.1)
    ·exact ih x hx
 exact all r x hx
theorem Bi {kvs:List (List Key×V)}(ok:HOk P w H h)(e:H a=some (.dT kvs)):kvs.length<=sizeLine/\(a==sysModules)=false/\
 ∃xs,KT H kvs xs/\h.DictOfH (tupleKind (dz P w)) a xs:=qK ok (.inl e)
end
def DGet (H:Hp)(a:Addr)(y:V)(r:Option V):Prop:=
 (∃kvs k,Rd H a (.dK kvs)/\y=kV k/\r=valV kvs k)\/ ∃kvs k b,Rd H a (.dT kvs)/\y=.ref b/\H b=some (.tup (k.map kV))/\r=valV kvs k
def DPut (H:Hp)(a:Addr)(y v:V)(H':Hp):Prop:=
 (∃kvs k,H a=some (.dK kvs)/\y=kV k/\kvs.length<sizeLine/\H'=upd H a (.dK (putK kvs k v)))\/
 ∃kvs k b,H a=some (.dT kvs)/\y=.ref b/\H b=some (.tup (k.map kV))/\kvs.length<sizeLine/\H'=upd H a (.dT (putK kvs k v))
section
variable {X:Cx}{pins:List (Addr×Obj)}{σ:St}{H:Hp}{s:Shared}{a:Addr}{y v:V}{u r:Value}{o:Option V}{A:Around}{E:Value->Shared->Prop}
theorem Inv.big (I:Inv X pins σ H s):sysModules<s.heap.objs.size:=by
 have h:mainGlobals<s.heap.objs.size:=(I.mod.glob.keeps I.bk).lt
 exact Nat.lt_trans (by decide) h
theorem uO {Q:Value->Shared->Prop}(hu:A.units+1<cLine)(I:Inv X pins σ H s)(g:DGet H a y (some v))(ry:RelV y u)(h:∀w' s',Inv X pins σ H s'->RelV v w'->Q w' s'):
  wpAny (model X.prog X.w) A (getItem (.ref a) u) Q E s:=by
 rcases g with⟨kvs,k,e,ey,l⟩|⟨kvs,k,b,e,ey,eb,l⟩
 ·subst ey
  obtain⟨z,hd,vs,rel,dd⟩:=qM I.hok e
  obtain⟨w',hw,rw'⟩:=RelO.some_of (v:=v) (o:=valueAt vs k) (by rw[l];exact rel.val k)
  exact wpAny_getItem_of (qD ry) dd.mapOf hw (h w' _ (I.tok _) rw')
 ·subst ey
  cases (show u=Value.ref b from ry)
  obtain⟨z,hd,xs,rel,dd⟩:=qK I.hok e
  obtain⟨w',hw,rw'⟩:=RelO.some_of (v:=v) (o:=(atKey xs k).map (·.2)) (by rw[l];exact rel.val k)
  obtain⟨p,hp,hp2⟩:=Option.map_eq_some_iff.mp hw
  refine wpAny_getItem_heap (tupleKind_room_in1 hu) (mX I.hok eb) dd hp ?_
  rw[hp2]
  exact h w' _ (I.tok _) rw'
theorem BA {Q:Value->Shared->Prop}(hu:A.units+1<cLine)(I:Inv X pins σ H s)(g:DGet H a y o)(ry:RelV y u)(h:∀s',Inv X pins σ H s'->Q (.bool o.isSome) s'):
  wpAny (model X.prog X.w) A (compareOp .In u (.ref a)) Q E s:=by
 rcases g with⟨kvs,k,e,ey,l⟩|⟨kvs,k,b,e,ey,eb,l⟩
 ·subst ey
  obtain⟨z,hd,vs,rel,dd⟩:=qM I.hok e
  refine wpAny_in_of (qD ry) hd dd.mapOf ?_
  rw[<-(rel.val k).isSome_eq,<-l]
  exact h _ (I.tok _)
 ·subst ey
  cases (show u=Value.ref b from ry)
  obtain⟨z,hd,xs,rel,dd⟩:=qK I.hok e
  refine wpAny_in_heap (tupleKind_room_in1 hu) (mX I.hok eb) hd dd ?_
  have q:=(rel.val k).isSome_eq
  rw[Option.isSome_map] at q
  rw[<-q,<-l]
  exact h _ (I.tok _)
theorem yI {Q:Value->Shared->Prop}(hu:A.units+1<cLine)(I:Inv X pins σ H s)(g:DGet H a y o)(ry:RelV y u)(h:∀s',Inv X pins σ H s'->Q (.bool (!o.isSome)) s'):
  wpAny (model X.prog X.w) A (compareOp .NotIn u (.ref a)) Q E s:=by
 rcases g with⟨kvs,k,e,ey,l⟩|⟨kvs,k,b,e,ey,eb,l⟩
 ·subst ey
  obtain⟨z,hd,vs,rel,dd⟩:=qM I.hok e
  refine wpAny_notIn_of (qD ry) hd dd.mapOf ?_
  rw[<-(rel.val k).isSome_eq,<-l]
  exact h _ (I.tok _)
 ·subst ey
  cases (show u=Value.ref b from ry)
  obtain⟨z,hd,xs,rel,dd⟩:=qK I.hok e
  refine wpAny_notIn_heap (tupleKind_room_in1 hu) (mX I.hok eb) hd dd ?_
  have q:=(rel.val k).isSome_eq
  rw[Option.isSome_map] at q
  rw[<-q,<-l]
  exact h _ (I.tok _)
theorem tR {h':Heap}{t':Nat}{ob:HO}(I:Inv X pins σ H s)(mu:Mut (H a))(hs:Heap.SameBut a s.heap h')(he: ∃q,h'.get? a=some q)(new:ObjOk X.prog X.w (upd H a ob) h' a ob):
  Inv X pins σ (upd H a ob) {s with heap:=h',toks:=t'}:=
 I.write (x:=a) (e:=a) mu (.inl rfl) (fun b q hb z=>(hs.2 b hb).trans z) he new
theorem AI {P:Program}{w:World}{H':Hp}{h':Heap}{kvs:List (Key×V)}{vs:List (Key×Value)}(z:kvs.length<=sizeLine)(hd:(a==sysModules)=false)(rel:KV kvs vs)(dd:h'.DictOf (dz P w) a vs):
 ObjOk P w H' h' a (.dK kvs):=⟨z,hd,vs,rel,dd⟩
theorem uN {H':Hp}{Q:Unit->Shared->Prop}(hu:A.units+1<cLine)(I:Inv X pins σ H s)(g:DPut H a y v H')(ry:RelV y u)(rv:RelV v r)(h:∀s',Inv X pins σ H' s'->Q () s'):
  wpAny (model X.prog X.w) A (setItem (.ref a) u r) Q E s:=by
 rcases g with⟨kvs,k,e,ey,l,eH⟩|⟨kvs,k,b,e,ey,eb,l,eH⟩
 ·subst ey eH
  obtain⟨z,hd,vs,rel,dd⟩:=Bj I.hok e
  have hz:vs.length<=sizeLine:=by rw[<-rel.length];exact z
  have hl:(putK kvs k v).length<=sizeLine:=by have:=ly kvs k v;omega
  refine wpAny_setItem_pairs (hsz:=hz) (qD ry) dd fun h' dd' hs=>h _ ?_
  have he: ∃q,h'.get? a=some q:=let ⟨q,_,_,hq,_⟩:=dd';⟨q,hq⟩
  exact tR I (by rw[e];exact True.intro) hs he (AI hl hd (rel.put k rv) dd')
 ·subst ey eH
  cases (show u=Value.ref b from ry)
  obtain⟨z,hd,xs,rel,dd⟩:=Bi I.hok e
  have hz:xs.length<=sizeLine:=by rw[<-Paired.length rel];exact z
  have hl:(putK kvs k v).length<=sizeLine:=by have:=ly kvs k v;omega
  refine wpAny_setItem_heap (hsz:=hz) (tupleKind_room_in1 hu) (mX I.hok eb) dd fun h' dd' hs=>h _ ?_
  obtain⟨q,es,ep,hq,h2,h3,h4,_,h5⟩:=dd'
  refine tR I (by rw[e];exact True.intro) hs ⟨q,hq⟩ ⟨hl,hd,_,(rel.put k eb rv).keeps fun c ys ec=>?_,q,es,ep,hq,h2,h3,h4,h5⟩
  rw[aH (Bb ec e (fun z=>nomatch z))]
  exact ec
end
section
variable {X:Cx}{pins:List (Addr×Obj)}{σ:St}{H:Hp}{s:Shared}{a:Addr}{kvs:List (Key×V)}{k:Key}{u:Value}{A:Around}{E:Value->Shared->Prop}
end
theorem qN {X:Cx}{pins:List (Addr×Obj)}{σ:St}{H:Hp}{s:Shared}{a:Addr}{y:V}{o:Option V}(I:Inv X pins σ H s)(g:DGet H a y o):s.TypeIs (.ref a) "dict":=by
 rcases g with⟨kvs,k,e,_,_⟩|⟨kvs,k,b,e,_,_,_⟩
 ·obtain⟨_,_,vs,_,dd⟩:=qM I.hok e
  exact dd.typeIs
 ·obtain⟨_,_,xs,_,dd⟩:=qK I.hok e
  exact dd.typeIs
section
variable {X:Cx}{o i e value:Expr}{pos pos' tpos:Pos}{td ty tv:TE}
end
theorem w6 {P:Program}{w:World}{H:Hp}(h:Heap)(hb:sysModules<h.objs.size):ObjOk P w H (h.push {cls:=.type "dict",data:=.dict #[]}) h.objs.size (.dK []):=
 ⟨Nat.zero_le _,beq_eq_false_iff_ne.mpr (Ne.symm (Nat.ne_of_lt hb)),[],.nil,Heap.DictOf.new h⟩
def zq:TE:=fun _ H Q=> ∀p,H p=none->Q (.ref p) (upd H p (.dK []))
section
variable {X:Cx}{pos:Pos}
theorem pe_dnewK:PE X (.Dict [] [] pos) zq:=fun pins s σ H Q I h=>
 wpAny_Dict_empty ⟨.ref s.heap.objs.size,_,I.laid (a:=s.heap.objs.size) (o:=.dK []) (t':=s.toks) (fun _ _ q=>Heap.get?_push_of_some _ q) (Nat.le_refl _) (w6 s.heap I.big),rfl,h _ (I.hok.fresh (Nat.le_refl _))⟩
end
structure M1 (X:Cx)(o:Expr)(m:Str)(apos:Pos)(e:Expr)(cpos:Pos):Prop where
 base:attributeBase o m X.env (eval o X.env)=eval o X.env
 few:((backTo cpos (starEach [e] X.env)).all (fun x=>!x.1) && (backToKw cpos (keywordEach [] X.env)).all (fun x=>x.1.isSome)
  && decide (([e]:List Expr).length+([]:List Keyword).length+(if ([]:List Keyword).isEmpty then 0 else 1)<30))=true
 line:(apos.endLine==cpos.line)=true
 trees:backTo cpos (starEach [e] X.env)=[(false,eval e X.env)]
section
variable {X:Cx}{pins:List (Addr×Obj)}{σ:St}{H:Hp}{s:Shared}{a:Addr}{y d:V}{u r:Value}{o:Option V}{A:Around}{E:Value->Shared->Prop}
end
section
variable {X:Cx}{o e f:Expr}{apos cpos:Pos}{td ty tx:TE}
end
section
variable {X:Cx}{pins:List (Addr×Obj)}{σ:St}{H:Hp}{s:Shared}{a:Addr}{kvs:List (Key×V)}{A:Around}{E:Value->Shared->Prop}
end
section
variable {X:Cx}{pins:List (Addr×Obj)}{σ:St}{H:Hp}{s:Shared}{a:Addr}{y:V}{u:Value}{A:Around}{E:Value->Shared->Prop}
end
end
end L2
namespace Att
open PySem PySem.W PySem.Calls PyProof.Rows
theorem lG {P:Params}{h:Heap}: ∀ (ns:List Int) (vs:List Value),WellAll P h vs (ns.map WData.int)->IntsAre vs ns:=by
 intro ns
 induction ns with
 |nil=>
  intro vs w
  rw[List.map_nil] at w
  cases w
  exact .nil
 |cons n ns ih=>
  intro vs w
  rw[List.map_cons] at w
  cases w with
  |cons a b=>
   cases a
   exact .cons _ _ (ih _ b)
theorem uf {l:OpenLaw}{n:Nat}(hn:l.most=some n){P:Params}{h:Heap}{args:List WData}{vals:List Value}
  (hpre:l.row.toRowW.claim.pre args=true)(hwl:WellAll P h vals args):
  ∃a vs ns,vals=[Value.ref a]/\args=[WData.list (ns.map WData.int)]/\h.get? a=some {cls:=.type "list",data:=.seq vs.toArray}/\IntsAre vs ns/\ns.length<=n:=by
 have hsh:WShape.hasAll [] args [.list .int]=true:=(pre_splitW hpre).1
 have hc:l.pre.holds [] {args:=args}=true:=(pre_splitW hpre).2
 obtain⟨d,r,rfl,h1,h2⟩:=hasAllW_cons hsh
 obtain rfl:=hasAllW_nil h2
 obtain⟨xs,rfl,h3⟩:=hasW_list h1
 obtain⟨ns,rfl⟩:=items_int h3
 have hlen:ns.length<=n:=by
  unfold OpenLaw.pre at hc
  have h4:(WTm.not (.lt (.lit (.int (n:Int))) (.len (.arg 0)))).holds [] {args:=[.list (ns.map .int)]}=true:=by
   have h4:=(holds_andW hc).1
   rw[hn] at h4
   exact h4
  have h5:=condW_of h4 (w_not (w_lt w_lit (w_len_list (w_arg rfl))))
  rw[List.length_map] at h5
  refine Nat.le_of_not_lt fun q=>?_
  have q':(n:Int)<((ns.length:Nat):Int):=by omega
  first
   |(rw[decide_eq_true q'] at h5;exact absurd h5 (by decide))
   |(simp at h5;omega)
 cases hwl with
 |cons w1 w2=>
  cases w2
  cases w1 with
  |list ho hall=>exact⟨_,_,ns,rfl,rfl,ho,lG ns _ hall,hlen⟩
theorem uh (l:OpenLaw)(args:List WData):l.row.toRowW.claim.post args (.bool true) args=true:=
 postW_of (r:=l.row.toRowW) (X:=(true==true))
  (show WShape.has [] (.bool true) .bool=true by first|rfl|decide|simp [WShape.has,WShape.arms,WShape.armsAll])
  (show (WTm.eq .res (.lit (.bool true))).value [] {args:=args,res:=some (.bool true),after:=args}=some (.bool (true==true)) from w_eq_bool (w_res rfl) w_lit) rfl
theorem attach_call {l:OpenLaw}{n:Nat}{q:Program}{loose:List Str}{XP:(Str->Option Value)->Heap->Prop}{YP:World->Heap->Prop}{d:DefRec}
  (hn:l.most=some n)(hdf:d.params.defaults=[])
  (call: ∀ (w:World) (s₀ s₁:Shared) (mg mb:Str->Option Value) (fa:Addr) (o:Obj) (pm cd doc:Value) (a:Addr) (vs:List Value) (ns:List Int),
   Ground q loose [] XP w s₀ mg mb s₁.heap->YP w s₁.heap->
   s₁.heap.get? fa=some o->o.data=.func (docDef d.name d.params d.body d.scope pm cd doc)->s₁.heap.CodeRec cd d.name->mg d.name=some (.ref fa)->
   s₁.heap.get? a=some {cls:=.type "list",data:=.seq vs.toArray}->IntsAre vs ns->ns.length<=n->s₁.gens= #[]->
   codeAny (model l.prog w) callerA (.call (.ref fa) ⟨[.ref a],[]⟩) (fun r s'=>r=.ok (.ret (.bool true))/\OldK s₁.heap s'.heap/\s'.os=s₁.os/\AllBare s'.gens) s₁):
  WalkO q loose XP YP l.row.toRowW d [] (fun f vs=>PySem.call f vs):=by
 intro w s₀ s₁ mg mb G Y fa o pm cd doc dV kV ho hd hcd hD hmg hg args vals as hpre hlay hrd hwl hlo
 obtain rfl:dV=.none:=Dflts.none hD hdf
 obtain rfl:kV=.none:=Dflts.noKw hD
 obtain⟨a,vs,ns,rfl,rfl,hobj,hints,hlen⟩:=uf hn hpre hwl
 refine enter_call (codeAny_mono (call w s₀ s₁ mg mb fa o pm cd doc a vs ns G Y ho (fd_plain hd) hcd hmg hobj hints hlen hg) fun r s' hq=>?_)
 obtain⟨rfl,h2,h3,h4⟩:=hq
 exact⟨.inl ⟨.bool true,.bool true,[],rfl,fun _=>rfl,.bool true,uh l _,fun _=>⟨List.Pairwise.nil,fun _ hm=>(nomatch hm)⟩⟩,h2,h3,h4⟩
section
variable {prog:Program}{w:World}{A:Around}{E:Value->Shared->Prop}{s:Shared}{K:Frag}
noncomputable def By (h:Heap)(L d:Addr):List (Addr×Obj):=(List.range h.objs.size).filterMap fun a=>if a=L\/a=d then none else (h.get? a).map fun o=>(a,o)
end
end Att
namespace L2
open PySem PySem.Spec PyProof.Rows
theorem nE: ∀ {vs:List Value}{ns:List Int},IntsAre vs ns->Vals (ns.map V.int) vs
 |_,_,.nil=>.nil
 |_,_,.cons n t h=>.cons ⟨t,rfl⟩ (nE h)
def Only (H:Hp):Prop:= ∀b,H b=none\/ ∃o xs,H b=some (.frz o (.lst xs))
theorem wA {P:Program}{w:World}{K:PySem.W.Frag}{mg mb:Str->Option Value}{CX:CXT}{k:Nat}{fa a:Addr}{fd:FuncData}{x:Str}{sp:Sp}{s₁:Shared}{vs:List Value}{ns:List Int}
  (KX:K.In s₁.heap)(hns:s₁.heap.Ns mainGlobals mg)(hb:s₁.heap.Ns builtinsNs mb)(hbb: ∀x:Str,x≠ "__name__"->mb x=bootBuiltins x)(hlim:s₁.heap.NoLimit)(hg:s₁.gens= #[])
  (ha:s₁.heap.get? a=some {cls:=.type "list",data:=.seq vs.toArray})(hi:IntsAre vs ns)(hl:ns.length<=sizeLine)(hr:Room k callerA)
  (F:∀base:Heap,K.In base->base.Ns mainGlobals mg->FnOk P w K mg base CX k fa fd [x] sp)(hbind: ∀ (s:Shared) (u:Value),BindsTo s fd ⟨[u],[]⟩ [(x,u)])
  (hsp: ∀H:Hp,Only H->SqL K H a (ns.map V.int)->sp [.ref a] H (fun v _=>v=.bl true) fun _ _ _=>False)
  (hCX: ∀H e s',CX [] H s₁ (fun _ _ _=>False) e s'->False):
  codeAny (model P w) callerA (.call (.ref fa) ⟨[.ref a],[]⟩) (fun r s'=>r=.ok (.ret (.bool true))/\OldK s₁.heap s'.heap/\s'.os=s₁.os/\AllBare s'.gens) s₁:=by
 have rv:=nE hi
 have lenV:=hi.length
 have core: ∀H:Hp,Only H->SqL K H a (ns.map V.int)->HOk P w H s₁.heap->(∀b,H b≠none->b=a)->(H a≠none->K.lookup a=none)->
   codeAny (model P w) callerA (.call (.ref fa) ⟨[.ref a],[]⟩) (fun r s'=>r=.ok (.ret (.bool true))/\OldK s₁.heap s'.heap/\s'.os=s₁.os/\AllBare s'.gens) s₁:=by
  intro H hO hS hok hA hK
  have base_of: ∀ {b:Addr}{o:Obj},s₁.heap.get? b=some o->H b=none->(hidT s₁.heap H).get? b=some o:=fun e n=>wN e n
  have noA: ∀ {b:Addr}{o:Obj}{es:Array DictEntry}{ep:Nat},s₁.heap.get? b=some o->o.data=.dict es ep->H b=none:=fun{b o es ep} e d=>by
   cases q:H b with
   |none=>rfl
   |some u=>
    have e':b=a:=hA b (by rw[q];simp)
    subst e'
    rw[ha] at e;cases e
    have d':Data.seq vs.toArray _=Data.dict es ep:=d
    cases d'
  have nsK: ∀ {b:Addr}{m:Str->Option Value},s₁.heap.Ns b m->(hidT s₁.heap H).Ns b m:=fun{b m} ⟨o,es,ep,e,d,r⟩=>⟨o,es,ep,base_of e (noA e d),d,r⟩
  have hKb:K.In (hidT s₁.heap H):=fun b o e=>base_of (KX b o e) (by
   cases q:H b with
   |none=>rfl
   |some u=>
    have e':b=a:=hA b (by rw[q];simp)
    subst e'
    rw[hK (by rw[q];simp)] at e;cases e)
  have hM:Mod K mg (hidT s₁.heap H):=⟨hKb,nsK hns,⟨mb,nsK hb,hbb⟩,let ⟨mc,h1,h2⟩:=hlim;⟨mc,nsK h1,h2⟩⟩
  have e0:Env0 P w K mg (hidT s₁.heap H) callerA [] s₁ H:=⟨rfl,hM,fun b o e=>yd e,Nat.le_of_eq (uJ _ _),trivial,fun b hb=>absurd (show b∈([]:List Addr) from hb) (by simp),hok,.of_eq hg⟩
  refine codeAny_mono ((F _ hKb (nsK hns)).run callerA [] s₁ H ⟨[.ref a],[]⟩ [.ref a] [.ref a] _ _ hr e0 (hbind s₁ (.ref a)) (.cons rfl .nil) (hsp H hO hS)) fun r s' h=>?_
  cases r with
  |error e=>exact (hCX H e s' h).elim
  |ok fl=>
   cases fl with
   |next=>exact False.elim h
   |brk=>exact False.elim h
   |cont=>exact False.elim h
   |ret u=>
    obtain⟨v,H',os,bare,un,hok',r',q⟩:=h
    have q':v=.bl true:=q
    subst q'
    obtain rfl:u=Value.bool true:=r'
    refine⟨rfl,OldK.of_keep fun b o e=>?_,os,bare⟩
    cases q:H b with
    |none=>exact un.keep b o e q (by intro z;exact absurd (show b∈([]:List Addr) from z) (by simp)) (by simp)
    |some u=>
     rcases hO b with z|⟨ob,xs,z⟩
     ·rw[q] at z;cases z
     ·have z2:=un.frzs b ob _ z
      obtain⟨e1,_⟩:=hok b _ z
      obtain⟨e2,_⟩:=hok' b _ z2
      rw[e] at e1;cases e1
      exact e2
 cases hk:K.lookup a with
 |some o=>
  have e:=KX a o hk
  rw[ha] at e
  cases e
  refine core (fun _=>none) (fun _=>.inl rfl) (.inr ⟨_,vs.toArray,_,hk,rfl,rfl,rfl,by rw[List.size_toArray,lenV];exact hl,by simpa using rv⟩) (fun b u z=>by have z':(none:Option HO)=some u:=z;cases z') (fun b z=>absurd rfl z) fun z=>absurd rfl z
 |none=>
  refine core (fun b=>if b=a then some (.frz {cls:=.type "list",data:=.seq vs.toArray} (.lst (ns.map V.int))) else none) (fun b=>?_) (.inl (.inr ⟨{cls:=.type "list",data:=.seq vs.toArray},if_pos rfl⟩)) (fun b u z=>?_) (fun b z=>?_) fun _=>hk
  ·by_cases hb:b=a
   ·exact .inr ⟨_,_,if_pos hb⟩
   ·exact .inl (if_neg hb)
  ·by_cases hb:b=a
   ·have z':=(if_pos hb).symm.trans z
    cases z'
    subst hb
    exact⟨ha,by rw[List.length_map];exact hl,vs,_,rv,ha⟩
   ·have z':=(if_neg hb).symm.trans z
    cases z'
  ·by_cases hb:b=a
   ·exact hb
   ·exact absurd (if_neg hb) z
section
noncomputable abbrev KOf {K:PySem.W.Frag}{h:Heap}(_:K.In h):PySem.W.Frag:=K
theorem walk_of {l:PySem.W.OpenLaw}{n k:Nat}{q:Program}{loose:List Str}{XP:(Str->Option Value)->Heap->Prop}{YP:World->Heap->Prop}{d:DefRec}{K:Params->PySem.W.Frag}{CX:World->CXT}{sp:World->Sp}{x:Str}
  (hn:l.most=some n)(hn2:n<=sizeLine)(hdf:d.params.defaults=[])(hr:Room k callerA)
  (hY: ∀ (w:World) (h:Heap),YP w h->(K w.params).In h)
  (F:∀ (w:World) (mg:Str->Option Value) (fa:Addr) (h:Heap),(K w.params).In h->h.Ns mainGlobals mg->mg d.name=some (.ref fa)->
    ∃fd:FuncData,(∀ (s:Shared) (u:Value),BindsTo s fd ⟨[u],[]⟩ [(x,u)])/\
     ∀base:Heap,(K w.params).In base->base.Ns mainGlobals mg->FnOk l.prog w (K w.params) mg base (CX w) k fa fd [x] (sp w))
  (hsp: ∀ (w:World) (H:Hp) (a:Addr) (ns:List Int),ns.length<=n->Only H->SqL (K w.params) H a (ns.map V.int)->sp w [.ref a] H (fun v _=>v=.bl true) fun _ _ _=>False)
  (hCX: ∀ (w:World) (H:Hp) (s:Shared) (e:Value) (s':Shared),CX w [] H s (fun _ _ _=>False) e s'->False):
  PySem.W.WalkO q loose XP YP l.row.toRowW d [] (fun f vs=>PySem.call f vs):=by
 refine Att.attach_call hn hdf fun w s₀ s₁ mg mb fa o pm cd doc a vs ns G Y ho hd hcd hmg hobj hints hlen hg=>?_
 have KX:=hY w _ Y
 obtain⟨fd,hb,hF⟩:=F w mg fa _ KX G.T.g hmg
 exact wA KX G.T.g G.T.b G.T.builtins G.T.nolimit hg hobj hints (Nat.le_trans hlen hn2) hr hF hb (fun H hO hS=>hsp w H a ns hlen hO hS) fun H e s'=>hCX w H s₁ e s'
end
section
noncomputable def cR (s:Stmt)(j:Nat):Stmt:=match s with
 |.ClassDef _ _ _ body _ _ _ _ _ _ _=>body.getD j (.Pass ⟨0,0,0,0⟩)
 |_=>.Pass ⟨0,0,0,0⟩
noncomputable def kz (s:Stmt):Arguments:=match s with
 |.FunctionDef _ a _ _ _ _ _ _ _ _=>a
 |_=>{posonlyargs:=[],args:=[],vararg:=none,kwonlyargs:=[],kw_defaults:=[],kwarg:=none,defaults:=[]}
noncomputable def gK (s:Stmt):List Stmt:=match s with
 |.FunctionDef _ _ b _ _ _ _ _ _ _=>b
 |_=>[]
noncomputable def ak (s:Stmt):Scope:=match s with
 |.FunctionDef _ _ _ _ _ _ sc _ _ _=>sc
 |_=>{kind:=.function,names:=[],isGenerator:=false,isCoroutine:=false}
noncomputable abbrev CX0:CXT:=fun _ _ _ _ _ _=>False
noncomputable abbrev E0:XK:=fun _ _ _=>False
theorem pass0 {X:Cx}:iL CX0 X E0:=fun _ _ _ _ _ _ _ h=>h.elim
structure Fun (K:PySem.W.Frag)(x qual:Str)(st:Stmt)(f:Addr)(fd:FuncData):Prop where
 ex: ∃ (oc:Value) (od:Option Addr) (kV doc pm:Value) (an:Option Addr) (cdv ct:Value) (osl:Array (Option Value)),
  fd=fnOf x qual (kz st) (gK st) (ak st) .none kV doc pm an cdv ct/\K.lookup f=some ⟨oc,od,.func fd,osl⟩/\PySem.W.codeIn K cdv qual=true
 kp:keepIn K (.ref f)=true
section
variable {P:Program}{w:World}{K:PySem.W.Frag}{mg:Str->Option Value}{base:Heap}
theorem Fun.ok {x qual:Str}{st:Stmt}{f:Addr}{fd:FuncData}{N ps:List Str}{k:Nat}{sp:Sp}(F:Fun K x qual st f fd)(S:FnScope N ps (ak st))(len: ∀vs H Q E,sp vs H Q E->vs.length=ps.length)
  (hbody: ∀ (cdv:Value) (A:Around) (outer:List Env) (s:Shared) (H:Hp) (vs:List V) (Q:VK) (E:XK),Room k (A.deeper (envOfC qual (ak st) s.heap.objs.size f cdv))->sp vs H Q E->
   ∃t,PSs (cxOf CX0 P w K mg base N qual (ak st) f cdv A outer s H E).nox (gK st) t/\t {nx:=fun _ H'=>Q .non H',rt:=Q} (start N vs) H):FnOk P w K mg base CX0 (k+1) f fd ps sp:=by
 obtain⟨oc,od,kV,doc,pm,an,cdv,ct,osl,rfl,lk,hcd⟩:=F.ex
 refine y6 lk hcd S len fun A outer s H vs Q E hr hsp=>?_
 obtain⟨t,h,q⟩:=hbody cdv A outer s H vs Q E hr hsp
 exact⟨t,h.nox,q⟩
theorem Fun.binds {x qual:Str}{st:Stmt}{f:Addr}{fd:FuncData}{ps:List Str}(F:Fun K x qual st f fd)
  (h:∀ (kV doc pm:Value) (an:Option Addr) (cdv ct:Value) (us:List Value),us.length=ps.length->bindArgs (fnOf x qual (kz st) (gK st) (ak st) .none kV doc pm an cdv ct) ⟨us,[]⟩=pure (ps.zip us)):Binds K fd ps []:=by
 obtain⟨oc,od,kV,doc,pm,an,cdv,ct,osl,rfl,lk,hcd⟩:=F.ex
 exact .all (h kV doc pm an cdv ct)
theorem AD {x qual:Str}{st:Stmt}{f:Addr}{oc:Value}{od an:Option Addr}{osl:Array (Option Value)}{kV doc pm cdv ct:Value}(l:K.lookup f=some ⟨oc,od,.func (fnOf x qual (kz st) (gK st) (ak st) .none kV doc pm an cdv ct),osl⟩)
 (c:PySem.W.codeIn K cdv qual=true)(k:keepIn K (.ref f)=true):Fun K x qual st f (fnOf x qual (kz st) (gK st) (ak st) .none kV doc pm an cdv ct):=⟨⟨oc,od,kV,doc,pm,an,cdv,ct,osl,rfl,l,c⟩,k⟩
end
theorem bJ {A:Around}{k:Nat}(hr:Room k A):A.units+1<cLine:=Nat.lt_of_le_of_lt (Nat.add_le_add_left (by decide:1<=64) _) hr.units
theorem kK {n:Nat}(h:n<=1000):n<sizeLine:=Nat.lt_of_le_of_lt h (by decide)
section
variable {X:Cx}
theorem pv (i:Nat){x:Str}{pos:Pos}(hN:X.N[i]?=some x:=by rfl)(hv:Vis X.env.scope x:=by first|exact Or.inl rfl|exact Or.inr (Or.inl rfl)|exact Or.inr (Or.inr rfl))(hd:(x==("__debug__":Str))=false:=by decide)
 (hcd:(x==("__classdict__":Str))=false:=by decide):PE X (.Name x pos) (tVar i):=zM hN hv hd hcd
end
theorem iteF {A B:Prop}(h:B):if false=true then A else B:=by
 rw[if_neg Bool.false_ne_true]
 exact h
theorem iteT {A B:Prop}(h:A):if true=true then A else B:=by
 rw[if_pos rfl]
 exact h
theorem ite2 {c A B:Prop} [Decidable c] (h1:c->A)(h2: ¬c->B):if c then A else B:=by
 by_cases h:c
 ·rw[if_pos h]
  exact h1 h
 ·rw[if_neg h]
  exact h2 h
def Same (H H':Hp):Prop:= ∀b o,H b=some o->H' b=some o
theorem Same.refl (H:Hp):Same H H:=fun _ _ h=>h
section
variable {κ:Type} [DecidableEq κ]
end
end
section
theorem nk {α β:Type}{f:α->β->Sem (ForInStep β)}(g:α->β->β): ∀ (l:List α) (c:β),(∀x∈l,∀c,f x c=pure (.yield (g x c)))->forIn l c f=pure (l.foldl (fun c x=>g x c) c)
 |[],_,_=>rfl
 |x::l,c,h=>by
  rw[List.forIn_cons,h x List.mem_cons_self,pure_bind]
  exact nk g l (g x c) fun y hy=>h y (List.mem_cons_of_mem _ hy)
noncomputable def dD (env:Env)(p:Str×NameKind)(cs:List (Str×Addr)):List (Str×Addr):=if (p.2==NameKind.free)=true then (p.1,(env.cells.lookup p.1).getD 0)::cs else cs
def cloOf (scope:Scope)(env:Env):List (Str×Addr):=scope.names.foldl (fun c x=>dD env x c) []
theorem sf {scope:Scope}{env:Env}(h:∀p∈scope.names,p.2=.free-> ∃c,env.cells.lookup p.1=some c):closureFor scope env=pure (cloOf scope env):=by
 unfold cloOf
 simp only[closureFor]
 rw[nk (dD env)]
 ·rfl
 ·intro x hx c
  obtain⟨n,k⟩:=x
  by_cases hk:k=.free
  ·subst hk
   obtain⟨a,ha⟩:=h _ hx rfl
   have ha:env.cells.lookup n=some a:=ha
   simp [dD,cellOf,ha]
  ·have:(k==NameKind.free)=false:=by simpa using hk
   simp [dD,this]
theorem nt (env:Env): ∀ (l:List (Str×NameKind)) (c:List (Str×Addr)),(∀p∈l,p.2=.free-> ∃a,env.cells.lookup p.1=some a)->
  (∀y a,c.lookup y=some a->env.cells.lookup y=some a)-> ∀y a,(l.foldl (fun c x=>dD env x c) c).lookup y=some a->env.cells.lookup y=some a
 |[],_,_,h,y,a,e=>h y a e
 |(n,k)::r,c,hf,h,y,a,e=>by
  refine nt env r (dD env (n,k) c) (fun p hp=>hf p (List.mem_cons_of_mem _ hp)) (fun z b q=>?_) y a e
  unfold dD at q
  split at q
  ·rename_i hk
   obtain⟨d,hd⟩:=hf (n,k) List.mem_cons_self (by simpa using hk)
   have hd:env.cells.lookup n=some d:=hd
   rw[List.lookup_cons] at q
   split at q
   ·rename_i hz
    have:z=n:=by simpa using hz
    subst this
    rw[hd] at q ⊢
    simpa using q
   ·exact h z b q
  ·exact h z b q
theorem qR (env:Env): ∀ (l:List (Str×NameKind)) (c:List (Str×Addr)) (y:Str),(∃a,c.lookup y=some a)-> ∃a,(l.foldl (fun c x=>dD env x c) c).lookup y=some a
 |[],_,_,h=>h
 |(n,k)::r,c,y,h=>by
  refine qR env r _ y ?_
  show∃a,(dD env (n,k) c).lookup y=some a
  unfold dD
  split
  ·rw[List.lookup_cons]
   split
   ·exact⟨_,rfl⟩
   ·exact h
  ·exact h
theorem tW (env:Env): ∀ (l:List (Str×NameKind)) (c:List (Str×Addr)) (y:Str),(y,NameKind.free)∈l-> ∃a,(l.foldl (fun c x=>dD env x c) c).lookup y=some a
 |(n,k)::r,c,y,h=>by
  rcases List.mem_cons.mp h with e|h
  ·obtain⟨rfl,rfl⟩:=Prod.mk.inj e
   refine qR env r _ y ⟨(env.cells.lookup y).getD 0,?_⟩
   show (dD env (y,.free) c).lookup y=_
   unfold dD
   rw[if_pos (by rfl),List.lookup_cons]
   simp
  ·exact tW env r _ y h
structure CScope (X:Cx)(ls:List Str)(scope:Scope):Prop where
 kind:scope.kind=.function
 nocell: ∀y∈scope.names,y.2≠.cell
 names: ∀y∈scope.names,y.2=.local ->scope.names.lookup y.1=some .local
 loc: ∀y,scope.names.lookup y=some .local ->y∈ls
 free: ∀y∈scope.names,y.2=.free->X.env.kindOf y.1=some .cell\/X.env.kindOf y.1=some .free
 noq: ∀y∈ls,∀k,scope.names.lookup ⟨#[63]++y.cps⟩≠some k
noncomputable def hid (ls:List Str)(y:Str):Str:=if ls.contains y then⟨#[63]++y.cps⟩ else y
def cxC (X:Cx)(ls:List Str)(scope:Scope)(C:Addr)(s2:Shared)(H2:Hp)(fp:List Addr):Cx where
 prog:=X.prog
 w:=X.w
 K:=X.K
 mg:=X.mg
 base:=X.base
 A:=X.A
 N:=ls++X.N.map (hid ls)
 s₀:=s2
 H₀:=H2
 env:=compEnvC scope (cloOf scope X.env) C X.env
 outer:=X.stack
 stack:=X.stack
 ex:=fp
 calm:=X.calm
 fn:=fun _=>false
 pn:=[]
 xe:=fun _ _=>False
theorem df {env:Env}{y:Str}: ∀ {names:List (Str×NameKind)}{k:NameKind},(names.map fun (n,k)=>if (k==NameKind.free && env.scope.kind==.function && env.kindOf n==some .cell) then (n,NameKind.cell) else (n,k)).lookup y=some k->
  names.lookup y=some k\/(names.lookup y=some .free/\k=.cell)
 |[],_,h=>by simp at h
 |(n,j)::r,k,h=>by
  have ih:= @df env y r k
  replace h:List.lookup y ((if (j==NameKind.free && env.scope.kind==.function && env.kindOf n==some .cell)=true then (n,NameKind.cell) else (n,j))::(r.map fun (n,k)=>if (k==NameKind.free && env.scope.kind==.function && env.kindOf n==some .cell) then (n,NameKind.cell) else (n,k)))=some k:=h
  by_cases hc:(j==NameKind.free && env.scope.kind==.function && env.kindOf n==some .cell)=true
  ·rw[if_pos hc,List.lookup_cons] at h
   rw[List.lookup_cons]
   cases hx:y==n with
   |true=>
    rw[hx] at h
    simp only[Bool.and_eq_true] at hc
    have hj:j=.free:=by simpa using hc.1.1
    subst hj
    have h:some NameKind.cell=some k:=h
    cases h
    exact .inr ⟨rfl,rfl⟩
   |false=>
    rw[hx] at h
    exact ih h
  ·rw[if_neg hc,List.lookup_cons] at h
   rw[List.lookup_cons]
   cases hx:y==n with
   |true=>rw[hx] at h;exact .inl h
   |false=>rw[hx] at h;exact ih h
def hides (N ls:List Str)(σ:St):Bool:=true
theorem uH {X:Cx}{pins:List (Addr×Obj)}{σ:St}{H2:Hp}{s2:Shared}{ls:List Str}{scope:Scope}{fp:List Addr}{C:Addr}{h1:Heap}{m:Str->Option Value}{tk:Nat}
  (I:Inv X pins σ H2 s2)(S:CScope X ls scope)(hh:hides X.N ls σ=true)(f2: ∀b∈fp,FpOk X pins H2 b)(ho: ∀b∈fp,∃o,s2.heap.get? b=some o)(hC:s2.heap.objs.size<=C)(hn:h1.Ns C m)
  (old: ∀b o,s2.heap.get? b=some o->h1.get? b=some o):
  Inv (cxC X ls scope C s2 H2 fp) [] (List.replicate ls.length none++σ) H2 {s2 with heap:=h1,toks:=tk}:=by
 have cf: ∀p∈scope.names,p.2=.free-> ∃c,X.env.cells.lookup p.1=some c:=fun p hp e=>I.ok.has _ (S.free p hp e)
 have c1: ∀y a,(cloOf scope X.env).lookup y=some a->X.env.cells.lookup y=some a:=nt X.env scope.names [] cf (fun y a e=>by simp at e)
 have c2: ∀y,scope.names.lookup y=some .free-> ∃a,(cloOf scope X.env).lookup y=some a:=fun y hy=>tW X.env scope.names [] y (PySem.mem_of_lookup hy)
 have lt2: ∀b∈fp,b<s2.heap.objs.size:=fun b hb=>let ⟨o,e⟩:=ho b hb;Heap.lt_size e
 have kinds: ∀y k,(relabel scope X.env).names.lookup y=some k->k=.cell\/k=.free->scope.names.lookup y=some .free:=fun y k h hk=>by
  rcases df (env:=X.env) h with q|⟨q,_⟩
  ·rcases hk with rfl|rfl
   ·exact absurd rfl (S.nocell _ (PySem.mem_of_lookup q))
   ·exact q
  ·exact q
 refine⟨⟨I.ok.mod,S.kind,I.ok.glob,I.ok.blt,hC,fun x y c e1 e2=>I.ok.inj x y c (c1 x c e1) (c1 y c e2),fun x hx=>?_,fun x c h=>absurd h Bool.false_ne_true,I.ok.hd,I.ok.frames,.inl rfl,fun b hb=>⟨?_,fun x c e=>(f2 b hb).2.2.2.2.1 x c (c1 x c e)⟩,I.bs,Nat.le_trans I.ok.bsz I.sz,fun b o e hb=>?_,fun b hb hz=>?_,I.stack,I.stkFree⟩,
  rfl,I.bare,Un.kept old,⟨m,hn,fun i y v e1 e2 e3=>?_⟩,fun x c e=>?_,I.hok.fresh hC,fun x c e=>I.freeC x c (c1 x c e),fun p hp=>absurd (show p∈([]:List (Addr×Obj)) from hp) (by simp),I.hok.kept old,?_⟩
 ·have hx:(relabel scope X.env).names.lookup x=some .cell\/(relabel scope X.env).names.lookup x=some .free:=hx
  rcases hx with hx|hx
  ·exact c2 x (kinds x _ hx (.inl rfl))
  ·exact c2 x (kinds x _ hx (.inr rfl))
 ·exact Nat.ne_of_lt (Nat.lt_of_lt_of_le (lt2 b hb) hC)
 ·rcases (f2 b hb).2.2.2.1 with z|z
  ·exact I.ok.noex b o e z
  ·exact absurd (Nat.lt_of_lt_of_le (Heap.lt_size e) (Nat.le_trans I.ok.bsz z)) (Nat.lt_irrefl _)
 ·rcases List.mem_cons.mp (I.stkSub b hz) with z|z
  ·exact (f2 b hb).2.1 z
  ·exact (f2 b hb).2.2.1 z
 ·have e1:(ls++X.N.map (hid ls))[i]?=some y:=e1
  by_cases hi:i<ls.length
  ·rw[List.getElem?_append_left (by simpa using hi),List.getElem?_replicate] at e2
   rw[if_pos hi] at e2
   cases e2
  ·rw[List.getElem?_append_right (by omega)] at e1
   rw[List.getElem?_append_right (by simpa using hi),List.length_replicate] at e2
   rw[List.getElem?_map] at e1
   obtain⟨y0,e1',ey⟩:=Option.map_eq_some_iff.mp e1
   have e3:(relabel scope X.env).names.lookup y=some .local \/(relabel scope X.env).names.lookup y=some .cell\/(relabel scope X.env).names.lookup y=some .free:=e3
   have ny:y0 ∉ ls:=fun hm=>by
    unfold hid at ey
    rw[if_pos (by simpa using hm)] at ey
    subst ey
    have no: ∀k,(relabel scope X.env).names.lookup ⟨#[63]++y0.cps⟩=some k->False:=fun k q=>by
     rcases df (env:=X.env) q with z|⟨z,_⟩
     ·exact S.noq y0 hm _ z
     ·exact S.noq y0 hm _ z
    rcases e3 with q|q|q<;>exact no _ q
   unfold hid at ey
   rw[if_neg (by simpa using ny)] at ey
   rw[ey] at e1' ny
   have e1:=e1'
   have fr:scope.names.lookup y=some .free:=by
    rcases e3 with q|q|q
    ·rcases df (env:=X.env) q with z|⟨_,z⟩
     ·exact absurd (S.loc y z) ny
     ·cases z
    ·exact kinds y _ q (.inl rfl)
    ·exact kinds y _ q (.inr rfl)
   have kx:=S.free _ (PySem.mem_of_lookup fr) rfl
   obtain⟨m2,_,hl⟩:=I.loc
   obtain⟨u,r,l⟩:=hl _ y v e1 e2 (.inr kx)
   refine⟨u,r,?_⟩
   have knd:(relabel scope X.env).names.lookup y=some .cell\/(relabel scope X.env).names.lookup y=some .free:=by
    rcases e3 with q|q
    ·rcases df (env:=X.env) q with z|⟨_,z⟩
     ·exact absurd (S.loc y z) ny
     ·cases z
    ·exact q
   rcases l with⟨k1,_⟩|⟨_,c,hc,hcell⟩
   ·have kx:X.env.kindOf y=some .cell\/X.env.kindOf y=some .free:=kx
    rcases kx with z|z<;>(rw[k1] at z;cases z)
   ·obtain⟨c',hc'⟩:=c2 y fr
    have:=c1 y c' hc'
    rw[hc] at this
    cases this
    refine .inr ⟨knd,c,hc',?_⟩
    obtain⟨o,ho,hd⟩:=hcell
    exact⟨o,old _ _ ho,hd⟩
 ·obtain⟨v,o,ho,hd⟩:=I.cell x c (c1 x c e)
  exact⟨v,o,old _ _ ho,hd⟩
 ·show (List.replicate ls.length none++σ).length=(ls++X.N.map (hid ls)).length
  rw[List.length_append,List.length_append,List.length_replicate,List.length_map,I.len]
theorem wJ {X:Cx}{pins:List (Addr×Obj)}{σ σ':St}{H2 H3:Hp}{s2 s':Shared}{ls:List Str}{scope:Scope}{fp:List Addr}{C D:Addr}{h':Heap}{ys:List V}{its:List Value}{n:Nat}{pl:List (Addr×Obj)}
  (I:Inv X pins σ H2 s2)(f2: ∀b∈fp,FpOk X pins H2 b)(J:Inv (cxC X ls scope C s2 H2 fp) pl σ' H3 s')(hD:s2.heap.objs.size<=D)(hC:s2.heap.objs.size<=C)(hDC:D≠C)
  (sb:Heap.SameBut C s'.heap h')(hD3:H3 D=none)(e:s'.heap.get? D=some {cls:=.type "list",data:=.seq its.toArray n})(r:Vals ys its)(z:ys.length<=sizeLine):Inv X pins σ (upd H3 D (.lst ys)) {s' with heap:=h'}:=by
 have ext: ∀b o,b≠C->s'.heap.get? b=some o->h'.get? b=some o:=fun b o hb e=>sb.extBut b o hb e
 have neD: ∀b,b<s2.heap.objs.size->b≠D:=fun b hb=>Nat.ne_of_lt (Nat.lt_of_lt_of_le hb hD)
 have neC: ∀b,b<s2.heap.objs.size->b≠C:=fun b hb=>Nat.ne_of_lt (Nat.lt_of_lt_of_le hb hC)
 have lt: ∀b u,H2 b=some u->b<s2.heap.objs.size:=fun b u q=>by
  apply Classical.byContradiction
  intro hb
  have:=I.hok.fresh (Nat.le_of_not_lt hb)
  rw[this] at q
  cases q
 have fC:H3 C=none:=J.free
 refine I.call' (s':={s' with heap:=h'}) (ch:=fp) J.os ⟨fun b o q n hb hx=>?_,fun b o q n hb hx=>?_,fun b o q n hx=>?_,fun b o q hx=>?_,fun b xs q=>?_,fun b o u q=>?_,fun b ps q=>?_⟩ (fun b u q=>?_) J.bare fun b hb=>?_
 ·exact ext b o (neC b (Heap.lt_size q)) (J.base.keep b o q n hb hx)
 ·obtain⟨sl,w⟩:=J.base.slot b o q n hb hx
  exact⟨sl,ext b _ (neC b (Heap.lt_size q)) w⟩
 ·rw[aH (neD b (Heap.lt_size q))]
  exact J.base.free b o q n hx
 ·obtain⟨o',w⟩:=J.base.there b o q hx
  exact⟨o',ext b _ (neC b (Heap.lt_size q)) w⟩
 ·rw[aH (neD b (lt b _ q))];exact J.base.tups b xs q
 ·rw[aH (neD b (lt b _ q))];exact J.base.frzs b o u q
 ·rw[aH (neD b (lt b _ q))];exact J.base.tbls b ps q
 ·by_cases hb:b=D
  ·subst hb
   rw[bb] at q
   cases q
   exact⟨z,its,n,r,ext _ _ hDC e⟩
  ·rw[aH hb] at q
   have ne1:b≠C:=fun w=>by rw[w,fC] at q;cases q
   have ow: ∀c u,H3 c=some u->c≠D:=fun c u w z=>by rw[z,hD3] at w;cases w
   have oc: ∀c u,H3 c=some u->c≠C:=fun c u w z=>by rw[z,fC] at w;cases w
   refine (J.hok b u q).stay (fun c v hc w=>ext c v ?_ w) (fun c w=>by rw[aH (ow c _ w)];exact w) fun c xs w=>by rw[aH (ow c _ w)];exact w
   rcases hc with rfl|hc
   ·exact ne1
   ·exact oc c _ hc
 ·obtain⟨a1,a2,a3,a4,a5,a6⟩:=f2 b hb
  exact⟨a4,a2,a5,a6⟩
def PIfs (X:Cx)(ifs:List Expr)(t:TT):Prop:=
 ∀ (pins:List (Addr×Obj)) (s:Shared) (σ:St) (H:Hp) (Q:Bool->Hp->Prop),Inv X pins σ H s->t σ H Q->
   wpAny (model X.prog X.w) X.A (forIn ifs true fun c r=>if r=true then do let ok<-isTrue c X.env (eval c X.env);pure (ForInStep.yield ok) else pure (ForInStep.yield r)) (TP X pins σ Q) X.xe s
def tYes:TT:=fun _ H Q=>Q true H
theorem oM {X:Cx}:PIfs X [] tYes:=fun _ _ _ H _ I h=>wpAny_tests_nil ⟨H,I,h⟩
theorem xO {X:Cx}{c:Expr}{t:TT}(h:PT X c t):PIfs X [c] t:=fun pins s σ H Q I q=>wpAny_tests_one (h pins s σ H Q I q)
def CompW (J:It)(ls:List Str)(g:TG)(tt:TT)(te:TE)(σ:St)(H1:Hp)(Q:VK):Prop:= ∃W:Nat->Nat->List V->Hp->Prop,(∃m,W 0 m [] H1)/\ ∀i m ys H,W i m ys H->
 (J.stop i H/\ ∀D,H D=none->Q (.ref D) (upd H D (.lst ys)))\/
 (J.go i H/\ ∃R:List V->Hp->Prop,(∀ys' H',R ys' H'-> ∃m',m'<m/\W (i+1) m' ys' H')/\ ∀y H',J.yld i H y H'->
  g y (List.replicate ls.length none++σ) H' fun σ2 H2=>σ2.drop ls.length=σ/\σ2.length=ls.length+σ.length/\tt σ2 H2 fun b H3=>if b=true then te σ2 H3 fun v H4=>ys.length<sizeLine/\R (ys++[v]) H4 else R ys H3)
def tComp (N ls:List Str)(wi:TI)(g:TG)(tt:TT)(te:TE):TE:=fun σ H Q=>hides N ls σ=true/\wi σ H fun J H1=>CompW J ls g tt te σ H1 Q
theorem ja {prog:Program}{w:World}{A:Around}{R:Result->Shared->Prop}{s:Shared}{elt target iter:Expr}{ifs:List Expr}{scope:Scope}{pos:Pos}{it acc:Value}{env:Env}(I:Nat->Shared->Prop)
  (turn: ∀n s,I n s->wpAny (model prog w) A (pyNext it) (fun r s₁=>match r with
   |none=>R (.ok .next) s₁
   |some v=>wpAny (model prog w) A (letOwnedTupleGo target it v) (fun _ s₁=>wpAny (model prog w) A (assign target env v) (fun _ s₂=>
    wpAny (model prog w) A (forIn ifs true fun c r=>if r=true then do let ok<-isTrue c env (eval c env);pure (ForInStep.yield ok) else pure (ForInStep.yield r)) (fun ok s₃=>
     if ok=true then wpAny (model prog w) A (eval elt env) (fun x s₄=>
      wpAny (model prog w) A (call (.builtin "list.append") [acc,x]) (fun _ s₅=> ∃m,m<n/\I m s₅) (notedBy (model prog w) A env fun e s'=>R (.error e) s') s₄) (notedBy (model prog w) A env fun e s'=>R (.error e) s') s₃
     else∃m,m<n/\I m s₃) (notedBy (model prog w) A env fun e s'=>R (.error e) s') s₂) (notedBy (model prog w) A env fun e s'=>R (.error e) s') s₁) (notedBy (model prog w) A env fun e s'=>R (.error e) s') s₁) (notedBy (model prog w) A env fun e s'=>R (.error e) s') s)
  (n:Nat)(h:I n s):
  codeAny (model prog w) A (.compLoop (.ListComp elt [⟨target,iter,ifs,0⟩] scope pos) 0 it acc env) R s:=by
 refine codeAny_loop rfl I (fun n s hI=>?_) n h
 show wpAny _ A ((compTurn (.ListComp elt [⟨target,iter,ifs,0⟩] scope pos) 0 it acc env).onRaise (fun x=>do noteFrame x env;theTreesLotGoes x)) _ _ s
 refine wpAny_noted ?_
 rw[compTurn_list]
 refine wpAny_bind (wpAny_standAt (wpAny_bind (wpAny_mono (turn n s hI) (fun r s₁ h₁=>?_) fun _ _ h'=>h')))
 cases r with
 |none=>exact wpAny_pure h₁
 |some v=>
  refine wpAny_bind (wpAny_mono h₁ (fun _ s₁ h₁=>?_) fun _ _ h'=>h')
  refine wpAny_bind (wpAny_mono h₁ (fun _ s₂ h₂=>wpAny_bind (wpAny_mono h₂ (fun ok s₃ h₃=>?_) fun _ _ h'=>h')) fun _ _ h'=>h')
  cases ok with
  |false=>exact wpAny_pure ⟨rfl,h₃⟩
  |true=>
   exact wpAny_bind (wpAny_bind (wpAny_mono h₃ (fun x s₄ h₄=>wpAny_bind (wpAny_mono h₄ (fun _ s₅ h₅=>wpAny_pure (wpAny_pure ⟨rfl,h₅⟩)) fun _ _ h'=>h')) fun _ _ h'=>h'))
theorem thx {α:Type}{t:Sem α}{Q Q':α->Shared->Prop}{M:Model}{A:Around}{E:Value->Shared->Prop}{s:Shared}(h:wpAny M A t Q (fun _ _=>False) s)(hQ: ∀a s,Q a s->Q' a s):wpAny M A t Q' E s:=wpAny_mono h hQ fun _ _ x=>x.elim
section
variable {X:Cx}{elt iter tg:Expr}{ifs:List Expr}{scope:Scope}{pos:Pos}{ls:List Str}{wi:TI}{g:TG}{tt:TT}{te:TE}
theorem n9 {use:Option (Value->Sem Unit)}{pins:List (Addr×Obj)}{s:Shared}{σ:St}{H:Hp}{Q:VK}{QQ:Value->Shared->Prop}{pos':Pos}(hcalm:X.calm=true)(S:CScope X ls scope)(hi:PI X tg iter wi)
  (hg: ∀C s2 H2 fp,PG (cxC X ls scope C s2 H2 fp) tg g)(ht: ∀C s2 H2 fp,PIfs (cxC X ls scope C s2 H2 fp) ifs tt)(he: ∀C s2 H2 fp,PE (cxC X ls scope C s2 H2 fp) elt te)
  (hs: ∀x,foldedSetIterable iter X.env x=pure x)(I:Inv X pins σ H s)(h:tComp X.N ls wi g tt te σ H Q)
  (hQQ: ∀ (D C:Addr) (s':Shared) (H':Hp),(∃m,s'.heap.Ns C m)->FpOk X pins H' C->(∀h',Heap.SameBut C s'.heap h'->Inv X pins σ H' {s' with heap:=h'})->Q (.ref D) H'->compPost (model X.prog X.w) X.A X.xe use QQ (.ref D) C (.ok .next) s'):
  wpAny (model X.prog X.w) X.A (comprehension (.ListComp elt [⟨tg,iter,ifs,0⟩] scope pos) scope X.env pos' (newList []) false (eval iter X.env) use) QQ X.xe s:=by
 obtain⟨hh,h⟩:=h
 have cf: ∀p∈scope.names,p.2=.free-> ∃c,X.env.cells.lookup p.1=some c:=fun p hp e=>I.ok.has _ (S.free p hp e)
 refine wpAny_comprehension_free (use:=use) rfl hs (sf cf) S.kind S.names (thn (hi pins s σ H _ I h) fun v s1 h1=>thn h1 fun itv s2 h2=>?_)
 obtain⟨it,fp,tn,J,H2,rfl,I2,T,st2,f2,W,⟨m0,w0⟩,turn⟩:=h2
 refine wpAny_newObj_type (wpAny_newFunctionEnv S.nocell (by intro y hy;simp at hy) (fun h₁ hns₁ hsb₁=>?_) S.kind)
 dsimp only at hns₁ hsb₁ ⊢
 generalize hH2:s2.heap.push {cls:=.type "list",dict:=none,data:=.seq ([]:List Value).toArray}=G2 at hns₁ hsb₁ ⊢
 have hC:G2.objs.size=s2.heap.objs.size+1:=by rw[<-hH2,Heap.size_push]
 have hDC:s2.heap.objs.size≠G2.objs.size:=by rw[hC];exact Nat.ne_of_lt (Nat.lt_succ_self _)
 have hCle:s2.heap.objs.size<=G2.objs.size:=by rw[hC];exact Nat.le_succ _
 have old: ∀b o,s2.heap.get? b=some o->h₁.get? b=some o:=fun b o e=>hsb₁.extBut b o (Nat.ne_of_lt (Nat.lt_of_lt_of_le (Heap.lt_size e) hCle)) (Heap.get?_push_of_some _ (hH2▸Heap.get?_push_of_some _ e))
 have hacc:h₁.get? s2.heap.objs.size=some {cls:=.type "list",data:=.seq ([]:List Value).toArray}:=hsb₁.extBut _ _ hDC (Heap.get?_push_of_some _ (hH2▸Heap.get?_push_size _ rfl))
 have hobj: ∀b∈fp,∃o,s2.heap.get? b=some o:=fun b hb=>let ⟨o,e,_⟩:=T.obj 0 _ st2 b hb;⟨o,e⟩
 have ltf: ∀b∈fp,b<s2.heap.objs.size:=fun b hb=>let ⟨o,e⟩:=hobj b hb;Heap.lt_size e
 have nofD:s2.heap.objs.size ∉ (cxC X ls scope G2.objs.size s2 H2 fp).fs:=fun z=>by
  rcases List.mem_cons.mp (I2.stkSub _ z) with z|z
  ·exact absurd I2.lt (by rw[<-z];exact Nat.lt_irrefl _)
  ·exact I2.nofs (Nat.le_refl _) z
 have st1:tn 0 h₁:=T.keep 0 _ _ st2 fun b _ o e=>old b o e
 have J0: ∀tk,Inv (cxC X ls scope G2.objs.size s2 H2 fp) [] (List.replicate ls.length none++σ) H2 {s2 with heap:=h₁,toks:=tk}:=fun tk=>uH I2 S hh f2 hobj hCle hns₁ old
 have fpY: ∀ (Hx:Hp) (pl:List (Addr×Obj)),(∀b∈fp,Hx b=none)->(∀p∈pl,s2.heap.objs.size<=p.1)-> ∀b∈fp,FpOk (cxC X ls scope G2.objs.size s2 H2 fp) pl Hx b:=fun Hx pl hx hp b hb=>
  ⟨hx b hb,((J0 0).ok.exf b hb).1,(J0 0).ok.exfs b hb,.inl hb,((J0 0).ok.exf b hb).2,fun p hpp=>by
   have hpp:p∈pl:=by simpa [cxC] using hpp
   exact Nat.ne_of_gt (Nat.lt_of_lt_of_le (ltf b hb) (hp p hpp))⟩
 have loop: ∀s₃:Shared,s₃={s2 with heap:=h₁,toks:=s2.toks+([]:List (Str×Value)).length}->
   codeAny (model X.prog X.w) X.A (.compLoop (.ListComp elt [⟨tg,iter,ifs,0⟩] scope pos) 0 (.ref it) (.ref s2.heap.objs.size) (compEnvC scope (cloOf scope X.env) G2.objs.size X.env))
    (compPost (model X.prog X.w) X.A X.xe use QQ (.ref s2.heap.objs.size) G2.objs.size) s₃:=by
  rintro s₃ rfl
  refine ja (fun n s'=> ∃ (i:Nat) (ys:List V) (its:List Value) (k:Nat) (H':Hp),Inv (cxC X ls scope G2.objs.size s2 H2 fp) [] (List.replicate ls.length none++σ) H' s'/\tn i s'.heap/\(∀b∈fp,H' b=none)/\H' s2.heap.objs.size=none/\
   s'.heap.get? s2.heap.objs.size=some {cls:=.type "list",data:=.seq its.toArray k}/\Vals ys its/\ys.length<=sizeLine/\W i n ys H') ?_ m0
   ⟨0,[],[],0,H2,J0 _,st1,fun b hb=>(f2 b hb).1,I2.hok.fresh (Nat.le_refl _),hacc,.nil,Nat.zero_le _,w0⟩
  rintro n s3 ⟨i,ys,its,k,H3,I3,st3,fr3,d3,e3,r3,z3,w3⟩
  have big: ∀p∈[((s2.heap.objs.size:Addr),({cls:=.type "list",data:=.seq its.toArray k}:Obj))],s2.heap.objs.size<=p.1:=fun p hp=>by
   have this:=List.mem_singleton.mp hp
   subst this
   exact Nat.le_refl _
  rcases turn i n ys H3 w3 with⟨stop,qn⟩|⟨go,R,hR,step⟩
  ·
   have P3:Inv (cxC X ls scope G2.objs.size s2 H2 fp) [(s2.heap.objs.size,{cls:=.type "list",data:=.seq its.toArray k})] (List.replicate ls.length none++σ) H3 s3:=I3.pins_of fun p hp=>by
    have this:=List.mem_singleton.mp hp
    subst this
    exact⟨e3,d3,hDC,nofD,fun v z=>by cases z⟩
   refine thx (T.done (cxC X ls scope G2.objs.size s2 H2 fp) rfl rfl rfl hcalm i _ s3 _ H3 (fun _ _=>False) P3 (fpY H3 _ fr3 big) st3 stop) fun r s4 qz=>?_
   obtain⟨hr,I4⟩:=qz
   subst hr
   obtain⟨m,hm,_⟩:=I4.loc
   have e4:=(I4.pin _ (List.mem_append_right _ (List.mem_singleton.mpr rfl))).1
   exact hQQ _ _ s4 _ ⟨m,hm⟩ (I2.fpOk hCle (by rw[aH (Ne.symm hDC)];exact I4.free)) (fun h' sb=>wJ I2 f2 I4 (Nat.le_refl _) hCle hDC sb d3 e4 r3 z3) (qn _ d3)
  ·
   have P3:Inv (cxC X ls scope G2.objs.size s2 H2 fp) [(s2.heap.objs.size,{cls:=.type "list",data:=.seq its.toArray k})] (List.replicate ls.length none++σ) H3 s3:=I3.pins_of fun p hp=>by
    have this:=List.mem_singleton.mp hp
    subst this
    exact⟨e3,d3,hDC,nofD,fun v z=>by cases z⟩
   refine thx (T.item (cxC X ls scope G2.objs.size s2 H2 fp) rfl rfl rfl hcalm i _ s3 _ H3 (fun _ _=>False) P3 (fpY H3 _ fr3 big) st3 go) fun r s4 qz=>?_
   obtain⟨u,hr,h4⟩:=qz
   subst hr
   refine thx h4 fun _ s5 qz=>?_
   obtain⟨x,H5,I5,r5,y5,st5,fr5⟩:=qz
   have I5':=I5.pinned (fpY H5 _ fr5 big) (T.obj _ _ st5)
   refine thx (hg _ _ _ _ _ s5 _ H5 x u _ I5' r5 (step x H5 y5)) fun _ s6 qz=>?_
   obtain⟨σ6,H6,I6,q6⟩:=qz
   obtain⟨dr,ln,q6⟩:=q6
   have back: ∀ {s7:Shared}{H7:Hp},Inv (cxC X ls scope G2.objs.size s2 H2 fp) ([((s2.heap.objs.size:Addr),({cls:=.type "list",data:=.seq its.toArray k}:Obj))]++ml fp s5.heap) σ6 H7 s7->
     Inv (cxC X ls scope G2.objs.size s2 H2 fp) [] (List.replicate ls.length none++σ) H7 s7/\tn (i+1) s7.heap/\(∀b∈fp,H7 b=none)/\H7 s2.heap.objs.size=none/\s7.heap.get? s2.heap.objs.size=some {cls:=.type "list",data:=.seq its.toArray k}:=fun{s7 H7} I7=>by
    have pD:=I7.pin _ (List.mem_append_right _ (List.mem_append_left _ (List.mem_singleton.mpr rfl)))
    have pF: ∀b∈fp,∀o,s5.heap.get? b=some o->s7.heap.get? b=some o/\H7 b=none:=fun b hb o e=>by
     have q:=I7.pin (b,o) (List.mem_append_right _ (List.mem_append_right _ (jX hb e)))
     exact⟨q.1,q.2.1⟩
    refine⟨(I7.pins_of (pins':=[]) fun p hp=>absurd hp (by simp)).weak ?_ ?_,T.keep _ _ _ st5 fun b hb o e=>(pF b hb o e).1,fun b hb=>?_,pD.2.1,pD.1⟩
    ·rw[ln,List.length_append,List.length_replicate]
    ·intro j v ej
     by_cases hj:j<ls.length
     ·rw[List.getElem?_append_left (by simpa using hj),List.getElem?_replicate,if_pos hj] at ej
      cases ej
     ·rw[List.getElem?_append_right (by simpa using hj),List.length_replicate,<-dr,List.getElem?_drop] at ej
      rw[<-ej]
      congr 1
      omega
    ·obtain⟨o,e,_⟩:=T.obj _ _ st5 b hb
     exact (pF b hb o e).2
   refine thx (ht _ _ _ _ _ s6 σ6 H6 _ I6 q6) fun b s7 qz=>?_
   obtain⟨H7,I7,q7⟩:=qz
   cases b with
   |false=>
    rw[if_neg Bool.false_ne_true] at q7 ⊢
    obtain⟨m',hm,w7⟩:=hR _ _ q7
    obtain⟨a1,a2,a3,a4,a5⟩:=back I7
    exact⟨m',hm,i+1,ys,its,k,H7,a1,a2,a3,a4,a5,r3,z3,w7⟩
   |true=>
    rw[if_pos rfl] at q7 ⊢
    refine thx (he _ _ _ _ _ s7 σ6 H7 _ I7 q7) fun y s8 qz=>?_
    obtain⟨v,H8,I8,r8,z8,q8⟩:=qz
    obtain⟨m',hm,w8⟩:=hR _ _ q8
    obtain⟨a1,a2,a3,a4,a5⟩:=back I8
    have pl:s8.heap.PlainList s2.heap.objs.size its.toArray:=⟨k,a5⟩
    refine wpAny_list_append_plain (hsz:=by rw[List.size_toArray,<-r3.length];exact z3) pl fun h9 hl9 hs9=>?_
    obtain⟨k9,e9⟩:=hl9
    have cellN: ∀ (y:Str) (c:Addr),(cxC X ls scope G2.objs.size s2 H2 fp).env.cells.lookup y=some c->c≠s2.heap.objs.size:=fun y c e=>by
     have e1:X.env.cells.lookup y=some c:=nt X.env scope.names [] cf (fun y a e=>by simp at e) y c e
     obtain⟨v,o,ho,_⟩:=I2.cell y c e1
     exact Nat.ne_of_lt (Heap.lt_size ho)
    have I9:Inv (cxC X ls scope G2.objs.size s2 H2 fp) [] (List.replicate ls.length none++σ) H8 {s8 with heap:=h9}:=
     a1.turned (t':=s8.toks) (fun b o hb e=>hs9.extBut b o hb e) a4 hDC (.inr (Nat.le_refl _)) cellN (fun p hp=>absurd (show p∈([]:List (Addr×Obj)) from hp) (by simp))
    refine⟨m',hm,i+1,ys++[v],its++[y],k9,H8,I9,T.keep _ _ _ a2 fun b hb o e=>hs9.extBut b o (Nat.ne_of_lt (ltf b hb)) e,a3,a4,?_,r3.append (.cons r8 .nil),?_,w8⟩
    ·simpa using e9
    ·rw[List.length_append,List.length_singleton];exact z8
 exact codeAny_compStart_list (loop _ rfl) (T.self _ 0 _ _ _ st1 (loop _ rfl))
theorem oN (hcalm:X.calm=true)(S:CScope X ls scope)(hi:PI X tg iter wi)
  (hg: ∀C s2 H2 fp,PG (cxC X ls scope C s2 H2 fp) tg g)(ht: ∀C s2 H2 fp,PIfs (cxC X ls scope C s2 H2 fp) ifs tt)(he: ∀C s2 H2 fp,PE (cxC X ls scope C s2 H2 fp) elt te)
  (hs: ∀x,foldedSetIterable iter X.env x=pure x:=by intro _;rfl):PE X (.ListComp elt [⟨tg,iter,ifs,0⟩] scope pos) (tComp X.N ls wi g tt te):=by
 intro pins s σ H Q I h
 rw[eval_ListComp]
 refine n9 (use:=none) hcalm S hi hg ht he hs I h fun D C s' H' hm _ hI q=>?_
 obtain⟨m,hm⟩:=hm
 exact⟨m,hm,fun h' sb=>⟨.ref D,H',hI h' sb,rfl,q⟩⟩
theorem mj {i:Nat}{x:Str}{px spos:Pos}(hN:X.N.Nodup)(hx1:X.N[i]?=some x)(hx:X.env.scope.names.lookup x=some .local)(hcalm:X.calm=true)(S:CScope X ls scope)(hi:PI X tg iter wi)
  (hg: ∀C s2 H2 fp,PG (cxC X ls scope C s2 H2 fp) tg g)(ht: ∀C s2 H2 fp,PIfs (cxC X ls scope C s2 H2 fp) ifs tt)(he: ∀C s2 H2 fp,PE (cxC X ls scope C s2 H2 fp) elt te)
  (hsw:swapsWith (.ListComp elt [⟨tg,iter,ifs,0⟩] scope pos) (some (.Name x px)) spos.line X.env=pure true:=by rfl)
  (hs: ∀x,foldedSetIterable iter X.env x=pure x:=by intro _;rfl):PS X (.Assign [.Name x px] (.ListComp elt [⟨tg,iter,ifs,0⟩] scope pos) spos) (tAsg (tComp X.N ls wi g tt te) (gName i)):=by
 intro pins s σ H D I h
 rw[exec_Assign_Name_used _ _ _ _ hsw]
 refine wpAny_bind (wpAny_standAt (wpAny_bind ?_))
 show wpAny _ X.A (do let _<-comprehension (.ListComp elt [⟨tg,iter,ifs,0⟩] scope pos) scope X.env _ (newList []) false (eval iter X.env) (some (assign (.Name x px) X.env))) _ _ s
 refine wpAny_bind (wpAny_mono (n9 (use:=some (assign (.Name x px) X.env)) (QQ:=fun _ s'=>SP X pins D .next s') hcalm S hi hg ht he hs I h fun Dd C s' H' hm hf hI q=>?_) (fun _ s' hq=>wpAny_pure (wpAny_pure hq)) fun _ _ e=>e)
 obtain⟨m,hm⟩:=hm
 have I1:Inv X pins σ H' s':=hI s'.heap (.refl ..)
 show wpAny _ X.A (assign (.Name x px) X.env (.ref Dd)) _ _ _
 refine wpAny_assign_Name (nI (v:=.ref Dd) I1 hN hx1 (.inl hx) rfl (fun s2 I2 ch=>?_) (.inr hx))
 obtain⟨f0,f1,f2,f3,f4,f5⟩:=hf
 obtain⟨a,sb,ha⟩:=ch
 have hne:C≠a:=by
  rcases ha with ha|ha
  ·rw[ha];exact f1
  ·exact Ne.symm (f4 _ _ ha)
 refine⟨m,hm.sameBut sb hne,fun h' sb'=>?_⟩
 exact⟨_,H',I2.turned (t':=s2.toks) (fun b o hb e=>sb'.extBut b o hb e) f0 f1 f3 f4 f5,q⟩
end
end
section
noncomputable def tU (ls:List Str)(sc outer:Scope):Bool:=(sc.kind==.function && ls.all fun y=>(sc.names.lookup ⟨#[63]++y.cps⟩).isNone) && sc.names.all fun y=>(y.2 !=.cell) && (y.2 !=.local ||(sc.names.lookup y.1==some .local && ls.contains y.1)) && (y.2 !=.free||outer.names.lookup y.1==some .cell||outer.names.lookup y.1==some .free)
theorem CScope.of {X:Cx}{ls:List Str}{scope:Scope}(outer:Scope)(h:tU ls scope outer=true:=by decide+kernel)(ho:X.env.scope=outer:=by rfl):CScope X ls scope:=by
 unfold tU at h
 rw[Bool.and_eq_true,List.all_eq_true] at h
 obtain⟨h0,h⟩:=h
 rw[Bool.and_eq_true,List.all_eq_true] at h0
 obtain⟨h0,hq⟩:=h0
 refine⟨by simpa using h0,fun y hy e=>?_,fun y hy e=>?_,fun y hy=>?_,fun y hy e=>?_,fun y hy k e=>by have q:=hq y hy;rw[e] at q;cases q⟩
 ·have q:=h y hy
  simp [e] at q
 ·have q:=h y hy
  simp [e] at q
  exact q.1
 ·have q:=h _ (PySem.mem_of_lookup hy)
  simp at q
  exact q.2
 ·have q:=h y hy
  simp [e] at q
  show X.env.scope.names.lookup y.1=_\/X.env.scope.names.lookup y.1=_
  rw[ho]
  exact q
noncomputable def CMulB (i j:Int):Prop:=i.natAbs<2 ^ 65536/\j.natAbs<2 ^ 65536
theorem tY {i:Int}{n:Nat}(h:i.natAbs<2 ^ n):Builtin.Int.intBits i<=n:=by
 unfold Builtin.Int.intBits
 split
 ·exact Nat.zero_le _
 ·rename_i hz
  have hz':i.natAbs≠0:=by
   intro e
   exact hz (by simp_all)
  have:=(Nat.log2_lt hz').mpr h
  omega
theorem CMulB.ok {i j:Int}(h:CMulB i j):IntMulOk i j:=.of_bits (Nat.le_trans (tY h.1) (by decide)) (Nat.le_trans (tY h.2) (by decide))
section
variable {X:Cx}
theorem call_isinst:CallR X (.builtin "isinstance") (fun xs H Q=> ∃ (x c:V) (cv t:Value) (b:Bool),xs=[x,c]/\RelV c cv/\TyOf X.K H x t/\kitOne X.K t cv=some b/\Q (.bl b) H):=by
 intro pins s σ H xs us Q I r h
 obtain⟨x,c,cv,t,b,rfl,rc,ty,e,q⟩:=h
 obtain⟨u,u',rfl,ru,ru'⟩:=vals2 r
 have:u'=cv:=by
  cases c with
  |ref a=>cases rc;cases ru';rfl
  |ty n=>cases rc;cases ru';rfl
  |non=>cases rc;cases ru';rfl
  |bl _=>cases rc;cases ru';rfl
  |int _=>obtain⟨t1,rfl⟩:=rc;exact absurd e (by simp [kitOne,PySem.W.kitCls];intro h;cases ty<;>cases h)
  |str _=>obtain⟨t1,rfl⟩:=rc;exact absurd e (by simp [kitOne,PySem.W.kitCls];intro h;cases ty<;>cases h)
  |byt _=>obtain⟨t1,rfl⟩:=rc;exact absurd e (by simp [kitOne,PySem.W.kitCls];intro h;cases ty<;>cases h)
  |flt _=>obtain⟨t1,rfl⟩:=rc;exact absurd e (by simp [kitOne,PySem.W.kitCls];intro h;cases ty<;>cases h)
 subst this
 exact uE I ru ty e fun tk=>⟨.bl b,H,I.tok tk,rfl,q⟩
mutual
inductive Den (K:PySem.W.Frag)(H:Hp):V->PyData->Prop
 |non:Den K H .non .none
 |bl (b):Den K H (.bl b) (.bool b)
 |int (i):Den K H (.int i) (.int i)
 |str (x):Den K H (.str x) (.str x)
 |lst {a xs ds}:SqL K H a xs->DenAll K H xs ds->Den K H (.ref a) (.list ds)
 |tup {a xs ds}:SqT K H a xs->DenAll K H xs ds->Den K H (.ref a) (.tuple ds)
inductive DenAll (K:PySem.W.Frag)(H:Hp):List V->List PyData->Prop
 |nil:DenAll K H [] []
 |cons {x xs d ds}:Den K H x d->DenAll K H xs ds->DenAll K H (x::xs) (d::ds)
end
mutual
theorem ic {pins:List (Addr×Obj)}{σ:St}{H:Hp}{s:Shared}(I:Inv X pins σ H s): ∀ {x:V}{d:PyData}{u:Value},Den X.K H x d->RelV x u-> ∃as,Reads s.heap u d as
 |_,_,_,.non,r=>by cases r;exact⟨_,.none⟩
 |_,_,_,.bl b,r=>by cases r;exact⟨_,.bool b⟩
 |_,_,_,.int i,r=>by obtain⟨t,rfl⟩:=r;exact⟨_,.int i t⟩
 |_,_,_,.str i,r=>by obtain⟨t,rfl⟩:=r;exact⟨_,.str i t⟩
 |_,_,_,.lst hq ha,r=>by
  cases r
  obtain⟨its,rv,⟨o,n,e1,e2,e3,e4⟩,hz⟩:=I.list hq
  obtain⟨as,h⟩:=iI I ha rv
  exact⟨_,.list e1 e2 e4 (by simpa using h)⟩
 |_,_,_,.tup hq ha,r=>by
  cases r
  obtain⟨its,rv,⟨o,e1,e2,n,e3⟩,hz⟩:=I.tuple hq
  obtain⟨as,h⟩:=iI I ha rv
  exact⟨_,.tuple e1 e2 e3 (by simpa using h)⟩
theorem iI {pins:List (Addr×Obj)}{σ:St}{H:Hp}{s:Shared}(I:Inv X pins σ H s): ∀ {xs:List V}{ds:List PyData}{us:List Value},DenAll X.K H xs ds->Vals xs us-> ∃as,ReadsAll s.heap us ds as
 |_,_,_,.nil,.nil=>⟨_,.nil⟩
 |_,_,_,.cons h t,.cons r rs=>by
  obtain⟨as,h1⟩:=ic I h r
  obtain⟨bs,h2⟩:=iI I t rs
  exact⟨_,.cons h1 h2⟩
end
def rEqD (K:PySem.W.Frag)(A:Around)(neg:Bool):R2:=fun x y H Q=> ∃d e,Den K H x d/\Den K H y e/\d.canLay0=true/\e.canLay0=true/\A.units+min d.depth e.depth<cLine/\Q (.bl (if neg then !PyData.eqv d e else PyData.eqv d e)) H
theorem z9:OpR X (compareOp .Eq) (rEqD X.K X.A false):=by
 intro pins s σ H x y v u Q I rx ry h
 obtain⟨d,e,hd,he,cd,ce,hu,q⟩:=h
 obtain⟨as,ra⟩:=ic I hd rx
 obtain⟨bs,rb⟩:=ic I he ry
 exact SeqAt.compareEq_reads ra rb cd ce hu ⟨.bl _,H,I,rfl,q⟩
theorem zY:OpR X (compareOp .NotEq) (rEqD X.K X.A true):=by
 intro pins s σ H x y v u Q I rx ry h
 obtain⟨d,e,hd,he,cd,ce,hu,q⟩:=h
 obtain⟨as,ra⟩:=ic I hd rx
 obtain⟨bs,rb⟩:=ic I he ry
 exact SeqAt.compareNe_reads ra rb cd ce hu ⟨.bl _,H,I,rfl,q⟩
end
end
section
def CXx (P:Program)(w:World):CXT:=fun outer H s E e s'=>
 ∃ (ea:Addr) (cls a0:Value) (H':Hp) (B:Heap),e=.ref ea/\s'.os=s.os/\AllBare s'.gens/\Un (frs outer) [] H H' s.heap s'.heap/\HOk P w H' s'.heap/\Heap.FlyingW B outer ea cls a0 s'.heap/\
   (∀b o,s'.heap.get? b=some o->b ∉ frs outer->(H' b≠none\/ ∃o',s.heap.get? b=some o')->B.get? b=some o)/\s.heap.get? ea=none/\H' ea=none/\E cls none H'
theorem HOk.there {P:Program}{w:World}{H:Hp}{h:Heap}(x:HOk P w H h){a:Addr}{o:HO}(e:H a=some o): ∃ob,h.get? a=some ob:=by
 have q:=x a o e
 cases o with
 |lst xs=>obtain⟨_,its,n,_,e⟩:=q;exact⟨_,e⟩
 |tup xs=>obtain⟨_,its,_,⟨ob,e,_⟩,_⟩:=q;exact⟨_,e⟩
 |dK kvs=>obtain⟨_,_,vs,_,ob,es,ep,e,_⟩:=q;exact⟨_,e⟩
 |dT kvs=>obtain⟨_,_,xs,_,ob,es,ep,e,_⟩:=q;exact⟨_,e⟩
 |dN b xs ep=>obtain⟨_,_,xs,_,ob,es,e,_⟩:=q;exact⟨_,e⟩
 |set S n=>obtain⟨ob,_,_,_,e,_⟩:=q;exact⟨_,e⟩
 |ins C dx fs=>obtain⟨_,_,_,e,_⟩:=q;exact⟨_,e⟩
 |own y=>exact q
 |xd fs=>obtain⟨_,⟨_,_,_,e,_⟩,_⟩:=q;exact⟨_,e⟩
 |met f y=>exact⟨_,q⟩
 |rng lo hi=>obtain⟨_,_,_,e⟩:=q;exact⟨_,e⟩
 |frz ob u=>exact⟨_,q.1⟩
 |tbl ps=>exact⟨_,q⟩
 |ext φ=>exact q.2.1
structure InDef (X:Cx):Prop where
 stk:X.stack=X.env::X.outer
 fr:X.env.frame=some X.env.locals
 ex:X.ex=[]
theorem InDef.frs {X:Cx}(D:InDef X):frs X.stack=X.env.locals::X.fs:=by
 rw[D.stk]
 unfold L2.frs
 rw[List.filterMap_cons,D.fr]
 rfl
section
variable {X:Cx}{pins:List (Addr×Obj)}{σ:St}{H:Hp}{s:Shared}
theorem Inv.frame_obj (I:Inv X pins σ H s){b:Addr}(hb:b∈frs X.stack): ∃o,s.heap.get? b=some o/\ ∀vs,o.data≠.fields vs:=(I.stack.mem hb).2
theorem qH (I:Inv X pins σ H s)(D:InDef X){h':Heap}{e:Addr}{C:Value}{args:List Value}(hx:Heap.MadeExcOf s.heap h' e C args){M:Model}{Q:Unit->Shared->Prop}{E:Value->Shared->Prop}
  (hQ: ∀ (h'':Heap) (a0:Value) (B:Heap),Heap.FlyingW B X.outer e C a0 h''->(∀b o,s.heap.get? b=some o->b ∉ frs X.stack->B.get? b=some o)->(∀b∈frs X.stack,B.get? b=none)->s.heap.UpToSlots h''->Q () {s with heap:=h''}):
  wpAny M X.A (leaving X.env (.ref e)) Q E {s with heap:=h'}:=by
 have hin: ∀env∈X.stack,∀b,env.frame=some b->b∈frs X.stack:=fun env he b hb=>List.mem_filterMap.mpr ⟨env,he,hb⟩
 have hl:=PySem.W.funFrames_hide I.stack hin
 have fr:=I.ok.frames
 rw[D.stk] at fr
 have hl':s.heap.FunFrames (PySem.W.hideAll s.heap (frs X.stack)) (X.env::X.outer):=by rw[<-D.stk];exact hl
 exact wpAny_leaves_madeW (s:={s with heap:=h'}) fr D.fr (fun b o q=>PySem.W.of_hideAll _ q) hl' hx fun h'' t x1 x2 x3 x4=>
  hQ h'' (.ref t) _ x1 (fun b o q hb=>PySem.W.hideAll_get _ q hb) (fun b hb=>PySem.W.hideAll_none _ hb) ((Heap.UpToSlots.of_keeps hx.keeps).trans x4)
end
section
variable {P:Program}{w:World}{K:PySem.W.Frag}{mg:Str->Option Value}{base:Heap}{N:List Str}{qual:Str}{scope:Scope}{f:Addr}{cd:Value}{A:Around}{outer:List Env}{s:Shared}{H:Hp}{E:XK}
theorem ni {CX:CXT}:InDef (cxOf CX P w K mg base N qual scope f cd A outer s H E):=⟨rfl,rfl,rfl⟩
theorem oH {pins:List (Addr×Obj)}{σ:St}{H1:Hp}{s1:Shared}{h':Heap}{e:Addr}{C:Value}{args:List Value}(I:Inv (cxOf (CXx P w) P w K mg base N qual scope f cd A outer s H E) pins σ H1 s1)
  (hx:Heap.MadeExcOf s1.heap h' e C args)(hE:E C none H1):(cxOf (CXx P w) P w K mg base N qual scope f cd A outer s H E).xe (.ref e) {s1 with heap:=h'}:=by
 refine qH I ni hx fun h'' a0 B fl cov nof up=>?_
 have fr2: ∀b,b∈frs (cxOf (CXx P w) P w K mg base N qual scope f cd A outer s H E).stack↔b=s.heap.objs.size\/b∈frs outer:=fun b=>by
  rw[(ni (CX:=CXx P w)).frs]
  exact List.mem_cons
 have old: ∀b o,s.heap.get? b=some o->b≠s.heap.objs.size:=fun b o q=>Nat.ne_of_lt (Heap.lt_size q)
 have keepB: ∀b o,s1.heap.get? b=some o->b≠s.heap.objs.size->b ∉ frs outer->h''.get? b=some o:=fun b o q h1 h2=>fl.1 b o (cov b o q fun z=>((fr2 b).mp z).elim h1 h2)
 have tr: ∀b u,H1 b=some u->b≠s.heap.objs.size/\b ∉ frs outer:=fun b u q=>by
  refine⟨fun z=>?_,fun z=>?_⟩
  ·have:=I.stkFree b ((fr2 b).mpr (.inl z));rw[this] at q;cases q
  ·have:=I.stkFree b ((fr2 b).mpr (.inr z));rw[this] at q;cases q
 have slotB: ∀b o,s1.heap.get? b=some o->b∈frs outer-> ∃sl,h''.get? b=some {o with slots:=sl}:=fun b o q hb=>by
  obtain⟨o',e',nd⟩:=I.frame_obj ((fr2 b).mpr (.inr hb))
  rw[q] at e';cases e'
  exact up b o q nd
 have baseU:Un (frs outer) [] H H1 s.heap s1.heap:=I.base
 refine⟨e,C,a0,H1,B,rfl,I.os,I.bare,⟨fun b o q n hb hx=>?_,fun b o q n hb hx=>?_,fun b o q n hx=>baseU.free b o q n hx,fun b o q hx=>?_,baseU.tups,baseU.frzs,baseU.tbls⟩,fun b u q=>?_,fl,fun b o q hb hh=>?_,?_,?_,hE⟩
 ·exact keepB b o (baseU.keep b o q n hb hx) (old b o q) hb
 ·obtain⟨sl,q1⟩:=baseU.slot b o q n hb hx
  obtain⟨sl',q2⟩:=slotB b _ q1 hb
  exact⟨sl',q2⟩
 ·obtain⟨o',q1⟩:=baseU.there b o q hx
  by_cases hb:b∈frs outer
  ·obtain⟨sl',q2⟩:=slotB b _ q1 hb
   exact⟨_,q2⟩
  ·exact⟨o',keepB b o' q1 (old b o q) hb⟩
 ·refine (I.hok b u q).stay (fun c v hc r=>?_) (fun _ r=>r) fun _ _ r=>r
  have: ∃u,H1 c=some u:=by
   rcases hc with rfl|hc
   ·exact⟨u,q⟩
   ·exact⟨_,hc⟩
  obtain⟨u',qu⟩:=this
  exact keepB c v r (tr c u' qu).1 (tr c u' qu).2
 ·have: ∃o1,s1.heap.get? b=some o1/\b≠s.heap.objs.size:=by
   rcases hh with hh|⟨o',hh⟩
   ·cases qu:H1 b with
    |none=>exact absurd qu hh
    |some u=>
     obtain⟨o1,q1⟩:=I.hok.there qu
     exact⟨o1,q1,(tr b u qu).1⟩
   ·obtain⟨o1,q1⟩:=baseU.there b o' hh (by simp)
    exact⟨o1,q1,old b o' hh⟩
  obtain⟨o1,q1,hne⟩:=this
  have q2:=keepB b o1 q1 hne hb
  rw[q] at q2
  cases q2
  exact cov b o q1 fun z=>((fr2 b).mp z).elim hne hb
 ·cases q:s.heap.get? e with
  |none=>rfl
  |some o'=>
   obtain⟨o1,q1⟩:=baseU.there e o' q (by simp)
   rw[hx.new] at q1;cases q1
 ·cases q:H1 e with
  |none=>rfl
  |some u=>
   obtain⟨o1,q1⟩:=I.hok.there q
   rw[hx.new] at q1;cases q1
theorem gq:iL (CXx P w) (cxOf (CXx P w) P w K mg base N qual scope f cd A outer s H E) E:=by
 intro pins σ H1 s1 e s2 I hc
 obtain⟨ea,cls,a0,H2,B,rfl,os,bare,un,hok,fly,cov,new,hn,hE⟩:=hc
 have frm:=I.ok.frames
 refine wpAny_leaves_onW (show (A.deeper (envOfC qual scope s.heap.objs.size f cd)).frames=some (envOfC qual scope s.heap.objs.size f cd::outer) from frm) rfl fly fun h' fl up=>?_
 have fr2: ∀b,b∈frs (cxOf (CXx P w) P w K mg base N qual scope f cd A outer s H E).stack↔b=s.heap.objs.size\/b∈frs outer:=fun b=>by
  rw[(ni (CX:=CXx P w)).frs]
  exact List.mem_cons
 have old: ∀b o,s.heap.get? b=some o->b≠s.heap.objs.size:=fun b o q=>Nat.ne_of_lt (Heap.lt_size q)
 have baseU:Un (frs outer) [] H H1 s.heap s1.heap:=I.base
 have frN: ∀b,b∈frs (cxOf (CXx P w) P w K mg base N qual scope f cd A outer s H E).stack->H2 b=none:=fun b hb=>by
  obtain⟨o,q,_⟩:=I.frame_obj hb
  exact un.free b o q (I.stkFree b hb) (by simp)
 have tr: ∀b u,H2 b=some u->b ∉ frs (cxOf (CXx P w) P w K mg base N qual scope f cd A outer s H E).stack:=fun b u q z=>by rw[frN b z] at q;cases q
 have slotB: ∀b o,s2.heap.get? b=some o->b∈frs (cxOf (CXx P w) P w K mg base N qual scope f cd A outer s H E).stack-> ∃sl,h'.get? b=some {o with slots:=sl}:=fun b o q hb=>by
  obtain⟨o',e',nd⟩:=(fly.2.2.1.mem hb).2
  rw[q] at e';cases e'
  exact up b o q nd
 have noSt: ∀b o,s.heap.get? b=some o->b ∉ frs outer->b ∉ frs (cxOf (CXx P w) P w K mg base N qual scope f cd A outer s H E).stack:=fun b o q hb z=>((fr2 b).mp z).elim (old b o q) hb
 refine⟨ea,cls,a0,H2,B,rfl,os.trans I.os,bare,⟨fun b o q n hb hx=>?_,fun b o q n hb hx=>?_,fun b o q n hx=>?_,fun b o q hx=>?_,fun b xs q=>un.tups b xs (baseU.tups b xs q),fun b o u q=>un.frzs b o u (baseU.frzs b o u q),fun b ps q=>?_⟩,fun b u q=>?_,fl,fun b o q hb hh=>?_,?_,hn,hE⟩
 ·have q1:=baseU.keep b o q n hb hx
  have q2:=un.keep b o q1 (baseU.free b o q n hx) (noSt b o q hb) hx
  exact fl.1 b o (cov b o q2 (noSt b o q hb) (.inr ⟨o,q1⟩))
 ·obtain⟨sl,q1⟩:=baseU.slot b o q n hb hx
  obtain⟨sl2,q2⟩:=un.slot b _ q1 (baseU.free b o q n hx) ((fr2 b).mpr (.inr hb)) hx
  obtain⟨sl3,q3⟩:=slotB b _ q2 ((fr2 b).mpr (.inr hb))
  exact⟨sl3,q3⟩
 ·obtain⟨o1,q1⟩:=baseU.there b o q hx
  exact un.free b o1 q1 (baseU.free b o q n hx) hx
 ·obtain⟨o1,q1⟩:=baseU.there b o q hx
  obtain⟨o2,q2⟩:=un.there b o1 q1 hx
  by_cases hb:b∈frs outer
  ·obtain⟨sl,q3⟩:=slotB b o2 q2 ((fr2 b).mpr (.inr hb))
   exact⟨_,q3⟩
  ·exact⟨o2,fl.1 b o2 (cov b o2 q2 (noSt b o q hb) (.inr ⟨o1,q1⟩))⟩
 ·obtain⟨m1,e1⟩:=baseU.tbls b ps q
  obtain⟨m2,e2⟩:=un.tbls b _ e1
  exact⟨m1++m2,by rw[e2,Array.append_assoc]⟩
 ·refine (hok b u q).stay (fun c v hc r=>?_) (fun _ r=>r) fun _ _ r=>r
  have: ∃u,H2 c=some u:=by
   rcases hc with rfl|hc
   ·exact⟨u,q⟩
   ·exact⟨_,hc⟩
  obtain⟨u',qu⟩:=this
  exact fl.1 c v (cov c v r (tr c u' qu) (.inl (by rw[qu];simp)))
 ·have: ∃o2,s2.heap.get? b=some o2/\B.get? b=some o2:=by
   rcases hh with hh|⟨o',hh⟩
   ·cases qu:H2 b with
    |none=>exact absurd qu hh
    |some u=>
     obtain⟨o2,q2⟩:=hok.there qu
     exact⟨o2,q2,cov b o2 q2 (tr b u qu) (.inl hh)⟩
   ·obtain⟨o1,q1⟩:=baseU.there b o' hh (by simp)
    obtain⟨o2,q2⟩:=un.there b o1 q1 (by simp)
    exact⟨o2,q2,cov b o2 q2 (noSt b o' hh hb) (.inr ⟨o1,q1⟩)⟩
  obtain⟨o2,q2,q3⟩:=this
  have q4:=fl.1 b o2 q3
  rw[q] at q4
  cases q4
  exact q3
 ·cases q:s.heap.get? ea with
  |none=>rfl
  |some o'=>
   obtain⟨o1,q1⟩:=baseU.there ea o' q (by simp)
   rw[new] at q1;cases q1
end
end
section
noncomputable def Its (x:Str):It:=⟨fun i _=>i<x.cps.size,fun i H v H'=>H'=H/\ ∃c,x.cps.toList[i]?=some c/\v=.str ⟨#[c]⟩,fun i _=>i=x.cps.size⟩
theorem q9 (x:Str):["enumerate", "zip", "dict_itemiterator", "dict_reverseitemiterator", "odict_iterator", "itertools.zip_longest", "itertools.pairwise"].contains (strIterType x)=false:=by
 unfold strIterType
 split<;>decide
theorem nC {prog:Program}{w:World}{A:Around}(hh:A.handled=none)(I:Addr)(x:Str)(t:Tok):Walks prog w A I [I] [I] x.cps.size (SignAt x) (fun i h=>h.IsStrIter I (strIterType x) x t i):=by
 unfold strIterType
 split
 ·exact Walks.strAscii hh I x t
 ·exact Walks.strWide hh I x t
theorem uD {prog:Program}{w:World}{A:Around}{E:Value->Shared->Prop}{s:Shared}{it:Addr}{x:Str}{t:Tok}{i:Nat}{Q:Value->Shared->Prop}(hit:s.heap.IsStrIter it (strIterType x) x t i)(h:Q (.ref it) s):
  wpAny (model prog w) A (pyIter (.ref it)) Q E s:=by
 unfold strIterType at hit
 split at hit
 ·exact wpAny_pyIter_striter_ascii hit h
 ·exact wpAny_pyIter_striter_wide hit h
theorem u3 {P:Program}{w:World}{K:PySem.W.Frag}{tg:Expr}(it:Addr)(x:Str)(t:Tok):Turn P w K tg (Its x) [it] it (fun i h=>h.IsStrIter it (strIterType x) x t i) where
 mem:=by simp
 obj:=fun i h st b hb=>by
  have e:b=it:=by simpa using hb
  subst e
  obtain⟨o,e,c,d⟩:=st
  exact⟨o,e,fun v z=>by rw[d] at z;cases z⟩
 keep:=fun i h h' st k=>by
  obtain⟨o,e,r⟩:=st
  exact⟨o,k it (by simp) o e,r⟩
 item:=by
  intro X hP hw hK hc i pins s σ H E I hf st hg
  subst hP hw hK
  obtain⟨f0,f1,f2,f3,f4,f5⟩:=hf it (by simp)
  refine (nC (I.ok.hd hc) it x t).item i s _ _ hg st fun v h' tk hv st' kk=>?_
  obtain⟨c,u,hcu,rfl⟩:=hv
  have I1:Inv X pins σ H {s with heap:=h',toks:=tk}:=I.turned (fun b o hb e=>kk b o (by simpa using hb) e) f0 f1 f3 f4 f5
  obtain⟨o,e,c',d⟩:=id st'
  exact⟨_,rfl,tq (s:={s with heap:=h',toks:=tk}) e c' d (q9 x) ⟨.str ⟨#[c]⟩,H,I1,⟨u,rfl⟩,⟨rfl,c,by simpa using hcu,rfl⟩,st',fun b hb=>(hf b hb).1⟩⟩
 done:=by
  intro X hP hw hK hc i pins s σ H E I hf st hg
  subst hP hw hK
  obtain⟨f0,f1,f2,f3,f4,f5⟩:=hf it (by simp)
  have hg:i=x.cps.size:=hg
  subst hg
  exact (nC (I.ok.hd hc) it x t).done s _ _ st fun h' tk kk=>⟨rfl,I.turned (fun b o hb e=>kk b o (by simpa using hb) e) f0 f1 f3 f4 f5⟩
 self:=fun _ _ _ _ _ st h=>uD st h
section
variable {X:Cx}{tg:Expr}
def iStr (tl:TE):TI:=fun σ H R=>tl σ H fun v H1=> ∃x,v=.str x/\R (Its x) H1
theorem vM {l:Expr}{tl:TE}(hl:PE X l tl):PI X tg l (iStr tl):=by
 intro pins s σ H R I h
 refine thn (hl pins s σ H _ I h) fun v s1 qz=>?_
 obtain⟨y,H1,I1,r1,q1⟩:=qz
 obtain⟨x,rfl,q⟩:=q1
 obtain⟨t,rfl⟩:=r1
 refine wpAny_pyIter_strU ?_
 refine⟨s1.heap.objs.size,[s1.heap.objs.size],_,_,H1,rfl,I1.kept (t':=s1.toks) fun b o e=>Heap.get?_push_of_some _ e,u3 _ x t,⟨_,Heap.get?_push_size _ rfl,rfl,rfl⟩,fun b hb=>?_,q⟩
 have e:b=s1.heap.objs.size:=by simpa using hb
 subst e
 exact I1.fpOk (Nat.le_refl _) (I1.hok.fresh (Nat.le_refl _))
end
theorem Bn {x:Str}{g:TG}{tb:TS}{D:Ends}{σ:St}{H:Hp}(Pv:Nat->St->Hp->Prop)(h0:Pv 0 σ H)
  (hs: ∀i c σ H,x.cps.toList[i]?=some c->Pv i σ H->g (.str ⟨#[c]⟩) σ H fun σ2 H2=>tb {D with nx:=Pv (i+1),ct:=Pv (i+1),bk:=D.nx} σ2 H2)(hd: ∀σ H,Pv x.cps.size σ H->D.nx σ H):
  ∃W:Nat->Nat->St->Hp->Prop,(∃m,W 0 m σ H)/\ ∀i m σ H,W i m σ H->
   ((Its x).stop i H/\D.nx σ H)\/((Its x).go i H/\ ∃N:St->Hp->Prop,(∀σ' H',N σ' H'-> ∃m',m'<m/\W (i+1) m' σ' H')/\ ∀v H',(Its x).yld i H v H'->g v σ H' fun σ2 H2=>tb {D with nx:=N,ct:=N,bk:=D.nx} σ2 H2):=by
 refine⟨fun i m σ H=>m=x.cps.size - i/\i<=x.cps.size/\Pv i σ H,⟨x.cps.size,by simp,Nat.zero_le _,h0⟩,?_⟩
 rintro i m σ H ⟨rfl,hi,p⟩
 by_cases hlt:i<x.cps.size
 ·refine .inr ⟨hlt,Pv (i+1),fun σ' H' p'=>⟨x.cps.size - (i+1),by omega,rfl,hlt,p'⟩,fun v H' y=>?_⟩
  obtain⟨e,c,hc,rfl⟩:=y
  subst e
  exact hs i c σ _ hc p
 ·have e:i=x.cps.size:=by omega
  subst e
  exact .inl ⟨rfl,hd σ H p⟩
theorem qQ {x:Str}{ls:List Str}{g:TG}{tt:TT}{te:TE}{σ:St}{H:Hp}{Q:VK}(Pv:Nat->List V->Hp->Prop)(h0:Pv 0 [] H)
  (hs: ∀i c ys H,x.cps.toList[i]?=some c->Pv i ys H->g (.str ⟨#[c]⟩) (List.replicate ls.length none++σ) H fun σ2 H2=>σ2.drop ls.length=σ/\σ2.length=ls.length+σ.length/\tt σ2 H2 fun b H3=>if b=true then te σ2 H3 fun v H4=>ys.length<sizeLine/\Pv (i+1) (ys++[v]) H4 else Pv (i+1) ys H3)
  (hd: ∀ys H,Pv x.cps.size ys H-> ∀D,H D=none->Q (.ref D) (upd H D (.lst ys))):CompW (Its x) ls g tt te σ H Q:=by
 refine⟨fun i m ys H=>m=x.cps.size - i/\i<=x.cps.size/\Pv i ys H,⟨x.cps.size,by simp,Nat.zero_le _,h0⟩,?_⟩
 rintro i m ys H ⟨rfl,hi,p⟩
 by_cases hlt:i<x.cps.size
 ·refine .inr ⟨hlt,Pv (i+1),fun ys' H' p'=>⟨x.cps.size - (i+1),by omega,rfl,hlt,p'⟩,fun v H' y=>?_⟩
  obtain⟨e,c,hc,rfl⟩:=y
  subst e
  exact hs i c ys _ hc p
 ·have e:i=x.cps.size:=by omega
  subst e
  exact .inl ⟨rfl,hd ys H p⟩
section
variable {X:Cx}
theorem qU: ∀ {bs:List Bool}{us:List Value},Vals (bs.map V.bl) us->LSm.BoolsAre us bs
 |[],_,.nil=>.nil
 |b::r,_,.cons h t=>by
  have h:_=Value.bool b:=h
  subst h
  exact .cons b (qU t)
theorem qT (hc:X.calm=true):CallR X (.builtin "all") (fun xs H Q=> ∃ (p:Addr) (bs:List Bool),xs=[.ref p]/\SqL X.K H p (bs.map V.bl)/\Q (.bl (bs.all id)) H):=by
 intro pins s σ H xs us Q I r h
 obtain⟨p,bs,rfl,hq,q⟩:=h
 obtain⟨u,rfl,ru⟩:=vals1 r
 cases ru
 obtain⟨its,rv,pl,hz⟩:=I.list hq
 have hb:=qU rv
 have hl:=pl.isList
 have hlt:p<s.heap.objs.size:=by obtain⟨_,e,_⟩:=hl;exact Heap.lt_size e
 refine call_all_walk (wpAny_pyIter_list hl ?_)
 refine⟨s.heap.objs.size,[s.heap.objs.size,p],[s.heap.objs.size],its.toArray.size,_,_,fun i=>(bs[i]?).getD true,rfl,Walks.list (A:=X.A.in1) (I.ok.hd hc) _ p (Nat.ne_of_lt hlt) its.toArray,
  ⟨⟨_,Heap.get?_push_size _ rfl,rfl,rfl⟩,hl.push _⟩,fun i v s' Q' E' hP hQ=>?_,fun h' tk hk=>?_⟩
 ·obtain⟨b,e,rfl⟩:=hb.get i v (by simpa using hP)
  simp only[e,Option.getD_some] at hQ
  exact wpAny_truthy_bool hQ
 ·have e:((List.range its.toArray.size).all fun i=>(bs[i]?).getD true)=bs.all id:=by
   rw[List.size_toArray,hb.length];exact LSm.range_all bs
  rw[e]
  exact⟨.bl _,H,I.kept (t':=tk) (LSm.kept_iter hk),rfl,q⟩
theorem sl_str:SlR X (fun x lo hi H Q=> ∃z,x=.str z/\z.length<=sizeLine/\Q (.str (StrLaws.sliceText z lo hi)) H):=by
 intro pins s σ H x v vl vu lo hi sl Q I rx hs pl pu h
 obtain⟨z,rfl,hz,q⟩:=h
 obtain⟨t,rfl⟩:=rx
 have part: ∀ {v:Value}{o:Option Int},IsPart v o-> ∃p:Option (Int×Tok),v=partValue p/\p.map (·.1)=o:=fun{v o} h=>by
  cases h with
  |none=>exact⟨none,rfl,rfl⟩
  |int i t=>exact⟨some (i,t),rfl,rfl⟩
 obtain⟨l,rfl,el⟩:=part pl
 obtain⟨u,rfl,eu⟩:=part pu
 refine⟨"str",_,slot_str_getitem.lookup,typeIs_str s z t,?_⟩
 obtain⟨o,h1,h2,h3⟩:=hs
 refine wpAny_getItem_str_slice (l:=l) (u:=u) (st:=none) ⟨o,h1,h2,h3⟩ rfl ?_
 subst el eu
 unfold sliceMade slicePicked
 unfold StrLaws.sliceText at q
 simp only[Option.map_none,Option.getD_none]
 split
 ·rename_i hc
  rw[if_pos hc] at q
  exact⟨.str z,H,I,⟨t,rfl⟩,q⟩
 ·rename_i hc
  rw[if_neg hc] at q
  refine⟨?_,.str _,H,I.tok _,⟨_,rfl⟩,q⟩
  show ((_:List Nat).toArray).size<=sizeLine
  rw[List.size_toArray]
  exact Nat.le_trans (List.length_filterMap_le _ _) (Nat.le_trans (sliceIndices_le _ _ _) hz)
theorem kB:CallR X (.type "int") (fun xs H Q=> ∃ (z:Str) (n:Int),xs=[.str z]/\PySem.intText? z=some n/\z.length<=640/\Q (.int n) H):=by
 intro pins s σ H xs us Q I r h
 obtain⟨z,n,rfl,hn,hl,q⟩:=h
 obtain⟨u,rfl,t,rfl⟩:=vals1 r
 exact PySem.W.KIN.call_text hn hl ⟨.int n,H,I.tok _,⟨_,rfl⟩,q⟩
theorem pG:CallR X (.type "str") (fun xs H Q=> ∃ (z:Str),xs=[.str z]/\Q (.str z) H):=by
 intro pins s σ H xs us Q I r h
 obtain⟨z,rfl,q⟩:=h
 obtain⟨u,rfl,t,rfl⟩:=vals1 r
 exact P.str_of_str ⟨.str z,H,I,⟨_,rfl⟩,q⟩
theorem op_mul_str:OpR X (binaryOp .Mult) (fun x y H Q=> ∃ (z:Str) (n:Int),x=.str z/\y=.int n/\MulOk z n/\Q (.str (Txt.mul z n)) H):=by
 intro pins s σ H x y v u Q I rx ry h
 obtain⟨z,n,rfl,rfl,ho,q⟩:=h
 obtain⟨t,rfl⟩:=rx
 obtain⟨t',rfl⟩:=ry
 exact SB.mul ho fun t' k=>⟨.str _,H,I.tok k,⟨_,rfl⟩,q⟩
end
theorem rZ (x:Str)(c:Nat):(!(Builtin.Str.occurrences x ⟨#[c]⟩ 0 x.length 1).isEmpty)=decide (c∈x.cps.toList):=StrLaws.found_one x c
def t4 (X:Cx)(E:XK):Prop:= ∀ (pins:List (Addr×Obj)) (σ:St) (H:Hp) (s:Shared) (h':Heap) (e:Addr) (C:Value) (args:List Value),Inv X pins σ H s->Heap.MadeExcOf s.heap h' e C args->E C none H->X.xe (.ref e) {s with heap:=h'}
theorem gW {P:Program}{w:World}{K:PySem.W.Frag}{mg:Str->Option Value}{base:Heap}{N:List Str}{qual:Str}{scope:Scope}{f:Addr}{cd:Value}{A:Around}{outer:List Env}{s:Shared}{H:Hp}{E:XK}:
 t4 (cxOf (CXx P w) P w K mg base N qual scope f cd A outer s H E) E:=fun _ _ _ _ _ _ _ _ I hx hE=>oH I hx hE
def zj (C:Value)(E:XK)(t:TA):TS:=fun _ σ H=>t σ H fun vs H1=>vs.length<=sizeLine/\E C none H1
noncomputable abbrev bmVal:List Value:=[.type "ValueError",.type "Exception",.type "BaseException",.type "object"]
section
variable {X:Cx}{C:Addr}{E:XK}{x:Str}{np cpos pos:Pos}{a:Expr}{es:List Expr}{t:TA}
theorem gX (hX:t4 X E)(hc:X.calm=true)(hg:Gl X x)(hm:X.mg x=some (.ref C))(q:PySem.W.excIn X.K C bmVal "ValueError.__new__"=true)(ha:PA X (a::es) t)
  (he:starEach (a::es) X.env=(false,eval a X.env)::starEach es X.env:=by rfl)(hplain:(backTo cpos (starEach es X.env)).any (·.1)=false:=by rfl)(hd:(x==("__debug__":Str))=false:=by decide):
  PS X (.Raise (some (.Call (.Name x np) (a::es) [] cpos)) none pos) (zj (.ref C) E t):=by
 intro pins s σ H D I h
 unfold PySem.W.excIn at q
 split at q
 ·rename_i dd cd sl ho
  split at q
  ·rename_i C' bm k0 k1 k2 k3 n k5 hm' hs
   simp only[Bool.and_eq_true,beq_iff_eq,Bool.not_eq_true'] at q
   obtain⟨⟨⟨⟨⟨rfl,rfl⟩,hdel⟩,ht⟩,hok⟩,hni⟩:=q
   obtain⟨nm,bs,mro,ns,qn,hd',sn,sub,ab,col,del⟩:=cd
   dsimp only at hm' hdel hok hni
   subst hm' hdel
   have hsl:sl= #[k0,k1,k2,k3,some (.builtin "ValueError.__new__"),k5]:=by
    obtain⟨l⟩:=sl
    simp only at hs
    rw[hs]
   subst hsl
   have obj: ∀ {hh:Heap},X.K.In hh->_:=fun{hh} (XX:X.K.In hh)=>(⟨XX _ _ ho,PySem.Heap.Ns.of_isNs (PySem.W.isNs_of_in XX hok),PySem.W.nsMap_none_of_in XX hok hni,PySem.W.tail_of_in XX ht⟩:
    hh.get? C'=some (excClassObj nm qn C' ns bs bm hd' sn sub ab col dd k0 k1 k2 k3 k5 "ValueError.__new__")/\hh.Ns ns (hh.nsMap ns)/\hh.nsMap ns "__init__"=none/\OwnTail hh bmVal bm)
   have o0:=obj I.ok.mod.kin
   refine wpAny_Raise_call_subT (C:=C') (nm:=nm) (q:=qn) (N:=ns) (bs:=bs) (bm:=bm) (hdct:=hd') (sn:=sn) (sub:=sub) (ab:=ab) (col:=col) (dd:=dd) (k0:=k0) (k1:=k1) (k2:=k2) (k3:=k3) (k5:=k5)
    F.excBase_ValueError (mN:=X.base.nsMap ns) (o0.2.2.2.hasType F.excBase_ValueError.hasBase) (I.ok.hd hc) (by rw[he];show (false||(backTo cpos (starEach es X.env)).any (·.1))=false;rw[hplain];rfl) o0.2.2.1 (kr I hg hm ⟨rfl,?_⟩ hd)
   rw[he]
   refine Calls.evalArgs_plain ?_
   have hq:=ha cpos pins s σ H _ I h
   rw[he] at hq
   refine thn hq fun us s2 qz=>?_
   obtain⟨vs,H1,I1,r1,z,q1⟩:=qz
   have kp: ∀b o,X.base.get? b=some o->s2.heap.get? b=some o:=I1.bk
   exact⟨rfl,by rw[<-r1.length];exact z,(obj I1.kIn).1,o0.2.1.keeps kp,(obj I1.kIn).2.2.2,fun h' e hx=>hX pins σ H1 s2 h' e _ _ I1 hx q1⟩
  ·cases q
 ·cases q
end
end
section
noncomputable def excO (ea:Addr)(cls:Value):HO:=.ext fun h=> ∃o vs,h.get? ea=some o/\o.cls=cls/\o.data=.fields vs
section
variable {X:Cx}{pins:List (Addr×Obj)}{σ:St}{H:Hp}{s:Shared}{pn:List (Addr×Obj)}{xe:Value->Shared->Prop}
end
section
variable {X:Cx}{CX:CXT}{k:Nat}{f C:Addr}{fd:FuncData}{ps:List Str}{sp:Sp}{dvs:List V}{ds:List Value}{Z:St->XK}{x m:Str}{p pos apos:Pos}{e o:Expr}{es:List Expr}{ta:TE}{t:TA}
end
section
variable {X:Cx}{x:Str}{C:Value}{body suite:List Stmt}{b0:Stmt}{np hpos pos:Pos}{tb:(St->XK)->TS}{ts:TS}
end
section
variable {P:Program}{w:World}{K:PySem.W.Frag}{mg:Str->Option Value}{base:Heap}
theorem Fun.okX {x qual:Str}{st:Stmt}{f:Addr}{fd:FuncData}{N ps:List Str}{k:Nat}{sp:Sp}(F:Fun K x qual st f fd)(S:FnScope N ps (ak st))(len: ∀vs H Q E,sp vs H Q E->vs.length=ps.length)
  (hbody: ∀ (cdv:Value) (A:Around) (outer:List Env) (s:Shared) (H:Hp) (vs:List V) (Q:VK) (E:XK),Room k (A.deeper (envOfC qual (ak st) s.heap.objs.size f cdv))->sp vs H Q E->
   ∃t,PSs (cxOf (CXx P w) P w K mg base N qual (ak st) f cdv A outer s H E) (gK st) t/\t {nx:=fun _ H'=>Q .non H',rt:=Q} (start N vs) H):FnOk P w K mg base (CXx P w) (k+1) f fd ps sp:=by
 obtain⟨oc,od,kV,doc,pm,an,cdv,ct,osl,rfl,lk,hcd⟩:=F.ex
 exact y6 lk hcd S len fun A outer s H vs Q E hr hsp=>hbody cdv A outer s H vs Q E hr hsp
end
end
section
section
variable {X:Cx}
end
end
section
section
variable {X:Cx}
end
def Ite (K:PySem.W.Frag)(a:Addr):It:=
 ⟨fun i H=> ∃xs x,SqL K H a xs/\xs[i]?=some x,fun i H v H'=> ∃T x,H T=none/\v=.ref T/\(∀xs,SqL K H a xs->xs[i]?=some x)/\H'=upd H T (.tup [.int i,x]),fun i H=> ∃xs,SqL K H a xs/\xs.length=i⟩
theorem ua {P:Program}{w:World}{K:PySem.W.Frag}{elts:List Expr}{x1}{tpos:Pos}(a e it:Addr)(hei:e≠it):Turn P w K (.Tuple elts x1 tpos) (Ite K a) [e,it] e (fun i h=>(∃old,IsEnum h e it i old)/\h.IsListIter it a i) where
 mem:=by simp
 obj:=fun i h st b hb=>by
  obtain⟨⟨old,he⟩,st⟩:=st
  rcases List.mem_cons.mp hb with rfl|hb
  ·exact⟨_,he,fun v z=>by cases z⟩
  ·have e':b=it:=by simpa using hb
   subst e'
   obtain⟨o,e,c,d⟩:=st
   exact⟨o,e,fun v z=>by rw[d] at z;cases z⟩
 keep:=fun i h h' st k=>⟨let ⟨old,he⟩:=st.1;⟨old,k e (by simp) _ he⟩,st.2.at fun o e=>k it (by simp) o e⟩
 item:=by
  intro X hP hw hK hc i pins s σ H E I hf st hg
  subst hP hw hK
  obtain⟨⟨old,he⟩,st⟩:=st
  obtain⟨xs,x,hq,hx⟩:=hg
  obtain⟨its,rv,p,hz⟩:=I.list hq
  obtain⟨u,hu,ru⟩:=rv.get hx
  have fe:=hf e (by simp)
  have fi:=hf it (by simp)
  obtain⟨oi,hoi,hoc,hod⟩:=id st
  have nai:a≠it:=fun z=>by
   obtain⟨o,h1,h2,_⟩:=p.isList
   rw[z,hoi] at h1
   cases h1
   rw[hoc] at h2
   exact absurd h2 (by decide)
  have nae:e≠a:=fun z=>by
   obtain⟨o,h1,h2,_⟩:=p.isList
   rw[<-z,show s.heap.get? e=_ from he] at h1
   cases h1
   exact absurd (show Value.type "enumerate"=Value.type "list" from h2) (by decide)
  have D:=Draws.list (prog:=X.prog) (w:=X.w) (A:=X.A.in1) (I.ok.hd hc) it a nai its.toArray
  refine wpAny_pyNext_enum_itemD D he ⟨st,p.isList⟩ (by
   have:=List.getElem?_eq_some_iff.mp hu
   obtain⟨z,_⟩:=this
   simpa using z) hei (by simp [hei,nae]) fun v h' tk hP hout hst hT hsz hk=>?_
  have hv:v=u:=by
   have hP:its.toArray[i]?=some v:=hP
   rw[List.getElem?_toArray,hu] at hP
   exact (Option.some.inj hP).symm
  subst hv
  have nT:H s.heap.objs.size=none:=I.hok.fresh (Nat.le_refl _)
  have lt: ∀b o,s.heap.get? b=some o->b≠s.heap.objs.size:=fun b o q=>Nat.ne_of_lt (Heap.lt_size q)
  have ltH: ∀b o,H b=some o->b≠s.heap.objs.size:=fun b o q z=>by rw[z,nT] at q;cases q
  have neH: ∀b o,H b=some o->b≠e/\b≠it:=fun b o q=>⟨fun z=>by (rw[z,fe.1] at q;cases q),fun z=>by (rw[z,fi.1] at q;cases q)⟩
  have I1:Inv X pins σ (upd H s.heap.objs.size (.tup [.int i,x])) {s with heap:=h',toks:=tk+1}:=by
   refine I.call' (s':={s with heap:=h',toks:=tk+1}) (ch:=[e,it]) rfl ⟨fun b o q n hb hx=>?_,fun b o q n hb hx=>?_,fun b o q n hx=>?_,fun b o q hx=>?_,fun b xs q=>?_,fun b o u q=>?_,fun b ps q=>?_⟩ (fun b o q=>?_) I.bare fun b hb=>?_
   ·exact hk b o (fun z=>hx (by simp [z])) (fun z=>hx (by simp [z])) q
   ·exact⟨o.slots,hk b o (fun z=>hx (by simp [z])) (fun z=>hx (by simp [z])) q⟩
   ·rw[aH (lt b o q)];exact n
   ·exact⟨o,hk b o (fun z=>hx (by simp [z])) (fun z=>hx (by simp [z])) q⟩
   ·rw[aH (ltH b _ q)];exact q
   ·rw[aH (ltH b _ q)];exact q
   ·exact⟨#[],by rw[aH (ltH b _ q),q];simp⟩
   ·by_cases hb:b=s.heap.objs.size
    ·subst hb
     rw[bb] at q
     cases q
     exact⟨by show 2<=sizeLine;decide,_,.cons ⟨tk,rfl⟩ (.cons ru .nil),⟨_,hT,rfl,_,rfl⟩,_,hT,rfl⟩
    ·rw[aH hb] at q
     refine (I.hok b o q).stay (fun c v hc r=>?_) (fun c r=>by rw[aH (ltH c _ r)];exact r) fun c xs r=>by rw[aH (ltH c _ r)];exact r
     have: ∃o,H c=some o:=by
      rcases hc with rfl|hc
      ·exact⟨o,q⟩
      ·exact⟨_,hc⟩
     obtain⟨o',qo⟩:=this
     exact hk c v (neH c o' qo).1 (neH c o' qo).2 r
   ·have fb:FpOk X pins H b:=by
     rcases List.mem_cons.mp hb with rfl|hb
     ·exact fe
     ·have e':b=it:=by simpa using hb
      subst e';exact fi
    exact⟨fb.2.2.2.1,fb.2.1,fb.2.2.2.2.1,fb.2.2.2.2.2⟩
  refine⟨_,rfl,wpAny_letOwnedTupleGo_enum (s:={s with heap:=h',toks:=tk+1}) hout fun h2 he2 hs2=>?_⟩
  have neT: ∀b∈[e,it],b≠s.heap.objs.size:=fun b hb=>by
   rcases List.mem_cons.mp hb with rfl|hb
   ·exact lt _ _ he
   ·have e':b=it:=by simpa using hb
    subst e';exact lt _ _ hoi
  have fe':(upd H s.heap.objs.size (.tup [.int i,x])) e=none:=by rw[aH (neT e (by simp))];exact fe.1
  refine⟨.ref s.heap.objs.size,upd H s.heap.objs.size (.tup [.int i,x]),?_,rfl,⟨s.heap.objs.size,x,nT,rfl,fun ys hy=>by rw[I.list_inj hy hq];exact hx,rfl⟩,⟨⟨_,by simpa using he2⟩,hst.1.at fun o eo=>(hs2.2 it (Ne.symm hei)).trans eo⟩,fun b hb=>?_⟩
  ·exact I1.turned (t':=tk+1) (fun b o hb eo=>(hs2.2 b hb).trans eo) fe' fe.2.1 fe.2.2.2.1 fe.2.2.2.2.1 fe.2.2.2.2.2
  ·rw[aH (neT b hb)]
   exact (hf b hb).1
 done:=by
  intro X hP hw hK hc i pins s σ H E I hf st hg
  subst hP hw hK
  obtain⟨⟨old,he⟩,st⟩:=st
  obtain⟨xs,hq,hx⟩:=hg
  obtain⟨its,rv,p,hz⟩:=I.list hq
  have fi:=hf it (by simp)
  obtain⟨oi,hoi,hoc,hod⟩:=id st
  have nai:a≠it:=fun z=>by
   obtain⟨o,h1,h2,_⟩:=p.isList
   rw[z,hoi] at h1
   cases h1
   rw[hoc] at h2
   exact absurd h2 (by decide)
  have D:=Draws.list (prog:=X.prog) (w:=X.w) (A:=X.A.in1) (I.ok.hd hc) it a nai its.toArray
  have ei:i=its.toArray.size:=by rw[List.size_toArray,<-rv.length];exact hx.symm
  refine wpAny_pyNext_enum_endD D he (by rw[<-ei];exact⟨st,p.isList⟩) fun h' eb=>⟨rfl,I.turned (t':=s.toks) (fun b o hb e=>eb b o hb e) fi.1 fi.2.1 fi.2.2.2.1 fi.2.2.2.2.1 fi.2.2.2.2.2⟩
 self:=fun _ _ _ _ _ st h=>let ⟨_,he⟩:=st.1;wpAny_pyIter_enum he h
section
variable {X:Cx}
def iEnum (K:PySem.W.Frag)(ta:TA):TI:=fun σ H R=>ta σ H fun vs H1=> ∃a,vs=[.ref a]/\(∃xs,SqL K H1 a xs)/\R (Ite K a) H1
theorem xQ {a:Expr}{ta:TA}{p pos:Pos}{elts:List Expr}{x1}{tpos:Pos}(hg:Gl X "enumerate")(hm:X.mg "enumerate"=none)(ha:PA X [a] ta)(hs:starEach [a] X.env=[(false,eval a X.env)]:=by rfl):PI X (.Tuple elts x1 tpos) (.Call (.Name "enumerate" p) [a] [] pos) (iEnum X.K ta):=by
 intro pins s σ H R I h
 refine Call_ (j0 I hg hm boot_enumerate (PyProof.Rows.callWith_type1 (thn (ha pos pins s σ H _ I h) fun us s1 qz=>?_) hs rfl))
 obtain⟨vs,H1,I1,r1,q1⟩:=qz
 obtain⟨b,e,⟨xs,hq⟩,q⟩:=q1
 subst e
 cases r1 with
 |cons r rr=>
  cases rr
  cases r
  obtain⟨its,rv,pl,hz⟩:=I1.list hq
  refine call_enumerate_list pl.isList fun h' he hi hsz hk=>?_
  refine wpAny_pyIter_enum he ?_
  have I2:Inv X pins σ H1 {s1 with heap:=h'}:=I1.kept (t':=s1.toks) hk
  refine⟨s1.heap.objs.size+1,[s1.heap.objs.size+1,s1.heap.objs.size],_,_,H1,rfl,I2,ua b _ _ (by simp),⟨⟨_,he⟩,hi⟩,fun c hc=>?_,q⟩
  have hc':s1.heap.objs.size<=c:=by
   rcases List.mem_cons.mp hc with rfl|hc
   ·exact Nat.le_succ _
   ·have:c=s1.heap.objs.size:=by simpa using hc
    exact Nat.le_of_eq this.symm
  exact I1.fpOk hc' (I1.hok.fresh hc')
end
end
end L2
namespace L2
open PySem PySem.Spec PyProof.Rows PySem.W
section
variable {prog:Program}{w:World}{A:Around}{E:Value->Shared->Prop}{h:Heap}{g:Array GenState}{d:Drawn}{t:Nat}{os:OsState}{a C:Addr}{o:Obj}{K:PySem.W.Frag}
end
section
variable {X:Cx}
end
section
section
variable {X:Cx}{pins:List (Addr×Obj)}{σ:St}{H:Hp}{s:Shared}
end
section
variable {X:Cx}{x n:Str}{C:Value}{body suite:List Stmt}{b0:Stmt}{np hpos pos:Pos}{tb:(St->XK)->TS}{ts:TS}{i:Nat}
end
end
end L2
namespace L2
open PySem PySem.Spec PyProof.Rows
theorem sx: ∀ {ts:List Str}{us:List Value},Vals (ts.map V.str) us-> ∃l:List (Str×Tok),us=strValues l/\l.map (·.1)=ts
 |[],_,.nil=>⟨[],rfl,rfl⟩
 |t::ts,_,.cons h r=>by
  obtain⟨k,rfl⟩:=h
  obtain⟨l,e,e2⟩:=sx r
  exact⟨(t,k)::l,by rw[e];rfl,by rw[<-e2];rfl⟩
theorem tZ (a b:Str):(a++b).length=a.length+b.length:=by
 show (a.cps++b.cps).size=_
 rw[Array.size_append];rfl
theorem mZ (sep:Str): ∀ (ts:List Str),(Str.join sep ts).length<=(ts.map (·.length)).sum+ts.length * sep.length
 |[]=>Nat.zero_le _
 |[x]=>by
  show x.length<=_
  simp
 |x::y::r=>by
  show (x++sep++Str.join sep (y::r)).length<=_
  have ih:=mZ sep (y::r)
  rw[tZ,tZ,List.map_cons,List.sum_cons,List.length_cons]
  have:((y::r).length+1) * sep.length=(y::r).length * sep.length+sep.length:=by rw[Nat.succ_mul]
  omega
section
variable {X:Cx}
def rJoin (K:PySem.W.Frag):V->List V->Hp->VK->Prop:=fun x vs H Q=> ∃ (sep:Str) (p:Addr) (ts:List Str),x=.str sep/\vs=[.ref p]/\SqL K H p (ts.map V.str)/\(ts.map (·.length)).sum+ts.length * sep.length<=sizeLine/\Q (.str (Str.join sep ts)) H
theorem yg:MtM X "str.join" (rJoin X.K):=by
 intro pins s σ H x vs v us Q I rx rv h
 obtain⟨sep,p,ts,rfl,rfl,hq,hz,q⟩:=h
 obtain⟨t,rfl⟩:=rx
 obtain⟨u,rfl,ru⟩:=rv.one
 cases ru
 obtain⟨its,r,pl,_⟩:=I.list hq
 obtain⟨l,rfl,rfl⟩:=sx r
 refine call_meets F.slot_str_join (typeIs_str s sep t) F.entry_str_join (F.args_str_join_2 _ _) (meets_str_join_list sep t p l (by
  rw[StrLaws.joinTotal]
  unfold Builtin.Str.tooLong
  exact decide_eq_false (by omega))) ⟨pl.isList,?_⟩
 cases l with
 |nil=>exact⟨by rw[StrLaws.glued_eq_join];exact Nat.le_trans (mZ sep _) hz,.str _,H,I.tok _,⟨_,by rw[StrLaws.glued_eq_join]⟩,q⟩
 |cons a l=>
  cases l with
  |nil=>exact⟨.str a.1,H,I,⟨a.2,rfl⟩,q⟩
  |cons b l=>exact⟨by rw[StrLaws.glued_eq_join];exact Nat.le_trans (mZ sep _) hz,.str _,H,I.tok _,⟨_,by rw[StrLaws.glued_eq_join]⟩,q⟩
end
section
variable {X:Cx}
end
end L2
namespace L2
open PySem
end L2
namespace L2
open PySem PySem.Spec PyProof.Rows
open Sem (wp)
open Builtin
section
variable {prog:Program}{w:World}{A:Around}{E:Value->Shared->Prop}{s:Shared}
theorem u4 {j t:Addr}{i:Nat}{its:Array Value}{x:Value}{Q:Value->Shared->Prop}(g:s.heap.IsTupleIter j t i)(gt:s.heap.IsTuple t its)(hx:its[i]?=some x)(k:∀h',h'.IsTupleIter j t (i+1)->Heap.SameBut j s.heap h'->Q x {s with heap:=h'}):wpAny (model prog w) A (SmallTypes.nextOf (.ref j)) Q E s:=by
 obtain⟨o,q1,q2,q3⟩:=id g
 obtain⟨u,z1,_,n,z2⟩:=gt
 unfold SmallTypes.nextOf
 refine wpAny_bind (wpAny_callSpecial?_slot (name:=Str.ofString "__next__") g.typeIs F.slot_tuple_iterator_next (wpAny_call_entry F.slot_tuple_iterator_next g.typeIs F.entry_tuple_iterator_next ?_ (F.args_tuple_iterator_next_1 _)))
 show wpAny _ _ (field (.ref j) 0>>=_) _ _ s
 refine wpAny_bind (wpAny_field q1 q3 (x:=.ref t) rfl ?_)
 show wpAny _ _ (if (Value.ref t==Value.none)=true then _ else _) _ _ s;rw[if_neg (show¬((Value.ref t==Value.none)=true) from Bool.false_ne_true)]
 show wpAny _ _ (field (.ref j) 1>>=_) _ _ s
 refine wpAny_bind (wpAny_field q1 q3 (x:=.int i 0) rfl ?_)
 show wpAny _ _ (seqItems? (.ref t)>>=_) _ _ s;refine wpAny_bind (wpAny_seqItems z1 z2 ?_)
 simp only[Int.toNat_natCast,hx]
 refine wpAny_bind (wpAny_setField q1 q3 (by simp) (wpAny_pure ⟨x,rfl,wpAny_pure (k _ ?_ (Heap.SameBut.update ..))⟩))
 exact⟨_,Heap.get?_update_self _ q1 (Obj.isFreed_of_fields (Obj.data_mapFields q3 _)),(Obj.cls_mapFields ..).trans q2,by rw[Obj.data_mapFields q3];simp [rawInt]⟩
theorem u5 {j t:Addr}{i:Nat}{its:Array Value}{Q:Value->Shared->Prop}(hh:A.handled=none)(g:s.heap.IsTupleIter j t i)(gt:s.heap.IsTuple t its)(hx:its[i]?=none)(k:∀h' e,Heap.ExtBut j s.heap h'->(∃o,h'.get? e=some o/\o.cls=.type "StopIteration")->E (.ref e) {s with heap:=h'}):wpAny (model prog w) A (SmallTypes.nextOf (.ref j)) Q E s:=by
 obtain⟨o,q1,q2,q3⟩:=id g
 obtain⟨u,z1,_,n,z2⟩:=gt
 unfold SmallTypes.nextOf
 refine wpAny_bind (wpAny_callSpecial?_slot (name:=Str.ofString "__next__") g.typeIs F.slot_tuple_iterator_next (wpAny_call_entry F.slot_tuple_iterator_next g.typeIs F.entry_tuple_iterator_next ?_ (F.args_tuple_iterator_next_1 _)))
 show wpAny _ _ (field (.ref j) 0>>=_) _ _ s
 refine wpAny_bind (wpAny_field q1 q3 (x:=.ref t) rfl ?_)
 show wpAny _ _ (if (Value.ref t==Value.none)=true then _ else _) _ _ s;rw[if_neg (show¬((Value.ref t==Value.none)=true) from Bool.false_ne_true)]
 show wpAny _ _ (field (.ref j) 1>>=_) _ _ s
 refine wpAny_bind (wpAny_field q1 q3 (x:=.int i 0) rfl ?_)
 show wpAny _ _ (seqItems? (.ref t)>>=_) _ _ s;refine wpAny_bind (wpAny_seqItems z1 z2 ?_)
 simp only[Int.toNat_natCast,hx]
 refine wpAny_bind (wpAny_rule (wpAny_bind (wpAny_setField q1 q3 (by simp) ?_)))
 show wpAny _ _ (newExc (.type "StopIteration") []>>=_) _ _ _;refine wpAny_bind ?_
 simp only[newExc,newTuple];refine wpAny_bind (wpAny_newObj_type ?_ (by size_fits))
 refine wpAny_bind (m:=firstArgMember _ _) (wpAny_of_eq (a:=Value.none) (by first|rfl|(simp only[firstArgMember];rfl)) (wpAny_newObj_type ?_ (by size_fits)))
 simp only[raiseNew];refine wpAny_bind (wpAny_handled ?_)
 first|rw[show A.in1.handled=none from hh]|rw[hh]
 exact wpAny_bind (wpAny_pure (wpAny_throw (k _ _ (((Heap.SameBut.update ..).extBut.push _).push _) ⟨_,Heap.get?_push_size _ rfl,rfl⟩)))
end
theorem n6 {prog:Program}{w:World}{A:Around}(hh:A.handled=none)(j t:Addr)(hne:t≠j)(its:Array Value):Draws prog w A j [j,t] its.size (fun i v=>its[i]?=some v) (fun i h=>h.IsTupleIter j t i/\h.IsTuple t its) where
 live:=fun _ _ st=>let ⟨o,q,_⟩:=st.1;⟨o,q⟩
 frame:=fun _ _ _ st k=>⟨let ⟨o,q,r⟩:=st.1;⟨o,k j (by simp) o q,r⟩,let ⟨o,q,r⟩:=st.2;⟨o,k t (by simp) o q,r⟩⟩
 item:=fun i s Q E hi st k=>u4 st.1 st.2 (x:=its[i]) (by simp [hi]) fun h' a b=>k _ h' s.toks (by simp [hi]) ⟨a,st.2.extBut b.extBut hne⟩ b
 done:=fun s Q E st k=>u5 hh st.1 st.2 (by simp) k
theorem tupOf {h:Heap}{a:Addr}{its:Array Value}(p:IsTup h a its):h.IsTuple a its:=p
section
variable {prog:Program}{w:World}{A:Around}{E:Value->Shared->Prop}{s:Shared}
end
section
variable {X:Cx}
end
section
open Sem (wp)
open Builtin
noncomputable def ItAt (h:Heap)(T:String)(j l:Addr)(i:Nat):Prop:= ∃o,h.get? j=some o/\o.cls=.type T/\o.data=.fields #[.ref l,.int i 0]
noncomputable def SeqAt (h:Heap)(T:String)(l:Addr)(its:Array Value):Prop:=(T= "list_iterator"/\h.IsList l its)\/(T= "tuple_iterator"/\h.IsTuple l its)
theorem SeqAt.keep {h h':Heap}{T:String}{l:Addr}{its:Array Value}(x:SeqAt h T l its)(k:∀o,h.get? l=some o->h'.get? l=some o):SeqAt h' T l its:=
 x.imp (fun⟨e,o,a,b⟩=>⟨e,o,k o a,b⟩) fun⟨e,o,a,b⟩=>⟨e,o,k o a,b⟩
theorem ItAt.keep {h h':Heap}{T:String}{j l:Addr}{i:Nat}(x:ItAt h T j l i)(k:∀o,h.get? j=some o->h'.get? j=some o):ItAt h' T j l i:=let ⟨o,a,b⟩:=x;⟨o,k o a,b⟩
theorem hZ {prog:Program}{w:World}{A:Around}(hh:A.handled=none)(T:String)(j l:Addr)(hne:l≠j)(its:Array Value):Draws prog w A j [j,l] its.size (fun i v=>its[i]?=some v) (fun i h=>ItAt h T j l i/\SeqAt h T l its) where
 live:=fun _ _ st=>let ⟨o,q,_⟩:=st.1;⟨o,q⟩
 frame:=fun _ _ _ st k=>⟨st.1.keep fun o q=>k j (by simp) o q,st.2.keep fun o q=>k l (by simp) o q⟩
 item:=fun i s Q E hi st k=>by
  obtain⟨a,⟨rfl,b⟩|⟨rfl,b⟩⟩:=st
  ·exact (Draws.list (prog:=prog) (w:=w) hh j l hne its).item i s Q E hi ⟨a,b⟩ fun x h' tk p st sb=>k x h' tk p ⟨st.1,.inl ⟨rfl,st.2⟩⟩ sb
  ·exact (n6 (prog:=prog) (w:=w) hh j l hne its).item i s Q E hi ⟨a,b⟩ fun x h' tk p st sb=>k x h' tk p ⟨st.1,.inr ⟨rfl,st.2⟩⟩ sb
 done:=fun s Q E st k=>by
  obtain⟨a,⟨rfl,b⟩|⟨rfl,b⟩⟩:=st
  ·exact (Draws.list (prog:=prog) (w:=w) hh j l hne its).done s Q E ⟨a,b⟩ k
  ·exact (n6 (prog:=prog) (w:=w) hh j l hne its).done s Q E ⟨a,b⟩ k
section
variable {prog:Program}{w:World}{A:Around}{E:Value->Shared->Prop}{s:Shared}
theorem qF {l:Addr}{T:String}{its:Array Value}{Q:Value->Shared->Prop}(hl:SeqAt s.heap T l its)(k:Q (.ref s.heap.objs.size) {s with heap:=s.heap.push {cls:=.type T,data:=.fields #[.ref l,.int 0 0]}}):wpAny (model prog w) A (pyIter (.ref l)) Q E s:=by
 obtain⟨rfl,hl⟩|⟨rfl,hl⟩:=hl
 ·exact wpAny_pyIter_list hl k
 ·exact wpAny_pyIter_tuple hl k
structure ZA (z TI TO i1 i2 l1 l2:Addr):Prop where
 a1:TI≠z
 a2:TO≠z
 a3:i1≠z
 a4:i2≠z
 a5:TI≠TO
 a6:TI≠i1
 a7:TI≠i2
 a8:TO≠i1
 a9:TO≠i2
 b1:i1≠i2
 b2:l1≠z
 b3:l1≠TO
 b4:l1≠i1
 b5:l1≠i2
 b6:l2≠z
 b7:l2≠TO
 b8:l2≠i1
 b9:l2≠i2
structure ZS (h:Heap)(z TI TO i1 i2 l1 l2:Addr)(T1 T2:String)(xs ys:Array Value)(n:Nat)(f0:Value):Prop where
 z:IsZip h z TI TO f0
 ti:IsPair h TI (.ref i1) (.ref i2)
 to: ∃a b,IsPair h TO a b
 u1:ItAt h T1 i1 l1 n
 u2:ItAt h T2 i2 l2 n
 s1:SeqAt h T1 l1 xs
 s2:SeqAt h T2 l2 ys
theorem uV {z TI TO i1 i2 l1 l2:Addr}{T1 T2:String}{n:Nat}{xs ys:Array Value}{x y:Value}{Q:Value->Shared->Prop}(hh:A.handled=none)(D:ZA z TI TO i1 i2 l1 l2)(Z:ZS s.heap z TI TO i1 i2 l1 l2 T1 T2 xs ys n .none)(hx:xs[n]?=some x)(hy:ys[n]?=some y)
  (k:∀h' tk,ZS h' z TI TO i1 i2 l1 l2 T1 T2 xs ys (n+1) (rawInt s.heap.objs.size)->IsPair h' s.heap.objs.size x y->h'.objs.size=s.heap.objs.size+1->(∀c o,c≠z->c≠TO->c≠i1->c≠i2->s.heap.get? c=some o->h'.get? c=some o)->Q (.ref s.heap.objs.size) {s with heap:=h',toks:=tk}):
  wpAny (model prog w) A (Builtin.«zip.__next__» ⟨[.ref z],[]⟩) (fun fin s'=> ∃v,fin=.done (.ret v)/\Q v s') E s:=by
 obtain⟨hz,hti,⟨a,b,hto⟩,u1,u2,s1,s2⟩:=Z
 have nx:n<xs.size:=(Array.getElem?_eq_some_iff.mp hx).1
 have ny:n<ys.size:=(Array.getElem?_eq_some_iff.mp hy).1
 show wpAny _ _ (field (.ref z) 2>>=_) _ _ s;refine wpAny_bind (wpAny_field hz rfl (x:=.bool false) rfl ?_)
 show wpAny _ _ (field (.ref z) 3>>=_) _ _ s;refine wpAny_bind (wpAny_field hz rfl (x:=.ref TI) rfl (wpAny_bind (wpAny_seqItems hti rfl ?_)))
 show wpAny _ _ (SmallTypes.ownedTupleIsFree (.ref z)>>=_) _ _ s
 refine wpAny_bind ?_;unfold SmallTypes.ownedTupleIsFree
 refine wpAny_bind (wpAny_field hz rfl (x:=.none) rfl (wpAny_pure ?_));simp only[if_true]
 refine wpAny_bind (wpAny_rule (wpAny_bind (wpAny_field hz rfl (x:=.ref TO) rfl (wpAny_bind (wpAny_setField_rec hz (by simp) fun h1 z1 e1=>?_)))))
 replace z1:IsZip h1 z TI TO .ellipsis:=z1
 refine wpAny_bind ?_;simp only[List.zipIdx_cons,List.zipIdx_nil,List.forIn_cons,List.forIn_nil]
 refine wpAny_bind (wpAny_bind (wpAny_onRaise ?_));show wpAny _ _ (SmallTypes.nextOf (.ref i1)>>=_) _ _ _
 refine wpAny_bind ((hZ (prog:=prog) (w:=w) hh T1 i1 l1 D.b4 xs).item n _ _ _ nx ⟨u1.keep fun o q=>e1.extBut _ _ D.a3 q,s1.keep fun o q=>e1.extBut _ _ D.b2 q⟩ fun x' h2 tk2 px st2 e2=>wpAny_pure ?_)
 have:x'=x:=Option.some.inj (px.symm.trans hx)
 subst this
 have to2:IsPair h2 TO a b:=e2.extBut _ _ D.a8 (e1.extBut _ _ D.a2 hto)
 refine wpAny_bind (wpAny_seqItems to2 rfl (wpAny_bind (wpAny_updateSeq_pair to2 fun h3 to3 e3=>?_)))
 replace to3:IsPair h3 TO x' b:=to3
 refine wpAny_bind (wpAny_letGo (wpAny_pure (wpAny_bind (wpAny_bind (wpAny_onRaise ?_)))));show wpAny _ _ (SmallTypes.nextOf (.ref i2)>>=_) _ _ _
 refine wpAny_bind ((hZ (prog:=prog) (w:=w) hh T2 i2 l2 D.b9 ys).item n _ _ _ ny ⟨u2.keep fun o q=>e3.extBut _ _ (Ne.symm D.a9) (e2.extBut _ _ (Ne.symm D.b1) (e1.extBut _ _ D.a4 q)),s2.keep fun o q=>e3.extBut _ _ D.b7 (e2.extBut _ _ D.b8 (e1.extBut _ _ D.b6 q))⟩ fun y' h4 tk4 py st4 e4=>wpAny_pure ?_)
 have:y'=y:=Option.some.inj (py.symm.trans hy)
 subst this
 have to4:IsPair h4 TO x' b:=e4.extBut _ _ D.a9 to3
 refine wpAny_bind (wpAny_seqItems to4 rfl (wpAny_bind (wpAny_updateSeq_pair to4 fun h5 to5 e5=>?_)))
 replace to5:IsPair h5 TO x' y':=to5
 refine wpAny_bind (wpAny_letGo (wpAny_pure (wpAny_pure ?_)));refine wpAny_bind (wpAny_seqItems to5 rfl (wpAny_bind (wpAny_newTuple ?_)))
 have zs:h5.objs.size=s.heap.objs.size:=by rw[e5.1,e4.1,e3.1,e2.1,e1.1]
 have z5:IsZip h5 z TI TO .ellipsis:=e5.extBut _ _ (Ne.symm D.a2) (e4.extBut _ _ (Ne.symm D.a4) (e3.extBut _ _ (Ne.symm D.a2) (e2.extBut _ _ (Ne.symm D.a3) z1)))
 have k5: ∀c o,c≠z->c≠TO->c≠i1->c≠i2->s.heap.get? c=some o->h5.get? c=some o:=fun c o c1 c2 c3 c4 e=>e5.extBut _ _ c2 (e4.extBut _ _ c4 (e3.extBut _ _ c2 (e2.extBut _ _ c3 (e1.extBut _ _ c1 e))))
 have zl:z<h5.objs.size:=Heap.lt_size z5
 show wpAny _ _ (SmallTypes.ownedTupleHandOut (.ref z) (.ref h5.objs.size)>>=_) _ _ _
 refine wpAny_bind ?_;unfold SmallTypes.ownedTupleHandOut
 have z6:IsZip (h5.push {cls:=.type "tuple",data:=.seq #[x',y']}) z TI TO .ellipsis:=Heap.get?_push_of_some _ z5
 refine wpAny_bind (wpAny_setField_rec z6 (by simp) fun h7 z7 e7=>?_)
 replace z7:IsZip h7 z TI TO (rawInt h5.objs.size):=z7
 refine wpAny_setField_rec z7 (by simp) fun h8 z8 e8=>?_
 replace z8:IsZip h8 z TI TO (rawInt h5.objs.size):=z8
 have up: ∀c o,c≠z->h5.get? c=some o->h8.get? c=some o:=fun c o c1 e=>e8.extBut _ _ c1 (e7.extBut _ _ c1 (Heap.get?_push_of_some _ e))
 have pr8:IsPair h8 h5.objs.size x' y':=e8.extBut _ _ (Nat.ne_of_gt zl) (e7.extBut _ _ (Nat.ne_of_gt zl) (Heap.get?_push_size _ rfl))
 have sz8:h8.objs.size=h5.objs.size+1:=by rw[e8.1,e7.1,Heap.size_push]
 rw[zs] at z8 pr8 sz8
 refine wpAny_pure ⟨_,rfl,?_⟩
 show Q (.ref h5.objs.size) _
 rw[zs]
 refine k h8 _ ⟨z8,up _ _ D.a1 (k5 _ _ D.a1 D.a5 D.a6 D.a7 hti),⟨_,_,up _ _ D.a2 to5⟩,?_,?_,s1.keep fun o q=>up _ _ D.b2 (k5 _ _ D.b2 D.b3 D.b4 D.b5 q),s2.keep fun o q=>up _ _ D.b6 (k5 _ _ D.b6 D.b7 D.b8 D.b9 q)⟩ pr8 sz8 fun c o c1 c2 c3 c4 e=>up c o c1 (k5 c o c1 c2 c3 c4 e)
 ·exact st2.1.keep fun o q=>up _ _ D.a3 (e5.extBut _ _ (Ne.symm D.a8) (e4.extBut _ _ D.b1 (e3.extBut _ _ (Ne.symm D.a8) q)))
 ·exact st4.1.keep fun o q=>up _ _ D.a4 (e5.extBut _ _ (Ne.symm D.a9) q)
theorem xp {z TI TO i1 i2 l1 l2:Addr}{T1 T2:String}{n:Nat}{xs ys:Array Value}{Q:Fin->Shared->Prop}(hh:A.handled=none)(D:ZA z TI TO i1 i2 l1 l2)(Z:ZS s.heap z TI TO i1 i2 l1 l2 T1 T2 xs ys n .none)(he:(n=xs.size/\n<=ys.size)\/(n<xs.size/\n=ys.size))
  (k:∀h' tk e,(∀c o,c≠z->c≠TO->c≠i1->c≠i2->s.heap.get? c=some o->h'.get? c=some o)->(∃o,h'.get? e=some o/\o.cls=.type "StopIteration")->E (.ref e) {s with heap:=h',toks:=tk}):
  wpAny (model prog w) A (Builtin.«zip.__next__» ⟨[.ref z],[]⟩) Q E s:=by
 obtain⟨hz,hti,⟨a,b,hto⟩,u1,u2,s1,s2⟩:=Z
 show wpAny _ _ (field (.ref z) 2>>=_) _ _ s;refine wpAny_bind (wpAny_field hz rfl (x:=.bool false) rfl ?_)
 show wpAny _ _ (field (.ref z) 3>>=_) _ _ s;refine wpAny_bind (wpAny_field hz rfl (x:=.ref TI) rfl (wpAny_bind (wpAny_seqItems hti rfl ?_)))
 show wpAny _ _ (SmallTypes.ownedTupleIsFree (.ref z)>>=_) _ _ s
 refine wpAny_bind ?_;unfold SmallTypes.ownedTupleIsFree
 refine wpAny_bind (wpAny_field hz rfl (x:=.none) rfl (wpAny_pure ?_));simp only[if_true]
 refine wpAny_bind (wpAny_rule (wpAny_bind (wpAny_field hz rfl (x:=.ref TO) rfl (wpAny_bind (wpAny_setField_rec hz (by simp) fun h1 z1 e1=>?_)))))
 replace z1:IsZip h1 z TI TO .ellipsis:=z1
 refine wpAny_bind ?_;simp only[List.zipIdx_cons,List.zipIdx_nil,List.forIn_cons,List.forIn_nil]
 refine wpAny_bind (wpAny_bind (wpAny_onRaise ?_));show wpAny _ _ (SmallTypes.nextOf (.ref i1)>>=_) _ _ _
 have st1:ItAt h1 T1 i1 l1 n/\SeqAt h1 T1 l1 xs:=⟨u1.keep fun o q=>e1.extBut _ _ D.a3 q,s1.keep fun o q=>e1.extBut _ _ D.b2 q⟩
 rcases he with⟨rfl,_⟩|⟨nx,hy⟩
 ·refine wpAny_bind ((hZ (prog:=prog) (w:=w) hh T1 i1 l1 D.b4 xs).done _ _ _ st1 fun h2 e e2 he=>?_)
  obtain⟨oe,g1,g2⟩:=he
  have z2:IsZip h2 z TI TO .ellipsis:=e2 _ _ (Ne.symm D.a3) z1
  have ez:e≠z:=fun q=>by subst q;rw[z2] at g1;cases g1;simp at g2
  exact wpAny_setField_rec z2 (by simp) fun h3 _ e3=>k h3 _ e (fun c o c1 _ c3 _ q=>e3.extBut _ _ c1 (e2 _ _ c3 (e1.extBut _ _ c1 q))) ⟨oe,e3.extBut _ _ ez g1,g2⟩
 ·refine wpAny_bind ((hZ (prog:=prog) (w:=w) hh T1 i1 l1 D.b4 xs).item n _ _ _ nx st1 fun x' h2 tk2 px st2 e2=>wpAny_pure ?_)
  have to2:IsPair h2 TO a b:=e2.extBut _ _ D.a8 (e1.extBut _ _ D.a2 hto)
  refine wpAny_bind (wpAny_seqItems to2 rfl (wpAny_bind (wpAny_updateSeq_pair to2 fun h3 to3 e3=>?_)))
  refine wpAny_bind (wpAny_letGo (wpAny_pure (wpAny_bind (wpAny_bind (wpAny_onRaise ?_)))));show wpAny _ _ (SmallTypes.nextOf (.ref i2)>>=_) _ _ _
  subst hy
  refine wpAny_bind ((hZ (prog:=prog) (w:=w) hh T2 i2 l2 D.b9 ys).done _ _ _ ⟨u2.keep fun o q=>e3.extBut _ _ (Ne.symm D.a9) (e2.extBut _ _ (Ne.symm D.b1) (e1.extBut _ _ D.a4 q)),s2.keep fun o q=>e3.extBut _ _ D.b7 (e2.extBut _ _ D.b8 (e1.extBut _ _ D.b6 q))⟩ fun h4 e e4 he=>?_)
  obtain⟨oe,g1,g2⟩:=he
  have z4:IsZip h4 z TI TO .ellipsis:=e4 _ _ (Ne.symm D.a4) (e3.extBut _ _ (Ne.symm D.a2) (e2.extBut _ _ (Ne.symm D.a3) z1))
  have ez:e≠z:=fun q=>by subst q;rw[z4] at g1;cases g1;simp at g2
  exact wpAny_setField_rec z4 (by simp) fun h5 _ e5=>k h5 _ e (fun c o c1 c2 c3 c4 q=>e5.extBut _ _ c1 (e4 _ _ c4 (e3.extBut _ _ c2 (e2.extBut _ _ c3 (e1.extBut _ _ c1 q))))) ⟨oe,e5.extBut _ _ ez g1,g2⟩
theorem v7 {z TI TO i1 i2 l1 l2:Addr}{T1 T2:String}{n:Nat}{xs ys:Array Value}{x y:Value}{Q:Option Value->Shared->Prop}(hh:A.in1.handled=none)(D:ZA z TI TO i1 i2 l1 l2)(Z:ZS s.heap z TI TO i1 i2 l1 l2 T1 T2 xs ys n .none)(hx:xs[n]?=some x)(hy:ys[n]?=some y)
  (k:∀h' tk,ZS h' z TI TO i1 i2 l1 l2 T1 T2 xs ys (n+1) (rawInt s.heap.objs.size)->IsPair h' s.heap.objs.size x y->h'.objs.size=s.heap.objs.size+1->(∀c o,c≠z->c≠TO->c≠i1->c≠i2->s.heap.get? c=some o->h'.get? c=some o)->Q (some (.ref s.heap.objs.size)) {s with heap:=h',toks:=tk}):
  wpAny (model prog w) A (pyNext (.ref z)) Q E s:=by
 have hT:s.TypeIs (.ref z) "zip":=⟨_,Z.z,rfl⟩
 unfold pyNext
 exact wpAny_bind (wpAny_attempt (wpAny_callSpecial?_slot (name:=Str.ofString "__next__") hT F.slot_zip_next (wpAny_call_entry F.slot_zip_next hT F.entry_zip_next (uV hh D Z hx hy fun h' tk a1 a2 a3 a4=>wpAny_pure (k h' tk a1 a2 a3 a4)) (F.args_zip_next_1 _))))
theorem yF {z TI TO i1 i2 l1 l2:Addr}{T1 T2:String}{n:Nat}{xs ys:Array Value}{Q:Option Value->Shared->Prop}(hh:A.in1.handled=none)(D:ZA z TI TO i1 i2 l1 l2)(Z:ZS s.heap z TI TO i1 i2 l1 l2 T1 T2 xs ys n .none)(he:(n=xs.size/\n<=ys.size)\/(n<xs.size/\n=ys.size))
  (k:∀h' tk,(∀c o,c≠z->c≠TO->c≠i1->c≠i2->s.heap.get? c=some o->h'.get? c=some o)->Q none {s with heap:=h',toks:=tk}):wpAny (model prog w) A (pyNext (.ref z)) Q E s:=by
 have hT:s.TypeIs (.ref z) "zip":=⟨_,Z.z,rfl⟩
 unfold pyNext
 refine wpAny_bind (wpAny_attempt (wpAny_callSpecial?_slot (name:=Str.ofString "__next__") hT F.slot_zip_next (wpAny_call_entry F.slot_zip_next hT F.entry_zip_next (xp hh D Z he fun h' tk e hk ⟨o,g1,g2⟩=>?_) (F.args_zip_next_1 _))))
 exact wpAny_bind (wpAny_isInstance (T:= "StopIteration") (b:=true) ⟨o,g1,g2⟩ isSubtype_stop (wpAny_pure (k _ _ hk)))
end
noncomputable abbrev zA (h:Heap)(T:String)(l:Addr):Heap:=h.push {cls:=.type T,data:=.fields #[.ref l,.int 0 0]}
theorem rQ (l1 l2:Addr)(T1 T2:String)(xs ys:Array Value):
  Meets (Builtin.«zip.__new__» ⟨[.type "zip",.ref l1,.ref l2],[]⟩) (fun _ R s=>SeqAt s.heap T1 l1 xs/\SeqAt s.heap T2 l2 ys/\
   R (.ok (.ret (.ref ((((zA (zA s.heap T1 l1) T2 l2).push {cls:=.type "tuple",data:=.seq #[.ref s.heap.objs.size,.ref (zA s.heap T1 l1).objs.size]}).push {cls:=.type "tuple",data:=.seq #[.none,.none]}).objs.size))))
     {s with heap:=(((zA (zA s.heap T1 l1) T2 l2).push {cls:=.type "tuple",data:=.seq #[.ref s.heap.objs.size,.ref (zA s.heap T1 l1).objs.size]}).push {cls:=.type "tuple",data:=.seq #[.none,.none]}).push {cls:=.type "zip",data:=.fields #[.none,.bool false,.bool false,.ref (zA (zA s.heap T1 l1) T2 l2).objs.size,.ref ((zA (zA s.heap T1 l1) T2 l2).push {cls:=.type "tuple",data:=.seq #[.ref s.heap.objs.size,.ref (zA s.heap T1 l1).objs.size]}).objs.size]}}):=
 .of_wp fun prog w A R s h=>by
  obtain⟨hp,g,d,tk,os⟩:=s;obtain⟨q1,q2,h⟩:=h
  have hsub:=sub_zip
  have r1:SeqAt (Shared.heap ⟨hp,g,d,tk,os⟩) T1 l1 xs:=q1
  have r2:SeqAt (Shared.heap ⟨hp.push {cls:=.type T1,data:=.fields #[.ref l1,.int 0 0]},g,d,tk,os⟩) T2 l2 ys:=q2.keep fun o e=>Heap.get?_push_of_some _ e
  wp_walk using qF r1,qF r2
  exact⟨_,rfl,h⟩
section
variable {prog:Program}{w:World}{A:Around}{E:Value->Shared->Prop}{s:Shared}
theorem uR {l1 l2:Addr}{T1 T2:String}{xs ys:Array Value}{Q:Value->Shared->Prop}(q1:SeqAt s.heap T1 l1 xs)(q2:SeqAt s.heap T2 l2 ys)
  (k:∀h',ZS h' (s.heap.objs.size+4) (s.heap.objs.size+2) (s.heap.objs.size+3) s.heap.objs.size (s.heap.objs.size+1) l1 l2 T1 T2 xs ys 0 .none->h'.objs.size=s.heap.objs.size+5->(∀c o,s.heap.get? c=some o->h'.get? c=some o)->Q (.ref (s.heap.objs.size+4)) {s with heap:=h'}):
  wpAny (model prog w) A (call (.type "zip") [.ref l1,.ref l2]) Q E s:=by
 refine callType_new F.called_zip (by decide) (F.typeCall_zip_2 _ _) (F.newCall_zip_2 _ _) (fun obj=>F.args_object_init_3 obj _ _) F.entry_zip_new (rQ l1 l2 T1 T2 xs ys) ⟨q1,q2,?_⟩
 have y1:(zA s.heap T1 l1).objs.size=s.heap.objs.size+1:=Heap.size_push ..
 have y2:(zA (zA s.heap T1 l1) T2 l2).objs.size=s.heap.objs.size+2:=by rw[Heap.size_push,y1]
 generalize e2:zA (zA s.heap T1 l1) T2 l2=H2 at *
 have y3:(H2.push {cls:=.type "tuple",data:=.seq #[.ref s.heap.objs.size,.ref (zA s.heap T1 l1).objs.size]}).objs.size=s.heap.objs.size+3:=by rw[Heap.size_push,y2]
 have g3:(H2.push {cls:=.type "tuple",data:=.seq #[.ref s.heap.objs.size,.ref (zA s.heap T1 l1).objs.size]}).get? H2.objs.size=some _:=Heap.get?_push_size _ rfl
 have up3: ∀c o,H2.get? c=some o->(H2.push {cls:=.type "tuple",data:=.seq #[.ref s.heap.objs.size,.ref (zA s.heap T1 l1).objs.size]}).get? c=some o:=fun c o e=>Heap.get?_push_of_some _ e
 generalize H2.push {cls:=.type "tuple",data:=.seq #[.ref s.heap.objs.size,.ref (zA s.heap T1 l1).objs.size]}=H3 at *
 have y4:(H3.push {cls:=.type "tuple",data:=.seq #[.none,.none]}).objs.size=s.heap.objs.size+4:=by rw[Heap.size_push,y3]
 have g4:(H3.push {cls:=.type "tuple",data:=.seq #[.none,.none]}).get? H3.objs.size=some _:=Heap.get?_push_size _ rfl
 have up4: ∀c o,H3.get? c=some o->(H3.push {cls:=.type "tuple",data:=.seq #[.none,.none]}).get? c=some o:=fun c o e=>Heap.get?_push_of_some _ e
 generalize H3.push {cls:=.type "tuple",data:=.seq #[.none,.none]}=H4 at *
 have y5:(H4.push {cls:=.type "zip",data:=.fields #[.none,.bool false,.bool false,.ref H2.objs.size,.ref H3.objs.size]}).objs.size=s.heap.objs.size+5:=by rw[Heap.size_push,y4]
 have g5:(H4.push {cls:=.type "zip",data:=.fields #[.none,.bool false,.bool false,.ref H2.objs.size,.ref H3.objs.size]}).get? H4.objs.size=some _:=Heap.get?_push_size _ rfl
 have up5: ∀c o,H4.get? c=some o->(H4.push {cls:=.type "zip",data:=.fields #[.none,.bool false,.bool false,.ref H2.objs.size,.ref H3.objs.size]}).get? c=some o:=fun c o e=>Heap.get?_push_of_some _ e
 generalize H4.push {cls:=.type "zip",data:=.fields #[.none,.bool false,.bool false,.ref H2.objs.size,.ref H3.objs.size]}=H5 at *
 have u2:H2.get? (s.heap.objs.size+1)=some {cls:=.type T2,data:=.fields #[.ref l2,.int 0 0]}:=by rw[<-e2,<-y1];exact Heap.get?_push_size _ rfl
 have u1:H2.get? s.heap.objs.size=some {cls:=.type T1,data:=.fields #[.ref l1,.int 0 0]}:=by rw[<-e2];exact Heap.get?_push_of_some _ (Heap.get?_push_size _ rfl)
 have kk: ∀c o,s.heap.get? c=some o->H2.get? c=some o:=fun c o e=>by rw[<-e2];exact Heap.get?_push_of_some _ (Heap.get?_push_of_some _ e)
 have up: ∀c o,H2.get? c=some o->H5.get? c=some o:=fun c o e=>up5 c o (up4 c o (up3 c o e))
 show _/\_
 rw[y4] at g5 ⊢
 rw[y2,y3] at g5
 rw[y2,y1] at g3
 rw[y3] at g4
 exact⟨⟨_,g5,rfl⟩,k _ ⟨g5,up5 _ _ (up4 _ _ g3),⟨_,_,up5 _ _ g4⟩,⟨_,up _ _ u1,rfl,rfl⟩,⟨_,up _ _ u2,rfl,rfl⟩,q1.keep fun o e=>up _ _ (kk _ _ e),q2.keep fun o e=>up _ _ (kk _ _ e)⟩ y5 fun c o e=>up c o (kk c o e)⟩
end
end
section
def SqK (k:Bool)(K:PySem.W.Frag)(H:Hp)(a:Addr)(xs:List V):Prop:=match k with
 |true=>SqT K H a xs
 |false=>SqL K H a xs
noncomputable def tyK (k:Bool):String:=match k with
 |true=> "tuple_iterator"
 |false=> "list_iterator"
section
variable {X:Cx}{pins:List (Addr×Obj)}{σ:St}{H:Hp}{s:Shared}{a:Addr}{xs ys:List V}{k:Bool}
theorem Inv.seqK (I:Inv X pins σ H s)(h:SqK k X.K H a xs): ∃its:List Value,Vals xs its/\SeqAt s.heap (tyK k) a its.toArray:=by
 cases k with
 |false=>
  obtain⟨its,rv,p,_⟩:=I.list h
  exact⟨its,rv,.inl ⟨rfl,p.isList⟩⟩
 |true=>
  obtain⟨its,rv,p,_⟩:=I.tuple h
  exact⟨its,rv,.inr ⟨rfl,tupOf p⟩⟩
theorem Inv.seqK_inj (I:Inv X pins σ H s)(h:SqK k X.K H a xs)(g:SqK k X.K H a ys):xs=ys:=by
 cases k with
 |false=>exact I.list_inj h g
 |true=>exact I.tuple_inj h g
end
def Itz (j k:Bool)(K:PySem.W.Frag)(a b:Addr):It:=
 ⟨fun i H=> ∃xs ys x y,SqK j K H a xs/\SqK k K H b ys/\xs[i]?=some x/\ys[i]?=some y,fun i H v H'=> ∃T x y,H T=none/\v=.ref T/\(∀xs ys,SqK j K H a xs->SqK k K H b ys->xs[i]?=some x/\ys[i]?=some y)/\H'=upd H T (.tup [x,y]),fun i H=> ∃xs ys,SqK j K H a xs/\SqK k K H b ys/\min xs.length ys.length=i⟩
structure ZO (h:Heap)(z TI TO i1 i2 a b:Addr)(T1 T2:String)(n:Nat)(f0:Value):Prop where
 z:IsZip h z TI TO f0
 ti:IsPair h TI (.ref i1) (.ref i2)
 to: ∃u v,IsPair h TO u v
 u1:ItAt h T1 i1 a n
 u2:ItAt h T2 i2 b n
theorem ZO.keep {h h':Heap}{z TI TO i1 i2 a b:Addr}{T1 T2:String}{n:Nat}{f0:Value}(Z:ZO h z TI TO i1 i2 a b T1 T2 n f0)(k:∀c∈[z,TI,TO,i1,i2],∀o,h.get? c=some o->h'.get? c=some o):ZO h' z TI TO i1 i2 a b T1 T2 n f0:=
 ⟨k z (by simp) _ Z.z,k TI (by simp) _ Z.ti,let ⟨u,v,q⟩:=Z.to;⟨u,v,k TO (by simp) _ q⟩,Z.u1.keep fun o q=>k i1 (by simp) o q,Z.u2.keep fun o q=>k i2 (by simp) o q⟩
theorem u0 {P:Program}{w:World}{K:PySem.W.Frag}{elts:List Expr}{x1}{tpos:Pos}{a b z TI TO i1 i2:Addr}{j k:Bool}(D:ZA z TI TO i1 i2 a b):Turn P w K (.Tuple elts x1 tpos) (Itz j k K a b) [z,TI,TO,i1,i2] z (fun i h=>ZO h z TI TO i1 i2 a b (tyK j) (tyK k) i .none) where
 mem:=by simp
 obj:=fun i h st c hc=>by
  simp only[List.mem_cons,List.not_mem_nil,or_false] at hc
  rcases hc with rfl|rfl|rfl|rfl|rfl
  ·exact⟨_,st.z,fun v z=>by cases z⟩
  ·exact⟨_,st.ti,fun v z=>by cases z⟩
  ·obtain⟨_,_,q⟩:=st.to
   exact⟨_,q,fun v z=>by cases z⟩
  ·obtain⟨o,e,c,d⟩:=st.u1
   exact⟨o,e,fun v z=>by rw[d] at z;cases z⟩
  ·obtain⟨o,e,c,d⟩:=st.u2
   exact⟨o,e,fun v z=>by rw[d] at z;cases z⟩
 keep:=fun i h h' st kk=>st.keep kk
 item:=by
  intro X hP hw hK hc i pins s σ H E I hf st hg
  subst hP hw hK
  obtain⟨xs,ys,x,y,hq1,hq2,hx,hy⟩:=hg
  obtain⟨is1,rv1,q1⟩:=I.seqK hq1
  obtain⟨is2,rv2,q2⟩:=I.seqK hq2
  obtain⟨u,hu,ru⟩:=rv1.get hx
  obtain⟨v,hv,rv⟩:=rv2.get hy
  have fz:=hf z (by simp)
  have fO:=hf TO (by simp)
  have f1:=hf i1 (by simp)
  have f2:=hf i2 (by simp)
  refine v7 (I.ok.hd hc) D ⟨st.z,st.ti,st.to,st.u1,st.u2,q1,q2⟩ (by simpa using hu) (by simpa using hv) fun h' tk Z' hT hsz hk=>?_
  have nT:H s.heap.objs.size=none:=I.hok.fresh (Nat.le_refl _)
  have lt: ∀c o,s.heap.get? c=some o->c≠s.heap.objs.size:=fun c o q=>Nat.ne_of_lt (Heap.lt_size q)
  have ltH: ∀c o,H c=some o->c≠s.heap.objs.size:=fun c o q z=>by rw[z,nT] at q;cases q
  have neH: ∀c o,H c=some o->c≠z/\c≠TO/\c≠i1/\c≠i2:=fun c o q=>⟨fun z=>by (rw[z,fz.1] at q;cases q),fun z=>by (rw[z,fO.1] at q;cases q),fun z=>by (rw[z,f1.1] at q;cases q),fun z=>by (rw[z,f2.1] at q;cases q)⟩
  have hk': ∀c o,c ∉ [z,TO,i1,i2]->s.heap.get? c=some o->h'.get? c=some o:=fun c o n q=>hk c o (fun z=>n (by simp [z])) (fun z=>n (by simp [z])) (fun z=>n (by simp [z])) (fun z=>n (by simp [z])) q
  have I1:Inv X pins σ (upd H s.heap.objs.size (.tup [x,y])) {s with heap:=h',toks:=tk}:=by
   refine I.call' (s':={s with heap:=h',toks:=tk}) (ch:=[z,TO,i1,i2]) rfl ⟨fun b o q n hb hx=>?_,fun b o q n hb hx=>?_,fun b o q n hx=>?_,fun b o q hx=>?_,fun b xs q=>?_,fun b o u q=>?_,fun b ps q=>?_⟩ (fun b o q=>?_) I.bare fun b hb=>?_
   ·exact hk' b o hx q
   ·exact⟨o.slots,hk' b o hx q⟩
   ·rw[aH (lt b o q)];exact n
   ·exact⟨o,hk' b o hx q⟩
   ·rw[aH (ltH b _ q)];exact q
   ·rw[aH (ltH b _ q)];exact q
   ·exact⟨#[],by rw[aH (ltH b _ q),q];simp⟩
   ·by_cases hb:b=s.heap.objs.size
    ·subst hb
     rw[bb] at q
     cases q
     exact⟨by show 2<=sizeLine;decide,_,.cons ru (.cons rv .nil),⟨_,hT,rfl,_,rfl⟩,_,hT,rfl⟩
    ·rw[aH hb] at q
     refine (I.hok b o q).stay (fun c v hc r=>?_) (fun c r=>by rw[aH (ltH c _ r)];exact r) fun c xs r=>by rw[aH (ltH c _ r)];exact r
     have: ∃o,H c=some o:=by
      rcases hc with rfl|hc
      ·exact⟨o,q⟩
      ·exact⟨_,hc⟩
     obtain⟨o',qo⟩:=this
     obtain⟨n1,n2,n3,n4⟩:=neH c o' qo
     exact hk c v n1 n2 n3 n4 r
   ·have fb:FpOk X pins H b:=by
     simp only[List.mem_cons,List.not_mem_nil,or_false] at hb
     rcases hb with rfl|rfl|rfl|rfl
     ·exact fz
     ·exact fO
     ·exact f1
     ·exact f2
    exact⟨fb.2.2.2.1,fb.2.1,fb.2.2.2.2.1,fb.2.2.2.2.2⟩
  refine⟨_,rfl,wpAny_letOwnedTupleGo_zip (s:={s with heap:=h',toks:=tk}) Z'.z fun h2 hz2 hs2=>?_⟩
  have nn: ∀c∈[z,TI,TO,i1,i2],c≠s.heap.objs.size:=fun c hc=>by
   simp only[List.mem_cons,List.not_mem_nil,or_false] at hc
   rcases hc with rfl|rfl|rfl|rfl|rfl
   ·exact lt _ _ st.z
   ·exact lt _ _ st.ti
   ·obtain⟨_,_,q⟩:=st.to;exact lt _ _ q
   ·obtain⟨o,e,_⟩:=st.u1;exact lt _ _ e
   ·obtain⟨o,e,_⟩:=st.u2;exact lt _ _ e
  have fe':(upd H s.heap.objs.size (.tup [x,y])) z=none:=by rw[aH (nn z (by simp))];exact fz.1
  refine⟨.ref s.heap.objs.size,upd H s.heap.objs.size (.tup [x,y]),?_,rfl,⟨s.heap.objs.size,x,y,nT,rfl,fun xs' ys' h1 h2=>by rw[I.seqK_inj h1 hq1,I.seqK_inj h2 hq2];exact⟨hx,hy⟩,rfl⟩,?_,fun c hc=>?_⟩
  ·exact I1.turned (t':=tk) (fun b o hb eo=>(hs2.2 b hb).trans eo) fe' fz.2.1 fz.2.2.2.1 fz.2.2.2.2.1 fz.2.2.2.2.2
  ·have up: ∀c o,c≠z->h'.get? c=some o->h2.get? c=some o:=fun c o n q=>hs2.extBut _ _ n q
   obtain⟨u',v',q⟩:=Z'.to
   exact⟨hz2,up _ _ D.a1 Z'.ti,⟨u',v',up _ _ D.a2 q⟩,Z'.u1.keep fun o q=>up _ _ D.a3 q,Z'.u2.keep fun o q=>up _ _ D.a4 q⟩
  ·rw[aH (nn c hc)]
   exact (hf c hc).1
 done:=by
  intro X hP hw hK hc i pins s σ H E I hf st hg
  subst hP hw hK
  obtain⟨xs,ys,hq1,hq2,hx⟩:=hg
  obtain⟨is1,rv1,q1⟩:=I.seqK hq1
  obtain⟨is2,rv2,q2⟩:=I.seqK hq2
  have l1:=rv1.length
  have l2:=rv2.length
  have fz:=hf z (by simp)
  have fO:=hf TO (by simp)
  have f1:=hf i1 (by simp)
  have f2:=hf i2 (by simp)
  refine yF (I.ok.hd hc) D ⟨st.z,st.ti,st.to,st.u1,st.u2,q1,q2⟩ (by
   rw[List.size_toArray,List.size_toArray]
   omega) fun h' tk hk=>⟨rfl,?_⟩
  refine I.call' (s':={s with heap:=h',toks:=tk}) (ch:=[z,TO,i1,i2]) rfl ⟨fun b o q n hb hx=>?_,fun b o q n hb hx=>?_,fun b o q n hx=>n,fun b o q hx=>?_,fun b xs q=>q,fun b o u q=>q,fun b ps q=>⟨#[],by rw[q];simp⟩⟩ (fun b o q=>?_) I.bare fun b hb=>?_
  ·exact hk b o (fun z=>hx (by simp [z])) (fun z=>hx (by simp [z])) (fun z=>hx (by simp [z])) (fun z=>hx (by simp [z])) q
  ·exact⟨o.slots,hk b o (fun z=>hx (by simp [z])) (fun z=>hx (by simp [z])) (fun z=>hx (by simp [z])) (fun z=>hx (by simp [z])) q⟩
  ·exact⟨o,hk b o (fun z=>hx (by simp [z])) (fun z=>hx (by simp [z])) (fun z=>hx (by simp [z])) (fun z=>hx (by simp [z])) q⟩
  ·refine (I.hok b o q).stay (fun c v hc r=>?_) (fun c r=>r) fun c xs r=>r
   have: ∃o,H c=some o:=by
    rcases hc with rfl|hc
    ·exact⟨o,q⟩
    ·exact⟨_,hc⟩
   obtain⟨o',qo⟩:=this
   exact hk c v (fun z=>by rw[z,fz.1] at qo;cases qo) (fun z=>by rw[z,fO.1] at qo;cases qo) (fun z=>by rw[z,f1.1] at qo;cases qo) (fun z=>by rw[z,f2.1] at qo;cases qo) r
  ·have fb:FpOk X pins H b:=by
    simp only[List.mem_cons,List.not_mem_nil,or_false] at hb
    rcases hb with rfl|rfl|rfl|rfl
    ·exact fz
    ·exact fO
    ·exact f1
    ·exact f2
   exact⟨fb.2.2.2.1,fb.2.1,fb.2.2.2.2.1,fb.2.2.2.2.2⟩
 self:=fun _ _ _ _ _ st h=>wpAny_pyIter_zip st.z h
section
variable {X:Cx}
def iZip (j k:Bool)(K:PySem.W.Frag)(ta:TA):TI:=fun σ H R=>ta σ H fun vs H1=> ∃a b,vs=[.ref a,.ref b]/\(∃xs,SqK j K H1 a xs)/\(∃ys,SqK k K H1 b ys)/\R (Itz j k K a b) H1
theorem y9 (n a b:Nat)(h1:a<n)(h2:b<n):(n+2≠n+4/\n+3≠n+4/\n≠n+4/\n+1≠n+4/\n+2≠n+3/\n+2≠n/\n+2≠n+1/\n+3≠n/\n+3≠n+1)/\(n≠n+1/\a≠n+4/\a≠n+3/\a≠n/\a≠n+1/\b≠n+4/\b≠n+3/\b≠n/\b≠n+1):=by omega
theorem y8 {n l1 l2:Addr}(h1:l1<n)(h2:l2<n):ZA (n+4) (n+2) (n+3) n (n+1) l1 l2:=
 by
 obtain⟨⟨a1,a2,a3,a4,a5,a6,a7,a8,a9⟩,b1,b2,b3,b4,b5,b6,b7,b8,b9⟩:=y9 n l1 l2 h1 h2
 exact⟨a1,a2,a3,a4,a5,a6,a7,a8,a9,b1,b2,b3,b4,b5,b6,b7,b8,b9⟩
theorem zJ {j k:Bool}{a b:Expr}{ta:TA}{p pos:Pos}{elts:List Expr}{x1}{tpos:Pos}(hg:Gl X "zip")(hm:X.mg "zip"=none)(ha:PA X [a,b] ta)(hs:starEach [a,b] X.env=[(false,eval a X.env),(false,eval b X.env)]:=by rfl)(hs2:starEach [b] X.env=[(false,eval b X.env)]:=by rfl):PI X (.Tuple elts x1 tpos) (.Call (.Name "zip" p) [a,b] [] pos) (iZip j k X.K ta):=by
 intro pins s σ H R I h
 refine Call_ (j0 I hg hm boot_zip (PyProof.Rows.callWith_type1 (thn (ha pos pins s σ H _ I h) fun us s1 qz=>?_) (by rw[hs,hs2]) (by rw[hs2];rfl)))
 obtain⟨vs,H1,I1,r1,q1⟩:=qz
 obtain⟨a',b',e,⟨xs,hq1⟩,⟨ys,hq2⟩,q⟩:=q1
 subst e
 obtain⟨u,v,rfl,ru,rv⟩:=r1.two
 cases ru
 cases rv
 obtain⟨is1,rv1,t1⟩:=I1.seqK hq1
 obtain⟨is2,rv2,t2⟩:=I1.seqK hq2
 have lt: ∀ {T:String}{l:Addr}{u:Array Value},SeqAt s1.heap T l u->l<s1.heap.objs.size:=fun{T l u} h=>by
  rcases h with⟨_,o,e,_⟩|⟨_,o,e,_⟩<;>exact Heap.lt_size e
 refine uR t1 t2 fun h' Z hsz hk=>wpAny_pyIter_zip Z.z ?_
 have I2:Inv X pins σ H1 {s1 with heap:=h'}:=I1.kept (t':=s1.toks) hk
 refine⟨s1.heap.objs.size+4,[s1.heap.objs.size+4,s1.heap.objs.size+2,s1.heap.objs.size+3,s1.heap.objs.size,s1.heap.objs.size+1],_,_,H1,rfl,I2,u0 (j:=j) (k:=k) (y8 (lt t1) (lt t2)),⟨Z.z,Z.ti,Z.to,Z.u1,Z.u2⟩,fun c hc=>?_,q⟩
 have hc':s1.heap.objs.size<=c:=by
  simp only[List.mem_cons,List.not_mem_nil,or_false] at hc
  rcases hc with rfl|rfl|rfl|rfl|rfl
  ·exact Nat.le_add_right _ _
  ·exact Nat.le_add_right _ _
  ·exact Nat.le_add_right _ _
  ·exact Nat.le_refl _
  ·exact Nat.le_add_right _ _
 exact I1.fpOk hc' (I1.hok.fresh hc')
end
end
section
open Builtin
section
variable {prog:Program}{w:World}{A:Around}{E:Value->Shared->Prop}
end
section
variable {X:Cx}
def rCat0 (K:PySem.W.Frag):R2:=fun x y H Q=> ∃a b ys,x=.ref a/\y=.ref b/\SqT K H a []/\SqT K H b ys/\Q (.ref b) H
theorem op_cat0:OpR X (binaryOp .Add) (rCat0 X.K):=by
 intro pins s σ H x y v u Q I rx ry h
 obtain⟨a,b,ys,rfl,rfl,ha,hb,q⟩:=h
 cases rx
 cases ry
 obtain⟨its,r1,⟨⟨cls,dd,data,sl⟩,ho,hc,n,hd⟩,_⟩:=I.tuple ha
 obtain⟨its2,r2,⟨⟨cls2,dd2,data2,sl2⟩,ho2,hc2,n2,hd2⟩,_⟩:=I.tuple hb
 have e:=r1.nil_iff.mpr rfl
 subst e
 simp only at hc hd hc2 hd2
 subst hc hd hc2 hd2
 exact concat_meets ⟨_,ho,rfl⟩ ⟨_,ho2,rfl⟩ noFill_tuple_add seq_tuple_add PySem.F.slot_tuple_add PySem.F.entry_tuple_add (PySem.F.args_tuple_add_2 _ _) (tuple_addW0 a b #[] its2.toArray n n2 dd dd2 sl sl2 rfl) ⟨ho,ho2,.ref b,H,I,rfl,q⟩
end
end
section
section
variable {X:Cx}
variable {o e:Expr}{es:List Expr}{to:TE}{t:TA}{name:Str}{apos cpos:Pos}{id:String}{r:V->List V->Hp->VK->Prop}
end
end
section
section
variable {X:Cx}
end
end
section
inductive W where
 |ty (n:String)|exc (c:Str)|cls (c:Str)|non|bl (b:Bool)|int (i:Int)|str (x:Str)
 |tup (l:List W)|tl (l:List W)|cl (l:List W)|dv (ks:List Key)(ws:List W)|dn (b:Bool)(ks:List PKy)(ws:List W)|kt (ks:List Key)|loc (k:Nat)
inductive Ob where
 |lst (l:List W)|dic (ks:List Key)(ws:List W)|dit (ks:List (List Key))(ws:List W)|din (b:Bool)(ks:List PKy)(ws:List W)|ins (c:Str)(ns:List Str)(ws:List W)|gone
structure Wo where
 mu:Nat->Addr
 h:List Ob
 H:Hp
noncomputable def Lv (o:Wo)(a:Addr):Prop:= ∃k b,o.h[k]?=some b/\b≠.gone/\o.mu k=a
def FrL (K:PySem.W.Frag)(a:Addr)(xs:List V):Prop:= ∃ (o:Obj) (its:Array Value) (n:Nat),K.lookup a=some o/\o.cls=.type "list"/\o.dict=none/\o.data=.seq its n/\its.size<=sizeLine/\Vals xs its.toList
def KeyN (K:PySem.W.Frag)(H:Hp)(b:Bool)(c:Addr)(k:PKy):Prop:= ∃d,SqT K H c (match b with
 |false=>[.int k.1,.ref d]
 |true=>[.ref d,.int k.1])/\SqT K H d (k.2.map V.int)
mutual
def Rv (K:PySem.W.Frag)(o:Wo):W->V->Prop
 |.ty n,v=>v=.ty n
 |.exc c,v=> ∃a C,v=.ref a/\nsIn K mainGlobals c=some (some (.ref C))/\o.H a=some (excO a (.ref C))
 |.cls c,v=> ∃C,v=.ref C/\nsIn K mainGlobals c=some (some (.ref C))
 |.non,v=>v=.non
 |.bl b,v=>v=.bl b
 |.int i,v=>v=.int i
 |.str x,v=>v=.str x
 |.tup l,v=> ∃a vs,v=.ref a/\SqT K o.H a vs/\Rvs K o l vs
 |.tl l,v=> ∃a vs,v=.ref a/\o.H a=some (.lst vs)/\ ¬Lv o a/\Rvs K o l vs
 |.cl l,v=> ∃a vs,v=.ref a/\((Rd o.H a (.lst vs)/\ ¬Lv o a)\/FrL K a vs)/\Rvs K o l vs
 |.dv ks ws,v=> ∃a kvs,v=.ref a/\Rd o.H a (.dK kvs)/\ ¬Lv o a/\kvs.map (·.1)=ks/\Rvs K o ws (kvs.map (·.2))
 |.dn b ks ws,v=> ∃a,∃xs:List (PKy×Addr×V)×Nat,v=.ref a/\o.H a=some (.dN b xs.1 xs.2)/\ ¬Lv o a/\xs.1.map (·.1)=ks/\(∀x∈xs.1,KeyN K o.H b x.2.1 x.1)/\Rvs K o ws (xs.1.map (·.2.2))
 |.kt ks,v=> ∃a,v=.ref a/\o.H a=some (.tup (ks.map kV))
 |.loc k,v=>k<o.h.length/\v=.ref (o.mu k)
def Rvs (K:PySem.W.Frag)(o:Wo):List W->List V->Prop
 |[],vs=>vs=[]
 |w::l,vs=> ∃v r,vs=v::r/\Rv K o w v/\Rvs K o l r
end
def Ro (K:PySem.W.Frag)(o:Wo)(a:Addr):Ob->Prop
 |.lst l=> ∃vs,o.H a=some (.lst vs)/\Rvs K o l vs
 |.dic ks ws=> ∃kvs,o.H a=some (.dK kvs)/\kvs.map (·.1)=ks/\Rvs K o ws (kvs.map (·.2))
 |.dit ks ws=> ∃kvs,o.H a=some (.dT kvs)/\kvs.map (·.1)=ks/\Rvs K o ws (kvs.map (·.2))
 |.din b ks ws=> ∃xs:List (PKy×Addr×V)×Nat,o.H a=some (.dN b xs.1 xs.2)/\xs.1.map (·.1)=ks/\(∀x∈xs.1,KeyN K o.H b x.2.1 x.1)/\Rvs K o ws (xs.1.map (·.2.2))
 |.ins c ns ws=> ∃C dx fs,nsIn K mainGlobals c=some (some (.ref C))/\o.H a=some (.ins C dx fs)/\fs.map (·.1)=ns/\Rvs K o ws (fs.map (·.2))
 |.gone=>True
structure Rel (K:PySem.W.Frag)(o:Wo):Prop where
 ob: ∀k b,o.h[k]?=some b->Ro K o (o.mu k) b
 inj: ∀j k b c,o.h[j]?=some b->o.h[k]?=some c->b≠.gone->c≠.gone->o.mu j=o.mu k->j=k
structure Ex (o p:Wo):Prop where
 le:o.h.length<=p.h.length
 mu: ∀k,k<o.h.length->p.mu k=o.mu k
 fr: ∀a u,o.H a=some u-> ¬Lv o a->p.H a=some u/\ ¬Lv p a
theorem Ex.refl (o:Wo):Ex o o:=⟨Nat.le_refl _,fun _ _=>rfl,fun _ _ h n=>⟨h,n⟩⟩
theorem Ex.trans {o p q:Wo}(a:Ex o p)(b:Ex p q):Ex o q:=⟨Nat.le_trans a.le b.le,fun k h=>(b.mu k (Nat.lt_of_lt_of_le h a.le)).trans (a.mu k h),fun c u h n=>let ⟨h1,n1⟩:=a.fr c u h n;b.fr c u h1 n1⟩
section
variable {K:PySem.W.Frag}{o p:Wo}
theorem Lv.kind (R:Rel K o){a:Addr}(h:Lv o a):(∃vs,o.H a=some (.lst vs))\/(∃kvs,o.H a=some (.dK kvs))\/(∃C dx fs,o.H a=some (.ins C dx fs))\/(∃kvs,o.H a=some (.dT kvs))\/ ∃b,∃xs:List (PKy×Addr×V)×Nat,o.H a=some (.dN b xs.1 xs.2):=by
 obtain⟨k,b,hk,hb,rfl⟩:=h
 have q:=R.ob k b hk
 cases b with
 |lst l=>exact .inl (let ⟨vs,e,_⟩:=q;⟨vs,e⟩)
 |dic ks ws=>exact .inr (.inl (let ⟨vs,e,_⟩:=q;⟨vs,e⟩))
 |ins c ns ws=>exact .inr (.inr (.inl (let ⟨C,dx,fs,_,e,_⟩:=q;⟨C,dx,fs,e⟩)))
 |dit ks ws=>exact .inr (.inr (.inr (.inl (let ⟨vs,e,_⟩:=q;⟨vs,e⟩))))
 |din b ks ws=>exact .inr (.inr (.inr (.inr (let ⟨vs,e,_⟩:=q;⟨b,vs,e⟩))))
 |gone=>exact absurd rfl hb
theorem Ex.keep (X:Ex o p)(R:Rel K o){a:Addr}{u:HO}(h:o.H a=some u)(n1: ∀vs,u≠.lst vs)(n2: ∀kvs,u≠.dK kvs)(n3: ∀C dx fs,u≠.ins C dx fs)(n4: ∀kvs,u≠.dT kvs)(n5: ∀b (xs:List (PKy×Addr×V)×Nat),u≠.dN b xs.1 xs.2):p.H a=some u:=by
 refine (X.fr a u h fun l=>?_).1
 rcases l.kind R with⟨vs,e⟩|⟨vs,e⟩|⟨C,dx,fs,e⟩|⟨vs,e⟩|⟨b,vs,e⟩
 ·rw[h] at e;exact n1 vs (Option.some.inj e)
 ·rw[h] at e;exact n2 vs (Option.some.inj e)
 ·rw[h] at e;exact n3 C dx fs (Option.some.inj e)
 ·rw[h] at e;exact n4 vs (Option.some.inj e)
 ·rw[h] at e;exact n5 b vs (Option.some.inj e)
theorem Ex.rdT (X:Ex o p)(R:Rel K o){a:Addr}{vs:List V}(h:SqT K o.H a vs):SqT K p.H a vs:=by
 rcases h with (h|⟨ob,h⟩)|h
 ·exact .inl (.inl (X.keep R h (fun _ z=>nomatch z) (fun _ z=>nomatch z) (fun _ _ _ z=>nomatch z) (fun _ z=>nomatch z) fun _ _ z=>nomatch z))
 ·exact .inl (.inr ⟨ob,X.keep R h (fun _ z=>nomatch z) (fun _ z=>nomatch z) (fun _ _ _ z=>nomatch z) (fun _ z=>nomatch z) fun _ _ z=>nomatch z⟩)
 ·exact .inr h
theorem KeyN.mono (X:Ex o p)(R:Rel K o){b:Bool}{c:Addr}{k:PKy}(h:KeyN K o.H b c k):KeyN K p.H b c k:=by
 obtain⟨d,h1,h2⟩:=h
 exact⟨d,X.rdT R h1,X.rdT R h2⟩
theorem Ex.rd (X:Ex o p){a:Addr}{u:HO}(h:Rd o.H a u)(n:¬Lv o a):Rd p.H a u/\ ¬Lv p a:=by
 rcases h with h|⟨ob,h⟩
 ·exact⟨.inl (X.fr a _ h n).1,(X.fr a _ h n).2⟩
 ·exact⟨.inr ⟨ob,(X.fr a _ h n).1⟩,(X.fr a _ h n).2⟩
mutual
theorem Rv.mono (R:Rel K o)(X:Ex o p): ∀ (w:W) (v:V),Rv K o w v->Rv K p w v
 |.ty n,v,h=>h
 |.exc c,v,h=>by
  unfold Rv at h ⊢
  obtain⟨a,C,e,h1,h2⟩:=h
  exact⟨a,C,e,h1,X.keep R h2 (fun _ z=>nomatch z) (fun _ z=>nomatch z) (fun _ _ _ z=>nomatch z) (fun _ z=>nomatch z) fun _ _ z=>nomatch z⟩
 |.cls c,v,h=>by
  unfold Rv at h ⊢
  exact h
 |.non,v,h=>h
 |.bl b,v,h=>h
 |.int i,v,h=>h
 |.str x,v,h=>h
 |.tup l,v,h=>by
  unfold Rv at h ⊢
  obtain⟨a,vs,e,h1,h2⟩:=h
  exact⟨a,vs,e,X.rdT R h1,Rvs.mono R X l vs h2⟩
 |.tl l,v,h=>by
  unfold Rv at h ⊢
  obtain⟨a,vs,e,h1,n,h2⟩:=h
  exact⟨a,vs,e,(X.fr a _ h1 n).1,(X.fr a _ h1 n).2,Rvs.mono R X l vs h2⟩
 |.cl l,v,h=>by
  unfold Rv at h ⊢
  obtain⟨a,vs,e,h1,h2⟩:=h
  refine⟨a,vs,e,?_,Rvs.mono R X l vs h2⟩
  rcases h1 with⟨h1,n⟩|h1
  ·exact .inl (X.rd h1 n)
  ·exact .inr h1
 |.dv ks ws,v,h=>by
  unfold Rv at h ⊢
  obtain⟨a,vs,e,h1,n,h2,h3⟩:=h
  exact⟨a,vs,e,(X.rd h1 n).1,(X.rd h1 n).2,h2,Rvs.mono R X ws _ h3⟩
 |.dn b ks ws,v,h=>by
  unfold Rv at h ⊢
  obtain⟨a,xs,e,h1,n,h2,hn,h3⟩:=h
  exact⟨a,xs,e,(X.fr a _ h1 n).1,(X.fr a _ h1 n).2,h2,fun x hx=>(hn x hx).mono X R,Rvs.mono R X ws _ h3⟩
 |.kt ks,v,h=>by
  unfold Rv at h ⊢
  obtain⟨a,e,h⟩:=h
  exact⟨a,e,X.keep R h (fun _ z=>nomatch z) (fun _ z=>nomatch z) (fun _ _ _ z=>nomatch z) (fun _ z=>nomatch z) fun _ _ z=>nomatch z⟩
 |.loc k,v,h=>by
  unfold Rv at h ⊢
  exact⟨Nat.lt_of_lt_of_le h.1 X.le,by rw[X.mu k h.1];exact h.2⟩
theorem Rvs.mono (R:Rel K o)(X:Ex o p): ∀ (l:List W) (vs:List V),Rvs K o l vs->Rvs K p l vs
 |[],vs,h=>h
 |w::l,vs,h=>by
  unfold Rvs at h ⊢
  obtain⟨v,r,e,h1,h2⟩:=h
  exact⟨v,r,e,Rv.mono R X w v h1,Rvs.mono R X l r h2⟩
end
theorem Rel.keep (R:Rel K o)(X:Ex o p)(e1:p.h=o.h)(e2:p.mu=o.mu)(e3: ∀k b,o.h[k]?=some b->b≠.gone->p.H (o.mu k)=o.H (o.mu k)):Rel K p:=by
 refine⟨fun k b hk=>?_,fun j k b c h1 h2=>?_⟩
 ·rw[e1] at hk
  rw[e2]
  have q:=R.ob k b hk
  cases b with
  |lst l=>obtain⟨vs,h1,h2⟩:=q;exact⟨vs,by rw[e3 k _ hk (by simp)];exact h1,h2.mono R X⟩
  |dic ks ws=>obtain⟨vs,h1,h2,h3⟩:=q;exact⟨vs,by rw[e3 k _ hk (by simp)];exact h1,h2,h3.mono R X⟩
  |dit ks ws=>obtain⟨vs,h1,h2,h3⟩:=q;exact⟨vs,by rw[e3 k _ hk (by simp)];exact h1,h2,h3.mono R X⟩
  |din b ks ws=>obtain⟨vs,h1,h2,hn,h3⟩:=q;exact⟨vs,by rw[e3 k _ hk (by simp)];exact h1,h2,fun x hx=>(hn x hx).mono X R,h3.mono R X⟩
  |ins c ns ws=>obtain⟨C,dx,fs,h0,h1,h2,h3⟩:=q;exact⟨C,dx,fs,h0,by rw[e3 k _ hk (by simp)];exact h1,h2,h3.mono R X⟩
  |gone=>trivial
 ·rw[e1] at h1 h2
  rw[e2]
  exact R.inj j k b c h1 h2
theorem Lv.there (R:Rel K o){a:Addr}(h:Lv o a):o.H a≠none:=by
 rcases h.kind R with⟨vs,e⟩|⟨vs,e⟩|⟨C,dx,fs,e⟩|⟨vs,e⟩|⟨b,vs,e⟩<;>(rw[e];simp)
theorem Ex.new {q:Addr}{u:HO}(h:o.H q=none):Ex o ⟨o.mu,o.h,upd o.H q u⟩:=by
 refine⟨Nat.le_refl _,fun _ _=>rfl,fun a w e n=>⟨?_,n⟩⟩
 show upd o.H q u a=some w
 rw[aH (bZ e h)];exact e
theorem Rel.new (R:Rel K o){q:Addr}{u:HO}(h:o.H q=none):Rel K ⟨o.mu,o.h,upd o.H q u⟩:=by
 refine R.keep (Ex.new h) rfl rfl fun k b hk hb=>?_
 have l:Lv o (o.mu k):=⟨k,b,hk,hb,rfl⟩
 show upd o.H q u (o.mu k)=_
 rw[aH fun z=>l.there R (by rw[z];exact h)]
theorem Ex.same {H':Hp}(g:Same o.H H'):Ex o ⟨o.mu,o.h,H'⟩:=⟨Nat.le_refl _,fun _ _=>rfl,fun a w e n=>⟨g a w e,n⟩⟩
theorem Rel.same (R:Rel K o){H':Hp}(g:Same o.H H'):Rel K ⟨o.mu,o.h,H'⟩:=by
 refine R.keep (Ex.same g) rfl rfl fun k b hk hb=>?_
 cases e:o.H (o.mu k) with
 |none=>exact absurd e (Lv.there R ⟨k,b,hk,hb,rfl⟩)
 |some u=>exact g _ _ e
def Wo.add (o:Wo)(q:Addr)(b:Ob)(u:HO):Wo:=⟨fun k=>if k=o.h.length then q else o.mu k,o.h++[b],upd o.H q u⟩
theorem Ex.add {q:Addr}{b:Ob}{u:HO}(h:o.H q=none):Ex o (o.add q b u):=by
 refine⟨by show _<=(o.h++[b]).length;simp,fun k hk=>?_,fun a w e n=>⟨?_,fun l=>?_⟩⟩
 ·show (if k=o.h.length then q else o.mu k)=_
  rw[if_neg (by omega)]
 ·show upd o.H q u a=some w
  rw[aH (bZ e h)];exact e
 ·obtain⟨k,c,hk,hc,ha⟩:=l
  have ha:(if k=o.h.length then q else o.mu k)=a:=ha
  have hk:(o.h++[b])[k]?=some c:=hk
  by_cases z:k=o.h.length
  ·rw[if_pos z] at ha
   exact absurd ha.symm (bZ e h)
  ·rw[if_neg z] at ha
   have hl:k<o.h.length:=by
    have:=(List.getElem?_eq_some_iff.mp hk).1
    rw[List.length_append,List.length_singleton] at this
    omega
   rw[List.getElem?_append_left hl] at hk
   exact n ⟨k,c,hk,hc,ha⟩
theorem Rel.add (R:Rel K o){q:Addr}{b:Ob}{u:HO}(h:o.H q=none)(hb:Ro K (o.add q b u) q b):Rel K (o.add q b u):=by
 have X:Ex o (o.add q b u):=Ex.add h
 have old: ∀ {k:Nat}{c:Ob},(o.add q b u).h[k]?=some c->k≠o.h.length->o.h[k]?=some c/\(o.add q b u).mu k=o.mu k:=fun{k c} hk z=>by
  have hk:(o.h++[b])[k]?=some c:=hk
  have hl:k<o.h.length:=by
   have:=(List.getElem?_eq_some_iff.mp hk).1
   rw[List.length_append,List.length_singleton] at this
   omega
  rw[List.getElem?_append_left hl] at hk
  exact⟨hk,X.mu k hl⟩
 have new: ∀ {k:Nat}{c:Ob},(o.add q b u).h[k]?=some c->k=o.h.length->c=b/\(o.add q b u).mu k=q:=fun{k c} hk z=>by
  subst z
  have hk:(o.h++[b])[o.h.length]?=some c:=hk
  rw[List.getElem?_append_right (Nat.le_refl _),Nat.sub_self] at hk
  exact⟨(Option.some.inj hk).symm,if_pos rfl⟩
 have ne: ∀ {k:Nat}{c:Ob},o.h[k]?=some c->c≠.gone->o.mu k≠q:=fun{k c} hk hc z=>Lv.there R ⟨k,c,hk,hc,rfl⟩ (by rw[z];exact h)
 refine⟨fun k c hk=>?_,fun j k c d h1 h2 n1 n2 e=>?_⟩
 ·by_cases z:k=o.h.length
  ·obtain⟨rfl,e⟩:=new hk z
   rw[e];exact hb
  ·obtain⟨hk,e⟩:=old hk z
   rw[e]
   have r:=R.ob k c hk
   have st: ∀ {w:HO},c≠.gone->o.H (o.mu k)=some w->(o.add q b u).H (o.mu k)=some w:=fun{w} hc e=>by
    show upd o.H q u (o.mu k)=some w
    rw[aH (ne hk hc)];exact e
   cases c with
   |lst l=>obtain⟨vs,h1,h2⟩:=r;exact⟨vs,st (by simp) h1,h2.mono R X⟩
   |dic ks ws=>obtain⟨vs,h1,h2,h3⟩:=r;exact⟨vs,st (by simp) h1,h2,h3.mono R X⟩
   |dit ks ws=>obtain⟨vs,h1,h2,h3⟩:=r;exact⟨vs,st (by simp) h1,h2,h3.mono R X⟩
   |din b ks ws=>obtain⟨vs,h1,h2,hn,h3⟩:=r;exact⟨vs,st (by simp) h1,h2,fun x hx=>(hn x hx).mono X R,h3.mono R X⟩
   |ins c ns ws=>obtain⟨C,dx,fs,h0,h1,h2,h3⟩:=r;exact⟨C,dx,fs,h0,st (by simp) h1,h2,h3.mono R X⟩
   |gone=>trivial
 ·by_cases z1:j=o.h.length
  ·by_cases z2:k=o.h.length
   ·omega
   ·obtain⟨_,e1⟩:=new h1 z1
    obtain⟨hk,e2⟩:=old h2 z2
    rw[e1,e2] at e
    exact absurd e.symm (ne hk n2)
  ·obtain⟨hj,e1⟩:=old h1 z1
   by_cases z2:k=o.h.length
   ·obtain⟨_,e2⟩:=new h2 z2
    rw[e1,e2] at e
    exact absurd e (ne hj n1)
   ·obtain⟨hk,e2⟩:=old h2 z2
    rw[e1,e2] at e
    exact R.inj j k c d hj hk n1 n2 e
theorem Rel.addL (R:Rel K o){q:Addr}{l:List W}{vs:List V}(h:o.H q=none)(hl:Rvs K o l vs):Rel K (o.add q (.lst l) (.lst vs)):=R.add h ⟨vs,bb,hl.mono R (Ex.add h)⟩
theorem Rel.addD (R:Rel K o){q:Addr}{ks:List Key}{ws:List W}{kvs:List (Key×V)}(h:o.H q=none)(hk:kvs.map (·.1)=ks)(hl:Rvs K o ws (kvs.map (·.2))):Rel K (o.add q (.dic ks ws) (.dK kvs)):=R.add h ⟨kvs,bb,hk,hl.mono R (Ex.add h)⟩
def Wo.put (o:Wo)(k:Nat)(b:Ob)(u:HO):Wo:=⟨o.mu,o.h.set k b,upd o.H (o.mu k) u⟩
theorem Lv.put {k:Nat}{b c:Ob}{u:HO}{a:Addr}(hk:o.h[k]?=some c)(hc:c≠.gone)(h:Lv (o.put k b u) a):Lv o a:=by
 obtain⟨j,d,hj,hd,rfl⟩:=h
 have hj:(o.h.set k b)[j]?=some d:=hj
 by_cases z:j=k
 ·subst z;exact⟨j,c,hk,hc,rfl⟩
 ·rw[List.getElem?_set_ne (Ne.symm z)] at hj
  exact⟨j,d,hj,hd,rfl⟩
theorem Ex.put {k:Nat}{b c:Ob}{u:HO}(hk:o.h[k]?=some c)(hc:c≠.gone):Ex o (o.put k b u):=by
 refine⟨by show _<=(o.h.set k b).length;simp,fun _ _=>rfl,fun a w e n=>⟨?_,fun l=>n (l.put hk hc)⟩⟩
 show upd o.H (o.mu k) u a=some w
 rw[aH fun z=>n ⟨k,c,hk,hc,z.symm⟩];exact e
theorem Rel.put (R:Rel K o){k:Nat}{b c:Ob}{u:HO}(hk:o.h[k]?=some c)(hc:c≠.gone)(hb:Ro K (o.put k b u) (o.mu k) b):Rel K (o.put k b u):=by
 have X:Ex o (o.put k b u):=Ex.put hk hc
 have old: ∀ {j:Nat}{d:Ob},(o.put k b u).h[j]?=some d->j≠k->o.h[j]?=some d:=fun{j d} hj z=>by
  have hj:(o.h.set k b)[j]?=some d:=hj
  rw[List.getElem?_set_ne (Ne.symm z)] at hj
  exact hj
 refine⟨fun j d hj=>?_,fun i j d e h1 h2 n1 n2 q=>?_⟩
 ·by_cases z:j=k
  ·subst z
   have hl:=(List.getElem?_eq_some_iff.mp hk).1
   have hj:(o.h.set j b)[j]?=some d:=hj
   rw[List.getElem?_set_self hl] at hj
   cases hj
   exact hb
  ·have hj:=old hj z
   have r:=R.ob j d hj
   have st: ∀ {w:HO},d≠.gone->o.H (o.mu j)=some w->(o.put k b u).H (o.mu j)=some w:=fun{w} hd e=>by
    show upd o.H (o.mu k) u (o.mu j)=some w
    rw[aH fun q=>z (R.inj j k d c hj hk hd hc q)];exact e
   cases d with
   |lst l=>obtain⟨vs,h1,h2⟩:=r;exact⟨vs,st (by simp) h1,h2.mono R X⟩
   |dic ks ws=>obtain⟨vs,h1,h2,h3⟩:=r;exact⟨vs,st (by simp) h1,h2,h3.mono R X⟩
   |dit ks ws=>obtain⟨vs,h1,h2,h3⟩:=r;exact⟨vs,st (by simp) h1,h2,h3.mono R X⟩
   |din b ks ws=>obtain⟨vs,h1,h2,hn,h3⟩:=r;exact⟨vs,st (by simp) h1,h2,fun x hx=>(hn x hx).mono X R,h3.mono R X⟩
   |ins c ns ws=>obtain⟨C,dx,fs,h0,h1,h2,h3⟩:=r;exact⟨C,dx,fs,h0,st (by simp) h1,h2,h3.mono R X⟩
   |gone=>trivial
 ·have ex: ∀ {j:Nat}{d:Ob},(o.put k b u).h[j]?=some d->d≠.gone-> ∃d',o.h[j]?=some d'/\d'≠.gone:=fun{j d} hj n=>by
   by_cases z:j=k
   ·subst z;exact⟨c,hk,hc⟩
   ·exact⟨d,old hj z,n⟩
  obtain⟨d',h1',n1'⟩:=ex h1 n1
  obtain⟨e',h2',n2'⟩:=ex h2 n2
  exact R.inj i j d' e' h1' h2' n1' n2' q
theorem Rel.putL (R:Rel K o){k:Nat}{c:Ob}{l:List W}{vs:List V}(hk:o.h[k]?=some c)(hc:c≠.gone)(hl:Rvs K o l vs):Rel K (o.put k (.lst l) (.lst vs)):=R.put hk hc ⟨vs,bb,hl.mono R (Ex.put hk hc)⟩
theorem Rel.putD (R:Rel K o){k:Nat}{c:Ob}{ks:List Key}{ws:List W}{kvs:List (Key×V)}(hk:o.h[k]?=some c)(hc:c≠.gone)(h1:kvs.map (·.1)=ks)(hl:Rvs K o ws (kvs.map (·.2))):Rel K (o.put k (.dic ks ws) (.dK kvs)):=R.put hk hc ⟨kvs,bb,h1,hl.mono R (Ex.put hk hc)⟩
theorem Rel.putT (R:Rel K o){k:Nat}{c:Ob}{ks:List (List Key)}{ws:List W}{kvs:List (List Key×V)}(hk:o.h[k]?=some c)(hc:c≠.gone)(h1:kvs.map (·.1)=ks)(hl:Rvs K o ws (kvs.map (·.2))):Rel K (o.put k (.dit ks ws) (.dT kvs)):=R.put hk hc ⟨kvs,bb,h1,hl.mono R (Ex.put hk hc)⟩
noncomputable def Wo.ice (o:Wo)(k:Nat):Wo:=⟨o.mu,o.h.set k .gone,o.H⟩
theorem Lv.ice {k:Nat}{a:Addr}(h:Lv (o.ice k) a): ∃j b,j≠k/\o.h[j]?=some b/\b≠.gone/\o.mu j=a:=by
 obtain⟨j,d,hj,hd,e⟩:=h
 have hj:(o.h.set k .gone)[j]?=some d:=hj
 by_cases z:j=k
 ·subst z
  have hl:=(List.getElem?_eq_some_iff.mp hj).1
  rw[List.length_set] at hl
  rw[List.getElem?_set_self hl] at hj
  cases hj
  exact absurd rfl hd
 ·rw[List.getElem?_set_ne (Ne.symm z)] at hj
  exact⟨j,d,z,hj,hd,e⟩
theorem Ex.ice {k:Nat}:Ex o (o.ice k):=by
 refine⟨by show _<=(o.h.set k .gone).length;simp,fun _ _=>rfl,fun a w e n=>⟨e,fun l=>?_⟩⟩
 obtain⟨j,b,_,h1,h2,h3⟩:=l.ice
 exact n ⟨j,b,h1,h2,h3⟩
theorem Rel.ice (R:Rel K o){k:Nat}:Rel K (o.ice k):=by
 have X:Ex o (o.ice k):=Ex.ice
 have old: ∀ {j:Nat}{d:Ob},(o.ice k).h[j]?=some d->d≠.gone->o.h[j]?=some d:=fun{j d} hj n=>by
  have hj:(o.h.set k .gone)[j]?=some d:=hj
  by_cases z:j=k
  ·subst z
   have hl:=(List.getElem?_eq_some_iff.mp hj).1
   rw[List.length_set] at hl
   rw[List.getElem?_set_self hl] at hj
   cases hj
   exact absurd rfl n
  ·rw[List.getElem?_set_ne (Ne.symm z)] at hj
   exact hj
 refine⟨fun j d hj=>?_,fun i j d e h1 h2 n1 n2 q=>R.inj i j d e (old h1 n1) (old h2 n2) n1 n2 q⟩
 cases d with
 |lst l=>obtain⟨vs,h1,h2⟩:=R.ob j _ (old hj (by simp));exact⟨vs,h1,h2.mono R X⟩
 |dic ks ws=>obtain⟨vs,h1,h2,h3⟩:=R.ob j _ (old hj (by simp));exact⟨vs,h1,h2,h3.mono R X⟩
 |dit ks ws=>obtain⟨vs,h1,h2,h3⟩:=R.ob j _ (old hj (by simp));exact⟨vs,h1,h2,h3.mono R X⟩
 |din b ks ws=>obtain⟨vs,h1,h2,hn,h3⟩:=R.ob j _ (old hj (by simp));exact⟨vs,h1,h2,fun x hx=>(hn x hx).mono X R,h3.mono R X⟩
 |ins c ns ws=>obtain⟨C,dx,fs,h0,h1,h2,h3⟩:=R.ob j _ (old hj (by simp));exact⟨C,dx,fs,h0,h1,h2,h3.mono R X⟩
 |gone=>trivial
theorem Rv.iceL (R:Rel K o){k:Nat}{l:List W}(hk:o.h[k]?=some (.lst l)):Rv K (o.ice k) (.tl l) (.ref (o.mu k)):=by
 obtain⟨vs,h1,h2⟩:=R.ob k _ hk
 unfold Rv
 refine⟨_,vs,rfl,h1,fun z=>?_,h2.mono R Ex.ice⟩
 obtain⟨j,b,n,q1,q2,q3⟩:=z.ice
 exact n (R.inj j k b _ q1 hk q2 (by simp) q3)
theorem Rv.iceD (R:Rel K o){k:Nat}{ks:List Key}{ws:List W}(hk:o.h[k]?=some (.dic ks ws)):Rv K (o.ice k) (.dv ks ws) (.ref (o.mu k)):=by
 obtain⟨vs,h1,h0,h2⟩:=R.ob k _ hk
 unfold Rv
 refine⟨_,vs,rfl,.inl h1,fun z=>?_,h0,h2.mono R Ex.ice⟩
 obtain⟨j,b,n,q1,q2,q3⟩:=z.ice
 exact n (R.inj j k b _ q1 hk q2 (by simp) q3)
theorem Rv.iceN (R:Rel K o){k:Nat}{b:Bool}{ks:List PKy}{ws:List W}(hk:o.h[k]?=some (.din b ks ws)):Rv K (o.ice k) (.dn b ks ws) (.ref (o.mu k)):=by
 obtain⟨vs,h1,h0,hn,h2⟩:=R.ob k _ hk
 unfold Rv
 refine⟨_,vs,rfl,h1,fun z=>?_,h0,fun x hx=>(hn x hx).mono Ex.ice R,h2.mono R Ex.ice⟩
 obtain⟨j,b,n,q1,q2,q3⟩:=z.ice
 exact n (R.inj j k b _ q1 hk q2 (by simp) q3)
theorem Rvs.len: ∀ {l:List W}{vs:List V},Rvs K o l vs->vs.length=l.length
 |[],_,h=>by unfold Rvs at h;rw[h];rfl
 |w::l,_,h=>by unfold Rvs at h;obtain⟨v,r,rfl,_,h2⟩:=h;rw[List.length_cons,List.length_cons,Rvs.len h2]
theorem Rvs.get: ∀ {l:List W}{vs:List V}{i:Nat}{w:W},Rvs K o l vs->l[i]?=some w-> ∃v,vs[i]?=some v/\Rv K o w v
 |[],_,_,_,_,e=>by simp at e
 |x::l,_,0,w,h,e=>by unfold Rvs at h;obtain⟨v,r,rfl,h1,h2⟩:=h;cases e;exact⟨v,rfl,h1⟩
 |x::l,_,i+1,w,h,e=>by unfold Rvs at h;obtain⟨v,r,rfl,h1,h2⟩:=h;obtain⟨u,q1,q2⟩:=Rvs.get (l:=l) (i:=i) (w:=w) h2 (by simpa using e);exact⟨u,by simpa using q1,q2⟩
theorem Rvs.nil:Rvs K o [] []:=by unfold Rvs;rfl
theorem Rvs.cons {w:W}{v:V}{l:List W}{vs:List V}(h:Rv K o w v)(t:Rvs K o l vs):Rvs K o (w::l) (v::vs):=by unfold Rvs;exact⟨v,vs,rfl,h,t⟩
theorem Rvs.app: ∀ {l m:List W}{vs us:List V},Rvs K o l vs->Rvs K o m us->Rvs K o (l++m) (vs++us)
 |[],_,_,_,h,t=>by unfold Rvs at h;rw[h];exact t
 |w::l,m,_,us,h,t=>by unfold Rvs at h;obtain⟨v,r,rfl,h1,h2⟩:=h;exact Rvs.cons h1 (Rvs.app h2 t)
theorem Rvs.take: ∀ {l:List W}{vs:List V} (n:Nat),Rvs K o l vs->Rvs K o (l.take n) (vs.take n)
 |[],_,n,h=>by unfold Rvs at h;rw[h,List.take_nil,List.take_nil];exact Rvs.nil
 |w::l,_,0,h=>by rw[List.take_zero,List.take_zero];exact Rvs.nil
 |w::l,_,n+1,h=>by unfold Rvs at h;obtain⟨v,r,rfl,h1,h2⟩:=h;exact Rvs.cons h1 (Rvs.take n h2)
theorem Rvs.drop: ∀ {l:List W}{vs:List V} (n:Nat),Rvs K o l vs->Rvs K o (l.drop n) (vs.drop n)
 |[],_,n,h=>by unfold Rvs at h;rw[h,List.drop_nil,List.drop_nil];exact Rvs.nil
 |w::l,_,0,h=>h
 |w::l,_,n+1,h=>by unfold Rvs at h;obtain⟨v,r,rfl,h1,h2⟩:=h;exact Rvs.drop n h2
theorem Rvs.set {x:W}{y:V}(hx:Rv K o x y): ∀ {l:List W}{vs:List V} (i:Nat),Rvs K o l vs->Rvs K o (l.set i x) (vs.set i y)
 |[],_,n,h=>by unfold Rvs at h;rw[h];exact Rvs.nil
 |w::l,_,0,h=>by unfold Rvs at h;obtain⟨v,r,rfl,h1,h2⟩:=h;exact Rvs.cons hx h2
 |w::l,_,n+1,h=>by unfold Rvs at h;obtain⟨v,r,rfl,h1,h2⟩:=h;exact Rvs.cons h1 (Rvs.set hx n h2)
noncomputable abbrev Env':=List (Option W)
def RvO (K:PySem.W.Frag)(o:Wo):Option W->Option V->Prop
 |some w,s=> ∃v,s=some v/\Rv K o w v
 |none,s=>s=none
def Re (K:PySem.W.Frag)(o:Wo):Env'->St->Prop
 |[],s=>s=[]
 |w::r,s=> ∃x t,s=x::t/\RvO K o w x/\Re K o r t
theorem RvO.mono (R:Rel K o)(X:Ex o p): ∀ {w:Option W}{s:Option V},RvO K o w s->RvO K p w s
 |some w,_,⟨v,e,h⟩=>⟨v,e,h.mono R X⟩
 |none,_,h=>h
theorem Re.mono (R:Rel K o)(X:Ex o p): ∀ {r:Env'}{s:St},Re K o r s->Re K p r s
 |[],_,h=>h
 |w::r,_,⟨x,t,e,h1,h2⟩=>⟨x,t,e,h1.mono R X,Re.mono R X h2⟩
theorem Re.get: ∀ {r:Env'}{s:St}{i:Nat}{w:W},Re K o r s->r[i]?=some (some w)-> ∃v,s[i]?=some (some v)/\Rv K o w v
 |[],_,_,_,_,e=>by simp at e
 |x::r,_,0,w,⟨y,t,rfl,h1,h2⟩,e=>by cases e;obtain⟨v,rfl,q⟩:=h1;exact⟨v,rfl,q⟩
 |x::r,_,i+1,w,⟨y,t,rfl,h1,h2⟩,e=>by obtain⟨u,q1,q2⟩:=Re.get (r:=r) (i:=i) (w:=w) h2 (by simpa using e);exact⟨u,by simpa using q1,q2⟩
theorem Re.set {w:W}{v:V}(q:Rv K o w v): ∀ {r:Env'}{s:St} (i:Nat),Re K o r s->Re K o (r.set i (some w)) (s.set i (some v))
 |[],_,_,h=>by rw[show _=[] from h];rfl
 |x::r,_,0,⟨y,t,rfl,h1,h2⟩=>⟨_,_,rfl,⟨v,rfl,q⟩,h2⟩
 |x::r,_,i+1,⟨y,t,rfl,h1,h2⟩=>⟨_,_,rfl,h1,Re.set q i h2⟩
theorem Re.front: ∀ {r:Env'}{s:St} (n:Nat),Re K o r s->Re K o (List.replicate n none++r) (List.replicate n none++s)
 |_,_,0,h=>h
 |_,_,n+1,h=>⟨none,_,rfl,rfl,Re.front n h⟩
theorem Re.args: ∀ {ws:List W}{vs:List V} (n:Nat),Rvs K o ws vs->Re K o (ws.map some++List.replicate n none) (vs.map some++List.replicate n none)
 |[],_,n,h=>by
  unfold Rvs at h;rw[h]
  induction n with
  |zero=>rfl
  |succ n ih=>exact⟨none,_,rfl,rfl,ih⟩
 |w::l,_,n,h=>by unfold Rvs at h;obtain⟨v,r,rfl,h1,h2⟩:=h;exact⟨_,_,rfl,⟨v,rfl,h1⟩,Re.args n h2⟩
end
inductive Rs (α:Type) where
 |ok (a:α)(h:List Ob)|ex (c:Str)(h:List Ob)|bad
noncomputable abbrev M (α:Type):=List Ob->Rs α
def bd {α β:Type}(f:M α)(g:α->M β):M β:=fun h=>match f h with
 |.ok a h'=>g a h'
 |.ex c h'=>.ex c h'
 |.bad=>.bad
def pr {α:Type}(a:α):M α:=fun h=>.ok a h
def no {α:Type}:M α:=fun _=>.bad
def gd {α:Type}(p:Prop) [Decidable p] (m:M α):M α:=fun h=>if p then m h else .bad
structure Cg where
 K:PySem.W.Frag
 mg:Str->Option Value
 E:XK
def Ps {α β:Type}(c:Cg)(r:Wo->α->β->Prop)(o:Wo)(R:Rs α)(Q:β->Hp->Prop):Prop:=match R with
 |.ok a h'=> ∀p b,p.h=h'->Ex o p->Rel c.K p->r p a b->Q b p.H
 |.ex x h'=> ∃u,c.mg x=some u/\ ∀p,p.h=h'->Ex o p->Rel c.K p->c.E u none p.H
 |.bad=>False
def tG {α β:Type}(c:Cg)(r:Wo->α->β->Prop)(f:Env'->M α)(σ:St)(H:Hp)(Q:β->Hp->Prop):Prop:= ∃o ρ,o.H=H/\Rel c.K o/\Re c.K o ρ σ/\Ps c r o (f ρ o.h) Q
noncomputable abbrev tM (c:Cg)(f:Env'->M W):TE:=tG c (Rv c.K) f
noncomputable abbrev tT (c:Cg)(f:Env'->M Bool):TT:=tG c (fun _ a b=>a=b) f
noncomputable abbrev tA (c:Cg)(f:Env'->M (List W)):TA:=tG c (Rvs c.K) f
section
variable {c:Cg}{o p:Wo}{α β γ δ:Type}{r:Wo->α->β->Prop}{r2:Wo->γ->δ->Prop}
theorem Ps.after {R:Rs α}{Q:β->Hp->Prop}(X:Ex o p)(h:Ps c r o R Q):Ps c r p R Q:=by
 cases R with
 |ok a h'=>exact fun q b e X2 Rq rq=>h q b e (X.trans X2) Rq rq
 |ex x h'=>obtain⟨u,hu,h⟩:=h;exact⟨u,hu,fun q e X2 Rq=>h q e (X.trans X2) Rq⟩
 |bad=>exact h
theorem Ps.bd {f:M α}{g:α->M γ}{Q:δ->Hp->Prop}{N:β->Hp->Prop}(h:Ps c r2 o (bd f g o.h) Q)(k:∀p a b,Ex o p->Rel c.K p->r p a b->Ps c r2 p (g a p.h) Q->N b p.H):Ps c r o (f o.h) N:=by
 unfold L2.bd at h
 cases e:f o.h with
 |ok a h'=>
  rw[e] at h
  intro p b hp X R rb
  subst hp
  exact k p a b X R rb (h.after X)
 |ex x h'=>
  rw[e] at h
  exact h
 |bad=>
  rw[e] at h
  exact h
theorem Ps.pr {a:α}{Q:β->Hp->Prop}{b:β}(h:Ps c r o (pr a o.h) Q)(R:Rel c.K o)(hb:r o a b):Q b o.H:=h o b rfl (Ex.refl _) R hb
theorem Ps.at {a:α}{h':List Ob}{Q:β->Hp->Prop}{b:β}(h:Ps c r o (.ok a h') Q)(e:p.h=h')(X:Ex o p)(R:Rel c.K p)(hb:r p a b):Q b p.H:=h p b e X R hb
theorem Ps.gd {P:Prop} [Decidable P] {m:M α}{Q:β->Hp->Prop}(h:Ps c r o (gd P m o.h) Q):P/\Ps c r o (m o.h) Q:=by
 unfold L2.gd at h
 by_cases q:P
 ·rw[if_pos q] at h;exact⟨q,h⟩
 ·rw[if_neg q] at h;exact h.elim
end
end
section
noncomputable abbrev cg (X:Cx)(E:XK):Cg:=⟨X.K,X.mg,E⟩
def tF (c:Cg)(f:Env'->M (List W)):TE:=fun σ H Q=>tG c (Rvs c.K) f σ H fun vs H1=> ∀q,H1 q=none->Q (.ref q) (upd H1 q (.lst vs))
structure JE (X:Cx)(E:XK)(e:Expr)(f:Env'->M W):Prop where
 h:PE X e (tM (cg X E) f)
structure JT (X:Cx)(E:XK)(e:Expr)(f:Env'->M Bool):Prop where
 h:PT X e (tT (cg X E) f)
structure JW (X:Cx)(E:XK)(e:Expr)(f:Env'->M Bool):Prop where
 h:PW X e (tT (cg X E) f)
structure JA (X:Cx)(E:XK)(es:List Expr)(f:Env'->M (List W)):Prop where
 h:PA X es (tA (cg X E) f)
structure JF (X:Cx)(E:XK)(e:Expr)(f:Env'->M (List W)):Prop where
 h:PE X e (tF (cg X E) f)
theorem PE.imp {X:Cx}{E:XK}{e:Expr}{t:TE}{f:Env'->M W}(h:PE X e t)(k:∀σ H Q,tM (cg X E) f σ H Q->t σ H Q):JE X E e f:=⟨fun pins s σ H Q I q=>h pins s σ H Q I (k σ H Q q)⟩
theorem PE.impF {X:Cx}{E:XK}{e:Expr}{t:TE}{f:Env'->M (List W)}(h:PE X e t)(k:∀σ H Q,tF (cg X E) f σ H Q->t σ H Q):JF X E e f:=⟨fun pins s σ H Q I q=>h pins s σ H Q I (k σ H Q q)⟩
theorem PT.imp {X:Cx}{E:XK}{e:Expr}{t:TT}{f:Env'->M Bool}(h:PT X e t)(k:∀σ H Q,tT (cg X E) f σ H Q->t σ H Q):JT X E e f:=⟨fun pins s σ H Q I q=>h pins s σ H Q I (k σ H Q q)⟩
theorem PW.imp {X:Cx}{E:XK}{e:Expr}{t:TT}{f:Env'->M Bool}(h:PW X e t)(k:∀σ H Q,tT (cg X E) f σ H Q->t σ H Q):JW X E e f:=⟨fun w pins s σ H Q I q=>h w pins s σ H Q I (k σ H Q q)⟩
theorem PA.imp {X:Cx}{E:XK}{e:List Expr}{t:TA}{f:Env'->M (List W)}(h:PA X e t)(k:∀σ H Q,tA (cg X E) f σ H Q->t σ H Q):JA X E e f:=⟨fun pos pins s σ H Q I q=>h pos pins s σ H Q I (k σ H Q q)⟩
theorem dI {X:Cx}{E:XK}{e:Expr}{f:Env'->M Bool}(q:JW X E e f):JT X E e f:=⟨(q.h).pt⟩
section
variable {X:Cx}{E:XK}
def mVar (i:Nat):Env'->M W:=fun ρ=>match ρ[i]? with
 |some (some w)=>pr w
 |_=>no
def mC (w:W):Env'->M W:=fun _=>pr w
theorem zm {i:Nat}{σ:St}{H:Hp}{Q:VK}(h:tM (cg X E) (mVar i) σ H Q):tVar i σ H Q:=by
 obtain⟨o,ρ,rfl,R,S,h⟩:=h
 unfold mVar at h
 cases e:ρ[i]? with
 |none=>rw[e] at h;exact h.elim
 |some x=>
  cases x with
  |none=>rw[e] at h;exact h.elim
  |some w=>
   rw[e] at h
   obtain⟨v,e1,r⟩:=S.get e
   exact⟨v,e1,h.pr R r⟩
theorem ae (i:Nat){x:Str}{pos:Pos}(hN:X.N[i]?=some x:=by rfl)(hv:Vis X.env.scope x:=by first|exact Or.inl rfl|exact Or.inr (Or.inl rfl)|exact Or.inr (Or.inr rfl))(hd:(x==("__debug__":Str))=false:=by decide)
 (hcd:(x==("__classdict__":Str))=false:=by decide):JE X E (.Name x pos) (mVar i):=(pv i hN hv hd hcd).imp fun _ _ _ h=>zm h
theorem uc {w:W}{v:V}(hr: ∀o,Rv X.K o w v){σ:St}{H:Hp}{Q:VK}(h:tM (cg X E) (mC w) σ H Q):tC v σ H Q:=by
 obtain⟨o,ρ,rfl,R,S,h⟩:=h
 exact Ps.pr (c:=cg X E) h R (hr o)
theorem ai {i j pos}:JE X E (.Constant (.int i) j pos) (mC (.int i)):=pe_int.imp fun _ _ _ h=>uc (fun o=>by unfold Rv;rfl) h
theorem eT {i j pos}:JE X E (.Constant (.bool i) j pos) (mC (.bl i)):=pe_bl.imp fun _ _ _ h=>uc (fun o=>by unfold Rv;rfl) h
theorem aq {i j pos}:JE X E (.Constant (.str i) j pos) (mC (.str i)):=pe_str.imp fun _ _ _ h=>uc (fun o=>by unfold Rv;rfl) h
theorem An {j pos}:JE X E (.Constant .none j pos) (mC .non):=pe_non.imp fun _ _ _ h=>uc (fun o=>by unfold Rv;rfl) h
theorem dA {x:Str}{w:W}{v:V}{u:Value}{pos:Pos}(hg:Gl X x)(hm:X.mg x=some u)(r:RelV v u)(hr: ∀o,Rv X.K o w v)(hd:(x==("__debug__":Str))=false:=by decide):JE X E (.Name x pos) (mC w):=
 (eO hg hm r hd).imp fun _ _ _ h=>uc hr h
def m2 (f:W->W->M W)(fa fb:Env'->M W):Env'->M W:=fun ρ=>bd (fa ρ) fun x=>bd (fb ρ) fun y=>f x y
def OpM (X:Cx)(E:XK)(r:R2)(f:W->W->M W):Prop:= ∀ (o:Wo) (x y:W) (vx vy:V) (Q:VK),Rel X.K o->Rv X.K o x vx->Rv X.K o y vy->Ps (cg X E) (Rv X.K) o (f x y o.h) Q->r vx vy o.H Q
theorem xx {r:R2}{f:W->W->M W}(hf:OpM X E r f){fa fb:Env'->M W}{σ:St}{H:Hp}{Q:VK}(h:tM (cg X E) (m2 f fa fb) σ H Q):tOp r (tM (cg X E) fa) (tM (cg X E) fb) σ H Q:=by
 obtain⟨o,ρ,rfl,R,S,h⟩:=h
 exact⟨o,ρ,rfl,R,S,Ps.bd h fun p x vx e1 R1 r1 h1=>⟨p,ρ,rfl,R1,S.mono R e1,Ps.bd h1 fun q y vy e2 R2 r2 h2=>hf q x y vx vy Q R2 (r1.mono R1 e2) r2 h2⟩⟩
theorem mU {a b:Expr}{pos:Pos}{op:Operator}{r:R2}{f:W->W->M W}{fa fb:Env'->M W}(ho:OpR X (binaryOp op) r)(hf:OpM X E r f)(ha:JE X E a fa)(hb:JE X E b fb):
 JE X E (.BinOp a op b pos) (m2 f fa fb):=(sN ho ha.h hb.h).imp fun _ _ _ h=>xx hf h
theorem wq {a b:Expr}{pos:Pos}{op:CmpOp}{r:R2}{f:W->W->M W}{fa fb:Env'->M W}(ho:OpR X (compareOp op) r)(hf:OpM X E r f)(ha:JE X E a fa)(hb:JE X E b fb)(hm:behindInMarks op b=false):
 JE X E (.Compare a [op] [b] pos) (m2 f fa fb):=(jk ho ha.h hb.h hm).imp fun _ _ _ h=>xx hf h
def asB (w:W):M Bool:=match w with
 |.bl b=>pr b
 |_=>no
def mB (f:Env'->M W):Env'->M Bool:=fun ρ=>bd (f ρ) asB
theorem zp {f:Env'->M W}{σ:St}{H:Hp}{Q:Bool->Hp->Prop}(h:tT (cg X E) (mB f) σ H Q):tM (cg X E) f σ H fun x H'=> ∃k,x=.bl k/\Q k H':=by
 obtain⟨o,ρ,rfl,R,S,h⟩:=h
 refine⟨o,ρ,rfl,R,S,Ps.bd h fun p x vx e1 R1 r1 h1=>?_⟩
 unfold asB at h1
 split at h1
 ·rename_i b
  unfold Rv at r1
  exact⟨b,r1,h1.pr R1 rfl⟩
 ·exact h1.elim
theorem au {a b:Expr}{pos:Pos}{op:CmpOp}{r:R2}{f:W->W->M W}{fa fb:Env'->M W}(ho:OpR X (compareOp op) r)(hf:OpM X E r f)(ha:JE X E a fa)(hb:JE X E b fb)(hm:behindInMarks op b=false):
 JT X E (.Compare a [op] [b] pos) (mB (m2 f fa fb)):=(ft ho ha.h hb.h hm).imp fun _ _ _ h=>xx hf (zp h)
theorem gv {e:Expr}{f:Env'->M W}(h:JE X E e f)(he: ∀whole,isTrue e X.env whole=(do let v<-whole;standAt e.pos;holding [v] (truthy v)):=by intro _;rfl):JT X E e (mB f):=
 (io h.h he).imp fun _ _ _ h=>zp h
def mAnd (f g:Env'->M Bool):Env'->M Bool:=fun ρ=>bd (f ρ) fun b=>if b=true then g ρ else pr false
def mOr (f g:Env'->M Bool):Env'->M Bool:=fun ρ=>bd (f ρ) fun b=>if b=true then pr true else g ρ
def mNot (f:Env'->M Bool):Env'->M Bool:=fun ρ=>bd (f ρ) fun b=>pr (!b)
variable {a b:Expr}{rest:List Expr}{pos:Pos}{f g:Env'->M Bool}
theorem zh {σ:St}{H:Hp}{Q:Bool->Hp->Prop}(h:tT (cg X E) (mAnd f g) σ H Q):tAnd (tT (cg X E) f) (tT (cg X E) g) σ H Q:=by
 obtain⟨o,ρ,rfl,R,S,h⟩:=h
 refine⟨o,ρ,rfl,R,S,Ps.bd h fun p x vx e1 R1 r1 h1=>?_⟩
 subst r1
 cases x with
 |true=>exact iteT ⟨p,ρ,rfl,R1,S.mono R e1,h1⟩
 |false=>exact iteF (h1.pr R1 rfl)
theorem AX {σ:St}{H:Hp}{Q:Bool->Hp->Prop}(h:tT (cg X E) (mOr f g) σ H Q):tOr (tT (cg X E) f) (tT (cg X E) g) σ H Q:=by
 obtain⟨o,ρ,rfl,R,S,h⟩:=h
 refine⟨o,ρ,rfl,R,S,Ps.bd h fun p x vx e1 R1 r1 h1=>?_⟩
 subst r1
 cases x with
 |false=>exact iteF ⟨p,ρ,rfl,R1,S.mono R e1,h1⟩
 |true=>exact iteT (h1.pr R1 rfl)
theorem la (ha:JT X E a f):JT X E (.UnaryOp .Not a pos) (mNot f):=(rD ha.h).imp fun σ H Q h=>by
 obtain⟨o,ρ,rfl,R,S,h⟩:=h
 refine⟨o,ρ,rfl,R,S,Ps.bd h fun p x vx e1 R1 r1 h1=>?_⟩
 subst r1
 exact h1.pr R1 rfl
theorem cQ (ha:JT X E a f):JW X E (.BoolOp .And [a] pos) f:=⟨sJ ha.h⟩
theorem kZ (ha:JT X E a f):JW X E (.BoolOp .Or [a] pos) f:=⟨rC ha.h⟩
theorem eg (ha:JT X E a f)(hb:JW X E (.BoolOp .And (b::rest) pos) g):JW X E (.BoolOp .And (a::b::rest) pos) (mAnd f g):=(vG ha.h hb.h).imp fun _ _ _ h=>zh h
theorem nR (ha:JT X E a f)(hb:JW X E (.BoolOp .Or (b::rest) pos) g):JW X E (.BoolOp .Or (a::b::rest) pos) (mOr f g):=(vF ha.h hb.h).imp fun _ _ _ h=>AX h
def mAndV (f g:Env'->M W):Env'->M W:=fun ρ=>bd (f ρ) fun w=>bd (asB w) fun b=>if b=true then g ρ else pr (.bl false)
def mOrV (f g:Env'->M W):Env'->M W:=fun ρ=>bd (f ρ) fun w=>bd (asB w) fun b=>if b=true then pr (.bl true) else g ρ
def mNotV (f:Env'->M W):Env'->M W:=fun ρ=>bd (f ρ) fun w=>bd (asB w) fun b=>pr (.bl (!b))
theorem AR {α β:Type}{r:Wo->α->β->Prop}{o:Wo}{w:W}{v:V}{k:Bool->M α}{Q:β->Hp->Prop}(hr:Rv X.K o w v)(h:Ps (cg X E) r o (bd (asB w) k o.h) Q): ∃b,w=.bl b/\v=.bl b/\Ps (cg X E) r o (k b o.h) Q:=by
 cases w with
 |bl b=>unfold Rv at hr;exact⟨b,rfl,hr,h⟩
 |_=>exact h.elim
variable {u v:Env'->M W}
def mIf (f:Env'->M Bool)(u v:Env'->M W):Env'->M W:=fun ρ=>bd (f ρ) fun b=>if b=true then u ρ else v ρ
theorem mV {c:Expr}(hc:JT X E c f)(ha:JE X E a u)(hb:JE X E b v):JE X E (.IfExp c a b pos) (mIf f u v):=(vP hc.h ha.h hb.h).imp fun σ H Q h=>by
 obtain⟨o,ρ,rfl,R,S,h⟩:=h
 refine⟨o,ρ,rfl,R,S,Ps.bd h fun p x vx e1 R1 r1 h1=>?_⟩
 subst r1
 cases x with
 |true=>exact iteT ⟨p,ρ,rfl,R1,S.mono R e1,h1⟩
 |false=>exact iteF ⟨p,ρ,rfl,R1,S.mono R e1,h1⟩
def m1 (f:W->M W)(fa:Env'->M W):Env'->M W:=fun ρ=>bd (fa ρ) f
def negW (w:W):M W:=match w with
 |.int i=>pr (.int (-i))
 |_=>no
theorem iA (ha:JE X E a u):JE X E (.UnaryOp .USub a pos) (m1 negW u):=(A2 zc ha.h).imp fun σ H Q h=>by
 obtain⟨o,ρ,rfl,R,S,h⟩:=h
 refine⟨o,ρ,rfl,R,S,Ps.bd h fun p x vx e1 R1 r1 h1=>?_⟩
 unfold negW at h1
 split at h1
 ·unfold Rv at r1
  exact⟨_,r1,h1.pr R1 (by unfold Rv;rfl)⟩
 ·exact h1.elim
def mNil:Env'->M (List W):=fun _=>pr []
def mCons (fa:Env'->M W)(fr:Env'->M (List W)):Env'->M (List W):=fun ρ=>bd (fa ρ) fun x=>bd (fr ρ) fun l=>pr (x::l)
variable {es:List Expr}{l:Env'->M (List W)}{e:Expr}
theorem ag:JA X E [] mNil:=pa_nil.imp fun σ H Q h=>by
 obtain⟨o,ρ,rfl,R,S,h⟩:=h
 exact h.pr R Rvs.nil
theorem af (ha:JE X E e u)(hr:JA X E es l)(hs:starEach (e::es) X.env=(false,eval e X.env)::starEach es X.env:=by rfl):JA X E (e::es) (mCons u l):=(aA ha.h hr.h hs).imp fun σ H Q h=>by
 obtain⟨o,ρ,rfl,R,S,h⟩:=h
 exact⟨o,ρ,rfl,R,S,Ps.bd h fun p x vx e1 R1 r1 h1=>⟨p,ρ,rfl,R1,S.mono R e1,Ps.bd h1 fun q y vy e2 R2 r2 h2=>h2.pr R2 (Rvs.cons (r1.mono R1 e2) r2)⟩⟩
def tupW (l:List W):M W:=gd (l.length<=sizeLine) (pr (.tup l))
def mTup (l:Env'->M (List W)):Env'->M W:=fun ρ=>bd (l ρ) tupW
theorem Rv.newT {K:PySem.W.Frag}{o:Wo}(R:Rel K o){q:Addr}{l:List W}{vs:List V}(h:o.H q=none)(hl:Rvs K o l vs):Rv K ⟨o.mu,o.h,upd o.H q (.tup vs)⟩ (.tup l) (.ref q):=by
 unfold Rv;exact⟨q,vs,rfl,.of bb,hl.mono R (Ex.new h)⟩
theorem Rv.newL {K:PySem.W.Frag}{o:Wo}(R:Rel K o){q:Addr}{l:List W}{vs:List V}(h:o.H q=none)(hl:Rvs K o l vs):Rv K ⟨o.mu,o.h,upd o.H q (.lst vs)⟩ (.tl l) (.ref q):=by
 unfold Rv
 exact⟨q,vs,rfl,bb,fun z=>Lv.there R (show Lv o q from z) h,hl.mono R (Ex.new h)⟩
theorem bX {x1}(h:JA X E es l):JE X E (.Tuple es x1 pos) (mTup l):=(mq h.h).imp fun σ H Q h=>by
 obtain⟨o,ρ,rfl,R,S,h⟩:=h
 refine⟨o,ρ,rfl,R,S,Ps.bd h fun p x vx e1 R1 r1 h1=>?_⟩
 obtain⟨hz,h1⟩:=h1.gd
 exact⟨by rw[r1.len];exact hz,fun q hq=>Ps.at (p:=⟨p.mu,p.h,upd p.H q (.tup vx)⟩) h1 rfl (Ex.new hq) (R1.new hq) (Rv.newT R1 hq r1)⟩
def mTl (l:Env'->M (List W)):Env'->M W:=fun ρ=>bd (l ρ) fun x=>pr (.tl x)
def newW (x:List W):M W:=fun h=>.ok (.loc h.length) (h++[.lst x])
def mNew (l:Env'->M (List W)):Env'->M W:=fun ρ=>bd (l ρ) newW
theorem bO (h:JF X E e l):JE X E e (mTl l):=h.h.imp fun σ H Q h=>by
 obtain⟨o,ρ,rfl,R,S,h⟩:=h
 exact⟨o,ρ,rfl,R,S,Ps.bd h fun p x vx e1 R1 r1 h1=>fun q hq=>Ps.at (p:=⟨p.mu,p.h,upd p.H q (.lst vx)⟩) h1 rfl (Ex.new hq) (R1.new hq) (Rv.newL R1 hq r1)⟩
theorem fm (h:JF X E e l):JE X E e (mNew l):=h.h.imp fun σ H Q h=>by
 obtain⟨o,ρ,rfl,R,S,h⟩:=h
 refine⟨o,ρ,rfl,R,S,Ps.bd h fun p x vx e1 R1 r1 h1=>fun q hq=>?_⟩
 refine Ps.at (p:=p.add q (.lst x) (.lst vx)) h1 rfl (Ex.add hq) (R1.addL hq r1) ?_
 unfold Rv
 exact⟨by show _<(p.h++[_]).length;simp,by show V.ref q=V.ref (if p.h.length=p.h.length then q else _);rw[if_pos rfl]⟩
def lenG (l:Env'->M (List W)):Env'->M (List W):=fun ρ=>bd (l ρ) fun x=>gd (x.length<=sizeLine) (pr x)
theorem aV (h:JA X E es l):JF X E (.List es pos) (lenG l):=(zP h.h).impF fun σ H Q h=>by
 obtain⟨o,ρ,rfl,R,S,h⟩:=h
 refine⟨o,ρ,rfl,R,S,Ps.bd h fun p x vx e1 R1 r1 h1=>?_⟩
 obtain⟨hz,h1⟩:=h1.gd
 exact⟨by rw[r1.len];exact hz,h1.pr R1 r1⟩
end
end
section
section
variable {X:Cx}{E:XK}
theorem rv_int {K:PySem.W.Frag}{o:Wo}{i:Int}{v:V}:Rv K o (.int i) v↔v=.int i:=by unfold Rv;exact Iff.rfl
theorem rv_str {K:PySem.W.Frag}{o:Wo}{i:Str}{v:V}:Rv K o (.str i) v↔v=.str i:=by unfold Rv;exact Iff.rfl
theorem rv_bl {K:PySem.W.Frag}{o:Wo}{i:Bool}{v:V}:Rv K o (.bl i) v↔v=.bl i:=by unfold Rv;exact Iff.rfl
theorem rv_non {K:PySem.W.Frag}{o:Wo}{v:V}:Rv K o .non v↔v=.non:=by unfold Rv;exact Iff.rfl
theorem rv_ty {K:PySem.W.Frag}{o:Wo}{n:String}{v:V}:Rv K o (.ty n) v↔v=.ty n:=by unfold Rv;exact Iff.rfl
def lstOf (w:W):M (List W):=match w with
 |.tl l=>pr l
 |.cl l=>pr l
 |.loc k=>fun h=>match h[k]? with
  |some (.lst l)=>.ok l h
  |_=>.bad
 |_=>no
theorem g8 {α β:Type}{r:Wo->α->β->Prop}{o:Wo}{w:W}{v:V}{k:List W->M α}{Q:β->Hp->Prop}(R:Rel X.K o)(hr:Rv X.K o w v)(h:Ps (cg X E) r o (bd (lstOf w) k o.h) Q):
  ∃l a vs,v=.ref a/\SqL X.K o.H a vs/\Rvs X.K o l vs/\Ps (cg X E) r o (k l o.h) Q:=by
 cases w with
 |tl l=>unfold Rv at hr;obtain⟨a,vs,e,h1,_,h2⟩:=hr;exact⟨l,a,vs,e,.of h1,h2,h⟩
 |cl l=>
  unfold Rv at hr
  obtain⟨a,vs,e,h1,h2⟩:=hr
  rcases h1 with⟨h1,_⟩|h1
  ·exact⟨l,a,vs,e,.inl h1,h2,h⟩
  ·exact⟨l,a,vs,e,.inr h1,h2,h⟩
 |loc j=>
  unfold Rv at hr
  unfold lstOf bd at h
  cases e:o.h[j]? with
  |none=>simp only[e] at h;exact h.elim
  |some b=>
   cases b with
   |lst l=>
    simp only[e] at h
    obtain⟨vs,h1,h2⟩:=R.ob j _ e
    exact⟨l,_,vs,hr.2,.of h1,h2,h⟩
   |_=>simp only[e] at h;exact h.elim
 |_=>exact h.elim
def lstO (w:W):M (List W):=match w with
 |.tl l=>pr l
 |.loc k=>fun h=>match h[k]? with
  |some (.lst l)=>.ok l h
  |_=>.bad
 |_=>no
theorem gg {α β:Type}{r:Wo->α->β->Prop}{o:Wo}{w:W}{v:V}{k:List W->M α}{Q:β->Hp->Prop}(R:Rel X.K o)(hr:Rv X.K o w v)(h:Ps (cg X E) r o (bd (lstO w) k o.h) Q):
  ∃l a vs,v=.ref a/\o.H a=some (.lst vs)/\Rvs X.K o l vs/\Ps (cg X E) r o (k l o.h) Q:=by
 cases w with
 |tl l=>unfold Rv at hr;obtain⟨a,vs,e,h1,_,h2⟩:=hr;exact⟨l,a,vs,e,h1,h2,h⟩
 |loc j=>
  unfold Rv at hr
  unfold lstO bd at h
  cases e:o.h[j]? with
  |none=>simp only[e] at h;exact h.elim
  |some b=>
   cases b with
   |lst l=>
    simp only[e] at h
    obtain⟨vs,h1,h2⟩:=R.ob j _ e
    exact⟨l,_,vs,hr.2,h1,h2,h⟩
   |_=>simp only[e] at h;exact h.elim
 |_=>exact h.elim
theorem j6 {o:Wo}{q:Addr}{l:List W}{vs:List V}{Q:VK}(R:Rel X.K o)(hq:o.H q=none)(hl:Rvs X.K o l vs)(h:Ps (cg X E) (Rv X.K) o (pr (.tup l) o.h) Q):Q (.ref q) (upd o.H q (.tup vs)):=
 Ps.at (p:=⟨o.mu,o.h,upd o.H q (.tup vs)⟩) h rfl (Ex.new hq) (R.new hq) (Rv.newT R hq hl)
theorem j7 {o:Wo}{q:Addr}{l:List W}{vs:List V}{Q:VK}(R:Rel X.K o)(hq:o.H q=none)(hl:Rvs X.K o l vs)(h:Ps (cg X E) (Rv X.K) o (pr (.tl l) o.h) Q):Q (.ref q) (upd o.H q (.lst vs)):=
 Ps.at (p:=⟨o.mu,o.h,upd o.H q (.lst vs)⟩) h rfl (Ex.new hq) (R.new hq) (Rv.newL R hq hl)
def addW (x y:W):M W:=match x,y with
 |.int i,.int j=>pr (.int (i+j))
 |.str a,.str b=>gd (a.length+b.length<=sizeLine) (pr (.str (a++b)))
 |.tup a,.tup b=>gd (a.isEmpty=false/\a.length+b.length<=sizeLine) (pr (.tup (a++b)))
 |x,y=>bd (lstO x) fun a=>bd (lstO y) fun b=>gd (a.length+b.length<=sizeLine) (pr (.tl (a++b)))
theorem xU:OpM X E (fun x y H Q=>rI0 (fun i j=>.int (i+j)) x y H Q\/(fun x y H Q=>(fun x y H Q=> ∃i j,x=.str i/\y=.str j/\i.length+j.length<=sizeLine/\Q (.str (i++j)) H) x y H Q\/(fun x y H Q=>rCatT X.K x y H Q\/rCat x y H Q) x y H Q) x y H Q) addW:=by
 intro o x y vx vy Q R rx ry h
 unfold addW at h
 split at h
 ·exact .inl ⟨_,_,rv_int.mp rx,rv_int.mp ry,h.pr R (rv_int.mpr rfl)⟩
 ·obtain⟨hz,h⟩:=h.gd
  exact .inr (.inl ⟨_,_,rv_str.mp rx,rv_str.mp ry,hz,h.pr R (rv_str.mpr rfl)⟩)
 ·obtain⟨hz,h⟩:=h.gd
  unfold Rv at rx ry
  obtain⟨a,vs,e1,s1,r1⟩:=rx
  obtain⟨b,us,e2,s2,r2⟩:=ry
  have n1:vs≠ []:=fun z=>by
   have:=r1.len
   rw[z] at this
   have q:=hz.1
   rw[List.eq_nil_of_length_eq_zero this.symm] at q
   cases q
  refine .inr (.inr (.inl ⟨a,b,vs,us,e1,e2,s1,s2,n1,by rw[r1.len,r2.len];exact hz.2,fun z=>?_,fun _ q hq=>j6 R hq (r1.app r2) h⟩))
  refine h.pr R ?_
  unfold Rv
  exact⟨a,vs,rfl,s1,by have:=r1.app r2;rw[z,List.append_nil] at this;exact this⟩
 ·obtain⟨l,a,vs,e1,s1,r1,h⟩:=gg R rx h
  obtain⟨m,b,us,e2,s2,r2,h⟩:=gg R ry h
  obtain⟨hz,h⟩:=h.gd
  exact .inr (.inr (.inr ⟨a,b,vs,us,e1,e2,s1,s2,by rw[r1.len,r2.len];exact hz,fun q hq=>j7 R hq (r1.app r2) h⟩))
theorem aJ {a b:Expr}{pos:Pos}{fa fb:Env'->M W}(ha:JE X E a fa)(hb:JE X E b fb):JE X E (.BinOp a .Add b pos) (m2 addW fa fb):=
 mU (op_add.or (op_add_str.or (op_catT.or vW))) xU ha hb
def iiW (C:Int->Int->Prop) [∀i j,Decidable (C i j)] (g:Int->Int->W)(x y:W):M W:=match x,y with
 |.int i,.int j=>gd (C i j) (pr (g i j))
 |_,_=>no
theorem i5 {C:Int->Int->Prop} [∀i j,Decidable (C i j)] {g:Int->Int->W}{g':Int->Int->V}(hg: ∀o i j,Rv X.K o (g i j) (g' i j)):OpM X E (rI C g') (iiW C g):=by
 intro o x y vx vy Q R rx ry h
 unfold iiW at h
 split at h
 ·obtain⟨hz,h⟩:=h.gd
  exact⟨_,_,rv_int.mp rx,rv_int.mp ry,hz,h.pr R (hg _ _ _)⟩
 ·exact h.elim
theorem opR0 {f:Value->Value->Sem Value}{g':Int->Int->V}(h:OpR X f (rI0 g')):OpR X f (rI (fun _ _=>True) g'):=fun pins s σ H x y v u Q I rx ry q=>h pins s σ H x y v u Q I rx ry (let ⟨i,j,e1,e2,_,q⟩:=q;⟨i,j,e1,e2,q⟩)
noncomputable abbrev CT:Int->Int->Prop:=fun _ _=>True
def subW:W->W->M W:=iiW CT fun i j=>.int (i - j)
theorem o8 {a b:Expr}{pos:Pos}{fa fb:Env'->M W}(ha:JE X E a fa)(hb:JE X E b fb):JE X E (.BinOp a .Sub b pos) (m2 subW fa fb):=
 mU (opR0 zV) (i5 fun _ _ _=>rv_int.mpr rfl) ha hb
noncomputable def CDivB (i j:Int):Prop:=0<j/\j<2 ^ 200
instance (i j:Int):Decidable (CDivB i j):=by unfold CDivB;infer_instance
theorem vV:OpR X (binaryOp .FloorDiv) (rI CDivB fun i j=>.int (i / j)):=opI fun i j _ _ _ _ _ hc q=>by
 have h1:(0:Int)<j:=hc.1
 have h2:j<2 ^ 200:=hc.2
 refine floordiv_int (by omega) (by rw[Int.fdiv_eq_ediv_of_nonneg i (by omega)];exact q) (.inl (PyProof.noPylong_of_log2 ?_))
 have h3:j.natAbs<2 ^ 200:=by omega
 exact Nat.lt_of_lt_of_le ((Nat.log2_lt (by omega)).mpr h3) (by decide)
def fdivW:W->W->M W:=iiW CDivB fun i j=>.int (i / j)
theorem jr {a b:Expr}{pos:Pos}{fa fb:Env'->M W}(ha:JE X E a fa)(hb:JE X E b fb):JE X E (.BinOp a .FloorDiv b pos) (m2 fdivW fa fb):=
 mU vV (i5 fun _ _ _=>rv_int.mpr rfl) ha hb
noncomputable abbrev CMod:Int->Int->Prop:=fun _ j=>0<j
def modW:W->W->M W:=iiW CMod fun i j=>.int (i % j)
theorem cq {a b:Expr}{pos:Pos}{fa fb:Env'->M W}(ha:JE X E a fa)(hb:JE X E b fb):JE X E (.BinOp a .Mod b pos) (m2 modW fa fb):=
 mU zZ (i5 fun _ _ _=>rv_int.mpr rfl) ha hb
instance (i j:Int):Decidable (CPow i j):=by unfold CPow;infer_instance
def powW:W->W->M W:=iiW CPow fun i j=>.int (i ^ j.toNat)
theorem Am {a b:Expr}{pos:Pos}{fa fb:Env'->M W}(ha:JE X E a fa)(hb:JE X E b fb):JE X E (.BinOp a .Pow b pos) (m2 powW fa fb):=
 mU zX (i5 fun _ _ _=>rv_int.mpr rfl) ha hb
theorem ye {z:Str}{n:Int}(h0:0<=n)(h1:n<=10000)(h:z.length<=30000)(hz:z.length * n.toNat<=1000000):MulOk z n:=by
 refine⟨?_,fun a b=>?_,fun a b=>?_⟩
 ·rw[Bool.or_eq_false_iff,decide_eq_false_iff_not,decide_eq_false_iff_not];omega
 ·have:(100000000000000:Int)<=(2 ^ 63 - 1) / n:=Int.le_ediv_of_mul_le (by omega) (by omega)
  omega
 ·unfold Builtin.Str.tooLong
  have:sizeLine=16777216:=by decide
  exact decide_eq_false (by omega)
instance (i j:Int):Decidable (CMul i j):=by unfold CMul;infer_instance
instance (i j:Int):Decidable (CMulB i j):=by unfold CMulB;infer_instance
def CMulA (i j:Int):Prop:=CMul i j\/CMulB i j
instance (i j:Int):Decidable (CMulA i j):=by unfold CMulA;infer_instance
theorem op_mulA:OpR X (binaryOp .Mult) (rI CMulA fun i j=>.int (i * j)):=opI fun _ _ _ _ _ _ _ hc q=>mul_int q (by rcases hc with h|h;exact h.ok;exact h.ok)
def mulW (x y:W):M W:=match x,y with
 |.int i,.int j=>gd (CMulA i j) (pr (.int (i * j)))
 |.str z,.int n=>gd (0<=n/\n<=10000/\z.length<=30000/\z.length * n.toNat<=1000000) (pr (.str (Txt.mul z n)))
 |x,.int n=>bd (lstO x) fun l=>gd (0<=n/\n<=1000000/\l.length * n.toNat<=sizeLine) (pr (.tl (List.replicate n.toNat l).flatten))
 |_,_=>no
theorem Rvs.rep {K:PySem.W.Frag}{o:Wo}{l:List W}{vs:List V}(h:Rvs K o l vs): ∀n:Nat,Rvs K o (List.replicate n l).flatten (List.replicate n vs).flatten
 |0=>Rvs.nil
 |n+1=>by rw[List.replicate_succ,List.replicate_succ,List.flatten_cons,List.flatten_cons];exact h.app (Rvs.rep h n)
theorem xT:OpM X E (fun x y H Q=>rI CMulA (fun i j=>.int (i * j)) x y H Q\/(fun x y H Q=>(fun x y H Q=> ∃ (z:Str) (n:Int),x=.str z/\y=.int n/\MulOk z n/\Q (.str (Txt.mul z n)) H) x y H Q\/rRep x y H Q) x y H Q) mulW:=by
 intro o x y vx vy Q R rx ry h
 unfold mulW at h
 split at h
 ·obtain⟨hz,h⟩:=h.gd
  exact .inl ⟨_,_,rv_int.mp rx,rv_int.mp ry,hz,h.pr R (rv_int.mpr rfl)⟩
 ·obtain⟨hz,h⟩:=h.gd
  exact .inr (.inl ⟨_,_,rv_str.mp rx,rv_int.mp ry,ye hz.1 hz.2.1 hz.2.2.1 hz.2.2.2,h.pr R (rv_str.mpr rfl)⟩)
 ·obtain⟨l,a,vs,e1,s1,r1,h⟩:=gg R rx h
  obtain⟨hz,h⟩:=h.gd
  exact .inr (.inr ⟨a,_,vs,e1,rv_int.mp ry,s1,by omega,by omega,by rw[r1.len];exact hz.2.2,fun q hq=>j7 R hq (r1.rep _) h⟩)
 ·exact h.elim
theorem pc {a b:Expr}{pos:Pos}{fa fb:Env'->M W}(ha:JE X E a fa)(hb:JE X E b fb):JE X E (.BinOp a .Mult b pos) (m2 mulW fa fb):=
 mU (op_mulA.or (op_mul_str.or zW)) xT ha hb
def ltW:W->W->M W:=iiW CT fun i j=>.bl (decide (i<j))
def leW:W->W->M W:=iiW CT fun i j=>.bl (decide (i<=j))
def gtW:W->W->M W:=iiW CT fun i j=>.bl (decide (j<i))
def geW:W->W->M W:=iiW CT fun i j=>.bl (decide (j<=i))
theorem oP:OpM X E (rI CT fun i j=>.bl (decide (i<j))) ltW:=i5 fun _ _ _=>rv_bl.mpr rfl
theorem vS:OpM X E (rI CT fun i j=>.bl (decide (i<=j))) leW:=i5 fun _ _ _=>rv_bl.mpr rfl
theorem jT:OpM X E (rI CT fun i j=>.bl (decide (j<i))) gtW:=i5 fun _ _ _=>rv_bl.mpr rfl
theorem zU:OpM X E (rI CT fun i j=>.bl (decide (j<=i))) geW:=i5 fun _ _ _=>rv_bl.mpr rfl
theorem sP:OpR X (compareOp .Lt) (rI CT fun i j=>.bl (decide (i<j))):=opR0 vU
theorem yV:OpR X (compareOp .LtE) (rI CT fun i j=>.bl (decide (i<=j))):=opR0 A7
theorem mt:OpR X (compareOp .Gt) (rI CT fun i j=>.bl (decide (j<i))):=opR0 nN
theorem A4:OpR X (compareOp .GtE) (rI CT fun i j=>.bl (decide (j<=i))):=opR0 A8
noncomputable def vOf:W->Option V
 |.non=>some .non
 |.bl b=>some (.bl b)
 |.int i=>some (.int i)
 |.str x=>some (.str x)
 |_=>none
theorem ot {K:PySem.W.Frag}{o:Wo}{x:W}{v u:V}(e:vOf x=some u)(h:Rv K o x v):v=u:=by
 cases x with
 |non=>cases e;exact rv_non.mp h
 |bl _=>cases e;exact rv_bl.mp h
 |int _=>cases e;exact rv_int.mp h
 |str _=>cases e;exact rv_str.mp h
 |_=>cases e
theorem pN {x:W}{u:V}(e:vOf x=some u):flatV u=true:=by
 cases x<;>first|(cases e;done)|(cases e;rfl)
def vsOf:List W->Option (List V)
 |[]=>some []
 |w::l=>match vOf w,vsOf l with
  |some v,some vs=>some (v::vs)
  |_,_=>none
theorem su {K:PySem.W.Frag}{o:Wo}: ∀ {l:List W}{vs us:List V},vsOf l=some us->Rvs K o l vs->vs=us
 |[],vs,us,e,h=>by unfold Rvs at h;cases e;exact h
 |w::l,vs,us,e,h=>by
  unfold Rvs at h
  obtain⟨v,r,rfl,h1,h2⟩:=h
  unfold vsOf at e
  split at e
  ·rename_i v' vs' e1 e2
   cases e
   rw[ot e1 h1,su e2 h2]
  ·cases e
theorem nD: ∀ {l:List W}{us:List V},vsOf l=some us->us.all flatV=true
 |[],us,e=>by cases e;rfl
 |w::l,us,e=>by
  unfold vsOf at e
  split at e
  ·rename_i v' vs' e1 e2
   cases e
   rw[List.all_cons,pN e1,nD e2];rfl
  ·cases e
end
end
section
noncomputable def optL {α β:Type}(f:α->Option β):List α->Option (List β)
 |[]=>some []
 |a::l=>match f a,optL f l with
  |some b,some r=>some (b::r)
  |_,_=>none
def dataH (h:List Ob):Nat->W->Option PyData
 |0,_=>none
 |_+1,.non=>some .none
 |_+1,.bl b=>some (.bool b)
 |_+1,.int i=>some (.int i)
 |_+1,.str x=>some (.str x)
 |n+1,.tup l=>(optL (dataH h n) l).map .tuple
 |n+1,.tl l=>(optL (dataH h n) l).map .list
 |n+1,.cl l=>(optL (dataH h n) l).map .list
 |n+1,.loc k=>match h[k]? with
  |some (.lst l)=>(optL (dataH h n) l).map .list
  |_=>none
 |_+1,_=>none
section
variable {K:PySem.W.Frag}{o:Wo}
theorem mw {n:Nat}(ih: ∀w v d,dataH o.h n w=some d->Rv K o w v->Den K o.H v d/\d.depth<=n): ∀ {l:List W}{vs:List V}{ds:List PyData},optL (dataH o.h n) l=some ds->Rvs K o l vs->DenAll K o.H vs ds/\PyData.depthAll ds<=n
 |[],vs,ds,e,h=>by unfold Rvs at h;cases e;rw[h];exact⟨.nil,by simp [PyData.depthAll]⟩
 |w::l,vs,ds,e,h=>by
  unfold Rvs at h
  obtain⟨v,r,rfl,h1,h2⟩:=h
  unfold optL at e
  split at e
  ·rename_i d ds' e1 e2
   cases e
   obtain⟨a1,a2⟩:=ih w v d e1 h1
   obtain⟨b1,b2⟩:=mw ih e2 h2
   exact⟨.cons a1 b1,by rw[PyData.depthAll];omega⟩
  ·cases e
theorem lq (R:Rel K o): ∀ (n:Nat) (w:W) (v:V) (d:PyData),dataH o.h n w=some d->Rv K o w v->Den K o.H v d/\d.depth<=n
 |0,_,_,_,e,_=>by cases e
 |n+1,w,v,d,e,h=>by
  have ih:=lq R n
  have seq: ∀ {l:List W}{a:Addr}{vs:List V}{ds:List PyData},optL (dataH o.h n) l=some ds->SqL K o.H a vs->Rvs K o l vs->Den K o.H (.ref a) (.list ds)/\(PyData.list ds).depth<=n+1:=fun{l a vs ds} e s r=>by
   obtain⟨b1,b2⟩:=mw ih e r
   refine⟨.lst s b1,?_⟩
   rw[PyData.depth];omega
  cases w with
  |non=>cases e;rw[rv_non.mp h];exact⟨.non,by simp [PyData.depth]⟩
  |bl b=>cases e;rw[rv_bl.mp h];exact⟨.bl b,by simp [PyData.depth]⟩
  |int b=>cases e;rw[rv_int.mp h];exact⟨.int b,by simp [PyData.depth]⟩
  |str b=>cases e;rw[rv_str.mp h];exact⟨.str b,by simp [PyData.depth]⟩
  |ty b=>cases e
  |exc b=>cases e
  |cls b=>cases e
  |dv a b=>cases e
  |dn a b c=>cases e
  |kt a=>cases e
  |tup l=>
   unfold dataH at e
   obtain⟨ds,e1,rfl⟩:=Option.map_eq_some_iff.mp e
   unfold Rv at h
   obtain⟨a,vs,rfl,s,r⟩:=h
   obtain⟨b1,b2⟩:=mw ih e1 r
   refine⟨.tup s b1,?_⟩
   rw[PyData.depth];omega
  |tl l=>
   unfold dataH at e
   obtain⟨ds,e1,rfl⟩:=Option.map_eq_some_iff.mp e
   unfold Rv at h
   obtain⟨a,vs,rfl,s,_,r⟩:=h
   exact seq e1 (.of s) r
  |cl l=>
   unfold dataH at e
   obtain⟨ds,e1,rfl⟩:=Option.map_eq_some_iff.mp e
   unfold Rv at h
   obtain⟨a,vs,rfl,s,r⟩:=h
   refine seq e1 ?_ r
   rcases s with⟨s,_⟩|s
   ·exact .inl s
   ·exact .inr s
  |loc k=>
   unfold dataH at e
   split at e
   ·rename_i l hk
    obtain⟨ds,e1,rfl⟩:=Option.map_eq_some_iff.mp e
    unfold Rv at h
    obtain⟨vs,h1,h2⟩:=R.ob k _ hk
    rw[h.2]
    exact seq e1 (.of h1) h2
   ·cases e
end
def eqB (x y:W)(h:List Ob):Option Bool:=match vOf x,vOf y with
 |some a,some b=>if scal a b=true then some (decide (a=b)) else match dataH h 50 x,dataH h 50 y with
  |some d,some e=>if d.canLay0=true/\e.canLay0=true then some (PyData.eqv d e) else none
  |_,_=>none
 |_,_=>match dataH h 50 x,dataH h 50 y with
  |some d,some e=>if d.canLay0=true/\e.canLay0=true then some (PyData.eqv d e) else none
  |_,_=>none
def eqW (x y:W):M W:=fun h=>match eqB x y h with
 |some b=>.ok (.bl b) h
 |none=>.bad
def neW (x y:W):M W:=fun h=>match eqB x y h with
 |some b=>.ok (.bl (!b)) h
 |none=>.bad
section
variable {X:Cx}{E:XK}
theorem wZ {o:Wo}{x y:W}{vx vy:V}{b:Bool}(hu:X.A.units+64<cLine)(R:Rel X.K o)(rx:Rv X.K o x vx)(ry:Rv X.K o y vy)(e:eqB x y o.h=some b):
  (scal vx vy=true/\b=decide (vx=vy))\/ ∃d e,Den X.K o.H vx d/\Den X.K o.H vy e/\d.canLay0=true/\e.canLay0=true/\X.A.units+min d.depth e.depth<cLine/\b=PyData.eqv d e:=by
 have deep:(match dataH o.h 50 x,dataH o.h 50 y with
  |some d,some e=>if d.canLay0=true/\e.canLay0=true then some (PyData.eqv d e) else none
  |_,_=>none)=some b-> ∃d e,Den X.K o.H vx d/\Den X.K o.H vy e/\d.canLay0=true/\e.canLay0=true/\X.A.units+min d.depth e.depth<cLine/\b=PyData.eqv d e:=fun q=>by
  split at q
  ·rename_i d e' e1 e2
   split at q
   ·rename_i hc
    obtain⟨a1,a2⟩:=lq R _ _ _ _ e1 rx
    obtain⟨b1,b2⟩:=lq R _ _ _ _ e2 ry
    exact⟨d,e',a1,b1,hc.1,hc.2,by omega,(Option.some.inj q).symm⟩
   ·cases q
  ·cases q
 unfold eqB at e
 split at e
 ·rename_i a c e1 e2
  split at e
  ·rename_i hs
   rw[ot e1 rx,ot e2 ry]
   exact .inl ⟨hs,(Option.some.inj e).symm⟩
  ·exact .inr (deep e)
 ·exact .inr (deep e)
theorem aO (hu:X.A.units+64<cLine):OpM X E (fun x y H Q=>rEq x y H Q\/rEqD X.K X.A false x y H Q) eqW:=by
 intro o x y vx vy Q R rx ry h
 unfold eqW at h
 cases e:eqB x y o.h with
 |none=>rw[e] at h;exact h.elim
 |some b=>
  rw[e] at h
  have q:Q (.bl b) o.H:=Ps.pr (c:=cg X E) (r:=Rv X.K) (a:=W.bl b) h R (rv_bl.mpr rfl)
  rcases wZ hu R rx ry e with⟨s,rfl⟩|⟨d,e',a1,a2,a3,a4,a5,rfl⟩
  ·exact .inl ⟨s,q⟩
  ·exact .inr ⟨d,e',a1,a2,a3,a4,a5,by rw[if_neg Bool.false_ne_true];exact q⟩
theorem iq (hu:X.A.units+64<cLine):OpM X E (fun x y H Q=>rNe x y H Q\/rEqD X.K X.A true x y H Q) neW:=by
 intro o x y vx vy Q R rx ry h
 unfold neW at h
 cases e:eqB x y o.h with
 |none=>rw[e] at h;exact h.elim
 |some b=>
  rw[e] at h
  have q:Q (.bl (!b)) o.H:=Ps.pr (c:=cg X E) (r:=Rv X.K) (a:=W.bl (!b)) h R (rv_bl.mpr rfl)
  rcases wZ hu R rx ry e with⟨s,rfl⟩|⟨d,e',a1,a2,a3,a4,a5,rfl⟩
  ·exact .inl ⟨s,q⟩
  ·exact .inr ⟨d,e',a1,a2,a3,a4,a5,by rw[if_pos rfl];exact q⟩
theorem bg:OpR X (compareOp .Eq) (fun x y H Q=>rEq x y H Q\/rEqD X.K X.A false x y H Q):=op_eq.or z9
theorem kc:OpR X (compareOp .NotEq) (fun x y H Q=>rNe x y H Q\/rEqD X.K X.A true x y H Q):=op_ne.or zY
def keyOf:W->Option Key
 |.int i=>some (.inl i)
 |.str x=>some (.inr x)
 |_=>none
theorem mY {K:PySem.W.Frag}{o:Wo}{x:W}{v:V}{k:Key}(e:keyOf x=some k)(h:Rv K o x v):v=kV k:=by
 cases x with
 |int _=>cases e;exact rv_int.mp h
 |str _=>cases e;exact rv_str.mp h
 |_=>cases e
def dicOf (w:W)(h:List Ob):Option (List Key×List W):=match w with
 |.dv ks ws=>some (ks,ws)
 |.loc k=>match h[k]? with
  |some (.dic ks ws)=>some (ks,ws)
  |_=>none
 |_=>none
theorem qO {o:Wo}{w:W}{v:V}{ks:List Key}{ws:List W}(R:Rel X.K o)(e:dicOf w o.h=some (ks,ws))(h:Rv X.K o w v): ∃a kvs,v=.ref a/\Rd o.H a (.dK kvs)/\kvs.map (·.1)=ks/\Rvs X.K o ws (kvs.map (·.2)):=by
 cases w with
 |dv a b=>
  cases e
  unfold Rv at h
  obtain⟨a,kvs,e,h1,_,h2,h3⟩:=h
  exact⟨a,kvs,e,h1,h2,h3⟩
 |loc k=>
  unfold dicOf at e
  dsimp only at e
  split at e
  ·rename_i a b hk
   cases e
   unfold Rv at h
   obtain⟨kvs,h1,h2,h3⟩:=R.ob k _ hk
   exact⟨_,kvs,h.2,.inl h1,h2,h3⟩
  ·cases e
 |_=>cases e
noncomputable def atK {κ:Type} [DecidableEq κ]:List κ->List W->κ->Option W
 |k::ks,w::ws,x=>if k=x then some w else atK ks ws x
 |_,_,_=>none
theorem pJ {κ:Type} [DecidableEq κ] {K:PySem.W.Frag}{o:Wo}{x:κ}: ∀ {ks:List κ}{ws:List W}{kvs:List (κ×V)},kvs.map (·.1)=ks->Rvs K o ws (kvs.map (·.2))->match atK ks ws x with
  |some w=> ∃v,valV kvs x=some v/\Rv K o w v
  |none=>valV kvs x=none
 |[],_,[],_,_=>rfl
 |_,_,(k,v)::r,e,h=>by
  subst e
  cases ‹List W› with
  |nil=>unfold Rvs at h;cases h
  |cons w ws=>
   unfold Rvs at h
   obtain⟨v',r',e',h1,h2⟩:=h
   cases e'
   have ih:=pJ (x:=x) (ks:=r.map (·.1)) (ws:=ws) (kvs:=r) rfl h2
   show match (if k=x then some w else atK (r.map (·.1)) ws x) with
    |some w=> ∃v',valV ((k,v)::r) x=some v'/\Rv K o w v'
    |none=>valV ((k,v)::r) x=none
   by_cases z:k=x
   ·rw[if_pos z]
    exact⟨v,by unfold valV;rw[List.find?_cons_of_pos (by simpa using z)];rfl,h1⟩
   ·rw[if_neg z]
    have ev:valV ((k,v)::r) x=valV r x:=by unfold valV;rw[List.find?_cons_of_neg (by simpa using z)]
    rw[ev]
    exact ih
def inB (x y:W)(h:List Ob):Option Bool:=match y with
 |.str b=>match x with
  |.str a=>some (!(Builtin.Str.occurrences b a 0 b.length 1).isEmpty)
  |_=>none
 |.tup l=>match vOf x,vsOf l with
  |some v,some vs=>some (inV v vs)
  |_,_=>none
 |y=>match dicOf y h with
  |some (ks,ws)=>match keyOf x with
   |some k=>some (atK ks ws k).isSome
   |none=>none
  |none=>match lstOf y h with
   |.ok l _=>match vOf x,vsOf l with
    |some v,some vs=>some (inV v vs)
    |_,_=>none
   |_=>none
def inW (x y:W):M W:=fun h=>match inB x y h with
 |some b=>.ok (.bl b) h
 |none=>.bad
def cL (x y:W):M W:=fun h=>match inB x y h with
 |some b=>.ok (.bl (!b)) h
 |none=>.bad
theorem qy {o:Wo}{w:W}{v:V}{l:List W}{h':List Ob}(R:Rel X.K o)(hr:Rv X.K o w v)(e:lstOf w o.h=.ok l h'):h'=o.h/\ ∃a vs,v=.ref a/\SqL X.K o.H a vs/\Rvs X.K o l vs:=by
 have hh:h'=o.h:=by
  cases w with
  |tl l'=>cases e;rfl
  |cl l'=>cases e;rfl
  |loc j=>
   unfold lstOf at e
   dsimp only at e
   split at e
   ·cases e;rfl
   ·cases e
  |_=>cases e
 subst hh
 have h:Ps (cg X (fun _ _ _=>False)) (fun (_:Wo) (a:List W) (b:List W)=>a=b) o (bd (lstOf w) (fun l=>pr l) o.h) (fun b _=>b=l):=by
  unfold bd
  rw[e]
  intro p b _ _ _ q
  exact q.symm
 obtain⟨m,a,vs,e1,e2,e3,h⟩:=g8 R hr h
 have:m=l:=h.pr R rfl
 subst this
 exact⟨rfl,a,vs,e1,e2,e3⟩
def rInD:R2:=fun x y H Q=> ∃a ov,y=.ref a/\DGet H a x ov/\Q (.bl ov.isSome) H
def sH:R2:=fun x y H Q=> ∃a ov,y=.ref a/\DGet H a x ov/\Q (.bl (!ov.isSome)) H
theorem z0 (hu:X.A.units+1<cLine):OpR X (compareOp .In) rInD:=by
 intro pins s σ H x y v u Q I rx ry h
 obtain⟨a,ov,rfl,g,q⟩:=h
 cases ry
 exact BA hu I g rx fun s3 I3=>⟨.bl ov.isSome,H,I3,rfl,q⟩
theorem uk (hu:X.A.units+1<cLine):OpR X (compareOp .NotIn) sH:=by
 intro pins s σ H x y v u Q I rx ry h
 obtain⟨a,ov,rfl,g,q⟩:=h
 cases ry
 exact yI hu I g rx fun s3 I3=>⟨.bl (!ov.isSome),H,I3,rfl,q⟩
theorem wM {o:Wo}{x y:W}{vx vy:V}{b:Bool}(R:Rel X.K o)(rx:Rv X.K o x vx)(ry:Rv X.K o y vy)(e:inB x y o.h=some b):
  (∃i j,vx=.str i/\vy=.str j/\b=(!(Builtin.Str.occurrences j i 0 j.length 1).isEmpty))\/(∃p xs,vy=.ref p/\(SqL X.K o.H p xs\/SqT X.K o.H p xs)/\flatV vx=true/\xs.all flatV=true/\b=inV vx xs)\/ ∃a ov,vy=.ref a/\DGet o.H a vx ov/\b=ov.isSome:=by
 have fl: ∀ {l:List W}{vs:List V},Rvs X.K o l vs->(match vOf x,vsOf l with
    |some v,some vs=>some (inV v vs)
    |_,_=>none)=some b->flatV vx=true/\vs.all flatV=true/\b=inV vx vs:=fun{l vs} r q=>by
  split at q
  ·rename_i v us e1 e2
   rw[ot e1 rx,su e2 r]
   exact⟨pN e1,nD e2,(Option.some.inj q).symm⟩
  ·cases q
 unfold inB at e
 split at e
 ·split at e
  ·exact .inl ⟨_,_,rv_str.mp rx,rv_str.mp ry,(Option.some.inj e).symm⟩
  ·cases e
 ·unfold Rv at ry
  obtain⟨a,vs,rfl,s,r⟩:=ry
  obtain⟨f1,f2,f3⟩:=fl r e
  exact .inr (.inl ⟨a,vs,rfl,.inr s,f1,f2,f3⟩)
 ·split at e
  ·rename_i ks ws hd
   split at e
   ·rename_i k hk
    obtain⟨a,kvs,rfl,h1,h2,h3⟩:=qO R hd ry
    rw[mY hk rx]
    refine .inr (.inr ⟨a,valV kvs k,rfl,.inl ⟨kvs,k,h1,rfl,rfl⟩,?_⟩)
    rw[<-Option.some.inj e]
    have:=pJ (x:=k) h2 h3
    cases q:atK ks ws k with
    |none=>rw[q] at this;rw[show valV kvs k=none from this];rfl
    |some w=>rw[q] at this;obtain⟨v,hv,_⟩:=this;rw[hv];rfl
   ·cases e
  ·split at e
   ·rename_i l h' hl
    obtain⟨rfl,a,vs,rfl,s,r⟩:=qy R ry hl
    obtain⟨f1,f2,f3⟩:=fl r e
    exact .inr (.inl ⟨a,vs,rfl,.inl s,f1,f2,f3⟩)
   ·cases e
noncomputable abbrev rInA (X:Cx):R2:=fun x y H Q=>(fun x y H Q=> ∃i j,x=.str i/\y=.str j/\Q (.bl (!(Builtin.Str.occurrences j i 0 j.length 1).isEmpty)) H) x y H Q\/(fun x y H Q=>rIn X.K false x y H Q\/rInD x y H Q) x y H Q
noncomputable abbrev sI (X:Cx):R2:=fun x y H Q=>(fun x y H Q=> ∃i j,x=.str i/\y=.str j/\Q (.bl (!(!(Builtin.Str.occurrences j i 0 j.length 1).isEmpty))) H) x y H Q\/(fun x y H Q=>rIn X.K true x y H Q\/sH x y H Q) x y H Q
theorem lu (hu:X.A.units+1<cLine):OpR X (compareOp .In) (rInA X):=op_in_str.or (op_in_seq.or (z0 hu))
theorem gY (hu:X.A.units+1<cLine):OpR X (compareOp .NotIn) (sI X):=op_notIn_str.or (op_notIn_seq.or (uk hu))
theorem i4:OpM X E (rInA X) inW:=by
 intro o x y vx vy Q R rx ry h
 unfold inW at h
 cases e:inB x y o.h with
 |none=>rw[e] at h;exact h.elim
 |some b=>
  rw[e] at h
  have q:Q (.bl b) o.H:=Ps.pr (c:=cg X E) (r:=Rv X.K) (a:=W.bl b) h R (rv_bl.mpr rfl)
  rcases wM R rx ry e with⟨i,j,e1,e2,rfl⟩|⟨p,xs,e1,e2,e3,e4,rfl⟩|⟨a,ov,e1,e2,rfl⟩
  ·exact .inl ⟨i,j,e1,e2,q⟩
  ·exact .inr (.inl ⟨p,xs,e1,e2,e3,e4,by rw[if_neg Bool.false_ne_true];exact q⟩)
  ·exact .inr (.inr ⟨a,ov,e1,e2,q⟩)
theorem gj:OpM X E (sI X) cL:=by
 intro o x y vx vy Q R rx ry h
 unfold cL at h
 cases e:inB x y o.h with
 |none=>rw[e] at h;exact h.elim
 |some b=>
  rw[e] at h
  have q:Q (.bl (!b)) o.H:=Ps.pr (c:=cg X E) (r:=Rv X.K) (a:=W.bl (!b)) h R (rv_bl.mpr rfl)
  rcases wM R rx ry e with⟨i,j,e1,e2,rfl⟩|⟨p,xs,e1,e2,e3,e4,rfl⟩|⟨a,ov,e1,e2,rfl⟩
  ·exact .inl ⟨i,j,e1,e2,q⟩
  ·exact .inr (.inl ⟨p,xs,e1,e2,e3,e4,by rw[if_pos rfl];exact q⟩)
  ·exact .inr (.inr ⟨a,ov,e1,e2,q⟩)
theorem Rvs.atI {K:PySem.W.Frag}{o:Wo}{l:List W}{vs:List V}{i:Int}{w:W}(h:Rvs K o l vs)(e:L2.atI l i=some w): ∃v,L2.atI vs i=some v/\Rv K o w v:=by
 unfold L2.atI at e ⊢
 rw[h.len]
 cases q:ixN l.length i with
 |none=>rw[q] at e;cases e
 |some j=>rw[q] at e;exact h.get e
def ixO (x y:W)(h:List Ob):Option W:=match dicOf x h with
 |some (ks,ws)=>match keyOf y with
  |some k=>atK ks ws k
  |none=>none
 |none=>match y with
  |.int i=>match x with
   |.str z=>if z.length<=sizeLine then (atI z.cps.toList i).map fun c=>.str ⟨#[c]⟩ else none
   |.tup l=>atI l i
   |x=>match lstOf x h with
    |.ok l _=>atI l i
    |_=>none
  |_=>none
def ixW (x y:W):M W:=fun h=>match ixO x y h with
 |some w=>.ok w h
 |none=>.bad
def rIxD:R2:=fun x y H Q=> ∃a v,x=.ref a/\DGet H a y (some v)/\Q v H
theorem yw (hu:X.A.units+1<cLine):IxR X rIxD:=by
 intro value slice pins s σ H x y v u Q I rx ry h hs
 obtain⟨a,z,rfl,g,q⟩:=h
 cases rx
 exact tail_any (qN I g) PySem.F.slot_dict_getitem.lookup (uO hu I g ry fun w' s3 I3 rw'=>⟨z,H,I3,rw',q⟩) hs
theorem zT:OpM X E (fun x y H Q=>rIx X.K x y H Q\/rIxD x y H Q) ixW:=by
 intro o x y vx vy Q R rx ry h
 unfold ixW at h
 cases e:ixO x y o.h with
 |none=>rw[e] at h;exact h.elim
 |some w=>
  rw[e] at h
  have q: ∀ {v:V},Rv X.K o w v->Q v o.H:=fun{v} hv=>Ps.pr (c:=cg X E) (r:=Rv X.K) (a:=w) h R hv
  unfold ixO at e
  split at e
  ·rename_i ks ws hd
   split at e
   ·rename_i k hk
    obtain⟨a,kvs,rfl,h1,h2,h3⟩:=qO R hd rx
    have:=pJ (x:=k) h2 h3
    rw[e] at this
    obtain⟨v,hv,rv⟩:=this
    rw[mY hk ry]
    exact .inr ⟨a,v,rfl,.inl ⟨kvs,k,h1,rfl,hv.symm⟩,q rv⟩
   ·cases e
  ·split at e
   ·split at e
    ·split at e
     ·rename_i hz
      obtain⟨c,hc,rfl⟩:=Option.map_eq_some_iff.mp e
      exact .inl (.inr (.inr ⟨_,_,c,rv_str.mp rx,rv_int.mp ry,hz,hc,q (rv_str.mpr rfl)⟩))
     ·cases e
    ·unfold Rv at rx
     obtain⟨a,vs,rfl,s,r⟩:=rx
     obtain⟨v,hv,rv⟩:=r.atI e
     exact .inl (.inr (.inl ⟨a,vs,_,v,rfl,rv_int.mp ry,s,hv,q rv⟩))
    ·split at e
     ·rename_i l h' hl
      obtain⟨rfl,a,vs,rfl,s,r⟩:=qy R rx hl
      obtain⟨v,hv,rv⟩:=r.atI e
      exact .inl (.inl ⟨a,vs,_,v,rfl,rv_int.mp ry,s,hv,q rv⟩)
     ·cases e
   ·cases e
theorem ar {a b:Expr}{pos:Pos}{fa fb:Env'->M W}(hu:X.A.units+1<cLine)(ha:JE X E a fa)(hb:JE X E b fb)(hs:t6 b):JE X E (.Subscript a b pos) (m2 ixW fa fb):=
 (sO (ix_seq.or (yw hu)) ha.h hb.h hs).imp fun _ _ _ h=>xx zT h
def cutW {α:Type}(xs:List α)(lo hi:Option Int):List α:=(xs.drop (HT.sIx xs.length 0 lo)).take (HT.sIx xs.length xs.length hi - HT.sIx xs.length 0 lo)
theorem Rvs.cut {K:PySem.W.Frag}{o:Wo}{l:List W}{vs:List V}(h:Rvs K o l vs)(lo hi:Option Int):Rvs K o (cutW l lo hi) (cutV vs lo hi):=by
 unfold cutW cutV
 rw[h.len]
 exact (h.drop _).take _
def bj:Env'->M (Option Int):=fun _=>pr none
def mPart (f:Env'->M W):Env'->M (Option Int):=fun ρ=>bd (f ρ) fun w=>match w with
 |.int i=>pr (some i)
 |_=>no
noncomputable abbrev tP (c:Cg)(f:Env'->M (Option Int)):TO:=tG c (fun _ a b=>a=b) f
structure JO (X:Cx)(E:XK)(e:Option Expr)(f:Env'->M (Option Int)):Prop where
 h:PO X e (tP (cg X E) f)
theorem PO.imp {e:Option Expr}{t:TO}{f:Env'->M (Option Int)}(h:PO X e t)(k:∀σ H Q,tP (cg X E) f σ H Q->t σ H Q):JO X E e f:=⟨fun pins s σ H Q I q=>h pins s σ H Q I (k σ H Q q)⟩
theorem eS:JO X E none bj:=po_none.imp fun σ H Q h=>by
 obtain⟨o,ρ,rfl,R,S,h⟩:=h
 exact h.pr R rfl
theorem bH {e:Expr}{f:Env'->M W}(he:JE X E e f):JO X E (some e) (mPart f):=(oK he.h).imp fun σ H Q h=>by
 obtain⟨o,ρ,rfl,R,S,h⟩:=h
 refine⟨o,ρ,rfl,R,S,Ps.bd h fun p x vx e1 R1 r1 h1=>?_⟩
 cases x with
 |int i=>exact⟨i,rv_int.mp r1,h1.pr R1 rfl⟩
 |_=>exact h1.elim
def slW (x:W)(lo hi:Option Int):M W:=match x with
 |.str z=>gd (z.length<=sizeLine) (pr (.str (StrLaws.sliceText z lo hi)))
 |.tup l=>gd (¬(HT.sIx l.length 0 lo=0/\HT.sIx l.length l.length hi=l.length)) (pr (.tup (cutW l lo hi)))
 |x=>bd (lstOf x) fun l=>pr (.tl (cutW l lo hi))
def m3 (f:W->Option Int->Option Int->M W)(fa:Env'->M W)(fl fh:Env'->M (Option Int)):Env'->M W:=fun ρ=>bd (fa ρ) fun x=>bd (fl ρ) fun a=>bd (fh ρ) fun b=>f x a b
theorem gw {e:Expr}{lo hi:Option Expr}{p2 pos:Pos}{fa:Env'->M W}{fl fh:Env'->M (Option Int)}(he:JE X E e fa)(hl:JO X E lo fl)(hh:JO X E hi fh):
  JE X E (.Subscript e (.Slice lo hi none p2) pos) (m3 slW fa fl fh):=(mr (sl_str.or (sl_tup.or xB)) he.h hl.h hh.h).imp fun σ H Q h=>by
 obtain⟨o,ρ,rfl,R,S,h⟩:=h
 refine⟨o,ρ,rfl,R,S,Ps.bd h fun p x vx e1 R1 r1 h1=>⟨p,ρ,rfl,R1,S.mono R e1,Ps.bd h1 fun q a va e2 R2 r2 h2=>⟨q,ρ,rfl,R2,(S.mono R e1).mono R1 e2,Ps.bd h2 fun w b vb e3 R3 r3 h3=>?_⟩⟩⟩
 subst r2 r3
 have rx:=(r1.mono R1 e2).mono R2 e3
 unfold slW at h3
 split at h3
 ·obtain⟨hz,h3⟩:=h3.gd
  exact .inl ⟨_,rv_str.mp rx,hz,h3.pr R3 (rv_str.mpr rfl)⟩
 ·obtain⟨hz,h3⟩:=h3.gd
  unfold Rv at rx
  obtain⟨a',vs,rfl,s,r⟩:=rx
  refine .inr (.inl ⟨a',vs,rfl,s,by rw[r.len];exact hz,fun q' hq=>j6 R3 hq (r.cut _ _) h3⟩)
 ·obtain⟨l,a',vs,rfl,s,r,h3⟩:=g8 R3 rx h3
  exact .inr (.inr ⟨a',vs,rfl,s,fun q' hq=>j7 R3 hq (r.cut _ _) h3⟩)
def mCall (f:List W->M W)(l:Env'->M (List W)):Env'->M W:=fun ρ=>bd (l ρ) f
def CallM (X:Cx)(E:XK)(r:List V->Hp->VK->Prop)(f:List W->M W):Prop:= ∀ (o:Wo) (ws:List W) (vs:List V) (Q:VK),Rel X.K o->Rvs X.K o ws vs->Ps (cg X E) (Rv X.K) o (f ws o.h) Q->r vs o.H Q
variable {x:Str}{p pos:Pos}{e:Expr}{es:List Expr}{l:Env'->M (List W)}{f:List W->M W}{r:List V->Hp->VK->Prop}{id T:String}
theorem yS (hf:CallM X E r f){σ:St}{H:Hp}{Q:VK}(h:tM (cg X E) (mCall f l) σ H Q):tCB r (tA (cg X E) l) σ H Q:=by
 obtain⟨o,ρ,rfl,R,S,h⟩:=h
 exact⟨o,ρ,rfl,R,S,Ps.bd h fun p x vx e1 R1 r1 h1=>hf p x vx Q R1 r1 h1⟩
theorem kn (hc:CallR X (.builtin id) r)(hf:CallM X E r f)(hg:Gl X x)(hm:X.mg x=none)(hv:bootBuiltins x=some (.builtin id))(ha:JA X E (e::es) l)(hn:x≠ "__name__":=by decide)(hdb:(x==("__debug__":Str))=false:=by decide)
  (he:starEach (e::es) X.env=(false,eval e X.env)::starEach es X.env:=by rfl)(hpl:(backTo pos (starEach es X.env)).any (·.1)=false:=by rfl):JE X E (.Call (.Name x p) (e::es) [] pos) (mCall f l):=
 (eP hc hg hm hv ha.h hn hdb he hpl).imp fun _ _ _ h=>yS hf h
theorem lg (hc:CallR X (.type T) r)(hf:CallM X E r f)(hg:Gl X x)(hm:X.mg x=none)(hv:bootBuiltins x=some (.type T))(ha:JA X E (e::es) l)(hn:x≠ "__name__":=by decide)(hdb:(x==("__debug__":Str))=false:=by decide)
  (he:starEach (e::es) X.env=(false,eval e X.env)::starEach es X.env:=by rfl)(hpl:(backTo pos (starEach es X.env)).any (·.1)=false:=by rfl):JE X E (.Call (.Name x p) (e::es) [] pos) (mCall f l):=
 (kQ hc hg hm hv ha.h hn hdb he hpl).imp fun _ _ _ h=>yS hf h
variable {CX:CXT}{k:Nat}{fA:Addr}{fd:FuncData}{ps:List Str}
end
end
section
inductive Fl where
 |nx (r:Env')|bk (r:Env')|ct (r:Env')|rt (w:W)
inductive FlV where
 |nx (s:St)|bk (s:St)|ct (s:St)|rt (v:V)
def RFl (K:PySem.W.Frag)(o:Wo):Fl->FlV->Prop
 |.nx r,f=> ∃s,f=.nx s/\Re K o r s
 |.bk r,f=> ∃s,f=.bk s/\Re K o r s
 |.ct r,f=> ∃s,f=.ct s/\Re K o r s
 |.rt w,f=> ∃v,f=.rt v/\Rv K o w v
def DQ (D:Ends):FlV->Hp->Prop
 |.nx s,H=>D.nx s H
 |.bk s,H=>D.bk s H
 |.ct s,H=>D.ct s H
 |.rt v,H=>D.rt v H
def tS (c:Cg)(g:Env'->M Fl):TS:=fun D σ H=>tG c (RFl c.K) g σ H (DQ D)
structure JS (X:Cx)(E:XK)(e:Stmt)(f:Env'->M Fl):Prop where
 h:PS X e (tS (cg X E) f)
structure JSs (X:Cx)(E:XK)(e:List Stmt)(f:Env'->M Fl):Prop where
 h:PSs X e (tS (cg X E) f)
theorem PSs.imp {X:Cx}{E:XK}{e:List Stmt}{t:TS}{f:Env'->M Fl}(h:PSs X e t)(k:∀D σ H,tS (cg X E) f D σ H->t D σ H):JSs X E e f:=⟨fun pins s σ H D I q=>h pins s σ H D I (k D σ H q)⟩
theorem PS.imp {X:Cx}{E:XK}{e:Stmt}{t:TS}{f:Env'->M Fl}(h:PS X e t)(k:∀D σ H,tS (cg X E) f D σ H->t D σ H):JS X E e f:=⟨fun pins s σ H D I q=>h pins s σ H D I (k D σ H q)⟩
theorem aa {α β γ:Type}(a:M α)(b:α->M β)(d:β->M γ):bd (bd a b) d=bd a fun x=>bd (b x) d:=by
 funext h
 unfold bd
 cases a h<;>rfl
section
variable {X:Cx}{E:XK}{pos:Pos}
def sNil:Env'->M Fl:=fun ρ=>pr (.nx ρ)
def sSeq (f g:Env'->M Fl):Env'->M Fl:=fun ρ=>bd (f ρ) fun x=>match x with
 |.nx r=>g r
 |x=>pr x
theorem aw:JSs X E [] sNil:=pss_nil.imp fun D σ H h=>by
 obtain⟨o,ρ,rfl,R,S,h⟩:=h
 exact h.pr R ⟨σ,rfl,S⟩
theorem zi {f g:Env'->M Fl}{D:Ends}{σ:St}{H:Hp}(h:tS (cg X E) (sSeq f g) D σ H):tSeq (tS (cg X E) f) (tS (cg X E) g) D σ H:=by
 obtain⟨o,ρ,rfl,R,S,h⟩:=h
 refine⟨o,ρ,rfl,R,S,Ps.bd h fun p x b e1 R1 r1 h1=>?_⟩
 cases x with
 |nx r=>obtain⟨s,rfl,re⟩:=r1;exact⟨p,r,rfl,R1,re,h1⟩
 |bk r=>have q:=h1.pr R1 r1;obtain⟨s,rfl,re⟩:=r1;exact q
 |ct r=>have q:=h1.pr R1 r1;obtain⟨s,rfl,re⟩:=r1;exact q
 |rt r=>have q:=h1.pr R1 r1;obtain⟨s,rfl,re⟩:=r1;exact q
theorem ah {st:Stmt}{rest:List Stmt}{f g:Env'->M Fl}(h1:JS X E st f)(h2:JSs X E rest g):JSs X E (st::rest) (sSeq f g):=(aR h1.h h2.h).imp fun D σ H h=>zi h
theorem aj {st:Stmt}{f:Env'->M Fl}(h1:JS X E st f):JSs X E [st] f:=⟨bC h1.h⟩
variable {e:Expr}{f:Env'->M W}
def sSet (i:Nat)(f:Env'->M W):Env'->M Fl:=fun ρ=>bd (f ρ) fun w=>pr (.nx (ρ.set i (some w)))
theorem aC {i:Nat}{x:Str}{pos':Pos}(hN:X.N.Nodup)(hi:X.N[i]?=some x)(hx:Loc X.env.scope x)(he:JE X E e f)(hs:swapsWith e (some (.Name x pos')) pos.line X.env=pure false:=by rfl)(hf:X.fn x=true\/X.env.scope.names.lookup x=some .local :=by first|exact .inl rfl|exact .inr rfl|assumption):
  JS X E (.Assign [.Name x pos'] e pos) (sSet i f):=(fj hN hi hx he.h hs hf).imp fun D σ H h=>by
 obtain⟨o,ρ,rfl,R,S,h⟩:=h
 exact⟨o,ρ,rfl,R,S,Ps.bd h fun p x b e1 R1 r1 h1=>Ps.pr (b:=FlV.nx (σ.set i (some b))) h1 R1 ⟨_,rfl,(S.mono R e1).set r1 i⟩⟩
def sRet (f:Env'->M W):Env'->M Fl:=fun ρ=>bd (f ρ) fun w=>pr (.rt w)
theorem ax (he:JE X E e f):JS X E (.Return (some e) pos) (sRet f):=(dg he.h).imp fun D σ H h=>by
 obtain⟨o,ρ,rfl,R,S,h⟩:=h
 exact⟨o,ρ,rfl,R,S,Ps.bd h fun p x b e1 R1 r1 h1=>Ps.pr (b:=FlV.rt b) h1 R1 ⟨_,rfl,r1⟩⟩
def sEx (f:Env'->M W):Env'->M Fl:=fun ρ=>bd (f ρ) fun _=>pr (.nx ρ)
theorem bS (he:JE X E e f)(hs:swapsWith e none pos.line X.env=pure false:=by rfl):JS X E (.Expr e pos) (sEx f):=(oJ he.h hs).imp fun D σ H h=>by
 obtain⟨o,ρ,rfl,R,S,h⟩:=h
 exact⟨o,ρ,rfl,R,S,Ps.bd h fun p x b e1 R1 r1 h1=>Ps.pr (b:=FlV.nx σ) h1 R1 ⟨_,rfl,S.mono R e1⟩⟩
def sIf (t:Env'->M Bool)(f g:Env'->M Fl):Env'->M Fl:=fun ρ=>bd (t ρ) fun b=>if b=true then f ρ else g ρ
theorem aI {c:Expr}{a b:List Stmt}{t:Env'->M Bool}{f g:Env'->M Fl}(hc:JT X E c t)(ha:JSs X E a f)(hb:JSs X E b g):JS X E (.If c a b pos) (sIf t f g):=(iN hc.h ha.h hb.h).imp fun D σ H h=>by
 obtain⟨o,ρ,rfl,R,S,h⟩:=h
 refine⟨o,ρ,rfl,R,S,Ps.bd h fun p x vx e1 R1 r1 h1=>?_⟩
 subst r1
 cases x with
 |true=>exact iteT ⟨p,ρ,rfl,R1,S.mono R e1,h1⟩
 |false=>exact iteF ⟨p,ρ,rfl,R1,S.mono R e1,h1⟩
def sPass:Env'->M Fl:=fun ρ=>pr (.nx ρ)
def dZ:Env'->M Fl:=fun ρ=>pr (.bk ρ)
def sCont:Env'->M Fl:=fun ρ=>pr (.ct ρ)
def jK (t:Env'->M Bool)(g:Env'->M Fl):Nat->Env'->M Fl
 |0,_=>no
 |n+1,ρ=>bd (t ρ) fun b=>if b=true then bd (g ρ) fun x=>match x with
   |.nx r=>jK t g n r
   |.ct r=>jK t g n r
   |.bk r=>pr (.nx r)
   |.rt w=>pr (.rt w)
  else pr (.nx ρ)
theorem wf (n:Nat){c:Expr}{body:List Stmt}{t:Env'->M Bool}{g:Env'->M Fl}(hp:PassesOwn (model X.prog X.w) X.A X.env X.xe)(hc:JT X E c t)(hb:JSs X E body g):
  JS X E (.While c body [] pos) (jK t g n):=(j5 hp hc.h hb.h).imp fun D σ H h=>by
 obtain⟨o,ρ,rfl,R,S,h⟩:=h
 refine⟨fun m σ H=> ∃o ρ,o.H=H/\Rel X.K o/\Re X.K o ρ σ/\Ps (cg X E) (RFl X.K) o (jK t g m ρ o.h) (DQ D),⟨n,o,ρ,rfl,R,S,h⟩,?_⟩
 rintro m σ H ⟨o,ρ,rfl,R,S,h⟩
 cases m with
 |zero=>exact h.elim
 |succ m=>
  refine⟨o,ρ,rfl,R,S,Ps.bd h fun p x vx e1 R1 r1 h1=>?_⟩
  subst r1
  cases x with
  |false=>exact iteF (Ps.pr (b:=FlV.nx σ) h1 R1 ⟨_,rfl,S.mono R e1⟩)
  |true=>
   refine iteT ⟨_,fun σ' H' w=>⟨m,Nat.lt_succ_self _,w⟩,p,ρ,rfl,R1,S.mono R e1,Ps.bd h1 fun q x b e2 R2 r2 h2=>?_⟩
   cases x with
   |nx r=>obtain⟨s,rfl,re⟩:=r2;exact⟨q,r,rfl,R2,re,h2⟩
   |ct r=>obtain⟨s,rfl,re⟩:=r2;exact⟨q,r,rfl,R2,re,h2⟩
   |bk r=>obtain⟨s,rfl,re⟩:=r2;exact h2.pr R2 (b:=.nx s) ⟨s,rfl,re⟩
   |rt w=>obtain⟨v,rfl,rv⟩:=r2;exact h2.pr R2 (b:=.rt v) ⟨v,rfl,rv⟩
structure TgOk (K:PySem.W.Frag)(m:Nat)(g:TG)(t:W->Env'->Option Env'):Prop where
 ok: ∀ (o:Wo) (w:W) (v:V) (ρ ρ2:Env') (σ:St),Rv K o w v->Re K o ρ σ->t w ρ=some ρ2-> ∃σ2,(∀Q:St->Hp->Prop,Q σ2 o.H->g v σ o.H Q)/\Re K o ρ2 σ2/\σ2.drop m=σ.drop m/\σ2.length=σ.length
def tgN (i:Nat):W->Env'->Option Env':=fun w ρ=>some (ρ.set i (some w))
theorem cn {K:PySem.W.Frag}(m i:Nat)(h:i<m):TgOk K m (gName i) (tgN i):=⟨fun o w v ρ ρ2 σ rv re e=>by
 cases e
 exact⟨_,fun Q q=>q,re.set rv i,by rw[List.drop_set_of_lt h],by rw[List.length_set]⟩⟩
def gNs:List Nat->TGs
 |[]=>gNil
 |i::r=>gCons (gName i) (gNs r)
def setW:List Nat->List W->Env'->Option Env'
 |[],[],ρ=>some ρ
 |i::r,w::l,ρ=>setW r l (ρ.set i (some w))
 |_,_,_=>none
theorem yR {K:PySem.W.Frag}{m:Nat}{o:Wo}: ∀ (is:List Nat) (l:List W) (vs:List V) (ρ ρ2:Env') (σ:St),(∀i∈is,i<m)->Rvs K o l vs->Re K o ρ σ->setW is l ρ=some ρ2-> ∃σ2,(∀Q:St->Hp->Prop,Q σ2 o.H->gNs is vs σ o.H Q)/\Re K o ρ2 σ2/\σ2.drop m=σ.drop m/\σ2.length=σ.length
 |[],[],vs,ρ,ρ2,σ,_,rv,re,e=>by
  unfold Rvs at rv
  cases e
  exact⟨σ,fun Q q=>⟨rv,q⟩,re,rfl,rfl⟩
 |[],_::_,_,_,_,_,_,_,_,e=>by cases e
 |_::_,[],_,_,_,_,_,_,_,e=>by cases e
 |i::is,w::l,vs,ρ,ρ2,σ,hm,rv,re,e=>by
  unfold Rvs at rv
  obtain⟨v,r,rfl,h1,h2⟩:=rv
  obtain⟨σ2,a,b,c,d⟩:=yR is l r (ρ.set i (some w)) ρ2 (σ.set i (some v)) (fun j hj=>hm j (List.mem_cons_of_mem _ hj)) h2 (re.set h1 i) e
  refine⟨σ2,fun Q q=>⟨v,r,rfl,a Q q⟩,b,?_,?_⟩
  ·rw[c,List.drop_set_of_lt (hm i List.mem_cons_self)]
  ·rw[d,List.length_set]
def tgT (is:List Nat):W->Env'->Option Env':=fun w ρ=>match w with
 |.tup l=>setW is l ρ
 |_=>none
theorem pZ: ∀ {is:List Nat}{l:List W}{ρ ρ2:Env'},setW is l ρ=some ρ2->l.length=is.length
 |[],[],_,_,_=>rfl
 |[],_::_,_,_,e=>by cases e
 |_::_,[],_,_,e=>by cases e
 |_::is,_::l,_,_,e=>by rw[List.length_cons,List.length_cons,pZ (is:=is) (l:=l) e]
theorem lT {K:PySem.W.Frag}(m:Nat)(is:List Nat)(h:∀i∈is,i<m):TgOk K m (gTup K is.length (gNs is)) (tgT is):=⟨fun o w v ρ ρ2 σ rv re e=>by
 cases w with
 |tup l=>
  unfold Rv at rv
  obtain⟨a,vs,rfl,s,r⟩:=rv
  have e:setW is l ρ=some ρ2:=e
  obtain⟨σ2,a1,a2,a3,a4⟩:=yR is l vs ρ ρ2 σ h r re e
  exact⟨σ2,fun Q q=>⟨a,vs,rfl,s,by rw[r.len,pZ e],a1 Q q⟩,a2,a3,a4⟩
 |_=>cases e⟩
open Classical in
def gdh {α:Type}(G:List Ob->Prop)(m:M α):M α:=fun h=>if G h then m h else .bad
theorem qG {α:Type}(m:M α):gdh (fun _=>True) m=m:=by funext h;unfold gdh;rw[if_pos trivial]
theorem iB {α:Type}{G:List Ob->Prop}{m:M α}{h:List Ob}(q:G h):gdh G m h=m h:=by unfold gdh;rw[if_pos q]
theorem Ps.gdh {α β:Type}{c:Cg}{r:Wo->α->β->Prop}{o:Wo}{G:List Ob->Prop}{m:M α}{Q:β->Hp->Prop}(h:Ps c r o (gdh G m o.h) Q):G o.h/\Ps c r o (m o.h) Q:=by
 unfold L2.gdh at h
 by_cases q:G o.h
 ·rw[if_pos q] at h;exact⟨q,h⟩
 ·rw[if_neg q] at h;exact h.elim
structure Sr where
 l:List W
 G:List Ob->Prop
structure SrcOk (K:PySem.W.Frag)(o0:Wo)(J:It)(s:Sr):Prop where
 stop: ∀o,Ex o0 o->Rel K o->s.G o.h->J.stop s.l.length o.H
 go: ∀o i w,Ex o0 o->Rel K o->s.G o.h->s.l[i]?=some w->J.go i o.H/\ ∀x H',J.yld i o.H x H'-> ∃p,p.H=H'/\p.h=o.h/\Ex o p/\Rel K p/\Rv K p w x
def tI (c:Cg)(src:Env'->M Sr):TI:=fun σ H R=>tG c (fun p s J=>SrcOk c.K p J s) src σ H R
structure JI (X:Cx)(E:XK)(tg iter:Expr)(f:Env'->M Sr):Prop where
 h:PI X tg iter (tI (cg X E) f)
theorem PI.imp {tg iter:Expr}{t:TI}{f:Env'->M Sr}(h:PI X tg iter t)(k:∀σ H R,tI (cg X E) f σ H R->t σ H R):JI X E tg iter f:=⟨fun pins s σ H R I q=>h pins s σ H R I (k σ H R q)⟩
def srcL (w:W):M Sr:=match w with
 |.tl l=>pr ⟨l,fun _=>True⟩
 |.cl l=>pr ⟨l,fun _=>True⟩
 |.loc k=>fun h=>match h[k]? with
  |some (.lst l)=>.ok ⟨l,fun h=>h[k]?=some (.lst l)⟩ h
  |_=>.bad
 |_=>no
def mSrc (f:Env'->M W)(g:W->M Sr):Env'->M Sr:=fun ρ=>bd (f ρ) g
theorem lV {K:PySem.W.Frag}{o0:Wo}{a:Addr}{s:Sr}(h:∀o,Ex o0 o->Rel K o->s.G o.h-> ∃vs,SqL K o.H a vs/\Rvs K o s.l vs):SrcOk K o0 (Itl K a) s:=by
 refine⟨fun o X R g=>?_,fun o i w X R g e=>?_⟩
 ·obtain⟨vs,s,r⟩:=h o X R g
  exact⟨vs,s,Nat.le_of_eq r.len⟩
 ·obtain⟨vs,s,r⟩:=h o X R g
  obtain⟨v,hv,rv⟩:=r.get e
  refine⟨⟨vs,v,s,hv⟩,fun x H' y=>?_⟩
  obtain⟨rfl,y⟩:=y
  have:x=v:=by have:=y vs s;rw[hv] at this;exact (Option.some.inj this).symm
  subst this
  exact⟨o,rfl,rfl,Ex.refl _,R,rv⟩
theorem db {tg l:Expr}{fl:Env'->M W}(hl:JE X E l fl):JI X E tg l (mSrc fl srcL):=(xP hl.h).imp fun σ H Q h=>by
 obtain⟨o,ρ,rfl,R,S,h⟩:=h
 refine⟨o,ρ,rfl,R,S,Ps.bd h fun p x vx e1 R1 r1 h1=>?_⟩
 cases x with
 |tl l=>
  have r1':=r1
  unfold Rv at r1
  obtain⟨a,vs,rfl,s,n,r⟩:=r1
  refine⟨a,rfl,⟨vs,.of s⟩,h1.pr R1 (lV fun o X R g=>?_)⟩
  exact⟨vs,.of (X.fr a _ s n).1,r.mono R1 X⟩
 |cl l=>
  unfold Rv at r1
  obtain⟨a,vs,rfl,s,r⟩:=r1
  have sq: ∀o,Ex p o->SqL X.K o.H a vs:=fun o X=>by
   rcases s with⟨s,n⟩|s
   ·exact .inl (X.rd s n).1
   ·exact .inr s
  exact⟨a,rfl,⟨vs,sq p (Ex.refl _)⟩,h1.pr R1 (lV fun o X R g=>⟨vs,sq o X,r.mono R1 X⟩)⟩
 |loc k=>
  unfold Rv at r1
  obtain⟨hk,rfl⟩:=r1
  unfold srcL at h1
  dsimp only at h1
  split at h1
  ·rename_i l hl
   obtain⟨vs,h3,h4⟩:=R1.ob k _ hl
   refine⟨_,rfl,⟨vs,.of h3⟩,Ps.at (p:=p) h1 rfl (Ex.refl _) R1 (lV fun o X R g=>?_)⟩
   obtain⟨vs',h5,h6⟩:=R.ob k _ g
   rw[X.mu k hk] at h5
   exact⟨vs',.of h5,h6⟩
  ·exact h1.elim
 |_=>exact h1.elim
def srcT (w:W):M Sr:=match w with
 |.tup l=>pr ⟨l,fun _=>True⟩
 |_=>no
theorem wk {tg l:Expr}{fl:Env'->M W}(hl:JE X E l fl):JI X E tg l (mSrc fl srcT):=(zK hl.h).imp fun σ H Q h=>by
 obtain⟨o,ρ,rfl,R,S,h⟩:=h
 refine⟨o,ρ,rfl,R,S,Ps.bd h fun p x vx e1 R1 r1 h1=>?_⟩
 cases x with
 |tup l=>
  unfold Rv at r1
  obtain⟨a,vs,rfl,s,r⟩:=r1
  refine⟨a,rfl,⟨vs,s⟩,h1.pr R1 ⟨fun o X R g=>⟨vs,X.rdT R1 s,Nat.le_of_eq r.len⟩,fun o i w X R g e=>?_⟩⟩
  obtain⟨v,hv,rv⟩:=(r.mono R1 X).get e
  have sq:=X.rdT R1 s
  refine⟨⟨vs,v,sq,hv⟩,fun x H' y=>?_⟩
  obtain⟨rfl,y⟩:=y
  have:x=v:=by have:=y vs sq;rw[hv] at this;exact (Option.some.inj this).symm
  subst this
  exact⟨o,rfl,rfl,Ex.refl _,R,rv⟩
 |_=>exact h1.elim
noncomputable def intsW (lo:Int):Nat->List W
 |0=>[]
 |n+1=>.int lo::intsW (lo+1) n
theorem eU: ∀ (n:Nat) (lo:Int),(intsW lo n).length=n
 |0,_=>rfl
 |n+1,lo=>by rw[intsW,List.length_cons,eU n]
theorem eV: ∀ (n:Nat) (lo:Int) (i:Nat) (w:W),(intsW lo n)[i]?=some w->w=.int (lo+i)/\i<n
 |0,_,_,_,h=>by simp [intsW] at h
 |n+1,lo,0,w,h=>by rw[intsW] at h;cases h;exact⟨by simp,Nat.succ_pos _⟩
 |n+1,lo,i+1,w,h=>by
  rw[intsW,List.getElem?_cons_succ] at h
  obtain⟨e,l⟩:=eV n (lo+1) i w h
  exact⟨by rw[e];congr 1;omega,by omega⟩
theorem nJ {K:PySem.W.Frag}{o0:Wo}{lo:Int}{n:Nat}:SrcOk K o0 (Itr lo n) ⟨intsW lo n,fun _=>True⟩:=by
 refine⟨fun o X R g=>?_,fun o i w X R g e=>?_⟩
 ·show n<=(intsW lo n).length
  rw[eU];exact Nat.le_refl _
 ·obtain⟨rfl,hi⟩:=eV n lo i w e
  refine⟨hi,fun x H' y=>?_⟩
  obtain⟨rfl,rfl⟩:=y
  exact⟨o,rfl,rfl,Ex.refl _,R,rv_int.mpr rfl⟩
def rng1 (l:List W):M Sr:=match l with
 |[.int j]=>gd (-(2 ^ 62)<=j/\j<2 ^ 62) (pr ⟨intsW 0 j.toNat,fun _=>True⟩)
 |_=>no
def rng2 (l:List W):M Sr:=match l with
 |[.int i,.int j]=>gd (-(2 ^ 62)<=i/\i<2 ^ 62/\ -(2 ^ 62)<=j/\j<2 ^ 62) (pr ⟨intsW i (j - i).toNat,fun _=>True⟩)
 |_=>no
def mSrcA (f:Env'->M (List W))(g:List W->M Sr):Env'->M Sr:=fun ρ=>bd (f ρ) g
theorem g0 {tg a:Expr}{p pos:Pos}{fl:Env'->M (List W)}(hg:Gl X "range")(hm:X.mg "range"=none)(ha:JA X E [a] fl)(hs:starEach [a] X.env=[(false,eval a X.env)]:=by rfl):JI X E tg (.Call (.Name "range" p) [a] [] pos) (mSrcA fl rng1):=
 (uj hg hm ha.h hs).imp fun σ H Q h=>by
 obtain⟨o,ρ,rfl,R,S,h⟩:=h
 refine⟨o,ρ,rfl,R,S,Ps.bd h fun p x vx e1 R1 r1 h1=>?_⟩
 unfold rng1 at h1
 split at h1
 ·obtain⟨hz,h1⟩:=h1.gd
  unfold Rvs Rvs at r1
  obtain⟨v,r,rfl,a1,rfl⟩:=r1
  exact⟨_,by rw[rv_int.mp a1],hz.1,hz.2,h1.pr R1 nJ⟩
 ·exact h1.elim
theorem uw {tg a b:Expr}{p pos:Pos}{fl:Env'->M (List W)}(hg:Gl X "range")(hm:X.mg "range"=none)(ha:JA X E [a,b] fl)(hs:starEach [a,b] X.env=[(false,eval a X.env),(false,eval b X.env)]:=by rfl)(hs2:starEach [b] X.env=[(false,eval b X.env)]:=by rfl):
  JI X E tg (.Call (.Name "range" p) [a,b] [] pos) (mSrcA fl rng2):=(ui hg hm ha.h hs hs2).imp fun σ H Q h=>by
 obtain⟨o,ρ,rfl,R,S,h⟩:=h
 refine⟨o,ρ,rfl,R,S,Ps.bd h fun p x vx e1 R1 r1 h1=>?_⟩
 unfold rng2 at h1
 split at h1
 ·obtain⟨hz,h1⟩:=h1.gd
  unfold Rvs Rvs Rvs at r1
  obtain⟨v,r,rfl,a1,v',r',rfl,a2,rfl⟩:=r1
  exact⟨_,_,by rw[rv_int.mp a1,rv_int.mp a2],hz,h1.pr R1 nJ⟩
 ·exact h1.elim
def forM (G:List Ob->Prop)(t:W->Env'->Option Env')(g:Env'->M Fl):List W->Env'->M Fl
 |[],ρ=>gdh G (pr (.nx ρ))
 |w::l,ρ=>gdh G (match t w ρ with
  |none=>no
  |some r=>bd (g r) fun x=>match x with
   |.nx r'=>forM G t g l r'
   |.ct r'=>forM G t g l r'
   |.bk r'=>pr (.nx r')
   |.rt v=>pr (.rt v))
def sFor (src:Env'->M Sr)(t:W->Env'->Option Env')(g:Env'->M Fl):Env'->M Fl:=fun ρ=>bd (src ρ) fun s=>forM s.G t g s.l ρ
theorem dF {tg iter:Expr}{body:List Stmt}{src:Env'->M Sr}{t:W->Env'->Option Env'}{gT:TG}{g:Env'->M Fl}{m:Nat}(hp:PassesOwn (model X.prog X.w) X.A X.env X.xe)(hc:X.calm=true)(hi:JI X E tg iter src)(hg:PG X tg gT)(ht:TgOk X.K m gT t)(hb:JSs X E body g)
  (hs: ∀x,foldedSetIterable iter X.env x=pure x:=by intro _;rfl):JS X E (.For tg iter body [] pos) (sFor src t g):=(zE hp hc hi.h hg hb.h hs).imp fun D σ H h=>by
 obtain⟨o,ρ,rfl,R,S,h⟩:=h
 refine⟨o,ρ,rfl,R,S,Ps.bd h fun o1 s J e1 R1 sk h1=>?_⟩
 refine⟨fun i n σ H=>n=s.l.length - i/\i<=s.l.length/\ ∃o ρ,o.H=H/\Ex o1 o/\Rel X.K o/\Re X.K o ρ σ/\Ps (cg X E) (RFl X.K) o (forM s.G t g (s.l.drop i) ρ o.h) (DQ D),⟨_,rfl,Nat.zero_le _,o1,ρ,rfl,Ex.refl _,R1,S.mono R e1,h1⟩,?_⟩
 rintro i n σ H ⟨rfl,hi,o,ρ,rfl,X1,R,S,h⟩
 by_cases hlt:i<s.l.length
 ·obtain⟨w,hw⟩: ∃w,s.l[i]?=some w:=⟨_,List.getElem?_eq_getElem hlt⟩
  have hd:s.l.drop i=w::s.l.drop (i+1):=by
   rw[List.drop_eq_getElem_cons hlt]
   rw[List.getElem?_eq_getElem hlt] at hw
   rw[Option.some.inj hw]
  rw[hd] at h
  unfold forM at h
  obtain⟨hG,h⟩:=h.gdh
  obtain⟨hgo,hy⟩:=sk.go o i w X1 R hG hw
  refine .inr ⟨hgo,fun σ' H'=> ∃o ρ,o.H=H'/\Ex o1 o/\Rel X.K o/\Re X.K o ρ σ'/\Ps (cg X E) (RFl X.K) o (forM s.G t g (s.l.drop (i+1)) ρ o.h) (DQ D),fun σ' H' q=>⟨_,by omega,rfl,hlt,q⟩,fun x H' y=>?_⟩
  obtain⟨p,rfl,eh,X2,R2,rv⟩:=hy x H' y
  cases et:t w ρ with
  |none=>rw[et] at h;exact h.elim
  |some r=>
   rw[et] at h
   obtain⟨σ2,k1,k2,_,_⟩:=ht.ok p w x ρ r σ rv (S.mono R X2) et
   refine k1 _ ?_
   have h2:Ps (cg X E) (RFl X.K) p (bd (g r) (fun x=>match x with
    |.nx r'=>forM s.G t g (s.l.drop (i+1)) r'
    |.ct r'=>forM s.G t g (s.l.drop (i+1)) r'
    |.bk r'=>pr (.nx r')
    |.rt v=>pr (.rt v)) p.h) (DQ D):=by rw[eh];exact h.after X2
   refine⟨p,r,rfl,R2,k2,Ps.bd h2 fun q x b e3 R3 r3 h3=>?_⟩
   cases x with
   |nx r=>obtain⟨s',rfl,re⟩:=r3;exact⟨q,r,rfl,(X1.trans X2).trans e3,R3,re,h3⟩
   |ct r=>obtain⟨s',rfl,re⟩:=r3;exact⟨q,r,rfl,(X1.trans X2).trans e3,R3,re,h3⟩
   |bk r=>obtain⟨s',rfl,re⟩:=r3;exact h3.pr R3 (b:=.nx s') ⟨s',rfl,re⟩
   |rt w=>obtain⟨v,rfl,rv⟩:=r3;exact h3.pr R3 (b:=.rt v) ⟨v,rfl,rv⟩
 ·have e:i=s.l.length:=by omega
  subst e
  rw[List.drop_length] at h
  unfold forM at h
  obtain⟨hG,h⟩:=h.gdh
  exact .inl ⟨sk.stop o X1 R hG,Ps.pr (b:=FlV.nx σ) h R ⟨σ,rfl,S⟩⟩
end
end
section
section
variable {X:Cx}{E:XK}{pos:Pos}
theorem AY {l:Env'->M (List W)}{σ:St}{H:Hp}{Q:VK}(h:tM (cg X E) (mTl l) σ H Q):tF (cg X E) l σ H Q:=by
 obtain⟨o,ρ,rfl,R,S,h⟩:=h
 exact⟨o,ρ,rfl,R,S,Ps.bd h fun p x vx e1 R1 r1 h1=>fun q hq=>Ps.at (p:=⟨p.mu,p.h,upd p.H q (.lst vx)⟩) h1 rfl (Ex.new hq) (R1.new hq) (Rv.newL R1 hq r1)⟩
theorem zn {l:Env'->M (List W)}{σ:St}{H:Hp}{Q:VK}(h:tM (cg X E) (mNew l) σ H Q):tF (cg X E) l σ H Q:=by
 obtain⟨o,ρ,rfl,R,S,h⟩:=h
 refine⟨o,ρ,rfl,R,S,Ps.bd h fun p x vx e1 R1 r1 h1=>fun q hq=>?_⟩
 refine Ps.at (p:=p.add q (.lst x) (.lst vx)) h1 rfl (Ex.add hq) (R1.addL hq r1) ?_
 unfold Rv
 exact⟨by show _<(p.h++[_]).length;simp,by show V.ref q=V.ref (if p.h.length=p.h.length then q else _);rw[if_pos rfl]⟩
theorem u7 {i:Nat}{f:Env'->M W}{D:Ends}{σ:St}{H:Hp}(h:tS (cg X E) (sSet i f) D σ H):tAsg (tM (cg X E) f) (gName i) D σ H:=by
 obtain⟨o,ρ,rfl,R,S,h⟩:=h
 exact⟨o,ρ,rfl,R,S,Ps.bd h fun p x b e1 R1 r1 h1=>Ps.pr (b:=FlV.nx (σ.set i (some b))) h1 R1 ⟨_,rfl,(S.mono R e1).set r1 i⟩⟩
def compM (G:List Ob->Prop)(t:W->Env'->Option Env')(f:Env'->M Bool)(e:Env'->M W)(n:Nat):List W->Env'->M (List W)
 |[],ρ=>gdh G (pr [])
 |w::l,ρ=>gdh G (match t w (List.replicate n none++ρ) with
  |none=>no
  |some r=>bd (f r) fun b=>if b=true then bd (e r) fun x=>bd (compM G t f e n l ρ) fun m=>pr (x::m) else compM G t f e n l ρ)
def mComp (hs:List Nat)(src:Env'->M Sr)(t:W->Env'->Option Env')(f:Env'->M Bool)(e:Env'->M W)(n:Nat):Env'->M (List W):=fun ρ=>
 gd ((hs.all fun i=>(ρ[i]?.join).isNone)=true) (bd (src ρ) fun s=>gd (s.l.length<=sizeLine) (compM s.G t f e n s.l ρ))
variable {elt iter tg:Expr}{ifs:List Expr}{scope:Scope}{ls:List Str}{gT:TG}{t:W->Env'->Option Env'}{f:Env'->M Bool}{e:Env'->M W}{src:Env'->M Sr}{hs:List Nat}{wh:Prop}
theorem ou (ht:TgOk X.K ls.length gT t){σ:St}{H:Hp}{Q:VK}(h:tF (cg X E) (mComp hs src t f e ls.length) σ H Q):tComp X.N ls (tI (cg X E) src) gT (tT (cg X E) f) (tM (cg X E) e) σ H Q:=by
 obtain⟨o,ρ,rfl,R,S,h⟩:=h
 unfold mComp at h
 obtain⟨h0,h⟩:=h.gd
 refine⟨rfl,o,ρ,rfl,R,S,Ps.bd h fun o1 s J e1 R1 sk h1=>?_⟩
 obtain⟨hz,h1⟩:=h1.gd
 have S1:=S.mono R e1
 refine⟨fun i n ys H=>n=s.l.length - i/\i<=s.l.length/\ ∃o acc,o.H=H/\Ex o1 o/\Rel X.K o/\Rvs X.K o acc ys/\acc.length<=i/\Ps (cg X E) (Rvs X.K) o (bd (compM s.G t f e ls.length (s.l.drop i) ρ) (fun m=>pr (acc++m)) o.h) (fun vs H1=> ∀q,H1 q=none->Q (.ref q) (upd H1 q (.lst vs))),
  ⟨_,rfl,Nat.zero_le _,o1,[],rfl,Ex.refl _,R1,Rvs.nil,Nat.le_refl _,?_⟩,?_⟩
 ·have:bd (compM s.G t f e ls.length (s.l.drop 0) ρ) (fun m=>pr ([]++m))=compM s.G t f e ls.length s.l ρ:=by
   funext h
   rw[List.drop_zero]
   unfold bd
   cases compM s.G t f e ls.length s.l ρ h<;>rfl
  rw[this];exact h1
 rintro i n ys H ⟨rfl,hi,o,acc,rfl,X1,R,A,ha,h⟩
 have S2:=S1.mono R1 X1
 have gs: ∀ {α β γ:Type}{r:Wo->β->γ->Prop}{m:M α}{k:α->M β}{Q':γ->Hp->Prop},Ps (cg X E) r o (bd (gdh s.G m) k o.h) Q'->s.G o.h/\Ps (cg X E) r o (bd m k o.h) Q':=fun{α β γ r m k Q'} q=>by
  have:bd (gdh s.G m) k o.h=gdh s.G (bd m k) o.h:=by
   unfold bd L2.gdh
   by_cases z:s.G o.h
   ·simp only[if_pos z]
   ·simp only[if_neg z]
  rw[this] at q
  exact q.gdh
 by_cases hlt:i<s.l.length
 ·obtain⟨w,hw⟩: ∃w,s.l[i]?=some w:=⟨_,List.getElem?_eq_getElem hlt⟩
  have hd:s.l.drop i=w::s.l.drop (i+1):=by
   rw[List.drop_eq_getElem_cons hlt]
   rw[List.getElem?_eq_getElem hlt] at hw
   rw[Option.some.inj hw]
  rw[hd] at h
  unfold compM at h
  obtain⟨hG,h⟩:=gs h
  obtain⟨hgo,hy⟩:=sk.go o i w X1 R hG hw
  refine .inr ⟨hgo,fun ys' H'=> ∃o acc,o.H=H'/\Ex o1 o/\Rel X.K o/\Rvs X.K o acc ys'/\acc.length<=i+1/\Ps (cg X E) (Rvs X.K) o (bd (compM s.G t f e ls.length (s.l.drop (i+1)) ρ) (fun m=>pr (acc++m)) o.h) (fun vs H1=> ∀q,H1 q=none->Q (.ref q) (upd H1 q (.lst vs))),fun ys' H' q=>⟨_,by omega,rfl,hlt,q⟩,fun x H' y=>?_⟩
  obtain⟨p,rfl,eh,X2,R2,rv⟩:=hy x H' y
  cases et:t w (List.replicate ls.length none++ρ) with
  |none=>rw[et] at h;exact h.elim
  |some r=>
   rw[et] at h
   obtain⟨σ2,k1,k2,k3,k4⟩:=ht.ok p w x _ r (List.replicate ls.length none++σ) rv ((S2.mono R X2).front _) et
   refine k1 _ ⟨?_,?_,?_⟩
   ·rw[k3,List.drop_left' (by rw[List.length_replicate])]
   ·rw[k4,List.length_append,List.length_replicate]
   have h2:Ps (cg X E) (Rvs X.K) p (bd (f r) (fun b=>bd (if b=true then bd (e r) fun x=>bd (compM s.G t f e ls.length (s.l.drop (i+1)) ρ) fun m=>pr (x::m) else compM s.G t f e ls.length (s.l.drop (i+1)) ρ) fun m=>pr (acc++m)) p.h) (fun vs H1=> ∀q,H1 q=none->Q (.ref q) (upd H1 q (.lst vs))):=by
    rw[eh]
    rw[aa] at h
    exact h.after X2
   refine⟨p,r,rfl,R2,k2,Ps.bd h2 fun q b vb e3 R3 r3 h3=>?_⟩
   subst r3
   have A3:=(A.mono R X2).mono R2 e3
   cases b with
   |false=>
    exact iteF ⟨q,acc,rfl,(X1.trans X2).trans e3,R3,A3,by omega,h3⟩
   |true=>
    rw[if_pos rfl,aa] at h3
    refine iteT ⟨q,r,rfl,R3,k2.mono R2 e3,Ps.bd h3 fun q2 x vx e4 R4 r4 h4=>⟨?_,q2,acc++[x],rfl,((X1.trans X2).trans e3).trans e4,R4,(A3.mono R3 e4).app (Rvs.cons r4 Rvs.nil),?_,?_⟩⟩
    ·rw[(A3.mono R3 e4).len];omega
    ·rw[List.length_append,List.length_singleton];omega
    ·rw[aa] at h4
     have ee:(fun m=>bd (pr (x::m)) fun m=>pr (acc++m))=(fun m:List W=>(pr (acc++[x]++m):M (List W))):=by
      funext m h
      show Rs.ok (acc++(x::m)) h=Rs.ok (acc++[x]++m) h
      rw[List.append_assoc];rfl
     rw[ee] at h4
     exact h4
 ·have ei:i=s.l.length:=by omega
  subst ei
  rw[List.drop_length] at h
  unfold compM at h
  obtain⟨hG,h⟩:=gs h
  have h:Ps (cg X E) (Rvs X.K) o (pr (acc++[]) o.h) (fun vs H1=> ∀q,H1 q=none->Q (.ref q) (upd H1 q (.lst vs))):=h
  rw[List.append_nil] at h
  exact .inl ⟨sk.stop o X1 R hG,h.pr R A⟩
structure JQ (X:Cx)(E:XK)(ifs:List Expr)(f:Env'->M Bool):Prop where
 h:PIfs X ifs (tT (cg X E) f)
def mYes:Env'->M Bool:=fun _=>pr true
theorem iy:JQ X E [] mYes:=⟨fun pins s σ H Q I h=>oM pins s σ H Q I (by
 obtain⟨o,ρ,rfl,R,S,h⟩:=h
 exact Ps.pr (b:=true) h R rfl)⟩
theorem sW {c:Expr}(h:JT X E c f):JQ X E [c] f:=⟨xO h.h⟩
theorem iz (hcalm:X.calm=true)(S:CScope X ls scope)(hi:JI X E tg iter src)(hg: ∀C s2 H2 fp,PG (cxC X ls scope C s2 H2 fp) tg gT)(ht:TgOk X.K ls.length gT t)
  (hf: ∀C s2 H2 fp,JQ (cxC X ls scope C s2 H2 fp) E ifs f)(he: ∀C s2 H2 fp,JE (cxC X ls scope C s2 H2 fp) E elt e)(hh:wh)
  (hs': ∀x,foldedSetIterable iter X.env x=pure x:=by intro _;rfl):JF X E (.ListComp elt [⟨tg,iter,ifs,0⟩] scope pos) (mComp hs src t f e ls.length):=
 (oN hcalm S hi.h hg (fun C s2 H2 fp=>(hf C s2 H2 fp).h) (fun C s2 H2 fp=>(he C s2 H2 fp).h) hs').impF fun σ H Q h=>ou ht h
theorem wj {i:Nat}{x:Str}{px spos:Pos}(hN:X.N.Nodup)(hx1:X.N[i]?=some x)(hx:X.env.scope.names.lookup x=some .local)(hcalm:X.calm=true)(S:CScope X ls scope)(hi:JI X E tg iter src)(hg: ∀C s2 H2 fp,PG (cxC X ls scope C s2 H2 fp) tg gT)(ht:TgOk X.K ls.length gT t)
  (hf: ∀C s2 H2 fp,JQ (cxC X ls scope C s2 H2 fp) E ifs f)(he: ∀C s2 H2 fp,JE (cxC X ls scope C s2 H2 fp) E elt e)(hh:wh)
  (hsw:swapsWith (.ListComp elt [⟨tg,iter,ifs,0⟩] scope pos) (some (.Name x px)) spos.line X.env=pure true:=by rfl)
  (hs': ∀x,foldedSetIterable iter X.env x=pure x:=by intro _;rfl):JS X E (.Assign [.Name x px] (.ListComp elt [⟨tg,iter,ifs,0⟩] scope pos) spos) (sSet i (mTl (mComp hs src t f e ls.length))):=
 (mj hN hx1 hx hcalm S hi.h hg (fun C s2 H2 fp=>(hf C s2 H2 fp).h) (fun C s2 H2 fp=>(he C s2 H2 fp).h) hsw hs').imp fun D σ H h=>ou ht (AY (u7 h))
theorem uv {i:Nat}{x:Str}{px spos:Pos}(hN:X.N.Nodup)(hx1:X.N[i]?=some x)(hx:X.env.scope.names.lookup x=some .local)(hcalm:X.calm=true)(S:CScope X ls scope)(hi:JI X E tg iter src)(hg: ∀C s2 H2 fp,PG (cxC X ls scope C s2 H2 fp) tg gT)(ht:TgOk X.K ls.length gT t)
  (hf: ∀C s2 H2 fp,JQ (cxC X ls scope C s2 H2 fp) E ifs f)(he: ∀C s2 H2 fp,JE (cxC X ls scope C s2 H2 fp) E elt e)(hh:wh)
  (hsw:swapsWith (.ListComp elt [⟨tg,iter,ifs,0⟩] scope pos) (some (.Name x px)) spos.line X.env=pure true:=by rfl)
  (hs': ∀x,foldedSetIterable iter X.env x=pure x:=by intro _;rfl):JS X E (.Assign [.Name x px] (.ListComp elt [⟨tg,iter,ifs,0⟩] scope pos) spos) (sSet i (mNew (mComp hs src t f e ls.length))):=
 (mj hN hx1 hx hcalm S hi.h hg (fun C s2 H2 fp=>(hf C s2 H2 fp).h) (fun C s2 H2 fp=>(he C s2 H2 fp).h) hsw hs').imp fun D σ H h=>ou ht (zn (u7 h))
end
end
section
section
variable {X:Cx}{E:XK}{pos p:Pos}{a b:Expr}{l:Env'->M (List W)}
theorem Rvs.one {K:PySem.W.Frag}{o:Wo}{w:W}{vs:List V}(h:Rvs K o [w] vs): ∃v,vs=[v]/\Rv K o w v:=by
 unfold Rvs Rvs at h;obtain⟨v,r,rfl,h1,rfl⟩:=h;exact⟨v,rfl,h1⟩
theorem Rvs.two {K:PySem.W.Frag}{o:Wo}{w x:W}{vs:List V}(h:Rvs K o [w,x] vs): ∃v u,vs=[v,u]/\Rv K o w v/\Rv K o x u:=by
 unfold Rvs Rvs Rvs at h;obtain⟨v,r,rfl,h1,u,r2,rfl,h2,rfl⟩:=h;exact⟨v,u,rfl,h1,h2⟩
def lenW (ws:List W):M W:=match ws with
 |[.str z]=>gd (z.length<=sizeLine) (pr (.int z.length))
 |[.tup l]=>pr (.int l.length)
 |[w]=>bd (lstOf w) fun l=>pr (.int l.length)
 |_=>no
theorem AL:CallM X E (fun xs H Q=>(fun xs H Q=> ∃z,xs=[.str z]/\z.length<=sizeLine/\Q (.int z.length) H) xs H Q\/(fun xs H Q=> ∃p ys,xs=[.ref p]/\(SqL X.K H p ys\/SqT X.K H p ys)/\Q (.int ys.length) H) xs H Q) lenW:=by
 intro o ws vs Q R rv h
 unfold lenW at h
 split at h
 ·obtain⟨v,rfl,r⟩:=rv.one
  obtain⟨hz,h⟩:=h.gd
  exact .inl ⟨_,by rw[rv_str.mp r],hz,h.pr R (rv_int.mpr rfl)⟩
 ·obtain⟨v,rfl,r⟩:=rv.one
  unfold Rv at r
  obtain⟨a,us,rfl,s,r⟩:=r
  exact .inr ⟨a,us,rfl,.inr s,by rw[r.len];exact h.pr R (rv_int.mpr rfl)⟩
 ·obtain⟨v,rfl,r⟩:=rv.one
  obtain⟨l,a,us,rfl,s,r,h⟩:=g8 R r h
  exact .inr ⟨a,us,rfl,.inl s,by rw[r.len];exact h.pr R (rv_int.mpr rfl)⟩
 ·exact h.elim
theorem cr (hm:X.mg "len"=none)(ha:JA X E [a] l)(hg:Gl X "len":=by rfl)(he:starEach [a] X.env=(false,eval a X.env)::starEach [] X.env:=by rfl)(hpl:(backTo pos (starEach [] X.env)).any (·.1)=false:=by rfl):JE X E (.Call (.Name "len" p) [a] [] pos) (mCall lenW l):=
 kn (call_len_str.or pI) AL hg hm PySem.boot_len ha (he:=he) (hpl:=hpl)
def intW (ws:List W):M W:=match ws with
 |[.int i]=>pr (.int i)
 |[.bl k]=>pr (.int (if k then 1 else 0))
 |[.str z]=>match PySem.intText? z with
  |some n=>gd (z.length<=640) (pr (.int n))
  |none=>no
 |_=>no
theorem AM:CallM X E (fun xs H Q=>((∃i,xs=[.int i]/\Q (.int i) H)\/ ∃k,xs=[.bl k]/\Q (.int (if k then 1 else 0)) H)\/(fun xs H Q=> ∃ (z:Str) (n:Int),xs=[.str z]/\PySem.intText? z=some n/\z.length<=640/\Q (.int n) H) xs H Q) intW:=by
 intro o ws vs Q R rv h
 unfold intW at h
 split at h
 ·obtain⟨v,rfl,r⟩:=rv.one
  exact .inl (.inl ⟨_,by rw[rv_int.mp r],h.pr R (rv_int.mpr rfl)⟩)
 ·obtain⟨v,rfl,r⟩:=rv.one
  exact .inl (.inr ⟨_,by rw[rv_bl.mp r],h.pr R (rv_int.mpr rfl)⟩)
 ·obtain⟨v,rfl,r⟩:=rv.one
  rename_i z
  cases hn:PySem.intText? z with
  |some n=>
   rw[hn] at h
   obtain⟨hz,h⟩:=h.gd
   exact .inr ⟨_,n,by rw[rv_str.mp r],hn,hz,h.pr R (rv_int.mpr rfl)⟩
  |none=>rw[hn] at h;exact h.elim
 ·exact h.elim
theorem yi (hm:X.mg "int"=none)(ha:JA X E [a] l)(hg:Gl X "int":=by rfl)(he:starEach [a] X.env=(false,eval a X.env)::starEach [] X.env:=by rfl)(hpl:(backTo pos (starEach [] X.env)).any (·.1)=false:=by rfl):JE X E (.Call (.Name "int" p) [a] [] pos) (mCall intW l):=
 lg (call_int1.or kB) AM hg hm PyProof.Rows.boot_int ha (he:=he) (hpl:=hpl)
def strW (ws:List W):M W:=match ws with
 |[.int i]=>gd (i.natAbs.log2<1920) (pr (.str (toString i)))
 |[.str z]=>pr (.str z)
 |_=>no
theorem AK:CallM X E (fun xs H Q=>(fun xs H Q=> ∃i,xs=[.int i]/\i.natAbs.log2<1920/\Q (.str (toString i)) H) xs H Q\/(fun xs H Q=> ∃ (z:Str),xs=[.str z]/\Q (.str z) H) xs H Q) strW:=by
 intro o ws vs Q R rv h
 unfold strW at h
 split at h
 ·obtain⟨v,rfl,r⟩:=rv.one
  obtain⟨hz,h⟩:=h.gd
  exact .inl ⟨_,by rw[rv_int.mp r],hz,h.pr R (rv_str.mpr rfl)⟩
 ·obtain⟨v,rfl,r⟩:=rv.one
  exact .inr ⟨_,by rw[rv_str.mp r],h.pr R (rv_str.mpr rfl)⟩
 ·exact h.elim
theorem o9 (hm:X.mg "str"=none)(ha:JA X E [a] l)(hg:Gl X "str":=by rfl)(he:starEach [a] X.env=(false,eval a X.env)::starEach [] X.env:=by rfl)(hpl:(backTo pos (starEach [] X.env)).any (·.1)=false:=by rfl):JE X E (.Call (.Name "str" p) [a] [] pos) (mCall strW l):=
 lg (call_str_int.or pG) AK hg hm PyProof.Rows.boot_str ha (he:=he) (hpl:=hpl)
def absW (ws:List W):M W:=match ws with
 |[.int i]=>pr (.int (if i<0 then -i else i))
 |_=>no
theorem pf (hm:X.mg "abs"=none)(ha:JA X E [a] l)(hg:Gl X "abs":=by rfl)(he:starEach [a] X.env=(false,eval a X.env)::starEach [] X.env:=by rfl)(hpl:(backTo pos (starEach [] X.env)).any (·.1)=false:=by rfl):JE X E (.Call (.Name "abs" p) [a] [] pos) (mCall absW l):=
 kn xf (fun o ws vs Q R rv h=>by
  unfold absW at h
  split at h
  ·obtain⟨v,rfl,r⟩:=rv.one
   exact⟨_,by rw[rv_int.mp r],h.pr R (rv_int.mpr rfl)⟩
  ·exact h.elim) hg hm PyProof.Rows.boot_abs ha (he:=he) (hpl:=hpl)
def maxW (ws:List W):M W:=match ws with
 |[.int i,.int j]=>pr (.int (if j>i then j else i))
 |_=>no
def minW (ws:List W):M W:=match ws with
 |[.int i,.int j]=>pr (.int (if j<i then j else i))
 |_=>no
theorem Ao (hc:X.calm=true)(hm:X.mg "min"=none)(ha:JA X E [a,b] l)(hg:Gl X "min":=by rfl)(he:starEach [a,b] X.env=(false,eval a X.env)::starEach [b] X.env:=by rfl)(hpl:(backTo pos (starEach [b] X.env)).any (·.1)=false:=by rfl):JE X E (.Call (.Name "min" p) [a,b] [] pos) (mCall minW l):=
 kn (uS hc) (fun o ws vs Q R rv h=>by
  unfold minW at h
  split at h
  ·obtain⟨v,u,rfl,r1,r2⟩:=rv.two
   exact⟨_,_,by rw[rv_int.mp r1,rv_int.mp r2],h.pr R (rv_int.mpr rfl)⟩
  ·exact h.elim) hg hm PyProof.Rows.boot_min ha (he:=he) (hpl:=hpl)
noncomputable def iOf:W->Option Int
 |.int i=>some i
 |_=>none
noncomputable def sOf:W->Option Str
 |.str i=>some i
 |_=>none
theorem oO {K:PySem.W.Frag}{o:Wo}{α:Type}{f:W->Option α}{g:α->V}(hf: ∀w a v,f w=some a->Rv K o w v->v=g a): ∀ {l:List W}{xs:List α}{vs:List V},optL f l=some xs->Rvs K o l vs->vs=xs.map g
 |[],xs,vs,e,h=>by unfold Rvs at h;cases e;exact h
 |w::l,xs,vs,e,h=>by
  unfold Rvs at h
  obtain⟨v,r,rfl,h1,h2⟩:=h
  unfold optL at e
  split at e
  ·rename_i d ds e1 e2
   cases e
   rw[hf w d v e1 h1,oO hf e2 h2];rfl
  ·cases e
theorem vq {K:PySem.W.Frag}{o:Wo}: ∀ (w:W) (a:Str) (v:V),sOf w=some a->Rv K o w v->v=.str a:=fun w a v e h=>by
 cases w<;>first|(cases e;exact rv_str.mp h)|cases e
def kH (ws:List W):M W:=match ws with
 |[.tup l]=>pr (.tup l)
 |[w]=>bd (lstOf w) fun l=>pr (.tup l)
 |_=>no
theorem mS (hm:X.mg "tuple"=none)(ha:JA X E [a] l)(hg:Gl X "tuple":=by rfl)(he:starEach [a] X.env=(false,eval a X.env)::starEach [] X.env:=by rfl)(hpl:(backTo pos (starEach [] X.env)).any (·.1)=false:=by rfl):JE X E (.Call (.Name "tuple" p) [a] [] pos) (mCall kH l):=
 lg nB (fun o ws vs Q R rv h=>by
  unfold kH at h
  split at h
  ·obtain⟨v,rfl,r⟩:=rv.one
   have r0:=r
   unfold Rv at r
   obtain⟨a,us,rfl,s,r⟩:=r
   exact⟨a,us,rfl,.inr ⟨s,h.pr R r0⟩⟩
  ·obtain⟨v,rfl,r⟩:=rv.one
   obtain⟨l,a,us,rfl,s,r,h⟩:=g8 R r h
   exact⟨a,us,rfl,.inl ⟨s,fun q hq=>j6 R hq r h⟩⟩
  ·exact h.elim) hg hm PyProof.Rows.boot_tuple ha (he:=he) (hpl:=hpl)
def listL (l:Env'->M (List W)):Env'->M (List W):=fun ρ=>bd (l ρ) fun ws=>match ws with
 |[.tup l]=>pr l
 |[w]=>lstOf w
 |_=>no
theorem wt {o:Wo}{w:W}{v:V}{Q:List V->Hp->Prop}(R:Rel X.K o)(hr:Rv X.K o w v)(h:Ps (cg X E) (Rvs X.K) o (lstOf w o.h) Q): ∃l a vs,v=.ref a/\SqL X.K o.H a vs/\Rvs X.K o l vs/\Q vs o.H:=by
 have e:lstOf w=bd (lstOf w) fun l=>pr l:=by
  funext h
  unfold bd
  cases lstOf w h<;>rfl
 rw[e] at h
 obtain⟨l,a,vs,e1,e2,e3,h⟩:=g8 R hr h
 exact⟨l,a,vs,e1,e2,e3,h.pr R e3⟩
theorem sY (hm:X.mg "list"=none)(ha:JA X E [a] l)(hg:Gl X "list":=by rfl)(he:starEach [a] X.env=(false,eval a X.env)::starEach [] X.env:=by rfl)(hpl:(backTo pos (starEach [] X.env)).any (·.1)=false:=by rfl):JF X E (.Call (.Name "list" p) [a] [] pos) (listL l):=
 (kQ pH hg hm PyProof.Rows.boot_list ha.h (he:=he) (hpl:=hpl)).impF fun σ H Q h=>by
  obtain⟨o,ρ,rfl,R,S,h⟩:=h
  refine⟨o,ρ,rfl,R,S,Ps.bd h fun p x vx e1 R1 r1 h1=>?_⟩
  split at h1
  ·obtain⟨v,rfl,r⟩:=r1.one
   unfold Rv at r
   obtain⟨a,us,rfl,s,r⟩:=r
   exact⟨a,us,rfl,.inr s,h1.pr R1 r⟩
  ·obtain⟨v,rfl,r⟩:=r1.one
   obtain⟨l,a,us,rfl,s,r,q⟩:=wt R1 r h1
   exact⟨a,us,rfl,.inl s,q⟩
  ·exact h1.elim
def isS (w:W):M W:=match w with
 |.str z=>pr (.str z)
 |_=>no
def joinW (x:W)(ws:List W):M W:=match x,ws with
 |.str sep,[w]=>bd (lstO w) fun l=>match optL sOf l with
  |some ts=>gd ((ts.map (·.length)).sum+ts.length * sep.length<=sizeLine) (pr (.str (Str.join sep ts)))
  |none=>no
 |_,_=>no
def mMeth (chk:W->M W)(f:W->List W->M W)(fo:Env'->M W)(l:Env'->M (List W)):Env'->M W:=fun ρ=>bd (fo ρ) fun x=>bd (chk x) fun x=>bd (l ρ) fun ws=>f x ws
variable {o e:Expr}{es:List Expr}{apos cpos:Pos}{fo:Env'->M W}
theorem sZ (ho:JE X E o fo)(ha:JA X E [e] l)(hbase:attributeBase o "join" X.env (eval o X.env)=eval o X.env:=by rfl)
  (hfew:((backTo cpos (starEach [e] X.env)).all (fun x=>!x.1) && (backToKw cpos (keywordEach [] X.env)).all (fun x=>x.1.isSome) && decide (([e]:List Expr).length+([]:List Keyword).length+(if ([]:List Keyword).isEmpty then 0 else 1)<30))=true:=by rfl)
  (hline:(apos.endLine==cpos.line)=true:=by rfl)(hs:starEach [e] X.env=(false,eval e X.env)::starEach [] X.env:=by rfl)(hplain:(backTo cpos (starEach [] X.env)).any (·.1)=false:=by rfl):
  JE X E (.Call (.Attribute o "join" apos) [e] [] cpos) (mMeth isS joinW fo l):=
 (qg PySem.F.plainAttrs_str PySem.F.slot_str_join PySem.F.type_str_join yg ho.h ha.h hbase hfew hline hs hplain).imp fun σ H Q h=>by
  obtain⟨w,ρ,rfl,R,S,h⟩:=h
  refine⟨w,ρ,rfl,R,S,Ps.bd h fun p x vx e1 R1 r1 h1=>?_⟩
  cases x with
  |str sep=>
   have h1:Ps (cg X E) (Rv X.K) p (bd (l ρ) (fun ws=>joinW (.str sep) ws) p.h) Q:=h1
   rw[rv_str.mp r1]
   refine⟨rfl,p,ρ,rfl,R1,S.mono R e1,Ps.bd h1 fun q ws vs e2 R2 r2 h2=>?_⟩
   rcases ws with _|⟨w',_|⟨_,_⟩⟩
   ·exact h2.elim
   ·have h2:Ps (cg X E) (Rv X.K) q (bd (lstO w') (fun l=>match optL sOf l with
     |some ts=>gd ((ts.map (·.length)).sum+ts.length * sep.length<=sizeLine) (pr (.str (Str.join sep ts)))
     |none=>no) q.h) Q:=h2
    obtain⟨v,rfl,r⟩:=r2.one
    obtain⟨l',a,us,rfl,s,r,h2⟩:=gg R2 r h2
    cases e:optL sOf l' with
    |none=>rw[e] at h2;exact h2.elim
    |some ts=>
     rw[e] at h2
     rw[oO vq e r] at s
     obtain⟨hz,h2⟩:=h2.gd
     exact⟨sep,a,ts,rfl,rfl,.of s,hz,h2.pr R2 (rv_str.mpr rfl)⟩
   ·exact h2.elim
  |_=>exact h1.elim
def isL (w:W):M W:=match w with
 |.loc k=>fun h=>match h[k]? with
  |some (.lst _)=>.ok (.loc k) h
  |_=>.bad
 |_=>no
theorem wH {α β:Type}{r:Wo->α->β->Prop}{o:Wo}{w:W}{v:V}{k:W->M α}{Q:β->Hp->Prop}(R:Rel X.K o)(hr:Rv X.K o w v)(h:Ps (cg X E) r o (bd (isL w) k o.h) Q):
  ∃j l vs,w=.loc j/\o.h[j]?=some (.lst l)/\v=.ref (o.mu j)/\j<o.h.length/\o.H (o.mu j)=some (.lst vs)/\Rvs X.K o l vs/\Ps (cg X E) r o (k (.loc j) o.h) Q:=by
 cases w with
 |loc j=>
  unfold Rv at hr
  unfold isL bd at h
  cases e:o.h[j]? with
  |none=>simp only[e] at h;exact h.elim
  |some b=>
   cases b with
   |lst l=>
    simp only[e] at h
    obtain⟨vs,h1,h2⟩:=R.ob j _ e
    exact⟨j,l,vs,rfl,e,hr.2,hr.1,h1,h2,h⟩
   |_=>simp only[e] at h;exact h.elim
 |_=>exact h.elim
def bP (x:W)(ws:List W):M W:=match x,ws with
 |.loc k,[w]=>fun h=>match h[k]? with
  |some (.lst l)=>if l.length<sizeLine then .ok .non (h.set k (.lst (l++[w]))) else .bad
  |_=>.bad
 |_,_=>no
theorem cb (ho:JE X E o fo)(ha:JA X E [e] l)(hbase:attributeBase o "append" X.env (eval o X.env)=eval o X.env:=by rfl)
  (hfew:((backTo cpos (starEach [e] X.env)).all (fun x=>!x.1) && (backToKw cpos (keywordEach [] X.env)).all (fun x=>x.1.isSome) && decide (([e]:List Expr).length+([]:List Keyword).length+(if ([]:List Keyword).isEmpty then 0 else 1)<30))=true:=by rfl)
  (hline:(apos.endLine==cpos.line)=true:=by rfl)(hs:starEach [e] X.env=(false,eval e X.env)::starEach [] X.env:=by rfl)(hplain:(backTo cpos (starEach [] X.env)).any (·.1)=false:=by rfl):
  JE X E (.Call (.Attribute o "append" apos) [e] [] cpos) (mMeth isL bP fo l):=
 (qg PySem.F.plainAttrs_list PySem.F.slot_list_append PySem.F.type_list_append uu ho.h ha.h hbase hfew hline hs hplain).imp fun σ H Q h=>by
  obtain⟨w,ρ,rfl,R,S,h⟩:=h
  refine⟨w,ρ,rfl,R,S,Ps.bd h fun p x vx e1 R1 r1 h1=>?_⟩
  obtain⟨j,l0,vs0,rfl,hj,rfl,hlt,hH,hl0,h1⟩:=wH R1 r1 h1
  refine⟨.inl ⟨rfl,vs0,.of hH⟩,p,ρ,rfl,R1,S.mono R e1,Ps.bd h1 fun q ws vs e2 R2 r2 h2=>?_⟩
  rcases ws with _|⟨w',_|⟨_,_⟩⟩
  ·exact h2.elim
  ·unfold bP at h2
   cases e:q.h[j]? with
   |none=>simp only[e] at h2;exact h2.elim
   |some b=>
    cases b with
    |lst l'=>
     simp only[e] at h2
     obtain⟨v,rfl,r⟩:=r2.one
     obtain⟨us,k1,k2⟩:=R2.ob j _ e
     by_cases z:l'.length<sizeLine
     ·rw[if_pos z] at h2
      rw[e2.mu j hlt] at k1
      refine⟨p.mu j,us,v,rfl,rfl,k1,by rw[k2.len];exact z,?_⟩
      have:=Ps.at (p:=q.put j (.lst (l'++[w'])) (.lst (us++[v]))) (b:=V.non) h2 rfl (Ex.put e (by simp)) (R2.putL e (by simp) (k2.app (Rvs.cons r Rvs.nil))) (rv_non.mpr rfl)
      have em:q.mu j=p.mu j:=e2.mu j hlt
      have ew:(q.put j (.lst (l'++[w'])) (.lst (us++[v]))).H=upd q.H (p.mu j) (.lst (us++[v])):=by
       show upd q.H (q.mu j) _=_
       rw[em]
      rw[ew] at this
      exact this
     ·rw[if_neg z] at h2;exact h2.elim
    |_=>simp only[e] at h2;exact h2.elim
  ·exact h2.elim
def iceW (w:W):M W:=match w with
 |.loc k=>fun h=>match h[k]? with
  |some (.lst l)=>.ok (.tl l) (h.set k .gone)
  |some (.dic ks ws)=>.ok (.dv ks ws) (h.set k .gone)
  |some (.din b ks ws)=>.ok (.dn b ks ws) (h.set k .gone)
  |_=>.bad
 |w=>pr w
theorem zo {f:Env'->M W}{σ:St}{H:Hp}{Q:VK}(h:tM (cg X E) (m1 iceW f) σ H Q):tM (cg X E) f σ H Q:=by
 obtain⟨o,ρ,rfl,R,S,h⟩:=h
 refine⟨o,ρ,rfl,R,S,Ps.bd h fun p x vx e1 R1 r1 h1=>?_⟩
 cases x with
 |loc k=>
  unfold Rv at r1
  obtain⟨_,rfl⟩:=r1
  unfold iceW at h1
  dsimp only at h1
  split at h1
  ·rename_i l hl
   exact Ps.at (p:=p.ice k) h1 rfl Ex.ice R1.ice (Rv.iceL R1 hl)
  ·rename_i ks ws hl
   exact Ps.at (p:=p.ice k) h1 rfl Ex.ice R1.ice (Rv.iceD R1 hl)
  ·rename_i b ks ws hl
   exact Ps.at (p:=p.ice k) h1 rfl Ex.ice R1.ice (Rv.iceN R1 hl)
  ·exact h1.elim
 |_=>exact Ps.pr (c:=cg X E) h1 R1 r1
theorem jY {f:Env'->M W}{e:Expr}(h:JE X E e f):JE X E e (m1 iceW f):=h.h.imp fun _ _ _ q=>zo q
noncomputable def mapAt {κ:Type} [DecidableEq κ]:List κ->List W->κ->W->List W
 |k::ks,w::ws,x,y=>(if k=x then y else w)::mapAt ks ws x y
 |_,_,_,_=>[]
def putW {κ:Type} [DecidableEq κ] (ks:List κ)(ws:List W)(x:κ)(y:W):List κ×List W:=if (ks.any fun k=>decide (k=x))=true then (ks,mapAt ks ws x y) else (ks++[x],ws++[y])
def oy (x i v:W):M Unit:=match x with
 |.loc k=>fun h=>match h[k]? with
  |some (.lst l)=>match i with
   |.int n=>match ixN l.length n with
    |some j=>.ok () (h.set k (.lst (l.set j v)))
    |none=>.bad
   |_=>.bad
  |some (.dic ks ws)=>match keyOf i with
   |some q=>if ks.length<sizeLine then .ok () (h.set k (.dic (putW ks ws q v).1 (putW ks ws q v).2)) else .bad
   |none=>.bad
  |some (.dit ks ws)=>match i with
   |.kt q=>if ks.length<sizeLine then .ok () (h.set k (.dit (putW ks ws q v).1 (putW ks ws q v).2)) else .bad
   |_=>.bad
  |_=>.bad
 |_=>no
def rSetD:TSet:=fun o i v H Q=> ∃a H',o=.ref a/\DPut H a i v H'/\Q H'
theorem vm (hu:X.A.units+1<cLine):PSet X rSetD:=by
 intro pins s σ H o i v ov iv u Q I ro ri rv h
 obtain⟨a,H',rfl,g,q⟩:=h
 cases ro
 exact uN hu I g ri rv fun s4 I4=>⟨H',I4,q⟩
theorem PSet.or {t t':TSet}(h:PSet X t)(h':PSet X t'):PSet X (fun o i v H Q=>t o i v H Q\/t' o i v H Q):=by
 intro pins s σ H o i v ov iv u Q I ro ri rv q
 rcases q with q|q
 ·exact h pins s σ H o i v ov iv u Q I ro ri rv q
 ·exact h' pins s σ H o i v ov iv u Q I ro ri rv q
theorem qw {κ:Type} [DecidableEq κ] {K:PySem.W.Frag}{o:Wo}{x:κ}{y:W}{v:V}(hy:Rv K o y v): ∀ {ks:List κ}{ws:List W}{kvs:List (κ×V)},kvs.map (·.1)=ks->Rvs K o ws (kvs.map (·.2))->Rvs K o (mapAt ks ws x y) ((kvs.map fun kv=>if kv.1=x then (kv.1,v) else kv).map (·.2))
 |_,ws,[],e,h=>by subst e;unfold mapAt;exact Rvs.nil
 |_,ws,(k,u)::r,e,h=>by
  subst e
  cases ws with
  |nil=>unfold Rvs at h;cases h
  |cons w ws=>
   unfold Rvs at h
   obtain⟨u',r',e',h1,h2⟩:=h
   cases e'
   have ih:=qw (x:=x) hy (ks:=r.map (·.1)) (ws:=ws) (kvs:=r) rfl h2
   show Rvs K o ((if k=x then y else w)::mapAt (r.map (·.1)) ws x y) ((if k=x then (k,v) else (k,u)).2::_)
   by_cases z:k=x
   ·rw[if_pos z,if_pos z];exact Rvs.cons hy ih
   ·rw[if_neg z,if_neg z];exact Rvs.cons h1 ih
theorem sK {κ:Type} [DecidableEq κ] {K:PySem.W.Frag}{o:Wo}{x:κ}{y:W}{v:V}{ks:List κ}{ws:List W}{kvs:List (κ×V)}(hy:Rv K o y v)(hk:kvs.map (·.1)=ks)(h:Rvs K o ws (kvs.map (·.2))):
  (putK kvs x v).map (·.1)=(putW ks ws x y).1/\Rvs K o (putW ks ws x y).2 ((putK kvs x v).map (·.2)):=by
 subst hk
 have ea:((kvs.map (·.1)).any fun k=>decide (k=x))=(kvs.any fun kv=>decide (kv.1=x)):=by rw[List.any_map];rfl
 unfold putK putW
 rw[ea]
 by_cases z:(kvs.any fun kv=>decide (kv.1=x))=true
 ·rw[if_pos z,if_pos z]
  refine⟨?_,qw hy rfl h⟩
  rw[List.map_map]
  refine List.map_congr_left fun kv _=>?_
  show (if kv.1=x then (kv.1,v) else kv).1=kv.1
  split<;>rfl
 ·rw[if_neg z,if_neg z]
  refine⟨by simp,?_⟩
  show Rvs K o (ws++[y]) ((kvs++[(x,v)]).map (·.2))
  rw[List.map_append]
  exact h.app (Rvs.cons hy Rvs.nil)
def de (fo fi fv:Env'->M W):Env'->M Fl:=fun ρ=>bd (fv ρ) fun v=>bd (fo ρ) fun x=>bd (fi ρ) fun i=>bd (oy x i v) fun _=>pr (.nx ρ)
variable {i value:Expr}{tpos:Pos}{fi fv:Env'->M W}
theorem wg (hu:X.A.units+1<cLine)(ho:JE X E o fo)(hi:JE X E i fi)(hv:JE X E value fv)
  (ha: ∀v,assign (.Subscript o i tpos) X.env v=(do
   let ov<-holding [v] (eval o X.env)
   let iv<-holding [v,ov] (eval i X.env)
   standAt tpos
   holding [v,ov,iv] (setItem ov iv v)
   release [v,ov,iv] []):=by intro _;rfl)
  (hs:swapsWithSole [.Subscript o i tpos] value pos.line X.env=pure false:=by rfl)(hw:swappedStores [.Subscript o i tpos] value X.env=pure none:=by rfl)
  (h1:(assignEach [.Subscript o i tpos] X.env).map (·.2)=[assign (.Subscript o i tpos) X.env]:=by rfl):JS X E (.Assign [.Subscript o i tpos] value pos) (de fo fi fv):=
 (zF hv.h (zL ho.h hi.h (set_list.or (vm hu)) ha) hs hw h1).imp fun D σ H h=>by
  obtain⟨w,ρ,rfl,R,S,h⟩:=h
  refine⟨w,ρ,rfl,R,S,Ps.bd h fun p v vv e1 R1 r1 h1=>⟨p,ρ,rfl,R1,S.mono R e1,Ps.bd h1 fun q x vx e2 R2 r2 h2=>⟨q,ρ,rfl,R2,(S.mono R e1).mono R1 e2,Ps.bd h2 fun s i vi e3 R3 r3 h3=>?_⟩⟩⟩
  have S3:=((S.mono R e1).mono R1 e2).mono R2 e3
  have rv:=(r1.mono R1 e2).mono R2 e3
  have rx:=r2.mono R2 e3
  cases x with
  |loc k=>
   unfold Rv at rx
   obtain⟨hk,rfl⟩:=rx
   unfold oy bd at h3
   cases e:s.h[k]? with
   |none=>simp only[e] at h3;exact h3.elim
   |some b=>
    cases b with
    |ins c ns ws=>simp only[e] at h3;exact h3.elim
    |din b ks ws=>simp only[e] at h3;exact h3.elim
    |gone=>simp only[e] at h3;exact h3.elim
    |lst l=>
     simp only[e] at h3
     cases i with
     |int n=>
      simp only at h3
      cases ej:ixN l.length n with
      |none=>simp only[ej] at h3;exact h3.elim
      |some j=>
       simp only[ej] at h3
       obtain⟨us,k1,k2⟩:=R3.ob k _ e
       refine .inl ⟨_,us,n,j,rfl,rv_int.mp r3,k1,by rw[k2.len];exact ej,?_⟩
       exact Ps.at (p:=s.put k (.lst (l.set j v)) (.lst (us.set j vv))) (b:=FlV.nx σ) h3 rfl (Ex.put e (by simp)) (R3.putL e (by simp) (k2.set rv j)) ⟨σ,rfl,S3.mono R3 (Ex.put e (by simp))⟩
     |_=>exact h3.elim
    |dit ks ws=>
     simp only[e] at h3
     cases i with
     |kt x=>
      simp only at h3
      by_cases z:ks.length<sizeLine
      ·simp only[if_pos z] at h3
       obtain⟨kvs,k1,k2,k3⟩:=R3.ob k _ e
       unfold Rv at r3
       obtain⟨b,rfl,hb⟩:=r3
       obtain⟨b1,b2⟩:=sK (x:=x) rv k2 k3
       refine .inr ⟨_,_,rfl,.inr ⟨kvs,x,b,k1,rfl,hb,by rw[<-k2,List.length_map] at z;exact z,rfl⟩,?_⟩
       exact Ps.at (p:=s.put k (.dit (putW ks ws x v).1 (putW ks ws x v).2) (.dT (putK kvs x vv))) (b:=FlV.nx σ) h3 rfl (Ex.put e (by simp)) (R3.putT e (by simp) b1 b2) ⟨σ,rfl,S3.mono R3 (Ex.put e (by simp))⟩
      ·simp only[if_neg z] at h3;exact h3.elim
     |_=>exact h3.elim
    |dic ks ws=>
     simp only[e] at h3
     cases ej:keyOf i with
     |none=>simp only[ej] at h3;exact h3.elim
     |some x=>
      simp only[ej] at h3
      by_cases z:ks.length<sizeLine
      ·simp only[if_pos z] at h3
       obtain⟨kvs,k1,k2,k3⟩:=R3.ob k _ e
       rw[mY ej r3]
       obtain⟨b1,b2⟩:=sK (x:=x) rv k2 k3
       refine .inr ⟨_,_,rfl,.inl ⟨kvs,x,k1,rfl,by rw[<-k2,List.length_map] at z;exact z,rfl⟩,?_⟩
       exact Ps.at (p:=s.put k (.dic (putW ks ws x v).1 (putW ks ws x v).2) (.dK (putK kvs x vv))) (b:=FlV.nx σ) h3 rfl (Ex.put e (by simp)) (R3.putD e (by simp) b1 b2) ⟨σ,rfl,S3.mono R3 (Ex.put e (by simp))⟩
      ·simp only[if_neg z] at h3;exact h3.elim
  |_=>exact h3.elim
end
end
section
def runF (n:Nat)(g:Env'->M Fl)(ws:List W):M W:=bd (g (ws.map some++List.replicate (n - ws.length) none)) fun x=>match x with
 |.rt w=>pr w
 |.nx _=>pr .non
 |_=>no
section
variable {P:Program}{w:World}{K:PySem.W.Frag}{mg:Str->Option Value}{base:Heap}{x qual:Str}{st:Stmt}{f:Addr}{fd:FuncData}{N ps:List Str}{k:Nat}{g:Env'->M Fl}
def spM0 (K:PySem.W.Frag)(mg:Str->Option Value)(n:Nat)(f:List W->M W):Sp:=fun vs H Q _=> ∃o ws,o.H=H/\ws.length=n/\Rel K o/\Rvs K o ws vs/\Ps ⟨K,mg,E0⟩ (Rv K) o (f ws o.h) Q
theorem bK {n m:Nat}{fn:List W->M W}(F:Fun K x qual st f fd)(S:FnScope N ps (ak st))(hn:N.length=n)(hm:ps.length=m)(hf:fn=runF n g)
  (hb: ∀ (cdv:Value) (A:Around) (outer:List Env) (s:Shared) (H:Hp) (E:XK),Room k (A.deeper (envOfC qual (ak st) s.heap.objs.size f cdv))->JSs (cxOf CX0 P w K mg base N qual (ak st) f cdv A outer s H E).nox E0 (gK st) g):
  FnOk P w K mg base CX0 (k+1) f fd ps (spM0 K mg m fn):=by
 subst hn hm hf
 refine F.ok S (fun vs H Q E h=>?_) (fun cdv A outer s H vs Q E hr h=>?_)
 ·obtain⟨o,ws,_,hl,_,rv,_⟩:=h
  rw[rv.len,hl]
 ·obtain⟨o,ws,rfl,hl,R,rv,h⟩:=h
  refine⟨_,(hb cdv A outer s o.H E hr).h,?_⟩
  have e:start N vs=vs.map some++List.replicate (N.length - ws.length) none:=by unfold start;rw[rv.len]
  rw[e]
  refine⟨o,_,rfl,R,Re.args _ rv,Ps.bd h fun p x b e1 R1 r1 h1=>?_⟩
  cases x with
  |rt w=>obtain⟨v,rfl,r⟩:=r1;exact h1.pr R1 r
  |nx r=>obtain⟨s,rfl,r⟩:=r1;exact h1.pr R1 (rv_non.mpr rfl)
  |bk r=>exact h1.elim
  |ct r=>exact h1.elim
theorem AJ {m:Nat}{fn:List W->M W}(h:∀ws h,fn ws h=.bad):FnOk P w K mg base CX0 k f fd ps (spM0 K mg m fn):=by
 have no: ∀vs H Q E,¬spM0 K mg m fn vs H Q E:=fun vs H Q E ⟨o,ws,_,_,_,_,q⟩=>by rw[h] at q;exact q
 exact⟨fun vs H Q E h=>absurd h (no vs H Q E),fun A outer s H args us vs Q E _ _ _ _ h=>absurd h (no vs H Q E)⟩
structure CG (P:Program)(w:World)(K:PySem.W.Frag)(mg:Str->Option Value)(base:Heap)(k:Nat)(x:Str)(f:Addr)(fd:FuncData)(ps:List Str)(m:Nat)(fn:List W->M W):Prop where
 ok:FnOk P w K mg base CX0 k f fd ps (spM0 K mg m fn)
 bi:Binds K fd ps []
 kp:keepIn K (.ref f)=true
 mg:mg x=some (.ref f)
end
def arW (n:Nat)(f:List W->M W)(ws:List W):M W:=if ws.length=n then f ws else no
section
variable {X:Cx}{p pos:Pos}{e:Expr}{es:List Expr}{l:Env'->M (List W)}{f:List W->M W}{k:Nat}{fA:Addr}{fd:FuncData}{ps:List Str}{x:Str}
theorem aG {m:Nat}(C:CG X.prog X.w X.K X.mg X.base k x fA fd ps m f)(hr:Room k X.A)(ha:JA X E0 (e::es) l)(hg:Gl X x:=by rfl)
  (hdb:(x==("__debug__":Str))=false:=by decide)(he:starEach (e::es) X.env=(false,eval e X.env)::starEach es X.env:=by rfl)(hpl:(backTo pos (starEach es X.env)).any (·.1)=false:=by rfl):
  JE X E0 (.Call (.Name x p) (e::es) [] pos) (mCall (arW m f) l):=(fu C.ok hr hg C.mg C.kp C.bi .nil pass0 ha.h hdb he hpl).imp fun σ H Q h=>by
 obtain⟨o,ρ,rfl,R,S,h⟩:=h
 refine⟨o,ρ,rfl,R,S,Ps.bd h fun p x vx e1 R1 r1 h1=>?_⟩
 unfold arW at h1
 by_cases z:x.length=m
 ·rw[if_pos z] at h1
  exact⟨p,x,rfl,z,R1,by rw[List.append_nil];exact r1,h1⟩
 ·rw[if_neg z] at h1
  exact h1.elim
end
section
variable {X:Cx}{E:XK}{p pos:Pos}
noncomputable def chars (z:Str):List W:=z.cps.toList.map fun c=>.str ⟨#[c]⟩
def srcS (w:W):M Sr:=match w with
 |.str z=>pr ⟨chars z,fun _=>True⟩
 |_=>no
noncomputable def numd (n:Int):List W->List W
 |[]=>[]
 |w::l=>.tup [.int n,w]::numd (n+1) l
theorem i7: ∀ (l:List W) (n:Int),(numd n l).length=l.length
 |[],_=>rfl
 |w::l,n=>by rw[numd,List.length_cons,List.length_cons,i7 l]
theorem kf: ∀ (l:List W) (n:Int) (i:Nat) (w:W),(numd n l)[i]?=some w-> ∃x,l[i]?=some x/\w=.tup [.int (n+i),x]
 |[],_,_,_,h=>by simp [numd] at h
 |x::l,n,0,w,h=>by rw[numd] at h;cases h;exact⟨x,rfl,by simp⟩
 |x::l,n,i+1,w,h=>by
  rw[numd,List.getElem?_cons_succ] at h
  obtain⟨y,e1,e2⟩:=kf l (n+1) i w h
  exact⟨y,by simpa using e1,by rw[e2];congr 3;omega⟩
def enumL (ws:List W):M Sr:=match ws with
 |[w]=>bd (srcL w) fun s=>pr ⟨numd 0 s.l,s.G⟩
 |_=>no
theorem sy {α β:Type}{r:Wo->α->β->Prop}{o:Wo}{w:W}{v:V}{k:Sr->M α}{Q:β->Hp->Prop}(R:Rel X.K o)(hr:Rv X.K o w v)(h:Ps (cg X E) r o (bd (srcL w) k o.h) Q):
  ∃s a,v=.ref a/\(∃vs,SqL X.K o.H a vs)/\(∀p,Ex o p->Rel X.K p->s.G p.h-> ∃vs,SqL X.K p.H a vs/\Rvs X.K p s.l vs)/\Ps (cg X E) r o (k s o.h) Q:=by
 cases w with
 |tl l=>
  unfold Rv at hr
  obtain⟨a,vs,rfl,s,n,r⟩:=hr
  exact⟨⟨l,fun _=>True⟩,a,rfl,⟨vs,.of s⟩,fun p X _ _=>⟨vs,.of (X.fr a _ s n).1,r.mono R X⟩,h⟩
 |cl l=>
  unfold Rv at hr
  obtain⟨a,vs,rfl,s,r⟩:=hr
  have sq: ∀q,Ex o q->SqL X.K q.H a vs:=fun q X=>by
   rcases s with⟨s,n⟩|s
   ·exact .inl (X.rd s n).1
   ·exact .inr s
  exact⟨⟨l,fun _=>True⟩,a,rfl,⟨vs,sq o (Ex.refl _)⟩,fun p X _ _=>⟨vs,sq p X,r.mono R X⟩,h⟩
 |loc j=>
  unfold Rv at hr
  obtain⟨hj,rfl⟩:=hr
  unfold srcL bd at h
  cases e:o.h[j]? with
  |none=>simp only[e] at h;exact h.elim
  |some b=>
   cases b with
   |lst l=>
    simp only[e] at h
    obtain⟨vs,h1,h2⟩:=R.ob j _ e
    refine⟨⟨l,fun h=>h[j]?=some (.lst l)⟩,_,rfl,⟨vs,.of h1⟩,fun p X Rp g=>?_,h⟩
    obtain⟨vs',h5,h6⟩:=Rp.ob j _ g
    rw[X.mu j hj] at h5
    exact⟨vs',.of h5,h6⟩
   |_=>simp only[e] at h;exact h.elim
 |_=>exact h.elim
theorem sX {a:Expr}{elts:List Expr}{x1}{tpos:Pos}{fl:Env'->M (List W)}(hm:X.mg "enumerate"=none)(ha:JA X E [a] fl)(hg:Gl X "enumerate":=by rfl)(hs:starEach [a] X.env=[(false,eval a X.env)]:=by rfl):
  JI X E (.Tuple elts x1 tpos) (.Call (.Name "enumerate" p) [a] [] pos) (mSrcA fl enumL):=(xQ hg hm ha.h hs).imp fun σ H Q h=>by
 obtain⟨o,ρ,rfl,R,S,h⟩:=h
 refine⟨o,ρ,rfl,R,S,Ps.bd h fun p x vx e1 R1 r1 h1=>?_⟩
 rcases x with _|⟨w,_|⟨_,_⟩⟩
 ·exact h1.elim
 ·have h1:Ps (cg X E) (fun p s J=>SrcOk X.K p J s) p (bd (srcL w) (fun s=>pr ⟨numd 0 s.l,s.G⟩) p.h) Q:=h1
  obtain⟨v,rfl,r⟩:=r1.one
  obtain⟨s,a,rfl,hq,sk,h1⟩:=sy R1 r h1
  refine⟨a,rfl,hq,h1.pr R1 ⟨fun o X R g=>?_,fun o i w X R g e=>?_⟩⟩
  ·obtain⟨vs,k1,k2⟩:=sk o X R g
   exact⟨vs,k1,by rw[k2.len];exact (i7 _ _).symm⟩
  ·obtain⟨vs,k1,k2⟩:=sk o X R g
   obtain⟨x,e1,rfl⟩:=kf _ _ _ _ e
   obtain⟨v,hv,rv⟩:=k2.get e1
   refine⟨⟨vs,v,k1,hv⟩,fun y H' q=>?_⟩
   obtain⟨T,z,hT,rfl,hz,rfl⟩:=q
   have:z=v:=by have:=hz vs k1;rw[hv] at this;exact (Option.some.inj this).symm
   subst this
   refine⟨⟨o.mu,o.h,upd o.H T (.tup [.int i,z])⟩,rfl,rfl,Ex.new hT,R.new hT,Rv.newT R hT (Rvs.cons (rv_int.mpr (by simp)) (Rvs.cons rv Rvs.nil))⟩
 ·exact h1.elim
def sUnp (t:W->Env'->Option Env')(f:Env'->M W):Env'->M Fl:=fun ρ=>bd (f ρ) fun w=>match t w ρ with
 |some r=>pr (.nx r)
 |none=>no
noncomputable def tyN (w:W)(h:List Ob):Option String:=match w with
 |.non=>some "NoneType"
 |.bl _=>some "bool"
 |.int _=>some "int"
 |.str _=>some "str"
 |.tl _=>some "list"
 |.loc k=>match h[k]? with
  |some (.lst _)=>some "list"
  |some (.dic _ _)=>some "dict"
  |_=>none
 |_=>none
noncomputable def isT (t c:String):Bool:=t==c||(t== "bool" && c== "int")
noncomputable def tys:List String:=["int", "str", "bool", "list", "tuple", "dict"]
def isiW (ws:List W):M W:=match ws with
 |[.tup _,.ty c]=>gd (c∈tys) (pr (.bl (isT "tuple" c)))
 |[x,.ty c]=>fun h=>match tyN x h with
  |some t=>if c∈tys then .ok (.bl (isT t c)) h else .bad
  |none=>.bad
 |_=>no
theorem wC {K:PySem.W.Frag}{t c:String}(ht:t∈ "NoneType"::tys)(hc:c∈tys):kitOne K (.type t) (.type c)=some (isT t c):=by
 simp only[tys,List.mem_cons,List.not_mem_nil,or_false] at ht hc
 rcases ht with rfl|rfl|rfl|rfl|rfl|rfl|rfl<;>rcases hc with rfl|rfl|rfl|rfl|rfl|rfl<;>kernel_rfl
end
end
section
section
variable {X:Cx}{E:XK}{p pos:Pos}{a b:Expr}{l:Env'->M (List W)}
def rIsT (K:PySem.W.Frag):List V->Hp->VK->Prop:=fun xs H Q=> ∃ (a:Addr) (ys:List V) (c:String) (k:Bool),xs=[.ref a,.ty c]/\SqT K H a ys/\kitOne K (.type "tuple") (.type c)=some k/\Q (.bl k) H
theorem uT:CallR X (.builtin "isinstance") (rIsT X.K):=by
 intro pins s σ H xs us Q I r h
 obtain⟨a,ys,c,k,rfl,hq,e,q⟩:=h
 obtain⟨u,u',rfl,ru,ru'⟩:=vals2 r
 cases ru
 cases ru'
 obtain⟨its,rv,⟨o,e1,e2,n,e3⟩,hz⟩:=I.tuple hq
 exact kia_one PySem.W.kitx_tuple I.kIn ⟨o,e1,e2⟩ e (fun z=>nomatch z) fun tk=>⟨.bl k,H,I.tok tk,rfl,q⟩
theorem ze {o:Wo}{w:W}{v:V}{t:String}(R:Rel X.K o)(h:Rv X.K o w v)(e:tyN w o.h=some t):TyOf X.K o.H v (.type t)/\t∈ "NoneType"::tys:=by
 cases w with
 |non=>cases e;rw[rv_non.mp h];exact⟨.non,by decide⟩
 |bl _=>cases e;rw[rv_bl.mp h];exact⟨.bl _,by decide⟩
 |int _=>cases e;rw[rv_int.mp h];exact⟨.int _,by decide⟩
 |str _=>cases e;rw[rv_str.mp h];exact⟨.str _,by decide⟩
 |tl _=>cases e;unfold Rv at h;obtain⟨a,vs,rfl,s,_⟩:=h;exact⟨.lst s,by decide⟩
 |loc k=>
  unfold Rv at h
  obtain⟨_,rfl⟩:=h
  unfold tyN at e
  dsimp only at e
  split at e
  ·rename_i l hl
   cases e
   obtain⟨vs,h1,_⟩:=R.ob k _ hl
   exact⟨.lst h1,by decide⟩
  ·rename_i ks ws hl
   cases e
   obtain⟨vs,h1,_⟩:=R.ob k _ hl
   exact⟨.dK h1,by decide⟩
  ·cases e
 |_=>cases e
theorem Ap (hm:X.mg "isinstance"=none)(ha:JA X E [a,b] l)(hg:Gl X "isinstance":=by rfl)(he:starEach [a,b] X.env=(false,eval a X.env)::starEach [b] X.env:=by rfl)(hpl:(backTo pos (starEach [b] X.env)).any (·.1)=false:=by rfl):JE X E (.Call (.Name "isinstance" p) [a,b] [] pos) (mCall isiW l):=
 kn (call_isinst.or uT) (fun o ws vs Q R rv h=>by
  unfold isiW at h
  split at h
  ·rename_i l c
   obtain⟨v,u,rfl,r1,r2⟩:=rv.two
   obtain⟨hc,h⟩:=h.gd
   unfold Rv at r1
   obtain⟨a,us,rfl,s,r⟩:=r1
   rw[rv_ty.mp r2]
   exact .inr ⟨a,us,c,_,rfl,s,wC (by decide) hc,h.pr R (rv_bl.mpr rfl)⟩
  ·rename_i x c _
   obtain⟨v,u,rfl,r1,r2⟩:=rv.two
   dsimp only at h
   cases e:tyN x o.h with
   |none=>rw[e] at h;exact h.elim
   |some t=>
    rw[e] at h
    by_cases hc:c∈tys
    ·simp only[if_pos hc] at h
     obtain⟨ty,hm⟩:=ze R r1 e
     rw[rv_ty.mp r2]
     exact .inl ⟨v,.ty c,.type c,.type t,_,rfl,rfl,ty,wC hm hc,Ps.pr (c:=cg X E) (r:=Rv X.K) (a:=W.bl (isT t c)) h R (rv_bl.mpr rfl)⟩
    ·simp only[if_neg hc] at h;exact h.elim
  ·exact h.elim) hg hm PyProof.Rows.boot_isinstance ha (he:=he) (hpl:=hpl)
theorem Bc {x:Str}{T:String}(hm:X.mg x=none)(hv:bootBuiltins x=some (.type T))(hg:Gl X x:=by rfl)(hn:x≠ "__name__":=by decide)(hd:(x==("__debug__":Str))=false:=by decide):JE X E (.Name x pos) (mC (.ty T)):=
 (xS (v:=.ty T) hg hm hv rfl hn hd).imp fun _ _ _ h=>uc (fun o=>rv_ty.mpr rfl) h
def mDNew:Env'->M W:=fun _ h=>.ok (.loc h.length) (h++[.dic [] []])
theorem Rv.addLoc {K:PySem.W.Frag}{o:Wo}{q:Addr}{b:Ob}{u:HO}:Rv K (o.add q b u) (.loc o.h.length) (.ref q):=by
 unfold Rv
 exact⟨by show _<(o.h++[b]).length;simp,by show V.ref q=V.ref (if o.h.length=o.h.length then q else _);rw[if_pos rfl]⟩
theorem yj:JE X E (.Dict [] [] pos) mDNew:=pe_dnewK.imp fun σ H Q h=>by
 obtain⟨o,ρ,rfl,R,S,h⟩:=h
 intro q hq
 exact Ps.at (p:=o.add q (.dic [] []) (.dK [])) h rfl (Ex.add hq) (R.addD hq rfl Rvs.nil) Rv.addLoc
end
end
section
section
variable {X:Cx}{E:XK}{p pos:Pos}{a b c:Expr}{fa fb fc:Env'->M W}
def da (f g:W->W->M W)(fa fb fc:Env'->M W):Env'->M W:=fun ρ=>bd (fa ρ) fun x=>bd (fb ρ) fun y=>bd (f x y) fun z=>bd (asB z) fun k=>if k=true then bd (fc ρ) fun w=>g y w else pr (.bl false)
theorem u8 {r r':R2}{f g:W->W->M W}(hf: ∀ (o:Wo) (x y:W) (vx vy:V) (Q:VK),Rel X.K o->Rv X.K o x vx->Rv X.K o y vy->Ps (cg X E) (Rv X.K) o (f x y o.h) Q->r vx vy o.H Q)(hg:OpM X E r' g){σ:St}{H:Hp}{Q:VK}(h:tM (cg X E) (da f g fa fb fc) σ H Q):u9 r r' (tM (cg X E) fa) (tM (cg X E) fb) (tM (cg X E) fc) σ H Q:=by
 obtain⟨o,ρ,rfl,R,S,h⟩:=h
 refine⟨o,ρ,rfl,R,S,Ps.bd h fun p x vx e1 R1 r1 h1=>⟨p,ρ,rfl,R1,S.mono R e1,Ps.bd h1 fun q y vy e2 R2 r2 h2=>hf q x y vx vy _ R2 (r1.mono R1 e2) r2 (Ps.bd h2 fun s z vz e3 R3 r3 h3=>?_)⟩⟩
 obtain⟨k,rfl,rfl,h3⟩:=AR r3 h3
 refine⟨k,rfl,?_⟩
 cases k with
 |false=>exact iteF (h3.pr R3 (rv_bl.mpr rfl))
 |true=>exact iteT ⟨s,ρ,rfl,R3,((S.mono R e1).mono R1 e2).mono R2 e3,Ps.bd h3 fun u w vw e4 R4 r4 h4=>hg u y w vy vw Q R4 ((r2.mono R2 e3).mono R3 e4) r4 h4⟩
theorem we {op op':CmpOp}{r r':R2}{f g:W->W->M W}(ho:OpR X (compareOp op) r)(hf:OpM X E r f)(ho':OpR X (compareOp op') r')(hg:OpM X E r' g)(ha:JE X E a fa)(hb:JE X E b fb)(hc:JE X E c fc)
 (hm:lastMarks [op,op'] [b,c]=false:=by with_unfolding_all rfl):JT X E (.Compare a [op,op'] [b,c] pos) (mB (da f g fa fb fc)):=(vH ho ho' ha.h hb.h hc.h hm).imp fun _ _ _ h=>u8 hf hg (zp h)
end
section
variable {es:List Expr}{env:Env}{pos:Pos}
theorem ba {c k p}:starEach (.Constant c k p::es) env=(false,eval (.Constant c k p) env)::starEach es env:=by rfl
theorem al {c p}:starEach (.Name c p::es) env=(false,eval (.Name c p) env)::starEach es env:=by rfl
theorem cV {a o b p}:starEach (.BinOp a o b p::es) env=(false,eval (.BinOp a o b p) env)::starEach es env:=by rfl
theorem cH {a o b p}:starEach (.Call a o b p::es) env=(false,eval (.Call a o b p) env)::starEach es env:=by rfl
theorem bf {a o p}:starEach (.Subscript a o p::es) env=(false,eval (.Subscript a o p) env)::starEach es env:=by rfl
theorem xE {a o p}:starEach (.Tuple a o p::es) env=(false,eval (.Tuple a o p) env)::starEach es env:=by rfl
theorem Bo {a p}:starEach (.List a p::es) env=(false,eval (.List a p) env)::starEach es env:=by rfl
theorem ue {a g s p}:starEach (.ListComp a g s p::es) env=(false,eval (.ListComp a g s p) env)::starEach es env:=by rfl
theorem ao:(backTo pos (starEach [] env)).any (·.1)=false:=by rfl
theorem az {e:Expr}(hs:starEach (e::es) env=(false,eval e env)::starEach es env)(h:(backTo pos (starEach es env)).any (·.1)=false):(backTo pos (starEach (e::es) env)).any (·.1)=false:=by
 rw[hs]
 show ((false||(backTo pos (starEach es env)).any (·.1)):Bool)=false
 rw[h];rfl
end
section
variable {P:Program}{w:World}{K:PySem.W.Frag}{mg:Str->Option Value}{base:Heap}{x:Str}{f:Addr}{fd:FuncData}{ps:List Str}{k:Nat}{sp:Sp}{fn:List W->M W}
theorem wV (F:FnOk P w K mg base (CXx P w) k f fd ps sp){sp':Sp}(h:∀vs H Q E,sp' vs H Q E->sp vs H Q E0):FnOk P w K mg base CX0 k f fd ps sp':=
 ⟨fun vs H Q E q=>F.len vs H Q E0 (h _ _ _ _ q),fun A outer s H args us vs Q E hr he hb hv hs=>codeAny_mono (F.run A outer s H args us vs Q E0 hr he hb hv (h _ _ _ _ hs)) fun r s' q=>by
  cases r with
  |ok fl=>cases fl<;>exact q
  |error e=>
   obtain⟨_,_,_,_,_,_,_,_,_,_,_,_,_,_,z⟩:=q
   exact z.elim⟩
theorem pY {o:Wo}{ws:List W}{Q:VK}{wv:W}{v:V}{H':Hp}(R:Rel K o)(g:Same o.H H')(hv:Rv K ⟨o.mu,o.h,H'⟩ wv v)(h:Ps ⟨K,mg,E0⟩ (Rv K) o (pr wv o.h) Q):Q v H':=
 Ps.at (p:=⟨o.mu,o.h,H'⟩) h rfl (Ex.same g) (R.same g) hv
end
end
section
section
variable {X:Cx}{E:XK}{p pos:Pos}{a b:Expr}{l:Env'->M (List W)}{CF:Addr}{raised:List Str}
variable {x n f:Str}{e b0:Expr}{es:List Expr}{s0:Stmt}{suite:List Stmt}{np hpos tpos epos:Pos}{fn:List W->M W}{g:Env'->M Fl}{k i m:Nat}{fA:Addr}{fd:FuncData}{ps:List Str}
def catL (fa fb:Env'->M W):Env'->M (List W):=fun ρ=>bd (fa ρ) fun x=>bd (fb ρ) fun y=>bd (lstO x) fun a=>bd (lstO y) fun b=>gd (a.length+b.length<=sizeLine) (pr (a++b))
theorem rP {fa fb:Env'->M W}(ha:JE X E a fa)(hb:JE X E b fb):JF X E (.BinOp a .Add b pos) (catL fa fb):=(sN vW ha.h hb.h).impF fun σ H Q h=>by
 obtain⟨o,ρ,rfl,R,S,h⟩:=h
 refine⟨o,ρ,rfl,R,S,Ps.bd h fun p x vx e1 R1 r1 h1=>⟨p,ρ,rfl,R1,S.mono R e1,Ps.bd h1 fun q y vy e2 R2 r2 h2=>?_⟩⟩
 obtain⟨l,a,vs,rfl,s1,r3,h3⟩:=gg R2 (r1.mono R1 e2) h2
 obtain⟨m,b,us,rfl,s2,r4,h4⟩:=gg R2 r2 h3
 obtain⟨hz,h4⟩:=h4.gd
 exact⟨a,b,vs,us,rfl,rfl,s1,s2,by rw[r3.len,r4.len];exact hz,h4.pr R2 (r3.app r4)⟩
end
end
end L2
namespace L2
open PySem
theorem gM {α β:Type}{f:M α}{g:α->M β}{h h':List Ob}{a:α}(e:f h=.ok a h'):bd f g h=g a h':=by unfold bd;rw[e]
@[simp] theorem bd_pr {α β:Type}(a:α)(g:α->M β):bd (pr a) g=g a:=rfl
@[simp] theorem bd_no {α β:Type}(g:α->M β):bd (no:M α) g=no:=rfl
theorem ay {α:Type}{p:Prop} [Decidable p] {m:M α}(hp:p):gd p m=m:=by funext h;unfold gd;rw[if_pos hp]
@[simp] theorem addW_int (i j:Int):addW (.int i) (.int j)=pr (.int (i+j)):=rfl
theorem xo {a b:Str}(h:a.length+b.length<=sizeLine):addW (.str a) (.str b)=pr (.str (a++b)):=by unfold addW;exact ay h
@[simp] theorem subW_int (i j:Int):subW (.int i) (.int j)=pr (.int (i - j)):=ay trivial
theorem kj {i j:Int}(h:CMulA i j):mulW (.int i) (.int j)=pr (.int (i * j)):=by unfold mulW;exact ay h
theorem wc {i j:Int}(h1: -(2 ^ 64)<i)(h2:i<2 ^ 64):CMulA i j:=.inl (.inl ⟨h1,h2⟩)
theorem wb {i j:Int}(h1: -(2 ^ 64)<j)(h2:j<2 ^ 64):CMulA i j:=.inl (.inr ⟨h1,h2⟩)
theorem dC {i j:Int}(h1:0<j)(h2:j<2 ^ 200):fdivW (.int i) (.int j)=pr (.int (i / j)):=ay ⟨h1,h2⟩
theorem aE {i j:Int}(h1:0<j):modW (.int i) (.int j)=pr (.int (i % j)):=ay h1
theorem qf {i j:Int}(h:CPow i j):powW (.int i) (.int j)=pr (.int (i ^ j.toNat)):=ay h
@[simp] theorem ltW_int (i j:Int):ltW (.int i) (.int j)=pr (.bl (decide (i<j))):=ay trivial
@[simp] theorem leW_int (i j:Int):leW (.int i) (.int j)=pr (.bl (decide (i<=j))):=ay trivial
@[simp] theorem gtW_int (i j:Int):gtW (.int i) (.int j)=pr (.bl (decide (j<i))):=ay trivial
@[simp] theorem geW_int (i j:Int):geW (.int i) (.int j)=pr (.bl (decide (j<=i))):=ay trivial
@[simp] theorem asB_bl (b:Bool):asB (.bl b)=pr b:=rfl
@[simp] theorem eqW_int (i j:Int):eqW (.int i) (.int j)=pr (.bl (decide (i=j))):=by
  funext h
  show Rs.ok (W.bl (decide (V.int i=V.int j))) h=Rs.ok (W.bl (decide (i=j))) h
  congr 2
  rw[decide_eq_decide]
  exact⟨V.int.inj,congrArg _⟩
@[simp] theorem eqW_str (i j:Str):eqW (.str i) (.str j)=pr (.bl (decide (i=j))):=by
  funext h
  show Rs.ok (W.bl (decide (V.str i=V.str j))) h=Rs.ok (W.bl (decide (i=j))) h
  congr 2
  rw[decide_eq_decide]
  exact⟨V.str.inj,congrArg _⟩
@[simp] theorem neW_int (i j:Int):neW (.int i) (.int j)=pr (.bl (!decide (i=j))):=by
  funext h
  show Rs.ok (W.bl (!decide (V.int i=V.int j))) h=Rs.ok (W.bl (!decide (i=j))) h
  congr 3
  rw[decide_eq_decide]
  exact⟨V.int.inj,congrArg _⟩
@[simp] theorem neW_str (i j:Str):neW (.str i) (.str j)=pr (.bl (!decide (i=j))):=by
  funext h
  show Rs.ok (W.bl (!decide (V.str i=V.str j))) h=Rs.ok (W.bl (!decide (i=j))) h
  congr 3
  rw[decide_eq_decide]
  exact⟨V.str.inj,congrArg _⟩
@[simp] theorem neW_bl (i j:Bool):neW (.bl i) (.bl j)=pr (.bl (!decide (i=j))):=by
  funext h
  show Rs.ok (W.bl (!decide (V.bl i=V.bl j))) h=Rs.ok (W.bl (!decide (i=j))) h
  congr 3
  rw[decide_eq_decide]
  exact⟨V.bl.inj,congrArg _⟩
theorem bY {l:List W}{i:Int}{w:W}(h:atI l i=some w):ixW (.tl l) (.int i)=pr w:=by
 funext hh
 unfold ixW
 have:ixO (.tl l) (.int i) hh=some w:=h
 rw[this];rfl
theorem gh {l:List W}{i:Int}{w:W}(h:atI l i=some w):ixW (.tup l) (.int i)=pr w:=by
 funext hh
 unfold ixW
 have:ixO (.tup l) (.int i) hh=some w:=h
 rw[this];rfl
@[simp] theorem slW_tl (l:List W)(lo hi:Option Int):slW (.tl l) lo hi=pr (.tl (cutW l lo hi)):=rfl
@[simp] theorem slW_cl (l:List W)(lo hi:Option Int):slW (.cl l) lo hi=pr (.tl (cutW l lo hi)):=rfl
@[simp] theorem lenW_tl (l:List W):lenW [.tl l]=pr (.int l.length):=rfl
@[simp] theorem lenW_tup (l:List W):lenW [.tup l]=pr (.int l.length):=rfl
theorem xm {n:Nat}{f:List W->M W}{ws:List W}(h:ws.length=n):arW n f ws=f ws:=if_pos h
theorem ve {i:Int}(h:i.natAbs.log2<1920):strW [.int i]=pr (.str (toString i)):=ay h
theorem km {α:Type}(f:α->W)(l:List α)(d:α){i:Int}(h0:0<=i)(h:i<l.length):atI (l.map f) i=some (f (l.getD i.toNat d)):=by
 have hi:i.toNat<l.length:=by omega
 have e:atI (l.map f) ((i.toNat:Nat):Int)=some (f (l.getD i.toNat d)):=kD (by rw[List.getElem?_map,List.getElem?_eq_getElem hi,List.getD_eq_getElem?_getD,List.getElem?_eq_getElem hi];rfl)
 have e2:((i.toNat:Nat):Int)=i:=by omega
 rw[e2] at e;exact e
theorem br {α:Type}{xs:List α}{i:Int}{v:α}(h0:0<=i)(h:xs[i.toNat]?=some v):atI xs i=some v:=by
 have q:=kD h
 have e:((i.toNat:Nat):Int)=i:=by omega
 rw[e] at q;exact q
def finF:Fl->M W:=fun x=>match x with
 |.rt w=>pr w
 |.nx _=>pr .non
 |_=>no
theorem gdn0 {α:Type}(m:M α):gd (0<=sizeLine) m=m:=ay (by decide)
theorem gdn1 {α:Type}(m:M α):gd (0+1<=sizeLine) m=m:=ay (by decide)
theorem gdn2 {α:Type}(m:M α):gd (0+1+1<=sizeLine) m=m:=ay (by decide)
theorem gdn3 {α:Type}(m:M α):gd (0+1+1+1<=sizeLine) m=m:=ay (by decide)
theorem gdn4 {α:Type}(m:M α):gd (0+1+1+1+1<=sizeLine) m=m:=ay (by decide)
theorem gdn5 {α:Type}(m:M α):gd (0+1+1+1+1+1<=sizeLine) m=m:=ay (by decide)
theorem gdn6 {α:Type}(m:M α):gd (0+1+1+1+1+1+1<=sizeLine) m=m:=ay (by decide)
theorem gdn7 {α:Type}(m:M α):gd (0+1+1+1+1+1+1+1<=sizeLine) m=m:=ay (by decide)
theorem gdn8 {α:Type}(m:M α):gd (0+1+1+1+1+1+1+1+1<=sizeLine) m=m:=ay (by decide)
theorem gdn9 {α:Type}(m:M α):gd (0+1+1+1+1+1+1+1+1+1<=sizeLine) m=m:=ay (by decide)
theorem gdn10 {α:Type}(m:M α):gd (0+1+1+1+1+1+1+1+1+1+1<=sizeLine) m=m:=ay (by decide)
theorem gdn11 {α:Type}(m:M α):gd (0+1+1+1+1+1+1+1+1+1+1+1<=sizeLine) m=m:=ay (by decide)
theorem gdn12 {α:Type}(m:M α):gd (0+1+1+1+1+1+1+1+1+1+1+1+1<=sizeLine) m=m:=ay (by decide)
theorem gdn13 {α:Type}(m:M α):gd (0+1+1+1+1+1+1+1+1+1+1+1+1+1<=sizeLine) m=m:=ay (by decide)
theorem gdn14 {α:Type}(m:M α):gd (0+1+1+1+1+1+1+1+1+1+1+1+1+1+1<=sizeLine) m=m:=ay (by decide)
theorem gdn15 {α:Type}(m:M α):gd (0+1+1+1+1+1+1+1+1+1+1+1+1+1+1+1<=sizeLine) m=m:=ay (by decide)
theorem gdn16 {α:Type}(m:M α):gd (0+1+1+1+1+1+1+1+1+1+1+1+1+1+1+1+1<=sizeLine) m=m:=ay (by decide)
theorem gdn17 {α:Type}(m:M α):gd (0+1+1+1+1+1+1+1+1+1+1+1+1+1+1+1+1+1<=sizeLine) m=m:=ay (by decide)
theorem gdn18 {α:Type}(m:M α):gd (0+1+1+1+1+1+1+1+1+1+1+1+1+1+1+1+1+1+1<=sizeLine) m=m:=ay (by decide)
theorem gdn19 {α:Type}(m:M α):gd (0+1+1+1+1+1+1+1+1+1+1+1+1+1+1+1+1+1+1+1<=sizeLine) m=m:=ay (by decide)
theorem gdn20 {α:Type}(m:M α):gd (0+1+1+1+1+1+1+1+1+1+1+1+1+1+1+1+1+1+1+1+1<=sizeLine) m=m:=ay (by decide)
theorem gdn21 {α:Type}(m:M α):gd (0+1+1+1+1+1+1+1+1+1+1+1+1+1+1+1+1+1+1+1+1+1<=sizeLine) m=m:=ay (by decide)
theorem gdn22 {α:Type}(m:M α):gd (0+1+1+1+1+1+1+1+1+1+1+1+1+1+1+1+1+1+1+1+1+1+1<=sizeLine) m=m:=ay (by decide)
theorem gdn23 {α:Type}(m:M α):gd (0+1+1+1+1+1+1+1+1+1+1+1+1+1+1+1+1+1+1+1+1+1+1+1<=sizeLine) m=m:=ay (by decide)
theorem gdn24 {α:Type}(m:M α):gd (0+1+1+1+1+1+1+1+1+1+1+1+1+1+1+1+1+1+1+1+1+1+1+1+1<=sizeLine) m=m:=ay (by decide)
theorem gz {α:Type}{m:M α}{inst:Decidable (true=true)}: @gd α (true=true) inst m=m:= @ay α (true=true) inst m rfl
theorem bu {src:Env'->M Sr}{t:W->Env'->Option Env'}{f:Env'->M Bool}{e:Env'->M W}{n:Nat}{ρ:Env'}:mComp [] src t f e n ρ=bd (src ρ) fun s=>gd (s.l.length<=sizeLine) (compM s.G t f e n s.l ρ):=by unfold mComp;exact ay rfl
section
theorem kA {t:W->Env'->Option Env'}{f:Env'->M Bool}{e:Env'->M W}{n:Nat}{ρ:Env'}{b:W->Bool}{v:W->W}: ∀ {l:List W},(∀w∈l,∃r,t w (List.replicate n none++ρ)=some r/\f r=pr (b w)/\(b w=true->e r=pr (v w)))->compM (fun _=>True) t f e n l ρ=pr ((l.filter b).map v)
 |[],_=>by unfold compM;rw[qG];rfl
 |w::l,h=>by
  obtain⟨r,h1,h2,h3⟩:=h w List.mem_cons_self
  have ih:=kA (l:=l) fun x hx=>h x (List.mem_cons_of_mem _ hx)
  unfold compM
  rw[qG,h1]
  dsimp only
  rw[h2,bd_pr]
  by_cases hb:b w=true
  ·rw[if_pos hb,h3 hb,bd_pr,ih,bd_pr,List.filter_cons_of_pos hb];rfl
  ·rw[if_neg hb,ih,List.filter_cons_of_neg hb]
theorem kd {α:Type}{f:W->Option α}{g:α->W}(hf: ∀a,f (g a)=some a): ∀l:List α,optL f (l.map g)=some l
 |[]=>rfl
 |a::l=>by
  show (match f (g a),optL f (l.map g) with
   |some b,some r=>some (b::r)
   |_,_=>none)=_
  rw[hf,kd hf l]
theorem kS {β:Type}{α:Type}{f:W->Option β}{g:α->W}{k:α->β}(hf: ∀a,f (g a)=some (k a)): ∀l:List α,optL f (l.map g)=some (l.map k)
 |[]=>rfl
 |a::l=>by
  show (match f (g a),optL f (l.map g) with
   |some b,some r=>some (b::r)
   |_,_=>none)=_
  rw[hf,kS hf l];rfl
theorem eJ {α:Type}{g:α->W}{k:α->V}(hf: ∀a,vOf (g a)=some (k a)): ∀l:List α,vsOf (l.map g)=some (l.map k)
 |[]=>rfl
 |a::l=>by
  show (match vOf (g a),vsOf (l.map g) with
   |some v,some vs=>some (v::vs)
   |_,_=>none)=_
  rw[hf,eJ hf l];rfl
theorem wE {sep:Str}{ts:List Str}(h:(ts.map (·.length)).sum+ts.length * sep.length<=sizeLine):joinW (.str sep) [.tl (ts.map W.str)]=pr (.str (Str.join sep ts)):=by
 have e:joinW (.str sep) [.tl (ts.map W.str)]=(match optL sOf (ts.map W.str) with
  |some (ts:List Str)=>gd ((ts.map (fun z:Str=>z.length)).sum+ts.length * sep.length<=sizeLine) (pr (W.str (Str.join sep ts)))
  |none=>no):=rfl
 rw[e,kd (f:=sOf) (g:=W.str) (fun a=>rfl)]
 exact ay h
theorem uM {l m:List W}{ds es:List PyData}{h:List Ob}(h1:optL (dataH h 49) l=some ds)(h2:optL (dataH h 49) m=some es)(c1:PyData.canLayAll0 ds=true)(c2:PyData.canLayAll0 es=true):eqB (.tl l) (.tl m) h=some (PyData.eqvAll ds es):=by
 show (match (optL (dataH h 49) l).map PyData.list,(optL (dataH h 49) m).map PyData.list with
  |some d,some e=>if d.canLay0=true/\e.canLay0=true then some (PyData.eqv d e) else none
  |_,_=>none)=_
 rw[h1,h2]
 show (if (PyData.list ds).canLay0=true/\(PyData.list es).canLay0=true then some (PyData.eqv (.list ds) (.list es)) else none)=_
 rw[if_pos ⟨by rw[PyData.canLay0];exact c1,by rw[PyData.canLay0];exact c2⟩,PyData.eqv]
theorem Aj {x y:W}{b:Bool}(h:∀h,eqB x y h=some b):neW x y=pr (.bl (!b)):=by funext hh;unfold neW;rw[h];rfl
theorem si {α:Type}{k:α->PyData}: ∀ (l:List α),(∀a∈l,(k a).canLay0=true)->PyData.canLayAll0 (l.map k)=true
 |[],_=>by rw[List.map_nil,PyData.canLayAll0]
 |a::l,h=>by rw[List.map_cons,PyData.canLayAll0,h a List.mem_cons_self,si l fun b hb=>h b (List.mem_cons_of_mem _ hb)];rfl
theorem jD (a b:Str):(a++b).cps.toList=a.cps.toList++b.cps.toList:=by
 show (a.cps++b.cps).toList=_
 rw[Array.toList_append]
theorem mL {x:Str}{ss:List Str}:cL (.str x) (.tl (ss.map W.str))=pr (.bl (!decide (x∈ss))):=by
 funext h
 unfold cL
 have e:inB (.str x) (.tl (ss.map W.str)) h=some (decide (x∈ss)):=by
  show (match vOf (.str x),vsOf (ss.map W.str) with
   |some v,some vs=>some (inV v vs)
   |_,_=>none)=_
  rw[eJ (k:=V.str) (fun a=>rfl)]
  show some (inV (.str x) (ss.map V.str))=_
  congr 1
  unfold inV
  rw[Bool.eq_iff_iff,List.any_eq_true,decide_eq_true_eq]
  constructor
  ·rintro⟨v,hv,q⟩
   obtain⟨y,hy,rfl⟩:=List.mem_map.mp hv
   have:y=x:=by simpa [eqV] using q
   subst this;exact hy
  ·intro q
   exact⟨.str x,List.mem_map.mpr ⟨x,q,rfl⟩,by simp [eqV]⟩
 rw[e];rfl
end
end L2
namespace L2
open PySem PySem.Spec PyProof.Rows
section
variable {X:Cx}{E:XK}{p pos:Pos}
variable {o e:Expr}{apos cpos:Pos}{fo:Env'->M W}{l:Env'->M (List W)}
end
end L2
namespace L2
open PySem
theorem ck {α β:Type}(a:α)(g:α->M β):bd (pr a) g=g a:=funext fun h=>gM (f:=pr a) (a:=a) (h:=h) (h':=h) rfl
def Ok {α:Type}(m:M α)(h:List Ob)(Q:α->List Ob->Prop):Prop:= ∃a h',m h=.ok a h'/\Q a h'
section
variable {α β:Type}{m:M α}{k:α->M β}{h h':List Ob}{a:α}
theorem Ok.imp {P Q:α->List Ob->Prop}(p:Ok m h P)(q:∀a h',P a h'->Q a h'):Ok m h Q:=let ⟨a,h',e,r⟩:=p;⟨a,h',e,q a h' r⟩
theorem bN {P:α->List Ob->Prop}{Q:β->List Ob->Prop}(p:Ok m h P)(q:∀a h',P a h'->Ok (k a) h' Q):Ok (bd m k) h Q:=by
 obtain⟨a,h',e,r⟩:=p
 obtain⟨b,h2,e2,r2⟩:=q a h' r
 exact⟨b,h2,(gM e).trans e2,r2⟩
theorem cC {Q:β->List Ob->Prop}(e:m h=.ok a h')(q:Ok (k a) h' Q):Ok (bd m k) h Q:=by
 obtain⟨b,h2,e2,r2⟩:=q
 exact⟨b,h2,(gM e).trans e2,r2⟩
theorem aB {Q:α->List Ob->Prop}(q:Q a h):Ok (pr a) h Q:=⟨a,h,rfl,q⟩
end
section
variable {β:Type}{h:List Ob}{Q:β->List Ob->Prop}{j:Nat}{l:List W}
theorem nO {i:Int}{w:W}{k:W->M β}(e:h[j]?=some (.lst l))(e2:atI l i=some w)(q:Ok (k w) h Q):Ok (bd (ixW (.loc j) (.int i)) k) h Q:=by
 refine cC (a:=w) (h':=h) ?_ q
 have d:dicOf (.loc j) h=none:=by unfold dicOf;simp only[e]
 have lo:lstOf (.loc j) h=.ok l h:=by unfold lstOf;simp only[e]
 have:ixO (.loc j) (.int i) h=some w:=by
  unfold ixO
  simp only[d,lo,e2]
 unfold ixW
 rw[this]
theorem gc {w:W}{k:W->M β}(e:h[j]?=some (.lst l))(z:l.length<sizeLine)(q:Ok (k .non) (h.set j (.lst (l++[w]))) Q):Ok (bd (bP (.loc j) [w]) k) h Q:=by
 refine cC (a:=.non) (h':=h.set j (.lst (l++[w]))) ?_ q
 unfold bP
 simp only[e,if_pos z]
theorem cK {k:W->M β}(e:h[j]?=some (.lst l))(q:Ok (k (.loc j)) h Q):Ok (bd (isL (.loc j)) k) h Q:=by
 refine cC (a:=.loc j) (h':=h) ?_ q
 unfold isL
 simp only[e]
theorem gr {k:W->M β}(q:Ok (k (.loc h.length)) (h++[.lst l]) Q):Ok (bd (newW l) k) h Q:=cC (a:=.loc h.length) (h':=h++[.lst l]) rfl q
theorem jU {k:W->M β}(e:h[j]?=some (.lst l))(q:Ok (k (.tl l)) (h.set j .gone) Q):Ok (bd (iceW (.loc j)) k) h Q:=by
 refine cC (a:=.tl l) (h':=h.set j .gone) ?_ q
 unfold iceW
 simp only[e]
theorem oS {k:Sr->M β}(e:h[j]?=some (.lst l))(q:Ok (k ⟨l,fun h=>h[j]?=some (.lst l)⟩) h Q):Ok (bd (srcL (.loc j)) k) h Q:=by
 refine cC (a:=⟨l,fun h=>h[j]?=some (.lst l)⟩) (h':=h) ?_ q
 unfold srcL
 simp only[e]
noncomputable def Lw (h:List Ob)(x:W)(l:List W):Prop:=x=.tl l\/ ∃j,x=.loc j/\h[j]?=some (.lst l)
theorem Lw.of {x:W}(p:Lw h x l):lstOf x h=.ok l h:=by
 rcases p with rfl|⟨j,rfl,e⟩
 ·rfl
 ·unfold lstOf;simp only[e]
theorem Lw.len {x:W}{k:W->M β}(p:Lw h x l)(q:Ok (k (.int l.length)) h Q):Ok (bd (lenW [x]) k) h Q:=by
 refine cC (a:=.int l.length) (h':=h) ?_ q
 have e:=p.of
 rcases p with rfl|⟨j,rfl,_⟩
 ·rfl
 ·show bd (lstOf (.loc j)) (fun l=>pr (W.int l.length)) h=_
  rw[gM e];rfl
theorem Lw.ix {x w:W}{i:Int}{k:W->M β}(p:Lw h x l)(e2:atI l i=some w)(q:Ok (k w) h Q):Ok (bd (ixW x (.int i)) k) h Q:=by
 rcases p with rfl|⟨j,rfl,e⟩
 ·rw[bY e2,bd_pr];exact q
 ·exact nO e e2 q
theorem Lw.isi {x:W}{c:String}{b:Bool}{k:W->M β}(p:Lw h x l)(hc:c∈tys)(hb:isT "list" c=b)(q:Ok (k (.bl b)) h Q):Ok (bd (isiW [x,.ty c]) k) h Q:=by
 refine cC (a:=.bl b) (h':=h) ?_ q
 subst hb
 rcases p with rfl|⟨j,rfl,e⟩
 ·show (if c∈tys then Rs.ok (W.bl (isT "list" c)) h else .bad)=_
  rw[if_pos hc]
 ·unfold isiW
  have:tyN (.loc j) h=some "list":=by unfold tyN;simp only[e]
  simp only[this,if_pos hc]
end
theorem hJ {x:Str}{ss:List Str}:inV (.str x) (ss.map V.str)=decide (x∈ss):=by
 unfold inV
 rw[Bool.eq_iff_iff,List.any_eq_true,decide_eq_true_eq]
 constructor
 ·rintro⟨v,hv,q⟩
  obtain⟨y,hy,rfl⟩:=List.mem_map.mp hv
  have:y=x:=by simpa [eqV] using q
  subst this;exact hy
 ·intro q
  exact⟨.str x,List.mem_map.mpr ⟨x,q,rfl⟩,by simp [eqV]⟩
theorem tm {x:Str}{ss:List Str}:inW (.str x) (.tl (ss.map W.str))=pr (.bl (decide (x∈ss))):=by
 funext h
 unfold inW
 have e:inB (.str x) (.tl (ss.map W.str)) h=some (decide (x∈ss)):=by
  show (match vOf (.str x),vsOf (ss.map W.str) with
   |some v,some vs=>some (inV v vs)
   |_,_=>none)=_
  rw[eJ (k:=V.str) (fun a=>rfl)]
  show some (inV (.str x) (ss.map V.str))=_
  rw[hJ]
 rw[e];rfl
theorem A9 {β:Type}{h:List Ob}{Q:β->List Ob->Prop}{j:Nat}{x:Str}{ss:List Str}{k:W->M β}(e:h[j]?=some (.lst (ss.map W.str)))(q:Ok (k (.bl (decide (x∈ss)))) h Q):Ok (bd (inW (.str x) (.loc j)) k) h Q:=by
 refine cC (a:=.bl (decide (x∈ss))) (h':=h) ?_ q
 unfold inW
 have d:dicOf (.loc j) h=none:=by unfold dicOf;simp only[e]
 have lo:lstOf (.loc j) h=.ok (ss.map W.str) h:=by unfold lstOf;simp only[e]
 have e:inB (.str x) (.loc j) h=some (decide (x∈ss)):=by
  unfold inB
  simp only[d,lo,eJ (g:=W.str) (k:=V.str) (fun a=>rfl) ss]
  show some (inV (.str x) (ss.map V.str))=_
  rw[hJ]
 rw[e]
theorem j4 {i:Int}(h0: -(2 ^ 62)<=i)(h1:i<2 ^ 62):rng1 [.int i]=pr ⟨intsW 0 i.toNat,fun _=>True⟩:=ay ⟨h0,h1⟩
theorem vC {i j:Int}(h0: -(2 ^ 62)<=i)(h1:i<2 ^ 62)(h2: -(2 ^ 62)<=j)(h3:j<2 ^ 62):rng2 [.int i,.int j]=pr ⟨intsW i (j - i).toNat,fun _=>True⟩:=ay ⟨h0,h1,h2,h3⟩
theorem wU {G:List Ob->Prop}{t:W->Env'->Option Env'}{g:Env'->M Fl}(I:Nat->Env'->List Ob->Prop)(l:List W)(hG: ∀i ρ h,I i ρ h->G h)
  (hs: ∀i w ρ h,l[i]?=some w->I i ρ h-> ∃r,t w ρ=some r/\Ok (g r) h fun x h'=> ∃r',x=.nx r'/\I (i+1) r' h'):
  ∀ (m:List W) (n:Nat) (ρ:Env') (h:List Ob),l.drop n=m->n<=l.length->I n ρ h->Ok (forM G t g m ρ) h fun x h'=> ∃r',x=.nx r'/\I l.length r' h'
 |[],n,ρ,h,e,hn,i=>by
  have:l.length<=n:=List.drop_eq_nil_iff.mp e
  have hn:n=l.length:=by omega
  subst hn
  refine⟨.nx ρ,h,?_,ρ,rfl,i⟩
  unfold forM
  rw[iB (hG _ _ _ i)];rfl
 |w::m,n,ρ,h,e,hn,i=>by
  have hw:l[n]?=some w:=by
   have:=congrArg List.head? e
   rw[List.head?_drop,List.head?_cons] at this
   exact this
  have hl:n<l.length:=(List.getElem?_eq_some_iff.mp hw).1
  have em:l.drop (n+1)=m:=by rw[<-List.tail_drop,e];rfl
  obtain⟨r,e1,x,h',e2,r',rfl,i'⟩:=hs n w ρ h hw i
  obtain⟨y,h2,e3,q⟩:=wU I l hG hs m (n+1) r' h' em hl i'
  refine⟨y,h2,?_,q⟩
  unfold forM
  rw[iB (hG _ _ _ i),e1]
  dsimp only
  rw[gM e2]
  exact e3
theorem eQ {β:Type}{G:List Ob->Prop}{t:W->Env'->Option Env'}{g:Env'->M Fl}{l:List W}{ρ:Env'}{h:List Ob}{k:Fl->M β}{Q:β->List Ob->Prop}(I:Nat->Env'->List Ob->Prop)(h0:I 0 ρ h)(hG: ∀i ρ h,I i ρ h->G h)
  (hs: ∀i w ρ h,l[i]?=some w->I i ρ h-> ∃r,t w ρ=some r/\Ok (g r) h fun x h'=> ∃r',x=.nx r'/\I (i+1) r' h')(hd: ∀ρ h,I l.length ρ h->Ok (k (.nx ρ)) h Q):Ok (bd (forM G t g l ρ) k) h Q:=
 bN (wU I l hG hs l 0 ρ h rfl (Nat.zero_le _) h0) fun x h' ⟨r',e,i⟩=>by subst e;exact hd r' h' i
theorem tV {G:List Ob->Prop}{t:W->Env'->Option Env'}{f:Env'->M Bool}{g:Env'->M W}{c:Nat}{ρ:Env'}(I:Nat->List W->List Ob->Prop)(l:List W)(hf: ∀r,f r=pr true)(hG: ∀i a h,I i a h->G h)
  (hs: ∀i w a h,l[i]?=some w->I i a h-> ∃r,t w (List.replicate c none++ρ)=some r/\Ok (g r) h fun v h'=>I (i+1) (a++[v]) h'):
  ∀ (m:List W) (n:Nat) (a:List W) (h:List Ob),l.drop n=m->n<=l.length->I n a h->Ok (compM G t f g c m ρ) h fun r h'=>I l.length (a++r) h'
 |[],n,a,h,e,hn,i=>by
  have:l.length<=n:=List.drop_eq_nil_iff.mp e
  have hn:n=l.length:=by omega
  subst hn
  refine⟨[],h,?_,by show I l.length (a++[]) h;rw[List.append_nil];exact i⟩
  unfold compM
  rw[iB (hG _ _ _ i)];rfl
 |w::m,n,a,h,e,hn,i=>by
  have hw:l[n]?=some w:=by
   have:=congrArg List.head? e
   rw[List.head?_drop,List.head?_cons] at this
   exact this
  have hl:n<l.length:=(List.getElem?_eq_some_iff.mp hw).1
  have em:l.drop (n+1)=m:=by rw[<-List.tail_drop,e];rfl
  obtain⟨r,e1,v,h',e2,i'⟩:=hs n w a h hw i
  obtain⟨y,h2,e3,q⟩:=tV I l hf hG hs m (n+1) (a++[v]) h' em hl i'
  refine⟨v::y,h2,?_,by show I l.length (a++v::y) h2;have q:I l.length (a++[v]++y) h2:=q;rw[List.append_assoc] at q;exact q⟩
  unfold compM
  rw[iB (hG _ _ _ i),e1]
  dsimp only
  rw[hf,bd_pr,if_pos rfl,gM e2,gM e3];rfl
theorem jo {β:Type}{G:List Ob->Prop}{t:W->Env'->Option Env'}{f:Env'->M Bool}{g:Env'->M W}{c:Nat}{ρ:Env'}{l:List W}{h:List Ob}{k:List W->M β}{Q:β->List Ob->Prop}(I:Nat->List W->List Ob->Prop)(h0:I 0 [] h)(hf: ∀r,f r=pr true)(hG: ∀i a h,I i a h->G h)
  (hs: ∀i w a h,l[i]?=some w->I i a h-> ∃r,t w (List.replicate c none++ρ)=some r/\Ok (g r) h fun v h'=>I (i+1) (a++[v]) h')(hd: ∀a h,I l.length a h->Ok (k a) h Q):Ok (bd (compM G t f g c l ρ) k) h Q:=
 bN (tV I l hf hG hs l 0 [] h rfl (Nat.zero_le _) h0) fun r h' i=>hd r h' i
theorem kF (r:Env'):mYes r=pr true:=rfl
structure Fr (j:Nat)(h h':List Ob):Prop where
 len:h'.length=h.length
 eq: ∀i,i≠j->h'[i]?=h[i]?
theorem cN {j:Nat}{h:List Ob}{a b:Ob}(e:h[j]?=some a):(h.set j b)[j]?=some b:=by
 rw[List.getElem?_set_self (List.getElem?_eq_some_iff.mp e).1]
theorem eA {j:Nat}{h:List Ob}{a:Ob}(e:h[j]?=some a):j<h.length:=(List.getElem?_eq_some_iff.mp e).1
theorem tu {j:Nat}{h r:List Ob}{a:Ob}(e:h[j]?=some a):(h++r)[j]?=some a:=by
 rw[List.getElem?_append_left (eA e)];exact e
theorem dO {h:List Ob}{a:Ob}:(h++[a])[h.length]?=some a:=by simp
theorem least {p:Nat->Prop}: ∀ {n:Nat},(∃r,r<n/\p r)-> ∃r,r<n/\p r/\ ∀j,j<r-> ¬p j
 |0,⟨_,h,_⟩=>absurd h (Nat.not_lt_zero _)
 |n+1,⟨r,h,q⟩=>by
  by_cases z: ∃r,r<n/\p r
  ·obtain⟨r,h1,h2,h3⟩:=least z
   exact⟨r,by omega,h2,h3⟩
  ·have:r=n:=by
    by_cases e:r<n
    ·exact absurd ⟨r,e,q⟩ z
    ·omega
   subst this
   exact⟨r,h,q,fun j hj hp=>z ⟨j,hj,hp⟩⟩
section
theorem qJ (l:List W):enumL [.tl l]=pr ⟨numd 0 l,fun _=>True⟩:=rfl
theorem qx (l:List W):lstOf (.tl l)=pr l:=rfl
theorem ix0 (a:W)(l:List W):ixW (.tup (a::l)) (.int 0)=pr a:=gh (br (by decide) rfl)
theorem ix1 (a b:W)(l:List W):ixW (.tup (a::b::l)) (.int 1)=pr b:=gh (br (by decide) rfl)
theorem ix2 (a b c:W)(l:List W):ixW (.tup (a::b::c::l)) (.int 2)=pr c:=gh (br (by decide) rfl)
theorem ix3 (a b c d:W)(l:List W):ixW (.tup (a::b::c::d::l)) (.int 3)=pr d:=gh (br (by decide) rfl)
theorem ix4 (a b c d e:W)(l:List W):ixW (.tup (a::b::c::d::e::l)) (.int 4)=pr e:=gh (br (by decide) rfl)
theorem ix5 (a b c d e f:W)(l:List W):ixW (.tup (a::b::c::d::e::f::l)) (.int 5)=pr f:=gh (br (by decide) rfl)
theorem yJ {α:Type}(f:α->W)(l:List α)(lo hi:Option Int):cutW (l.map f) lo hi=(cutW l lo hi).map f:=by
 unfold cutW
 rw[List.length_map,List.map_take,List.map_drop]
theorem yD (cs:List Int)(h:List Ob):eqB (.tl (cs.map W.int)) (.tl []) h=some cs.isEmpty:=by
 rw[uM (ds:=cs.map PyData.int) (es:=[]) (kS (f:=dataH h 49) (g:=W.int) (k:=PyData.int) (fun a=>rfl) cs) rfl (si cs fun p hp=>by rw[PyData.canLay0]) (by rw[PyData.canLayAll0])]
 cases cs with
 |nil=>rw[List.map_nil,PyData.eqvAll];rfl
 |cons a b=>rw[List.map_cons,PyData.eqvAll];rfl
end
end L2
namespace L2
open PySem PySem.Spec PyProof.Rows
section
variable {X:Cx}{E:XK}{p pos:Pos}
def srcA (j:Bool):W->M Sr:=match j with
 |true=>srcT
 |false=>srcL
theorem sA {j:Bool}{α β:Type}{r:Wo->α->β->Prop}{o:Wo}{w:W}{v:V}{k:Sr->M α}{Q:β->Hp->Prop}(R:Rel X.K o)(hr:Rv X.K o w v)(h:Ps (cg X E) r o (bd (srcA j w) k o.h) Q):
  ∃s a,v=.ref a/\(∃vs,SqK j X.K o.H a vs)/\(∀p,Ex o p->Rel X.K p->s.G p.h-> ∃vs,SqK j X.K p.H a vs/\Rvs X.K p s.l vs)/\Ps (cg X E) r o (k s o.h) Q:=by
 cases j with
 |false=>exact sy R hr h
 |true=>
  cases w with
  |tup l=>
   unfold Rv at hr
   obtain⟨a,vs,rfl,s,r'⟩:=hr
   exact⟨⟨l,fun _=>True⟩,a,rfl,⟨vs,s⟩,fun p X _ _=>⟨vs,X.rdT R s,r'.mono R X⟩,h⟩
  |_=>exact h.elim
noncomputable def zipW (l m:List W):List W:=List.zipWith (fun a b=>.tup [a,b]) l m
theorem uW {l m:List W}{i:Nat}{w:W}(e:(zipW l m)[i]?=some w): ∃x y,l[i]?=some x/\m[i]?=some y/\w=.tup [x,y]:=by
 unfold zipW at e
 rw[List.getElem?_zipWith] at e
 cases h1:l[i]? with
 |none=>rw[h1] at e;cases e
 |some x=>
  cases h2:m[i]? with
  |none=>rw[h1,h2] at e;cases e
  |some y=>rw[h1,h2] at e;cases e;exact⟨x,y,rfl,rfl,rfl⟩
def srcZ (j k:Bool)(ws:List W):M Sr:=match ws with
 |[x,y]=>bd (srcA j x) fun s=>bd (srcA k y) fun t=>pr ⟨zipW s.l t.l,fun h=>s.G h/\t.G h⟩
 |_=>no
theorem Al (j k:Bool){a b:Expr}{elts:List Expr}{x1}{tpos:Pos}{fl:Env'->M (List W)}(hm:X.mg "zip"=none)(ha:JA X E [a,b] fl)(hg:Gl X "zip":=by rfl)(hs:starEach [a,b] X.env=[(false,eval a X.env),(false,eval b X.env)]:=by rfl)(hs2:starEach [b] X.env=[(false,eval b X.env)]:=by rfl):
  JI X E (.Tuple elts x1 tpos) (.Call (.Name "zip" p) [a,b] [] pos) (mSrcA fl (srcZ j k)):=(zJ (j:=j) (k:=k) hg hm ha.h hs hs2).imp fun σ H Q h=>by
 obtain⟨o,ρ,rfl,R,S,h⟩:=h
 refine⟨o,ρ,rfl,R,S,Ps.bd h fun p x vx e1 R1 r1 h1=>?_⟩
 rcases x with _|⟨w,_|⟨w2,_|⟨_,_⟩⟩⟩
 ·exact h1.elim
 ·exact h1.elim
 ·have h1:Ps (cg X E) (fun p s J=>SrcOk X.K p J s) p (bd (srcA j w) (fun s=>bd (srcA k w2) fun t=>pr ⟨zipW s.l t.l,fun h=>s.G h/\t.G h⟩) p.h) Q:=h1
  obtain⟨v,u,rfl,rv,ru⟩:=r1.two
  obtain⟨s,a,rfl,hq,sk,h1⟩:=sA R1 rv h1
  obtain⟨t,b,rfl,hq2,sk2,h1⟩:=sA R1 ru h1
  refine⟨a,b,rfl,hq,hq2,h1.pr R1 ⟨fun o X R g=>?_,fun o i w X R g e=>?_⟩⟩
  ·obtain⟨vs,k1,k2⟩:=sk o X R g.1
   obtain⟨us,k3,k4⟩:=sk2 o X R g.2
   exact⟨vs,us,k1,k3,by rw[k2.len,k4.len];show _=(zipW s.l t.l).length;unfold zipW;rw[List.length_zipWith]⟩
  ·obtain⟨vs,k1,k2⟩:=sk o X R g.1
   obtain⟨us,k3,k4⟩:=sk2 o X R g.2
   obtain⟨x,y,ex,ey,rfl⟩:=uW e
   obtain⟨v1,hv1,rv1⟩:=k2.get ex
   obtain⟨v2,hv2,rv2⟩:=k4.get ey
   refine⟨⟨vs,us,v1,v2,k1,k3,hv1,hv2⟩,fun q H' yl=>?_⟩
   obtain⟨T,z1,z2,hT,rfl,hz,rfl⟩:=yl
   obtain⟨g1,g2⟩:=hz vs us k1 k3
   have e1:z1=v1:=Option.some.inj (g1.symm.trans hv1)
   have e2:z2=v2:=Option.some.inj (g2.symm.trans hv2)
   subst e1 e2
   refine⟨⟨o.mu,o.h,upd o.H T (.tup [z1,z2])⟩,rfl,rfl,Ex.new hT,R.new hT,Rv.newT R hT (Rvs.cons rv1 (Rvs.cons rv2 Rvs.nil))⟩
 ·exact h1.elim
variable {o e:Expr}{apos cpos:Pos}{fo:Env'->M W}{l:Env'->M (List W)}
def ku (x:W)(ws:List W):M W:=match x,ws with
 |.loc k,[w]=>bd (lstO w) fun m h=>match h[k]? with
  |some (.lst l)=>if l.length+m.length<=sizeLine then .ok .non (h.set k (.lst (l++m))) else .bad
  |_=>.bad
 |_,_=>no
theorem nS (ho:JE X E o fo)(ha:JA X E [e] l)(hbase:attributeBase o "extend" X.env (eval o X.env)=eval o X.env:=by rfl)
  (hfew:((backTo cpos (starEach [e] X.env)).all (fun x=>!x.1) && (backToKw cpos (keywordEach [] X.env)).all (fun x=>x.1.isSome) && decide (([e]:List Expr).length+([]:List Keyword).length+(if ([]:List Keyword).isEmpty then 0 else 1)<30))=true:=by rfl)
  (hline:(apos.endLine==cpos.line)=true:=by rfl)(hs:starEach [e] X.env=(false,eval e X.env)::starEach [] X.env:=by rfl)(hplain:(backTo cpos (starEach [] X.env)).any (·.1)=false:=by rfl):
  JE X E (.Call (.Attribute o "extend" apos) [e] [] cpos) (mMeth isL ku fo l):=
 (qg PySem.F.plainAttrs_list PySem.F.slot_list_extend PySem.F.type_list_extend ut ho.h ha.h hbase hfew hline hs hplain).imp fun σ H Q h=>by
  obtain⟨w,ρ,rfl,R,S,h⟩:=h
  refine⟨w,ρ,rfl,R,S,Ps.bd h fun p x vx e1 R1 r1 h1=>?_⟩
  obtain⟨j,l0,vs0,rfl,hj,rfl,hlt,hH,hl0,h1⟩:=wH R1 r1 h1
  refine⟨.inl ⟨rfl,vs0,.of hH⟩,p,ρ,rfl,R1,S.mono R e1,Ps.bd h1 fun q ws vs e2 R2 r2 h2=>?_⟩
  rcases ws with _|⟨w',_|⟨_,_⟩⟩
  ·exact h2.elim
  ·obtain⟨v,rfl,r⟩:=r2.one
   have h2:Ps (cg X E) (Rv X.K) q (bd (lstO w') (fun m h=>match h[j]? with
    |some (.lst l)=>if l.length+m.length<=sizeLine then .ok .non (h.set j (.lst (l++m))) else .bad
    |_=>.bad) q.h) Q:=h2
   obtain⟨m,am,us',rfl,hm,rm,h2⟩:=gg R2 r h2
   cases e:q.h[j]? with
   |none=>simp only[e] at h2;exact h2.elim
   |some b=>
    cases b with
    |lst l'=>
     simp only[e] at h2
     obtain⟨us,k1,k2⟩:=R2.ob j _ e
     by_cases z:l'.length+m.length<=sizeLine
     ·rw[if_pos z] at h2
      rw[e2.mu j hlt] at k1
      refine⟨p.mu j,am,us,us',rfl,rfl,k1,hm,by rw[k2.len,rm.len];exact z,?_⟩
      have:=Ps.at (p:=q.put j (.lst (l'++m)) (.lst (us++us'))) (b:=V.non) h2 rfl (Ex.put e (by simp)) (R2.putL e (by simp) (k2.app rm)) (rv_non.mpr rfl)
      have em:q.mu j=p.mu j:=e2.mu j hlt
      have ew:(q.put j (.lst (l'++m)) (.lst (us++us'))).H=upd q.H (p.mu j) (.lst (us++us')):=by
       show upd q.H (q.mu j) _=_
       rw[em]
      rw[ew] at this
      exact this
     ·rw[if_neg z] at h2;exact h2.elim
    |_=>simp only[e] at h2;exact h2.elim
  ·exact h2.elim
def isTu (w:W):M W:=match w with
 |.tup l=>pr (.tup l)
 |_=>no
def catTW (x y:W):M W:=match x,y with
 |.tup a,.tup b=>if a.isEmpty=true then pr (.tup b) else gd (a.length+b.length<=sizeLine) (pr (.tup (a++b)))
 |_,_=>no
theorem vT:OpM X E (fun x y H Q=>rCat0 X.K x y H Q\/rCatT X.K x y H Q) catTW:=by
 intro o x y vx vy Q R rx ry h
 unfold catTW at h
 split at h
 ·rename_i a b
  have rx0:=rx
  have ry0:=ry
  unfold Rv at rx ry
  obtain⟨p,vs,rfl,s1,r1⟩:=rx
  obtain⟨q,us,rfl,s2,r2⟩:=ry
  cases a with
  |nil=>
   have h:Ps (cg X E) (Rv X.K) o (pr (W.tup b) o.h) Q:=h
   unfold Rvs at r1
   subst r1
   exact .inl ⟨p,q,us,rfl,rfl,s1,s2,h.pr R ry0⟩
  |cons w a=>
   have h:Ps (cg X E) (Rv X.K) o (gd ((w::a).length+b.length<=sizeLine) (pr (W.tup ((w::a)++b))) o.h) Q:=h
   obtain⟨hz,h⟩:=h.gd
   refine .inr ⟨p,q,vs,us,rfl,rfl,s1,s2,fun z=>?_,by rw[r1.len,r2.len];exact hz,fun z=>?_,fun z c hc=>?_⟩
   ·have:=r1.len
    rw[z] at this
    cases this
   ·subst z
    have lb:=r2.len
    have:b=[]:=List.length_eq_zero_iff.mp lb.symm
    subst this
    rw[List.append_nil] at h
    exact h.pr R rx0
   ·exact j6 R hc (r1.app r2) h
 ·exact h.elim
theorem yk {a b:Expr}{pos:Pos}{fa fb:Env'->M W}(ha:JE X E a fa)(hb:JE X E b fb):JE X E (.BinOp a .Add b pos) (m2 catTW fa fb):=mU (op_cat0.or op_catT) vT ha hb
theorem g7 {x:Str}{a:Addr}{zs:List Str}{pos:Pos}(hm:X.mg x=some (.ref a))(hq: ∀H,SqT X.K H a (zs.map V.str))(hg:Gl X x:=by rfl)(hd:(x==("__debug__":Str))=false:=by decide):JE X E (.Name x pos) (mC (.tup (zs.map W.str))):=
 dA (v:=.ref a) hg hm rfl (fun o=>by
  unfold Rv
  refine⟨a,_,rfl,hq _,?_⟩
  induction zs with
  |nil=>exact Rvs.nil
  |cons z zs ih=>exact Rvs.cons (rv_str.mpr rfl) (iZ zs)) hd
where
 iZ {K:PySem.W.Frag}{o:Wo}: ∀zs:List Str,Rvs K o (zs.map W.str) (zs.map V.str)
  |[]=>Rvs.nil
  |z::zs=>Rvs.cons (rv_str.mpr rfl) (iZ zs)
end
section
section
variable {X:Cx}{E:XK}{o e e2:Expr}{apos cpos:Pos}{fo:Env'->M W}{l:Env'->M (List W)}
end
theorem tE {G:List Ob->Prop}{t:W->Env'->Option Env'}{g:Env'->M Fl}(I:Nat->Env'->List Ob->Prop)(J:W->List Ob->Prop)(l:List W)(hG: ∀i ρ h,I i ρ h->G h)
  (hs: ∀i w ρ h,l[i]?=some w->I i ρ h-> ∃r,t w ρ=some r/\Ok (g r) h fun x h'=>(∃r',x=.nx r'/\I (i+1) r' h')\/ ∃v,x=.rt v/\J v h'):
  ∀ (m:List W) (n:Nat) (ρ:Env') (h:List Ob),l.drop n=m->n<=l.length->I n ρ h->Ok (forM G t g m ρ) h fun x h'=>(∃r',x=.nx r'/\I l.length r' h')\/ ∃v,x=.rt v/\J v h'
 |[],n,ρ,h,e,hn,i=>by
  have:l.length<=n:=List.drop_eq_nil_iff.mp e
  have hn:n=l.length:=by omega
  subst hn
  refine⟨.nx ρ,h,?_,.inl ⟨ρ,rfl,i⟩⟩
  unfold forM
  rw[iB (hG _ _ _ i)];rfl
 |w::m,n,ρ,h,e,hn,i=>by
  have hw:l[n]?=some w:=by
   have:=congrArg List.head? e
   rw[List.head?_drop,List.head?_cons] at this
   exact this
  have hl:n<l.length:=(List.getElem?_eq_some_iff.mp hw).1
  have em:l.drop (n+1)=m:=by rw[<-List.tail_drop,e];rfl
  obtain⟨r,e1,x,h',e2,⟨r',rfl,i'⟩|⟨v,rfl,j'⟩⟩:=hs n w ρ h hw i
  ·obtain⟨y,h2,e3,q⟩:=tE I J l hG hs m (n+1) r' h' em hl i'
   refine⟨y,h2,?_,q⟩
   unfold forM
   rw[iB (hG _ _ _ i),e1]
   dsimp only
   rw[gM e2]
   exact e3
  ·refine⟨.rt v,h',?_,.inr ⟨v,rfl,j'⟩⟩
   unfold forM
   rw[iB (hG _ _ _ i),e1]
   dsimp only
   rw[gM e2];rfl
theorem sQ {β:Type}{G:List Ob->Prop}{t:W->Env'->Option Env'}{g:Env'->M Fl}{l:List W}{ρ:Env'}{h:List Ob}{k:Fl->M β}{Q:β->List Ob->Prop}(I:Nat->Env'->List Ob->Prop)(J:W->List Ob->Prop)(h0:I 0 ρ h)(hG: ∀i ρ h,I i ρ h->G h)
  (hs: ∀i w ρ h,l[i]?=some w->I i ρ h-> ∃r,t w ρ=some r/\Ok (g r) h fun x h'=>(∃r',x=.nx r'/\I (i+1) r' h')\/ ∃v,x=.rt v/\J v h')(hd: ∀ρ h,I l.length ρ h->Ok (k (.nx ρ)) h Q)(hr: ∀v h,J v h->Ok (k (.rt v)) h Q):Ok (bd (forM G t g l ρ) k) h Q:=
 bN (tE I J l hG hs l 0 ρ h rfl (Nat.zero_le _) h0) fun x h' q=>by
  rcases q with⟨r',rfl,i⟩|⟨v,rfl,j⟩
  ·exact hd r' h' i
  ·exact hr v h' j
end
section
section
variable {X:Cx}{E:XK}{a b:Expr}{p p2 pos pos2:Pos}
end
end
section
section
variable {X:Cx}{E:XK}
theorem oQ:OpR X (compareOp .IsNot) (fun x y H Q=> ∃c d,x=.bl c/\y=.bl d/\Q (.bl (!(c==d))) H):=by
 intro pins s σ H x y v u Q I rx ry h
 obtain⟨c,d,rfl,rfl,q⟩:=h
 cases rx
 cases ry
 exact isnot_bool (bG I q rfl)
def isBW (x y:W):M W:=match x,y with
 |.bl c,.bl d=>pr (.bl (c==d))
 |_,_=>no
def notBW (x y:W):M W:=match x,y with
 |.bl c,.bl d=>pr (.bl (!(c==d)))
 |_,_=>no
theorem my:OpM X E (fun x y H Q=> ∃c d,x=.bl c/\y=.bl d/\Q (.bl (!(c==d))) H) notBW:=by
 intro o x y vx vy Q R rx ry h
 unfold notBW at h
 split at h
 ·exact⟨_,_,rv_bl.mp rx,rv_bl.mp ry,h.pr R (rv_bl.mpr rfl)⟩
 ·exact h.elim
end
section
variable {β:Type}{h:List Ob}{Q:β->List Ob->Prop}{x:W}{l:List W}
theorem Lw.src {k:Sr->M β}(p:Lw h x l)(q:∀G,(∀h',Lw h' x l->G h')->Ok (k ⟨l,G⟩) h Q):Ok (bd (srcL x) k) h Q:=by
 rcases p with rfl|⟨j,rfl,e⟩
 ·show Ok (bd (pr ⟨l,fun _=>True⟩) k) h Q
  rw[ck];exact q _ fun _ _=>trivial
 ·refine oS e (q _ fun h' r=>?_)
  rcases r with r|⟨i,r,e'⟩
  ·cases r
  ·cases r;exact e'
theorem Lw.keep {h':List Ob}(p:Lw h x l)(q:∀i,i<h.length->h'[i]?=h[i]?):Lw h' x l:=by
 rcases p with rfl|⟨j,rfl,e⟩
 ·exact .inl rfl
 ·exact .inr ⟨j,rfl,(q j (eA e)).trans e⟩
end
theorem Lw.len_eq {β:Type}{h:List Ob}{Q:β->List Ob->Prop}{x:W}{l:List W}{k:W->M β}{N:Int}(p:Lw h x l)(hN:N=(l.length:Int))(q:Ok (k (.int N)) h Q):Ok (bd (lenW [x]) k) h Q:=by
 subst hN;exact p.len q
end
section
noncomputable def lookF:List Str->List W->Str->Option W
 |n::ns,w::ws,f=>if f=n then some w else lookF ns ws f
 |_,_,_=>none
noncomputable def putN:List Str->List W->Str->W->List Str×List W
 |n::ns,w::ws,f,y=>if n=f then (n::ns,y::ws) else (n::(putN ns ws f y).1,w::(putN ns ws f y).2)
 |_,_,f,y=>([f],[y])
section
variable {K:PySem.W.Frag}{o:Wo}
theorem qA {f:Str}{w:W}: ∀ {fs:List (Str×V)}{ns:List Str}{ws:List W},fs.map (·.1)=ns->Rvs K o ws (fs.map (·.2))->lookF ns ws f=some w-> ∃v,fs.lookup f=some v/\Rv K o w v
 |[],_,ws,e,_,h=>by subst e;cases ws<;>cases h
 |(g,x)::fs,_,[],e,r,h=>by subst e;cases h
 |(g,x)::fs,_,y::ws,e,r,h=>by
  subst e
  unfold Rvs at r
  obtain⟨v,t,e2,r1,r2⟩:=r
  cases e2
  have h:(if f=g then some y else lookF (fs.map (·.1)) ws f)=some w:=h
  by_cases z:f=g
  ·rw[if_pos z] at h
   cases h
   exact⟨x,by rw[List.lookup_cons,z];simp,r1⟩
  ·rw[if_neg z] at h
   obtain⟨v,e3,r3⟩:=qA rfl r2 h
   refine⟨v,?_,r3⟩
   rw[List.lookup_cons,show (f==g)=false by simpa using z]
   exact e3
theorem qB {f:Str}: ∀ {fs:List (Str×V)},f ∉ fs.map (·.1)->fs.lookup f=none
 |[],_=>rfl
 |(g,x)::fs,h=>by
  rw[List.map_cons,List.mem_cons,not_or] at h
  rw[List.lookup_cons,show (f==g)=false by simpa using h.1]
  exact qB h.2
theorem sL {f:Str}{y:W}{v:V}(hy:Rv K o y v): ∀ {fs:List (Str×V)}{ns:List Str}{ws:List W},fs.map (·.1)=ns->Rvs K o ws (fs.map (·.2))->(putF f v fs).map (·.1)=(putN ns ws f y).1/\Rvs K o (putN ns ws f y).2 ((putF f v fs).map (·.2))
 |[],_,[],e,r=>by subst e;exact⟨rfl,Rvs.cons hy Rvs.nil⟩
 |[],_,w::ws,e,r=>by unfold Rvs at r;obtain⟨_,_,e2,_⟩:=r;cases e2
 |(g,x)::fs,_,[],e,r=>by unfold Rvs at r;cases r
 |(g,x)::fs,_,w::ws,e,r=>by
  subst e
  unfold Rvs at r
  obtain⟨u,t,e2,r1,r2⟩:=r
  cases e2
  show (List.map (·.1) (if g=f then (g,v)::fs else (g,x)::putF f v fs))=(if g=f then (g::fs.map (·.1),y::ws) else (g::(putN (fs.map (·.1)) ws f y).1,w::(putN (fs.map (·.1)) ws f y).2)).1/\Rvs K o (if g=f then (g::fs.map (·.1),y::ws) else (g::(putN (fs.map (·.1)) ws f y).1,w::(putN (fs.map (·.1)) ws f y).2)).2 ((if g=f then (g,v)::fs else (g,x)::putF f v fs).map (·.2))
  by_cases z:g=f
  ·rw[if_pos z,if_pos z]
   exact⟨rfl,Rvs.cons hy r2⟩
  ·rw[if_neg z,if_neg z]
   obtain⟨a,b⟩:=sL hy (fs:=fs) rfl r2
   exact⟨by rw[List.map_cons,a],Rvs.cons r1 b⟩
theorem Rel.putI (R:Rel K o){k:Nat}{b:Ob}{c:Str}{C dx:Addr}{ns:List Str}{ws:List W}{fs:List (Str×V)}(hk:o.h[k]?=some b)(hb:b≠.gone)(hn:nsIn K mainGlobals c=some (some (.ref C)))(h1:fs.map (·.1)=ns)(hl:Rvs K o ws (fs.map (·.2))):Rel K (o.put k (.ins c ns ws) (.ins C dx fs)):=
 R.put hk hb ⟨C,dx,fs,hn,bb,h1,hl.mono R (Ex.put hk hb)⟩
end
section
variable {X:Cx}{E:XK}
def insG (c:Str)(x:W):M (Nat×List Str×List W):=match x with
 |.loc k=>fun h=>match h[k]? with
  |some (.ins c' ns ws)=>if c'=c then .ok (k,ns,ws) h else .bad
  |_=>.bad
 |_=>no
theorem pp {α β:Type}{r:Wo->α->β->Prop}{c:Str}{C:Addr}{o:Wo}{x:W}{v:V}{k:Nat×List Str×List W->M α}{Q:β->Hp->Prop}(hn:nsIn X.K mainGlobals c=some (some (.ref C)))(R:Rel X.K o)(hr:Rv X.K o x v)(h:Ps (cg X E) r o (bd (insG c x) k o.h) Q):
  ∃ (j:Nat) (ns:List Str) (ws:List W) (dx:Addr) (fs:List (Str×V)),x=.loc j/\j<o.h.length/\o.h[j]?=some (.ins c ns ws)/\v=.ref (o.mu j)/\o.H (o.mu j)=some (.ins C dx fs)/\fs.map (·.1)=ns/\Rvs X.K o ws (fs.map (·.2))/\Ps (cg X E) r o (k (j,ns,ws) o.h) Q:=by
 cases x with
 |loc j=>
  unfold Rv at hr
  obtain⟨hj,rfl⟩:=hr
  unfold insG bd at h
  cases e:o.h[j]? with
  |none=>simp only[e] at h;exact h.elim
  |some b=>
   cases b with
   |ins c' ns ws=>
    simp only[e] at h
    by_cases z:c'=c
    ·subst z
     rw[if_pos rfl] at h
     obtain⟨C',dx,fs,q1,q2,q3,q4⟩:=R.ob j _ e
     rw[hn] at q1
     cases q1
     exact⟨j,ns,ws,dx,fs,rfl,hj,e,rfl,q2,q3,q4,h⟩
    ·rw[if_neg z] at h;exact h.elim
   |_=>simp only[e] at h;exact h.elim
 |_=>exact h.elim
def fldG (c f:Str)(x:W):M W:=bd (insG c x) fun t=>match lookF t.2.1 t.2.2 f with
 |some w=>pr w
 |none=>no
def putG (c f:Str)(x y:W):M Unit:=bd (insG c x) fun t=>fun h=>if t.2.1.length<1000 then .ok () (h.set t.1 (.ins c (putN t.2.1 t.2.2 f y).1 (putN t.2.1 t.2.2 f y).2)) else .bad
variable {c f:Str}{C:Addr}{o:Expr}{fo:Env'->M W}{pos pos':Pos}
theorem c8 (hn:nsIn X.K mainGlobals c=some (some (.ref C)))(cl:Cls X.K C)(na:NoAttr X.K C f)(ho:JE X E o fo)(hb:attributeBase o f X.env (eval o X.env)=eval o X.env:=by rfl):JE X E (.Attribute o f pos) (m1 (fldG c f) fo):=
 (gS ho.h hb).imp fun σ H Q h=>by
  obtain⟨w,ρ,rfl,R,S,h⟩:=h
  refine⟨w,ρ,rfl,R,S,Ps.bd h fun p x vx e1 R1 r1 h1=>?_⟩
  obtain⟨j,ns,ws,dx,fs,rfl,hj,e,rfl,q2,q3,q4,h1⟩:=pp hn R1 r1 h1
  cases l:lookF ns ws f with
  |none=>simp only[l] at h1;exact h1.elim
  |some y=>
   simp only[l] at h1
   obtain⟨v,lv,rv⟩:=qA q3 q4 l
   exact⟨_,C,dx,fs,v,rfl,q2,cl,na,lv,h1.pr R1 rv⟩
def sFldW (c f:Str)(fo fv:Env'->M W):Env'->M Fl:=fun ρ=>bd (fv ρ) fun y=>bd (fo ρ) fun x=>bd (putG c f x y) fun _=>pr (.nx ρ)
theorem xL {D:Ends}{p:Wo}{x y:W}{vx vy:V}{ρ:Env'}{σ:St}(hn:nsIn X.K mainGlobals c=some (some (.ref C)))(R:Rel X.K p)(S:Re X.K p ρ σ)(rx:Rv X.K p x vx)(ry:Rv X.K p y vy)(h:Ps (cg X E) (RFl X.K) p (bd (putG c f x y) (fun _=>pr (.nx ρ)) p.h) (DQ D)):
  ∃a dx fs,vx=.ref a/\p.H a=some (.ins C dx fs)/\fs.length<1000/\D.nx σ (upd p.H a (.ins C dx (putF f vy fs))):=by
 unfold putG at h
 rw[aa] at h
 obtain⟨j,ns,ws,dx,fs,rfl,hj,e,rfl,q2,q3,q4,h⟩:=pp hn R rx h
 have ln:fs.length=ns.length:=by rw[<-q3,List.length_map]
 by_cases z:ns.length<1000
 ·have h:Ps (cg X E) (RFl X.K) p (.ok (.nx ρ) (p.h.set j (.ins c (putN ns ws f y).1 (putN ns ws f y).2))) (DQ D):=by
   have e2:(bd (fun h=>if ns.length<1000 then Rs.ok () (h.set j (.ins c (putN ns ws f y).1 (putN ns ws f y).2)) else .bad) (fun _=>pr (Fl.nx ρ)) p.h)=.ok (.nx ρ) (p.h.set j (.ins c (putN ns ws f y).1 (putN ns ws f y).2)):=by
    unfold bd
    simp only[if_pos z];rfl
   rw[<-e2];exact h
  obtain⟨a,b⟩:=sL ry q3 q4
  refine⟨p.mu j,dx,fs,rfl,q2,by omega,?_⟩
  exact Ps.at (p:=p.put j (.ins c (putN ns ws f y).1 (putN ns ws f y).2) (.ins C dx (putF f vy fs))) (b:=FlV.nx σ) h rfl (Ex.put e (by simp)) (R.putI e (by simp) hn a b) ⟨σ,rfl,S.mono R (Ex.put e (by simp))⟩
 ·have e2:(bd (fun h=>if ns.length<1000 then Rs.ok () (h.set j (.ins c (putN ns ws f y).1 (putN ns ws f y).2)) else .bad) (fun _=>pr (Fl.nx ρ)) p.h)=.bad:=by
   unfold bd
   simp only[if_neg z]
  have h:Ps (cg X E) (RFl X.K) p (bd (fun h=>if ns.length<1000 then Rs.ok () (h.set j (.ins c (putN ns ws f y).1 (putN ns ws f y).2)) else .bad) (fun _=>pr (Fl.nx ρ)) p.h) (DQ D):=h
  rw[e2] at h
  exact h.elim
variable {value:Expr}{fv:Env'->M W}{tpos:Pos}
theorem mQ (hn:nsIn X.K mainGlobals c=some (some (.ref C)))(cl:Cls X.K C)(na:NoAttr X.K C f)(ho:JE X E o fo)(hv:JE X E value fv)(hs:swapsWith value (some (.Attribute o f pos')) pos.line X.env=pure false:=by rfl):JS X E (.Assign [.Attribute o f pos'] value pos) (sFldW c f fo fv):=
 (rE ho.h hv.h hs).imp fun D σ H h=>by
  obtain⟨w,ρ,rfl,R,S,h⟩:=h
  refine⟨w,ρ,rfl,R,S,Ps.bd h fun p y vy e1 R1 r1 h1=>⟨p,ρ,rfl,R1,S.mono R e1,Ps.bd h1 fun q x vx e2 R2 r2 h2=>?_⟩⟩
  obtain⟨a,dx,fs,ex,q1,q2,q3⟩:=xL hn R2 ((S.mono R e1).mono R1 e2) r2 (r1.mono R1 e2) h2
  exact⟨a,C,dx,fs,ex,q1,cl,na,q2,q3⟩
def addI (x y:W):M W:=match x,y with
 |.int i,.int j=>pr (.int (i+j))
 |_,_=>no
def sAugW (c f:Str)(fo fv:Env'->M W):Env'->M Fl:=fun ρ=>bd (fo ρ) fun x=>bd (fldG c f x) fun v=>bd (fv ρ) fun y=>bd (addI v y) fun z=>bd (putG c f x z) fun _=>pr (.nx ρ)
structure CGm (P:Program)(w:World)(K:PySem.W.Frag)(mg:Str->Option Value)(base:Heap)(k:Nat)(C:Addr)(m:Str)(f:Addr)(fd:FuncData)(ps:List Str)(n:Nat)(fn:List W->M W):Prop where
 ok:FnOk P w K mg base CX0 k f fd ps (spM0 K mg n fn)
 bi:Binds K fd ps []
 me:Meth K C m f
def isI (c m:Str)(x:W):M W:=bd (insG c x) fun t=>if m∈t.2.1 then no else pr x
def mMet (c m:Str)(n:Nat)(fn:List W->M W)(fo:Env'->M W)(l:Env'->M (List W)):Env'->M W:=fun ρ=>bd (fo ρ) fun x=>bd (isI c m x) fun x=>bd (l ρ) fun ws=>arW n fn (x::ws)
theorem wI {α β:Type}{r:Wo->α->β->Prop}{m:Str}{p:Wo}{x:W}{v:V}{k:W->M α}{Q:β->Hp->Prop}(hn:nsIn X.K mainGlobals c=some (some (.ref C)))(R:Rel X.K p)(hr:Rv X.K p x v)(h:Ps (cg X E) r p (bd (isI c m x) k p.h) Q):
  ∃a dx fs,v=.ref a/\p.H a=some (.ins C dx fs)/\fs.lookup m=none/\Ps (cg X E) r p (k x p.h) Q:=by
 unfold isI at h
 rw[aa] at h
 obtain⟨j,ns,ws,dx,fs,rfl,hj,e,rfl,q2,q3,q4,h⟩:=pp hn R hr h
 by_cases z:m∈ns
 ·simp only[if_pos z] at h
  exact h.elim
 ·simp only[if_neg z,ck] at h
  exact⟨_,dx,fs,rfl,q2,qB (by rw[q3];exact z),h⟩
end
section
variable {X:Cx}{c m:Str}{C fA:Addr}{fd:FuncData}{ps:List Str}{k n:Nat}{fn:List W->M W}{o e:Expr}{es:List Expr}{fo:Env'->M W}{l:Env'->M (List W)}{pos apos p:Pos}
theorem lf {pl:Sem Bool}(hn:nsIn X.K mainGlobals c=some (some (.ref C)))(cl:Cls X.K C)(F:CGm X.prog X.w X.K X.mg X.base k C m fA fd ps n fn)(hr:Room k X.A)(ho:JE X E0 o fo)(ha:JA X E0 (e::es) l)
  (hst:starEach (e::es) X.env=(false,eval e X.env)::starEach es X.env:=by rfl)(hpl:(backTo pos (starEach es X.env)).any (·.1)=false:=by rfl)
  (ht:eval (.Call (.Attribute o m apos) (e::es) [] pos) X.env=(do
   let ov<-eval o X.env
   standAt apos.atName
   let (f,first)<-holding [ov] (getMethod ov m pl)
   callWith pos f first (backTo pos (starEach (e::es) X.env)) (backToKw pos (keywordEach [] X.env))):=by rfl):
  JE X E0 (.Call (.Attribute o m apos) (e::es) [] pos) (mMet c m n fn fo l):=(ip ho.h cl F.me F.ok hr F.bi .nil pass0 ha.h hst hpl ht).imp fun σ H Q h=>by
 obtain⟨w,ρ,rfl,R,S,h⟩:=h
 refine⟨w,ρ,rfl,R,S,Ps.bd h fun p x vx e1 R1 r1 h1=>?_⟩
 obtain⟨a,dx,fs,rfl,q1,q2,h1⟩:=wI hn R1 r1 h1
 refine⟨a,dx,fs,rfl,q1,q2,p,ρ,rfl,R1,S.mono R e1,Ps.bd h1 fun q ws vs e2 R2 r2 h2=>?_⟩
 unfold arW at h2
 by_cases z:(x::ws).length=n
 ·rw[if_pos z] at h2
  exact⟨q,x::ws,rfl,z,R2,by rw[List.append_nil];exact Rvs.cons (r1.mono R1 e2) r2,h2⟩
 ·rw[if_neg z] at h2
  exact h2.elim
def mMake (c:Str)(n:Nat)(fn:List W->M W)(l:Env'->M (List W)):Env'->M W:=fun ρ=>bd (l ρ) fun ws=>fun h=>match arW n fn (.loc h.length::ws) (h++[.ins c [] []]) with
 |.ok .non h'=>.ok (.loc h.length) h'
 |_=>.bad
theorem Rv.addLocI {K:PySem.W.Frag}{o:Wo}{q:Addr}{b:Ob}{u:HO}:Rv K (o.add q b u) (.loc o.h.length) (.ref q):=by
 unfold Rv
 refine⟨by show _<(o.h++[b]).length;simp,?_⟩
 show V.ref q=V.ref (if o.h.length=o.h.length then q else o.mu o.h.length)
 rw[if_pos rfl]
end
end
end L2
namespace PySem
open Sem (wp)
section
variable {prog:Program}{w:World}{K:Type} [DecidableEq K] {knd:KeyKind prog w K}{A:Around}{R:Result->Shared->Prop}
end
end PySem
namespace L2
open PySem PySem.Spec PyProof.Rows
section
variable {X:Cx}
end
section
section
variable {K:PySem.W.Frag}{o:Wo}
end
section
variable {X:Cx}{E:XK}{a:Expr}{p pos:Pos}{l:Env'->M (List W)}
end
end
section
section
variable {X:Cx}{E:XK}{e:Expr}{f:Env'->M W}{pos:Pos}
def sAug (i:Nat)(f:Env'->M W):Env'->M Fl:=fun ρ=>bd (mVar i ρ) fun x=>bd (f ρ) fun y=>bd (addI x y) fun z=>pr (.nx (ρ.set i (some z)))
end
theorem iO {es:List Expr}{env:Env}{a o p}:starEach (.Attribute a o p::es) env=(false,eval (.Attribute a o p) env)::starEach es env:=by rfl
end
end L2
namespace L2
open PySem
section
variable {β:Type}{h:List Ob}{Q:β->List Ob->Prop}{j d:Nat}
theorem oY {c:Str}{ns:List Str}{ws:List W}(e:h[d]?=some (.ins c ns ws)):insG c (.loc d) h=.ok (d,ns,ws) h:=by
 unfold insG
 simp only[e,if_true]
theorem cZ {c f:Str}{ns:List Str}{ws:List W}{w:W}{k:W->M β}(e:h[d]?=some (.ins c ns ws))(e2:lookF ns ws f=some w)(q:Ok (k w) h Q):Ok (bd (fldG c f (.loc d)) k) h Q:=by
 refine cC (a:=w) (h':=h) ?_ q
 unfold fldG
 rw[gM (oY e)]
 simp only[e2]
 rfl
theorem vY {c f:Str}{ns ns':List Str}{ws ws':List W}{y:W}{k:Unit->M β}(e:h[d]?=some (.ins c ns ws))(z:ns.length<1000)(e2:putN ns ws f y=(ns',ws'))(q:Ok (k ()) (h.set d (.ins c ns' ws')) Q):Ok (bd (putG c f (.loc d) y) k) h Q:=by
 refine cC (a:=()) (h':=h.set d (.ins c ns' ws')) ?_ q
 unfold putG
 rw[gM (oY e)]
 simp only[if_pos z,e2]
theorem ga {c m:Str}{ns:List Str}{ws:List W}{k:W->M β}(e:h[d]?=some (.ins c ns ws))(z:m ∉ ns)(q:Ok (k (.loc d)) h Q):Ok (bd (isI c m (.loc d)) k) h Q:=by
 refine cC (a:=.loc d) (h':=h) ?_ q
 unfold isI
 rw[gM (oY e)]
 simp only[if_neg z]
 rfl
theorem xY {c:Str}{n:Nat}{fn:List W->M W}{ws:List W}{P:List Ob->Prop}{k:W->M β}(hn:ws.length+1=n)(p:Ok (fn (.loc h.length::ws)) (h++[.ins c [] []]) fun w h'=>w=.non/\P h')(q:∀h',P h'->Ok (k (.loc h.length)) h' Q):
  Ok (bd (fun h=>match arW n fn (.loc h.length::ws) (h++[.ins c [] []]) with
 |.ok .non h'=>.ok (.loc h.length) h'
 |_=>.bad) k) h Q:=by
 obtain⟨w,h',e,rfl,hp⟩:=p
 refine cC (a:=.loc h.length) (h':=h') ?_ (q h' hp)
 have:arW n fn (.loc h.length::ws)=fn (.loc h.length::ws):=xm hn
 simp only[this,e]
end
def ctS (g:Env'->M Fl):Fl->M Fl:=fun x=>match x with
 |.nx r=>g r
 |x=>pr x
def ctI (f g:Env'->M Fl)(ρ:Env'):Bool->M Fl:=fun b=>if b=true then f ρ else g ρ
theorem cP (f g:Env'->M Fl)(ρ:Env'):sSeq f g ρ=bd (f ρ) (ctS g):=by unfold sSeq;rfl
theorem du (g:Env'->M Fl)(r:Env'):ctS g (.nx r)=g r:=by unfold ctS;rfl
theorem eC (g:Env'->M Fl)(w:W):ctS g (.rt w)=pr (.rt w):=by unfold ctS;rfl
theorem eE (g:Env'->M Fl)(r:Env'):ctS g (.bk r)=pr (.bk r):=by unfold ctS;rfl
theorem eD (g:Env'->M Fl)(r:Env'):ctS g (.ct r)=pr (.ct r):=by unfold ctS;rfl
theorem dY (t:Env'->M Bool)(f g:Env'->M Fl)(ρ:Env'):sIf t f g ρ=bd (t ρ) (ctI f g ρ):=by unfold sIf;rfl
theorem gC (f g:Env'->M Fl)(ρ:Env'):ctI f g ρ true=f ρ:=by unfold ctI;rw[if_pos rfl]
theorem gf (f g:Env'->M Fl)(ρ:Env'):ctI f g ρ false=g ρ:=by unfold ctI;rw[if_neg Bool.false_ne_true]
end L2
namespace L2
open PySem PySem.Spec PyProof.Rows
section
variable {X:Cx}{E:XK}{o e f:Expr}{apos cpos:Pos}{fo fe ff:Env'->M W}
end
section
variable {X:Cx}{E:XK}{o e f:Expr}{es:List Expr}{pos apos cpos:Pos}{l:Env'->M (List W)}{fo fe ff:Env'->M W}
end
section
open Sem (wp)
open Builtin
noncomputable def F0 (f:Value):Prop:=f=.none\/ ∃T:Nat,f=rawInt T
section
variable {prog:Program}{w:World}{A:Around}{E:Value->Shared->Prop}{s:Shared}
end
section
variable {X:Cx}
end
end
section
section
variable {X:Cx}{E:XK}{p pos:Pos}
end
end
section
section
variable {X:Cx}{pins:List (Addr×Obj)}{σ:St}{H:Hp}{s:Shared}{a c:Addr}{b:Bool}{k:PKy}{xs:List (PKy×Addr×V)}{A:Around}{Ex:Value->Shared->Prop}
end
section
variable {X:Cx}{E:XK}{a b:Expr}{pos:Pos}{fa fb fv:Env'->M W}
end
end
section
theorem vK (its:List Value):slicePick its.toArray none none (some (-1))=its.reverse.toArray:=by
 unfold slicePick
 have hb:sliceBounds none none (some (-1)) its.toArray.size=(((its.length:Nat):Int) - 1,-1,-1):=by
  rw[List.size_toArray];rfl
 rw[hb]
 show ((sliceRange (((its.length:Nat):Int) - 1) (-1) (-1)).filterMap (its.toArray[·]?)).toArray=_
 congr 1
 have hr:sliceRange (((its.length:Nat):Int) - 1) (-1) (-1)=(List.range its.length).map fun k=>its.length - 1 - k:=by
  unfold sliceRange
  have c:(if (-1:Int)>0 then (if ((its.length:Nat):Int) - 1< -1 then (-1 - (((its.length:Nat):Int) - 1)+ -1 - 1) / -1 else 0) else (if ((its.length:Nat):Int) - 1> -1 then (((its.length:Nat):Int) - 1 - -1 - -1 - 1) / (- -1) else 0)).toNat=its.length:=by
   rw[if_neg (by decide)]
   by_cases z:((its.length:Nat):Int) - 1> -1
   ·rw[if_pos z,show (- -1:Int)=1 by decide,Int.ediv_one];omega
   ·rw[if_neg z];omega
  show (List.range (if (-1:Int)>0 then (if ((its.length:Nat):Int) - 1< -1 then (-1 - (((its.length:Nat):Int) - 1)+ -1 - 1) / -1 else 0) else (if ((its.length:Nat):Int) - 1> -1 then (((its.length:Nat):Int) - 1 - -1 - -1 - 1) / (- -1) else 0)).toNat).map _=_
  rw[c]
  refine List.map_congr_left fun k hk=>?_
  have:=List.mem_range.mp hk
  show (((its.length:Nat):Int) - 1+ -1 * (k:Int)).toNat=its.length - 1 - k
  omega
 rw[hr]
 apply List.ext_getElem?
 intro i
 have hall: ∀ (n:Nat),n<=its.length->((List.range n).map fun k=>its.length - 1 - k).filterMap (its.toArray[·]?)=its.reverse.take n:=by
  intro n
  induction n with
  |zero=>intro _;rfl
  |succ n ih=>
   intro hn
   have e1:its.reverse[n]?=some (its[its.length - 1 - n]'(by omega)):=by
    rw[List.getElem?_reverse (by omega),List.getElem?_eq_getElem]
   rw[List.range_succ,List.map_append,List.filterMap_append,ih (by omega),List.take_succ,e1]
   congr 1
   show List.filterMap (its.toArray[·]?) [its.length - 1 - n]=[its[its.length - 1 - n]'(by omega)]
   rw[List.filterMap_cons]
   rw[List.getElem?_toArray,List.getElem?_eq_getElem (by omega)]
   rfl
 rw[hall its.length (Nat.le_refl _),<-List.length_reverse,List.take_length]
section
variable {X:Cx}{E:XK}{e st:Expr}{te:TE}{ts:TO}{pos p2:Pos}{fa:Env'->M W}{fs:Env'->M (Option Int)}
def tRev (K:PySem.W.Frag)(te:TE)(ts:TO):TE:=fun σ H Q=>te σ H fun x H1=>ts σ H1 fun o H2=>o=some (-1)/\ ∃a xs,x=.ref a/\SqL K H2 a xs/\ ∀p,H2 p=none->Q (.ref p) (upd H2 p (.lst xs.reverse))
theorem zN (he:PE X e te)(hs:PO X (some st) ts):PE X (.Subscript e (.Slice none none (some st) p2) pos) (tRev X.K te ts):=by
 intro pins s σ H Q I h
 refine Subscript_ (thn (he pins s σ H _ I h) fun v s1 qz=>?_)
 obtain⟨x,H1,I1,r1,q1⟩:=qz
 refine wpAny_Slice ?_
 rw[evalPart_none]
 refine wpAny_pure (wpAny_pure (thn (hs pins s1 σ H1 _ I1 q1) fun vs s3 qz=>?_))
 obtain⟨u,H3,I3,pu,q3⟩:=qz
 obtain⟨rfl,a,xs,rfl,hx,q⟩:=q3
 cases r1
 have I4:Inv X pins σ H3 {s3 with heap:=s3.heap.push {cls:=.type "slice",data:=.fields #[.none,.none,vs]}}:=I3.kept (t':=s3.toks) fun b ob q=>Heap.get?_push_of_some _ q
 show wpAny (model X.prog X.w) X.A (subscriptTail e (.Slice none none (some st) p2) (.ref a) (.ref s3.heap.objs.size)) (EP X pins σ Q) X.xe {s3 with heap:=s3.heap.push {cls:=.type "slice",data:=.fields #[.none,.none,vs]}}
 obtain⟨its,r,ht,hz⟩:=I4.list hx
 have hlen:=r.length
 refine tail_any (ops:=[.ref a,.ref s3.heap.objs.size]) ht.isList.typeIs slot_list_getitem.lookup ?_ (by with_unfolding_all rfl)
 refine wpAny_getItem_list_slice ht.isList (Heap.IsSliceOf.new ..) .none .none pu (by simp) ?_ (by rw[List.size_toArray]<;>omega)
 rw[vK]
 refine⟨.ref _,_,I4.laid (t':=s3.toks) (o:=.lst xs.reverse) (fun b ob q=>Heap.get?_push_of_some _ q) (Nat.le_refl _) ?_,rfl,q _ (I4.hok.fresh (Nat.le_refl _))⟩
 exact⟨by rw[List.length_reverse];exact hz,_,0,r.reverse,Heap.get?_push_size _ rfl⟩
theorem Rvs.reverse {K:PySem.W.Frag}{o:Wo}: ∀ {l:List W}{vs:List V},Rvs K o l vs->Rvs K o l.reverse vs.reverse
 |[],vs,h=>by unfold Rvs at h;subst h;exact Rvs.nil
 |w::l,vs,h=>by
  unfold Rvs at h
  obtain⟨v,r,rfl,h1,h2⟩:=h
  rw[List.reverse_cons,List.reverse_cons]
  exact (Rvs.reverse h2).app (Rvs.cons h1 Rvs.nil)
def revW (x:W)(o:Option Int):M W:=match o with
 |some (-1)=>bd (lstOf x) fun l=>pr (.tl l.reverse)
 |_=>no
def mRev (fa:Env'->M W)(fs:Env'->M (Option Int)):Env'->M W:=fun ρ=>bd (fa ρ) fun x=>bd (fs ρ) fun o=>revW x o
theorem wn (he:JE X E e fa)(hs:JO X E (some st) fs):JE X E (.Subscript e (.Slice none none (some st) p2) pos) (mRev fa fs):=(zN he.h hs.h).imp fun σ H Q h=>by
 obtain⟨o,ρ,rfl,R,S,h⟩:=h
 refine⟨o,ρ,rfl,R,S,Ps.bd h fun p x vx e1 R1 r1 h1=>⟨p,ρ,rfl,R1,S.mono R e1,Ps.bd h1 fun q a va e2 R2 r2 h2=>?_⟩⟩
 subst r2
 have rx:=r1.mono R1 e2
 unfold revW at h2
 split at h2
 ·obtain⟨l,a',vs,rfl,s,r,h2⟩:=g8 R2 rx h2
  exact⟨rfl,a',vs,rfl,s,fun q' hq=>j7 R2 hq r.reverse h2⟩
 ·exact h2.elim
end
end
section
open Sem (wp)
open AutoSeq1 (wpAny_loadPart')
section
variable {prog:Program}{w:World}{A:Around}{E:Value->Shared->Prop}{s:Shared}
end
section
variable {prog:Program}{w:World}{A:Around}{E:Value->Shared->Prop}{s:Shared}
end
section
variable {X:Cx}{E:XK}{a b:Expr}{p p2 pos pos2:Pos}
end
end
section
open Sem (wp)
section
variable {prog:Program}{w:World}{A:Around}{E:Value->Shared->Prop}{s:Shared}
end
section
variable {X:Cx}{pins:List (Addr×Obj)}{σ:St}{H:Hp}{s:Shared}
end
section
variable {X:Cx}{a b:Expr}{p p2 pos pos2:Pos}
end
end
section
section
variable {X:Cx}{E:XK}
open Classical in
open Classical in
variable {a:Expr}{p pos:Pos}{l:Env'->M (List W)}
end
end
section
section
variable {X:Cx}{E:XK}{a b:Expr}{p p2 pos pos2:Pos}
end
end
section
section
variable {prog:Program}{w:World}{A:Around}{E:Value->Shared->Prop}{s:Shared}
end
section
variable {X:Cx}{o:Expr}{p apos cpos pos:Pos}
end
end
end L2
namespace L2
open PyProof.Rows
section
variable (n:Nat)(lt:Nat->Nat->Bool)
structure Mg where
 out:Array Nat
 ia:Nat
 ib:Nat
 ac:Nat
 bc:Nat
 g:Nat
section
variable (a b:Array Nat)
end
end
end L2
namespace L2
open PySem PySem.W PyProof.Rows
section
variable {M:Model}{A:Around}{E:Value->Shared->Prop}{s:Shared}{σ β:Type}{f:Nat->β->StateT σ Sem (ForInStep β)}{Q:β->σ->Prop}{st:σ}
end
section
variable {prog:Program}{w:World}{A:Around}{E:Value->Shared->Prop}{s:Shared}{κ:SortKind}{it:Array Keyed}{n:Nat}{lt:Nat->Nat->Bool}
variable {p:Array Nat}{pe:Array (Nat×Nat×Nat)}{g:Nat}
end
section
section
variable {prog:Program}{w:World}{A:Around}{E:Value->Shared->Prop}{s:Shared}{κ:SortKind}{it:Array Keyed}{n:Nat}{lt:Nat->Nat->Bool}
variable {p:Array Nat}{pe:Array (Nat×Nat×Nat)}{g:Nat}
noncomputable abbrev GS:=Option (Option Nat)×Nat×Nat
section
variable {f:Nat->GS->StateT SortSt Sem (ForInStep GS)}{st:SortSt}{left:Bool}{key base hint mx:Nat}{a:Array Nat}
end
end
end
section
section
variable {prog:Program}{w:World}{A:Around}{E:Value->Shared->Prop}{s:Shared}{κ:SortKind}{it:Array Keyed}{n:Nat}{lt:Nat->Nat->Bool}
variable {p:Array Nat}{pe:Array (Nat×Nat×Nat)}{a b:Array Nat}
noncomputable abbrev M5:=Option (Array Keyed)×Array Keyed×Nat×Nat×Nat
noncomputable abbrev t5 (it:Array Keyed)(r:Option (Array Nat))(s:Mg):M5:=(r.map (·.map (kas_item it)),s.out.map (kas_item it),s.ia,s.ib,s.g)
end
end
section
section
variable {prog:Program}{w:World}{A:Around}{E:Value->Shared->Prop}{s:Shared}{κ:SortKind}{it:Array Keyed}{n:Nat}{lt:Nat->Nat->Bool}{p:Array Nat}
end
end
section
section
variable {prog:Program}{w:World}{A:Around}{E:Value->Shared->Prop}{s:Shared}
end
end
section
section
variable {prog:Program}{w:World}{A:Around}{E:Value->Shared->Prop}{s:Shared}
end
section
variable {X:Cx}{pins:List (Addr×Obj)}{σ:St}{H:Hp}{s:Shared}
end
end
section
section
variable {prog:Program}{w:World}{A:Around}{E:Value->Shared->Prop}{s:Shared}
end
end
end L2
namespace L2
open PySem PySem.Spec PyProof.Rows
section
variable {X:Cx}{E:XK}{a:Expr}{p p2 pos kpos:Pos}{fa:Env'->M W}{l:Env'->M (List W)}
end
section
open Sem (wp)
section
variable {prog:Program}{w:World}{A:Around}{E:Value->Shared->Prop}{s:Shared}
end
section
variable {X:Cx}{pins:List (Addr×Obj)}{σ:St}{H:Hp}{s:Shared}
end
section
variable {X:Cx}{E:XK}{tg e a b:Expr}{pos p p2 pos2:Pos}{fa fb fv:Env'->M W}{l:Env'->M (List W)}
end
end
section
section
variable {X:Cx}{E:XK}{tg e a b:Expr}{pos p p2 pos2:Pos}{fa fb fv:Env'->M W}{l:Env'->M (List W)}
end
end
section
open Sem (wp)
section
variable {prog:Program}{w:World}{A:Around}{E:Value->Shared->Prop}{s:Shared}
end
section
variable {X:Cx}{E:XK}{o e f:Expr}{pos apos cpos:Pos}{fa fo fe ff:Env'->M W}{elts:List Expr}{tpos:Pos}
end
end
section
section
variable {X:Cx}{E:XK}
def sBad:Env'->M Fl:=fun _=>no
theorem dG {st:Stmt}:JS X E st sBad:=⟨fun pins s σ H D I q=>by
 obtain⟨o,ρ,rfl,R,S,h⟩:=q
 exact h.elim⟩
noncomputable def eZ (x y:Str):List Str:=if (decide (x.length<y.length)||decide (Builtin.Str.strKind x<Builtin.Str.strKind y))=true then [x] else if (Builtin.Str.occurrences x y 0 x.length (x.length+1)).isEmpty=true then [x] else Builtin.Str.partsBetween x (Builtin.Str.occurrences x y 0 x.length (x.length+1)) y.length
def zC:V->List V->Hp->VK->Prop:=fun x vs H Q=> ∃ (a b:Str),x=.str a/\vs=[.str b]/\(b.length==0)=false/\a.length<=sizeLine/\(eZ a b).length<=sizeLine/\ ∀q,H q=none->Q (.ref q) (upd H q (.lst ((eZ a b).map V.str)))
theorem nH: ∀ (l:List Str) (t:Nat),Vals (l.map V.str) (strsFrom t l)
 |[],_=>.nil
 |x::l,t=>.cons ⟨_,rfl⟩ (nH l (t+1))
theorem lh {pins:List (Addr×Obj)}{σ:St}{H:Hp}{s:Shared}{Q:VK}{l:List Str}{us:List Value}{tk:Nat}(I:Inv X pins σ H s)(hv:Vals (l.map V.str) us)(hz:l.length<=sizeLine)(q:∀q,H q=none->Q (.ref q) (upd H q (.lst (l.map V.str)))):
  EP X pins σ Q (.ref s.heap.objs.size) {s with toks:=tk,heap:=s.heap.push {cls:=.type "list",data:=.seq us.toArray}}:=
 ⟨.ref s.heap.objs.size,_,I.laid (t':=tk) (fun b o e=>Heap.get?_push_of_some _ e) (Nat.le_refl _) (show ObjOk X.prog X.w _ (s.heap.push {cls:=.type "list",data:=.seq us.toArray}) _ (.lst (l.map V.str)) from⟨by rw[List.length_map];exact hz,us,_,hv,Heap.get?_push_size _ rfl⟩),rfl,q _ (I.hok.fresh (Nat.le_refl _))⟩
theorem wd:MtR X "str.split" zC:=by
 intro pins s σ H x vs v us Q I rx rv h
 obtain⟨a,b,rfl,rfl,hb,ha,hz,q⟩:=h
 obtain⟨t,rfl⟩:=rx
 obtain⟨u,rfl,ru⟩:=rv.one
 obtain⟨t2,rfl⟩:=ru
 by_cases c1:(decide (a.length<b.length)||decide (Builtin.Str.strKind a<Builtin.Str.strKind b))=true
 ·have e:eZ a b=[a]:=if_pos c1
  rw[e] at q
  refine call_meets F.slot_str_split (typeIs_str s a t) F.entry_str_split (F.args_str_split_2 _ _) (meets_str_split_cannot_occur a b t t2 c1) ?_
  exact lh (l:=[a]) (us:=[.str a t]) (tk:=s.toks) I (.cons ⟨t,rfl⟩ .nil) (by show 1<=sizeLine;decide) q
 ·have c1':(decide (a.length<b.length)||decide (Builtin.Str.strKind a<Builtin.Str.strKind b))=false:=by rw[<-Bool.not_eq_true];exact c1
  by_cases c2:(Builtin.Str.occurrences a b 0 a.length (a.length+1)).isEmpty=true
  ·have e:eZ a b=[a]:=by unfold eZ;rw[if_neg c1,if_pos c2]
   rw[e] at q
   refine call_meets F.slot_str_split (typeIs_str s a t) F.entry_str_split (F.args_str_split_2 _ _) (meets_str_split_not_found a b t t2 c1' hb c2) ?_
   exact lh (l:=[a]) (us:=[.str a t]) (tk:=s.toks) I (.cons ⟨t,rfl⟩ .nil) (by show 1<=sizeLine;decide) q
  ·have c2':(Builtin.Str.occurrences a b 0 a.length (a.length+1)).isEmpty=false:=by rw[<-Bool.not_eq_true];exact c2
   have e:eZ a b=Builtin.Str.partsBetween a (Builtin.Str.occurrences a b 0 a.length (a.length+1)) b.length:=by unfold eZ;rw[if_neg c1,if_neg c2]
   rw[e] at q hz
   refine call_meets F.slot_str_split (typeIs_str s a t) F.entry_str_split (F.args_str_split_2 _ _) (meets_str_split_sep a b t t2 c1' hb c2' ha hz) ?_
   exact lh (l:=Builtin.Str.partsBetween a (Builtin.Str.occurrences a b 0 a.length (a.length+1)) b.length) I (nH _ _) hz q
def splW (x:W)(ws:List W):M W:=match x,ws with
 |.str a,[.str b]=>gd ((b.length==0)=false/\a.length<=sizeLine/\(eZ a b).length<=sizeLine) (pr (.tl ((eZ a b).map W.str)))
 |_,_=>no
theorem iZ {K:PySem.W.Frag}{o:Wo}: ∀ns:List Str,Rvs K o (ns.map W.str) (ns.map V.str)
 |[]=>Rvs.nil
 |n::r=>Rvs.cons (rv_str.mpr rfl) (iZ r)
variable {o e:Expr}{apos cpos:Pos}{fo:Env'->M W}{l:Env'->M (List W)}
theorem qv (ho:JE X E o fo)(ha:JA X E [e] l)(hbase:attributeBase o "split" X.env (eval o X.env)=eval o X.env:=by rfl)
  (hfew:((backTo cpos (starEach [e] X.env)).all (fun x=>!x.1) && (backToKw cpos (keywordEach [] X.env)).all (fun x=>x.1.isSome) && decide (([e]:List Expr).length+([]:List Keyword).length+(if ([]:List Keyword).isEmpty then 0 else 1)<30))=true:=by rfl)
  (hline:(apos.endLine==cpos.line)=true:=by rfl)(hs:starEach [e] X.env=(false,eval e X.env)::starEach [] X.env:=by rfl)(hplain:(backTo cpos (starEach [] X.env)).any (·.1)=false:=by rfl):
  JE X E (.Call (.Attribute o "split" apos) [e] [] cpos) (mMeth isS splW fo l):=
 (qg PySem.F.plainAttrs_str PySem.F.slot_str_split PySem.F.type_str_split wd ho.h ha.h hbase hfew hline hs hplain).imp fun σ H Q h=>by
  obtain⟨w,ρ,rfl,R,S,h⟩:=h
  refine⟨w,ρ,rfl,R,S,Ps.bd h fun p x vx e1 R1 r1 h1=>?_⟩
  cases x with
  |str a=>
   have h1:Ps (cg X E) (Rv X.K) p (bd (l ρ) (fun ws=>splW (.str a) ws) p.h) Q:=h1
   rw[rv_str.mp r1]
   refine⟨rfl,p,ρ,rfl,R1,S.mono R e1,Ps.bd h1 fun q ws vs e2 R2 r2 h2=>?_⟩
   rcases ws with _|⟨w',_|⟨_,_⟩⟩
   ·exact h2.elim
   ·obtain⟨v,rfl,r⟩:=r2.one
    cases w' with
    |str b=>
     have h2:Ps (cg X E) (Rv X.K) q (gd ((b.length==0)=false/\a.length<=sizeLine/\(eZ a b).length<=sizeLine) (pr (.tl ((eZ a b).map W.str))) q.h) Q:=h2
     obtain⟨hz,h2⟩:=h2.gd
     exact⟨a,b,rfl,by rw[rv_str.mp r],hz.1,hz.2.1,hz.2.2,fun q hq=>j7 R2 hq (iZ _) h2⟩
    |_=>exact h2.elim
   ·cases w'<;>exact h2.elim
  |_=>exact h1.elim
end
section
variable {X:Cx}{c m:Str}{C fA:Addr}{fd:FuncData}{ps:List Str}{k n:Nat}{fn:List W->M W}{o:Expr}{fo:Env'->M W}{pos apos:Pos}
theorem jq {pl:Sem Bool}(hn:nsIn X.K mainGlobals c=some (some (.ref C)))(cl:Cls X.K C)(F:CGm X.prog X.w X.K X.mg X.base k C m fA fd ps n fn)(hr:Room k X.A)(ho:JE X E0 o fo)
  (ht:eval (.Call (.Attribute o m apos) [] [] pos) X.env=(do
   let ov<-eval o X.env
   standAt apos.atName
   let (f,first)<-holding [ov] (getMethod ov m pl)
   callWith pos f first (backTo pos (starEach [] X.env)) (backToKw pos (keywordEach [] X.env))):=by rfl):
  JE X E0 (.Call (.Attribute o m apos) [] [] pos) (mMet c m n fn fo mNil):=(gp ho.h cl F.me F.ok hr F.bi .nil pass0 ht).imp fun σ H Q h=>by
 obtain⟨w,ρ,rfl,R,S,h⟩:=h
 refine⟨w,ρ,rfl,R,S,Ps.bd h fun p x vx e1 R1 r1 h1=>?_⟩
 obtain⟨a,dx,fs,rfl,q1,q2,h1⟩:=wI hn R1 r1 h1
 have h1:Ps (cg X E0) (Rv X.K) p (arW n fn [x] p.h) Q:=h1
 unfold arW at h1
 by_cases z:([x]:List W).length=n
 ·rw[if_pos z] at h1
  exact⟨a,dx,fs,rfl,q1,q2,p,[x],rfl,z,R1,by first|(rw[List.append_nil];exact Rvs.cons r1 Rvs.nil)|exact Rvs.cons r1 Rvs.nil,h1⟩
 ·rw[if_neg z] at h1
  exact h1.elim
theorem wo {p0:Pos}(M:Mk X.K C fA)(hn:nsIn X.K mainGlobals c=some (some (.ref C)))(F:FnOk X.prog X.w X.K X.mg X.base CX0 k fA fd ps (spM0 X.K X.mg n fn))(hb:Binds X.K fd ps [])(hr:Room (k+1) X.A)(hm:X.mg c=some (.ref C))(hg:Gl X c:=by rfl)
  (hdb:(c==("__debug__":Str))=false:=by decide):JE X E0 (.Call (.Name c p0) [] [] pos) (mMake c n fn mNil):=(vO M F hr hg hm hb .nil pass0 hdb).imp fun σ H Q h=>by
 obtain⟨p,ρ,rfl,R1,S,h⟩:=h
 intro x dx hx hdx hne
 have X1:Ex p ⟨p.mu,p.h,upd p.H dx (.own x)⟩:=Ex.new hdx
 have N1:Rel X.K ⟨p.mu,p.h,upd p.H dx (.own x)⟩:=R1.new hdx
 have hx1:(⟨p.mu,p.h,upd p.H dx (.own x)⟩:Wo).H x=none:=by
  show upd p.H dx (.own x) x=none
  rw[aH (Ne.symm hne)];exact hx
 have X2:Ex ⟨p.mu,p.h,upd p.H dx (.own x)⟩ (Wo.add ⟨p.mu,p.h,upd p.H dx (.own x)⟩ x (.ins c [] []) (.ins C dx [])):=Ex.add hx1
 have N2:Rel X.K (Wo.add ⟨p.mu,p.h,upd p.H dx (.own x)⟩ x (.ins c [] []) (.ins C dx [])):=N1.add hx1 ⟨C,dx,[],hn,bb,rfl,Rvs.nil⟩
 have h1:Ps (cg X E0) (Rv X.K) p (match arW n fn [.loc p.h.length] (p.h++[.ins c [] []]) with
  |.ok .non h'=>.ok (.loc p.h.length) h'
  |_=>.bad) Q:=h
 by_cases z:([W.loc p.h.length]:List W).length=n
 ·rw[xm z] at h1
  refine⟨Wo.add ⟨p.mu,p.h,upd p.H dx (.own x)⟩ x (.ins c [] []) (.ins C dx []),[.loc p.h.length],rfl,z,N2,?_,?_⟩
  ·exact Rvs.cons Rv.addLocI Rvs.nil
  ·show Ps ⟨X.K,X.mg,E0⟩ (Rv X.K) _ (fn [.loc p.h.length] (p.h++[.ins c [] []])) _
   cases ef:fn [.loc p.h.length] (p.h++[.ins c [] []]) with
   |ok a h'=>
    rw[ef] at h1
    cases a with
    |non=>
     intro p' b hp X3 R3 rb
     refine⟨rv_non.mp rb,Ps.at (p:=p') h1 hp ((X1.trans X2).trans X3) R3 ?_⟩
     have lt:p.h.length<(Wo.add ⟨p.mu,p.h,upd p.H dx (.own x)⟩ x (.ins c [] []) (.ins C dx [])).h.length:=by show _<(p.h++[_]).length;simp
     unfold Rv
     refine⟨Nat.lt_of_lt_of_le lt X3.le,?_⟩
     rw[X3.mu _ lt]
     show V.ref x=V.ref (if p.h.length=p.h.length then x else p.mu p.h.length)
     rw[if_pos rfl]
    |_=>exact h1.elim
   |ex y h'=>rw[ef] at h1;exact h1.elim
   |bad=>rw[ef] at h1;exact h1.elim
 ·have:arW n fn [.loc p.h.length]=no:=if_neg z
  rw[this] at h1
  exact h1.elim
end
end
section
section
variable {X:Cx}{E:XK}{o i e value:Expr}{p pos apos cpos tpos:Pos}{fo fi fv:Env'->M W}{l:Env'->M (List W)}
def isLO (w:W):M W:=bd (lstO w) fun _=>pr w
end
end
section
section
variable {X:Cx}{E:XK}{o i e value:Expr}{p pos apos cpos tpos:Pos}{fo fi fv:Env'->M W}{l:Env'->M (List W)}
def sidxW (x:W)(ws:List W):M W:=match ws with
 |[.str k]=>bd (lstO x) fun l=>match optL sOf l with
  |some (ss:List Str)=>match ss.findIdx? (fun m=>decide (m=k)) with
   |some j=>pr (.int (j:Int))
   |none=>no
  |none=>no
 |_=>no
theorem vg {k:Str}: ∀ {ss:List Str}{us:List Value},Vals (ss.map V.str) us->us.length=ss.length/\ ∀ (i:Nat) (u:Value),us[i]?=some u-> ∃m,ss[i]?=some m/\eqU (.str k) u=decide (m=k)
 |[],_,r=>by rw[List.map_nil] at r;cases r;exact⟨rfl,fun i u h=>by cases h⟩
 |n::ss,_,r=>by
  rw[List.map_cons] at r
  cases r with
  |cons h t=>
   obtain⟨a,b⟩:=vg (k:=k) t
   refine⟨congrArg (· +1) a,fun i u hu=>?_⟩
   cases i with
   |zero=>
    cases hu
    refine⟨n,rfl,?_⟩
    rw[se h rfl]
    by_cases q:n=k
    ·subst q;simp [eqV]
    ·rw[decide_eq_false q];simp [eqV,q]
   |succ i=>exact b i u hu
def rSIdx:V->List V->Hp->VK->Prop:=fun x vs H Q=> ∃ (p:Addr) (ss:List Str) (k:Str) (j:Nat),x=.ref p/\vs=[.str k]/\H p=some (.lst (ss.map V.str))/\ss.findIdx? (fun m=>decide (m=k))=some j/\Q (.int j) H
theorem yf:MtM X "list.index" rSIdx:=by
 intro pins s σ H x vs v us Q I rx rv h
 obtain⟨p,ss,k,j,rfl,rfl,hp,hj,q⟩:=h
 cases rx
 obtain⟨u,rfl,ru⟩:=rv.one
 obtain⟨t,rfl⟩:=ru
 obtain⟨its,n,r,ho,hz⟩:=I.lst hp
 obtain⟨len,gt⟩:=vg (k:=k) r
 rw[List.findIdx?_eq_some_iff_getElem] at hj
 obtain⟨h1,h2,h3⟩:=hj
 have at': ∀ (i:Nat) (hi:i<its.length),eqU (.str k) its[i]=decide (ss[i]'(by omega)=k):=fun i hi=>by
  obtain⟨m,e1,e2⟩:=gt i its[i] (List.getElem?_eq_getElem hi)
  rw[List.getElem?_eq_getElem (by omega)] at e1
  cases e1
  exact e2
 have lz:=jZ
 rw[List.length_map] at hz
 refine call_meets F.slot_list_index ⟨_,ho,rfl⟩ F.entry_list_index (F.args_list_index_2 _ _) (SeqAt.list_indexAt p its.toArray n none #[] (.str k t) (eqU (.str k)) j (by rw[List.size_toArray];omega) (by omega) ?_ fun m hm hlt=>?_) ⟨ho,fun y hy=>g6 (x:=.str k) (v:=.str k t) ⟨t,rfl⟩ rfl r ?_ y (by simpa using hy),.int j,H,I.tok _,⟨_,rfl⟩,q⟩
 ·rw[List.getElem_toArray,at' j (by omega)];exact h2
 ·rw[List.getElem_toArray,at' m (by rw[List.size_toArray] at hm;exact hm)]
  have:=h3 m hlt
  simpa using this
 ·rw[List.all_map];exact List.all_eq_true.mpr fun _ _=>rfl
theorem yh (ho:JE X E o fo)(ha:JA X E [e] l)(hbase:attributeBase o "index" X.env (eval o X.env)=eval o X.env:=by rfl)
  (hfew:((backTo cpos (starEach [e] X.env)).all (fun x=>!x.1) && (backToKw cpos (keywordEach [] X.env)).all (fun x=>x.1.isSome) && decide (([e]:List Expr).length+([]:List Keyword).length+(if ([]:List Keyword).isEmpty then 0 else 1)<30))=true:=by rfl)
  (hline:(apos.endLine==cpos.line)=true:=by rfl)(hs:starEach [e] X.env=(false,eval e X.env)::starEach [] X.env:=by rfl)(hplain:(backTo cpos (starEach [] X.env)).any (·.1)=false:=by rfl):
  JE X E (.Call (.Attribute o "index" apos) [e] [] cpos) (mMeth isLO sidxW fo l):=
 (qg PySem.F.plainAttrs_list PySem.F.slot_list_index PySem.F.type_list_index yf ho.h ha.h hbase hfew hline hs hplain).imp fun σ H Q h=>by
  obtain⟨w,ρ,rfl,R,S,h⟩:=h
  refine⟨w,ρ,rfl,R,S,Ps.bd h fun p x vx e1 R1 r1 h1=>?_⟩
  have h1:Ps (cg X E) (Rv X.K) p (bd (bd (lstO x) fun _=>pr x) (fun x=>bd (l ρ) fun ws=>sidxW x ws) p.h) Q:=h1
  rw[aa] at h1
  obtain⟨l0,a,vs0,rfl,s1,r3,h1⟩:=gg R1 r1 h1
  rw[ck] at h1
  refine⟨.inl ⟨rfl,vs0,.of s1⟩,p,ρ,rfl,R1,S.mono R e1,Ps.bd h1 fun q ws vs e2 R2 r2 h2=>?_⟩
  unfold sidxW at h2
  split at h2
  ·rename_i k
   obtain⟨v,rfl,r⟩:=r2.one
   obtain⟨l1,a1,vs1,ea,s2,r4,h2⟩:=gg R2 (r1.mono R1 e2) h2
   cases ea
   cases t1:optL sOf l1 with
   |none=>simp only[t1] at h2;exact h2.elim
   |some ss=>
    simp only[t1] at h2
    have e3:vs1=ss.map V.str:=oO vq t1 r4
    subst e3
    cases hj:ss.findIdx? (fun m=>decide (m=k)) with
    |none=>simp only[hj] at h2;exact h2.elim
    |some j=>
     simp only[hj] at h2
     exact⟨a,ss,k,j,rfl,by rw[rv_str.mp r],s2,hj,h2.pr R2 (rv_int.mpr rfl)⟩
  ·exact h2.elim
end
end
end L2
namespace L2
open PySem
theorem qW {c:Nat}: ∀ {a b u v:List Nat},c ∉ a->c ∉ b->a++c::u=b++c::v->a=b/\u=v
 |[],[],u,v,_,_,e=>⟨rfl,(List.cons.inj e).2⟩
 |[],y::b,u,v,_,h,e=>absurd (List.cons.inj e).1 (fun z=>h (z▸List.mem_cons_self))
 |x::a,[],u,v,h,_,e=>absurd (List.cons.inj e).1 (fun z=>h (z▸List.mem_cons_self))
 |x::a,y::b,u,v,h1,h2,e=>by
  obtain⟨e1,e2⟩:=List.cons.inj e
  obtain⟨q1,q2⟩:=qW (fun z=>h1 (List.mem_cons_of_mem _ z)) (fun z=>h2 (List.mem_cons_of_mem _ z)) e2
  exact⟨by rw[e1,q1],q2⟩
theorem ox {a b:Str}(h:a.cps.toList=b.cps.toList):a=b:=by
 cases a;cases b
 congr 1
 exact Array.toList_inj.mp h
theorem g9 (c:Nat)(x y:Str)(r:List Str):(Str.join ⟨#[c]⟩ (x::y::r)).cps.toList=x.cps.toList++c::(Str.join ⟨#[c]⟩ (y::r)).cps.toList:=by
 show ((x++(⟨#[c]⟩:Str))++Str.join ⟨#[c]⟩ (y::r)).cps.toList=_
 rw[jD,jD,List.append_assoc]
 rfl
theorem qE {c:Nat}: ∀ {ps qs:List Str},ps≠ []->qs≠ []->(∀p∈ps,c ∉ p.cps.toList)->(∀p∈qs,c ∉ p.cps.toList)->Str.join ⟨#[c]⟩ ps=Str.join ⟨#[c]⟩ qs->ps=qs
 |[],_,h,_,_,_,_=>absurd rfl h
 |_::_,[],_,h,_,_,_=>absurd rfl h
 |[x],[y],_,_,_,_,e=>by rw[show x=y from e]
 |[x],y::z::r,_,_,f,_,e=>by
  have e:=congrArg (fun s:Str=>s.cps.toList) e
  rw[g9] at e
  refine absurd ?_ (f x List.mem_cons_self)
  have e:x.cps.toList=_:=e
  rw[e]
  exact List.mem_append_right _ List.mem_cons_self
 |x::w::s,[y],_,_,_,f,e=>by
  have e:=congrArg (fun s:Str=>s.cps.toList) e
  rw[g9] at e
  refine absurd ?_ (f y List.mem_cons_self)
  have e:_=y.cps.toList:=e
  rw[<-e]
  exact List.mem_append_right _ List.mem_cons_self
 |x::w::s,y::z::r,_,_,f,g,e=>by
  have e:=congrArg (fun s:Str=>s.cps.toList) e
  rw[g9,g9] at e
  obtain⟨e1,e2⟩:=qW (f x List.mem_cons_self) (g y List.mem_cons_self) e
  have e3:=qE (ps:=w::s) (qs:=z::r) (by simp) (by simp) (fun p hp=>f p (List.mem_cons_of_mem _ hp)) (fun p hp=>g p (List.mem_cons_of_mem _ hp)) (ox e2)
  rw[ox e1,e3]
theorem rf {c:Nat}{ps:List Str}(h:ps≠ [])(f:∀p∈ps,c ∉ p.cps.toList):eZ (Str.join ⟨#[c]⟩ ps) ⟨#[c]⟩=ps:=by
 have e:eZ (Str.join ⟨#[c]⟩ ps) ⟨#[c]⟩=Txt.split (Str.join ⟨#[c]⟩ ps) ⟨#[c]⟩:=rfl
 rw[e]
 refine qE (c:=c) (fun z=>?_) h (StrLaws.split_free _ _) f (StrLaws.join_split _ _)
 have:=PyProof.Rows.split_pos (Str.join ⟨#[c]⟩ ps) ⟨#[c]⟩
 rw[z] at this
 exact absurd this (by simp)
theorem pX {c:Nat}{ps:List Str}(h:ps≠ [])(f:∀p∈ps,c ∉ p.cps.toList)(z:(Str.join ⟨#[c]⟩ ps).length<=sizeLine)(z2:ps.length<=sizeLine):splW (.str (Str.join ⟨#[c]⟩ ps)) [.str ⟨#[c]⟩]=pr (.tl (ps.map W.str)):=by
 show gd _ _=_
 rw[rf h f,ay ⟨rfl,z,z2⟩]
end L2
namespace HT
open PySem PySem.Spec PyProof.Rows
section
variable {prog:Program}{w:World}{A:Around}{E:Value->Shared->Prop}{s:Shared}
theorem getItem_tuple_all {t sl:Addr}{items:Array Value}{vl vu:Value}{lo hi:Option Int}{Q:Value->Shared->Prop}(ht:IsTup s.heap t items)(hs:s.heap.IsSliceOf sl vl vu .none)(pl:IsPart vl lo)(pu:IsPart vu hi)
  (hw:sIx items.size 0 lo=0/\sIx items.size items.size hi=items.size)
  (h:Q (.ref t) s):wpAny (model prog w) A (getItem (.ref t) (.ref sl)) Q E s:=by
 obtain⟨os,hos,hcs,hds⟩:=id hs
 have hTs:s.TypeIs (.ref sl) "slice":=⟨os,hos,hcs⟩
 unfold getItem
 try with_reducible refine wpAny_holding ?_
 first|refine wpAny_bind (wpAny_pure ?_)|skip
 refine wpAny_bind (wpAny_sequenceKey ht.typeIs (by decide) ?_)
 refine wpAny_bind (wpAny_callSpecial?_slot (name:=Str.ofString "__getitem__") ht.typeIs PyProof.Rows.slot_tuple_getitem
  (wpAny_call_entry PyProof.Rows.slot_tuple_getitem ht.typeIs entry_tuple_getitem ?_ (args_tuple_getitem _ _)))
 show wpAny _ _ (Builtin.Tuple.tupleItemsOf (.ref t)>>=_) _ _ s
 refine wpAny_bind (tupleItemsOf_ ht ?_)
 refine wpAny_bind (wpAny_typeOf hTs ?_)
 rw[if_pos (by decide)]
 refine wpAny_bind (gU hs pl pu ?_)
 have hno:((((sIx items.size 0 lo:Nat):Int)==0 && (1:Int)==1 && (sIx items.size items.size hi - sIx items.size 0 lo)==items.size)=true):=by
  rw[hw.1,hw.2]
  simp
 show wpAny _ _ (if (((sIx items.size 0 lo:Nat):Int)==0 && (1:Int)==1 && (sIx items.size items.size hi - sIx items.size 0 lo)==items.size)=true then _ else _) _ _ s
 rw[if_pos hno]
 unfold Builtin.Tuple.tupleIsExact
 refine wpAny_bind (wpAny_bind (wpAny_typeOf ht.typeIs (wpAny_pure ?_)))
 rw[if_pos (by decide)]
 exact wpAny_bind (wpAny_rule (wpAny_pure ⟨_,rfl,wpAny_pure h⟩))
end
end HT
namespace L2
open PySem PySem.Spec PyProof.Rows
section
variable {X:Cx}{E:XK}
def rSlA (K:PySem.W.Frag):V->Option Int->Option Int->Hp->VK->Prop:=fun x lo hi H Q=> ∃a xs,x=.ref a/\SqT K H a xs/\(HT.sIx xs.length 0 lo=0/\HT.sIx xs.length xs.length hi=xs.length)/\Q (.ref a) H
theorem xA:SlR X (rSlA X.K):=by
 intro pins s σ H x v vl vu lo hi sl Q I rx hs pl pu h
 obtain⟨a,xs,rfl,hx,hw,q⟩:=h
 cases rx
 obtain⟨its,r,ht,hz⟩:=I.tuple hx
 have hlen:its.toArray.size=xs.length:=by rw[List.size_toArray];exact r.length.symm
 refine⟨"tuple",_,PyProof.Rows.slot_tuple_getitem.lookup,ht.typeIs,?_⟩
 exact HT.getItem_tuple_all ht hs pl pu (by rw[hlen];exact hw) ⟨.ref a,H,I,rfl,q⟩
def slTW (x:W)(lo hi:Option Int):M W:=match x with
 |.tup l=>pr (.tup (cutW l lo hi))
 |_=>no
theorem uP {α:Type}{l:List α}{lo hi:Option Int}(h:HT.sIx l.length 0 lo=0/\HT.sIx l.length l.length hi=l.length):cutW l lo hi=l:=by
 unfold cutW
 rw[h.1,h.2,List.drop_zero,Nat.sub_zero,List.take_length]
theorem wm {e:Expr}{lo hi:Option Expr}{p2 pos:Pos}{fa:Env'->M W}{fl fh:Env'->M (Option Int)}(he:JE X E e fa)(hl:JO X E lo fl)(hh:JO X E hi fh):
  JE X E (.Subscript e (.Slice lo hi none p2) pos) (m3 slTW fa fl fh):=(mr (sl_tup.or xA) he.h hl.h hh.h).imp fun σ H Q h=>by
 obtain⟨o,ρ,rfl,R,S,h⟩:=h
 refine⟨o,ρ,rfl,R,S,Ps.bd h fun p x vx e1 R1 r1 h1=>⟨p,ρ,rfl,R1,S.mono R e1,Ps.bd h1 fun q a va e2 R2 r2 h2=>⟨q,ρ,rfl,R2,(S.mono R e1).mono R1 e2,Ps.bd h2 fun w b vb e3 R3 r3 h3=>?_⟩⟩⟩
 subst r2 r3
 have rx:=(r1.mono R1 e2).mono R2 e3
 unfold slTW at h3
 split at h3
 ·rename_i l
  have rx':=rx
  unfold Rv at rx
  obtain⟨a',vs,rfl,s,r⟩:=rx
  by_cases hz:HT.sIx l.length 0 a=0/\HT.sIx l.length l.length b=l.length
  ·refine .inr ⟨a',vs,rfl,s,by rw[r.len];exact hz,?_⟩
   rw[uP hz] at h3
   exact h3.pr R3 rx'
  ·exact .inl ⟨a',vs,rfl,s,by rw[r.len];exact hz,fun q' hq=>j6 R3 hq (r.cut _ _) h3⟩
 ·exact h3.elim
end
end L2
namespace Wd
open PySem L2
noncomputable def LET:Str:= "abcdefghijklmnopqrstuvwxyz"
noncomputable def FIG:Str:= "0123456789"
def isLet (c:Nat):Bool:=decide (c∈LET.cps.toList)
def isFig (c:Nat):Bool:=decide (c∈FIG.cps.toList)
def isAN (c:Nat):Bool:=decide (c∈(LET++FIG).cps.toList)
theorem wy:LET.cps.toList=List.range' 97 26:=by decide+kernel
theorem wW:FIG.cps.toList=List.range' 48 10:=by decide+kernel
theorem isLet_iff {c:Nat}:isLet c=true↔97<=c/\c<=122:=by
 unfold isLet
 rw[decide_eq_true_eq,wy,List.mem_range'_1]
 omega
theorem isFig_iff {c:Nat}:isFig c=true↔48<=c/\c<=57:=by
 unfold isFig
 rw[decide_eq_true_eq,wW,List.mem_range'_1]
 omega
def taken:List Str:=["box", "block", "put", "say", "ask", "go", "if", "else", "table", "stop"]
def bM (w:Str):Bool:=decide (1<=w.length/\w.length<=8) && (w.cps.toList.all isLet && !decide (w∈taken))
def numOk (w:Str):Bool:=decide (1<=w.length/\w.length<=3) && (!(decide (w.cps.toList.head?=some 48) && !decide (w= "0")) && w.cps.toList.all isFig)
noncomputable def fk (w:Str):Int:=((PySem.NumText.digitsVal w.cps.toList:Nat):Int)
inductive Exp where
 |num (n:Int)
 |box (x:Str)
 |bin (s:Str)(l r:Exp)
 deriving DecidableEq
def leafP (l:List Nat):Option (Exp×List Nat):=
 if bM ⟨(l.takeWhile isAN).toArray⟩=true then some (.box ⟨(l.takeWhile isAN).toArray⟩,l.dropWhile isAN)
 else if numOk ⟨(l.takeWhile isAN).toArray⟩=true then some (.num (fk ⟨(l.takeWhile isAN).toArray⟩),l.dropWhile isAN) else none
noncomputable def chain (f:List Nat->Option (Exp×List Nat))(ops:List Nat):Nat->Exp->List Nat->Option (Exp×List Nat)
 |0,e,l=>some (e,l)
 |_+1,e,[]=>some (e,[])
 |n+1,e,c::r=>if c∈ops then (match f r with
   |none=>none
   |some (e2,r2)=>chain f ops n (.bin ⟨#[c]⟩ e e2) r2) else some (e,c::r)
def parts (f:List Nat->Option (Exp×List Nat))(ops:List Nat)(l:List Nat):Option (Exp×List Nat):=match f l with
 |none=>none
 |some (e,r)=>chain f ops r.length e r
noncomputable def opsF:List Nat:=[42]
noncomputable def opsT:List Nat:=[43,45]
noncomputable def dy (f:List Nat->Option (Exp×List Nat))(r:List Nat):Option (Exp×List Nat):=match f r with
 |some (e,41::r2)=>some (e,r2)
 |_=>none
def cB:Nat->List Nat->Option (Exp×List Nat)
 |0,l=>if l.head?=some 40 then none else leafP l
 |m+1,l=>if l.head?=some 40 then dy (parts (parts (cB m) opsF) opsT) l.tail else leafP l
def cF (m:Nat):List Nat->Option (Exp×List Nat):=parts (cB m) opsF
def gN (m:Nat):List Nat->Option (Exp×List Nat):=parts (cF m) opsT
def exprP (w:Str):Option Exp:=if w.length>60 then none else match gN 5 w.cps.toList with
 |some (e,[])=>some e
 |_=>none
noncomputable def Suf (f:List Nat->Option (Exp×List Nat)):Prop:= ∀l e r,f l=some (e,r)->r<:+l
theorem pQ:Suf leafP:=fun l e r h=>by
 unfold leafP at h
 split at h
 ·cases h;exact List.dropWhile_suffix _
 ·split at h
  ·cases h;exact List.dropWhile_suffix _
  ·cases h
theorem nG {f:List Nat->Option (Exp×List Nat)}{ops:List Nat}(hf:Suf f): ∀ (n:Nat) (e:Exp) (l:List Nat) (e':Exp) (r:List Nat),chain f ops n e l=some (e',r)->r<:+l
 |0,e,l,e',r,h=>by cases h;exact List.suffix_refl _
 |_+1,e,[],e',r,h=>by cases h;exact List.suffix_refl _
 |n+1,e,c::l,e',r,h=>by
  unfold chain at h
  split at h
  ·split at h
   ·cases h
   ·rename_i e2 r2 hf2
    exact (nG hf n _ r2 e' r h).trans ((hf l e2 r2 hf2).trans (List.suffix_cons c l))
  ·cases h;exact List.suffix_refl _
theorem jg {f:List Nat->Option (Exp×List Nat)}{ops:List Nat}(hf:Suf f):Suf (parts f ops):=fun l e r h=>by
 unfold parts at h
 split at h
 ·cases h
 ·rename_i e1 r1 h1
  exact (nG hf _ _ _ _ _ h).trans (hf l e1 r1 h1)
theorem pS {f:List Nat->Option (Exp×List Nat)}(hf:Suf f):Suf (dy f):=fun l e r h=>by
 unfold dy at h
 split at h
 ·rename_i e1 r1 h1
  cases h
  exact (List.suffix_cons 41 r).trans (hf l e _ h1)
 ·cases h
theorem jM: ∀m,Suf (cB m)
 |0=>fun l e r h=>by
  unfold cB at h
  split at h
  ·cases h
  ·exact pQ l e r h
 |m+1=>fun l e r h=>by
  unfold cB at h
  split at h
  ·exact (pS (jg (jg (jM m))) _ e r h).trans (List.tail_suffix l)
  ·exact pQ l e r h
theorem lr (m:Nat):Suf (cF m):=jg (jM m)
theorem nF (m:Nat):Suf (gN m):=jg (lr m)
theorem vd {w l r:List Nat}{p:Nat}(hl:l=w.drop p)(h:r<:+l):r=w.drop (w.length - r.length)/\r.length<=l.length:=by
 subst hl
 refine⟨List.suffix_iff_eq_drop.mp (h.trans (List.drop_suffix p w)),h.length_le⟩
end Wd
namespace Q
open PySem L2
noncomputable def top (i:Nat):Stmt:=PySem.Challenge.pw_blockfall_k48_whole_lengths_are_least.main.body.getD i (.Pass ⟨0,0,0,0⟩)
noncomputable abbrev lI:Stmt:=top 19
noncomputable abbrev oG:Stmt:=top 20
noncomputable abbrev sExpr:Stmt:=top 22
noncomputable abbrev oF:Stmt:=top 23
noncomputable abbrev j2:Stmt:=top 24
noncomputable abbrev lJ:Stmt:=top 25
noncomputable abbrev iY:Stmt:=top 26
noncomputable abbrev rp:Stmt:=cR (top 21) 0
noncomputable abbrev rA:Stmt:=cR (top 21) 1
noncomputable abbrev mh:Stmt:=cR (top 21) 2
noncomputable abbrev rn:Stmt:=cR (top 21) 3
noncomputable abbrev sSRun:Stmt:=cR (top 21) 4
end Q
namespace Q
open PySem L2 Wd
def takenV:List V:=taken.map V.str
structure Txt (K:PySem.W.Frag)(mg:Str->Option Value)(CS CN:Addr):Prop where
 cl:Cls K CS
 nw:NoAttr K CS "word"
 np:NoAttr K CS "place"
 mgS:mg "Signs"=some (.ref CS)
 mgN:mg "NoRow"=some (.ref CN)
 exN:PySem.W.excIn K CN bmVal "ValueError.__new__"=true
 len:mg "len"=none
 all:mg "all"=none
 int:mg "int"=none
 let_: ∃t,mg "LETTERS"=some (.str LET t)
 fig: ∃t,mg "FIGURES"=some (.str FIG t)
 tak: ∃a,mg "TAKEN_WORDS"=some (.ref a)/\ ∀H:Hp,SqT K H a takenV
 n8: ∃t,mg "LONGEST_NAME"=some (.int 8 t)
 n3: ∃t,mg "LONGEST_NUMBER"=some (.int 3 t)
 n60: ∃t,mg "LONGEST_EXPRESSION"=some (.int 60 t)
 n5: ∃t,mg "DEEPEST_BRACKET"=some (.int 5 t)
theorem eK {H:Hp}{p:Addr}(h:H p=none)(o:HO):Same H (upd H p o):=fun b u q=>by rw[aH (bZ q h)];exact q
theorem small {n:Nat}(h:n<=1000):n<=sizeLine:=Nat.le_of_lt (kK h)
theorem kI {α:Type}{l:List α}{i:Nat}{x:α}(h:l[i]?=some x):l.take (i+1)=l.take i++[x]:=by
 obtain⟨hi,e⟩:=List.getElem?_eq_some_iff.mp h
 rw[List.take_succ,h]
 rfl
theorem AO {α:Type}{xs:List α}{i:Int}{v:α}(h0:0<=i)(h:xs[i.toNat]?=some v):atI xs i=some v:=by
 have q:=kD h
 have e:((i.toNat:Nat):Int)=i:=by omega
 rw[e] at q;exact q
theorem cj (w:Str):w.cps.toList.length=w.length:=by simp [Str.length]
theorem yesT {σ:St}{H:Hp}{A B:Hp->Prop}(h:A H):tYes σ H (fun b H3=>if b=true then A H3 else B H3):=by
 show if true=true then A H else B H
 rw[if_pos rfl];exact h
section
variable {P:Program}{w:World}{K:PySem.W.Frag}{mg:Str->Option Value}{base:Heap}{f CS CN:Addr}{fd:FuncData}
def lX:Sp:=fun vs H Q _=> ∃z:Str,vs=[.str z]/\z.length<=sizeLine/\ ∀H',Same H H'->Q (.bl (bM z)) H'
theorem zu:FnScope ["word"] ["word"] (ak lI):=⟨rfl,rfl,rfl,by decide+kernel,rfl,by decide+kernel,by decide+kernel⟩
theorem v8:((["sign", ".0"]:List Str)++(["word"]:List Str).map (hid ["sign", ".0"])).Nodup:=by decide+kernel
theorem uI (z:Str):inV (.str z) takenV=decide (z∈taken):=by
 unfold inV takenV
 rw[Bool.eq_iff_iff,List.any_eq_true,decide_eq_true_eq]
 constructor
 ·rintro⟨v,hv,h⟩
  obtain⟨y,hy,rfl⟩:=List.mem_map.mp hv
  have:y=z:=by simpa [eqV] using h
  subst this;exact hy
 ·intro h
  exact⟨.str z,List.mem_map.mpr ⟨z,h,rfl⟩,by simp [eqV]⟩
theorem sd:takenV.all flatV=true:=by decide+kernel
theorem xX (F:Fun K "is_name" "is_name" lI f fd)(T:Txt K mg CS CN):FnOk P w K mg base CX0 1 f fd ["word"] lX:=by
 refine F.ok zu (fun vs H Q E h=>?_) (fun cdv A outer s H vs Q E hr h=>?_)
 ·obtain⟨z,rfl,_⟩:=h
  rfl
 obtain⟨z,rfl,hz,q⟩:=h
 obtain⟨t8,h8⟩:=T.n8
 obtain⟨tL,hL⟩:=T.let_
 obtain⟨aT,hT,sT⟩:=T.tak
 refine⟨_,aR (iN (PW.pt (vF (ft vU (eP call_len_str rfl T.len PySem.boot_len (aA (pv 0) pa_nil)) pe_int (av _))
   (rC (ft nN (eP call_len_str rfl T.len PySem.boot_len (aA (pv 0) pa_nil)) (eO (v:=.int 8) rfl h8 ⟨_,rfl⟩) (av _))))) (bC (dg pe_bl)) pss_nil)
  (bC (dg (vQ (eP (qT rfl) rfl T.all PyProof.Rows.boot_all (aA (oN (ls:=["sign", ".0"]) rfl (.of (ak lI)) (vM (pv 0)) (fun _ _ _ _=>aZ (i:=0) v8 rfl (Or.inl rfl) (.inr rfl)) (fun _ _ _ _=>oM)
      (fun _ _ _ _=>jk op_in_str (pv 0) (eO (v:=.str LET) rfl hL ⟨_,rfl⟩) (by with_unfolding_all rfl))) pa_nil))
   (vN (jk op_notIn_seq (pv 0) (eO (v:=.ref aT) rfl hT rfl) (by with_unfolding_all rfl)))))),?_⟩
 refine⟨_,rfl,z,rfl,hz,_,_,rfl,rfl,_,rfl,?_⟩
 have no: ¬(1<=z.length/\z.length<=8)->bM z=false:=fun h=>by unfold bM;rw[decide_eq_false h];rfl
 refine ite2 (fun c=>?_) (fun c=>?_)
 ·have c1:(z.length:Int)<1:=of_decide_eq_true c
  refine iteT ?_
  have:=q H (Same.refl _)
  rw[no (by omega)] at this
  exact this
 ·have c1: ¬(z.length:Int)<1:=of_decide_eq_false (Bool.eq_false_iff.mpr c)
  refine⟨_,rfl,z,rfl,hz,_,_,rfl,rfl,_,rfl,?_⟩
  refine ite2 (fun c=>?_) (fun c=>?_)
  ·have c2:(z.length:Int)>8:=of_decide_eq_true c
   have:=q H (Same.refl _)
   rw[no (by omega)] at this
   exact this
  ·have c2: ¬(z.length:Int)>8:=of_decide_eq_false (Bool.eq_false_iff.mpr c)
   have yes:bM z=(z.cps.toList.all isLet && !decide (z∈taken)):=by
    unfold bM
    rw[decide_eq_true (by omega:1<=z.length/\z.length<=8)];rfl
   refine⟨rfl,_,rfl,z,rfl,qQ (fun i ys H'=>H'=H/\ys=((z.cps.toList.take i).map isLet).map V.bl) ⟨rfl,rfl⟩ ?_ ?_⟩
   ·rintro i c0 ys H' hc ⟨rfl,rfl⟩
    refine⟨rfl,rfl,yesT ?_⟩
    refine⟨_,rfl,_,_,rfl,rfl,?_,rfl,?_⟩
    ·rw[List.length_map,List.length_map,List.length_take]
     exact kK (by rw[cj];omega)
    ·rw[kI hc,List.map_append,List.map_append,rZ];rfl
   ·rintro ys H' ⟨rfl,rfl⟩ D hD
    refine⟨D,(z.cps.toList.take z.cps.size).map isLet,rfl,SqL.of bb,_,rfl,?_⟩
    have ea:((z.cps.toList.take z.cps.size).map isLet).all id=z.cps.toList.all isLet:=by
     have:z.cps.size=z.cps.toList.length:=by simp
     rw[this,List.take_length,List.all_map];rfl
    rw[ea]
    cases hb:z.cps.toList.all isLet with
    |false=>
     refine iteF ?_
     have this: ∀L,Q _ (upd H' D (.lst L)):=fun L=>q _ (eK hD _)
     rw[yes,hb] at this
     exact this _
    |true=>
     refine iteT ⟨_,rfl,aT,takenV,rfl,.inr (sT _),rfl,sd,?_⟩
     have this: ∀L,Q _ (upd H' D (.lst L)):=fun L=>q _ (eK hD _)
     rw[yes,hb,<-uI] at this
     exact this _
def spNum:Sp:=fun vs H Q _=> ∃z:Str,vs=[.str z]/\z.length<=sizeLine/\ ∀H',Same H H'->Q (.bl (numOk z)) H'
theorem scNum:FnScope ["word"] ["word"] (ak oG):=⟨rfl,rfl,rfl,by decide+kernel,rfl,by decide+kernel,by decide+kernel⟩
theorem Ac (F:Fun K "is_number" "is_number" oG f fd)(T:Txt K mg CS CN):FnOk P w K mg base CX0 1 f fd ["word"] spNum:=by
 refine F.ok scNum (fun vs H Q E h=>?_) (fun cdv A outer s H vs Q E hr h=>?_)
 ·obtain⟨z,rfl,_⟩:=h
  rfl
 obtain⟨z,rfl,hz,q⟩:=h
 obtain⟨t3,h3⟩:=T.n3
 obtain⟨tL,hL⟩:=T.fig
 refine⟨_,aR (iN (PW.pt (vF (ft vU (eP call_len_str rfl T.len PySem.boot_len (aA (pv 0) pa_nil)) pe_int (av _))
   (rC (ft nN (eP call_len_str rfl T.len PySem.boot_len (aA (pv 0) pa_nil)) (eO (v:=.int 3) rfl h3 ⟨_,rfl⟩) (av _))))) (bC (dg pe_bl)) pss_nil)
  (aR (iN (PW.pt (vG (ft op_eq (sO pk (pv 0) pe_int (fun _ _=>rfl)) pe_str (av _)) (sJ (ft op_ne (pv 0) pe_str (av _))))) (bC (dg pe_bl)) pss_nil)
  (bC (dg (eP (qT rfl) rfl T.all PyProof.Rows.boot_all (aA (oN (ls:=["sign", ".0"]) rfl (.of (ak oG)) (vM (pv 0)) (fun _ _ _ _=>aZ (i:=0) v8 rfl (Or.inl rfl) (.inr rfl)) (fun _ _ _ _=>oM)
      (fun _ _ _ _=>jk op_in_str (pv 0) (eO (v:=.str FIG) rfl hL ⟨_,rfl⟩) (by with_unfolding_all rfl))) pa_nil))))),?_⟩
 refine⟨_,rfl,z,rfl,hz,_,_,rfl,rfl,_,rfl,?_⟩
 have no: ¬(1<=z.length/\z.length<=3)->numOk z=false:=fun h=>by unfold numOk;rw[decide_eq_false h];rfl
 refine ite2 (fun c=>?_) (fun c=>?_)
 ·have c1:(z.length:Int)<1:=of_decide_eq_true c
  refine iteT ?_
  have:=q H (Same.refl _)
  rw[no (by omega)] at this
  exact this
 ·have c1: ¬(z.length:Int)<1:=of_decide_eq_false (Bool.eq_false_iff.mpr c)
  refine⟨_,rfl,z,rfl,hz,_,_,rfl,rfl,_,rfl,?_⟩
  refine ite2 (fun c=>?_) (fun c=>?_)
  ·have c2:(z.length:Int)>3:=of_decide_eq_true c
   have:=q H (Same.refl _)
   rw[no (by omega)] at this
   exact this
  ·have c2: ¬(z.length:Int)>3:=of_decide_eq_false (Bool.eq_false_iff.mpr c)
   have yes:numOk z=(!(decide (z.cps.toList.head?=some 48) && !decide (z= "0")) && z.cps.toList.all isFig):=by
    unfold numOk
    rw[decide_eq_true (by omega:1<=z.length/\z.length<=3)];rfl
   obtain⟨c0,r0,e0⟩: ∃c0 r0,z.cps.toList=c0::r0:=by
    cases h:z.cps.toList with
    |nil=>have:=cj z;rw[h] at this;simp at this;omega
    |cons a b=>exact⟨a,b,rfl⟩
   refine⟨_,rfl,z,0,c0,rfl,rfl,hz,by rw[e0];exact AO (by decide) rfl,rfl,_,rfl,?_⟩
   have h48:decide (V.str ⟨#[c0]⟩=V.str "0")=decide (z.cps.toList.head?=some 48):=by
    rw[e0,decide_eq_decide]
    constructor
    ·intro h
     have h1:=V.str.inj h
     have h2:(#[c0]:Array Nat)=("0":Str).cps:=congrArg Str.cps h1
     have h3:("0":Str).cps= #[48]:=by decide+kernel
     rw[h3] at h2
     have:c0=48:=by simpa using h2
     subst this;rfl
    ·intro h
     have:c0=48:=by simpa using h
     subst this
     have h3:(⟨#[48]⟩:Str)= "0":=by decide+kernel
     rw[h3]
   have fin:(!(decide (z.cps.toList.head?=some 48) && !decide (z= "0")))=true->tRet (tCB (fun xs H Q=> ∃ (p:Addr) (bs:List Bool),xs=[.ref p]/\SqL K H p (bs.map V.bl)/\Q (.bl (bs.all id)) H) (tCons (tComp ["word"] ["sign", ".0"] (iStr (tVar 0)) (gName 0) tYes (tOp (fun x y H Q=> ∃i j,x=.str i/\y=.str j/\Q (.bl (!(Builtin.Str.occurrences j i 0 j.length 1).isEmpty)) H) (tVar 0) (tC (.str FIG)))) tNil)) {nx:=fun _ H'=>Q .non H',rt:=Q} (start ["word"] [.str z]) H:=by
    intro hb
    refine⟨rfl,_,rfl,z,rfl,qQ (fun i ys H'=>H'=H/\ys=((z.cps.toList.take i).map isFig).map V.bl) ⟨rfl,rfl⟩ ?_ ?_⟩
    ·rintro i c0 ys H' hc ⟨rfl,rfl⟩
     refine⟨rfl,rfl,yesT ?_⟩
     refine⟨_,rfl,_,_,rfl,rfl,?_,rfl,?_⟩
     ·rw[List.length_map,List.length_map,List.length_take]
      exact kK (by rw[cj];omega)
     ·rw[kI hc,List.map_append,List.map_append,rZ];rfl
    ·rintro ys H' ⟨rfl,rfl⟩ D hD
     refine⟨D,(z.cps.toList.take z.cps.size).map isFig,rfl,SqL.of bb,?_⟩
     have ea:((z.cps.toList.take z.cps.size).map isFig).all id=z.cps.toList.all isFig:=by
      have:z.cps.size=z.cps.toList.length:=by simp
      rw[this,List.take_length,List.all_map];rfl
     rw[ea]
     have this: ∀L,Q _ (upd H' D (.lst L)):=fun L=>q _ (eK hD _)
     rw[yes,hb,Bool.true_and] at this
     exact this _
   rw[h48]
   refine ite2 (fun c=>?_) (fun c=>?_)
   ·refine⟨_,rfl,rfl,_,rfl,?_⟩
    have e2:decide (V.str z=V.str "0")=decide (z= "0"):=by
     rw[decide_eq_decide];exact⟨V.str.inj,congrArg V.str⟩
    rw[e2]
    refine ite2 (fun c2=>?_) (fun c2=>?_)
    ·have:=q H (Same.refl _)
     rw[yes,c,c2] at this
     exact this
    ·exact fin (by rw[c,Bool.eq_false_iff.mpr c2];rfl)
   ·exact fin (by rw[Bool.eq_false_iff.mpr c];rfl)
end
end Q
namespace Q
open PySem L2 Wd
structure CF (P:Program)(w:World)(K:PySem.W.Frag)(mg:Str->Option Value)(base:Heap)(CX:CXT)(k:Nat)(x:Str)(f:Addr)(fd:FuncData)(ps:List Str)(sp:Sp):Prop where
 ok:FnOk P w K mg base CX k f fd ps sp
 bi:Binds K fd ps []
 kp:keepIn K (.ref f)=true
 mg:mg x=some (.ref f)
structure CM (P:Program)(w:World)(K:PySem.W.Frag)(mg:Str->Option Value)(base:Heap)(CX:CXT)(k:Nat)(C:Addr)(m:Str)(f:Addr)(fd:FuncData)(ps:List Str)(sp:Sp):Prop where
 ok:FnOk P w K mg base CX k f fd ps sp
 bi:Binds K fd ps []
 me:Meth K C m f
theorem uX: ¬(("word":Str)= "place"):=by decide+kernel
def flds (z:Str)(p:Int):List (Str×V):=putF "place" (.int p) (putF "word" (.str z) [])
theorem lO (z:Str)(p:Int):flds z p=([("word",V.str z),("place",V.int p)]:List (Str×V)):=by
 show (if ("word":Str)= "place" then [(("word":Str),V.int p)] else (("word":Str),V.str z)::putF "place" (V.int p) [])=([("word",V.str z),("place",V.int p)]:List (Str×V))
 rw[if_neg uX]
 all_goals rfl
theorem jC (z:Str)(p:Int):(flds z p).lookup ("word":Str)=some (.str z):=by
 unfold flds
 rw[dj,if_neg uX,dj,if_pos rfl]
theorem eB (z:Str)(p:Int):(flds z p).lookup ("place":Str)=some (.int p):=by
 unfold flds
 rw[dj,if_pos rfl]
theorem dS (z:Str)(p:Int){m:Str}(h1: ¬m= "place")(h2: ¬m= "word"):(flds z p).lookup m=none:=by
 unfold flds
 rw[dj,if_neg h1,dj,if_neg h2]
 all_goals rfl
theorem qI (z:Str)(p y:Int):putF "place" (.int y) (flds z p)=flds z y:=by
 rw[lO,lO]
 show (if ("word":Str)= "place" then _ else (("word":Str),V.str z)::(if ("place":Str)= "place" then [(("place":Str),V.int y)] else _))=([("word",V.str z),("place",V.int y)]:List (Str×V))
 rw[if_neg uX,if_pos rfl]
def SgAt (C:Addr)(H:Hp)(a:Addr)(z:Str)(p:Nat):Prop:=z.length<=sizeLine/\p<=z.length/\ ∃dx,H a=some (.ins C dx (flds z (p:Int)))
def Moved (H H':Hp)(a:Addr):Prop:= ∀b o,b≠a->H b=some o->H' b=some o
theorem Moved.refl (H:Hp)(a:Addr):Moved H H a:=fun _ _ _ h=>h
theorem Moved.trans {H H1 H2:Hp}{a:Addr}(x:Moved H H1 a)(y:Moved H1 H2 a):Moved H H2 a:=fun b o hb h=>y b o hb (x b o hb h)
theorem Moved.same {H H1:Hp}{a:Addr}(x:Same H H1):Moved H H1 a:=fun b o _ h=>x b o h
theorem jp {H:Hp}{a:Addr}(o:HO):Moved H (upd H a o) a:=fun b u hb h=>by rw[aH hb];exact h
theorem SgAt.same {C:Addr}{H H':Hp}{a:Addr}{z:Str}{p:Nat}(g:Same H H')(h:SgAt C H a z p):SgAt C H' a z p:=let ⟨h1,h2,dx,e⟩:=h;⟨h1,h2,dx,g _ _ e⟩
noncomputable def dE (z:Str)(p:Nat)(y:Str):Bool:=match z.cps.toList.drop p with
 |[]=>false
 |c::_=>decide (c∈y.cps.toList)
section
variable {P:Program}{w:World}{K:PySem.W.Frag}{mg:Str->Option Value}{base:Heap}{f CS CN fD fS:Addr}{fd fdD fdS:FuncData}
def sC (C:Addr):Sp:=fun vs H Q _=> ∃ (a dx:Addr) (z:Str),vs=[.ref a,.str z]/\H a=some (.ins C dx [])/\z.length<=sizeLine/\ ∀H',Moved H H' a->SgAt C H' a z 0->Q .non H'
theorem xF:FnScope ["self", "word"] ["self", "word"] (ak rp):=⟨rfl,rfl,rfl,by decide+kernel,rfl,by decide+kernel,by decide+kernel⟩
theorem vX (F:Fun K "__init__" "Signs.__init__" rp f fd)(T:Txt K mg CS CN):FnOk P w K mg base CX0 1 f fd ["self", "word"] (sC CS):=by
 refine F.ok xF (fun vs H Q E h=>?_) (fun cdv A outer s H vs Q E hr h=>?_)
 ·obtain⟨a,dx,z,rfl,_⟩:=h
  rfl
 obtain⟨a,dx,z,rfl,hp,hz,k⟩:=h
 refine⟨_,aR (rE (pv 0) (pv 1) rfl) (bC (rE (pv 0) pe_int rfl)),?_⟩
 refine⟨_,rfl,_,rfl,a,CS,dx,[],rfl,hp,T.cl,T.nw,(by show 0<1000;decide),_,rfl,a,CS,dx,_,rfl,bb,T.cl,T.np,(by show 1<1000;decide),?_⟩
 exact k _ ((jp _).trans (jp _)) ⟨hz,Nat.zero_le _,dx,bb⟩
def oz (C:Addr):Sp:=fun vs H Q _=> ∃ (a:Addr) (z:Str) (p:Nat),vs=[.ref a]/\SgAt C H a z p/\Q (.bl (decide (p=z.length))) H
theorem zv:FnScope ["self"] ["self"] (ak rA):=⟨rfl,rfl,rfl,by decide+kernel,rfl,by decide+kernel,by decide+kernel⟩
theorem yb (F:Fun K "is_done" "Signs.is_done" rA f fd)(T:Txt K mg CS CN):FnOk P w K mg base CX0 1 f fd ["self"] (oz CS):=by
 refine F.ok zv (fun vs H Q E h=>?_) (fun cdv A outer s H vs Q E hr h=>?_)
 ·obtain⟨a,z,p,rfl,_⟩:=h
  rfl
 obtain⟨a,z,p,rfl,⟨hz,hp,dx,ha⟩,k⟩:=h
 refine⟨_,bC (dg (jk op_eq (gS (pv 0) rfl) (eP call_len_str rfl T.len PySem.boot_len (aA (gS (pv 0) rfl) pa_nil)) (av _))),?_⟩
 refine⟨_,rfl,a,CS,dx,_,_,rfl,ha,T.cl,T.np,eB _ _,_,rfl,a,CS,dx,_,_,rfl,ha,T.cl,T.nw,jC _ _,z,rfl,hz,rfl,?_⟩
 have e:decide (V.int (p:Int)=V.int (z.length:Int))=decide (p=z.length):=by
  rw[decide_eq_decide]
  exact⟨fun h=>by have:=V.int.inj h;omega,fun h=>by rw[h]⟩
 show Q (.bl (decide (V.int (p:Int)=V.int (z.length:Int)))) H
 rw[e]
 exact k
def fL (C:Addr):Sp:=fun vs H Q _=> ∃ (a:Addr) (z:Str) (p:Nat) (y:Str),vs=[.ref a,.str y]/\SgAt C H a z p/\Q (.bl (dE z p y)) H
theorem vo:FnScope ["self", "wanted"] ["self", "wanted"] (ak mh):=⟨rfl,rfl,rfl,by decide+kernel,rfl,by decide+kernel,by decide+kernel⟩
theorem yT {z:Str}{p:Nat}(h:p<z.length): ∃c,z.cps.toList[p]?=some c/\z.cps.toList.drop p=c::z.cps.toList.drop (p+1):=by
 have hl:p<z.cps.toList.length:=by rw[cj];exact h
 exact⟨z.cps.toList[p],List.getElem?_eq_getElem hl,List.drop_eq_getElem_cons hl⟩
theorem ul (F:Fun K "stands_one_of" "Signs.stands_one_of" mh f fd)(T:Txt K mg CS CN)(M:CM P w K mg base CX0 1 CS "is_done" fD fdD ["self"] (oz CS)):FnOk P w K mg base CX0 2 f fd ["self", "wanted"] (fL CS):=by
 refine F.ok vo (fun vs H Q E h=>?_) (fun cdv A outer s H vs Q E hr h=>?_)
 ·obtain⟨a,z,p,y,rfl,_⟩:=h
  rfl
 obtain⟨a,z,p,y,rfl,S,k⟩:=h
 obtain⟨hz,hp,dx,ha⟩:=id S
 refine⟨_,bC (dg (vQ (zO (gp (pv 0) T.cl M.me M.ok hr M.bi .nil pass0)) (vN (jk op_in_str (sO pk (gS (pv 0) rfl) (gS (pv 0) rfl) (fun _ _=>rfl)) (pv 1) (by with_unfolding_all rfl))))),?_⟩
 refine⟨_,rfl,a,dx,_,rfl,ha,dS _ _ (by decide+kernel) (by decide+kernel),a,z,p,rfl,S,_,rfl,_,rfl,?_⟩
 by_cases hd:p=z.length
 ·rw[decide_eq_true hd]
  refine iteF ?_
  have e:dE z p y=false:=by
   unfold dE
   rw[List.drop_eq_nil_of_le (by rw[cj];omega)]
  rw[e] at k
  exact k
 ·rw[decide_eq_false hd]
  obtain⟨c,hc,hdr⟩:=yT (z:=z) (p:=p) (by omega)
  refine iteT ⟨_,rfl,a,CS,dx,_,_,rfl,ha,T.cl,T.nw,jC _ _,_,rfl,a,CS,dx,_,_,rfl,ha,T.cl,T.np,eB _ _,z,(p:Int),c,rfl,rfl,hz,kD hc,_,rfl,_,_,rfl,rfl,?_⟩
  have e:dE z p y=decide (c∈y.cps.toList):=by
   unfold dE
   rw[hdr]
  rw[e] at k
  rw[rZ]
  exact k
def kJ (C:Addr):Sp:=fun vs H Q _=> ∃ (a:Addr) (z:Str) (p:Nat) (c:Nat),vs=[.ref a]/\SgAt C H a z p/\z.cps.toList[p]?=some c/\ ∀H',Moved H H' a->SgAt C H' a z (p+1)->Q (.str ⟨#[c]⟩) H'
theorem scTake:FnScope ["self", "sign"] ["self"] (ak rn):=⟨rfl,rfl,rfl,by decide+kernel,rfl,by decide+kernel,by decide+kernel⟩
theorem kq {z:Str}{p c:Nat}(h:z.cps.toList[p]?=some c):p<z.length:=by rw[<-cj];exact (List.getElem?_eq_some_iff.mp h).1
theorem xV (F:Fun K "take_sign" "Signs.take_sign" rn f fd)(T:Txt K mg CS CN):FnOk P w K mg base CX0 1 f fd ["self"] (kJ CS):=by
 refine F.ok scTake (fun vs H Q E h=>?_) (fun cdv A outer s H vs Q E hr h=>?_)
 ·obtain⟨a,z,p,c,rfl,_⟩:=h
  rfl
 obtain⟨a,z,p,c,rfl,⟨hz,hp,dx,ha⟩,hc,k⟩:=h
 refine⟨_,aR (fj (i:=1) scTake.nd rfl (Or.inl rfl) (sO pk (gS (pv 0) rfl) (gS (pv 0) rfl) (fun _ _=>rfl))) (aR (nL (pv 0) pe_int wK) (bC (dg (pv 1)))),?_⟩
 refine⟨_,rfl,a,CS,dx,_,_,rfl,ha,T.cl,T.nw,jC _ _,_,rfl,a,CS,dx,_,_,rfl,ha,T.cl,T.np,eB _ _,z,(p:Int),c,rfl,rfl,hz,kD hc,?_⟩
 refine⟨_,rfl,a,CS,dx,_,_,rfl,ha,T.cl,T.np,eB _ _,_,_,rfl,rfl,dx,_,ha,(by rw[lO];show 2<1000;decide),_,rfl,?_⟩
 refine k _ (jp _) ⟨hz,kq hc,dx,?_⟩
 rw[bb,qI]
 rfl
def spRun (C:Addr):Sp:=fun vs H Q _=> ∃ (a:Addr) (z:Str) (p:Nat) (y:Str),vs=[.ref a,.str y]/\SgAt C H a z p/\
 ∀H',Moved H H' a->SgAt C H' a z (p+((z.cps.toList.drop p).takeWhile fun c=>decide (c∈y.cps.toList)).length)->Q (.str ⟨((z.cps.toList.drop p).takeWhile fun c=>decide (c∈y.cps.toList)).toArray⟩) H'
theorem scRun:FnScope ["self", "wanted", "begin"] ["self", "wanted"] (ak sSRun):=⟨rfl,rfl,rfl,by decide+kernel,rfl,by decide+kernel,by decide+kernel⟩
theorem Ab (F:Fun K "run_of" "Signs.run_of" sSRun f fd)(T:Txt K mg CS CN)(M:CM P w K mg base CX0 2 CS "stands_one_of" fS fdS ["self", "wanted"] (fL CS)):FnOk P w K mg base CX0 3 f fd ["self", "wanted"] (spRun CS):=by
 refine F.ok scRun (fun vs H Q E h=>?_) (fun cdv A outer s H vs Q E hr h=>?_)
 ·obtain⟨a,z,p,y,rfl,_⟩:=h
  rfl
 obtain⟨a,z,p,y,rfl,S,k⟩:=h
 obtain⟨hz,hp,dx,ha⟩:=id S
 refine⟨_,aR (fj (i:=2) scRun.nd rfl (Or.inl rfl) (gS (pv 0) rfl))
  (aR (j5 PassesOwn.never (io (ip (pv 0) T.cl M.me M.ok hr M.bi .nil pass0 (aA (pv 1) pa_nil))) (bC (nL (pv 0) pe_int wK)))
  (bC (dg (mr sl_str (gS (pv 0) rfl) (oK (pv 2)) (oK (gS (pv 0) rfl)))))),?_⟩
 refine⟨_,rfl,a,CS,dx,_,_,rfl,ha,T.cl,T.np,eB _ _,?_⟩
 refine⟨fun m σ H'=> ∃j,σ=[some (.ref a),some (.str y),some (.int (p:Int))]/\Moved H H' a/\SgAt CS H' a z (p+j)/\m=z.length - (p+j)/\
  (z.cps.toList.drop p).takeWhile (fun c=>decide (c∈y.cps.toList))=(z.cps.toList.drop p).take j++(z.cps.toList.drop (p+j)).takeWhile (fun c=>decide (c∈y.cps.toList))/\j<=(z.cps.toList.drop p).length,⟨_,0,rfl,Moved.refl _ _,S,rfl,by simp,Nat.zero_le _⟩,?_⟩
 rintro m σ H' ⟨j,rfl,mv,S',rfl,tw,jl⟩
 obtain⟨hz',hp',dx',ha'⟩:=id S'
 refine⟨_,rfl,a,dx',_,rfl,ha',dS _ _ (by decide+kernel) (by decide+kernel),_,rfl,a,z,p+j,y,rfl,S',_,rfl,?_⟩
 refine ite2 (fun c=>?_) (fun c=>?_)
 ·have lt:p+j<z.length:=by
   rcases Nat.lt_or_ge (p+j) z.length with h|h
   ·exact h
   ·unfold dE at c
    rw[List.drop_eq_nil_of_le (by rw[cj];exact h)] at c
    cases c
  obtain⟨c0,hc0,hdr⟩:=yT lt
  have cw:decide (c0∈y.cps.toList)=true:=by
   unfold dE at c
   rw[hdr] at c
   exact c
  refine⟨_,fun σ' H'' h=>h,⟨_,rfl,a,CS,dx',_,_,rfl,ha',T.cl,T.np,eB _ _,_,_,rfl,rfl,dx',_,ha',(by rw[lO];show 2<1000;decide),?_⟩⟩
  refine⟨z.length - (p+(j+1)),by omega,j+1,rfl,mv.trans (jp _),⟨hz,by omega,dx',?_⟩,rfl,?_,?_⟩
  ·rw[bb,qI]
   show some (HO.ins CS dx' (flds z (((p+j:Nat):Int)+1)))=some (HO.ins CS dx' (flds z ((p+(j+1):Nat):Int)))
   have:((p+j:Nat):Int)+1=((p+(j+1):Nat):Int):=by omega
   rw[this]
  ·rw[tw,hdr,List.takeWhile_cons,if_pos cw]
   have:(z.cps.toList.drop p)[j]?=some c0:=by rw[List.getElem?_drop];exact hc0
   rw[kI this,List.append_assoc]
   rfl
  ·rw[List.length_drop,cj];omega
 ·have tn:(z.cps.toList.drop (p+j)).takeWhile (fun c=>decide (c∈y.cps.toList))=[]:=by
   unfold dE at c
   split at c
   ·rename_i h;rw[h];rfl
   ·rename_i c1 r1 h
    rw[h,List.takeWhile_cons,if_neg c]
  rw[tn,List.append_nil] at tw
  have tl:((z.cps.toList.drop p).takeWhile fun c=>decide (c∈y.cps.toList)).length=j:=by rw[tw,List.length_take];omega
  refine⟨_,rfl,a,CS,dx',_,_,rfl,ha',T.cl,T.nw,jC _ _,_,rfl,_,rfl,_,rfl,a,CS,dx',_,_,rfl,ha',T.cl,T.np,eB _ _,_,rfl,z,rfl,hz,?_⟩
  have q:=k H' mv (by rw[tl];exact S')
  rw[StrLaws.sliceText_nat z (a:=p) (b:=p+j) (by omega) hp',Nat.add_sub_cancel_left,<-tw]
  exact q
end
end Q
namespace Q
open PySem L2 Wd
def IsE (H:Hp):Exp->V->Prop
 |.num n,v=> ∃p,v=.ref p/\H p=some (.tup [.str "number",.int n])
 |.box x,v=> ∃p,v=.ref p/\H p=some (.tup [.str "box",.str x])
 |.bin s l r,v=> ∃p a b,v=.ref p/\H p=some (.tup [.str s,a,b])/\IsE H l a/\IsE H r b
theorem IsE.mono {H H':Hp}(g:Same H H'): ∀ {e:Exp}{v:V},IsE H e v->IsE H' e v
 |.num _,_,⟨p,e,h⟩=>⟨p,e,g _ _ h⟩
 |.box _,_,⟨p,e,h⟩=>⟨p,e,g _ _ h⟩
 |.bin _ _ _,_,⟨p,a,b,e,h,h1,h2⟩=>⟨p,a,b,e,g _ _ h,h1.mono g,h2.mono g⟩
theorem q0 {H:Hp}{a p C dx:Addr}{fs:List (Str×V)}{xs:List V}(ha:H a=some (.ins C dx fs))(h:H p=some (.tup xs)):p≠a:=fun z=>by rw[z,ha] at h;cases h
theorem IsE.moved {H H':Hp}{a C dx:Addr}{fs:List (Str×V)}(ha:H a=some (.ins C dx fs))(g:Moved H H' a): ∀ {e:Exp}{v:V},IsE H e v->IsE H' e v
 |.num _,_,⟨p,e,h⟩=>⟨p,e,g _ _ (q0 ha h) h⟩
 |.box _,_,⟨p,e,h⟩=>⟨p,e,g _ _ (q0 ha h) h⟩
 |.bin _ _ _,_,⟨p,x,y,e,h,h1,h2⟩=>⟨p,x,y,e,g _ _ (q0 ha h) h,h1.moved ha g,h2.moved ha g⟩
def iM (C CN:Addr)(H:Hp)(a:Addr)(z:Str)(Q:VK)(E:XK):Option (Exp×List Nat)->Prop
 |some (e,r)=> ∀v H',Moved H H' a->SgAt C H' a z (z.length - r.length)->IsE H' e v->Q v H'
 |none=> ∀H',Moved H H' a->E (.ref CN) none H'
def fX (C CN:Addr)(fP:Nat->List Nat->Option (Exp×List Nat))(m:Nat):Sp:=fun vs H Q E=> ∃ (a:Addr) (z:Str) (p:Nat),vs=[.ref a,.int (5 - (m:Int))]/\SgAt C H a z p/\iM C CN H a z Q E (fP m (z.cps.toList.drop p))
def brP:Nat->List Nat->Option (Exp×List Nat)
 |0,_=>none
 |m+1,r=>dy (gN m) r
theorem uL (m:Nat)(l:List Nat):cB m l=if l.head?=some 40 then brP m l.tail else leafP l:=by
 cases m<;>rfl
def spBr (C CN:Addr)(m:Nat):Sp:=fun vs H Q E=> ∃ (a:Addr) (z:Str) (p:Nat) (r:List Nat),vs=[.ref a,.int (6 - (m:Int))]/\m<=5/\SgAt C H a z p/\z.cps.toList.drop p=40::r/\iM C CN H a z Q E (brP m r)
theorem nu {f:List Nat->Option (Exp×List Nat)}{ops:List Nat}{e:Exp}: ∀ {n:Nat}{l:List Nat},(∀c r,l=c::r-> ¬c∈ops)->chain f ops n e l=some (e,l)
 |0,_,_=>rfl
 |_+1,[],_=>rfl
 |_+1,c::r,h=>by
  unfold chain
  rw[if_neg (h c r rfl)]
theorem yW:("+-":Str).cps.toList=opsT:=by decide+kernel
theorem yX:("*":Str).cps.toList=opsF:=by decide+kernel
theorem A6:("(":Str).cps.toList=[40]:=by decide+kernel
theorem A5:(")":Str).cps.toList=[41]:=by decide+kernel
theorem qL {z:Str}{p:Nat}(hp:p<=z.length):z.length - (z.cps.toList.drop p).length=p:=by rw[List.length_drop,cj];omega
theorem iJ {z:Str}{p c:Nat}{r:List Nat}(h:z.cps.toList.drop p=c::r):z.cps.toList[p]?=some c/\z.cps.toList.drop (p+1)=r:=by
 refine⟨?_,?_⟩
 ·have:(z.cps.toList.drop p)[0]?=some c:=by rw[h];rfl
  rw[List.getElem?_drop] at this
  exact this
 ·have:=congrArg (List.drop 1) h
  rw[List.drop_drop] at this
  exact this
theorem xi {f:List Nat->Option (Exp×List Nat)}{r:List Nat}(h:f r=none):dy f r=none:=by unfold dy;rw[h]
theorem yN {f:List Nat->Option (Exp×List Nat)}{r r2:List Nat}{e:Exp}(h:f r=some (e,41::r2)):dy f r=some (e,r2):=by unfold dy;rw[h];rfl
theorem xh {f:List Nat->Option (Exp×List Nat)}{r r1:List Nat}{e:Exp}(h:f r=some (e,r1))(h2: ¬r1.head?=some 41):dy f r=none:=by
 unfold dy
 rw[h]
 split
 ·rename_i heq
  cases heq
  exact absurd rfl h2
 ·rfl
theorem kC {C:Addr}{H:Hp}{a:Addr}{z:Str}{p:Nat}{r:List Nat}(h:r<:+z.cps.toList.drop p):z.cps.toList.drop (z.length - r.length)=r:=by
 have:=(vd (w:=z.cps.toList) rfl h).1
 rw[cj] at this
 exact this.symm
section
variable {P:Program}{w:World}{K:PySem.W.Frag}{mg:Str->Option Value}{base:Heap}{f CS CN fG fS fK:Addr}{fd fdG fdS fdK:FuncData}
theorem scTerms:FnScope ["signs", "depth", "e", "sign"] ["signs", "depth"] (ak oF):=⟨rfl,rfl,rfl,by decide+kernel,rfl,by decide+kernel,by decide+kernel⟩
theorem qh {m k:Nat}(hk:2<=k)(F:Fun K "read_terms" "read_terms" oF f fd)(T:Txt K mg CS CN)(G:CF P w K mg base (CXx P w) k "read_factors" fG fdG ["signs", "depth"] (fX CS CN cF m))
  (MS:CM P w K mg base CX0 2 CS "stands_one_of" fS fdS ["self", "wanted"] (fL CS))(MT:CM P w K mg base CX0 1 CS "take_sign" fK fdK ["self"] (kJ CS)):FnOk P w K mg base (CXx P w) (k+1) f fd ["signs", "depth"] (fX CS CN gN m):=by
 refine F.okX scTerms (fun vs H Q E h=>?_) (fun cdv A outer s H vs Q E hr h=>?_)
 ·obtain⟨a,z,p,rfl,_⟩:=h
  rfl
 obtain⟨a,z,p,rfl,S,k0⟩:=h
 refine⟨_,aR (fj (i:=2) scTerms.nd rfl (Or.inl rfl) (fu G.ok hr rfl G.mg G.kp G.bi .nil gq (aA (pv 0) (aA (pv 1) pa_nil))))
  (aR (j5 PassesOwn.leaving (io (ip (pv 0) T.cl MS.me MS.ok (hr.mono hk) MS.bi .nil pass0 (aA pe_str pa_nil)))
   (aR (fj (i:=3) scTerms.nd rfl (Or.inl rfl) (gp (pv 0) T.cl MT.me MT.ok (hr.mono (by omega)) MT.bi .nil pass0))
   (bC (fj (i:=2) scTerms.nd rfl (Or.inl rfl) (mq (aA (pv 3) (aA (pv 2) (aA (fu G.ok hr rfl G.mg G.kp G.bi .nil gq (aA (pv 0) (aA (pv 1) pa_nil))) pa_nil))))))))
  (bC (dg (pv 2)))),?_⟩
 have sufG:Suf (cF m):=lr m
 refine⟨_,rfl,_,rfl,a,z,p,rfl,S,?_⟩
 have k1:iM CS CN H a z Q E (parts (cF m) opsT (z.cps.toList.drop p)):=k0
 unfold parts at k1
 cases hG:cF m (z.cps.toList.drop p) with
 |none=>
  rw[hG] at k1
  exact fun H' mv=>k1 H' mv
 |some er=>
  obtain⟨e1,r1⟩:=er
  rw[hG] at k1
  have k1:iM CS CN H a z Q E (chain (cF m) opsT r1.length e1 r1):=k1
  intro v1 H1 mv1 S1 i1
  have b1:z.cps.toList.drop (z.length - r1.length)=r1:=kC (C:=CS) (H:=H) (a:=a) (sufG _ _ _ hG)
  generalize hR:chain (cF m) opsT r1.length e1 r1=R at k1
  refine⟨fun mm σ H'=> ∃ (v:V) (e:Exp) (p' n:Nat) (sg:Option V),σ=[some (.ref a),some (.int (5 - (m:Int))),some v,sg]/\Moved H H' a/\SgAt CS H' a z p'/\IsE H' e v/\(z.cps.toList.drop p').length<=n/\
   chain (cF m) opsT n e (z.cps.toList.drop p')=R/\mm=z.length - p',⟨_,v1,e1,z.length - r1.length,r1.length,none,rfl,mv1,S1,i1,by rw[b1];exact Nat.le_refl _,by rw[b1];exact hR,rfl⟩,?_⟩
  rintro mm σ H' ⟨v,e,p',n,sg,rfl,mv,S',ie,ln,ch,rfl⟩
  obtain⟨hz,hp',dx,ha⟩:=id S'
  refine⟨_,rfl,a,dx,_,rfl,ha,dS _ _ (by decide+kernel) (by decide+kernel),a,z,p', "+-",rfl,S',_,rfl,?_⟩
  refine ite2 (fun c=>?_) (fun c=>?_)
  ·unfold dE at c
   cases hd:z.cps.toList.drop p' with
   |nil=>rw[hd] at c;cases c
   |cons c0 r0=>
    rw[hd] at c ch ln
    have c0m:c0∈opsT:=by rw[<-yW];exact of_decide_eq_true c
    obtain⟨n,rfl⟩: ∃n',n=n'+1:=⟨n - 1,by rw[List.length_cons] at ln;omega⟩
    obtain⟨at0,dr0⟩:=iJ hd
    unfold chain at ch
    rw[if_pos c0m] at ch
    refine⟨_,fun σ' H'' h=>h,⟨_,rfl,a,dx,_,rfl,ha,dS _ _ (by decide+kernel) (by decide+kernel),a,z,p',c0,rfl,S',at0,fun H2 mv2 S2=>?_⟩⟩
    obtain⟨_,hp2,dx2,ha2⟩:=id S2
    refine⟨_,rfl,_,rfl,_,rfl,_,rfl,a,z,p'+1,rfl,S2,?_⟩
    rw[dr0]
    cases hG2:cF m r0 with
    |none=>
     rw[hG2] at ch
     subst ch
     exact fun H3 mv3=>k1 H3 (mv.trans (mv2.trans mv3))
    |some er2=>
     obtain⟨e2,r2⟩:=er2
     rw[hG2] at ch
     intro v2 H3 mv3 S3 i3
     refine⟨small (by show 3<=1000;decide),fun t ht=>?_⟩
     have g4:=eK ht (.tup [.str ⟨#[c0]⟩,v,v2])
     have suf2:r2<:+z.cps.toList.drop (p'+1):=by rw[dr0];exact sufG _ _ _ hG2
     have b2:=kC (C:=CS) (H:=H) (a:=a) suf2
     have l2:r2.length<=r0.length:=(sufG _ _ _ hG2).length_le
     have l0:=kq at0
     have l3:r0.length=z.length - (p'+1):=by rw[<-dr0,List.length_drop,cj]
     refine⟨z.length - (z.length - r2.length),by omega,.ref t,.bin ⟨#[c0]⟩ e e2,z.length - r2.length,n,_,rfl,mv.trans (mv2.trans (mv3.trans (Moved.same g4))),S3.same g4,?_,?_,?_,rfl⟩
     ·exact⟨t,v,v2,rfl,bb,((ie.moved ha mv2).moved ha2 mv3).mono g4,i3.mono g4⟩
     ·rw[b2];rw[List.length_cons] at ln;omega
     ·rw[b2];exact ch
  ·have st:chain (cF m) opsT n e (z.cps.toList.drop p')=some (e,z.cps.toList.drop p'):=nu fun c0 r0 hd hm=>by
    unfold dE at c
    rw[hd] at c
    exact c (decide_eq_true (by rw[yW];exact hm))
   rw[st] at ch
   subst ch
   exact⟨_,rfl,k1 v H' mv (by rw[qL hp'];exact S') ie⟩
theorem scFactors:FnScope ["signs", "depth", "e", "sign"] ["signs", "depth"] (ak j2):=⟨rfl,rfl,rfl,by decide+kernel,rfl,by decide+kernel,by decide+kernel⟩
theorem mI {m k:Nat}(hk:2<=k)(F:Fun K "read_factors" "read_factors" j2 f fd)(T:Txt K mg CS CN)(G:CF P w K mg base (CXx P w) k "read_factor" fG fdG ["signs", "depth"] (fX CS CN cB m))
  (MS:CM P w K mg base CX0 2 CS "stands_one_of" fS fdS ["self", "wanted"] (fL CS))(MT:CM P w K mg base CX0 1 CS "take_sign" fK fdK ["self"] (kJ CS)):FnOk P w K mg base (CXx P w) (k+1) f fd ["signs", "depth"] (fX CS CN cF m):=by
 refine F.okX scFactors (fun vs H Q E h=>?_) (fun cdv A outer s H vs Q E hr h=>?_)
 ·obtain⟨a,z,p,rfl,_⟩:=h
  rfl
 obtain⟨a,z,p,rfl,S,k0⟩:=h
 refine⟨_,aR (fj (i:=2) scFactors.nd rfl (Or.inl rfl) (fu G.ok hr rfl G.mg G.kp G.bi .nil gq (aA (pv 0) (aA (pv 1) pa_nil))))
  (aR (j5 PassesOwn.leaving (io (ip (pv 0) T.cl MS.me MS.ok (hr.mono hk) MS.bi .nil pass0 (aA pe_str pa_nil)))
   (aR (fj (i:=3) scFactors.nd rfl (Or.inl rfl) (gp (pv 0) T.cl MT.me MT.ok (hr.mono (by omega)) MT.bi .nil pass0))
   (bC (fj (i:=2) scFactors.nd rfl (Or.inl rfl) (mq (aA (pv 3) (aA (pv 2) (aA (fu G.ok hr rfl G.mg G.kp G.bi .nil gq (aA (pv 0) (aA (pv 1) pa_nil))) pa_nil))))))))
  (bC (dg (pv 2)))),?_⟩
 have sufG:Suf (cB m):=jM m
 refine⟨_,rfl,_,rfl,a,z,p,rfl,S,?_⟩
 have k1:iM CS CN H a z Q E (parts (cB m) opsF (z.cps.toList.drop p)):=k0
 unfold parts at k1
 cases hG:cB m (z.cps.toList.drop p) with
 |none=>
  rw[hG] at k1
  exact fun H' mv=>k1 H' mv
 |some er=>
  obtain⟨e1,r1⟩:=er
  rw[hG] at k1
  have k1:iM CS CN H a z Q E (chain (cB m) opsF r1.length e1 r1):=k1
  intro v1 H1 mv1 S1 i1
  have b1:z.cps.toList.drop (z.length - r1.length)=r1:=kC (C:=CS) (H:=H) (a:=a) (sufG _ _ _ hG)
  generalize hR:chain (cB m) opsF r1.length e1 r1=R at k1
  refine⟨fun mm σ H'=> ∃ (v:V) (e:Exp) (p' n:Nat) (sg:Option V),σ=[some (.ref a),some (.int (5 - (m:Int))),some v,sg]/\Moved H H' a/\SgAt CS H' a z p'/\IsE H' e v/\(z.cps.toList.drop p').length<=n/\
   chain (cB m) opsF n e (z.cps.toList.drop p')=R/\mm=z.length - p',⟨_,v1,e1,z.length - r1.length,r1.length,none,rfl,mv1,S1,i1,by rw[b1];exact Nat.le_refl _,by rw[b1];exact hR,rfl⟩,?_⟩
  rintro mm σ H' ⟨v,e,p',n,sg,rfl,mv,S',ie,ln,ch,rfl⟩
  obtain⟨hz,hp',dx,ha⟩:=id S'
  refine⟨_,rfl,a,dx,_,rfl,ha,dS _ _ (by decide+kernel) (by decide+kernel),a,z,p', "*",rfl,S',_,rfl,?_⟩
  refine ite2 (fun c=>?_) (fun c=>?_)
  ·unfold dE at c
   cases hd:z.cps.toList.drop p' with
   |nil=>rw[hd] at c;cases c
   |cons c0 r0=>
    rw[hd] at c ch ln
    have c0m:c0∈opsF:=by rw[<-yX];exact of_decide_eq_true c
    obtain⟨n,rfl⟩: ∃n',n=n'+1:=⟨n - 1,by rw[List.length_cons] at ln;omega⟩
    obtain⟨at0,dr0⟩:=iJ hd
    unfold chain at ch
    rw[if_pos c0m] at ch
    refine⟨_,fun σ' H'' h=>h,⟨_,rfl,a,dx,_,rfl,ha,dS _ _ (by decide+kernel) (by decide+kernel),a,z,p',c0,rfl,S',at0,fun H2 mv2 S2=>?_⟩⟩
    obtain⟨_,hp2,dx2,ha2⟩:=id S2
    refine⟨_,rfl,_,rfl,_,rfl,_,rfl,a,z,p'+1,rfl,S2,?_⟩
    rw[dr0]
    cases hG2:cB m r0 with
    |none=>
     rw[hG2] at ch
     subst ch
     exact fun H3 mv3=>k1 H3 (mv.trans (mv2.trans mv3))
    |some er2=>
     obtain⟨e2,r2⟩:=er2
     rw[hG2] at ch
     intro v2 H3 mv3 S3 i3
     refine⟨small (by show 3<=1000;decide),fun t ht=>?_⟩
     have g4:=eK ht (.tup [.str ⟨#[c0]⟩,v,v2])
     have suf2:r2<:+z.cps.toList.drop (p'+1):=by rw[dr0];exact sufG _ _ _ hG2
     have b2:=kC (C:=CS) (H:=H) (a:=a) suf2
     have l2:r2.length<=r0.length:=(sufG _ _ _ hG2).length_le
     have l0:=kq at0
     have l3:r0.length=z.length - (p'+1):=by rw[<-dr0,List.length_drop,cj]
     refine⟨z.length - (z.length - r2.length),by omega,.ref t,.bin ⟨#[c0]⟩ e e2,z.length - r2.length,n,_,rfl,mv.trans (mv2.trans (mv3.trans (Moved.same g4))),S3.same g4,?_,?_,?_,rfl⟩
     ·exact⟨t,v,v2,rfl,bb,((ie.moved ha mv2).moved ha2 mv3).mono g4,i3.mono g4⟩
     ·rw[b2];rw[List.length_cons] at ln;omega
     ·rw[b2];exact ch
  ·have st:chain (cB m) opsF n e (z.cps.toList.drop p')=some (e,z.cps.toList.drop p'):=nu fun c0 r0 hd hm=>by
    unfold dE at c
    rw[hd] at c
    exact c (decide_eq_true (by rw[yX];exact hm))
   rw[st] at ch
   subst ch
   exact⟨_,rfl,k1 v H' mv (by rw[qL hp'];exact S') ie⟩
theorem scBr:FnScope ["signs", "depth", "e"] ["signs", "depth"] (ak iY):=⟨rfl,rfl,rfl,by decide+kernel,rfl,by decide+kernel,by decide+kernel⟩
theorem Af (F:Fun K "read_bracket" "read_bracket" iY f fd)(T:Txt K mg CS CN):FnOk P w K mg base (CXx P w) 1 f fd ["signs", "depth"] (spBr CS CN 0):=by
 refine F.okX scBr (fun vs H Q E h=>?_) (fun cdv A outer s H vs Q E hr h=>?_)
 ·obtain⟨a,z,p,r,rfl,_⟩:=h
  rfl
 obtain⟨a,z,p,r,rfl,h5,S,hd,k0⟩:=h
 obtain⟨t5,g5⟩:=T.n5
 refine⟨_,aR (iN (ft nN (pv 1) (eO (v:=.int 5) rfl g5 ⟨_,rfl⟩) (av _)) (bC (gX gW rfl rfl T.mgN T.exN (aA pe_str pa_nil))) pss_nil) ug,?_⟩
 refine⟨_,rfl,_,_,rfl,rfl,_,rfl,?_⟩
 refine iteT ⟨small (by show 1<=1000;decide),k0 H (Moved.refl _ _)⟩
theorem Ba {m k:Nat}(hk:2<=k)(F:Fun K "read_bracket" "read_bracket" iY f fd)(T:Txt K mg CS CN)(G:CF P w K mg base (CXx P w) k "read_terms" fG fdG ["signs", "depth"] (fX CS CN gN m))
  (MS:CM P w K mg base CX0 2 CS "stands_one_of" fS fdS ["self", "wanted"] (fL CS))(MT:CM P w K mg base CX0 1 CS "take_sign" fK fdK ["self"] (kJ CS)):FnOk P w K mg base (CXx P w) (k+1) f fd ["signs", "depth"] (spBr CS CN (m+1)):=by
 refine F.okX scBr (fun vs H Q E h=>?_) (fun cdv A outer s H vs Q E hr h=>?_)
 ·obtain⟨a,z,p,r,rfl,_⟩:=h
  rfl
 obtain⟨a,z,p,r,rfl,h5,S,hd,k0⟩:=h
 obtain⟨t5,g5⟩:=T.n5
 refine⟨_,aR (iN (ft nN (pv 1) (eO (v:=.int 5) rfl g5 ⟨_,rfl⟩) (av _)) (bC (gX gW rfl rfl T.mgN T.exN (aA pe_str pa_nil))) pss_nil)
  (aR (oJ (gp (pv 0) T.cl MT.me MT.ok (hr.mono (by omega)) MT.bi .nil pass0))
  (aR (fj (i:=2) scBr.nd rfl (Or.inl rfl) (fu G.ok hr rfl G.mg G.kp G.bi .nil gq (aA (pv 0) (aA (pv 1) pa_nil))))
  (aR (iN (rD (io (ip (pv 0) T.cl MS.me MS.ok (hr.mono hk) MS.bi .nil pass0 (aA pe_str pa_nil)))) (bC (gX gW rfl rfl T.mgN T.exN (aA pe_str pa_nil))) pss_nil)
  (aR (oJ (gp (pv 0) T.cl MT.me MT.ok (hr.mono (by omega)) MT.bi .nil pass0))
  (bC (dg (pv 2))))))),?_⟩
 obtain⟨hz,hp,dx,ha⟩:=id S
 obtain⟨at0,dr0⟩:=iJ hd
 refine⟨_,rfl,_,_,rfl,rfl,_,rfl,?_⟩
 refine ite2 (fun c=>?_) (fun c=>?_)
 ·have c1:(6 - ((m+1:Nat):Int))>5:=of_decide_eq_true c
  omega
 ·refine⟨_,rfl,a,dx,_,rfl,ha,dS _ _ (by decide+kernel) (by decide+kernel),a,z,p,40,rfl,S,at0,fun H1 mv1 S1=>?_⟩
  have e6:(6 - ((m+1:Nat):Int))=5 - (m:Int):=by omega
  refine⟨_,rfl,_,rfl,a,z,p+1,by show [V.ref a,V.int (6 - ((m+1:Nat):Int))]=_;rw[e6],S1,?_⟩
  rw[dr0]
  have k1:iM CS CN H a z Q E (dy (gN m) r):=k0
  cases hG:gN m r with
  |none=>
   rw[xi hG] at k1
   exact fun H' mv=>k1 H' (mv1.trans mv)
  |some er=>
   obtain⟨e1,r1⟩:=er
   intro v2 H2 mv2 S2 i2
   obtain⟨_,hp2,dx2,ha2⟩:=id S2
   have suf1:r1<:+z.cps.toList.drop (p+1):=by rw[dr0];exact nF m _ _ _ hG
   have b1:=kC (C:=CS) (H:=H) (a:=a) suf1
   refine⟨_,rfl,a,dx2,_,rfl,ha2,dS _ _ (by decide+kernel) (by decide+kernel),a,z,_, ")",rfl,S2,_,rfl,?_⟩
   have st:dE z (z.length - r1.length) ")"=decide (r1.head?=some 41):=by
    unfold dE
    rw[b1]
    cases r1 with
    |nil=>rfl
    |cons c0 r0=>
     show decide (c0∈(")":Str).cps.toList)=decide (some c0=some 41)
     rw[A5,decide_eq_decide]
     simp
   rw[st]
   by_cases h41:r1.head?=some 41
   ·rw[decide_eq_true h41]
    obtain⟨r2,rfl⟩: ∃r2,r1=41::r2:=by
     cases r1 with
     |nil=>cases h41
     |cons c0 r0=>have:c0=41:=by simpa using h41
                  subst this;exact⟨r0,rfl⟩
    obtain⟨at1,dr1⟩:=iJ b1
    refine iteF ⟨_,rfl,a,dx2,_,rfl,ha2,dS _ _ (by decide+kernel) (by decide+kernel),a,z,_,41,rfl,S2,at1,fun H3 mv3 S3=>⟨_,rfl,?_⟩⟩
    rw[yN hG] at k1
    have k2: ∀v H',Moved H H' a->SgAt CS H' a z (z.length - r2.length)->IsE H' e1 v->Q v H':=k1
    refine k2 v2 H3 (mv1.trans (mv2.trans mv3)) ?_ (i2.moved ha2 mv3)
    have l1:=kq at1
    have:z.length - (41::r2).length+1=z.length - r2.length:=by
     have:=suf1.length_le
     rw[List.length_drop,cj,List.length_cons] at this
     rw[List.length_cons];omega
    rw[this] at S3
    exact S3
   ·rw[decide_eq_false h41]
    refine iteT ⟨small (by show 1<=1000;decide),?_⟩
    rw[xh hG h41] at k1
    have k2: ∀H',Moved H H' a->E (.ref CN) none H':=k1
    exact k2 H2 (mv1.trans mv2)
theorem scFactor:FnScope ["signs", "depth", "factor"] ["signs", "depth"] (ak lJ):=⟨rfl,rfl,rfl,by decide+kernel,rfl,by decide+kernel,by decide+kernel⟩
theorem AS:LET.length+FIG.length<=sizeLine:=by decide+kernel
theorem qm {z:Str}(h:numOk z=true):PySem.intText? z=some (fk z)/\z.length<=640:=by
 unfold numOk at h
 simp only[Bool.and_eq_true,decide_eq_true_eq] at h
 obtain⟨⟨h1,h2⟩,_,h4⟩:=h
 refine⟨?_,by omega⟩
 refine PySem.intText_digits (fun c hc=>?_) (fun e=>?_) (by omega)
 ·exact isFig_iff.mp (List.all_eq_true.mp h4 c hc)
 ·have:=cj z;rw[e] at this;simp at this;omega
theorem nQ {m k:Nat}{fN fM fR:Addr}{fdN fdM fdR:FuncData}(hk:3<=k)(hm5:m<=5)(F:Fun K "read_factor" "read_factor" lJ f fd)(T:Txt K mg CS CN)(G:CF P w K mg base (CXx P w) k "read_bracket" fG fdG ["signs", "depth"] (spBr CS CN m))
  (MS:CM P w K mg base CX0 2 CS "stands_one_of" fS fdS ["self", "wanted"] (fL CS))(MR:CM P w K mg base CX0 3 CS "run_of" fR fdR ["self", "wanted"] (spRun CS))
  (FN:CF P w K mg base CX0 1 "is_name" fN fdN ["word"] lX)(FM:CF P w K mg base CX0 1 "is_number" fM fdM ["word"] spNum):FnOk P w K mg base (CXx P w) (k+1) f fd ["signs", "depth"] (fX CS CN cB m):=by
 refine F.okX scFactor (fun vs H Q E h=>?_) (fun cdv A outer s H vs Q E hr h=>?_)
 ·obtain⟨a,z,p,rfl,_⟩:=h
  rfl
 obtain⟨a,z,p,rfl,S,k0⟩:=h
 obtain⟨tL,hL⟩:=T.let_
 obtain⟨tF,hF⟩:=T.fig
 refine⟨_,aR (iN (io (ip (pv 0) T.cl MS.me MS.ok (hr.mono (by omega)) MS.bi .nil pass0 (aA pe_str pa_nil))) (bC (dg (fu G.ok hr rfl G.mg G.kp G.bi .nil gq (aA (pv 0) (aA (sN op_add (pv 1) pe_int) pa_nil))))) pss_nil)
  (aR (fj (i:=2) scFactor.nd rfl (Or.inl rfl) (ip (pv 0) T.cl MR.me MR.ok (hr.mono hk) MR.bi .nil pass0 (aA (sN op_add_str (eO (v:=.str LET) rfl hL ⟨_,rfl⟩) (eO (v:=.str FIG) rfl hF ⟨_,rfl⟩)) pa_nil)))
  (aR (iN (io (fu FN.ok (hr.mono (by omega)) rfl FN.mg FN.kp FN.bi .nil pass0 (aA (pv 2) pa_nil))) (bC (dg (mq (aA pe_str (aA (pv 2) pa_nil))))) pss_nil)
  (aR (iN (io (fu FM.ok (hr.mono (by omega)) rfl FM.mg FM.kp FM.bi .nil pass0 (aA (pv 2) pa_nil))) (bC (dg (mq (aA pe_str (aA (kQ kB rfl T.int PyProof.Rows.boot_int (aA (pv 2) pa_nil)) pa_nil))))) pss_nil)
  (bC (gX gW rfl rfl T.mgN T.exN (aA pe_str pa_nil)))))),?_⟩
 obtain⟨hz,hp,dx,ha⟩:=id S
 refine⟨_,rfl,a,dx,_,rfl,ha,dS _ _ (by decide+kernel) (by decide+kernel),a,z,p, "(",rfl,S,_,rfl,?_⟩
 rw[uL] at k0
 have st:dE z p "("=decide ((z.cps.toList.drop p).head?=some 40):=by
  unfold dE
  cases hd:z.cps.toList.drop p with
  |nil=>rfl
  |cons c0 r0=>
   show decide (c0∈("(":Str).cps.toList)=decide (some c0=some 40)
   rw[A6,decide_eq_decide]
   simp
 rw[st]
 by_cases h40:(z.cps.toList.drop p).head?=some 40
 ·rw[decide_eq_true h40]
  rw[if_pos h40] at k0
  obtain⟨r,hd⟩: ∃r,z.cps.toList.drop p=40::r:=by
   cases hd:z.cps.toList.drop p with
   |nil=>rw[hd] at h40;cases h40
   |cons c0 r0=>rw[hd] at h40
                have:c0=40:=by simpa using h40
                subst this;exact⟨r0,rfl⟩
  rw[hd] at k0
  refine iteT ⟨_,rfl,_,rfl,_,_,rfl,rfl,a,z,p,r,?_,hm5,S,hd,k0⟩
  show [V.ref a,V.int (5 - (m:Int)+1)]=_
  have:(5 - (m:Int)+1)=6 - (m:Int):=by omega
  rw[this]
 ·rw[decide_eq_false h40]
  rw[if_neg h40] at k0
  refine iteF ⟨_,rfl,a,dx,_,rfl,ha,dS _ _ (by decide+kernel) (by decide+kernel),_,_,rfl,rfl,AS,a,z,p,LET++FIG,rfl,S,fun H1 mv1 S1=>?_⟩
  have ean:(fun c=>decide (c∈(LET++FIG).cps.toList))=isAN:=rfl
  rw[ean] at S1 ⊢
  have fl:(⟨((z.cps.toList.drop p).takeWhile isAN).toArray⟩:Str).length<=sizeLine:=by
   show (((z.cps.toList.drop p).takeWhile isAN).toArray).size<=sizeLine
   rw[List.size_toArray]
   have:=(List.takeWhile_sublist (l:=z.cps.toList.drop p) isAN).length_le
   rw[List.length_drop,cj] at this
   omega
  have dw:z.length - ((z.cps.toList.drop p).dropWhile isAN).length=p+((z.cps.toList.drop p).takeWhile isAN).length:=by
   have e:=congrArg List.length (List.takeWhile_append_dropWhile (p:=isAN) (l:=z.cps.toList.drop p))
   rw[List.length_append,List.length_drop,cj] at e
   omega
  unfold leafP at k0
  refine⟨_,rfl,_,rfl,fl,fun H2 g2=>⟨_,rfl,?_⟩⟩
  refine ite2 (fun c=>?_) (fun c=>?_)
  ·rw[if_pos c] at k0
   have k1: ∀v H',Moved H H' a->SgAt CS H' a z (z.length - ((z.cps.toList.drop p).dropWhile isAN).length)->IsE H' (.box ⟨((z.cps.toList.drop p).takeWhile isAN).toArray⟩) v->Q v H':=k0
   refine⟨_,rfl,small (by show 2<=1000;decide),fun t ht=>?_⟩
   refine k1 _ _ (mv1.trans ((Moved.same g2).trans (Moved.same (eK ht _)))) ?_ ⟨t,rfl,bb⟩
   rw[dw]
   exact (S1.same g2).same (eK ht _)
  ·rw[if_neg c] at k0
   refine⟨_,rfl,_,rfl,fl,fun H3 g3=>⟨_,rfl,?_⟩⟩
   refine ite2 (fun c2=>?_) (fun c2=>?_)
   ·rw[if_pos c2] at k0
    have k1: ∀v H',Moved H H' a->SgAt CS H' a z (z.length - ((z.cps.toList.drop p).dropWhile isAN).length)->IsE H' (.num (fk ⟨((z.cps.toList.drop p).takeWhile isAN).toArray⟩)) v->Q v H':=k0
    obtain⟨n1,n2⟩:=qm c2
    refine⟨_,rfl,_,_,rfl,n1,n2,small (by show 2<=1000;decide),fun t ht=>?_⟩
    refine k1 _ _ (mv1.trans ((Moved.same g2).trans ((Moved.same g3).trans (Moved.same (eK ht _))))) ?_ ⟨t,rfl,bb⟩
    rw[dw]
    exact ((S1.same g2).same g3).same (eK ht _)
   ·rw[if_neg c2] at k0
    exact⟨small (by show 1<=1000;decide),k0 H3 (mv1.trans ((Moved.same g2).trans (Moved.same g3)))⟩
end
end Q
namespace Q
open PySem L2 Wd
def Told (CN:Addr)(H:Hp)(Q:VK)(E:XK):Option Exp->Prop
 |some e=> ∀v H',Same H H'->IsE H' e v->Q v H'
 |none=> ∀H',Same H H'->E (.ref CN) none H'
def rg (CN:Addr):Sp:=fun vs H Q E=> ∃z:Str,vs=[.str z]/\z.length<=sizeLine/\Told CN H Q E (exprP z)
section
variable {P:Program}{w:World}{K:PySem.W.Frag}{mg:Str->Option Value}{base:Heap}{f CS CN fT fI fD:Addr}{fd fdT fdI fdD:FuncData}
theorem scExpr:FnScope ["word", "signs", "e"] ["word"] (ak sExpr):=⟨rfl,rfl,rfl,by decide+kernel,rfl,by decide+kernel,by decide+kernel⟩
theorem ya {k:Nat}(hk:2<=k)(F:Fun K "expression" "expression" sExpr f fd)(T:Txt K mg CS CN)(G:CF P w K mg base (CXx P w) k "read_terms" fT fdT ["signs", "depth"] (fX CS CN gN 5))
  (M:Mk K CS fI)(GI:FnOk P w K mg base CX0 1 fI fdI ["self", "word"] (sC CS))(bI:Binds K fdI ["self", "word"] [])(MD:CM P w K mg base CX0 1 CS "is_done" fD fdD ["self"] (oz CS)):FnOk P w K mg base (CXx P w) (k+1) f fd ["word"] (rg CN):=by
 refine F.okX scExpr (fun vs H Q E h=>?_) (fun cdv A outer s H vs Q E hr h=>?_)
 ·obtain⟨z,rfl,_⟩:=h
  rfl
 obtain⟨z,rfl,hz,k0⟩:=h
 obtain⟨t60,h60⟩:=T.n60
 refine⟨_,aR (iN (ft nN (eP call_len_str rfl T.len PySem.boot_len (aA (pv 0) pa_nil)) (eO (v:=.int 60) rfl h60 ⟨_,rfl⟩) (av _)) (bC (gX gW rfl rfl T.mgN T.exN (aA pe_str pa_nil))) pss_nil)
  (aR (fj (i:=1) scExpr.nd rfl (Or.inl rfl) (xR M GI (hr.mono hk) rfl T.mgS bI .nil pass0 (aA (pv 0) pa_nil)))
  (aR (fj (i:=2) scExpr.nd rfl (Or.inl rfl) (fu G.ok hr rfl G.mg G.kp G.bi .nil gq (aA (pv 1) (aA pe_int pa_nil))))
  (aR (iN (rD (io (gp (pv 1) T.cl MD.me MD.ok (hr.mono (by omega)) MD.bi .nil pass0))) (bC (gX gW rfl rfl T.mgN T.exN (aA pe_str pa_nil))) pss_nil)
  (bC (dg (pv 2)))))),?_⟩
 refine⟨_,rfl,z,rfl,hz,_,_,rfl,rfl,_,rfl,?_⟩
 unfold exprP at k0
 refine ite2 (fun c=>?_) (fun c=>?_)
 ·have c1:(z.length:Int)>60:=of_decide_eq_true c
  rw[if_pos (by omega)] at k0
  exact⟨small (by show 1<=1000;decide),k0 H (Same.refl _)⟩
 ·have c1: ¬(z.length:Int)>60:=of_decide_eq_false (Bool.eq_false_iff.mpr c)
  rw[if_neg (by omega)] at k0
  refine⟨_,rfl,fun x dx nx ndx nex=>?_⟩
  refine⟨x,dx,z,rfl,bb,hz,fun H1 mv1 S1=>⟨rfl,?_⟩⟩
  have s0: ∀ {H2:Hp},Moved H1 H2 x->Same H H2:=fun{H2} mv b o e=>mv b o (bZ e nx) (mv1 b o (bZ e nx) (by rw[aH (bZ e nx),aH (bZ e ndx)];exact e))
  refine⟨_,rfl,x,z,0,rfl,S1,?_⟩
  rw[List.drop_zero]
  cases hG:gN 5 z.cps.toList with
  |none=>
   rw[hG] at k0
   exact fun H2 mv2=>k0 H2 (s0 mv2)
  |some er=>
   obtain⟨e1,r1⟩:=er
   rw[hG] at k0
   intro v2 H2 mv2 S2 i2
   obtain⟨_,hp2,dx2,ha2⟩:=id S2
   refine⟨_,rfl,x,dx2,_,rfl,ha2,dS _ _ (by decide+kernel) (by decide+kernel),x,z,_,rfl,S2,_,rfl,?_⟩
   have rl:r1.length<=z.length:=by
    have:=(nF 5 _ _ _ hG).length_le
    rw[cj] at this;exact this
   cases r1 with
   |nil=>
    have k1: ∀v H',Same H H'->IsE H' e1 v->Q v H':=k0
    rw[decide_eq_true (by simp:z.length - ([]:List Nat).length=z.length)]
    exact iteF ⟨_,rfl,k1 v2 H2 (s0 mv2) i2⟩
   |cons c0 r0=>
    have k1: ∀H',Same H H'->E (.ref CN) none H':=k0
    rw[decide_eq_false (by rw[List.length_cons] at rl ⊢;omega)]
    exact iteT ⟨small (by show 1<=1000;decide),k1 H2 (s0 mv2)⟩
end
section
variable {P:Program}{w:World}{K:PySem.W.Frag}{mg:Str->Option Value}{base:Heap}{CS CN fT fF fA fB fS fK fN fM fR:Addr}{fdT fdF fdA fdB fdS fdK fdN fdM fdR:FuncData}
theorem sG (T:Txt K mg CS CN)(FT:Fun K "read_terms" "read_terms" oF fT fdT)(bT:Binds K fdT ["signs", "depth"] [])(mT:mg "read_terms"=some (.ref fT))
  (FF:Fun K "read_factors" "read_factors" j2 fF fdF)(bF:Binds K fdF ["signs", "depth"] [])(mF:mg "read_factors"=some (.ref fF))
  (FA:Fun K "read_factor" "read_factor" lJ fA fdA)(bA:Binds K fdA ["signs", "depth"] [])(mA:mg "read_factor"=some (.ref fA))
  (FB:Fun K "read_bracket" "read_bracket" iY fB fdB)(bB:Binds K fdB ["signs", "depth"] [])(mB:mg "read_bracket"=some (.ref fB))
  (MS:CM P w K mg base CX0 2 CS "stands_one_of" fS fdS ["self", "wanted"] (fL CS))(MT:CM P w K mg base CX0 1 CS "take_sign" fK fdK ["self"] (kJ CS))(MR:CM P w K mg base CX0 3 CS "run_of" fR fdR ["self", "wanted"] (spRun CS))
  (CN':CF P w K mg base CX0 1 "is_name" fN fdN ["word"] lX)(CM':CF P w K mg base CX0 1 "is_number" fM fdM ["word"] spNum):
  ∀m,m<=5->CF P w K mg base (CXx P w) (4 * m+7) "read_terms" fT fdT ["signs", "depth"] (fX CS CN gN m)
 |0,h=>by
  have B0:CF P w K mg base (CXx P w) 4 "read_bracket" fB fdB ["signs", "depth"] (spBr CS CN 0):=⟨(Af FB T).mono (by decide),bB,FB.kp,mB⟩
  have A0:CF P w K mg base (CXx P w) 5 "read_factor" fA fdA ["signs", "depth"] (fX CS CN cB 0):=⟨nQ (by decide) h FA T B0 MS MR CN' CM',bA,FA.kp,mA⟩
  have F0:CF P w K mg base (CXx P w) 6 "read_factors" fF fdF ["signs", "depth"] (fX CS CN cF 0):=⟨mI (by decide) FF T A0 MS MT,bF,FF.kp,mF⟩
  exact⟨qh (by decide) FT T F0 MS MT,bT,FT.kp,mT⟩
 |m+1,h=>by
  have T0:=sG T FT bT mT FF bF mF FA bA mA FB bB mB MS MT MR CN' CM' m (by omega)
  have B0:CF P w K mg base (CXx P w) (4 * m+8) "read_bracket" fB fdB ["signs", "depth"] (spBr CS CN (m+1)):=⟨Ba (by omega) FB T T0 MS MT,bB,FB.kp,mB⟩
  have A0:CF P w K mg base (CXx P w) (4 * m+9) "read_factor" fA fdA ["signs", "depth"] (fX CS CN cB (m+1)):=⟨nQ (by omega) h FA T B0 MS MR CN' CM',bA,FA.kp,mA⟩
  have F0:CF P w K mg base (CXx P w) (4 * m+10) "read_factors" fF fdF ["signs", "depth"] (fX CS CN cF (m+1)):=⟨mI (by omega) FF T A0 MS MT,bF,FF.kp,mF⟩
  exact⟨qh (by omega) FT T F0 MS MT,bT,FT.kp,mT⟩
end
end Q
namespace Wd
open PySem L2
section
def kindN (c:Nat):Nat:=if isFig c=true then 2 else if isLet c=true then 1 else 0
noncomputable abbrev Tk:=Nat×List Nat
def toks:List Nat->List Tk
 |[]=>[]
 |c::r=>match toks r with
  |[]=>[(kindN c,[c])]
  |(k,t)::ts=>if kindN c≠0/\k=kindN c then (k,c::t)::ts else (kindN c,[c])::(k,t)::ts
end
section
noncomputable def mid (l:List Nat):List Nat:=l.tail.dropLast
end
section
noncomputable def expW:Exp->W
 |.num n=>.tup [.str "number",.int n]
 |.box x=>.tup [.str "box",.str x]
 |.bin s l r=>.tup [.str s,expW l,expW r]
def lP (ws:List W):M W:=match ws with
 |[.str z]=>gd (z.length<=sizeLine) (pr (.bl (bM z)))
 |_=>no
def pC (ws:List W):M W:=match ws with
 |[.str z]=>gd (z.length<=sizeLine) (pr (.bl (numOk z)))
 |_=>no
def Bz (ws:List W):M W:=match ws with
 |[.str z]=>gd (z.length<=sizeLine) (match exprP z with
  |some e=>pr (expW e)
  |none=>fun h=>.ex "NoRow" h)
 |_=>no
def iH (ws:List W):M W:=match ws with
 |[.str z]=>gd (z.length<=sizeLine) (match exprP z with
  |some e=>pr (expW e)
  |none=>no)
 |_=>no
end
end Wd
namespace Q
open PySem L2 Wd
theorem rX {K:PySem.W.Frag}{mu:Nat->Addr}{h:List Ob}{H:Hp}: ∀ {e:Exp}{v:V},IsE H e v->Rv K ⟨mu,h,H⟩ (expW e) v
 |.num n,v,q=>by
  obtain⟨p,rfl,e⟩:=q
  unfold expW Rv
  exact⟨p,_,rfl,.of e,Rvs.cons (rv_str.mpr rfl) (Rvs.cons (rv_int.mpr rfl) Rvs.nil)⟩
 |.box n,v,q=>by
  obtain⟨p,rfl,e⟩:=q
  unfold expW Rv
  exact⟨p,_,rfl,.of e,Rvs.cons (rv_str.mpr rfl) (Rvs.cons (rv_str.mpr rfl) Rvs.nil)⟩
 |.bin s l r,v,q=>by
  obtain⟨p,a,b,rfl,e,h1,h2⟩:=q
  unfold expW Rv
  exact⟨p,_,rfl,.of e,Rvs.cons (rv_str.mpr rfl) (Rvs.cons (rX h1) (Rvs.cons (rX h2) Rvs.nil))⟩
section
variable {P:Program}{w:World}{K:PySem.W.Frag}{mg:Str->Option Value}{base:Heap}{f CN:Addr}{fd:FuncData}{k:Nat}
theorem uQ (C:CF P w K mg base CX0 1 "is_name" f fd ["word"] lX):CG P w K mg base 1 "is_name" f fd ["word"] 1 lP:=
 ⟨C.ok.imp fun vs H Q E h=>by
  obtain⟨o,ws,rfl,hl,R,rv,h⟩:=h
  rcases ws with _|⟨x,_|⟨_,_⟩⟩
  ·exact h.elim
  ·obtain⟨v,rfl,r⟩:=rv.one
   cases x with
   |str z=>
    obtain⟨hz,h⟩:=h.gd
    exact⟨z,by rw[rv_str.mp r],hz,fun H' g=>pY (ws:=[]) R g (rv_bl.mpr rfl) h⟩
   |_=>exact h.elim
  ·exact absurd hl (by simp),C.bi,C.kp,C.mg⟩
theorem xb (C:CF P w K mg base CX0 1 "is_number" f fd ["word"] spNum):CG P w K mg base 1 "is_number" f fd ["word"] 1 pC:=
 ⟨C.ok.imp fun vs H Q E h=>by
  obtain⟨o,ws,rfl,hl,R,rv,h⟩:=h
  rcases ws with _|⟨x,_|⟨_,_⟩⟩
  ·exact h.elim
  ·obtain⟨v,rfl,r⟩:=rv.one
   cases x with
   |str z=>
    obtain⟨hz,h⟩:=h.gd
    exact⟨z,by rw[rv_str.mp r],hz,fun H' g=>pY (ws:=[]) R g (rv_bl.mpr rfl) h⟩
   |_=>exact h.elim
  ·exact absurd hl (by simp),C.bi,C.kp,C.mg⟩
theorem yM (C:CF P w K mg base (CXx P w) k "expression" f fd ["word"] (rg CN)):CG P w K mg base k "expression" f fd ["word"] 1 iH:=
 ⟨wV C.ok fun vs H Q E h=>by
  obtain⟨o,ws,rfl,hl,R,rv,h⟩:=h
  rcases ws with _|⟨x,_|⟨_,_⟩⟩
  ·exact h.elim
  ·obtain⟨v,rfl,r⟩:=rv.one
   cases x with
   |str z=>
    obtain⟨hz,h⟩:=h.gd
    refine⟨z,by rw[rv_str.mp r],hz,?_⟩
    cases e:exprP z with
    |none=>rw[e] at h;exact h.elim
    |some x=>
     rw[e] at h
     exact fun v H' g i=>Ps.at (p:=⟨o.mu,o.h,H'⟩) h rfl (Ex.same g) (R.same g) (rX i)
   |_=>exact h.elim
  ·exact absurd hl (by simp),C.bi,C.kp,C.mg⟩
end
end Q
namespace Q
open PySem L2 Wd
noncomputable abbrev jO:Stmt:=top 27
noncomputable abbrev kM:Stmt:=top 54
noncomputable abbrev iT:Stmt:=top 55
noncomputable abbrev gm:Stmt:=top 53
noncomputable abbrev ji:Stmt:=top 52
noncomputable abbrev gR:Stmt:=top 57
noncomputable abbrev jN:Stmt:=top 59
noncomputable abbrev dM:Stmt:=top 58
noncomputable abbrev dX:Stmt:=cR (top 56) 0
noncomputable abbrev dW:Stmt:=cR (top 56) 1
noncomputable abbrev cI:Stmt:=cR (top 56) 8
noncomputable abbrev cX:Stmt:=cR (top 56) 3
noncomputable abbrev cW:Stmt:=cR (top 56) 4
noncomputable abbrev dc:Stmt:=cR (top 56) 5
noncomputable abbrev cY:Stmt:=cR (top 56) 6
noncomputable abbrev dU:Stmt:=cR (top 56) 7
noncomputable abbrev gn:Stmt:=cR (top 56) 2
noncomputable abbrev cO:Stmt:=cR (top 56) 9
noncomputable abbrev rk:Stmt:=top 51
noncomputable abbrev kP:Stmt:=top 32
noncomputable abbrev kO:Stmt:=top 33
noncomputable abbrev jR:Stmt:=top 31
noncomputable abbrev fq:Stmt:=top 34
noncomputable abbrev oE:Stmt:=top 30
noncomputable abbrev im:Stmt:=top 41
noncomputable abbrev iX:Stmt:=top 42
noncomputable abbrev fg:Stmt:=top 43
noncomputable abbrev dL:Stmt:=top 39
noncomputable abbrev jh:Stmt:=top 38
noncomputable abbrev fY:Stmt:=top 40
noncomputable abbrev gQ:Stmt:=top 61
noncomputable abbrev gO:Stmt:=top 62
noncomputable abbrev iW:Stmt:=top 63
noncomputable abbrev jP:Stmt:=top 64
noncomputable abbrev fZ:Stmt:=top 65
noncomputable abbrev kN:Stmt:=top 66
noncomputable abbrev jQ:Stmt:=top 67
noncomputable abbrev iV:Stmt:=top 68
noncomputable abbrev iU:Stmt:=top 69
noncomputable abbrev gP:Stmt:=top 70
noncomputable abbrev fQ:Stmt:=top 71
noncomputable abbrev vp:Stmt:=top 72
def dk (fr:List W->M W):Env'->M Fl:=(sSeq (sIf (mB (m2 eqW (m2 ixW (mVar 0) (mC (.int 0))) (mC (.str "number")))) (sRet (mTl (lenG mNil))) sNil) (sSeq (sIf (mB (m2 eqW (m2 ixW (mVar 0) (mC (.int 0))) (mC (.str "box")))) (sRet (mTl (lenG (mCons (m2 ixW (mVar 0) (mC (.int 1))) mNil)))) sNil) (sRet (m2 addW (mCall (arW 1 fr) (mCons (m2 ixW (mVar 0) (mC (.int 1))) mNil)) (mCall (arW 1 fr) (mCons (m2 ixW (mVar 0) (mC (.int 2))) mNil))))))
def bv:Nat->List W->M W
 |0=>fun _=>no
 |n+1=>runF 1 (dk (bv n))
def jt:Env'->M Fl:=(sSeq (sIf (mNot (mB (mCall (arW 1 lP) (mCons (mVar 0) mNil)))) sBad sNil) (sRet (mVar 0)))
def cc:List W->M W:=runF 1 jt
def gD:Env'->M Fl:=(sSeq (sIf (mNot (mB (mCall (arW 1 pC) (mCons (mVar 0) mNil)))) sBad sNil) (sRet (mCall intW (mCons (mVar 0) mNil))))
def fU:List W->M W:=runF 1 gD
def eW:Env'->M Fl:=(sSeq (sSet 1 (m2 ixW (mVar 0) (mC (.int 2)))) (sSeq (sIf (mOr (mB (m2 cL (mVar 1) (mC (.tup ((["<", "="]:List Str).map W.str))))) (mB (m2 neW (m2 ixW (mVar 0) (mC (.int 5))) (mC (.str "else"))))) sBad sNil) (sSeq (sSet 2 (mCall (arW 1 iH) (mCons (m2 ixW (mVar 0) (mC (.int 1))) mNil))) (sSeq (sSet 3 (mCall (arW 1 iH) (mCons (m2 ixW (mVar 0) (mC (.int 3))) mNil))) (sRet (mTup (mCons (mC (.str "if")) (mCons (mVar 1) (mCons (mVar 2) (mCons (mVar 3) (mCons (mCall (arW 1 cc) (mCons (m2 ixW (mVar 0) (mC (.int 4))) mNil)) (mCons (mCall (arW 1 cc) (mCons (m2 ixW (mVar 0) (mC (.int 6))) mNil)) mNil))))))))))))
def dm:List W->M W:=runF 4 eW
def jA:Env'->M Fl:=(sSeq (sSet 1 (mMeth isS splW (mVar 0) (mCons (mC (.str " ")) mNil))) (sSeq (sSet 2 (m2 ixW (mVar 1) (mC (.int 0)))) (sSeq (sSet 3 (mCall lenW (mCons (mVar 1) mNil))) (sSeq (sIf (mAnd (mB (m2 eqW (mVar 2) (mC (.str "box")))) (mB (m2 eqW (mVar 3) (mC (.int 3))))) (sRet (mTup (mCons (mC (.str "box")) (mCons (mCall (arW 1 cc) (mCons (m2 ixW (mVar 1) (mC (.int 1))) mNil)) (mCons (mCall (arW 1 fU) (mCons (m2 ixW (mVar 1) (mC (.int 2))) mNil)) mNil))))) sNil) (sSeq (sIf (mAnd (mB (m2 eqW (mVar 2) (mC (.str "block")))) (mB (m2 eqW (mVar 3) (mC (.int 2))))) (sRet (mTup (mCons (mC (.str "block")) (mCons (mCall (arW 1 cc) (mCons (m2 ixW (mVar 1) (mC (.int 1))) mNil)) mNil)))) sNil) (sSeq (sIf (mAnd (mB (m2 eqW (mVar 2) (mC (.str "put")))) (mB (m2 eqW (mVar 3) (mC (.int 3))))) (sRet (mTup (mCons (mC (.str "put")) (mCons (mCall (arW 1 cc) (mCons (m2 ixW (mVar 1) (mC (.int 1))) mNil)) (mCons (mCall (arW 1 iH) (mCons (m2 ixW (mVar 1) (mC (.int 2))) mNil)) mNil))))) sNil) (sSeq (sIf (mAnd (mB (m2 eqW (mVar 2) (mC (.str "say")))) (mB (m2 eqW (mVar 3) (mC (.int 2))))) (sRet (mTup (mCons (mC (.str "say")) (mCons (mCall (arW 1 iH) (mCons (m2 ixW (mVar 1) (mC (.int 1))) mNil)) mNil)))) sNil) (sSeq (sIf (mAnd (mB (m2 eqW (mVar 2) (mC (.str "ask")))) (mB (m2 eqW (mVar 3) (mC (.int 2))))) (sRet (mTup (mCons (mC (.str "ask")) (mCons (mCall (arW 1 cc) (mCons (m2 ixW (mVar 1) (mC (.int 1))) mNil)) mNil)))) sNil) (sSeq (sIf (mAnd (mB (m2 eqW (mVar 2) (mC (.str "go")))) (mB (m2 eqW (mVar 3) (mC (.int 2))))) (sRet (mTup (mCons (mC (.str "go")) (mCons (mCall (arW 1 cc) (mCons (m2 ixW (mVar 1) (mC (.int 1))) mNil)) mNil)))) sNil) (sSeq (sIf (mAnd (mB (m2 eqW (mVar 2) (mC (.str "if")))) (mB (m2 eqW (mVar 3) (mC (.int 7))))) (sRet (mCall (arW 1 dm) (mCons (mVar 1) mNil))) sNil) (sSeq (sIf (mAnd (mB (m2 eqW (mVar 2) (mC (.str "table")))) (mB (da leW leW (mC (.int 3)) (mVar 3) (m2 addW (mC (.int 2)) (mC (.int 6)))))) (sRet (mTup (mCons (mC (.str "table")) (mCons (mCall (arW 1 iH) (mCons (m2 ixW (mVar 1) (mC (.int 1))) mNil)) (mCons (mCall kH (mCons (mTl (mComp [] (mSrc (m3 slW (mVar 1) (mPart (mC (.int 2))) bj) srcL) (tgN 0) mYes (mCall (arW 1 cc) (mCons (mVar 0) mNil)) 2)) mNil)) mNil))))) sNil) (sSeq (sIf (mAnd (mB (m2 eqW (mVar 2) (mC (.str "stop")))) (mB (m2 eqW (mVar 3) (mC (.int 1))))) (sRet (mTup (mCons (mC (.str "stop")) mNil))) sNil) sBad))))))))))))
def hW:List W->M W:=runF 4 jA
def aD:Env'->M Fl:=(sSeq (sIf (mB (m2 eqW (m2 ixW (mVar 0) (mC (.int 0))) (mC (.str "put")))) (sRet (mTl (catL (mTl (lenG (mCons (m2 ixW (mVar 0) (mC (.int 1))) mNil))) (mCall (arW 1 (bv 62)) (mCons (m2 ixW (mVar 0) (mC (.int 2))) mNil))))) sNil) (sSeq (sIf (mB (m2 eqW (m2 ixW (mVar 0) (mC (.int 0))) (mC (.str "say")))) (sRet (mCall (arW 1 (bv 62)) (mCons (m2 ixW (mVar 0) (mC (.int 1))) mNil))) sNil) (sSeq (sIf (mB (m2 eqW (m2 ixW (mVar 0) (mC (.int 0))) (mC (.str "ask")))) (sRet (mTl (lenG (mCons (m2 ixW (mVar 0) (mC (.int 1))) mNil)))) sNil) (sSeq (sIf (mB (m2 eqW (m2 ixW (mVar 0) (mC (.int 0))) (mC (.str "if")))) (sRet (m2 addW (mCall (arW 1 (bv 62)) (mCons (m2 ixW (mVar 0) (mC (.int 2))) mNil)) (mCall (arW 1 (bv 62)) (mCons (m2 ixW (mVar 0) (mC (.int 3))) mNil)))) sNil) (sSeq (sIf (mB (m2 eqW (m2 ixW (mVar 0) (mC (.int 0))) (mC (.str "table")))) (sRet (mCall (arW 1 (bv 62)) (mCons (m2 ixW (mVar 0) (mC (.int 1))) mNil))) sNil) (sRet (mTl (lenG mNil))))))))
def bp:List W->M W:=runF 1 aD
def iC:Env'->M Fl:=(sSeq (sIf (mB (m2 cL (mVar 0) (mVar 1))) sBad sNil) (sRet (mMeth isLO sidxW (mVar 1) (mCons (mVar 0) mNil))))
def dl:List W->M W:=runF 2 iC
def bz:Env'->M Fl:=(sSeq (sIf (mB (m2 eqW (m2 ixW (mVar 0) (mC (.int 0))) (mC (.str "go")))) (sRet (mTup (mCons (mC (.str "go")) (mCons (mCall (arW 2 dl) (mCons (m2 ixW (mVar 0) (mC (.int 1))) (mCons (mVar 1) mNil))) mNil)))) sNil) (sSeq (sIf (mB (m2 eqW (m2 ixW (mVar 0) (mC (.int 0))) (mC (.str "if")))) (sRet (m2 addW (m3 slW (mVar 0) bj (mPart (mC (.int 4)))) (mTup (mCons (mCall (arW 2 dl) (mCons (m2 ixW (mVar 0) (mC (.int 4))) (mCons (mVar 1) mNil))) (mCons (mCall (arW 2 dl) (mCons (m2 ixW (mVar 0) (mC (.int 5))) (mCons (mVar 1) mNil))) mNil))))) sNil) (sSeq (sIf (mB (m2 eqW (m2 ixW (mVar 0) (mC (.int 0))) (mC (.str "table")))) (sRet (mTup (mCons (mC (.str "table")) (mCons (m2 ixW (mVar 0) (mC (.int 1))) (mCons (mCall kH (mCons (mTl (mComp [] (mSrc (m2 ixW (mVar 0) (mC (.int 2))) srcT) (tgN 0) mYes (mCall (arW 2 dl) (mCons (mVar 0) (mCons (mVar 3) mNil))) 2)) mNil)) mNil))))) sNil) (sRet (mVar 0)))))
def bW:List W->M W:=runF 2 bz
def cT:Env'->M Fl:=(sSeq (sFldW "Reading" "boxes" (mVar 0) (mNew (lenG mNil))) (sSeq (sFldW "Reading" "block_names" (mVar 0) (mNew (lenG mNil))) (sSeq (sFldW "Reading" "ended_blocks" (mVar 0) (mNew (lenG mNil))) (sFldW "Reading" "statements" (mVar 0) (mNew (lenG mNil))))))
def cz:List W->M W:=runF 1 cT
def cS:Env'->M Fl:=(sRet (m2 gtW (mCall lenW (mCons (m1 (fldG "Reading" "block_names") (mVar 0)) mNil)) (mCall lenW (mCons (m1 (fldG "Reading" "ended_blocks") (mVar 0)) mNil))))
def bw:List W->M W:=runF 1 cS
def cJ:Env'->M Fl:=(sRet (mTl (mComp [] (mSrc (m1 (fldG "Reading" "boxes") (mVar 0)) srcL) (tgT [0,1]) mYes (mVar 0) 3)))
def bD:List W->M W:=runF 1 cJ
def aY:Env'->M Fl:=(sIf (mB (m2 eqW (mVar 1) (mC (.str "box")))) (sIf (mB (m2 gtW (mCall lenW (mCons (m1 (fldG "Reading" "block_names") (mVar 0)) mNil)) (mC (.int 0)))) sBad sNil) (sIf (mB (m2 eqW (mVar 1) (mC (.str "block")))) (sIf (mB (mMet "Reading" "in_block" 1 bw (mVar 0) mNil)) sBad sNil) (sIf (mNot (mB (mMet "Reading" "in_block" 1 bw (mVar 0) mNil))) sBad sNil)))
def aM:List W->M W:=runF 2 aY
def aX:Env'->M Fl:=(sSeq (sIf (mAnd (mB (m2 eqW (m2 ixW (mVar 1) (mC (.int 0))) (mC (.str "box")))) (mB (m2 inW (m2 ixW (mVar 1) (mC (.int 1))) (mMet "Reading" "box_names" 1 bD (mVar 0) mNil)))) sBad sNil) (sIf (mAnd (mB (m2 eqW (m2 ixW (mVar 1) (mC (.int 0))) (mC (.str "block")))) (mB (m2 inW (m2 ixW (mVar 1) (mC (.int 1))) (m1 (fldG "Reading" "block_names") (mVar 0))))) sBad sNil))
def aK:List W->M W:=runF 2 aX
def be:Env'->M Fl:=(sSeq (sIf (mAnd (mB (m2 eqW (mVar 1) (mC (.str "box")))) (mB (m2 eqW (mCall lenW (mCons (m1 (fldG "Reading" "boxes") (mVar 0)) mNil)) (mC (.int 4))))) sBad sNil) (sSeq (sIf (mAnd (mB (m2 eqW (mVar 1) (mC (.str "block")))) (mB (m2 eqW (mCall lenW (mCons (m1 (fldG "Reading" "block_names") (mVar 0)) mNil)) (mC (.int 10))))) sBad sNil) (sIf (mAnd (mB (m2 inW (mVar 1) (mC (.tup ((["put", "say", "ask"]:List Str).map W.str))))) (mB (m2 eqW (mCall lenW (mCons (m1 (fldG "Reading" "statements") (mVar 0)) mNil)) (mC (.int 8))))) sBad sNil)))
def aQ:List W->M W:=runF 2 be
def cA:Env'->M Fl:=(sSeq (sSet 2 (mMet "Reading" "box_names" 1 bD (mVar 0) mNil)) (sFor (mSrc (mCall (arW 1 bp) (mCons (mVar 1) mNil)) srcL) (tgN 3) (sIf (mB (m2 cL (mVar 3) (mVar 2))) sBad sNil)))
def bE:List W->M W:=runF 4 cA
def aU:Env'->M Fl:=(sIf (mB (m2 eqW (m2 ixW (mVar 1) (mC (.int 0))) (mC (.str "box")))) (sEx (mMeth isL bP (m1 (fldG "Reading" "boxes") (mVar 0)) (mCons (mTup (mCons (m2 ixW (mVar 1) (mC (.int 1))) (mCons (m2 ixW (mVar 1) (mC (.int 2))) mNil))) mNil))) (sIf (mB (m2 eqW (m2 ixW (mVar 1) (mC (.int 0))) (mC (.str "block")))) (sSeq (sEx (mMeth isL bP (m1 (fldG "Reading" "block_names") (mVar 0)) (mCons (m2 ixW (mVar 1) (mC (.int 1))) mNil))) (sFldW "Reading" "statements" (mVar 0) (mNew (lenG mNil)))) (sIf (mB (m2 inW (m2 ixW (mVar 1) (mC (.int 0))) (mC (.tup ((["put", "say", "ask"]:List Str).map W.str))))) (sEx (mMeth isL bP (m1 (fldG "Reading" "statements") (mVar 0)) (mCons (mVar 1) mNil))) (sEx (mMeth isL bP (m1 (fldG "Reading" "ended_blocks") (mVar 0)) (mCons (mTup (mCons (m2 ixW (m1 (fldG "Reading" "block_names") (mVar 0)) (m1 negW (mC (.int 1)))) (mCons (m1 iceW (m1 (fldG "Reading" "statements") (mVar 0))) (mCons (mVar 1) mNil)))) mNil))))))
def aP:List W->M W:=runF 2 aU
def eX:Env'->M Fl:=(sSeq (sEx (mMet "Reading" "check_place" 2 aM (mVar 0) (mCons (m2 ixW (mVar 1) (mC (.int 0))) mNil))) (sSeq (sEx (mMet "Reading" "check_twice" 2 aK (mVar 0) (mCons (mVar 1) mNil))) (sSeq (sEx (mMet "Reading" "check_room" 2 aQ (mVar 0) (mCons (m2 ixW (mVar 1) (mC (.int 0))) mNil))) (sSeq (sEx (mMet "Reading" "check_boxes" 2 bE (mVar 0) (mCons (mVar 1) mNil))) (sEx (mMet "Reading" "put_down" 2 aP (mVar 0) (mCons (mVar 1) mNil)))))))
def dt:List W->M W:=runF 2 eX
def cx:Env'->M Fl:=(sSeq (sIf (mOr (mB (mMet "Reading" "in_block" 1 bw (mVar 0) mNil)) (mB (m2 eqW (mCall lenW (mCons (m1 (fldG "Reading" "block_names") (mVar 0)) mNil)) (mC (.int 0))))) sBad sNil) (sSeq (sSet 1 (mNew (lenG mNil))) (sSeq (sFor (mSrc (m1 (fldG "Reading" "ended_blocks") (mVar 0)) srcL) (tgT [2,3,4]) (sEx (mMeth isL bP (mVar 1) (mCons (mTup (mCons (mVar 2) (mCons (mVar 3) (mCons (mCall (arW 2 bW) (mCons (mVar 4) (mCons (m1 (fldG "Reading" "block_names") (mVar 0)) mNil))) mNil)))) mNil)))) (sRet (mTup (mCons (m1 iceW (m1 (fldG "Reading" "boxes") (mVar 0))) (mCons (m1 iceW (mVar 1)) mNil)))))))
def bU:List W->M W:=runF 5 cx
def pA:Env'->M Fl:=(sSeq (sSet 1 (mMeth isS splW (mVar 0) (mCons (mC (.str "\n")) mNil))) (sSeq (sIf (mB (m2 gtW (mCall lenW (mCons (mVar 1) mNil)) (mC (.int 120)))) sBad sNil) (sSeq (sSet 2 (mMake "Reading" 1 cz mNil)) (sSeq (sFor (mSrc (mVar 1) srcL) (tgN 3) (sEx (mMet "Reading" "take" 2 dt (mVar 2) (mCons (mCall (arW 1 hW) (mCons (mVar 3) mNil)) mNil)))) (sRet (mMet "Reading" "told_program" 1 bU (mVar 2) mNil))))))
def lm:List W->M W:=runF 4 pA
def jy:Env'->M Fl:=(sRet (mIf (mB (m2 eqW (mVar 0) (mVar 1))) (mTl (lenG mNil)) (mTl (lenG (mCons (mTup (mCons (mC (.str "jump")) (mCons (mVar 0) mNil))) mNil)))))
def eI:List W->M W:=runF 2 jy
def jx:Env'->M Fl:=(sSeq (sSet 2 (m3 slW (mVar 0) (mPart (mC (.int 1))) (mPart (mC (.int 4))))) (sSeq (sSet 3 (m2 ixW (mVar 0) (mC (.int 4)))) (sSeq (sSet 4 (m2 ixW (mVar 0) (mC (.int 5)))) (sSeq (sIf (mB (m2 eqW (mVar 3) (mVar 4))) (sRet (mCall (arW 2 eI) (mCons (mVar 3) (mCons (mVar 1) mNil)))) sNil) (sSeq (sIf (mB (m2 eqW (mVar 3) (mVar 1))) (sRet (mTl (lenG (mCons (m2 addW (m2 addW (mTup (mCons (mC (.str "unless")) mNil)) (mVar 2)) (mTup (mCons (mVar 4) mNil))) mNil)))) sNil) (sRet (mTl (catL (mTl (lenG (mCons (m2 addW (m2 addW (mTup (mCons (mC (.str "when")) mNil)) (mVar 2)) (mTup (mCons (mVar 3) mNil))) mNil))) (mCall (arW 2 eI) (mCons (mVar 4) (mCons (mVar 1) mNil)))))))))))
def hV:List W->M W:=runF 5 jx
def iF:Env'->M Fl:=(sSeq (sIf (mB (m2 eqW (m2 ixW (mVar 0) (mC (.int 0))) (mC (.str "go")))) (sRet (mCall (arW 2 eI) (mCons (m2 ixW (mVar 0) (mC (.int 1))) (mCons (mVar 1) mNil)))) sNil) (sSeq (sIf (mB (m2 eqW (m2 ixW (mVar 0) (mC (.int 0))) (mC (.str "if")))) (sRet (mCall (arW 2 hV) (mCons (mVar 0) (mCons (mVar 1) mNil)))) sNil) (sRet (mTl (lenG (mCons (mVar 0) mNil))))))
def gB:List W->M W:=runF 2 iF
def fw:Env'->M Fl:=(sSeq (sIf (mB (m2 inW (m2 ixW (mVar 0) (mC (.int 0))) (mC (.tup ((["jump", "when", "unless"]:List Str).map W.str))))) (sRet (m2 addW (m3 slW (mVar 0) bj (mPart (m1 negW (mC (.int 1))))) (mTup (mCons (m2 ixW (mVar 1) (m2 ixW (mVar 0) (m1 negW (mC (.int 1))))) mNil)))) sNil) (sSeq (sIf (mB (m2 eqW (m2 ixW (mVar 0) (mC (.int 0))) (mC (.str "table")))) (sRet (mTup (mCons (mC (.str "table")) (mCons (m2 ixW (mVar 0) (mC (.int 1))) (mCons (mCall kH (mCons (mTl (mComp [] (mSrc (m2 ixW (mVar 0) (mC (.int 2))) srcT) (tgN 0) mYes (m2 ixW (mVar 3) (mVar 0)) 2)) mNil)) mNil))))) sNil) (sRet (mVar 0))))
def dJ:List W->M W:=runF 2 fw
def pB:Env'->M Fl:=(sSeq (sSet 2 (mNew (lenG mNil))) (sSeq (sSet 3 mDNew) (sSeq (sFor (mSrcA (mCons (mVar 1) (mCons (m2 catTW (m3 slW (mVar 1) (mPart (mC (.int 1))) bj) (mTup (mCons (mC .non) mNil))) mNil)) (srcZ true true)) (tgT [4,5]) (sSeq (sSet 6 (m2 ixW (m2 ixW (mVar 0) (mC (.int 1))) (mVar 4))) (sSeq (de (mVar 3) (mVar 4) (mCall lenW (mCons (mVar 2) mNil))) (sSeq (sEx (mMeth isL ku (mVar 2) (mCons (m2 ixW (mVar 6) (mC (.int 1))) mNil))) (sEx (mMeth isL ku (mVar 2) (mCons (mCall (arW 2 gB) (mCons (m2 ixW (mVar 6) (mC (.int 2))) (mCons (mVar 5) mNil))) mNil))))))) (sRet (mTl (mComp [] (mSrc (mVar 2) srcL) (tgN 0) mYes (mCall (arW 2 dJ) (mCons (mVar 0) (mCons (mVar 5) mNil))) 2))))))
def nq:List W->M W:=runF 7 pB
def gi:Env'->M Fl:=(sRet (mIf (mB (m2 inW (m2 ixW (mVar 0) (mC (.int 0))) (mC (.tup ((["jump", "when", "unless"]:List Str).map W.str))))) (mTup (mCons (mC (.int 1)) (mCons (mC (.int 3)) mNil))) (mTup (mCons (mC (.int 1)) mNil))))
def eY:List W->M W:=runF 1 gi
def gJ:Env'->M Fl:=(sSeq (sSet 1 (mNew (lenG (mCons (mC (.int 0)) mNil)))) (sSeq (sFor (mSrc (mVar 0) srcL) (tgN 2) (sEx (mMeth isL bP (mVar 1) (mCons (m2 addW (m2 ixW (mVar 1) (m1 negW (mC (.int 1)))) (mVar 2)) mNil)))) (sRet (m1 iceW (mVar 1)))))
def dq:List W->M W:=runF 3 gJ
def dB:Env'->M Fl:=(sSeq (sIf (mB (m2 cL (m2 ixW (mVar 1) (mC (.int 0))) (mC (.tup ((["jump", "when", "unless"]:List Str).map W.str))))) (sRet (mC (.bl false))) sNil) (sSeq (sSet 4 (mCall minW (mCons (m2 ixW (mVar 1) (m1 negW (mC (.int 1)))) (mCons (m2 subW (mCall lenW (mCons (mVar 3) mNil)) (mC (.int 1))) mNil)))) (sRet (m2 gtW (mCall absW (mCons (m2 subW (m2 ixW (mVar 3) (mVar 4)) (m2 ixW (mVar 3) (m2 addW (mVar 0) (mC (.int 1))))) mNil)) (mVar 2)))))
def ci:List W->M W:=runF 5 dB
def dQ:Env'->M Fl:=(sSeq (sSet 3 (mCall (arW 1 dq) (mCons (mVar 2) mNil))) (sRet (mNew (mComp [] (mSrcA (mCons (mVar 0) mNil) enumL) (tgT [0,1]) mYes (mIf (mB (mCall (arW 4 ci) (mCons (mVar 0) (mCons (mVar 1) (mCons (mVar 4) (mCons (mVar 6) mNil)))))) (mC (.int 3)) (mC (.int 1))) 3))))
def cp:List W->M W:=runF 4 dQ
def ju:Env'->M Fl:=(sSeq (sSet 2 (mNew (mComp [] (mSrc (mVar 0) srcL) (tgN 0) mYes (mC (.int 1)) 2))) (sSeq (sSet 3 (mCall (arW 3 cp) (mCons (mVar 0) (mCons (mVar 1) (mCons (mVar 2) mNil))))) (sSeq (jK (mB (m2 neW (mVar 3) (mVar 2))) (sSeq (sSet 2 (mVar 3)) (sSet 3 (mCall (arW 3 cp) (mCons (mVar 0) (mCons (mVar 1) (mCons (mVar 2) mNil)))))) 300) (sRet (mVar 2)))))
def hU:List W->M W:=runF 4 ju
def dP:Env'->M Fl:=(sSeq (sIf (mB (m2 neW (mCall lenW (mCons (mVar 2) mNil)) (mCall lenW (mCons (mVar 0) mNil)))) (sRet (mC (.bl false))) sNil) (sSeq (sSet 3 (mCall (arW 1 dq) (mCons (mVar 2) mNil))) (sSeq (sFor (mSrcA (mCons (mVar 0) mNil) enumL) (tgT [4,5]) (sSeq (sIf (mB (m2 cL (m2 ixW (mVar 2) (mVar 4)) (mCall (arW 1 eY) (mCons (mVar 5) mNil)))) (sRet (mC (.bl false))) sNil) (sIf (mAnd (mB (m2 eqW (m2 ixW (mVar 2) (mVar 4)) (mC (.int 1)))) (mB (mCall (arW 4 ci) (mCons (mVar 4) (mCons (mVar 5) (mCons (mVar 1) (mCons (mVar 3) mNil))))))) (sRet (mC (.bl false))) sNil))) (sRet (mC (.bl true))))))
def bh:List W->M W:=runF 6 dP
def fJ:Env'->M Fl:=(sSeq (sIf (mB (m2 ltW (mVar 1) (mCall lenW (mCons (mVar 0) mNil)))) (sRet (m2 ixW (mVar 0) (mVar 1))) sNil) (sRet (mC (.int 0))))
def bR:List W->M W:=runF 2 fJ
def fE:Env'->M Fl:=(sSeq (sSet 2 (mNew (lenG mNil))) (sSeq (sSet 3 (mCall absW (mCons (mVar 0) mNil))) (sSeq (sFor (mSrcA (mCons (mVar 1) mNil) rng1) (tgN 4) (sIf (mB (m2 geW (mCall absW (mCons (mVar 0) mNil)) (m2 powW (mC (.int 10)) (mC (.int 18))))) (sSeq (sEx (mMeth isL bP (mVar 2) (mCons (m2 modW (mVar 3) (mC (.int 1009))) mNil))) (sSet 3 (m2 fdivW (mVar 3) (mC (.int 1009))))) (sSeq (sSet 5 (m2 modW (m2 addW (m2 modW (mVar 3) (mC (.int 2147483629))) (m2 mulW (m2 mulW (mC (.int 7919)) (m2 addW (mVar 4) (mC (.int 1)))) (m2 addW (mVar 4) (mC (.int 3))))) (mC (.int 2147483629)))) (sSeq (sSet 5 (m2 addW (m2 modW (m2 mulW (mVar 5) (mVar 5)) (mC (.int 2147483587))) (m2 fdivW (mVar 5) (mC (.int 7))))) (sEx (mMeth isL bP (mVar 2) (mCons (m2 fdivW (m2 modW (m2 mulW (mVar 5) (mC (.int 48271))) (mC (.int 2147483647))) (mC (.int 16))) mNil))))))) (sRet (m1 iceW (mVar 2))))))
def bQ:List W->M W:=runF 6 fE
def gH:Env'->M Fl:=(sSeq (sSet 1 (mTl (lenG (mCons (mC (.str "a")) (mCons (mC (.str "b")) (mCons (mC (.str "c")) (mCons (mC (.str "d")) (mCons (mC (.str "e")) (mCons (mC (.str "f")) (mCons (mC (.str "g")) (mCons (mC (.str "h")) (mCons (mC (.str "i")) (mCons (mC (.str "j")) mNil))))))))))))) (sSeq (sSet 2 (mTl (lenG (mCons (mC (.str "top")) (mCons (mC (.str "t")) (mCons (mC (.str "ab")) (mCons (mC (.str "a")) (mCons (mC (.str "zed")) (mCons (mC (.str "n")) (mCons (mC (.str "nn")) (mCons (mC (.str "out")) (mCons (mC (.str "mid")) (mCons (mC (.str "x")) mNil))))))))))))) (sRet (m2 ixW (mTl (lenG (mCons (mVar 1) (mCons (mVar 2) (mCons (mRev (mVar 1) (mPart (m1 negW (mC (.int 1))))) (mCons (mRev (mVar 2) (mPart (m1 negW (mC (.int 1))))) mNil)))))) (m2 modW (mVar 0) (mC (.int 4)))))))
def eG:List W->M W:=runF 3 gH
def iD:Env'->M Fl:=(sSeq (sSet 1 (m2 ixW (mTl (lenG (mCons (mC (.str "n")) (mCons (mC (.str "nn")) mNil)))) (m2 modW (m2 ixW (mVar 0) (mC (.int 1))) (mC (.int 2))))) (sSeq (sSet 2 (mCall strW (mCons (m2 modW (m2 ixW (mVar 0) (mC (.int 2))) (mC (.int 4))) mNil))) (sSeq (sSet 3 (mTl (lenG (mCons (mVar 2) (mCons (mVar 1) (mCons (m2 addW (m2 addW (mVar 1) (mC (.str "+"))) (mVar 2)) (mCons (m2 addW (mVar 1) (mC (.str "-1"))) (mCons (mC (.str "nn-n")) (mCons (m2 addW (mC (.str "n*")) (mVar 2)) (mCons (m2 addW (m2 addW (mC (.str "2*(")) (mVar 1)) (mC (.str "+1)"))) (mCons (m2 addW (mC (.str "7-")) (mVar 1)) mNil))))))))))) (sRet (m2 ixW (mVar 3) (m2 modW (m2 ixW (mVar 0) (mC (.int 0))) (mC (.int 8))))))))
def cG:List W->M W:=runF 4 iD
def dR:Env'->M Fl:=(sSeq (sSet 1 (m2 modW (m2 fdivW (m2 ixW (mVar 0) (mC (.int 0))) (mC (.int 8))) (mC (.int 4)))) (sSeq (sIf (mB (m2 eqW (mVar 1) (mC (.int 0)))) (sRet (m2 addW (mC (.str "say ")) (mCall (arW 1 cG) (mCons (mVar 0) mNil)))) sNil) (sSeq (sIf (mB (m2 eqW (mVar 1) (mC (.int 1)))) (sRet (m2 addW (mC (.str "ask ")) (m2 ixW (mTl (lenG (mCons (mC (.str "n")) (mCons (mC (.str "nn")) mNil)))) (m2 modW (m2 ixW (mVar 0) (mC (.int 2))) (mC (.int 2)))))) sNil) (sRet (m2 addW (m2 addW (m2 addW (mC (.str "put ")) (m2 ixW (mTl (lenG (mCons (mC (.str "n")) (mCons (mC (.str "nn")) mNil)))) (m2 modW (m2 fdivW (m2 ixW (mVar 0) (mC (.int 2))) (mC (.int 4))) (mC (.int 2))))) (mC (.str " "))) (mCall (arW 1 cG) (mCons (mVar 0) mNil)))))))
def bV:List W->M W:=runF 2 dR
def jv:Env'->M Fl:=(sSeq (sSet 2 (m2 ixW (mVar 1) (m2 modW (m2 ixW (mVar 0) (mC (.int 8))) (mCall lenW (mCons (mVar 1) mNil))))) (sSeq (sSet 3 (m2 ixW (mVar 1) (m2 modW (m2 ixW (mVar 0) (mC (.int 9))) (mCall lenW (mCons (mVar 1) mNil))))) (sSeq (sSet 4 (m2 modW (m2 ixW (mVar 0) (mC (.int 7))) (mC (.int 8)))) (sSeq (sIf (mB (m2 ltW (mVar 4) (mC (.int 2)))) (sRet (m2 addW (mC (.str "go ")) (mVar 2))) sNil) (sSeq (sIf (mB (m2 eqW (mVar 4) (mC (.int 5)))) (sSeq (sSet 5 (mCall (arW 1 cG) (mCons (m3 slW (mVar 0) (mPart (mC (.int 9))) (mPart (mC (.int 12)))) mNil))) (sRet (mMeth isS joinW (mC (.str " ")) (mCons (mTl (catL (mTl (lenG (mCons (mC (.str "table")) (mCons (mVar 5) (mCons (mVar 2) (mCons (mVar 3) mNil)))))) (m3 slW (mVar 1) bj (mPart (m2 modW (m2 ixW (mVar 0) (mC (.int 10))) (mC (.int 3))))))) mNil)))) sNil) (sSeq (sIf (mB (m2 eqW (mVar 4) (mC (.int 6)))) (sRet (mC (.str "stop"))) sNil) (sSeq (sSet 6 (m2 ixW (mTl (lenG (mCons (mC (.str " < ")) (mCons (mC (.str " = ")) mNil)))) (m2 modW (m2 fdivW (m2 ixW (mVar 0) (mC (.int 10))) (mC (.int 8))) (mC (.int 2))))) (sSeq (sSet 7 (m2 addW (mCall (arW 1 cG) (mCons (m3 slW (mVar 0) (mPart (mC (.int 9))) (mPart (mC (.int 12)))) mNil)) (mVar 6))) (sSeq (sSet 7 (m2 addW (mVar 7) (mCall (arW 1 cG) (mCons (m2 addW (m3 slW (mVar 0) (mPart (mC (.int 10))) (mPart (mC (.int 12)))) (m3 slW (mVar 0) bj (mPart (mC (.int 1))))) mNil)))) (sSeq (sIf (mB (m2 eqW (mVar 4) (mC (.int 7)))) (sSet 3 (mVar 2)) sNil) (sRet (m2 addW (m2 addW (m2 addW (m2 addW (m2 addW (mC (.str "if ")) (mVar 7)) (mC (.str " "))) (mVar 2)) (mC (.str " else "))) (mVar 3)))))))))))))
def gk:List W->M W:=runF 8 jv
def iE:Env'->M Fl:=(sSeq (sSet 2 (mCall (arW 2 bQ) (mCons (mCall (arW 2 bR) (mCons (mVar 0) (mCons (mC (.int 0)) mNil))) (mCons (mC (.int 4)) mNil)))) (sSeq (sSet 3 (m3 slW (mCall (arW 1 eG) (mCons (m2 ixW (mVar 2) (mC (.int 0))) mNil)) bj (mPart (m2 addW (mC (.int 1)) (m2 modW (m2 ixW (mVar 2) (mC (.int 1))) (mVar 1)))))) (sSeq (sSet 4 (mNew (lenG (mCons (m2 addW (mC (.str "box n ")) (mCall strW (mCons (m2 modW (m2 ixW (mVar 2) (mC (.int 2))) (mC (.int 3))) mNil))) (mCons (m2 addW (mC (.str "box nn ")) (mCall strW (mCons (m2 modW (m2 ixW (mVar 2) (mC (.int 3))) (mC (.int 4))) mNil))) mNil))))) (sSeq (sFor (mSrcA (mCons (mCall lenW (mCons (mVar 3) mNil)) mNil) rng1) (tgN 5) (sSeq (sSet 6 (mCall (arW 2 bQ) (mCons (mCall (arW 2 bR) (mCons (mVar 0) (mCons (m2 addW (mC (.int 1)) (mVar 5)) mNil))) (mCons (mC (.int 12)) mNil)))) (sSeq (sEx (mMeth isL bP (mVar 4) (mCons (m2 addW (mC (.str "block ")) (m2 ixW (mVar 3) (mVar 5))) mNil))) (sSeq (sIf (mB (m2 gtW (m2 modW (m2 ixW (mVar 6) (mC (.int 0))) (mC (.int 3))) (mC (.int 0)))) (sEx (mMeth isL bP (mVar 4) (mCons (mCall (arW 1 bV) (mCons (m3 slW (mVar 6) (mPart (mC (.int 1))) (mPart (mC (.int 4)))) mNil)) mNil))) sNil) (sSeq (sIf (mB (m2 gtW (m2 modW (m2 ixW (mVar 6) (mC (.int 0))) (mC (.int 3))) (mC (.int 1)))) (sEx (mMeth isL bP (mVar 4) (mCons (mCall (arW 1 bV) (mCons (m3 slW (mVar 6) (mPart (mC (.int 4))) (mPart (mC (.int 7)))) mNil)) mNil))) sNil) (sEx (mMeth isL bP (mVar 4) (mCons (mCall (arW 2 gk) (mCons (mVar 6) (mCons (mVar 3) mNil))) mNil)))))))) (sRet (mMeth isS joinW (mC (.str "\n")) (mCons (mVar 4) mNil)))))))
def gA:List W->M W:=runF 7 iE
def gG:Env'->M Fl:=(sSeq (sSet 2 (mTup (mCons (mC (.int 0)) mNil))) (sSeq (sFor (mSrcA (mCons (mC (.int 1)) (mCons (mVar 1) mNil)) rng2) (tgN 3) (sSeq (sSet 4 (m2 addW (mC (.int 1)) (m2 modW (m2 ixW (mVar 0) (mVar 3)) (mCall lenW (mCons (mVar 2) mNil))))) (sSet 2 (m2 addW (m2 addW (m3 slTW (mVar 2) bj (mPart (mVar 4))) (mTup (mCons (mVar 3) mNil))) (m3 slTW (mVar 2) (mPart (mVar 4)) bj))))) (sRet (mVar 2))))
def fV:List W->M W:=runF 5 gG
def gE:Env'->M Fl:=(sSeq (sIf (mB (m2 neW (mCall lenW (mCons (mVar 2) mNil)) (mCall lenW (mCons (mVar 0) mNil)))) (sRet (mC (.bl false))) sNil) (sSeq (sSet 3 (mNew (lenG (mCons (mC (.int 0)) mNil)))) (sSeq (sFor (mSrc (mVar 2) srcL) (tgN 4) (sEx (mMeth isL bP (mVar 3) (mCons (m2 addW (m2 ixW (mVar 3) (m1 negW (mC (.int 1)))) (mVar 4)) mNil)))) (sSeq (sFor (mSrcA (mCons (mCall lenW (mCons (mVar 0) mNil)) mNil) rng1) (tgN 5) (sIf (mB (m2 cL (m2 ixW (m2 ixW (mVar 0) (mVar 5)) (mC (.int 0))) (mTl (lenG (mCons (mC (.str "jump")) (mCons (mC (.str "when")) (mCons (mC (.str "unless")) mNil))))))) (sIf (mB (m2 neW (m2 ixW (mVar 2) (mVar 5)) (mC (.int 1)))) (sRet (mC (.bl false))) sNil) (sIf (mB (m2 neW (m2 ixW (mVar 2) (mVar 5)) (mC (.int 3)))) (sSeq (sSet 6 (mCall absW (mCons (m2 subW (m2 ixW (mVar 3) (m2 ixW (m2 ixW (mVar 0) (mVar 5)) (m1 negW (mC (.int 1))))) (m2 ixW (mVar 3) (m2 addW (mVar 5) (mC (.int 1))))) mNil))) (sIf (mOr (mB (m2 neW (m2 ixW (mVar 2) (mVar 5)) (mC (.int 1)))) (mB (m2 gtW (mVar 6) (mVar 1)))) (sRet (mC (.bl false))) sNil)) sNil))) (sRet (mC (.bl true)))))))
def cy:List W->M W:=runF 7 gE
def fH:Env'->M Fl:=(sSeq (sSet 1 (mTl (lenG (mCons (mTl (lenG mNil)) mNil)))) (sSeq (sFor (mSrc (mVar 0) srcL) (tgN 2) (sSeq (sSet 3 (mNew (lenG mNil))) (sSeq (sFor (mSrc (mVar 1) srcL) (tgN 4) (sSeq (sEx (mMeth isL bP (mVar 3) (mCons (m2 addW (mVar 4) (mTl (lenG (mCons (mC (.int 1)) mNil)))) mNil))) (sIf (mB (m2 inW (m2 ixW (mVar 2) (mC (.int 0))) (mTl (lenG (mCons (mC (.str "jump")) (mCons (mC (.str "when")) (mCons (mC (.str "unless")) mNil))))))) (sEx (mMeth isL bP (mVar 3) (mCons (m2 addW (mVar 4) (mTl (lenG (mCons (mC (.int 3)) mNil)))) mNil))) sNil))) (sSet 1 (m1 iceW (mVar 3)))))) (sRet (mVar 1))))
def cU:List W->M W:=runF 5 fH
def gI:Env'->M Fl:=(sSeq (sSet 3 (mTl (mComp [] (mSrcA (mCons (mCall lenW (mCons (mVar 0) mNil)) mNil) rng1) (tgN 0) (mB (m2 inW (m2 ixW (m2 ixW (mVar 2) (mVar 0)) (mC (.int 0))) (mTl (lenG (mCons (mC (.str "jump")) (mCons (mC (.str "when")) (mCons (mC (.str "unless")) mNil))))))) (mVar 0) 2))) (sSeq (sIf (mB (m2 ltW (mCall lenW (mCons (mVar 3) mNil)) (mC (.int 9)))) (sFor (mSrc (mCall (arW 1 cU) (mCons (mVar 0) mNil)) srcL) (tgN 4) (sIf (mB (mCall (arW 3 cy) (mCons (mVar 0) (mCons (mVar 1) (mCons (mVar 4) mNil))))) (sIf (mOr (mB (m2 neW (mTl (mComp [] (mSrc (mVar 3) srcL) (tgN 0) (mB (m2 ltW (m2 ixW (mVar 6) (mVar 0)) (m2 ixW (mVar 4) (mVar 0)))) (mVar 0) 2)) (mTl (lenG mNil)))) (mB (m2 notBW (mCall (arW 3 bh) (mCons (mVar 0) (mCons (mVar 1) (mCons (mVar 4) mNil)))) (mC (.bl true))))) (sRet (mC (.bl false))) sNil) sNil)) sNil) (sSeq (sFor (mSrc (mVar 3) srcL) (tgN 5) (sSeq (sSet 4 (m2 addW (m2 addW (m3 slW (mVar 2) bj (mPart (mVar 5))) (mTl (lenG (mCons (m2 subW (mC (.int 4)) (m2 ixW (mVar 2) (mVar 5))) mNil)))) (m3 slW (mVar 2) (mPart (m2 addW (mVar 5) (mC (.int 1)))) bj))) (sIf (mB (m2 neW (mCall (arW 3 bh) (mCons (mVar 0) (mCons (mVar 1) (mCons (mVar 4) mNil)))) (mCall (arW 3 cy) (mCons (mVar 0) (mCons (mVar 1) (mCons (mVar 4) mNil)))))) (sRet (mC (.bl false))) sNil))) (sRet (mC (.bl true))))))
def fW:List W->M W:=runF 6 gI
def tD:Env'->M Fl:=(sSeq (sSet 1 (mCall (arW 1 lm) (mCons (mCall (arW 2 gA) (mCons (mVar 0) (mCons (mC (.int 7)) mNil))) mNil))) (sSeq (sSet 2 (mCall (arW 2 bQ) (mCons (mCall (arW 2 bR) (mCons (mVar 0) (mCons (mC (.int 8)) mNil))) (mCons (mC (.int 12)) mNil)))) (sSeq (sSet 3 (mCall (arW 2 nq) (mCons (mVar 1) (mCons (mCall (arW 2 fV) (mCons (mVar 2) (mCons (mCall lenW (mCons (m2 ixW (mVar 1) (mC (.int 1))) mNil)) mNil))) mNil)))) (sSeq (sFor (mSrcA (mCons (mC (.int 4)) mNil) rng1) (tgN 4) (sSeq (sSet 5 (m2 modW (m2 ixW (mVar 2) (m2 addW (mC (.int 8)) (mVar 4))) (m2 ixW (mTl (lenG (mCons (mC (.int 1)) (mCons (mC (.int 4)) (mCons (mC (.int 9)) (mCons (mC (.int 25)) mNil)))))) (mVar 4)))) (sSeq (sSet 6 (m1 iceW (mCall (arW 2 hU) (mCons (mTl (listL (mCons (mVar 3) mNil))) (mCons (mVar 5) mNil))))) (sSeq (sIf (mOr (mNot (mB (mCall isiW (mCons (mVar 6) (mCons (mC (.ty "list")) mNil))))) (mNot (mB (mCall (arW 3 cy) (mCons (mVar 3) (mCons (mVar 5) (mCons (mVar 6) mNil))))))) (sRet (mC (.bl false))) sNil) (sSeq (sIf (mOr (mB (m2 notBW (mCall (arW 3 bh) (mCons (mVar 3) (mCons (mVar 5) (mCons (mTl (listL (mCons (mVar 6) mNil))) mNil)))) (mC (.bl true)))) (mB (m2 notBW (mCall (arW 3 bh) (mCons (mVar 3) (mCons (mVar 5) (mCons (m2 addW (mVar 6) (mTl (lenG (mCons (mC (.int 1)) mNil)))) mNil)))) (mC (.bl false))))) (sRet (mC (.bl false))) sNil) (sIf (mNot (mB (mCall (arW 3 fW) (mCons (mVar 3) (mCons (mVar 5) (mCons (mVar 6) mNil)))))) (sRet (mC (.bl false))) sNil)))))) (sRet (mC (.bl true)))))))
def nZ:List W->M W:=runF 7 tD
section
variable {P:Program}{w:World}{K:PySem.W.Frag}{mg:Str->Option Value}{base:Heap}{f:Addr}{fd:FuncData}
theorem p5:FnScope ["e"] ["e"] (ak jO):=⟨rfl,rfl,rfl,by decide+kernel,rfl,by decide+kernel,by decide+kernel⟩
theorem lx (F:Fun K "names_in" "names_in" jO f fd)(B:Binds K fd ["e"] [])(Mf:mg "names_in"=some (.ref f)): ∀n:Nat,CG P w K mg base (1+n) "names_in" f fd ["e"] 1 (bv n)
 |0=>⟨AJ fun _ _=>rfl,B,F.kp,Mf⟩
 |n+1=>by
  have C_names_in:=lx F B Mf n
  refine⟨bK (g:=dk (bv n)) F p5 rfl rfl rfl fun cdv A outer s H E hr=>?_,B,F.kp,Mf⟩
  have hr:Room (1+n) _:=hr
  have hu:=bJ hr
  have hu6:=hr.units
  exact (ah (aI (au bg (aO hu6) (ar hu (ae 0) ai (fun _ _=>rfl)) aq (av _)) (aj (ax (bO (aV ag)))) aw)
   (ah (aI (au bg (aO hu6) (ar hu (ae 0) ai (fun _ _=>rfl)) aq (av _)) (aj (ax (bO (aV (af (ar hu (ae 0) ai (fun _ _=>rfl)) ag bf))))) aw)
   (aj (ax (aJ (aG (ps:=["e"]) C_names_in (hr.mono (by omega)) (af (ar hu (ae 0) ai (fun _ _=>rfl)) ag bf) (he:=bf) (hpl:=ao)) (aG (ps:=["e"]) C_names_in (hr.mono (by omega)) (af (ar hu (ae 0) ai (fun _ _=>rfl)) ag bf) (he:=bf) (hpl:=ao)))))))
theorem rh:FnScope ["word"] ["word"] (ak kM):=⟨rfl,rfl,rfl,by decide+kernel,rfl,by decide+kernel,by decide+kernel⟩
theorem rG {a_is_name:Addr}{d_is_name:FuncData}(C_is_name:CG P w K mg base 1 "is_name" a_is_name d_is_name ["word"] 1 lP)(F:Fun K "name_of" "name_of" kM f fd)(B:Binds K fd ["word"] [])(Mf:mg "name_of"=some (.ref f)):CG P w K mg base 2 "name_of" f fd ["word"] 1 cc:=by
 refine⟨bK (g:=jt) F rh rfl rfl rfl fun cdv A outer s H E hr=>?_,B,F.kp,Mf⟩
 have hu:=bJ hr
 have hu6:=hr.units
 exact (ah (aI (la (gv (aG (ps:=["word"]) C_is_name (hr.mono (by omega)) (af (ae 0) ag al) (he:=al) (hpl:=ao)))) (aj dG) aw)
  (aj (ax (ae 0))))
theorem oC:FnScope ["word"] ["word"] (ak iT):=⟨rfl,rfl,rfl,by decide+kernel,rfl,by decide+kernel,by decide+kernel⟩
theorem oT {a_is_number:Addr}{d_is_number:FuncData}(y_int:mg "int"=none)(C_is_number:CG P w K mg base 1 "is_number" a_is_number d_is_number ["word"] 1 pC)(F:Fun K "number_of" "number_of" iT f fd)(B:Binds K fd ["word"] [])(Mf:mg "number_of"=some (.ref f)):CG P w K mg base 2 "number_of" f fd ["word"] 1 fU:=by
 refine⟨bK (g:=gD) F oC rfl rfl rfl fun cdv A outer s H E hr=>?_,B,F.kp,Mf⟩
 have hu:=bJ hr
 have hu6:=hr.units
 exact (ah (aI (la (gv (aG (ps:=["word"]) C_is_number (hr.mono (by omega)) (af (ae 0) ag al) (he:=al) (hpl:=ao)))) (aj dG) aw)
  (aj (ax (yi y_int (af (ae 0) ag al) (he:=al) (hpl:=ao)))))
theorem sc_condition_of:FnScope ["words", "sign", "left", "right"] ["words"] (ak gm):=⟨rfl,rfl,rfl,by decide+kernel,rfl,by decide+kernel,by decide+kernel⟩
theorem lE {a_name_of:Addr}{d_name_of:FuncData}{a_expression:Addr}{d_expression:FuncData}{c_CONDITION_SIGNS:Addr}(m_CONDITION_SIGNS:mg "CONDITION_SIGNS"=some (.ref c_CONDITION_SIGNS))(q_CONDITION_SIGNS: ∀H,SqT K H c_CONDITION_SIGNS ((["<", "="]:List Str).map V.str))(C0_expression:CG P w K mg base 28 "expression" a_expression d_expression ["word"] 1 iH)(C_name_of:CG P w K mg base 2 "name_of" a_name_of d_name_of ["word"] 1 cc)(F:Fun K "condition_of" "condition_of" gm f fd)(B:Binds K fd ["words"] [])(Mf:mg "condition_of"=some (.ref f)):CG P w K mg base 29 "condition_of" f fd ["words"] 1 dm:=by
 refine⟨bK (g:=eW) F sc_condition_of rfl rfl rfl fun cdv A outer s H E hr=>?_,B,F.kp,Mf⟩
 have hu:=bJ hr
 have hu6:=hr.units
 exact (ah (aC (i:=1) sc_condition_of.nd rfl (Or.inl rfl) (ar hu (ae 0) ai (fun _ _=>rfl)))
  (ah (aI (dI (nR (au (gY hu) gj (ae 1) (g7 (zs:=["<", "="]) m_CONDITION_SIGNS q_CONDITION_SIGNS) (by with_unfolding_all rfl)) (kZ (au kc (iq hu6) (ar hu (ae 0) ai (fun _ _=>rfl)) aq (av _))))) (aj dG) aw)
  (ah (aC (i:=2) sc_condition_of.nd rfl (Or.inl rfl) (aG (ps:=["word"]) C0_expression (hr.mono (by omega)) (af (ar hu (ae 0) ai (fun _ _=>rfl)) ag bf) (he:=bf) (hpl:=ao)))
  (ah (aC (i:=3) sc_condition_of.nd rfl (Or.inl rfl) (aG (ps:=["word"]) C0_expression (hr.mono (by omega)) (af (ar hu (ae 0) ai (fun _ _=>rfl)) ag bf) (he:=bf) (hpl:=ao)))
  (aj (ax (bX (af aq (af (ae 1) (af (ae 2) (af (ae 3) (af (aG (ps:=["word"]) C_name_of (hr.mono (by omega)) (af (ar hu (ae 0) ai (fun _ _=>rfl)) ag bf) (he:=bf) (hpl:=ao)) (af (aG (ps:=["word"]) C_name_of (hr.mono (by omega)) (af (ar hu (ae 0) ai (fun _ _=>rfl)) ag bf) (he:=bf) (hpl:=ao)) ag cH) cH) al) al) al) ba))))))))
theorem sc_form_of:FnScope ["row", "words", "head", "many"] ["row"] (ak ji):=⟨rfl,rfl,rfl,by decide+kernel,rfl,by decide+kernel,by decide+kernel⟩
theorem o7:((["word", ".0"]:List Str)++(["row", "words", "head", "many"]:List Str).map (hid ["word", ".0"])).Nodup:=by decide+kernel
theorem rM {a_number_of:Addr}{d_number_of:FuncData}{a_name_of:Addr}{d_name_of:FuncData}{a_condition_of:Addr}{d_condition_of:FuncData}{a_expression:Addr}{d_expression:FuncData}{t_MOST_IN_TABLE:Tok}(y_len:mg "len"=none)(y_tuple:mg "tuple"=none)(c_MOST_IN_TABLE:mg "MOST_IN_TABLE"=some (.int 6 t_MOST_IN_TABLE))(C0_expression:CG P w K mg base 28 "expression" a_expression d_expression ["word"] 1 iH)(C_number_of:CG P w K mg base 2 "number_of" a_number_of d_number_of ["word"] 1 fU)(C_name_of:CG P w K mg base 2 "name_of" a_name_of d_name_of ["word"] 1 cc)(C_condition_of:CG P w K mg base 29 "condition_of" a_condition_of d_condition_of ["words"] 1 dm)(F:Fun K "form_of" "form_of" ji f fd)(B:Binds K fd ["row"] [])(Mf:mg "form_of"=some (.ref f)):CG P w K mg base 30 "form_of" f fd ["row"] 1 hW:=by
 refine⟨bK (g:=jA) F sc_form_of rfl rfl rfl fun cdv A outer s H E hr=>?_,B,F.kp,Mf⟩
 have hu:=bJ hr
 have hu6:=hr.units
 exact (ah (aC (i:=1) sc_form_of.nd rfl (Or.inl rfl) (qv (ae 0) (af aq ag ba)))
  (ah (aC (i:=2) sc_form_of.nd rfl (Or.inl rfl) (ar hu (ae 1) ai (fun _ _=>rfl)))
  (ah (aC (i:=3) sc_form_of.nd rfl (Or.inl rfl) (cr y_len (af (ae 1) ag al) (he:=al) (hpl:=ao)))
  (ah (aI (dI (eg (au bg (aO hu6) (ae 2) aq (av _)) (cQ (au bg (aO hu6) (ae 3) ai (av _))))) (aj (ax (bX (af aq (af (aG (ps:=["word"]) C_name_of (hr.mono (by omega)) (af (ar hu (ae 1) ai (fun _ _=>rfl)) ag bf) (he:=bf) (hpl:=ao)) (af (aG (ps:=["word"]) C_number_of (hr.mono (by omega)) (af (ar hu (ae 1) ai (fun _ _=>rfl)) ag bf) (he:=bf) (hpl:=ao)) ag cH) cH) ba)))) aw)
  (ah (aI (dI (eg (au bg (aO hu6) (ae 2) aq (av _)) (cQ (au bg (aO hu6) (ae 3) ai (av _))))) (aj (ax (bX (af aq (af (aG (ps:=["word"]) C_name_of (hr.mono (by omega)) (af (ar hu (ae 1) ai (fun _ _=>rfl)) ag bf) (he:=bf) (hpl:=ao)) ag cH) ba)))) aw)
  (ah (aI (dI (eg (au bg (aO hu6) (ae 2) aq (av _)) (cQ (au bg (aO hu6) (ae 3) ai (av _))))) (aj (ax (bX (af aq (af (aG (ps:=["word"]) C_name_of (hr.mono (by omega)) (af (ar hu (ae 1) ai (fun _ _=>rfl)) ag bf) (he:=bf) (hpl:=ao)) (af (aG (ps:=["word"]) C0_expression (hr.mono (by omega)) (af (ar hu (ae 1) ai (fun _ _=>rfl)) ag bf) (he:=bf) (hpl:=ao)) ag cH) cH) ba)))) aw)
  (ah (aI (dI (eg (au bg (aO hu6) (ae 2) aq (av _)) (cQ (au bg (aO hu6) (ae 3) ai (av _))))) (aj (ax (bX (af aq (af (aG (ps:=["word"]) C0_expression (hr.mono (by omega)) (af (ar hu (ae 1) ai (fun _ _=>rfl)) ag bf) (he:=bf) (hpl:=ao)) ag cH) ba)))) aw)
  (ah (aI (dI (eg (au bg (aO hu6) (ae 2) aq (av _)) (cQ (au bg (aO hu6) (ae 3) ai (av _))))) (aj (ax (bX (af aq (af (aG (ps:=["word"]) C_name_of (hr.mono (by omega)) (af (ar hu (ae 1) ai (fun _ _=>rfl)) ag bf) (he:=bf) (hpl:=ao)) ag cH) ba)))) aw)
  (ah (aI (dI (eg (au bg (aO hu6) (ae 2) aq (av _)) (cQ (au bg (aO hu6) (ae 3) ai (av _))))) (aj (ax (bX (af aq (af (aG (ps:=["word"]) C_name_of (hr.mono (by omega)) (af (ar hu (ae 1) ai (fun _ _=>rfl)) ag bf) (he:=bf) (hpl:=ao)) ag cH) ba)))) aw)
  (ah (aI (dI (eg (au bg (aO hu6) (ae 2) aq (av _)) (cQ (au bg (aO hu6) (ae 3) ai (av _))))) (aj (ax (aG (ps:=["words"]) C_condition_of (hr.mono (by omega)) (af (ae 1) ag al) (he:=al) (hpl:=ao)))) aw)
  (ah (aI (dI (eg (au bg (aO hu6) (ae 2) aq (av _)) (cQ (we yV vS yV vS ai (ae 3) (aJ ai (dA (w:=.int 6) (v:=.int 6) rfl c_MOST_IN_TABLE ⟨_,rfl⟩ (fun o=>rv_int.mpr rfl))))))) (aj (ax (bX (af aq (af (aG (ps:=["word"]) C0_expression (hr.mono (by omega)) (af (ar hu (ae 1) ai (fun _ _=>rfl)) ag bf) (he:=bf) (hpl:=ao)) (af (mS y_tuple (af (bO (iz rfl (ls:=["word", ".0"]) (.of (ak ji)) (db (gw (ae 1) (bH ai) eS)) (fun _ _ _ _=>(aZ (i:=0) o7 rfl (Or.inl rfl) (.inr rfl))) (cn 2 0 (by decide)) (fun _ _ _ _=>iy) (fun _ _ _ _=>(aG (ps:=["word"]) C_name_of (hr.mono (by omega)) (af (ae 0) ag al) (he:=al) (hpl:=ao))) trivial)) ag ue) (he:=ue) (hpl:=ao)) ag cH) cH) ba)))) aw)
  (ah (aI (dI (eg (au bg (aO hu6) (ae 2) aq (av _)) (cQ (au bg (aO hu6) (ae 3) ai (av _))))) (aj (ax (bX (af aq ag ba)))) aw)
  (aj dG)))))))))))))
theorem mf:FnScope ["form"] ["form"] (ak gR):=⟨rfl,rfl,rfl,by decide+kernel,rfl,by decide+kernel,by decide+kernel⟩
theorem mJ {a_names_in:Addr}{d_names_in:FuncData}(C_names_in:CG P w K mg base 63 "names_in" a_names_in d_names_in ["e"] 1 (bv 62))(F:Fun K "boxes_named" "boxes_named" gR f fd)(B:Binds K fd ["form"] [])(Mf:mg "boxes_named"=some (.ref f)):CG P w K mg base 64 "boxes_named" f fd ["form"] 1 bp:=by
 refine⟨bK (g:=aD) F mf rfl rfl rfl fun cdv A outer s H E hr=>?_,B,F.kp,Mf⟩
 have hu:=bJ hr
 have hu6:=hr.units
 exact (ah (aI (au bg (aO hu6) (ar hu (ae 0) ai (fun _ _=>rfl)) aq (av _)) (aj (ax (bO (rP (bO (aV (af (ar hu (ae 0) ai (fun _ _=>rfl)) ag bf))) (aG (ps:=["e"]) C_names_in (hr.mono (by omega)) (af (ar hu (ae 0) ai (fun _ _=>rfl)) ag bf) (he:=bf) (hpl:=ao)))))) aw)
  (ah (aI (au bg (aO hu6) (ar hu (ae 0) ai (fun _ _=>rfl)) aq (av _)) (aj (ax (aG (ps:=["e"]) C_names_in (hr.mono (by omega)) (af (ar hu (ae 0) ai (fun _ _=>rfl)) ag bf) (he:=bf) (hpl:=ao)))) aw)
  (ah (aI (au bg (aO hu6) (ar hu (ae 0) ai (fun _ _=>rfl)) aq (av _)) (aj (ax (bO (aV (af (ar hu (ae 0) ai (fun _ _=>rfl)) ag bf))))) aw)
  (ah (aI (au bg (aO hu6) (ar hu (ae 0) ai (fun _ _=>rfl)) aq (av _)) (aj (ax (aJ (aG (ps:=["e"]) C_names_in (hr.mono (by omega)) (af (ar hu (ae 0) ai (fun _ _=>rfl)) ag bf) (he:=bf) (hpl:=ao)) (aG (ps:=["e"]) C_names_in (hr.mono (by omega)) (af (ar hu (ae 0) ai (fun _ _=>rfl)) ag bf) (he:=bf) (hpl:=ao))))) aw)
  (ah (aI (au bg (aO hu6) (ar hu (ae 0) ai (fun _ _=>rfl)) aq (av _)) (aj (ax (aG (ps:=["e"]) C_names_in (hr.mono (by omega)) (af (ar hu (ae 0) ai (fun _ _=>rfl)) ag bf) (he:=bf) (hpl:=ao)))) aw)
  (aj (ax (bO (aV ag)))))))))
theorem p4:FnScope ["name", "block_names"] ["name", "block_names"] (ak jN):=⟨rfl,rfl,rfl,by decide+kernel,rfl,by decide+kernel,by decide+kernel⟩
theorem qi (F:Fun K "place_of" "place_of" jN f fd)(B:Binds K fd ["name", "block_names"] [])(Mf:mg "place_of"=some (.ref f)):CG P w K mg base 1 "place_of" f fd ["name", "block_names"] 2 dl:=by
 refine⟨bK (g:=iC) F p4 rfl rfl rfl fun cdv A outer s H E hr=>?_,B,F.kp,Mf⟩
 have hu:=bJ hr
 have hu6:=hr.units
 exact (ah (aI (au (gY hu) gj (ae 0) (ae 1) (by with_unfolding_all rfl)) (aj dG) aw)
  (aj (ax (yh (ae 1) (af (ae 0) ag al)))))
theorem kL:FnScope ["end", "block_names"] ["end", "block_names"] (ak dM):=⟨rfl,rfl,rfl,by decide+kernel,rfl,by decide+kernel,by decide+kernel⟩
theorem jV:((["name", ".0"]:List Str)++(["end", "block_names"]:List Str).map (hid ["name", ".0"])).Nodup:=by decide+kernel
theorem kX {a_place_of:Addr}{d_place_of:FuncData}(y_tuple:mg "tuple"=none)(C_place_of:CG P w K mg base 1 "place_of" a_place_of d_place_of ["name", "block_names"] 2 dl)(F:Fun K "end_by_places" "end_by_places" dM f fd)(B:Binds K fd ["end", "block_names"] [])(Mf:mg "end_by_places"=some (.ref f)):CG P w K mg base 2 "end_by_places" f fd ["end", "block_names"] 2 bW:=by
 refine⟨bK (g:=bz) F kL rfl rfl rfl fun cdv A outer s H E hr=>?_,B,F.kp,Mf⟩
 have hu:=bJ hr
 have hu6:=hr.units
 exact (ah (aI (au bg (aO hu6) (ar hu (ae 0) ai (fun _ _=>rfl)) aq (av _)) (aj (ax (bX (af aq (af (aG (ps:=["name", "block_names"]) C_place_of (hr.mono (by omega)) (af (ar hu (ae 0) ai (fun _ _=>rfl)) (af (ae 1) ag al) bf) (he:=bf) (hpl:=(az al ao))) ag cH) ba)))) aw)
  (ah (aI (au bg (aO hu6) (ar hu (ae 0) ai (fun _ _=>rfl)) aq (av _)) (aj (ax (aJ (gw (ae 0) eS (bH ai)) (bX (af (aG (ps:=["name", "block_names"]) C_place_of (hr.mono (by omega)) (af (ar hu (ae 0) ai (fun _ _=>rfl)) (af (ae 1) ag al) bf) (he:=bf) (hpl:=(az al ao))) (af (aG (ps:=["name", "block_names"]) C_place_of (hr.mono (by omega)) (af (ar hu (ae 0) ai (fun _ _=>rfl)) (af (ae 1) ag al) bf) (he:=bf) (hpl:=(az al ao))) ag cH) cH))))) aw)
  (ah (aI (au bg (aO hu6) (ar hu (ae 0) ai (fun _ _=>rfl)) aq (av _)) (aj (ax (bX (af aq (af (ar hu (ae 0) ai (fun _ _=>rfl)) (af (mS y_tuple (af (bO (iz rfl (ls:=["name", ".0"]) (.of (ak dM)) (wk (ar hu (ae 0) ai (fun _ _=>rfl))) (fun _ _ _ _=>(aZ (i:=0) jV rfl (Or.inl rfl) (.inr rfl))) (cn 2 0 (by decide)) (fun _ _ _ _=>iy) (fun _ _ _ _=>(aG (ps:=["name", "block_names"]) C_place_of (hr.mono (by omega)) (af (ae 0) (af (ae 3) ag al) al) (he:=al) (hpl:=(az al ao)))) trivial)) ag ue) (he:=ue) (hpl:=ao)) ag cH) bf) ba)))) aw)
  (aj (ax (ae 0))))))
theorem jG:FnScope ["self"] ["self"] (ak dX):=⟨rfl,rfl,rfl,by decide+kernel,rfl,by decide+kernel,by decide+kernel⟩
theorem jJ {c_Reading:Addr}(n_Reading:nsIn K mainGlobals "Reading"=some (some (.ref c_Reading)))(cl_Reading:Cls K c_Reading)(na_Reading_block_names:NoAttr K c_Reading "block_names")(na_Reading_boxes:NoAttr K c_Reading "boxes")(na_Reading_ended_blocks:NoAttr K c_Reading "ended_blocks")(na_Reading_statements:NoAttr K c_Reading "statements")(F:Fun K "__init__" "Reading.__init__" dX f fd)(B:Binds K fd ["self"] [])(Me:Meth K c_Reading "__init__" f):CGm P w K mg base 1 c_Reading "__init__" f fd ["self"] 1 cz:=by
 refine⟨bK (g:=cT) F jG rfl rfl rfl fun cdv A outer s H E hr=>?_,B,Me⟩
 have hu:=bJ hr
 have hu6:=hr.units
 exact (ah (mQ n_Reading cl_Reading na_Reading_boxes (ae 0) (fm (aV ag)))
  (ah (mQ n_Reading cl_Reading na_Reading_block_names (ae 0) (fm (aV ag)))
  (ah (mQ n_Reading cl_Reading na_Reading_ended_blocks (ae 0) (fm (aV ag)))
  (aj (mQ n_Reading cl_Reading na_Reading_statements (ae 0) (fm (aV ag)))))))
theorem jF:FnScope ["self"] ["self"] (ak dW):=⟨rfl,rfl,rfl,by decide+kernel,rfl,by decide+kernel,by decide+kernel⟩
theorem jI {c_Reading:Addr}(y_len:mg "len"=none)(n_Reading:nsIn K mainGlobals "Reading"=some (some (.ref c_Reading)))(cl_Reading:Cls K c_Reading)(na_Reading_block_names:NoAttr K c_Reading "block_names")(na_Reading_ended_blocks:NoAttr K c_Reading "ended_blocks")(F:Fun K "in_block" "Reading.in_block" dW f fd)(B:Binds K fd ["self"] [])(Me:Meth K c_Reading "in_block" f):CGm P w K mg base 1 c_Reading "in_block" f fd ["self"] 1 bw:=by
 refine⟨bK (g:=cS) F jF rfl rfl rfl fun cdv A outer s H E hr=>?_,B,Me⟩
 have hu:=bJ hr
 have hu6:=hr.units
 exact (aj (ax (wq mt jT (cr y_len (af (c8 n_Reading cl_Reading na_Reading_block_names (ae 0)) ag iO) (he:=iO) (hpl:=ao)) (cr y_len (af (c8 n_Reading cl_Reading na_Reading_ended_blocks (ae 0)) ag iO) (he:=iO) (hpl:=ao)) (av _))))
theorem iS:FnScope ["self"] ["self"] (ak cI):=⟨rfl,rfl,rfl,by decide+kernel,rfl,by decide+kernel,by decide+kernel⟩
theorem eR:((["name", "first", ".0"]:List Str)++(["self"]:List Str).map (hid ["name", "first", ".0"])).Nodup:=by decide+kernel
theorem i6 {c_Reading:Addr}(n_Reading:nsIn K mainGlobals "Reading"=some (some (.ref c_Reading)))(cl_Reading:Cls K c_Reading)(na_Reading_boxes:NoAttr K c_Reading "boxes")(F:Fun K "box_names" "Reading.box_names" cI f fd)(B:Binds K fd ["self"] [])(Me:Meth K c_Reading "box_names" f):CGm P w K mg base 1 c_Reading "box_names" f fd ["self"] 1 bD:=by
 refine⟨bK (g:=cJ) F iS rfl rfl rfl fun cdv A outer s H E hr=>?_,B,Me⟩
 have hu:=bJ hr
 have hu6:=hr.units
 exact (aj (ax (bO (iz rfl (ls:=["name", "first", ".0"]) (.of (ak cI)) (db (c8 n_Reading cl_Reading na_Reading_boxes (ae 0))) (fun _ _ _ _=>(mn rfl (dh (aZ (i:=0) eR rfl (Or.inl rfl) (.inr rfl)) (dh (aZ (i:=1) eR rfl (Or.inl rfl) (.inr rfl)) ka)))) (lT 3 [0,1] (by decide)) (fun _ _ _ _=>iy) (fun _ _ _ _=>(ae 0)) trivial))))
theorem ij:FnScope ["self", "head"] ["self", "head"] (ak cX):=⟨rfl,rfl,rfl,by decide+kernel,rfl,by decide+kernel,by decide+kernel⟩
theorem iu {a_Reading_in_block:Addr}{d_Reading_in_block:FuncData}{c_Reading:Addr}(y_len:mg "len"=none)(n_Reading:nsIn K mainGlobals "Reading"=some (some (.ref c_Reading)))(cl_Reading:Cls K c_Reading)(na_Reading_block_names:NoAttr K c_Reading "block_names")(C_Reading_in_block:CGm P w K mg base 1 c_Reading "in_block" a_Reading_in_block d_Reading_in_block ["self"] 1 bw)(F:Fun K "check_place" "Reading.check_place" cX f fd)(B:Binds K fd ["self", "head"] [])(Me:Meth K c_Reading "check_place" f):CGm P w K mg base 2 c_Reading "check_place" f fd ["self", "head"] 2 aM:=by
 refine⟨bK (g:=aY) F ij rfl rfl rfl fun cdv A outer s H E hr=>?_,B,Me⟩
 have hu:=bJ hr
 have hu6:=hr.units
 exact (aj (aI (au bg (aO hu6) (ae 1) aq (av _)) (aj (aI (au mt jT (cr y_len (af (c8 n_Reading cl_Reading na_Reading_block_names (ae 0)) ag iO) (he:=iO) (hpl:=ao)) ai (av _)) (aj dG) aw)) (aj (aI (au bg (aO hu6) (ae 1) aq (av _)) (aj (aI (gv (jq (ps:=["self"]) n_Reading cl_Reading C_Reading_in_block (hr.mono (by omega)) (ae 0))) (aj dG) aw)) (aj (aI (la (gv (jq (ps:=["self"]) n_Reading cl_Reading C_Reading_in_block (hr.mono (by omega)) (ae 0)))) (aj dG) aw))))))
theorem ii:FnScope ["self", "form"] ["self", "form"] (ak cW):=⟨rfl,rfl,rfl,by decide+kernel,rfl,by decide+kernel,by decide+kernel⟩
theorem ir {a_Reading_box_names:Addr}{d_Reading_box_names:FuncData}{c_Reading:Addr}(n_Reading:nsIn K mainGlobals "Reading"=some (some (.ref c_Reading)))(cl_Reading:Cls K c_Reading)(na_Reading_block_names:NoAttr K c_Reading "block_names")(C_Reading_box_names:CGm P w K mg base 1 c_Reading "box_names" a_Reading_box_names d_Reading_box_names ["self"] 1 bD)(F:Fun K "check_twice" "Reading.check_twice" cW f fd)(B:Binds K fd ["self", "form"] [])(Me:Meth K c_Reading "check_twice" f):CGm P w K mg base 2 c_Reading "check_twice" f fd ["self", "form"] 2 aK:=by
 refine⟨bK (g:=aX) F ii rfl rfl rfl fun cdv A outer s H E hr=>?_,B,Me⟩
 have hu:=bJ hr
 have hu6:=hr.units
 exact (ah (aI (dI (eg (au bg (aO hu6) (ar hu (ae 1) ai (fun _ _=>rfl)) aq (av _)) (cQ (au (lu hu) i4 (ar hu (ae 1) ai (fun _ _=>rfl)) (jq (ps:=["self"]) n_Reading cl_Reading C_Reading_box_names (hr.mono (by omega)) (ae 0)) (by with_unfolding_all rfl))))) (aj dG) aw)
  (aj (aI (dI (eg (au bg (aO hu6) (ar hu (ae 1) ai (fun _ _=>rfl)) aq (av _)) (cQ (au (lu hu) i4 (ar hu (ae 1) ai (fun _ _=>rfl)) (c8 n_Reading cl_Reading na_Reading_block_names (ae 0)) (by with_unfolding_all rfl))))) (aj dG) aw)))
theorem iP:FnScope ["self", "head"] ["self", "head"] (ak dc):=⟨rfl,rfl,rfl,by decide+kernel,rfl,by decide+kernel,by decide+kernel⟩
theorem iQ {c_Reading c_STATEMENTS:Addr}{t_MOST_BLOCKS t_MOST_BOXES t_MOST_STATEMENTS:Tok}(y_len:mg "len"=none)(c_MOST_BLOCKS:mg "MOST_BLOCKS"=some (.int 10 t_MOST_BLOCKS))(c_MOST_BOXES:mg "MOST_BOXES"=some (.int 4 t_MOST_BOXES))(c_MOST_STATEMENTS:mg "MOST_STATEMENTS"=some (.int 8 t_MOST_STATEMENTS))(m_STATEMENTS:mg "STATEMENTS"=some (.ref c_STATEMENTS))(q_STATEMENTS: ∀H,SqT K H c_STATEMENTS ((["put", "say", "ask"]:List Str).map V.str))(n_Reading:nsIn K mainGlobals "Reading"=some (some (.ref c_Reading)))(cl_Reading:Cls K c_Reading)(na_Reading_block_names:NoAttr K c_Reading "block_names")(na_Reading_boxes:NoAttr K c_Reading "boxes")(na_Reading_statements:NoAttr K c_Reading "statements")(F:Fun K "check_room" "Reading.check_room" dc f fd)(B:Binds K fd ["self", "head"] [])(Me:Meth K c_Reading "check_room" f):CGm P w K mg base 1 c_Reading "check_room" f fd ["self", "head"] 2 aQ:=by
 refine⟨bK (g:=be) F iP rfl rfl rfl fun cdv A outer s H E hr=>?_,B,Me⟩
 have hu:=bJ hr
 have hu6:=hr.units
 exact (ah (aI (dI (eg (au bg (aO hu6) (ae 1) aq (av _)) (cQ (au bg (aO hu6) (cr y_len (af (c8 n_Reading cl_Reading na_Reading_boxes (ae 0)) ag iO) (he:=iO) (hpl:=ao)) (dA (w:=.int 4) (v:=.int 4) rfl c_MOST_BOXES ⟨_,rfl⟩ (fun o=>rv_int.mpr rfl)) (av _))))) (aj dG) aw)
  (ah (aI (dI (eg (au bg (aO hu6) (ae 1) aq (av _)) (cQ (au bg (aO hu6) (cr y_len (af (c8 n_Reading cl_Reading na_Reading_block_names (ae 0)) ag iO) (he:=iO) (hpl:=ao)) (dA (w:=.int 10) (v:=.int 10) rfl c_MOST_BLOCKS ⟨_,rfl⟩ (fun o=>rv_int.mpr rfl)) (av _))))) (aj dG) aw)
  (aj (aI (dI (eg (au (lu hu) i4 (ae 1) (g7 (zs:=["put", "say", "ask"]) m_STATEMENTS q_STATEMENTS) (by with_unfolding_all rfl)) (cQ (au bg (aO hu6) (cr y_len (af (c8 n_Reading cl_Reading na_Reading_statements (ae 0)) ag iO) (he:=iO) (hpl:=ao)) (dA (w:=.int 8) (v:=.int 8) rfl c_MOST_STATEMENTS ⟨_,rfl⟩ (fun o=>rv_int.mpr rfl)) (av _))))) (aj dG) aw))))
theorem sc_Reading_check_boxes:FnScope ["self", "form", "known", "name"] ["self", "form"] (ak cY):=⟨rfl,rfl,rfl,by decide+kernel,rfl,by decide+kernel,by decide+kernel⟩
theorem iw {a_Reading_box_names:Addr}{d_Reading_box_names:FuncData}{a_boxes_named:Addr}{d_boxes_named:FuncData}{c_Reading:Addr}(n_Reading:nsIn K mainGlobals "Reading"=some (some (.ref c_Reading)))(cl_Reading:Cls K c_Reading)(C_Reading_box_names:CGm P w K mg base 1 c_Reading "box_names" a_Reading_box_names d_Reading_box_names ["self"] 1 bD)(C_boxes_named:CG P w K mg base 64 "boxes_named" a_boxes_named d_boxes_named ["form"] 1 bp)(F:Fun K "check_boxes" "Reading.check_boxes" cY f fd)(B:Binds K fd ["self", "form"] [])(Me:Meth K c_Reading "check_boxes" f):CGm P w K mg base 65 c_Reading "check_boxes" f fd ["self", "form"] 2 bE:=by
 refine⟨bK (g:=cA) F sc_Reading_check_boxes rfl rfl rfl fun cdv A outer s H E hr=>?_,B,Me⟩
 have hu:=bJ hr
 have hu6:=hr.units
 exact (ah (aC (i:=2) sc_Reading_check_boxes.nd rfl (Or.inl rfl) (jq (ps:=["self"]) n_Reading cl_Reading C_Reading_box_names (hr.mono (by omega)) (ae 0)))
  (aj (dF PassesOwn.never rfl (db (aG (ps:=["form"]) C_boxes_named (hr.mono (by omega)) (af (ae 1) ag al) (he:=al) (hpl:=ao))) (aZ (i:=3) sc_Reading_check_boxes.nd rfl (Or.inl rfl)) (cn 4 3 (by decide)) (aj (aI (au (gY hu) gj (ae 3) (ae 2) (by with_unfolding_all rfl)) (aj dG) aw)))))
theorem jE:FnScope ["self", "form"] ["self", "form"] (ak dU):=⟨rfl,rfl,rfl,by decide+kernel,rfl,by decide+kernel,by decide+kernel⟩
theorem jH {c_Reading c_STATEMENTS:Addr}(m_STATEMENTS:mg "STATEMENTS"=some (.ref c_STATEMENTS))(q_STATEMENTS: ∀H,SqT K H c_STATEMENTS ((["put", "say", "ask"]:List Str).map V.str))(n_Reading:nsIn K mainGlobals "Reading"=some (some (.ref c_Reading)))(cl_Reading:Cls K c_Reading)(na_Reading_block_names:NoAttr K c_Reading "block_names")(na_Reading_boxes:NoAttr K c_Reading "boxes")(na_Reading_ended_blocks:NoAttr K c_Reading "ended_blocks")(na_Reading_statements:NoAttr K c_Reading "statements")(F:Fun K "put_down" "Reading.put_down" dU f fd)(B:Binds K fd ["self", "form"] [])(Me:Meth K c_Reading "put_down" f):CGm P w K mg base 1 c_Reading "put_down" f fd ["self", "form"] 2 aP:=by
 refine⟨bK (g:=aU) F jE rfl rfl rfl fun cdv A outer s H E hr=>?_,B,Me⟩
 have hu:=bJ hr
 have hu6:=hr.units
 exact (aj (aI (au bg (aO hu6) (ar hu (ae 1) ai (fun _ _=>rfl)) aq (av _)) (aj (bS (cb (c8 n_Reading cl_Reading na_Reading_boxes (ae 0)) (af (bX (af (ar hu (ae 1) ai (fun _ _=>rfl)) (af (ar hu (ae 1) ai (fun _ _=>rfl)) ag bf) bf)) ag xE)))) (aj (aI (au bg (aO hu6) (ar hu (ae 1) ai (fun _ _=>rfl)) aq (av _)) (ah (bS (cb (c8 n_Reading cl_Reading na_Reading_block_names (ae 0)) (af (ar hu (ae 1) ai (fun _ _=>rfl)) ag bf)))
  (aj (mQ n_Reading cl_Reading na_Reading_statements (ae 0) (fm (aV ag))))) (aj (aI (au (lu hu) i4 (ar hu (ae 1) ai (fun _ _=>rfl)) (g7 (zs:=["put", "say", "ask"]) m_STATEMENTS q_STATEMENTS) (by with_unfolding_all rfl)) (aj (bS (cb (c8 n_Reading cl_Reading na_Reading_statements (ae 0)) (af (ae 1) ag al)))) (aj (bS (cb (c8 n_Reading cl_Reading na_Reading_ended_blocks (ae 0)) (af (bX (af (ar hu (c8 n_Reading cl_Reading na_Reading_block_names (ae 0)) (iA ai) (fun _ _=>rfl)) (af (jY (c8 n_Reading cl_Reading na_Reading_statements (ae 0))) (af (ae 1) ag al) iO) bf)) ag xE))))))))))
theorem lD:FnScope ["self", "form"] ["self", "form"] (ak gn):=⟨rfl,rfl,rfl,by decide+kernel,rfl,by decide+kernel,by decide+kernel⟩
theorem lF {a_Reading_check_place:Addr}{d_Reading_check_place:FuncData}{a_Reading_check_twice:Addr}{d_Reading_check_twice:FuncData}{a_Reading_check_room:Addr}{d_Reading_check_room:FuncData}{a_Reading_check_boxes:Addr}{d_Reading_check_boxes:FuncData}{a_Reading_put_down:Addr}{d_Reading_put_down:FuncData}{c_Reading:Addr}(n_Reading:nsIn K mainGlobals "Reading"=some (some (.ref c_Reading)))(cl_Reading:Cls K c_Reading)(C_Reading_check_place:CGm P w K mg base 2 c_Reading "check_place" a_Reading_check_place d_Reading_check_place ["self", "head"] 2 aM)(C_Reading_check_twice:CGm P w K mg base 2 c_Reading "check_twice" a_Reading_check_twice d_Reading_check_twice ["self", "form"] 2 aK)(C_Reading_check_room:CGm P w K mg base 1 c_Reading "check_room" a_Reading_check_room d_Reading_check_room ["self", "head"] 2 aQ)(C_Reading_check_boxes:CGm P w K mg base 65 c_Reading "check_boxes" a_Reading_check_boxes d_Reading_check_boxes ["self", "form"] 2 bE)(C_Reading_put_down:CGm P w K mg base 1 c_Reading "put_down" a_Reading_put_down d_Reading_put_down ["self", "form"] 2 aP)(F:Fun K "take" "Reading.take" gn f fd)(B:Binds K fd ["self", "form"] [])(Me:Meth K c_Reading "take" f):CGm P w K mg base 66 c_Reading "take" f fd ["self", "form"] 2 dt:=by
 refine⟨bK (g:=eX) F lD rfl rfl rfl fun cdv A outer s H E hr=>?_,B,Me⟩
 have hu:=bJ hr
 have hu6:=hr.units
 exact (ah (bS (lf (ps:=["self", "head"]) n_Reading cl_Reading C_Reading_check_place (hr.mono (by omega)) (ae 0) (af (ar hu (ae 1) ai (fun _ _=>rfl)) ag bf)))
  (ah (bS (lf (ps:=["self", "form"]) n_Reading cl_Reading C_Reading_check_twice (hr.mono (by omega)) (ae 0) (af (ae 1) ag al)))
  (ah (bS (lf (ps:=["self", "head"]) n_Reading cl_Reading C_Reading_check_room (hr.mono (by omega)) (ae 0) (af (ar hu (ae 1) ai (fun _ _=>rfl)) ag bf)))
  (ah (bS (lf (ps:=["self", "form"]) n_Reading cl_Reading C_Reading_check_boxes (hr.mono (by omega)) (ae 0) (af (ae 1) ag al)))
  (aj (bS (lf (ps:=["self", "form"]) n_Reading cl_Reading C_Reading_put_down (hr.mono (by omega)) (ae 0) (af (ae 1) ag al))))))))
theorem sc_Reading_told_program:FnScope ["self", "blocks", "name", "statements", "end"] ["self"] (ak cO):=⟨rfl,rfl,rfl,by decide+kernel,rfl,by decide+kernel,by decide+kernel⟩
theorem gZ {a_Reading_in_block:Addr}{d_Reading_in_block:FuncData}{a_end_by_places:Addr}{d_end_by_places:FuncData}{c_Reading:Addr}(y_len:mg "len"=none)(n_Reading:nsIn K mainGlobals "Reading"=some (some (.ref c_Reading)))(cl_Reading:Cls K c_Reading)(na_Reading_block_names:NoAttr K c_Reading "block_names")(na_Reading_boxes:NoAttr K c_Reading "boxes")(na_Reading_ended_blocks:NoAttr K c_Reading "ended_blocks")(C_Reading_in_block:CGm P w K mg base 1 c_Reading "in_block" a_Reading_in_block d_Reading_in_block ["self"] 1 bw)(C_end_by_places:CG P w K mg base 2 "end_by_places" a_end_by_places d_end_by_places ["end", "block_names"] 2 bW)(F:Fun K "told_program" "Reading.told_program" cO f fd)(B:Binds K fd ["self"] [])(Me:Meth K c_Reading "told_program" f):CGm P w K mg base 3 c_Reading "told_program" f fd ["self"] 1 bU:=by
 refine⟨bK (g:=cx) F sc_Reading_told_program rfl rfl rfl fun cdv A outer s H E hr=>?_,B,Me⟩
 have hu:=bJ hr
 have hu6:=hr.units
 exact (ah (aI (dI (nR (gv (jq (ps:=["self"]) n_Reading cl_Reading C_Reading_in_block (hr.mono (by omega)) (ae 0))) (kZ (au bg (aO hu6) (cr y_len (af (c8 n_Reading cl_Reading na_Reading_block_names (ae 0)) ag iO) (he:=iO) (hpl:=ao)) ai (av _))))) (aj dG) aw)
  (ah (aC (i:=1) sc_Reading_told_program.nd rfl (Or.inl rfl) (fm (aV ag)))
  (ah (dF PassesOwn.never rfl (db (c8 n_Reading cl_Reading na_Reading_ended_blocks (ae 0))) (mn rfl (dh (aZ (i:=2) sc_Reading_told_program.nd rfl (Or.inl rfl)) (dh (aZ (i:=3) sc_Reading_told_program.nd rfl (Or.inl rfl)) (dh (aZ (i:=4) sc_Reading_told_program.nd rfl (Or.inl rfl)) ka)))) (lT 5 [2,3,4] (by decide)) (aj (bS (cb (ae 1) (af (bX (af (ae 2) (af (ae 3) (af (aG (ps:=["end", "block_names"]) C_end_by_places (hr.mono (by omega)) (af (ae 4) (af (c8 n_Reading cl_Reading na_Reading_block_names (ae 0)) ag iO) al) (he:=al) (hpl:=(az iO ao))) ag cH) al) al)) ag xE)))))
  (aj (ax (bX (af (jY (c8 n_Reading cl_Reading na_Reading_boxes (ae 0))) (af (jY (ae 1)) ag al) iO)))))))
theorem sc_read:FnScope ["text", "rows", "reading", "row"] ["text"] (ak rk):=⟨rfl,rfl,rfl,by decide+kernel,rfl,by decide+kernel,by decide+kernel⟩
theorem xW {a_Reading___init__:Addr}{d_Reading___init__:FuncData}{a_Reading_take:Addr}{d_Reading_take:FuncData}{a_form_of:Addr}{d_form_of:FuncData}{a_Reading_told_program:Addr}{d_Reading_told_program:FuncData}{c_Reading:Addr}{t_MOST_ROWS:Tok}(y_len:mg "len"=none)(c_MOST_ROWS:mg "MOST_ROWS"=some (.int 120 t_MOST_ROWS))(n_Reading:nsIn K mainGlobals "Reading"=some (some (.ref c_Reading)))(cl_Reading:Cls K c_Reading)(m_Reading:mg "Reading"=some (.ref c_Reading))(M_Reading:Mk K c_Reading a_Reading___init__)(C_Reading___init__:CGm P w K mg base 1 c_Reading "__init__" a_Reading___init__ d_Reading___init__ ["self"] 1 cz)(C_Reading_take:CGm P w K mg base 66 c_Reading "take" a_Reading_take d_Reading_take ["self", "form"] 2 dt)(C_form_of:CG P w K mg base 30 "form_of" a_form_of d_form_of ["row"] 1 hW)(C_Reading_told_program:CGm P w K mg base 3 c_Reading "told_program" a_Reading_told_program d_Reading_told_program ["self"] 1 bU)(F:Fun K "read" "read" rk f fd)(B:Binds K fd ["text"] [])(Mf:mg "read"=some (.ref f)):CG P w K mg base 67 "read" f fd ["text"] 1 lm:=by
 refine⟨bK (g:=pA) F sc_read rfl rfl rfl fun cdv A outer s H E hr=>?_,B,F.kp,Mf⟩
 have hu:=bJ hr
 have hu6:=hr.units
 exact (ah (aC (i:=1) sc_read.nd rfl (Or.inl rfl) (qv (ae 0) (af aq ag ba)))
  (ah (aI (au mt jT (cr y_len (af (ae 1) ag al) (he:=al) (hpl:=ao)) (dA (w:=.int 120) (v:=.int 120) rfl c_MOST_ROWS ⟨_,rfl⟩ (fun o=>rv_int.mpr rfl)) (av _)) (aj dG) aw)
  (ah (aC (i:=2) sc_read.nd rfl (Or.inl rfl) (wo (ps:=["self"]) M_Reading n_Reading C_Reading___init__.ok C_Reading___init__.bi (hr.mono (by omega)) m_Reading))
  (ah (dF PassesOwn.never rfl (db (ae 1)) (aZ (i:=3) sc_read.nd rfl (Or.inl rfl)) (cn 4 3 (by decide)) (aj (bS (lf (ps:=["self", "form"]) n_Reading cl_Reading C_Reading_take (hr.mono (by omega)) (ae 2) (af (aG (ps:=["row"]) C_form_of (hr.mono (by omega)) (af (ae 3) ag al) (he:=al) (hpl:=ao)) ag cH)))))
  (aj (ax (jq (ps:=["self"]) n_Reading cl_Reading C_Reading_told_program (hr.mono (by omega)) (ae 2))))))))
theorem rj:FnScope ["to", "behind"] ["to", "behind"] (ak kP):=⟨rfl,rfl,rfl,by decide+kernel,rfl,by decide+kernel,by decide+kernel⟩
theorem rL (F:Fun K "go_rows" "go_rows" kP f fd)(B:Binds K fd ["to", "behind"] [])(Mf:mg "go_rows"=some (.ref f)):CG P w K mg base 1 "go_rows" f fd ["to", "behind"] 2 eI:=by
 refine⟨bK (g:=jy) F rj rfl rfl rfl fun cdv A outer s H E hr=>?_,B,F.kp,Mf⟩
 have hu:=bJ hr
 have hu6:=hr.units
 exact (aj (ax (mV (au bg (aO hu6) (ae 0) (ae 1) (av _)) (bO (aV ag)) (bO (aV (af (bX (af aq (af (ae 0) ag al) ba)) ag xE))))))
theorem sc_if_rows:FnScope ["end", "behind", "condition", "first", "second"] ["end", "behind"] (ak kO):=⟨rfl,rfl,rfl,by decide+kernel,rfl,by decide+kernel,by decide+kernel⟩
theorem rK {a_go_rows:Addr}{d_go_rows:FuncData}(C_go_rows:CG P w K mg base 1 "go_rows" a_go_rows d_go_rows ["to", "behind"] 2 eI)(F:Fun K "if_rows" "if_rows" kO f fd)(B:Binds K fd ["end", "behind"] [])(Mf:mg "if_rows"=some (.ref f)):CG P w K mg base 2 "if_rows" f fd ["end", "behind"] 2 hV:=by
 refine⟨bK (g:=jx) F sc_if_rows rfl rfl rfl fun cdv A outer s H E hr=>?_,B,F.kp,Mf⟩
 have hu:=bJ hr
 have hu6:=hr.units
 exact (ah (aC (i:=2) sc_if_rows.nd rfl (Or.inl rfl) (gw (ae 0) (bH ai) (bH ai)))
  (ah (aC (i:=3) sc_if_rows.nd rfl (Or.inl rfl) (ar hu (ae 0) ai (fun _ _=>rfl)))
  (ah (aC (i:=4) sc_if_rows.nd rfl (Or.inl rfl) (ar hu (ae 0) ai (fun _ _=>rfl)))
  (ah (aI (au bg (aO hu6) (ae 3) (ae 4) (av _)) (aj (ax (aG (ps:=["to", "behind"]) C_go_rows (hr.mono (by omega)) (af (ae 3) (af (ae 1) ag al) al) (he:=al) (hpl:=(az al ao))))) aw)
  (ah (aI (au bg (aO hu6) (ae 3) (ae 1) (av _)) (aj (ax (bO (aV (af (aJ (aJ (bX (af aq ag ba)) (ae 2)) (bX (af (ae 4) ag al))) ag cV))))) aw)
  (aj (ax (bO (rP (bO (aV (af (aJ (aJ (bX (af aq ag ba)) (ae 2)) (bX (af (ae 3) ag al))) ag cV))) (aG (ps:=["to", "behind"]) C_go_rows (hr.mono (by omega)) (af (ae 4) (af (ae 1) ag al) al) (he:=al) (hpl:=(az al ao))))))))))))
theorem p6:FnScope ["end", "behind"] ["end", "behind"] (ak jR):=⟨rfl,rfl,rfl,by decide+kernel,rfl,by decide+kernel,by decide+kernel⟩
theorem ql {a_go_rows:Addr}{d_go_rows:FuncData}{a_if_rows:Addr}{d_if_rows:FuncData}(C_go_rows:CG P w K mg base 1 "go_rows" a_go_rows d_go_rows ["to", "behind"] 2 eI)(C_if_rows:CG P w K mg base 2 "if_rows" a_if_rows d_if_rows ["end", "behind"] 2 hV)(F:Fun K "end_rows" "end_rows" jR f fd)(B:Binds K fd ["end", "behind"] [])(Mf:mg "end_rows"=some (.ref f)):CG P w K mg base 3 "end_rows" f fd ["end", "behind"] 2 gB:=by
 refine⟨bK (g:=iF) F p6 rfl rfl rfl fun cdv A outer s H E hr=>?_,B,F.kp,Mf⟩
 have hu:=bJ hr
 have hu6:=hr.units
 exact (ah (aI (au bg (aO hu6) (ar hu (ae 0) ai (fun _ _=>rfl)) aq (av _)) (aj (ax (aG (ps:=["to", "behind"]) C_go_rows (hr.mono (by omega)) (af (ar hu (ae 0) ai (fun _ _=>rfl)) (af (ae 1) ag al) bf) (he:=bf) (hpl:=(az al ao))))) aw)
  (ah (aI (au bg (aO hu6) (ar hu (ae 0) ai (fun _ _=>rfl)) aq (av _)) (aj (ax (aG (ps:=["end", "behind"]) C_if_rows (hr.mono (by omega)) (af (ae 0) (af (ae 1) ag al) al) (he:=al) (hpl:=(az al ao))))) aw)
  (aj (ax (bO (aV (af (ae 0) ag al)))))))
theorem ma:FnScope ["row", "begins"] ["row", "begins"] (ak fq):=⟨rfl,rfl,rfl,by decide+kernel,rfl,by decide+kernel,by decide+kernel⟩
theorem kY:((["place", ".0"]:List Str)++(["row", "begins"]:List Str).map (hid ["place", ".0"])).Nodup:=by decide+kernel
theorem mD {c_JUMPS:Addr}(y_tuple:mg "tuple"=none)(m_JUMPS:mg "JUMPS"=some (.ref c_JUMPS))(q_JUMPS: ∀H,SqT K H c_JUMPS ((["jump", "when", "unless"]:List Str).map V.str))(F:Fun K "led_to_rows" "led_to_rows" fq f fd)(B:Binds K fd ["row", "begins"] [])(Mf:mg "led_to_rows"=some (.ref f)):CG P w K mg base 1 "led_to_rows" f fd ["row", "begins"] 2 dJ:=by
 refine⟨bK (g:=fw) F ma rfl rfl rfl fun cdv A outer s H E hr=>?_,B,F.kp,Mf⟩
 have hu:=bJ hr
 have hu6:=hr.units
 exact (ah (aI (au (lu hu) i4 (ar hu (ae 0) ai (fun _ _=>rfl)) (g7 (zs:=["jump", "when", "unless"]) m_JUMPS q_JUMPS) (by with_unfolding_all rfl)) (aj (ax (aJ (gw (ae 0) eS (bH (iA ai))) (bX (af (ar hu (ae 1) (ar hu (ae 0) (iA ai) (fun _ _=>rfl)) (fun _ _=>rfl)) ag bf))))) aw)
  (ah (aI (au bg (aO hu6) (ar hu (ae 0) ai (fun _ _=>rfl)) aq (av _)) (aj (ax (bX (af aq (af (ar hu (ae 0) ai (fun _ _=>rfl)) (af (mS y_tuple (af (bO (iz rfl (ls:=["place", ".0"]) (.of (ak fq)) (wk (ar hu (ae 0) ai (fun _ _=>rfl))) (fun _ _ _ _=>(aZ (i:=0) kY rfl (Or.inl rfl) (.inr rfl))) (cn 2 0 (by decide)) (fun _ _ _ _=>iy) (fun _ _ _ _=>(ar hu (ae 3) (ae 0) (fun _ _=>rfl))) trivial)) ag ue) (he:=ue) (hpl:=ao)) ag cH) bf) ba)))) aw)
  (aj (ax (ae 0)))))
theorem sc_laid:FnScope ["program", "order", "rows", "begins", "place", "behind", "block"] ["program", "order"] (ak oE):=⟨rfl,rfl,rfl,by decide+kernel,rfl,by decide+kernel,by decide+kernel⟩
theorem ur:((["row", ".0"]:List Str)++(["program", "order", "rows", "begins", "place", "behind", "block"]:List Str).map (hid ["row", ".0"])).Nodup:=by decide+kernel
theorem xZ {a_end_rows:Addr}{d_end_rows:FuncData}{a_led_to_rows:Addr}{d_led_to_rows:FuncData}(y_len:mg "len"=none)(y_zip:mg "zip"=none)(C_end_rows:CG P w K mg base 3 "end_rows" a_end_rows d_end_rows ["end", "behind"] 2 gB)(C_led_to_rows:CG P w K mg base 1 "led_to_rows" a_led_to_rows d_led_to_rows ["row", "begins"] 2 dJ)(F:Fun K "laid" "laid" oE f fd)(B:Binds K fd ["program", "order"] [])(Mf:mg "laid"=some (.ref f)):CG P w K mg base 4 "laid" f fd ["program", "order"] 2 nq:=by
 refine⟨bK (g:=pB) F sc_laid rfl rfl rfl fun cdv A outer s H E hr=>?_,B,F.kp,Mf⟩
 have hu:=bJ hr
 have hu6:=hr.units
 exact (ah (aC (i:=2) sc_laid.nd rfl (Or.inl rfl) (fm (aV ag)))
  (ah (aC (i:=3) sc_laid.nd rfl (Or.inr rfl) yj)
  (ah (dF PassesOwn.never rfl (Al true true y_zip (af (ae 1) (af (yk (gw (ae 1) (bH ai) eS) (bX (af An ag ba))) ag cV) al)) (mn rfl (dh (aZ (i:=4) sc_laid.nd rfl (Or.inl rfl)) (dh (aZ (i:=5) sc_laid.nd rfl (Or.inl rfl)) ka))) (lT 7 [4,5] (by decide)) (ah (aC (i:=6) sc_laid.nd rfl (Or.inl rfl) (ar hu (ar hu (ae 0) ai (fun _ _=>rfl)) (ae 4) (fun _ _=>rfl)))
  (ah (wg hu (ae 3) (ae 4) (cr y_len (af (ae 2) ag al) (he:=al) (hpl:=ao)))
  (ah (bS (nS (ae 2) (af (ar hu (ae 6) ai (fun _ _=>rfl)) ag bf)))
  (aj (bS (nS (ae 2) (af (aG (ps:=["end", "behind"]) C_end_rows (hr.mono (by omega)) (af (ar hu (ae 6) ai (fun _ _=>rfl)) (af (ae 5) ag al) bf) (he:=bf) (hpl:=(az al ao))) ag cH))))))))
  (aj (ax (bO (iz rfl (ls:=["row", ".0"]) (.of (ak oE)) (db (ae 2)) (fun _ _ _ _=>(aZ (i:=0) ur rfl (Or.inl rfl) (.inr rfl))) (cn 2 0 (by decide)) (fun _ _ _ _=>iy) (fun _ _ _ _=>(aG (ps:=["row", "begins"]) C_led_to_rows (hr.mono (by omega)) (af (ae 0) (af (ae 5) ag al) al) (he:=al) (hpl:=(az al ao)))) trivial)))))))
theorem nz:FnScope ["row"] ["row"] (ak im):=⟨rfl,rfl,rfl,by decide+kernel,rfl,by decide+kernel,by decide+kernel⟩
theorem nA {c_JUMPS:Addr}{t_LONG t_SHORT:Tok}(c_LONG:mg "LONG"=some (.int 3 t_LONG))(c_SHORT:mg "SHORT"=some (.int 1 t_SHORT))(m_JUMPS:mg "JUMPS"=some (.ref c_JUMPS))(q_JUMPS: ∀H,SqT K H c_JUMPS ((["jump", "when", "unless"]:List Str).map V.str))(F:Fun K "lengths_of" "lengths_of" im f fd)(B:Binds K fd ["row"] [])(Mf:mg "lengths_of"=some (.ref f)):CG P w K mg base 1 "lengths_of" f fd ["row"] 1 eY:=by
 refine⟨bK (g:=gi) F nz rfl rfl rfl fun cdv A outer s H E hr=>?_,B,F.kp,Mf⟩
 have hu:=bJ hr
 have hu6:=hr.units
 exact (aj (ax (mV (au (lu hu) i4 (ar hu (ae 0) ai (fun _ _=>rfl)) (g7 (zs:=["jump", "when", "unless"]) m_JUMPS q_JUMPS) (by with_unfolding_all rfl)) (bX (af (dA (w:=.int 1) (v:=.int 1) rfl c_SHORT ⟨_,rfl⟩ (fun o=>rv_int.mpr rfl)) (af (dA (w:=.int 3) (v:=.int 3) rfl c_LONG ⟨_,rfl⟩ (fun o=>rv_int.mpr rfl)) ag al) al)) (bX (af (dA (w:=.int 1) (v:=.int 1) rfl c_SHORT ⟨_,rfl⟩ (fun o=>rv_int.mpr rfl)) ag al)))))
theorem sc_begins_by:FnScope ["told", "begins", "number"] ["told"] (ak iX):=⟨rfl,rfl,rfl,by decide+kernel,rfl,by decide+kernel,by decide+kernel⟩
theorem oZ (F:Fun K "begins_by" "begins_by" iX f fd)(B:Binds K fd ["told"] [])(Mf:mg "begins_by"=some (.ref f)):CG P w K mg base 1 "begins_by" f fd ["told"] 1 dq:=by
 refine⟨bK (g:=gJ) F sc_begins_by rfl rfl rfl fun cdv A outer s H E hr=>?_,B,F.kp,Mf⟩
 have hu:=bJ hr
 have hu6:=hr.units
 exact (ah (aC (i:=1) sc_begins_by.nd rfl (Or.inl rfl) (fm (aV (af ai ag ba))))
  (ah (dF PassesOwn.never rfl (db (ae 0)) (aZ (i:=2) sc_begins_by.nd rfl (Or.inl rfl)) (cn 3 2 (by decide)) (aj (bS (cb (ae 1) (af (aJ (ar hu (ae 1) (iA ai) (fun _ _=>rfl)) (ae 2)) ag cV)))))
  (aj (ax (jY (ae 1))))))
theorem sc_has_to_be_long:FnScope ["place", "row", "reach", "begins", "to"] ["place", "row", "reach", "begins"] (ak fg):=⟨rfl,rfl,rfl,by decide+kernel,rfl,by decide+kernel,by decide+kernel⟩
theorem ke {c_JUMPS:Addr}(y_abs:mg "abs"=none)(y_len:mg "len"=none)(y_min:mg "min"=none)(m_JUMPS:mg "JUMPS"=some (.ref c_JUMPS))(q_JUMPS: ∀H,SqT K H c_JUMPS ((["jump", "when", "unless"]:List Str).map V.str))(F:Fun K "has_to_be_long" "has_to_be_long" fg f fd)(B:Binds K fd ["place", "row", "reach", "begins"] [])(Mf:mg "has_to_be_long"=some (.ref f)):CG P w K mg base 1 "has_to_be_long" f fd ["place", "row", "reach", "begins"] 4 ci:=by
 refine⟨bK (g:=dB) F sc_has_to_be_long rfl rfl rfl fun cdv A outer s H E hr=>?_,B,F.kp,Mf⟩
 have hu:=bJ hr
 have hu6:=hr.units
 exact (ah (aI (au (gY hu) gj (ar hu (ae 1) ai (fun _ _=>rfl)) (g7 (zs:=["jump", "when", "unless"]) m_JUMPS q_JUMPS) (by with_unfolding_all rfl)) (aj (ax eT)) aw)
  (ah (aC (i:=4) sc_has_to_be_long.nd rfl (Or.inl rfl) (Ao rfl y_min (af (ar hu (ae 1) (iA ai) (fun _ _=>rfl)) (af (o8 (cr y_len (af (ae 3) ag al) (he:=al) (hpl:=ao)) ai) ag cV) bf) (he:=bf) (hpl:=(az cV ao))))
  (aj (ax (wq mt jT (pf y_abs (af (o8 (ar hu (ae 3) (ae 4) (fun _ _=>rfl)) (ar hu (ae 3) (aJ (ae 0) ai) (fun _ _=>rfl))) ag cV) (he:=cV) (hpl:=ao)) (ae 2) (av _))))))
theorem sc_lengths_asked:FnScope ["rows", "reach", "told", "begins"] ["rows", "reach", "told"] (ak dL):=⟨rfl,rfl,rfl,by decide+kernel,rfl,by decide+kernel,by decide+kernel⟩
theorem gu:((["place", "row", ".0"]:List Str)++(["rows", "reach", "told", "begins"]:List Str).map (hid ["place", "row", ".0"])).Nodup:=by decide+kernel
theorem kU {a_begins_by:Addr}{d_begins_by:FuncData}{a_has_to_be_long:Addr}{d_has_to_be_long:FuncData}{t_LONG t_SHORT:Tok}(y_enumerate:mg "enumerate"=none)(c_LONG:mg "LONG"=some (.int 3 t_LONG))(c_SHORT:mg "SHORT"=some (.int 1 t_SHORT))(C_begins_by:CG P w K mg base 1 "begins_by" a_begins_by d_begins_by ["told"] 1 dq)(C_has_to_be_long:CG P w K mg base 1 "has_to_be_long" a_has_to_be_long d_has_to_be_long ["place", "row", "reach", "begins"] 4 ci)(F:Fun K "lengths_asked" "lengths_asked" dL f fd)(B:Binds K fd ["rows", "reach", "told"] [])(Mf:mg "lengths_asked"=some (.ref f)):CG P w K mg base 2 "lengths_asked" f fd ["rows", "reach", "told"] 3 cp:=by
 refine⟨bK (g:=dQ) F sc_lengths_asked rfl rfl rfl fun cdv A outer s H E hr=>?_,B,F.kp,Mf⟩
 have hu:=bJ hr
 have hu6:=hr.units
 exact (ah (aC (i:=3) sc_lengths_asked.nd rfl (Or.inr rfl) (aG (ps:=["told"]) C_begins_by (hr.mono (by omega)) (af (ae 2) ag al) (he:=al) (hpl:=ao)))
  (aj (ax (fm (iz rfl (ls:=["place", "row", ".0"]) (.of (ak dL)) (sX y_enumerate (af (ae 0) ag al)) (fun _ _ _ _=>(mn rfl (dh (aZ (i:=0) gu rfl (Or.inl rfl) (.inr rfl)) (dh (aZ (i:=1) gu rfl (Or.inl rfl) (.inr rfl)) ka)))) (lT 3 [0,1] (by decide)) (fun _ _ _ _=>iy) (fun _ _ _ _=>(mV (gv (aG (ps:=["place", "row", "reach", "begins"]) C_has_to_be_long (hr.mono (by omega)) (af (ae 0) (af (ae 1) (af (ae 4) (af (ae 6) ag al) al) al) al) (he:=al) (hpl:=(az al (az al (az al ao)))))) (dA (w:=.int 3) (v:=.int 3) rfl c_LONG ⟨_,rfl⟩ (fun o=>rv_int.mpr rfl)) (dA (w:=.int 1) (v:=.int 1) rfl c_SHORT ⟨_,rfl⟩ (fun o=>rv_int.mpr rfl)))) trivial)))))
theorem sc_lengths:FnScope ["rows", "reach", "told", "asked"] ["rows", "reach"] (ak jh):=⟨rfl,rfl,rfl,by decide+kernel,rfl,by decide+kernel,by decide+kernel⟩
theorem o6:((["row", ".0"]:List Str)++(["rows", "reach", "told", "asked"]:List Str).map (hid ["row", ".0"])).Nodup:=by decide+kernel
theorem rH {a_lengths_asked:Addr}{d_lengths_asked:FuncData}{t_SHORT:Tok}(c_SHORT:mg "SHORT"=some (.int 1 t_SHORT))(C_lengths_asked:CG P w K mg base 2 "lengths_asked" a_lengths_asked d_lengths_asked ["rows", "reach", "told"] 3 cp)(F:Fun K "lengths" "lengths" jh f fd)(B:Binds K fd ["rows", "reach"] [])(Mf:mg "lengths"=some (.ref f)):CG P w K mg base 3 "lengths" f fd ["rows", "reach"] 2 hU:=by
 refine⟨bK (g:=ju) F sc_lengths rfl rfl rfl fun cdv A outer s H E hr=>?_,B,F.kp,Mf⟩
 have hu:=bJ hr
 have hu6:=hr.units
 exact (ah (uv (i:=2) sc_lengths.nd rfl rfl rfl (ls:=["row", ".0"]) (.of (ak jh)) (db (ae 0)) (fun _ _ _ _=>(aZ (i:=0) o6 rfl (Or.inl rfl) (.inr rfl))) (cn 2 0 (by decide)) (fun _ _ _ _=>iy) (fun _ _ _ _=>(dA (w:=.int 1) (v:=.int 1) rfl c_SHORT ⟨_,rfl⟩ (fun o=>rv_int.mpr rfl))) trivial)
  (ah (aC (i:=3) sc_lengths.nd rfl (Or.inl rfl) (aG (ps:=["rows", "reach", "told"]) C_lengths_asked (hr.mono (by omega)) (af (ae 0) (af (ae 1) (af (ae 2) ag al) al) al) (he:=al) (hpl:=(az al (az al ao)))))
  (ah (wf 300 PassesOwn.never (au kc (iq hu6) (ae 3) (ae 2) (av _)) (ah (aC (i:=2) sc_lengths.nd rfl (Or.inl rfl) (ae 3))
  (aj (aC (i:=3) sc_lengths.nd rfl (Or.inl rfl) (aG (ps:=["rows", "reach", "told"]) C_lengths_asked (hr.mono (by omega)) (af (ae 0) (af (ae 1) (af (ae 2) ag al) al) al) (he:=al) (hpl:=(az al (az al ao))))))))
  (aj (ax (ae 2))))))
theorem sc_right_lengths:FnScope ["rows", "reach", "told", "begins", "place", "row"] ["rows", "reach", "told"] (ak fY):=⟨rfl,rfl,rfl,by decide+kernel,rfl,by decide+kernel,by decide+kernel⟩
theorem kT {a_begins_by:Addr}{d_begins_by:FuncData}{a_lengths_of:Addr}{d_lengths_of:FuncData}{a_has_to_be_long:Addr}{d_has_to_be_long:FuncData}{t_SHORT:Tok}(y_enumerate:mg "enumerate"=none)(y_len:mg "len"=none)(c_SHORT:mg "SHORT"=some (.int 1 t_SHORT))(C_begins_by:CG P w K mg base 1 "begins_by" a_begins_by d_begins_by ["told"] 1 dq)(C_lengths_of:CG P w K mg base 1 "lengths_of" a_lengths_of d_lengths_of ["row"] 1 eY)(C_has_to_be_long:CG P w K mg base 1 "has_to_be_long" a_has_to_be_long d_has_to_be_long ["place", "row", "reach", "begins"] 4 ci)(F:Fun K "right_lengths" "right_lengths" fY f fd)(B:Binds K fd ["rows", "reach", "told"] [])(Mf:mg "right_lengths"=some (.ref f)):CG P w K mg base 2 "right_lengths" f fd ["rows", "reach", "told"] 3 bh:=by
 refine⟨bK (g:=dP) F sc_right_lengths rfl rfl rfl fun cdv A outer s H E hr=>?_,B,F.kp,Mf⟩
 have hu:=bJ hr
 have hu6:=hr.units
 exact (ah (aI (au kc (iq hu6) (cr y_len (af (ae 2) ag al) (he:=al) (hpl:=ao)) (cr y_len (af (ae 0) ag al) (he:=al) (hpl:=ao)) (av _)) (aj (ax eT)) aw)
  (ah (aC (i:=3) sc_right_lengths.nd rfl (Or.inl rfl) (aG (ps:=["told"]) C_begins_by (hr.mono (by omega)) (af (ae 2) ag al) (he:=al) (hpl:=ao)))
  (ah (dF PassesOwn.never rfl (sX y_enumerate (af (ae 0) ag al)) (mn rfl (dh (aZ (i:=4) sc_right_lengths.nd rfl (Or.inl rfl)) (dh (aZ (i:=5) sc_right_lengths.nd rfl (Or.inl rfl)) ka))) (lT 6 [4,5] (by decide)) (ah (aI (au (gY hu) gj (ar hu (ae 2) (ae 4) (fun _ _=>rfl)) (aG (ps:=["row"]) C_lengths_of (hr.mono (by omega)) (af (ae 5) ag al) (he:=al) (hpl:=ao)) (by with_unfolding_all rfl)) (aj (ax eT)) aw)
  (aj (aI (dI (eg (au bg (aO hu6) (ar hu (ae 2) (ae 4) (fun _ _=>rfl)) (dA (w:=.int 1) (v:=.int 1) rfl c_SHORT ⟨_,rfl⟩ (fun o=>rv_int.mpr rfl)) (av _)) (cQ (gv (aG (ps:=["place", "row", "reach", "begins"]) C_has_to_be_long (hr.mono (by omega)) (af (ae 4) (af (ae 5) (af (ae 1) (af (ae 3) ag al) al) al) al) (he:=al) (hpl:=(az al (az al (az al ao))))))))) (aj (ax eT)) aw))))
  (aj (ax eT)))))
theorem md:FnScope ["script", "k"] ["script", "k"] (ak gQ):=⟨rfl,rfl,rfl,by decide+kernel,rfl,by decide+kernel,by decide+kernel⟩
theorem mH (y_len:mg "len"=none)(F:Fun K "_law_cell_at" "_law_cell_at" gQ f fd)(B:Binds K fd ["script", "k"] [])(Mf:mg "_law_cell_at"=some (.ref f)):CG P w K mg base 1 "_law_cell_at" f fd ["script", "k"] 2 bR:=by
 refine⟨bK (g:=fJ) F md rfl rfl rfl fun cdv A outer s H E hr=>?_,B,F.kp,Mf⟩
 have hu:=bJ hr
 have hu6:=hr.units
 exact (ah (aI (au sP oP (ae 1) (cr y_len (af (ae 0) ag al) (he:=al) (hpl:=ao)) (av _)) (aj (ax (ar hu (ae 0) (ae 1) (fun _ _=>rfl)))) aw)
  (aj (ax ai)))
theorem sc_law_numbers:FnScope ["cell", "many", "found", "rest", "k", "one"] ["cell", "many"] (ak gO):=⟨rfl,rfl,rfl,by decide+kernel,rfl,by decide+kernel,by decide+kernel⟩
theorem mE (y_abs:mg "abs"=none)(y_range:mg "range"=none)(F:Fun K "_law_numbers" "_law_numbers" gO f fd)(B:Binds K fd ["cell", "many"] [])(Mf:mg "_law_numbers"=some (.ref f)):CG P w K mg base 1 "_law_numbers" f fd ["cell", "many"] 2 bQ:=by
 refine⟨bK (g:=fE) F sc_law_numbers rfl rfl rfl fun cdv A outer s H E hr=>?_,B,F.kp,Mf⟩
 have hu:=bJ hr
 have hu6:=hr.units
 exact (ah (aC (i:=2) sc_law_numbers.nd rfl (Or.inl rfl) (fm (aV ag)))
  (ah (aC (i:=3) sc_law_numbers.nd rfl (Or.inl rfl) (pf y_abs (af (ae 0) ag al) (he:=al) (hpl:=ao)))
  (ah (dF PassesOwn.never rfl (g0 rfl y_range (af (ae 1) ag al)) (aZ (i:=4) sc_law_numbers.nd rfl (Or.inl rfl)) (cn 6 4 (by decide)) (aj (aI (au A4 zU (pf y_abs (af (ae 0) ag al) (he:=al) (hpl:=ao)) (Am ai ai) (av _)) (ah (bS (cb (ae 2) (af (cq (ae 3) ai) ag cV)))
  (aj (aC (i:=3) sc_law_numbers.nd rfl (Or.inl rfl) (jr (ae 3) ai)))) (ah (aC (i:=5) sc_law_numbers.nd rfl (Or.inl rfl) (cq (aJ (cq (ae 3) ai) (pc (pc ai (aJ (ae 4) ai)) (aJ (ae 4) ai))) ai))
  (ah (aC (i:=5) sc_law_numbers.nd rfl (Or.inl rfl) (aJ (cq (pc (ae 5) (ae 5)) ai) (jr (ae 5) ai)))
  (aj (bS (cb (ae 2) (af (jr (cq (pc (ae 5) ai) ai) ai) ag cV)))))))))
  (aj (ax (jY (ae 2)))))))
theorem sc_law_names:FnScope ["head", "some", "more"] ["head"] (ak iW):=⟨rfl,rfl,rfl,by decide+kernel,rfl,by decide+kernel,by decide+kernel⟩
theorem oW (F:Fun K "_law_names" "_law_names" iW f fd)(B:Binds K fd ["head"] [])(Mf:mg "_law_names"=some (.ref f)):CG P w K mg base 1 "_law_names" f fd ["head"] 1 eG:=by
 refine⟨bK (g:=gH) F sc_law_names rfl rfl rfl fun cdv A outer s H E hr=>?_,B,F.kp,Mf⟩
 have hu:=bJ hr
 have hu6:=hr.units
 exact (ah (aC (i:=1) sc_law_names.nd rfl (Or.inl rfl) (bO (aV (af aq (af aq (af aq (af aq (af aq (af aq (af aq (af aq (af aq (af aq ag ba) ba) ba) ba) ba) ba) ba) ba) ba) ba))))
  (ah (aC (i:=2) sc_law_names.nd rfl (Or.inl rfl) (bO (aV (af aq (af aq (af aq (af aq (af aq (af aq (af aq (af aq (af aq (af aq ag ba) ba) ba) ba) ba) ba) ba) ba) ba) ba))))
  (aj (ax (ar hu (bO (aV (af (ae 1) (af (ae 2) (af (wn (ae 1) (bH (iA ai))) (af (wn (ae 2) (bH (iA ai))) ag bf) bf) al) al))) (cq (ae 0) ai) (fun _ _=>rfl))))))
theorem sc_law_word:FnScope ["numbers", "one", "more", "some"] ["numbers"] (ak jP):=⟨rfl,rfl,rfl,by decide+kernel,rfl,by decide+kernel,by decide+kernel⟩
theorem qj (y_str:mg "str"=none)(F:Fun K "_law_word" "_law_word" jP f fd)(B:Binds K fd ["numbers"] [])(Mf:mg "_law_word"=some (.ref f)):CG P w K mg base 1 "_law_word" f fd ["numbers"] 1 cG:=by
 refine⟨bK (g:=iD) F sc_law_word rfl rfl rfl fun cdv A outer s H E hr=>?_,B,F.kp,Mf⟩
 have hu:=bJ hr
 have hu6:=hr.units
 exact (ah (aC (i:=1) sc_law_word.nd rfl (Or.inl rfl) (ar hu (bO (aV (af aq (af aq ag ba) ba))) (cq (ar hu (ae 0) ai (fun _ _=>rfl)) ai) (fun _ _=>rfl)))
  (ah (aC (i:=2) sc_law_word.nd rfl (Or.inl rfl) (o9 y_str (af (cq (ar hu (ae 0) ai (fun _ _=>rfl)) ai) ag cV) (he:=cV) (hpl:=ao)))
  (ah (aC (i:=3) sc_law_word.nd rfl (Or.inl rfl) (bO (aV (af (ae 2) (af (ae 1) (af (aJ (aJ (ae 1) aq) (ae 2)) (af (aJ (ae 1) aq) (af aq (af (aJ aq (ae 2)) (af (aJ (aJ aq (ae 1)) aq) (af (aJ aq (ae 1)) ag cV) cV) cV) ba) cV) cV) al) al))))
  (aj (ax (ar hu (ae 3) (cq (ar hu (ae 0) ai (fun _ _=>rfl)) ai) (fun _ _=>rfl)))))))
theorem sc_law_statement:FnScope ["numbers", "kind"] ["numbers"] (ak fZ):=⟨rfl,rfl,rfl,by decide+kernel,rfl,by decide+kernel,by decide+kernel⟩
theorem kW {a_law_word:Addr}{d_law_word:FuncData}(C_law_word:CG P w K mg base 1 "_law_word" a_law_word d_law_word ["numbers"] 1 cG)(F:Fun K "_law_statement" "_law_statement" fZ f fd)(B:Binds K fd ["numbers"] [])(Mf:mg "_law_statement"=some (.ref f)):CG P w K mg base 2 "_law_statement" f fd ["numbers"] 1 bV:=by
 refine⟨bK (g:=dR) F sc_law_statement rfl rfl rfl fun cdv A outer s H E hr=>?_,B,F.kp,Mf⟩
 have hu:=bJ hr
 have hu6:=hr.units
 exact (ah (aC (i:=1) sc_law_statement.nd rfl (Or.inl rfl) (cq (jr (ar hu (ae 0) ai (fun _ _=>rfl)) ai) ai))
  (ah (aI (au bg (aO hu6) (ae 1) ai (av _)) (aj (ax (aJ aq (aG (ps:=["numbers"]) C_law_word (hr.mono (by omega)) (af (ae 0) ag al) (he:=al) (hpl:=ao))))) aw)
  (ah (aI (au bg (aO hu6) (ae 1) ai (av _)) (aj (ax (aJ aq (ar hu (bO (aV (af aq (af aq ag ba) ba))) (cq (ar hu (ae 0) ai (fun _ _=>rfl)) ai) (fun _ _=>rfl))))) aw)
  (aj (ax (aJ (aJ (aJ aq (ar hu (bO (aV (af aq (af aq ag ba) ba))) (cq (jr (ar hu (ae 0) ai (fun _ _=>rfl)) ai) ai) (fun _ _=>rfl))) aq) (aG (ps:=["numbers"]) C_law_word (hr.mono (by omega)) (af (ae 0) ag al) (he:=al) (hpl:=ao))))))))
theorem sc_law_end:FnScope ["numbers", "names", "one", "other", "kind", "word", "sign", "test"] ["numbers", "names"] (ak kN):=⟨rfl,rfl,rfl,by decide+kernel,rfl,by decide+kernel,by decide+kernel⟩
theorem rJ {a_law_word:Addr}{d_law_word:FuncData}(y_len:mg "len"=none)(C_law_word:CG P w K mg base 1 "_law_word" a_law_word d_law_word ["numbers"] 1 cG)(F:Fun K "_law_end" "_law_end" kN f fd)(B:Binds K fd ["numbers", "names"] [])(Mf:mg "_law_end"=some (.ref f)):CG P w K mg base 2 "_law_end" f fd ["numbers", "names"] 2 gk:=by
 refine⟨bK (g:=jv) F sc_law_end rfl rfl rfl fun cdv A outer s H E hr=>?_,B,F.kp,Mf⟩
 have hu:=bJ hr
 have hu6:=hr.units
 exact (ah (aC (i:=2) sc_law_end.nd rfl (Or.inl rfl) (ar hu (ae 1) (cq (ar hu (ae 0) ai (fun _ _=>rfl)) (cr y_len (af (ae 1) ag al) (he:=al) (hpl:=ao))) (fun _ _=>rfl)))
  (ah (aC (i:=3) sc_law_end.nd rfl (Or.inl rfl) (ar hu (ae 1) (cq (ar hu (ae 0) ai (fun _ _=>rfl)) (cr y_len (af (ae 1) ag al) (he:=al) (hpl:=ao))) (fun _ _=>rfl)))
  (ah (aC (i:=4) sc_law_end.nd rfl (Or.inl rfl) (cq (ar hu (ae 0) ai (fun _ _=>rfl)) ai))
  (ah (aI (au sP oP (ae 4) ai (av _)) (aj (ax (aJ aq (ae 2)))) aw)
  (ah (aI (au bg (aO hu6) (ae 4) ai (av _)) (ah (aC (i:=5) sc_law_end.nd rfl (Or.inl rfl) (aG (ps:=["numbers"]) C_law_word (hr.mono (by omega)) (af (gw (ae 0) (bH ai) (bH ai)) ag bf) (he:=bf) (hpl:=ao)))
  (aj (ax (sZ aq (af (bO (rP (bO (aV (af aq (af (ae 5) (af (ae 2) (af (ae 3) ag al) al) al) ba))) (gw (ae 1) eS (bH (cq (ar hu (ae 0) ai (fun _ _=>rfl)) ai))))) ag cV))))) aw)
  (ah (aI (au bg (aO hu6) (ae 4) ai (av _)) (aj (ax aq)) aw)
  (ah (aC (i:=6) sc_law_end.nd rfl (Or.inl rfl) (ar hu (bO (aV (af aq (af aq ag ba) ba))) (cq (jr (ar hu (ae 0) ai (fun _ _=>rfl)) ai) ai) (fun _ _=>rfl)))
  (ah (aC (i:=7) sc_law_end.nd rfl (Or.inl rfl) (aJ (aG (ps:=["numbers"]) C_law_word (hr.mono (by omega)) (af (gw (ae 0) (bH ai) (bH ai)) ag bf) (he:=bf) (hpl:=ao)) (ae 6)))
  (ah (aC (i:=7) sc_law_end.nd rfl (Or.inl rfl) (aJ (ae 7) (aG (ps:=["numbers"]) C_law_word (hr.mono (by omega)) (af (aJ (gw (ae 0) (bH ai) (bH ai)) (gw (ae 0) eS (bH ai))) ag cV) (he:=cV) (hpl:=ao))))
  (ah (aI (au bg (aO hu6) (ae 4) ai (av _)) (aj (aC (i:=3) sc_law_end.nd rfl (Or.inl rfl) (ae 2))) aw)
  (aj (ax (aJ (aJ (aJ (aJ (aJ aq (ae 7)) aq) (ae 2)) aq) (ae 3))))))))))))))
theorem sc_law_text:FnScope ["script", "most", "head", "names", "rows", "k", "numbers"] ["script", "most"] (ak jQ):=⟨rfl,rfl,rfl,by decide+kernel,rfl,by decide+kernel,by decide+kernel⟩
theorem qk {a_law_numbers:Addr}{d_law_numbers:FuncData}{a_law_cell_at:Addr}{d_law_cell_at:FuncData}{a_law_names:Addr}{d_law_names:FuncData}{a_law_statement:Addr}{d_law_statement:FuncData}{a_law_end:Addr}{d_law_end:FuncData}(y_len:mg "len"=none)(y_range:mg "range"=none)(y_str:mg "str"=none)(C_law_numbers:CG P w K mg base 1 "_law_numbers" a_law_numbers d_law_numbers ["cell", "many"] 2 bQ)(C_law_cell_at:CG P w K mg base 1 "_law_cell_at" a_law_cell_at d_law_cell_at ["script", "k"] 2 bR)(C_law_names:CG P w K mg base 1 "_law_names" a_law_names d_law_names ["head"] 1 eG)(C_law_statement:CG P w K mg base 2 "_law_statement" a_law_statement d_law_statement ["numbers"] 1 bV)(C_law_end:CG P w K mg base 2 "_law_end" a_law_end d_law_end ["numbers", "names"] 2 gk)(F:Fun K "_law_text" "_law_text" jQ f fd)(B:Binds K fd ["script", "most"] [])(Mf:mg "_law_text"=some (.ref f)):CG P w K mg base 3 "_law_text" f fd ["script", "most"] 2 gA:=by
 refine⟨bK (g:=iE) F sc_law_text rfl rfl rfl fun cdv A outer s H E hr=>?_,B,F.kp,Mf⟩
 have hu:=bJ hr
 have hu6:=hr.units
 exact (ah (aC (i:=2) sc_law_text.nd rfl (Or.inl rfl) (aG (ps:=["cell", "many"]) C_law_numbers (hr.mono (by omega)) (af (aG (ps:=["script", "k"]) C_law_cell_at (hr.mono (by omega)) (af (ae 0) (af ai ag ba) al) (he:=al) (hpl:=(az ba ao))) (af ai ag ba) cH) (he:=cH) (hpl:=(az ba ao))))
  (ah (aC (i:=3) sc_law_text.nd rfl (Or.inl rfl) (gw (aG (ps:=["head"]) C_law_names (hr.mono (by omega)) (af (ar hu (ae 2) ai (fun _ _=>rfl)) ag bf) (he:=bf) (hpl:=ao)) eS (bH (aJ ai (cq (ar hu (ae 2) ai (fun _ _=>rfl)) (ae 1))))))
  (ah (aC (i:=4) sc_law_text.nd rfl (Or.inl rfl) (fm (aV (af (aJ aq (o9 y_str (af (cq (ar hu (ae 2) ai (fun _ _=>rfl)) ai) ag cV) (he:=cV) (hpl:=ao))) (af (aJ aq (o9 y_str (af (cq (ar hu (ae 2) ai (fun _ _=>rfl)) ai) ag cV) (he:=cV) (hpl:=ao))) ag cV) cV))))
  (ah (dF PassesOwn.never rfl (g0 rfl y_range (af (cr y_len (af (ae 3) ag al) (he:=al) (hpl:=ao)) ag cH)) (aZ (i:=5) sc_law_text.nd rfl (Or.inl rfl)) (cn 7 5 (by decide)) (ah (aC (i:=6) sc_law_text.nd rfl (Or.inl rfl) (aG (ps:=["cell", "many"]) C_law_numbers (hr.mono (by omega)) (af (aG (ps:=["script", "k"]) C_law_cell_at (hr.mono (by omega)) (af (ae 0) (af (aJ ai (ae 5)) ag cV) al) (he:=al) (hpl:=(az cV ao))) (af ai ag ba) cH) (he:=cH) (hpl:=(az ba ao))))
  (ah (bS (cb (ae 4) (af (aJ aq (ar hu (ae 3) (ae 5) (fun _ _=>rfl))) ag cV)))
  (ah (aI (au mt jT (cq (ar hu (ae 6) ai (fun _ _=>rfl)) ai) ai (av _)) (aj (bS (cb (ae 4) (af (aG (ps:=["numbers"]) C_law_statement (hr.mono (by omega)) (af (gw (ae 6) (bH ai) (bH ai)) ag bf) (he:=bf) (hpl:=ao)) ag cH)))) aw)
  (ah (aI (au mt jT (cq (ar hu (ae 6) ai (fun _ _=>rfl)) ai) ai (av _)) (aj (bS (cb (ae 4) (af (aG (ps:=["numbers"]) C_law_statement (hr.mono (by omega)) (af (gw (ae 6) (bH ai) (bH ai)) ag bf) (he:=bf) (hpl:=ao)) ag cH)))) aw)
  (aj (bS (cb (ae 4) (af (aG (ps:=["numbers", "names"]) C_law_end (hr.mono (by omega)) (af (ae 6) (af (ae 3) ag al) al) (he:=al) (hpl:=(az al ao))) ag cH)))))))))
  (aj (ax (sZ aq (af (ae 4) ag al))))))))
theorem sc_law_order:FnScope ["numbers", "many", "order", "k", "at"] ["numbers", "many"] (ak iV):=⟨rfl,rfl,rfl,by decide+kernel,rfl,by decide+kernel,by decide+kernel⟩
theorem oV (y_len:mg "len"=none)(y_range:mg "range"=none)(F:Fun K "_law_order" "_law_order" iV f fd)(B:Binds K fd ["numbers", "many"] [])(Mf:mg "_law_order"=some (.ref f)):CG P w K mg base 1 "_law_order" f fd ["numbers", "many"] 2 fV:=by
 refine⟨bK (g:=gG) F sc_law_order rfl rfl rfl fun cdv A outer s H E hr=>?_,B,F.kp,Mf⟩
 have hu:=bJ hr
 have hu6:=hr.units
 exact (ah (aC (i:=2) sc_law_order.nd rfl (Or.inl rfl) (bX (af ai ag ba)))
  (ah (dF PassesOwn.never rfl (uw rfl y_range (af ai (af (ae 1) ag al) ba)) (aZ (i:=3) sc_law_order.nd rfl (Or.inl rfl)) (cn 5 3 (by decide)) (ah (aC (i:=4) sc_law_order.nd rfl (Or.inl rfl) (aJ ai (cq (ar hu (ae 0) (ae 3) (fun _ _=>rfl)) (cr y_len (af (ae 2) ag al) (he:=al) (hpl:=ao)))))
  (aj (aC (i:=2) sc_law_order.nd rfl (Or.inl rfl) (aJ (aJ (wm (ae 2) eS (bH (ae 4))) (bX (af (ae 3) ag al))) (wm (ae 2) (bH (ae 4)) eS))))))
  (aj (ax (ae 2)))))
theorem sc_law_right:FnScope ["rows", "reach", "told", "starts", "number", "k", "far"] ["rows", "reach", "told"] (ak iU):=⟨rfl,rfl,rfl,by decide+kernel,rfl,by decide+kernel,by decide+kernel⟩
theorem oU (y_abs:mg "abs"=none)(y_len:mg "len"=none)(y_range:mg "range"=none)(F:Fun K "_law_right" "_law_right" iU f fd)(B:Binds K fd ["rows", "reach", "told"] [])(Mf:mg "_law_right"=some (.ref f)):CG P w K mg base 1 "_law_right" f fd ["rows", "reach", "told"] 3 cy:=by
 refine⟨bK (g:=gE) F sc_law_right rfl rfl rfl fun cdv A outer s H E hr=>?_,B,F.kp,Mf⟩
 have hu:=bJ hr
 have hu6:=hr.units
 exact (ah (aI (au kc (iq hu6) (cr y_len (af (ae 2) ag al) (he:=al) (hpl:=ao)) (cr y_len (af (ae 0) ag al) (he:=al) (hpl:=ao)) (av _)) (aj (ax eT)) aw)
  (ah (aC (i:=3) sc_law_right.nd rfl (Or.inl rfl) (fm (aV (af ai ag ba))))
  (ah (dF PassesOwn.never rfl (db (ae 2)) (aZ (i:=4) sc_law_right.nd rfl (Or.inl rfl)) (cn 7 4 (by decide)) (aj (bS (cb (ae 3) (af (aJ (ar hu (ae 3) (iA ai) (fun _ _=>rfl)) (ae 4)) ag cV)))))
  (ah (dF PassesOwn.never rfl (g0 rfl y_range (af (cr y_len (af (ae 0) ag al) (he:=al) (hpl:=ao)) ag cH)) (aZ (i:=5) sc_law_right.nd rfl (Or.inl rfl)) (cn 7 5 (by decide)) (aj (aI (au (gY hu) gj (ar hu (ar hu (ae 0) (ae 5) (fun _ _=>rfl)) ai (fun _ _=>rfl)) (bO (aV (af aq (af aq (af aq ag ba) ba) ba))) (by with_unfolding_all rfl)) (aj (aI (au kc (iq hu6) (ar hu (ae 2) (ae 5) (fun _ _=>rfl)) ai (av _)) (aj (ax eT)) aw)) (aj (aI (au kc (iq hu6) (ar hu (ae 2) (ae 5) (fun _ _=>rfl)) ai (av _)) (ah (aC (i:=6) sc_law_right.nd rfl (Or.inl rfl) (pf y_abs (af (o8 (ar hu (ae 3) (ar hu (ar hu (ae 0) (ae 5) (fun _ _=>rfl)) (iA ai) (fun _ _=>rfl)) (fun _ _=>rfl)) (ar hu (ae 3) (aJ (ae 5) ai) (fun _ _=>rfl))) ag cV) (he:=cV) (hpl:=ao)))
  (aj (aI (dI (nR (au kc (iq hu6) (ar hu (ae 2) (ae 5) (fun _ _=>rfl)) ai (av _)) (kZ (au mt jT (ae 6) (ae 1) (av _))))) (aj (ax eT)) aw))) aw)))))
  (aj (ax eT))))))
theorem sc_law_choices:FnScope ["rows", "found", "row", "wider", "one"] ["rows"] (ak gP):=⟨rfl,rfl,rfl,by decide+kernel,rfl,by decide+kernel,by decide+kernel⟩
theorem mG (F:Fun K "_law_choices" "_law_choices" gP f fd)(B:Binds K fd ["rows"] [])(Mf:mg "_law_choices"=some (.ref f)):CG P w K mg base 1 "_law_choices" f fd ["rows"] 1 cU:=by
 refine⟨bK (g:=fH) F sc_law_choices rfl rfl rfl fun cdv A outer s H E hr=>?_,B,F.kp,Mf⟩
 have hu:=bJ hr
 have hu6:=hr.units
 exact (ah (aC (i:=1) sc_law_choices.nd rfl (Or.inl rfl) (bO (aV (af (bO (aV ag)) ag Bo))))
  (ah (dF PassesOwn.never rfl (db (ae 0)) (aZ (i:=2) sc_law_choices.nd rfl (Or.inl rfl)) (cn 5 2 (by decide)) (ah (aC (i:=3) sc_law_choices.nd rfl (Or.inl rfl) (fm (aV ag)))
  (ah (dF PassesOwn.never rfl (db (ae 1)) (aZ (i:=4) sc_law_choices.nd rfl (Or.inl rfl)) (cn 5 4 (by decide)) (ah (bS (cb (ae 3) (af (aJ (ae 4) (bO (aV (af ai ag ba)))) ag cV)))
  (aj (aI (au (lu hu) i4 (ar hu (ae 2) ai (fun _ _=>rfl)) (bO (aV (af aq (af aq (af aq ag ba) ba) ba))) (by with_unfolding_all rfl)) (aj (bS (cb (ae 3) (af (aJ (ae 4) (bO (aV (af ai ag ba)))) ag cV)))) aw))))
  (aj (aC (i:=1) sc_law_choices.nd rfl (Or.inl rfl) (jY (ae 3)))))))
  (aj (ax (ae 1)))))
theorem sc_law_least:FnScope ["rows", "reach", "told", "jumps", "other", "k"] ["rows", "reach", "told"] (ak fQ):=⟨rfl,rfl,rfl,by decide+kernel,rfl,by decide+kernel,by decide+kernel⟩
theorem mO:((["k", ".0"]:List Str)++(["rows", "reach", "told", "jumps", "other", "k"]:List Str).map (hid ["k", ".0"])).Nodup:=by decide+kernel
theorem mM:((["k", ".0"]:List Str)++(["rows", "reach", "told", "jumps", "other", "k"]:List Str).map (hid ["k", ".0"])).Nodup:=by decide+kernel
theorem oX {a_law_choices:Addr}{d_law_choices:FuncData}{a_law_right:Addr}{d_law_right:FuncData}{a_right_lengths:Addr}{d_right_lengths:FuncData}(y_len:mg "len"=none)(y_range:mg "range"=none)(C_law_choices:CG P w K mg base 1 "_law_choices" a_law_choices d_law_choices ["rows"] 1 cU)(C_law_right:CG P w K mg base 1 "_law_right" a_law_right d_law_right ["rows", "reach", "told"] 3 cy)(C_right_lengths:CG P w K mg base 2 "right_lengths" a_right_lengths d_right_lengths ["rows", "reach", "told"] 3 bh)(F:Fun K "_law_least" "_law_least" fQ f fd)(B:Binds K fd ["rows", "reach", "told"] [])(Mf:mg "_law_least"=some (.ref f)):CG P w K mg base 3 "_law_least" f fd ["rows", "reach", "told"] 3 fW:=by
 refine⟨bK (g:=gI) F sc_law_least rfl rfl rfl fun cdv A outer s H E hr=>?_,B,F.kp,Mf⟩
 have hu:=bJ hr
 have hu6:=hr.units
 exact (ah (wj (i:=3) sc_law_least.nd rfl rfl rfl (ls:=["k", ".0"]) (.of (ak fQ)) (g0 rfl y_range (af (cr y_len (af (ae 0) ag al) (he:=al) (hpl:=ao)) ag cH)) (fun _ _ _ _=>(aZ (i:=0) mO rfl (Or.inl rfl) (.inr rfl))) (cn 2 0 (by decide)) (fun _ _ _ _=>(sW (au (lu hu) i4 (ar hu (ar hu (ae 2) (ae 0) (fun _ _=>rfl)) ai (fun _ _=>rfl)) (bO (aV (af aq (af aq (af aq ag ba) ba) ba))) (by with_unfolding_all rfl)))) (fun _ _ _ _=>(ae 0)) trivial)
  (ah (aI (au sP oP (cr y_len (af (ae 3) ag al) (he:=al) (hpl:=ao)) ai (av _)) (aj (dF PassesOwn.never rfl (db (aG (ps:=["rows"]) C_law_choices (hr.mono (by omega)) (af (ae 0) ag al) (he:=al) (hpl:=ao))) (aZ (i:=4) sc_law_least.nd rfl (Or.inr rfl)) (cn 6 4 (by decide)) (aj (aI (gv (aG (ps:=["rows", "reach", "told"]) C_law_right (hr.mono (by omega)) (af (ae 0) (af (ae 1) (af (ae 4) ag al) al) al) (he:=al) (hpl:=(az al (az al ao))))) (aj (aI (dI (nR (au kc (iq hu6) (bO (iz rfl (ls:=["k", ".0"]) (.of (ak fQ)) (db (ae 3)) (fun _ _ _ _=>(aZ (i:=0) mM rfl (Or.inl rfl) (.inr rfl))) (cn 2 0 (by decide)) (fun _ _ _ _=>(sW (au sP oP (ar hu (ae 6) (ae 0) (fun _ _=>rfl)) (ar hu (ae 4) (ae 0) (fun _ _=>rfl)) (av _)))) (fun _ _ _ _=>(ae 0)) trivial)) (bO (aV ag)) (av _)) (kZ (au oQ my (aG (ps:=["rows", "reach", "told"]) C_right_lengths (hr.mono (by omega)) (af (ae 0) (af (ae 1) (af (ae 4) ag al) al) al) (he:=al) (hpl:=(az al (az al ao)))) eT (av _))))) (aj (ax eT)) aw)) aw)))) aw)
  (ah (dF PassesOwn.never rfl (db (ae 3)) (aZ (i:=5) sc_law_least.nd rfl (Or.inl rfl)) (cn 6 5 (by decide)) (ah (aC (i:=4) sc_law_least.nd rfl (Or.inr rfl) (aJ (aJ (gw (ae 2) eS (bH (ae 5))) (bO (aV (af (o8 ai (ar hu (ae 2) (ae 5) (fun _ _=>rfl))) ag cV)))) (gw (ae 2) (bH (aJ (ae 5) ai)) eS)))
  (aj (aI (au kc (iq hu6) (aG (ps:=["rows", "reach", "told"]) C_right_lengths (hr.mono (by omega)) (af (ae 0) (af (ae 1) (af (ae 4) ag al) al) al) (he:=al) (hpl:=(az al (az al ao)))) (aG (ps:=["rows", "reach", "told"]) C_law_right (hr.mono (by omega)) (af (ae 0) (af (ae 1) (af (ae 4) ag al) al) al) (he:=al) (hpl:=(az al (az al ao)))) (av _)) (aj (ax eT)) aw))))
  (aj (ax eT)))))
theorem sc_law:FnScope ["script", "program", "numbers", "rows", "k", "reach", "told"] ["script"] (ak vp):=⟨rfl,rfl,rfl,by decide+kernel,rfl,by decide+kernel,by decide+kernel⟩
theorem Ae {a_read:Addr}{d_read:FuncData}{a_law_text:Addr}{d_law_text:FuncData}{a_law_numbers:Addr}{d_law_numbers:FuncData}{a_law_cell_at:Addr}{d_law_cell_at:FuncData}{a_laid:Addr}{d_laid:FuncData}{a_law_order:Addr}{d_law_order:FuncData}{a_lengths:Addr}{d_lengths:FuncData}{a_law_right:Addr}{d_law_right:FuncData}{a_right_lengths:Addr}{d_right_lengths:FuncData}{a_law_least:Addr}{d_law_least:FuncData}(y_isinstance:mg "isinstance"=none)(y_len:mg "len"=none)(y_list:mg "list"=none)(y_range:mg "range"=none)(C_read:CG P w K mg base 67 "read" a_read d_read ["text"] 1 lm)(C_law_text:CG P w K mg base 3 "_law_text" a_law_text d_law_text ["script", "most"] 2 gA)(C_law_numbers:CG P w K mg base 1 "_law_numbers" a_law_numbers d_law_numbers ["cell", "many"] 2 bQ)(C_law_cell_at:CG P w K mg base 1 "_law_cell_at" a_law_cell_at d_law_cell_at ["script", "k"] 2 bR)(C_laid:CG P w K mg base 4 "laid" a_laid d_laid ["program", "order"] 2 nq)(C_law_order:CG P w K mg base 1 "_law_order" a_law_order d_law_order ["numbers", "many"] 2 fV)(C_lengths:CG P w K mg base 3 "lengths" a_lengths d_lengths ["rows", "reach"] 2 hU)(C_law_right:CG P w K mg base 1 "_law_right" a_law_right d_law_right ["rows", "reach", "told"] 3 cy)(C_right_lengths:CG P w K mg base 2 "right_lengths" a_right_lengths d_right_lengths ["rows", "reach", "told"] 3 bh)(C_law_least:CG P w K mg base 3 "_law_least" a_law_least d_law_least ["rows", "reach", "told"] 3 fW)(F:Fun K "law" "law" vp f fd)(B:Binds K fd ["script"] [])(Mf:mg "law"=some (.ref f)):CG P w K mg base 68 "law" f fd ["script"] 1 nZ:=by
 refine⟨bK (g:=tD) F sc_law rfl rfl rfl fun cdv A outer s H E hr=>?_,B,F.kp,Mf⟩
 have hu:=bJ hr
 have hu6:=hr.units
 exact (ah (aC (i:=1) sc_law.nd rfl (Or.inl rfl) (aG (ps:=["text"]) C_read (hr.mono (by omega)) (af (aG (ps:=["script", "most"]) C_law_text (hr.mono (by omega)) (af (ae 0) (af ai ag ba) al) (he:=al) (hpl:=(az ba ao))) ag cH) (he:=cH) (hpl:=ao)))
  (ah (aC (i:=2) sc_law.nd rfl (Or.inl rfl) (aG (ps:=["cell", "many"]) C_law_numbers (hr.mono (by omega)) (af (aG (ps:=["script", "k"]) C_law_cell_at (hr.mono (by omega)) (af (ae 0) (af ai ag ba) al) (he:=al) (hpl:=(az ba ao))) (af ai ag ba) cH) (he:=cH) (hpl:=(az ba ao))))
  (ah (aC (i:=3) sc_law.nd rfl (Or.inl rfl) (aG (ps:=["program", "order"]) C_laid (hr.mono (by omega)) (af (ae 1) (af (aG (ps:=["numbers", "many"]) C_law_order (hr.mono (by omega)) (af (ae 2) (af (cr y_len (af (ar hu (ae 1) ai (fun _ _=>rfl)) ag bf) (he:=bf) (hpl:=ao)) ag cH) al) (he:=al) (hpl:=(az cH ao))) ag cH) al) (he:=al) (hpl:=(az cH ao))))
  (ah (dF PassesOwn.never rfl (g0 rfl y_range (af ai ag ba)) (aZ (i:=4) sc_law.nd rfl (Or.inl rfl)) (cn 7 4 (by decide)) (ah (aC (i:=5) sc_law.nd rfl (Or.inl rfl) (cq (ar hu (ae 2) (aJ ai (ae 4)) (fun _ _=>rfl)) (ar hu (bO (aV (af ai (af ai (af ai (af ai ag ba) ba) ba) ba))) (ae 4) (fun _ _=>rfl))))
  (ah (aC (i:=6) sc_law.nd rfl (Or.inl rfl) (jY (aG (ps:=["rows", "reach"]) C_lengths (hr.mono (by omega)) (af (bO (sY y_list (af (ae 3) ag al) (he:=al) (hpl:=ao))) (af (ae 5) ag al) cH) (he:=cH) (hpl:=(az al ao)))))
  (ah (aI (dI (nR (la (gv (Ap y_isinstance (af (ae 6) (af (Bc y_list PyProof.Rows.boot_list) ag al) al) (he:=al) (hpl:=(az al ao))))) (kZ (la (gv (aG (ps:=["rows", "reach", "told"]) C_law_right (hr.mono (by omega)) (af (ae 3) (af (ae 5) (af (ae 6) ag al) al) al) (he:=al) (hpl:=(az al (az al ao))))))))) (aj (ax eT)) aw)
  (ah (aI (dI (nR (au oQ my (aG (ps:=["rows", "reach", "told"]) C_right_lengths (hr.mono (by omega)) (af (ae 3) (af (ae 5) (af (bO (sY y_list (af (ae 6) ag al) (he:=al) (hpl:=ao))) ag cH) al) al) (he:=al) (hpl:=(az al (az cH ao)))) eT (av _)) (kZ (au oQ my (aG (ps:=["rows", "reach", "told"]) C_right_lengths (hr.mono (by omega)) (af (ae 3) (af (ae 5) (af (aJ (ae 6) (bO (aV (af ai ag ba)))) ag cV) al) al) (he:=al) (hpl:=(az al (az cV ao)))) eT (av _))))) (aj (ax eT)) aw)
  (aj (aI (la (gv (aG (ps:=["rows", "reach", "told"]) C_law_least (hr.mono (by omega)) (af (ae 3) (af (ae 5) (af (ae 6) ag al) al) al) (he:=al) (hpl:=(az al (az al ao)))))) (aj (ax eT)) aw)))))))
  (aj (ax eT))))))
end
end Q
namespace Q
open PySem L2
local macro_rules | `(tactic| simp! only [$xs,*]) => `(tactic| try simp only [finF,cP,du,eC,eE,eD,dY,gC,gf,sFor,mMet,bu,sAug,sAugW,sFldW,tupW,sRet,sSet,sNil,sEx,sPass,dZ,sCont,sUnp,de,mB,L2.m2,L2.m1,L2.m3,mVar,mC,mCall,mCons,mNil,mTup,mTl,mNew,lenG,listL,mPart,bj,mAnd,mOr,mNot,mAndV,mOrV,mNotV,mIf,da,mMeth,isS,mSrc,mSrcA,srcL,srcT,srcS,tgN,tgT,setW,mYes,ck,bd_no,asB_bl,addW_int,subW_int,ltW_int,leW_int,gtW_int,geW_int,eqW_int,eqW_str,neW_int,neW_str,neW_bl,slW_tl,slW_cl,lenW_tl,lenW_tup,negW,List.set_cons_zero,List.set_cons_succ,List.getElem?_cons_zero,List.getElem?_cons_succ,List.length_cons,List.length_nil,arW,if_true,if_false,Bool.false_eq_true,ite_true,ite_false,reduceIte,decide_true,decide_false,Bool.not_true,Bool.not_false,gz,gdn0,gdn1,gdn2,gdn3,gdn4,gdn5,gdn6,gdn7,gdn8,gdn9,gdn10,gdn11,gdn12,gdn13,gdn14,gdn15,gdn16,gdn17,gdn18,gdn19,gdn20,gdn21,gdn22,gdn23,gdn24,$xs,*])
local macro_rules | `(tactic| simp!) => `(tactic| simp! only [aa])
section
theorem sz {n:Nat}(h:n<=100000):n<=sizeLine:=Nat.le_trans h (by decide)
theorem ph (l:List W):lstO (.tl l)=pr l:=rfl
theorem lH (l:List W):srcL (.tl l)=pr ⟨l,fun _=>True⟩:=rfl
theorem kG (l:List W):kH [.tl l]=pr (.tup l):=rfl
theorem iK (a b:List W)(h:a.length+b.length<=sizeLine):addW (.tl a) (.tl b)=pr (.tl (a++b)):=by
 show gd (a.length+b.length<=sizeLine) (pr (W.tl (a++b)))=_
 exact ay h
theorem cp18:CPow 10 18:=⟨by decide,by decide,by decide⟩
theorem s9 (l:List W):lenW [.cl l]=pr (.int l.length):=rfl
noncomputable def Pd:Nat->W->Prop
 |0,_=>False
 |n+1,w=>(∃i,w=.int i)\/(∃z,w=.str z/\PyData.strOk z=true)\/ ∃l,(w=.tup l\/w=.tl l)/\l.length<=1000/\ ∀x∈l,Pd n x
theorem Pd.int {n:Nat}{i:Int}:Pd (n+1) (.int i):=.inl ⟨i,rfl⟩
theorem Pd.str {n:Nat}{i:Str}(h:PyData.strOk i=true):Pd (n+1) (.str i):=.inr (.inl ⟨i,rfl,h⟩)
theorem Pd.tup {n:Nat}{l:List W}(z:l.length<=1000)(p:∀x∈l,Pd n x):Pd (n+1) (.tup l):=.inr (.inr ⟨l,.inl rfl,z,p⟩)
theorem pd2i {a:Str}{i:Int}{n:Nat}(h:PyData.strOk a=true):Pd (n+2) (.tup [.str a,.int i]):=.tup (by simp) fun x hx=>by
 rcases List.mem_cons.mp hx with rfl|hx
 ·exact .str h
 ·rw[List.mem_singleton.mp hx];exact .int
theorem pd2s {a b:Str}{n:Nat}(h:PyData.strOk a=true)(h2:PyData.strOk b=true):Pd (n+2) (.tup [.str a,.str b]):=.tup (by simp) fun x hx=>by
 rcases List.mem_cons.mp hx with rfl|hx
 ·exact .str h
 ·rw[List.mem_singleton.mp hx];exact .str h2
theorem pdT {l:List W}{n:Nat}(z:l.length<=1000)(h:∀x∈l,Pd n x):Pd (n+1) (.tup l):=.tup z h
theorem cD {n:Nat}{w:W}{l:List W}(h:Pd n w)(r:∀x∈l,Pd n x): ∀x∈w::l,Pd n x:=fun x hx=>by
 rcases List.mem_cons.mp hx with rfl|hx
 ·exact h
 ·exact r x hx
theorem kR {n:Nat}: ∀x∈([]:List W),Pd n x:=fun x hx=>absurd hx List.not_mem_nil
inductive E17
 |go (t:Int)
 |iff (s:Str)(a b:W)(x y:Int)
 |table (e:W)(ts:List Int)
 |stop
noncomputable def E17.w:E17->W
 |.go t=>.tup [.str "go",.int t]
 |.iff s a b x y=>.tup [.str "if",.str s,a,b,.int x,.int y]
 |.table e ts=>.tup [.str "table",e,.tup (ts.map W.int)]
 |.stop=>.tup [.str "stop"]
def E17.Good (m:Int):E17->Prop
 |.go t=>0<=t/\t<m
 |.iff s a b x y=>(0<=x/\x<m)/\(0<=y/\y<m)/\Pd 8 a/\Pd 8 b/\PyData.strOk s=true
 |.table e ts=>ts.length<=6/\(∀t∈ts,0<=t/\t<m)/\Pd 8 e
 |.stop=>True
theorem Ag:PyData.strOk "box"=true:=by decide+kernel
theorem um:PyData.strOk "number"=true:=by decide+kernel
end
section
open Wd
theorem sB:(" ":Str)=⟨#[32]⟩:=by decide+kernel
theorem v6:("\n":Str)=⟨#[10]⟩:=by decide+kernel
structure Cln (z:Str):Prop where
 sp:32 ∉ z.cps.toList
 nl:10 ∉ z.cps.toList
 len:z.length<=60
noncomputable def clnB (z:Str):Bool:=decide (32 ∉ z.cps.toList) && (decide (10 ∉ z.cps.toList) && decide (z.length<=60))
theorem Cln.of {z:Str}(h:clnB z=true):Cln z:=by
 unfold clnB at h
 simp only[Bool.and_eq_true,decide_eq_true_eq] at h
 exact⟨h.1,h.2.1,h.2.2⟩
theorem cM {z:Str}(h:bM z=true):Cln z:=by
 unfold bM at h
 simp only[Bool.and_eq_true,decide_eq_true_eq,List.all_eq_true] at h
 have q: ∀c∈z.cps.toList,97<=c:=fun c hc=>(isLet_iff.mp (h.2.1 c hc)).1
 exact⟨fun z=>absurd (q _ z) (by decide),fun z=>absurd (q _ z) (by decide),by omega⟩
theorem sS {z:Str}(h:numOk z=true):Cln z:=by
 unfold numOk at h
 simp only[Bool.and_eq_true,decide_eq_true_eq,List.all_eq_true] at h
 have q: ∀c∈z.cps.toList,48<=c:=fun c hc=>(isFig_iff.mp (h.2.2 c hc)).1
 exact⟨fun z=>absurd (q _ z) (by decide),fun z=>absurd (q _ z) (by decide),by omega⟩
noncomputable def exNm:Exp->List Str
 |.num _=>[]
 |.box x=>[x]
 |.bin _ l r=>exNm l++exNm r
noncomputable def exOk:Exp->Bool
 |.num _=>true
 |.box _=>true
 |.bin s l r=>decide (s∈(["+", "-", "*"]:List Str)) && (exOk l && exOk r)
noncomputable def exDp:Exp->Nat
 |.num _=>0
 |.box _=>0
 |.bin _ l r=>1+max (exDp l) (exDp r)
structure Wrd (z:Str)(e:Exp):Prop where
 ex:exprP z=some e
 c:Cln z
 ok:exOk e=true
 dp:exDp e<=60
 nm:(exNm e).length<=60
theorem sgn_ne:(decide (("+":Str)= "number")=false/\decide (("+":Str)= "box")=false)/\(decide (("-":Str)= "number")=false/\decide (("-":Str)= "box")=false)/\decide (("*":Str)= "number")=false/\decide (("*":Str)= "box")=false:=by decide+kernel
theorem Ah:decide (("box":Str)= "number")=false:=by decide+kernel
theorem zt {s:Str}(h:s∈(["+", "-", "*"]:List Str)):decide (s= "number")=false/\decide (s= "box")=false:=by
 simp only[List.mem_cons,List.not_mem_nil,or_false] at h
 rcases h with rfl|rfl|rfl
 ·exact sgn_ne.1
 ·exact sgn_ne.2.1
 ·exact sgn_ne.2.2
theorem mP: ∀ (n:Nat) (e:Exp),exDp e<n->(exNm e).length<=1000->exOk e=true->bv n [expW e]=pr (.tl ((exNm e).map W.str))
 |0,e,h,_,_=>absurd h (Nat.not_lt_zero _)
 |n+1,.num i,_,_,_=>by
  have e0:bv (n+1) [expW (.num i)]=bd (dk (bv n) [some (.tup [.str "number",.int i])]) finF:=rfl
  rw[e0]
  unfold dk
  simp! only[aa,ix0]
  rfl
 |n+1,.box x,_,_,_=>by
  have e0:bv (n+1) [expW (.box x)]=bd (dk (bv n) [some (.tup [.str "box",.str x])]) finF:=rfl
  rw[e0]
  unfold dk
  simp! only[aa,ix0,ix1,Ah]
  rfl
 |n+1,.bin s l r,h,z,k=>by
  have h:1+max (exDp l) (exDp r)<n+1:=h
  have z:(exNm l++exNm r).length<=1000:=z
  have k:(decide (s∈(["+", "-", "*"]:List Str)) && (exOk l && exOk r))=true:=k
  rw[List.length_append] at z
  rw[Bool.and_eq_true,Bool.and_eq_true,decide_eq_true_eq] at k
  have e0:bv (n+1) [expW (.bin s l r)]=bd (dk (bv n) [some (.tup [.str s,expW l,expW r])]) finF:=rfl
  rw[e0]
  unfold dk
  have h1:=mP n l (by omega) (by omega) k.2.1
  have h2:=mP n r (by omega) (by omega) k.2.2
  have sn:=zt k.1
  have ad:=iK ((exNm l).map W.str) ((exNm r).map W.str) (by rw[List.length_map,List.length_map];exact sz (by omega))
  simp! only[aa,ix0,ix1,ix2,sn.1,sn.2,h1,h2,ad]
  show pr _=pr (W.tl ((exNm l++exNm r).map W.str))
  rw[List.map_append]
inductive Rr
 |box (nm v:Str)
 |block (nm:Str)
 |put (nm z:Str)(e:Exp)
 |say (z:Str)(e:Exp)
 |ask (nm:Str)
 |go (nm:Str)
 |iff (s z1:Str)(e1:Exp)(z2:Str)(e2:Exp)(x y:Str)
 |table (z:Str)(e:Exp)(xs:List Str)
 |stop
def Rr.ws:Rr->List Str
 |.box nm v=>["box",nm,v]
 |.block nm=>["block",nm]
 |.put nm z _=>["put",nm,z]
 |.say z _=>["say",z]
 |.ask nm=>["ask",nm]
 |.go nm=>["go",nm]
 |.iff s z1 _ z2 _ x y=>["if",z1,s,z2,x, "else",y]
 |.table z _ xs=> "table"::z::xs
 |.stop=>["stop"]
def Rr.tx (r:Rr):Str:=Str.join ⟨#[32]⟩ r.ws
def Rr.form:Rr->W
 |.box nm v=>.tup [.str "box",.str nm,.int (fk v)]
 |.block nm=>.tup [.str "block",.str nm]
 |.put nm _ e=>.tup [.str "put",.str nm,expW e]
 |.say _ e=>.tup [.str "say",expW e]
 |.ask nm=>.tup [.str "ask",.str nm]
 |.go nm=>.tup [.str "go",.str nm]
 |.iff s _ e1 _ e2 x y=>.tup [.str "if",.str s,expW e1,expW e2,.str x,.str y]
 |.table _ e xs=>.tup [.str "table",expW e,.tup (xs.map W.str)]
 |.stop=>.tup [.str "stop"]
def Rr.Ok:Rr->Prop
 |.box nm v=>bM nm=true/\numOk v=true
 |.block nm=>bM nm=true
 |.put nm z e=>bM nm=true/\Wrd z e
 |.say z e=>Wrd z e
 |.ask nm=>bM nm=true
 |.go nm=>bM nm=true
 |.iff s z1 e1 z2 e2 x y=>(s= "<"\/s= "=")/\Wrd z1 e1/\Wrd z2 e2/\bM x=true/\bM y=true
 |.table z e xs=>Wrd z e/\xs≠ []/\xs.length<=6/\ ∀x∈xs,bM x=true
 |.stop=>True
theorem Bl:Cln "box"/\Cln "block"/\Cln "put"/\Cln "say"/\Cln "ask"/\Cln "go"/\Cln "if"/\Cln "else"/\Cln "table"/\Cln "stop"/\Cln "<"/\Cln "=":=⟨.of (by decide+kernel),.of (by decide+kernel),.of (by decide+kernel),.of (by decide+kernel),.of (by decide+kernel),.of (by decide+kernel),.of (by decide+kernel),.of (by decide+kernel),.of (by decide+kernel),.of (by decide+kernel),.of (by decide+kernel),.of (by decide+kernel)⟩
theorem gL: ∀z∈([]:List Str),Cln z:=fun z h=>absurd h List.not_mem_nil
theorem bq {z:Str}{l:List Str}(h:Cln z)(t:∀z∈l,Cln z): ∀y∈z::l,Cln y:=fun y hy=>by
 rcases List.mem_cons.mp hy with rfl|hy
 ·exact h
 ·exact t y hy
theorem Rr.Ok.cln {r:Rr}(g:r.Ok):(∀z∈r.ws,Cln z)/\r.ws≠ []/\r.ws.length<=8:=by
 obtain⟨k1,k2,k3,k4,k5,k6,k7,k8,k9,k10,k11,k12⟩:=Bl
 cases r with
 |box nm v=>exact⟨bq k1 (bq (cM g.1) (bq (sS g.2) gL)),by simp [ws],by simp [ws]⟩
 |block nm=>exact⟨bq k2 (bq (cM g) gL),by simp [ws],by simp [ws]⟩
 |put nm z e=>exact⟨bq k3 (bq (cM g.1) (bq g.2.c gL)),by simp [ws],by simp [ws]⟩
 |say z e=>exact⟨bq k4 (bq g.c gL),by simp [ws],by simp [ws]⟩
 |ask nm=>exact⟨bq k5 (bq (cM g) gL),by simp [ws],by simp [ws]⟩
 |go nm=>exact⟨bq k6 (bq (cM g) gL),by simp [ws],by simp [ws]⟩
 |iff s z1 e1 z2 e2 x y=>
  have hs:Cln s:=by rcases g.1 with rfl|rfl;exact k11;exact k12
  exact⟨bq k7 (bq g.2.1.c (bq hs (bq g.2.2.1.c (bq (cM g.2.2.2.1) (bq k8 (bq (cM g.2.2.2.2) gL)))))),by simp [ws],by simp [ws]⟩
 |table z e xs=>exact⟨bq k9 (bq g.1.c fun x hx=>cM (g.2.2.2 x hx)),by simp [ws],by have:=g.2.2.1;simp [ws];omega⟩
 |stop=>exact⟨bq k10 gL,by simp [ws],by simp [ws]⟩
theorem tf {c:Nat}{n:Nat}: ∀ {l:List Str},(∀z∈l,z.length<=n)->(Str.join ⟨#[c]⟩ l).length<=(n+1) * l.length:=fun{l} h=>by
 refine Nat.le_trans (StrLaws.join_length_le _ l) ?_
 have:(l.map (·.length)).sum<=n * l.length:=by
  induction l with
  |nil=>simp
  |cons z l ih=>
   have a:=h z List.mem_cons_self
   have b:=ih fun z hz=>h z (List.mem_cons_of_mem _ hz)
   rw[List.map_cons,List.sum_cons,List.length_cons,Nat.mul_succ]
   omega
 rw[Nat.add_mul,show (⟨#[c]⟩:Str).length=1 from rfl,Nat.mul_one,Nat.one_mul]
 omega
theorem Rr.Ok.len {r:Rr}(g:r.Ok):r.tx.length<=600:=by
 have a:=tf (c:=32) (n:=60) fun z hz=>(g.cln.1 z hz).len
 have b:=g.cln.2.2
 unfold Rr.tx
 omega
theorem xz {r:Rr}(g:r.Ok):splW (.str r.tx) [.str " "]=pr (.tl (r.ws.map W.str)):=by
 rw[sB]
 exact pX g.cln.2.1 (fun z hz=>(g.cln.1 z hz).sp) (sz (by have:=g.len;unfold Rr.tx at this;omega)) (sz (by have:=g.cln.2.2;omega))
theorem yu {l:List Str}(h:∀z∈l,10 ∉ z.cps.toList):10 ∉ (Str.join ⟨#[32]⟩ l).cps.toList:=by
 induction l with
 |nil=>exact fun z=>by cases z
 |cons x l ih=>
  cases l with
  |nil=>exact h x List.mem_cons_self
  |cons y l=>
   rw[g9,List.mem_append,List.mem_cons,not_or,not_or]
   exact⟨h x List.mem_cons_self,by decide,ih fun z hz=>h z (List.mem_cons_of_mem _ hz)⟩
theorem Rr.Ok.nl {r:Rr}(g:r.Ok):10 ∉ r.tx.cps.toList:=yu fun z hz=>(g.cln.1 z hz).nl
theorem uF {z:Str}(h:bM z=true):lP [.str z]=pr (.bl true):=by
 show gd (z.length<=sizeLine) (pr (W.bl (bM z)))=_
 rw[ay (sz (by have:=(cM h).len;omega)),h]
theorem wG {z:Str}(h:numOk z=true):pC [.str z]=pr (.bl true):=by
 show gd (z.length<=sizeLine) (pr (W.bl (numOk z)))=_
 rw[ay (sz (by have:=(sS h).len;omega)),h]
theorem ky {z:Str}{e:Exp}(h:Wrd z e):iH [.str z]=pr (expW e):=by
 show gd (z.length<=sizeLine) (match exprP z with
  |some e=>pr (expW e)
  |none=>no)=_
 rw[ay (sz (by have:=h.c.len;omega)),h.ex]
theorem di {z:Str}(h:bM z=true):cc [.str z]=pr (.str z):=by
 have e0:cc [.str z]=bd (jt [some (.str z)]) finF:=rfl
 rw[e0]
 unfold jt
 simp! only[aa,uF h]
theorem yx {z:Str}(h:numOk z=true):intW [.str z]=pr (.int (fk z)):=by
 have a:=qm h
 show (match PySem.intText? z with
  |some n=>gd (z.length<=640) (pr (W.int n))
  |none=>no)=_
 rw[a.1]
 exact ay a.2
theorem o4 {z:Str}(h:numOk z=true):fU [.str z]=pr (.int (fk z)):=by
 have e0:fU [.str z]=bd (gD [some (.str z)]) finF:=rfl
 rw[e0]
 unfold gD
 simp! only[aa,wG h,yx h]
theorem tx0 (a:W)(l:List W):ixW (.tl (a::l)) (.int 0)=pr a:=bY (br (by decide) rfl)
theorem tx1 (a b:W)(l:List W):ixW (.tl (a::b::l)) (.int 1)=pr b:=bY (br (by decide) rfl)
theorem tx2 (a b c:W)(l:List W):ixW (.tl (a::b::c::l)) (.int 2)=pr c:=bY (br (by decide) rfl)
theorem tx3 (a b c d:W)(l:List W):ixW (.tl (a::b::c::d::l)) (.int 3)=pr d:=bY (br (by decide) rfl)
theorem tx4 (a b c d e:W)(l:List W):ixW (.tl (a::b::c::d::e::l)) (.int 4)=pr e:=bY (br (by decide) rfl)
theorem tx5 (a b c d e f:W)(l:List W):ixW (.tl (a::b::c::d::e::f::l)) (.int 5)=pr f:=bY (br (by decide) rfl)
theorem tx6 (a b c d e f g:W)(l:List W):ixW (.tl (a::b::c::d::e::f::g::l)) (.int 6)=pr g:=bY (br (by decide) rfl)
theorem tp {x:Str}{ss:List Str}{h:List Ob}:inB (.str x) (.tup (ss.map W.str)) h=some (decide (x∈ss)):=by
 show (match vOf (.str x),vsOf (ss.map W.str) with
  |some v,some vs=>some (inV v vs)
  |_,_=>none)=_
 rw[eJ (k:=V.str) (fun a=>rfl)]
 show some (inV (.str x) (ss.map V.str))=_
 rw[hJ]
theorem lj {x:Str}{ss:List Str}:inW (.str x) (.tup (ss.map W.str))=pr (.bl (decide (x∈ss))):=by
 funext h
 unfold inW
 rw[tp];rfl
theorem uq {x:Str}{ss:List Str}:cL (.str x) (.tup (ss.map W.str))=pr (.bl (!decide (x∈ss))):=by
 funext h
 unfold cL
 rw[tp];rfl
theorem v5 {s:Str}(h:s= "<"\/s= "="):cL (.str s) (.tup ((["<", "="]:List Str).map W.str))=pr (.bl false):=by
 rw[uq,decide_eq_true (by simpa using h)];rfl
theorem hds:(decide (("box":Str)= "block")=false/\decide (("box":Str)= "put")=false/\decide (("box":Str)= "say")=false/\decide (("box":Str)= "ask")=false/\decide (("box":Str)= "go")=false/\decide (("box":Str)= "if")=false/\decide (("box":Str)= "table")=false/\decide (("box":Str)= "stop")=false)/\(decide (("block":Str)= "box")=false/\decide (("block":Str)= "put")=false/\decide (("block":Str)= "say")=false/\decide (("block":Str)= "ask")=false/\decide (("block":Str)= "go")=false/\decide (("block":Str)= "if")=false/\decide (("block":Str)= "table")=false/\decide (("block":Str)= "stop")=false)/\(decide (("put":Str)= "box")=false/\decide (("put":Str)= "block")=false/\decide (("put":Str)= "say")=false/\decide (("put":Str)= "ask")=false/\decide (("put":Str)= "go")=false/\decide (("put":Str)= "if")=false/\decide (("put":Str)= "table")=false/\decide (("put":Str)= "stop")=false)/\(decide (("say":Str)= "box")=false/\decide (("say":Str)= "block")=false/\decide (("say":Str)= "put")=false/\decide (("say":Str)= "ask")=false/\decide (("say":Str)= "go")=false/\decide (("say":Str)= "if")=false/\decide (("say":Str)= "table")=false/\decide (("say":Str)= "stop")=false)/\(decide (("ask":Str)= "box")=false/\decide (("ask":Str)= "block")=false/\decide (("ask":Str)= "put")=false/\decide (("ask":Str)= "say")=false/\decide (("ask":Str)= "go")=false/\decide (("ask":Str)= "if")=false/\decide (("ask":Str)= "table")=false/\decide (("ask":Str)= "stop")=false)/\(decide (("go":Str)= "box")=false/\decide (("go":Str)= "block")=false/\decide (("go":Str)= "put")=false/\decide (("go":Str)= "say")=false/\decide (("go":Str)= "ask")=false/\decide (("go":Str)= "if")=false/\decide (("go":Str)= "table")=false/\decide (("go":Str)= "stop")=false)/\(decide (("if":Str)= "box")=false/\decide (("if":Str)= "block")=false/\decide (("if":Str)= "put")=false/\decide (("if":Str)= "say")=false/\decide (("if":Str)= "ask")=false/\decide (("if":Str)= "go")=false/\decide (("if":Str)= "table")=false/\decide (("if":Str)= "stop")=false)/\(decide (("table":Str)= "box")=false/\decide (("table":Str)= "block")=false/\decide (("table":Str)= "put")=false/\decide (("table":Str)= "say")=false/\decide (("table":Str)= "ask")=false/\decide (("table":Str)= "go")=false/\decide (("table":Str)= "if")=false/\decide (("table":Str)= "stop")=false)/\(decide (("stop":Str)= "box")=false/\decide (("stop":Str)= "block")=false/\decide (("stop":Str)= "put")=false/\decide (("stop":Str)= "say")=false/\decide (("stop":Str)= "ask")=false/\decide (("stop":Str)= "go")=false/\decide (("stop":Str)= "if")=false/\decide (("stop":Str)= "table")=false):=⟨by decide+kernel,by decide+kernel,by decide+kernel,by decide+kernel,by decide+kernel,by decide+kernel,by decide+kernel,by decide+kernel,by decide+kernel⟩
theorem lB:(decide (((0+1:Nat):Int)=1)=true/\decide (((0+1:Nat):Int)=2)=false/\decide (((0+1:Nat):Int)=3)=false)/\(decide (((0+1+1:Nat):Int)=2)=true/\decide (((0+1+1:Nat):Int)=3)=false)/\decide (((0+1+1+1:Nat):Int)=3)=true/\decide (((0+1+1+1+1+1+1+1:Nat):Int)=7)=true:=by decide
theorem yL {s z1 z2 x y:Str}{e1 e2:Exp}(g:(Rr.iff s z1 e1 z2 e2 x y).Ok):dm [.tl ((Rr.iff s z1 e1 z2 e2 x y).ws.map W.str)]=pr (Rr.iff s z1 e1 z2 e2 x y).form:=by
 obtain⟨g1,g2,g3,g4,g5⟩:=g
 have e0:dm [.tl ((Rr.iff s z1 e1 z2 e2 x y).ws.map W.str)]=bd (eW [some (.tl [.str "if",.str z1,.str s,.str z2,.str x,.str "else",.str y]),none,none,none]) finF:=rfl
 rw[e0]
 unfold eW
 simp! only[aa,tx1,tx2,tx3,tx4,tx5,tx6,v5 g1,ky g2,ky g3,di g4,di g5]
 rfl
theorem rO {xs:List Str}{ρ:Env'}(h:∀x∈xs,bM x=true):compM (fun _=>True) (tgN 0) mYes (mCall (arW 1 cc) (mCons (mVar 0) mNil)) 2 (xs.map W.str) ρ=pr (xs.map W.str):=by
 have:=kA (t:=tgN 0) (f:=mYes) (e:=mCall (arW 1 cc) (mCons (mVar 0) mNil)) (n:=2) (ρ:=ρ) (b:=fun _=>true) (v:=id) (l:=xs.map W.str) fun w hw=>by
  obtain⟨x,hx,rfl⟩:=List.mem_map.mp hw
  refine⟨_,rfl,rfl,fun _=>?_⟩
  simp! only[List.replicate,List.cons_append,List.nil_append,aa,di (h x hx),id]
 rw[this,List.map_id,List.filter_eq_self.mpr fun _ _=>rfl]
theorem yB {r:Rr}(g:r.Ok):hW [.str r.tx]=pr r.form:=by
 have e0:hW [.str r.tx]=bd (jA [some (.str r.tx),none,none,none]) finF:=rfl
 rw[e0]
 unfold jA
 have sp:=xz g
 cases r with
 |box nm v=>
  generalize (Rr.box nm v).tx=T at *
  simp! only[aa,sp,Rr.ws,List.map_cons,List.map_nil,tx0,tx1,tx2,di g.1,o4 g.2,eq_self,decide_true,lB]
  rfl
 |block nm=>
  generalize (Rr.block nm).tx=T at *
  simp! only[aa,sp,Rr.ws,List.map_cons,List.map_nil,tx0,tx1,tx2,hds,di g,eq_self,decide_true,lB]
  rfl
 |put nm z e=>
  generalize (Rr.put nm z e).tx=T at *
  simp! only[aa,sp,Rr.ws,List.map_cons,List.map_nil,tx0,tx1,tx2,hds,di g.1,ky g.2,eq_self,decide_true,lB]
  rfl
 |say z e=>
  generalize (Rr.say z e).tx=T at *
  simp! only[aa,sp,Rr.ws,List.map_cons,List.map_nil,tx0,tx1,tx2,hds,ky g,eq_self,decide_true,lB]
  rfl
 |ask nm=>
  generalize (Rr.ask nm).tx=T at *
  simp! only[aa,sp,Rr.ws,List.map_cons,List.map_nil,tx0,tx1,tx2,hds,di g,eq_self,decide_true,lB]
  rfl
 |go nm=>
  generalize (Rr.go nm).tx=T at *
  simp! only[aa,sp,Rr.ws,List.map_cons,List.map_nil,tx0,tx1,tx2,hds,di g,eq_self,decide_true,lB]
  rfl
 |iff s z1 e1 z2 e2 x y=>
  have ce:=yL g
  generalize (Rr.iff s z1 e1 z2 e2 x y).tx=T at *
  generalize (Rr.iff s z1 e1 z2 e2 x y).form=F at *
  simp only[Rr.ws,List.map_cons,List.map_nil] at sp ce
  simp! only[aa,sp,tx0,tx1,tx2,hds,eq_self,decide_true,lB,ce]
 |table z e xs=>
  obtain⟨g1,g2,g3,g4⟩:=g
  generalize (Rr.table z e xs).tx=T at *
  simp only[Rr.ws,List.map_cons] at sp
  have cu:cutW (W.str "table"::W.str z::xs.map W.str) (some 2) none=xs.map W.str:=by
   unfold cutW
   show List.take _ (xs.map W.str)=_
   rw[List.take_of_length_le]
   show _<=(xs.map W.str).length+1+1 - 2
   omega
  have l0:0<xs.length:=List.length_pos_iff.mpr g2
  have gl: ∀ {α:Type} (q:M α),gd ((xs.map W.str).length<=sizeLine) q=q:=fun q=>ay (by rw[List.length_map];exact sz (by omega))
  have c1:decide ((3:Int)<=(((xs.map W.str).length+1+1:Nat):Int))=true:=decide_eq_true (by rw[List.length_map];omega)
  have c2:decide ((((xs.map W.str).length+1+1:Nat):Int)<=2+6)=true:=decide_eq_true (by rw[List.length_map];omega)
  have nc: ∀ρ,_:=fun ρ=>rO (ρ:=ρ) g4
  simp! only[aa,sp,tx0,tx1,hds,eq_self,decide_true,c1,c2,ky g1,cu,bu,lH,gl,nc,kG]
  rfl
 |stop=>
  generalize Rr.stop.tx=T at *
  simp! only[aa,sp,Rr.ws,List.map_cons,List.map_nil,tx0,hds,eq_self,decide_true,lB]
  rfl
end
section
open Wd
noncomputable def fldN:List Str:=["boxes", "block_names", "ended_blocks", "statements"]
theorem fne:(((("block_names":Str)= "boxes")=False)/\((("ended_blocks":Str)= "boxes")=False)/\((("statements":Str)= "boxes")=False)/\((("ended_blocks":Str)= "block_names")=False)/\((("statements":Str)= "block_names")=False)/\((("statements":Str)= "ended_blocks")=False))/\(((("boxes":Str)= "statements")=False)/\((("block_names":Str)= "statements")=False)/\((("ended_blocks":Str)= "statements")=False))/\((("boxes":Str)= "block_names")=False)/\((("boxes":Str)= "ended_blocks")=False)/\((("block_names":Str)= "ended_blocks")=False):=
 ⟨⟨eq_false (by decide+kernel),eq_false (by decide+kernel),eq_false (by decide+kernel),eq_false (by decide+kernel),eq_false (by decide+kernel),eq_false (by decide+kernel)⟩,⟨eq_false (by decide+kernel),eq_false (by decide+kernel),eq_false (by decide+kernel)⟩,eq_false (by decide+kernel),eq_false (by decide+kernel),eq_false (by decide+kernel)⟩
theorem ym (a b c d:W):lookF fldN [a,b,c,d] "boxes"=some a:=by simp only[fldN,lookF,if_true]
theorem qC (a b c d:W):lookF fldN [a,b,c,d] "block_names"=some b:=by simp only[fldN,lookF,fne,if_true,if_false]
theorem Ar (a b c d:W):lookF fldN [a,b,c,d] "ended_blocks"=some c:=by simp only[fldN,lookF,fne,if_true,if_false]
theorem Aq (a b c d:W):lookF fldN [a,b,c,d] "statements"=some d:=by simp only[fldN,lookF,fne,if_true,if_false]
theorem Bw (a b c d y:W):putN fldN [a,b,c,d] "statements" y=(fldN,[a,b,c,y]):=by simp only[fldN,putN,fne,if_true,if_false]
theorem mt_no:("in_block":Str) ∉ fldN/\("box_names":Str) ∉ fldN/\("check_place":Str) ∉ fldN/\("check_twice":Str) ∉ fldN/\("check_room":Str) ∉ fldN/\("check_boxes":Str) ∉ fldN/\("put_down":Str) ∉ fldN/\("take":Str) ∉ fldN/\("told_program":Str) ∉ fldN:=by decide+kernel
structure RS where
 bx:List (Str×Int)
 nm:List Str
 dn:List (Str×List W×Rr)
 st:List W
noncomputable def bqW (b:Str×Int):W:=.tup [.str b.1,.int b.2]
def dnW (b:Str×List W×Rr):W:=.tup [.str b.1,.tl b.2.1,b.2.2.form]
structure RdAt (h:List Ob)(o jb jn je js:Nat)(s:RS):Prop where
 ob:h[o]?=some (.ins "Reading" fldN [.loc jb,.loc jn,.loc je,.loc js])
 b:h[jb]?=some (.lst (s.bx.map bqW))
 n:h[jn]?=some (.lst (s.nm.map W.str))
 e:h[je]?=some (.lst (s.dn.map dnW))
 st:s.dn.length<s.nm.length->h[js]?=some (.lst s.st)
 ne:o<jb/\jb<jn/\jn<je/\je<js
 z:s.bx.length<=4/\s.nm.length<=10/\s.dn.length<=s.nm.length/\s.st.length<=8/\s.nm.length<=s.dn.length+1
section
variable {h:List Ob}{o jb jn je js:Nat}{s:RS}
theorem ng (A:RdAt h o jb jn je js s):Ok (bw [.loc o]) h fun w h'=>w=.bl (decide (s.dn.length<s.nm.length))/\h'=h:=by
 have e0:bw [.loc o]=bd (cS [some (.loc o)]) finF:=rfl
 rw[e0]
 unfold cS
 simp!
 refine cZ A.ob (qC ..) ?_
 simp!
 refine (Lw.len (.inr ⟨jn,rfl,A.n⟩)) ?_
 simp!
 refine cZ A.ob (Ar ..) ?_
 simp!
 refine (Lw.len (.inr ⟨je,rfl,A.e⟩)) ?_
 simp!
 refine aB ⟨?_,rfl⟩
 rw[List.length_map,List.length_map]
 congr 1
 rw[decide_eq_decide]
 omega
theorem oa (A:RdAt h o jb jn je js s):Ok (bD [.loc o]) h fun w h'=>w=.tl ((s.bx.map (·.1)).map W.str)/\h'=h:=by
 have e0:bD [.loc o]=bd (cJ [some (.loc o)]) finF:=rfl
 rw[e0]
 unfold cJ
 simp!
 refine cZ A.ob (ym ..) ?_
 refine oS A.b ?_
 have gl: ∀ {α:Type} (q:M α),gd ((s.bx.map bqW).length<=sizeLine) q=q:=fun q=>ay (by rw[List.length_map];exact sz (by have:=A.z.1;omega))
 simp! only[aa,gl]
 refine jo (I:=fun i a h'=>h'=h/\a=((s.bx.take i).map (·.1)).map W.str) ⟨rfl,rfl⟩ kF (fun _ _ _ I=>by rw[I.1];exact A.b) (fun i w a h' hw I=>?_) fun a h' I=>?_
 ·obtain⟨rfl,rfl⟩:=I
  rw[List.getElem?_map] at hw
  obtain⟨b,hb,rfl⟩:=Option.map_eq_some_iff.mp hw
  refine⟨_,rfl,?_⟩
  simp! only[List.replicate,List.cons_append,List.nil_append,aa]
  refine aB ⟨rfl,?_⟩
  rw[List.take_succ,hb,List.map_append,List.map_append];rfl
 ·obtain⟨rfl,rfl⟩:=I
  rw[List.length_map,List.take_length]
  simp!
  exact aB ⟨rfl,rfl⟩
theorem zH (A:RdAt h o jb jn je js s)(p:s.nm=[]):Ok (aM [.loc o,.str "box"]) h fun _ h'=>h'=h:=by
 have e0:aM [.loc o,.str "box"]=bd (aY [some (.loc o),some (.str "box")]) finF:=rfl
 rw[e0]
 unfold aY
 simp!
 refine cZ A.ob (qC ..) ?_
 simp!
 refine (Lw.len (.inr ⟨jn,rfl,A.n⟩)) ?_
 have:decide ((0:Int)<(((s.nm.map W.str).length:Nat):Int))=false:=by rw[p];rfl
 simp! only[aa,this]
 exact aB rfl
theorem vJ (A:RdAt h o jb jn je js s)(p:s.dn.length=s.nm.length):Ok (aM [.loc o,.str "block"]) h fun _ h'=>h'=h:=by
 have e0:aM [.loc o,.str "block"]=bd (aY [some (.loc o),some (.str "block")]) finF:=rfl
 rw[e0]
 unfold aY
 simp! only[aa,hds]
 refine ga A.ob mt_no.1 ?_
 simp!
 refine bN (ng A) fun w h' qq_=>?_
 obtain⟨ew,eh⟩:=qq_
 subst ew eh
 simp! only[aa,decide_eq_false (show¬s.dn.length<s.nm.length by omega)]
 exact aB rfl
theorem A1 {z:Str}(A:RdAt h o jb jn je js s)(n1:decide (z= "box")=false)(n2:decide (z= "block")=false)(p:s.dn.length<s.nm.length):Ok (aM [.loc o,.str z]) h fun _ h'=>h'=h:=by
 have e0:aM [.loc o,.str z]=bd (aY [some (.loc o),some (.str z)]) finF:=rfl
 rw[e0]
 unfold aY
 simp! only[aa,n1,n2]
 refine ga A.ob mt_no.1 ?_
 simp!
 refine bN (ng A) fun w h' qq_=>?_
 obtain⟨ew,eh⟩:=qq_
 subst ew eh
 simp! only[aa,decide_eq_true p]
 exact aB rfl
theorem zf {nm:Str}{w:W}(A:RdAt h o jb jn je js s)(p:nm ∉ s.bx.map (·.1)):Ok (aK [.loc o,.tup [.str "box",.str nm,w]]) h fun _ h'=>h'=h:=by
 have e0:aK [.loc o,.tup [.str "box",.str nm,w]]=bd (aX [some (.loc o),some (.tup [.str "box",.str nm,w])]) finF:=rfl
 rw[e0]
 unfold aX
 simp! only[aa,ix0,ix1]
 refine ga A.ob mt_no.2.1 ?_
 simp!
 refine bN (oa A) fun w h' qq_=>?_
 obtain⟨ew,eh⟩:=qq_
 subst ew eh
 simp! only[aa,tm,decide_eq_false p,hds]
 exact aB rfl
theorem uZ {nm:Str}(A:RdAt h o jb jn je js s)(p:nm ∉ s.nm):Ok (aK [.loc o,.tup [.str "block",.str nm]]) h fun _ h'=>h'=h:=by
 have e0:aK [.loc o,.tup [.str "block",.str nm]]=bd (aX [some (.loc o),some (.tup [.str "block",.str nm])]) finF:=rfl
 rw[e0]
 unfold aX
 simp! only[aa,ix0,ix1,hds]
 refine cZ A.ob (qC ..) ?_
 simp!
 refine A9 A.n ?_
 simp! only[aa,decide_eq_false p]
 exact aB rfl
theorem AW {z:Str}{l:List W}(n1:decide (z= "box")=false)(n2:decide (z= "block")=false):Ok (aK [.loc o,.tup (.str z::l)]) h fun _ h'=>h'=h:=by
 have e0:aK [.loc o,.tup (.str z::l)]=bd (aX [some (.loc o),some (.tup (.str z::l))]) finF:=rfl
 rw[e0]
 unfold aX
 simp! only[aa,ix0,n1,n2]
 exact aB rfl
theorem stm_no:decide (("box":Str)∈(["put", "say", "ask"]:List Str))=false/\decide (("block":Str)∈(["put", "say", "ask"]:List Str))=false:=by decide+kernel
theorem zy (A:RdAt h o jb jn je js s)(p:s.bx.length<4):Ok (aQ [.loc o,.str "box"]) h fun _ h'=>h'=h:=by
 have e0:aQ [.loc o,.str "box"]=bd (be [some (.loc o),some (.str "box")]) finF:=rfl
 rw[e0]
 unfold be
 simp!
 refine cZ A.ob (ym ..) ?_
 simp!
 refine (Lw.len (.inr ⟨jb,rfl,A.b⟩)) ?_
 have:decide ((((s.bx.map bqW).length:Nat):Int)=4)=false:=decide_eq_false (by rw[List.length_map];omega)
 simp! only[aa,this,hds,lj,stm_no.1]
 exact aB rfl
theorem vD (A:RdAt h o jb jn je js s)(p:s.nm.length<10):Ok (aQ [.loc o,.str "block"]) h fun _ h'=>h'=h:=by
 have e0:aQ [.loc o,.str "block"]=bd (be [some (.loc o),some (.str "block")]) finF:=rfl
 rw[e0]
 unfold be
 simp! only[aa,hds]
 refine cZ A.ob (qC ..) ?_
 simp!
 refine (Lw.len (.inr ⟨jn,rfl,A.n⟩)) ?_
 have:decide ((((s.nm.map W.str).length:Nat):Int)=10)=false:=decide_eq_false (by rw[List.length_map];omega)
 simp! only[aa,this,hds,lj,stm_no.2]
 exact aB rfl
theorem AZ {z:Str}(A:RdAt h o jb jn je js s)(n1:decide (z= "box")=false)(n2:decide (z= "block")=false)(p:s.dn.length<s.nm.length)(q:z∈(["put", "say", "ask"]:List Str)->s.st.length<8):Ok (aQ [.loc o,.str z]) h fun _ h'=>h'=h:=by
 have e0:aQ [.loc o,.str z]=bd (be [some (.loc o),some (.str z)]) finF:=rfl
 rw[e0]
 unfold be
 by_cases c:z∈(["put", "say", "ask"]:List Str)
 ·simp! only[aa,n1,n2,lj,decide_eq_true c]
  refine cZ A.ob (Aq ..) ?_
  simp!
  refine (Lw.len (.inr ⟨js,rfl,A.st p⟩)) ?_
  have q:=q c
  have:decide (((s.st.length:Nat):Int)=8)=false:=decide_eq_false (by omega)
  simp! only[aa,this]
  exact aB rfl
 ·simp! only[aa,n1,n2,lj,decide_eq_false c]
  exact aB rfl
def Rr.bxs:Rr->List Str
 |.put nm _ e=>nm::exNm e
 |.say _ e=>exNm e
 |.ask nm=>[nm]
 |.iff _ _ e1 _ e2 _ _=>exNm e1++exNm e2
 |.table _ e _=>exNm e
 |_=>[]
theorem ki {z:Str}{e:Exp}(h:Wrd z e):bv 62 [expW e]=pr (.tl ((exNm e).map W.str)):=mP 62 e (by have:=h.dp;omega) (by have:=h.nm;omega) h.ok
theorem wa {r:Rr}(g:r.Ok):bp [r.form]=pr (.tl (r.bxs.map W.str)):=by
 cases r with
 |box nm v=>
  have e0:bp [(Rr.box nm v).form]=bd (aD [some (.tup [.str "box",.str nm,.int (fk v)])]) finF:=rfl
  rw[e0];unfold aD
  simp! only[aa,ix0,hds]
  rfl
 |block nm=>
  have e0:bp [(Rr.block nm).form]=bd (aD [some (.tup [.str "block",.str nm])]) finF:=rfl
  rw[e0];unfold aD
  simp! only[aa,ix0,hds]
  rfl
 |put nm z e=>
  have e0:bp [(Rr.put nm z e).form]=bd (aD [some (.tup [.str "put",.str nm,expW e])]) finF:=rfl
  rw[e0];unfold aD
  have gl: ∀ {α:Type} (q:M α),gd (0+1+((exNm e).map W.str).length<=sizeLine) q=q:=fun q=>ay (by rw[List.length_map];exact sz (by have:=g.2.nm;omega))
  simp! only[aa,ix0,ix1,ix2,hds,ki g.2,catL,ph,gl]
  rfl
 |say z e=>
  have e0:bp [(Rr.say z e).form]=bd (aD [some (.tup [.str "say",expW e])]) finF:=rfl
  rw[e0];unfold aD
  simp! only[aa,ix0,ix1,hds,ki g]
  rfl
 |ask nm=>
  have e0:bp [(Rr.ask nm).form]=bd (aD [some (.tup [.str "ask",.str nm])]) finF:=rfl
  rw[e0];unfold aD
  simp! only[aa,ix0,ix1,hds]
  rfl
 |go nm=>
  have e0:bp [(Rr.go nm).form]=bd (aD [some (.tup [.str "go",.str nm])]) finF:=rfl
  rw[e0];unfold aD
  simp! only[aa,ix0,ix1,hds]
  rfl
 |iff s z1 e1 z2 e2 x y=>
  have e0:bp [(Rr.iff s z1 e1 z2 e2 x y).form]=bd (aD [some (.tup [.str "if",.str s,expW e1,expW e2,.str x,.str y])]) finF:=rfl
  rw[e0];unfold aD
  have ad:=iK ((exNm e1).map W.str) ((exNm e2).map W.str) (by rw[List.length_map,List.length_map];exact sz (by have:=g.2.1.nm;have:=g.2.2.1.nm;omega))
  simp! only[aa,ix0,ix2,ix3,hds,ki g.2.1,ki g.2.2.1,ad]
  show pr _=pr (W.tl ((exNm e1++exNm e2).map W.str))
  rw[List.map_append]
 |table z e xs=>
  have e0:bp [(Rr.table z e xs).form]=bd (aD [some (.tup [.str "table",expW e,.tup (xs.map W.str)])]) finF:=rfl
  rw[e0];unfold aD
  simp! only[aa,ix0,ix1,hds,ki g.1]
  rfl
 |stop=>
  have e0:bp [(Rr.stop).form]=bd (aD [some (.tup [.str "stop"])]) finF:=rfl
  rw[e0];unfold aD
  simp! only[aa,ix0,hds]
  rfl
theorem xc {r:Rr}(g:r.Ok)(A:RdAt h o jb jn je js s)(p:∀x∈r.bxs,x∈s.bx.map (·.1)):Ok (bE [.loc o,r.form]) h fun _ h'=>h'=h:=by
 have e0:bE [.loc o,r.form]=bd (cA [some (.loc o),some r.form,none,none]) finF:=rfl
 rw[e0]
 unfold cA
 have ne:=wa g
 generalize r.form=F at *
 simp!
 refine ga A.ob mt_no.2.1 ?_
 simp!
 refine bN (oa A) fun w h' qq_=>?_
 obtain⟨ew,eh⟩:=qq_
 subst ew eh
 simp! only[aa,ne,lH]
 refine eQ (I:=fun i ρ h1=>h1=h'/\ ∃a,ρ=[some (.loc o),some F,some (.tl ((s.bx.map (·.1)).map W.str)),a]) ⟨rfl,_,rfl⟩ (fun _ _ _ _=>trivial) (fun i w ρ h1 hw I=>?_) fun ρ h1 I=>?_
 ·obtain⟨rfl,a,rfl⟩:=I
  rw[List.getElem?_map] at hw
  obtain⟨x,hx,rfl⟩:=Option.map_eq_some_iff.mp hw
  refine⟨_,rfl,?_⟩
  simp! only[aa,mL,decide_eq_true (p x (List.mem_of_getElem? hx))]
  exact aB ⟨_,rfl,rfl,_,rfl⟩
 ·obtain⟨rfl,a,rfl⟩:=I
  simp!
  exact aB rfl
end
end
section
open Wd
def Rr.stm:Rr->Bool
 |.put _ _ _=>true
 |.say _ _=>true
 |.ask _=>true
 |_=>false
noncomputable def Rr.end':Rr->Bool
 |.go _=>true
 |.iff _ _ _ _ _ _ _=>true
 |.table _ _ _=>true
 |.stop=>true
 |_=>false
def RS.step (s:RS)(r:Rr):RS:=match r with
 |.box nm v=>{s with bx:=s.bx++[(nm,fk v)]}
 |.block nm=>{s with nm:=s.nm++[nm],st:=[]}
 |.put nm z e=>{s with st:=s.st++[(Rr.put nm z e).form]}
 |.say z e=>{s with st:=s.st++[(Rr.say z e).form]}
 |.ask nm=>{s with st:=s.st++[(Rr.ask nm).form]}
 |r=>{s with dn:=s.dn++[(s.nm.getLastD "",s.st,r)]}
theorem pU {s:RS}{r:Rr}(h:r.stm=true):s.step r={s with st:=s.st++[r.form]}:=by
 cases r<;>first|rfl|cases h
theorem pW {s:RS}{r:Rr}(h:r.end'=true):s.step r={s with dn:=s.dn++[(s.nm.getLastD "",s.st,r)]}:=by
 cases r<;>first|rfl|cases h
structure PreIn (s:RS)(r:Rr):Prop where
 i:s.dn.length<s.nm.length
 c:r.stm=true->s.st.length<8
 b: ∀x∈r.bxs,x∈s.bx.map (·.1)
noncomputable def Pre (s:RS)(r:Rr):Prop:=match r with
 |.box nm _=>s.nm=[]/\nm ∉ s.bx.map (·.1)/\s.bx.length<4
 |.block nm=>s.dn.length=s.nm.length/\nm ∉ s.nm/\s.nm.length<10
 |r=>PreIn s r
theorem zG {s:RS}{r:Rr}(p:Pre s r)(h:r.stm=true\/r.end'=true):PreIn s r:=by
 cases r<;>first|exact p|(rcases h with h|h<;>cases h)
structure Fo (o:Nat)(h h':List Ob):Prop where
 eq: ∀i,i<o->h'[i]?=h[i]?
 le:h.length<=h'.length
theorem Fo.refl (o:Nat)(h:List Ob):Fo o h h:=⟨fun _ _=>rfl,Nat.le_refl _⟩
theorem Fo.trans {o:Nat}{a b c:List Ob}(x:Fo o a b)(y:Fo o b c):Fo o a c:=⟨fun i hi=>(y.eq i hi).trans (x.eq i hi),Nat.le_trans x.le y.le⟩
theorem Fo.set {o j:Nat}{h:List Ob}{b:Ob}(hj:o<=j):Fo o h (h.set j b):=⟨fun i hi=>by rw[List.getElem?_set_ne (by omega)],by rw[List.length_set];exact Nat.le_refl _⟩
def Rr.hd:Rr->Str
 |.box _ _=> "box"
 |.block _=> "block"
 |.put _ _ _=> "put"
 |.say _ _=> "say"
 |.ask _=> "ask"
 |.go _=> "go"
 |.iff _ _ _ _ _ _ _=> "if"
 |.table _ _ _=> "table"
 |.stop=> "stop"
theorem lN (r:Rr): ∃l,r.form=.tup (.str r.hd::l):=by cases r<;>exact⟨_,rfl⟩
theorem wO {r:Rr}(h:r.stm=true\/r.end'=true):decide (r.hd= "box")=false/\decide (r.hd= "block")=false:=by
 cases r<;>first|(rcases h with h|h<;>cases h;done)|(unfold Rr.hd;simp only[hds];exact⟨trivial,trivial⟩)|(unfold Rr.hd;simp only[hds,and_self])
theorem stm_yes:("put":Str)∈(["put", "say", "ask"]:List Str)/\("say":Str)∈(["put", "say", "ask"]:List Str)/\("ask":Str)∈(["put", "say", "ask"]:List Str):=by decide+kernel
theorem end_no:("go":Str) ∉ (["put", "say", "ask"]:List Str)/\("if":Str) ∉ (["put", "say", "ask"]:List Str)/\("table":Str) ∉ (["put", "say", "ask"]:List Str)/\("stop":Str) ∉ (["put", "say", "ask"]:List Str):=by decide+kernel
theorem AC {r:Rr}(h:r.stm=true):r.hd∈(["put", "say", "ask"]:List Str):=by
 cases r<;>first|exact absurd h Bool.false_ne_true|exact stm_yes.1|exact stm_yes.2.1|exact stm_yes.2.2
theorem wP {r:Rr}(h:r.end'=true):r.hd ∉ (["put", "say", "ask"]:List Str):=by
 cases r<;>first|exact absurd h Bool.false_ne_true|exact end_no.1|exact end_no.2.1|exact end_no.2.2.1|exact end_no.2.2.2
section
variable {h:List Ob}{o jb jn je js:Nat}{s:RS}
theorem zS {nm v:Str}(A:RdAt h o jb jn je js s)(p:Pre s (.box nm v)):Ok (aP [.loc o,(Rr.box nm v).form]) h fun _ h'=>RdAt h' o jb jn je js (s.step (.box nm v))/\Fo o h h':=by
 have e0:aP [.loc o,(Rr.box nm v).form]=bd (aU [some (.loc o),some (.tup [.str "box",.str nm,.int (fk v)])]) finF:=rfl
 rw[e0]
 unfold aU
 obtain⟨n1,n2,n3,n4⟩:=A.ne
 have p:s.nm=[]/\nm ∉ s.bx.map (·.1)/\s.bx.length<4:=p
 simp! only[aa,ix0]
 refine cZ A.ob (ym ..) ?_
 refine cK A.b ?_
 simp! only[aa,ix1,ix2]
 refine gc A.b (by rw[List.length_map];exact Nat.lt_of_le_of_lt (show _<=10 by omega) (by decide)) ?_
 simp!
 refine aB ⟨⟨?_,?_,?_,?_,?_,A.ne,?_⟩,Fo.set (by omega)⟩
 ·rw[List.getElem?_set_ne (by omega)];exact A.ob
 ·rw[cN A.b];show _=some (Ob.lst ((s.bx++[(nm,fk v)]).map bqW));rw[List.map_append];rfl
 ·rw[List.getElem?_set_ne (by omega)];exact A.n
 ·rw[List.getElem?_set_ne (by omega)];exact A.e
 ·intro q;rw[List.getElem?_set_ne (by omega)];exact A.st q
 ·obtain⟨z1,z2,z3,z4,z5⟩:=A.z
  refine⟨?_,z2,z3,z4,z5⟩
  show (s.bx++[_]).length<=4
  rw[List.length_append,List.length_singleton];omega
theorem vR {nm:Str}(A:RdAt h o jb jn je js s)(p:Pre s (.block nm)):Ok (aP [.loc o,(Rr.block nm).form]) h fun _ h'=>(∃js',RdAt h' o jb jn je js' (s.step (.block nm)))/\Fo o h h':=by
 have e0:aP [.loc o,(Rr.block nm).form]=bd (aU [some (.loc o),some (.tup [.str "block",.str nm])]) finF:=rfl
 rw[e0]
 unfold aU
 obtain⟨n1,n2,n3,n4⟩:=A.ne
 have p:s.dn.length=s.nm.length/\nm ∉ s.nm/\s.nm.length<10:=p
 simp! only[aa,ix0,hds]
 refine cZ A.ob (qC ..) ?_
 refine cK A.n ?_
 simp! only[aa,ix1]
 refine gc A.n (by rw[List.length_map];exact Nat.lt_of_le_of_lt (show _<=10 by omega) (by decide)) ?_
 simp!
 refine gr ?_
 simp!
 have le:=eA A.e
 have lo:=eA A.ob
 have ln:=eA A.n
 have eo:(h.set jn (.lst (s.nm.map W.str++[.str nm]))++[.lst []])[o]?=some (.ins "Reading" fldN [.loc jb,.loc jn,.loc je,.loc js]):=by
  rw[List.getElem?_append_left (by rw[List.length_set];exact lo),List.getElem?_set_ne (by omega)];exact A.ob
 refine vY eo (by show 4<1000;decide) (Bw ..) ?_
 simp!
 have hl:(h.set jn (.lst (s.nm.map W.str++[.str nm]))).length=h.length:=List.length_set ..
 refine aB ⟨⟨h.length,⟨?_,?_,?_,?_,?_,?_,?_⟩⟩,⟨fun i hi=>?_,?_⟩⟩
 ·rw[cN eo,hl]
 ·rw[List.getElem?_set_ne (by omega),List.getElem?_append_left (by rw[hl];exact eA A.b),List.getElem?_set_ne (by omega)];exact A.b
 ·rw[List.getElem?_set_ne (by omega),List.getElem?_append_left (by rw[hl];exact ln),cN A.n];show _=some (Ob.lst ((s.nm++[nm]).map W.str));rw[List.map_append];rfl
 ·rw[List.getElem?_set_ne (by omega),List.getElem?_append_left (by rw[hl];exact le),List.getElem?_set_ne (by omega)];exact A.e
 ·intro _
  rw[List.getElem?_set_ne (by omega)]
  have:=dO (h:=h.set jn (.lst (s.nm.map W.str++[.str nm]))) (a:=.lst [])
  rw[hl] at this
  exact this
 ·exact⟨n1,n2,n3,le⟩
 ·obtain⟨z1,z2,z3,z4,z5⟩:=A.z
  refine⟨z1,?_,?_,Nat.zero_le _,?_⟩
  ·show (s.nm++[nm]).length<=10
   rw[List.length_append,List.length_singleton];omega
  ·show s.dn.length<=(s.nm++[nm]).length
   rw[List.length_append,List.length_singleton];omega
  ·show (s.nm++[nm]).length<=s.dn.length+1
   rw[List.length_append,List.length_singleton];omega
 ·rw[List.getElem?_set_ne (by omega),List.getElem?_append_left (by rw[hl];omega),List.getElem?_set_ne (by omega)]
 ·rw[List.length_set,List.length_append,hl];omega
theorem zQ {r:Rr}(q:r.stm=true)(A:RdAt h o jb jn je js s)(p:PreIn s r):Ok (aP [.loc o,r.form]) h fun _ h'=>RdAt h' o jb jn je js (s.step r)/\Fo o h h':=by
 rw[pU q]
 have nh:=wO (r:=r) (.inl q)
 have st:=AC q
 obtain⟨l,e⟩:=lN r
 rw[e]
 have e0:aP [.loc o,.tup (.str r.hd::l)]=bd (aU [some (.loc o),some (.tup (.str r.hd::l))]) finF:=rfl
 rw[e0]
 unfold aU
 obtain⟨n1,n2,n3,n4⟩:=A.ne
 have pr':=p.c q
 simp! only[aa,ix0,nh.1,nh.2,lj,decide_eq_true st]
 refine cZ A.ob (Aq ..) ?_
 refine cK (A.st p.i) ?_
 simp!
 refine gc (A.st p.i) (Nat.lt_of_le_of_lt (show _<=10 by omega) (by decide)) ?_
 simp!
 refine aB ⟨⟨?_,?_,?_,?_,?_,A.ne,?_⟩,Fo.set (by omega)⟩
 ·rw[List.getElem?_set_ne (by omega)];exact A.ob
 ·rw[List.getElem?_set_ne (by omega)];exact A.b
 ·rw[List.getElem?_set_ne (by omega)];exact A.n
 ·rw[List.getElem?_set_ne (by omega)];exact A.e
 ·intro _;rw[cN (A.st p.i)]
 ·obtain⟨z1,z2,z3,z4,z5⟩:=A.z
  refine⟨z1,z2,z3,?_,z5⟩
  show (s.st++[_]).length<=8
  rw[List.length_append,List.length_singleton];omega
theorem r9 {l:List Str}(h:l≠ []):atI (l.map W.str) (-1)=some (.str (l.getLastD "")):=by
 have e:l=l.dropLast++[l.getLast h]:=(List.dropLast_concat_getLast h).symm
 have g:l.getLastD ""=l.getLast h:=by
  cases l with
  |nil=>exact absurd rfl h
  |cons a l=>rw[List.getLastD_cons,List.getLast_eq_getLastD]
 rw[g]
 conv=>lhs;rw[e,List.map_append]
 exact jf _ _
theorem zR {r:Rr}(q:r.end'=true)(A:RdAt h o jb jn je js s)(p:PreIn s r):Ok (aP [.loc o,r.form]) h fun _ h'=>RdAt h' o jb jn je js (s.step r)/\Fo o h h':=by
 rw[pW q]
 have nh:=wO (r:=r) (.inr q)
 have st:=wP q
 obtain⟨l,e⟩:=lN r
 have ie: ∀x,W.tup [.str x,.tl s.st,.tup (.str r.hd::l)]=dnW (x,s.st,r):=fun x=>by unfold dnW;rw[<-e]
 rw[e]
 have e0:aP [.loc o,.tup (.str r.hd::l)]=bd (aU [some (.loc o),some (.tup (.str r.hd::l))]) finF:=rfl
 rw[e0]
 unfold aU
 obtain⟨n1,n2,n3,n4⟩:=A.ne
 obtain⟨z1,z2,z3,z4,z5⟩:=A.z
 have pi:=p.i
 have nn:s.nm≠ []:=fun z=>by rw[z] at pi;simp at pi
 simp! only[aa,ix0,nh.1,nh.2,lj,decide_eq_false st]
 refine cZ A.ob (Ar ..) ?_
 refine cK A.e ?_
 simp!
 refine cZ A.ob (qC ..) ?_
 simp!
 refine nO A.n (r9 nn) ?_
 simp!
 refine cZ A.ob (Aq ..) ?_
 refine jU (A.st pi) ?_
 have e2:(h.set js .gone)[je]?=some (.lst (s.dn.map dnW)):=by rw[List.getElem?_set_ne (by omega)];exact A.e
 simp!
 refine gc e2 (by rw[List.length_map];exact Nat.lt_of_le_of_lt (show _<=10 by omega) (by decide)) ?_
 simp!
 refine aB ⟨⟨?_,?_,?_,?_,?_,A.ne,?_⟩,(Fo.set (by omega)).trans (Fo.set (by omega))⟩
 ·rw[List.getElem?_set_ne (by omega),List.getElem?_set_ne (by omega)];exact A.ob
 ·rw[List.getElem?_set_ne (by omega),List.getElem?_set_ne (by omega)];exact A.b
 ·rw[List.getElem?_set_ne (by omega),List.getElem?_set_ne (by omega)];exact A.n
 ·rw[cN e2,ie];show _=some (Ob.lst ((s.dn++[_]).map dnW));rw[List.map_append];rfl
 ·intro q
  have q:(s.dn++[_]).length<s.nm.length:=q
  rw[List.length_append,List.length_singleton] at q
  omega
 ·refine⟨z1,z2,?_,z4,?_⟩
  ·show (s.dn++[_]).length<=s.nm.length
   rw[List.length_append,List.length_singleton];omega
  ·show s.nm.length<=(s.dn++[_]).length+1
   rw[List.length_append,List.length_singleton];omega
theorem Be (r:Rr):(∃nm v,r=.box nm v)\/(∃nm,r=.block nm)\/r.stm=true\/r.end'=true:=by
 cases r<;>first|exact .inl ⟨_,_,rfl⟩|exact .inr (.inl ⟨_,rfl⟩)|exact .inr (.inr (.inl rfl))|exact .inr (.inr (.inr rfl))
theorem xu {r:Rr}(g:r.Ok)(A:RdAt h o jb jn je js s)(p:Pre s r):Ok (dt [.loc o,r.form]) h fun w h'=>w=.non/\(∃js',RdAt h' o jb jn je js' (s.step r))/\Fo o h h':=by
 have e0:dt [.loc o,r.form]=bd (eX [some (.loc o),some r.form]) finF:=rfl
 rw[e0]
 unfold eX
 obtain⟨m1,m2,m3,m4,m5,m6,m7,m8,m9⟩:=mt_no
 have st:Ok (aM [.loc o,.str r.hd]) h (fun _ h'=>h'=h)/\Ok (aK [.loc o,r.form]) h (fun _ h'=>h'=h)/\Ok (aQ [.loc o,.str r.hd]) h (fun _ h'=>h'=h)/\Ok (bE [.loc o,r.form]) h (fun _ h'=>h'=h)/\Ok (aP [.loc o,r.form]) h fun _ h'=>(∃js',RdAt h' o jb jn je js' (s.step r))/\Fo o h h':=by
  rcases Be r with⟨nm,v,rfl⟩|⟨nm,rfl⟩|q
  ·have p':s.nm=[]/\nm ∉ s.bx.map (·.1)/\s.bx.length<4:=p
   exact⟨zH A p'.1,zf A p'.2.1,zy A p'.2.2,xc g A (fun x hx=>absurd hx List.not_mem_nil),(zS A p).imp fun _ _ ⟨a,b⟩=>⟨⟨_,a⟩,b⟩⟩
  ·have p':s.dn.length=s.nm.length/\nm ∉ s.nm/\s.nm.length<10:=p
   exact⟨vJ A p'.1,uZ A p'.2.1,vD A p'.2.2,xc g A (fun x hx=>absurd hx List.not_mem_nil),vR A p⟩
  ·have pi:=zG p q
   have nh:=wO q
   obtain⟨l,e⟩:=lN r
   refine⟨A1 A nh.1 nh.2 pi.i,by rw[e];exact AW nh.1 nh.2,AZ A nh.1 nh.2 pi.i fun hm=>?_,xc g A pi.b,?_⟩
   ·rcases q with q|q
    ·exact pi.c q
    ·exact absurd hm (wP q)
   ·rcases q with q|q
    ·exact (zQ q A pi).imp fun _ _ ⟨a,b⟩=>⟨⟨_,a⟩,b⟩
    ·exact (zR q A pi).imp fun _ _ ⟨a,b⟩=>⟨⟨_,a⟩,b⟩
 obtain⟨s1,s2,s3,s4,s5⟩:=st
 have ih:ixW r.form (.int 0)=pr (.str r.hd):=by obtain⟨l,e⟩:=lN r;rw[e];exact ix0 ..
 generalize r.form=F at *
 simp!
 refine ga A.ob m3 ?_
 simp! only[aa,ih]
 refine bN s1 fun _ h1 eh=>?_
 subst eh
 simp!
 refine ga A.ob m4 ?_
 simp!
 refine bN s2 fun _ h1 eh=>?_
 subst eh
 simp!
 refine ga A.ob m5 ?_
 simp! only[aa,ih]
 refine bN s3 fun _ h1 eh=>?_
 subst eh
 simp!
 refine ga A.ob m6 ?_
 simp!
 refine bN s4 fun _ h1 eh=>?_
 subst eh
 simp!
 refine ga A.ob m7 ?_
 simp!
 refine bN s5 fun _ h1 q=>?_
 simp!
 exact aB ⟨rfl,q⟩
end
end
section
open Wd
noncomputable def ixOf (l:List Str)(x:Str):Nat:=(l.findIdx? (fun m=>decide (m=x))).getD 0
theorem nV {l:List Str}{x:Str}(h:x∈l):l.findIdx? (fun m=>decide (m=x))=some (ixOf l x)/\ixOf l x<l.length:=by
 unfold ixOf
 cases e:l.findIdx? (fun m=>decide (m=x)) with
 |none=>
  rw[List.findIdx?_eq_none_iff] at e
  have:=e x h
  simp at this
 |some i=>
  refine⟨rfl,?_⟩
  rw[List.findIdx?_eq_some_iff_getElem] at e
  exact e.1
def Rr.en (l:List Str):Rr->E17
 |.go nm=>.go (ixOf l nm:Nat)
 |.iff s _ e1 _ e2 x y=>.iff s (expW e1) (expW e2) (ixOf l x:Nat) (ixOf l y:Nat)
 |.table _ e xs=>.table (expW e) (xs.map fun x=>((ixOf l x:Nat):Int))
 |_=>.stop
noncomputable def Rr.tos:Rr->List Str
 |.go nm=>[nm]
 |.iff _ _ _ _ _ x y=>[x,y]
 |.table _ _ xs=>xs
 |_=>[]
section
variable {h:List Ob}{jn:Nat}{ss:List Str}
theorem vZ {β:Type}{Q:β->List Ob->Prop}{j:Nat}{x:Str}{ss:List Str}{k:W->M β}(e:h[j]?=some (.lst (ss.map W.str)))(q:Ok (k (.bl (!decide (x∈ss)))) h Q):Ok (bd (cL (.str x) (.loc j)) k) h Q:=by
 refine cC (a:=.bl (!decide (x∈ss))) (h':=h) ?_ q
 unfold cL
 have d:dicOf (.loc j) h=none:=by unfold dicOf;simp only[e]
 have lo:lstOf (.loc j) h=.ok (ss.map W.str) h:=by unfold lstOf;simp only[e]
 have e:inB (.str x) (.loc j) h=some (decide (x∈ss)):=by
  unfold inB
  simp only[d,lo,eJ (g:=W.str) (k:=V.str) (fun a=>rfl) ss]
  show some (inV (.str x) (ss.map V.str))=_
  rw[hJ]
 rw[e]
theorem mW {j:Nat}{l:List W}(e:h[j]?=some (.lst l)):lstO (.loc j) h=.ok l h:=by
 unfold lstO
 simp only[e]
theorem j9 {x:Str}(e:h[jn]?=some (.lst (ss.map W.str)))(m:x∈ss):Ok (dl [.str x,.loc jn]) h fun w h'=>w=.int (ixOf ss x:Nat)/\h'=h:=by
 have e0:dl [.str x,.loc jn]=bd (iC [some (.str x),some (.loc jn)]) finF:=rfl
 rw[e0]
 unfold iC
 simp!
 refine vZ e ?_
 simp! only[aa,decide_eq_true m,isLO]
 refine cC (mW e) ?_
 simp! only[aa,sidxW]
 refine cC (mW e) ?_
 have o:optL sOf (ss.map W.str)=some ss:=kd (f:=sOf) (g:=W.str) (fun a=>rfl) ss
 rw[o]
 dsimp only
 rw[(nV m).1]
 simp!
 exact aB ⟨rfl,rfl⟩
theorem sl64 (a b c d e f:W):slW (.tup [a,b,c,d,e,f]) none (some 4)=pr (.tup [a,b,c,d]):=by
 show gd (¬(HT.sIx 6 0 none=0/\HT.sIx 6 6 (some 4)=6)) (pr (W.tup (cutW [a,b,c,d,e,f] none (some 4))))=_
 rw[ay (by decide)];rfl
theorem AT (a b c d e f:W):addW (.tup [a,b,c,d]) (.tup [e,f])=pr (.tup [a,b,c,d,e,f]):=by
 show gd _ (pr (W.tup ([a,b,c,d]++[e,f])))=_
 rw[ay ⟨rfl,sz (by show 4+2<=_;omega)⟩];rfl
theorem yE {r:Rr}(q:r.end'=true)(e:h[jn]?=some (.lst (ss.map W.str)))(g:r.Ok)(m:∀x∈r.tos,x∈ss):Ok (bW [r.form,.loc jn]) h fun w h'=>w=(r.en ss).w/\h'=h:=by
 cases r with
 |go nm=>
  have e0:bW [(Rr.go nm).form,.loc jn]=bd (bz [some (.tup [.str "go",.str nm]),some (.loc jn)]) finF:=rfl
  rw[e0];unfold bz
  simp! only[aa,ix0,ix1,hds]
  refine bN (j9 e (m nm List.mem_cons_self)) fun w h' qq_=>?_
  obtain⟨ew,eh⟩:=qq_
  subst ew eh
  simp!
  exact aB ⟨rfl,rfl⟩
 |iff s z1 e1 z2 e2 x y=>
  have e0:bW [(Rr.iff s z1 e1 z2 e2 x y).form,.loc jn]=bd (bz [some (.tup [.str "if",.str s,expW e1,expW e2,.str x,.str y]),some (.loc jn)]) finF:=rfl
  rw[e0];unfold bz
  simp! only[aa,ix0,ix4,ix5,hds,sl64]
  refine bN (j9 e (m x List.mem_cons_self)) fun w h' qq_=>?_
  obtain⟨ew,eh⟩:=qq_
  subst ew eh
  simp! only[aa,ix5]
  refine bN (j9 e (m y (List.mem_cons_of_mem _ List.mem_cons_self))) fun w h' qq_=>?_
  obtain⟨ew,eh⟩:=qq_
  subst ew eh
  simp! only[aa,AT]
  exact aB ⟨rfl,rfl⟩
 |table z e1 xs=>
  have e0:bW [(Rr.table z e1 xs).form,.loc jn]=bd (bz [some (.tup [.str "table",expW e1,.tup (xs.map W.str)]),some (.loc jn)]) finF:=rfl
  rw[e0];unfold bz
  have gl: ∀ {α:Type} (q:M α),gd ((xs.map W.str).length<=sizeLine) q=q:=fun q=>ay (by rw[List.length_map];exact sz (by have:=g.2.2.1;omega))
  simp! only[aa,ix0,ix1,ix2,hds,gl]
  refine jo (I:=fun i a h'=>h'=h/\a=((xs.take i).map fun x=>((ixOf ss x:Nat):Int)).map W.int) ⟨rfl,rfl⟩ kF (fun _ _ _ _=>trivial) (fun i w a h' hw I=>?_) fun a h' I=>?_
  ·obtain⟨rfl,rfl⟩:=I
   rw[List.getElem?_map] at hw
   obtain⟨x,hx,rfl⟩:=Option.map_eq_some_iff.mp hw
   refine⟨_,rfl,?_⟩
   simp! only[List.replicate,List.cons_append,List.nil_append,aa]
   refine (j9 e (m x (List.mem_of_getElem? hx))).imp fun w h2 qz=>?_
   obtain⟨ew,eh⟩:=qz
   subst ew eh
   refine⟨rfl,?_⟩
   rw[List.take_succ,hx,List.map_append,List.map_append];rfl
  ·obtain⟨rfl,rfl⟩:=I
   rw[List.length_map,List.take_length]
   simp! only[aa,kG]
   exact aB ⟨rfl,rfl⟩
 |stop=>
  have e0:bW [Rr.stop.form,.loc jn]=bd (bz [some (.tup [.str "stop"]),some (.loc jn)]) finF:=rfl
  rw[e0];unfold bz
  simp! only[aa,ix0,hds]
  exact aB ⟨rfl,rfl⟩
 |_=>cases q
end
def bkW (l:List Str)(b:Str×List W×Rr):W:=.tup [.str b.1,.tl b.2.1,(b.2.2.en l).w]
structure EndsOk (s:RS):Prop where
 l:s.dn.length=s.nm.length
 l1:1<=s.nm.length
 e: ∀b∈s.dn,b.2.2.end'=true/\b.2.2.Ok/\ ∀x∈b.2.2.tos,x∈s.nm
theorem xr {h:List Ob}{o jb jn je js:Nat}{s:RS}(A:RdAt h o jb jn je js s)(E:EndsOk s):Ok (bU [.loc o]) h fun w h'=>w=.tup [.tl (s.bx.map bqW),.tl (s.dn.map (bkW s.nm))]/\Fo o h h':=by
 have e0:bU [.loc o]=bd (cx [some (.loc o),none,none,none,none]) finF:=rfl
 rw[e0]
 unfold cx
 obtain⟨n1,n2,n3,n4⟩:=A.ne
 obtain⟨z1,z2,z3,z4,z5⟩:=A.z
 have el:=E.l
 have el1:=E.l1
 have lo:=eA A.ob
 have lb:=eA A.b
 have ln:=eA A.n
 have le:=eA A.e
 simp!
 refine ga A.ob mt_no.1 ?_
 simp!
 refine bN (ng A) fun w h' qq_=>?_
 obtain⟨ew,eh⟩:=qq_
 subst ew eh
 simp! only[aa,decide_eq_false (show¬s.dn.length<s.nm.length by omega)]
 refine cZ A.ob (qC ..) ?_
 simp!
 refine (Lw.len (.inr ⟨jn,rfl,A.n⟩)) ?_
 have d0:decide ((((s.nm.map W.str).length:Nat):Int)=0)=false:=decide_eq_false (by rw[List.length_map];omega)
 simp! only[aa,d0]
 refine gr ?_
 have ap: ∀ {j:Nat}{b:Ob},h'[j]?=some b->(h'++[.lst []])[j]?=some b:=fun e=>tu e
 simp!
 refine cZ (ap A.ob) (Ar ..) ?_
 refine oS (ap A.e) ?_
 simp!
 refine eQ (I:=fun i ρ h1=> ∃a b c,ρ=[some (.loc o),some (.loc h'.length),a,b,c]/\h1.length=h'.length+1/\(∀j,j<h'.length->h1[j]?=h'[j]?)/\h1[h'.length]?=some (.lst ((s.dn.take i).map (bkW s.nm)))) ⟨_,_,_,rfl,by simp,fun j hj=>by rw[List.getElem?_append_left hj],dO⟩ (fun _ _ _ I=>by obtain⟨a,b,c,_,_,q,_⟩:=I;rw[q _ le];exact A.e) (fun i w ρ h1 hw I=>?_) fun ρ h1 I=>?_
 ·obtain⟨a,b,c,rfl,l1,q1,q2⟩:=I
  rw[List.getElem?_map] at hw
  obtain⟨⟨nm,sts,r⟩,hb,rfl⟩:=Option.map_eq_some_iff.mp hw
  obtain⟨r1,r2,r3⟩:=E.e _ (List.mem_of_getElem? hb)
  have hi:=(List.getElem?_eq_some_iff.mp hb).1
  refine⟨[some (.loc o),some (.loc h'.length),some (.str nm),some (.tl sts),some r.form],rfl,?_⟩
  have en:h1[jn]?=some (.lst (s.nm.map W.str)):=by rw[q1 _ ln];exact A.n
  have eo:h1[o]?=some (.ins "Reading" fldN [.loc jb,.loc jn,.loc je,.loc js]):=by rw[q1 _ lo];exact A.ob
  have eb:=yE r1 en r2 r3
  generalize r.form=F at *
  simp!
  refine cK q2 ?_
  simp!
  refine cZ eo (qC ..) ?_
  simp!
  refine bN eb fun w h2 qq_=>?_
  obtain⟨ew,eh⟩:=qq_
  subst ew eh
  simp!
  refine gc q2 (by rw[List.length_map,List.length_take];exact Nat.lt_of_le_of_lt (show _<=10 by omega) (by decide)) ?_
  simp!
  refine aB ⟨_,rfl,_,_,_,rfl,by rw[List.length_set];exact l1,fun j hj=>by rw[List.getElem?_set_ne (by omega)];exact q1 j hj,?_⟩
  rw[cN q2,List.take_succ,hb,List.map_append];rfl
 ·obtain⟨a,b,c,rfl,l1,q1,q2⟩:=I
  rw[List.length_map,List.take_length] at q2
  have eo:h1[o]?=some (.ins "Reading" fldN [.loc jb,.loc jn,.loc je,.loc js]):=by rw[q1 _ lo];exact A.ob
  have eb:h1[jb]?=some (.lst (s.bx.map bqW)):=by rw[q1 _ lb];exact A.b
  simp!
  refine cZ eo (ym ..) ?_
  refine jU eb ?_
  have q3:(h1.set jb .gone)[h'.length]?=some (.lst (s.dn.map (bkW s.nm))):=by rw[List.getElem?_set_ne (by omega)];exact q2
  simp!
  refine jU q3 ?_
  simp!
  refine aB ⟨rfl,fun i hi=>?_,?_⟩
  ·rw[List.getElem?_set_ne (by omega),List.getElem?_set_ne (by omega)];exact q1 i (by omega)
  ·rw[List.length_set,List.length_set,l1];omega
def OkR:List Rr->RS->Prop
 |[],_=>True
 |r::rs,s=>(r.Ok/\Pre s r)/\OkR rs (s.step r)
def runR (rs:List Rr)(s:RS):RS:=rs.foldl RS.step s
theorem lK: ∀ {a b:List Rr}{s:RS},OkR a s->OkR b (runR a s)->OkR (a++b) s
 |[],_,_,_,h=>h
 |r::a,b,s,g,h=>⟨g.1,lK (a:=a) g.2 h⟩
theorem mi (a b:List Rr)(s:RS):runR (a++b) s=runR b (runR a s):=List.foldl_append ..
theorem sR: ∀ {a:List Rr}{s:RS},OkR a s-> ∀r∈a,r.Ok
 |[],_,_,r,h=>absurd h List.not_mem_nil
 |x::a,s,g,r,h=>by
  rcases List.mem_cons.mp h with rfl|h
  ·exact g.1.1
  ·exact sR g.2 r h
noncomputable def RS.nil:RS:=⟨[],[],[],[]⟩
section
variable {β:Type}{h:List Ob}{Q:β->List Ob->Prop}
theorem o5 {L:List Ob}{k:W->M β}{l:List W}{n:Nat}(hn:L.length=n)(q:Ok (k (.loc (h.length+n))) (h++(L++[.lst l])) Q):Ok (bd (newW l) k) (h++L) Q:=by
 refine gr ?_
 rw[List.length_append,List.append_assoc,hn]
 exact q
theorem oI {L:List Ob}{c f:Str}{ns ns':List Str}{ws ws':List W}{y:W}{k:Unit->M β}(z:ns.length<1000)(e2:putN ns ws f y=(ns',ws'))(q:Ok (k ()) (h++.ins c ns' ws'::L) Q):Ok (bd (putG c f (.loc h.length) y) k) (h++.ins c ns ws::L) Q:=by
 refine vY (by rw[List.getElem?_append_right (Nat.le_refl _),Nat.sub_self];rfl) z e2 ?_
 rw[List.set_append_right _ _ (Nat.le_refl _),Nat.sub_self]
 exact q
end
theorem yy (h:List Ob):Ok (cz [.loc h.length]) (h++[.ins "Reading" [] []]) fun w h'=>w=.non/\RdAt h' h.length (h.length+1) (h.length+2) (h.length+3) (h.length+4) RS.nil/\Fo h.length h h':=by
 have e0:cz [.loc h.length]=bd (cT [some (.loc h.length)]) finF:=rfl
 rw[e0]
 unfold cT
 simp!
 refine o5 (n:=1) rfl ?_
 simp! only[List.cons_append,List.nil_append,aa]
 refine oI (by show 0<1000;decide) (ns':=["boxes"]) (ws':=[.loc (h.length+1)]) rfl ?_
 simp!
 refine o5 (n:=2) rfl ?_
 simp! only[List.cons_append,List.nil_append,aa]
 refine oI (by show 1<1000;decide) (ns':=["boxes", "block_names"]) (ws':=[.loc (h.length+1),.loc (h.length+2)]) (by simp only[putN,fne,if_false]) ?_
 simp!
 refine o5 (n:=3) rfl ?_
 simp! only[List.cons_append,List.nil_append,aa]
 refine oI (by show 2<1000;decide) (ns':=["boxes", "block_names", "ended_blocks"]) (ws':=[.loc (h.length+1),.loc (h.length+2),.loc (h.length+3)]) (by simp only[putN,fne,if_false]) ?_
 simp!
 refine o5 (n:=4) rfl ?_
 simp! only[List.cons_append,List.nil_append,aa]
 refine oI (by show 3<1000;decide) (ns':=fldN) (ws':=[.loc (h.length+1),.loc (h.length+2),.loc (h.length+3),.loc (h.length+4)]) (by simp only[fldN,putN,fne,if_false]) ?_
 simp!
 have at': ∀ (L:List Ob) (k:Nat),(h++L)[h.length+k]?=L[k]?:=fun L k=>by rw[List.getElem?_append_right (by omega)];congr 1;omega
 refine aB ⟨rfl,⟨at' _ 0,at' _ 1,at' _ 2,at' _ 3,fun _=>at' _ 4,⟨by omega,by omega,by omega,by omega⟩,⟨Nat.zero_le _,Nat.zero_le _,Nat.le_refl _,Nat.zero_le _,Nat.zero_le _⟩⟩,⟨fun i hi=>List.getElem?_append_left hi,by rw[List.length_append];omega⟩⟩
def textR (rs:List Rr):Str:=Str.join ⟨#[10]⟩ (rs.map Rr.tx)
theorem xI {h:List Ob}{rs:List Rr}(K:OkR rs RS.nil)(E:EndsOk (runR rs RS.nil))(l1:rs≠ [])(l2:rs.length<=120):Ok (lm [.str (textR rs)]) h fun w h'=>w=.tup [.tl ((runR rs RS.nil).bx.map bqW),.tl ((runR rs RS.nil).dn.map (bkW (runR rs RS.nil).nm))]/\Fo h.length h h':=by
 have e0:lm [.str (textR rs)]=bd (pA [some (.str (textR rs)),none,none,none]) finF:=rfl
 rw[e0]
 unfold pA
 have all:=sR K
 have hz: ∀z∈rs.map Rr.tx,z.length<=600:=fun z hz=>by
  obtain⟨r,hr,rfl⟩:=List.mem_map.mp hz
  exact (all r hr).len
 have sp:splW (.str (textR rs)) [.str "\n"]=pr (.tl ((rs.map Rr.tx).map W.str)):=by
  rw[v6]
  refine pX (fun z=>l1 (List.map_eq_nil_iff.mp z)) (fun z hz=>?_) (Nat.le_trans (tf hz) ?_) (sz (by rw[List.length_map];omega))
  ·obtain⟨r,hr,rfl⟩:=List.mem_map.mp hz
   exact (all r hr).nl
  ·rw[List.length_map];exact sz (by omega)
 generalize textR rs=T at *
 have d0:decide ((120:Int)<((((rs.map Rr.tx).map W.str).length:Nat):Int))=false:=decide_eq_false (by rw[List.length_map,List.length_map];omega)
 simp! only[aa,sp,d0,mMake]
 refine xY (by rfl) (yy h) fun h1 qz=>?_
 obtain⟨A,F1⟩:=qz
 simp! only[aa,lH]
 generalize h.length+1=jb at *
 generalize h.length+2=jn at *
 generalize h.length+3=je at *
 generalize h.length+4=js at *
 generalize ho:h.length=o at *
 have m8:=mt_no.2.2.2.2.2.2.2.1
 have m9:=mt_no.2.2.2.2.2.2.2.2
 refine eQ (I:=fun i ρ h2=> ∃a js s,ρ=[some (.str T),some (.tl ((rs.map Rr.tx).map W.str)),some (.loc o),a]/\RdAt h2 o jb jn je js s/\OkR (rs.drop i) s/\runR (rs.drop i) s=runR rs RS.nil/\Fo o h h2) ⟨_,js,RS.nil,rfl,A,K,rfl,F1⟩ (fun _ _ _ _=>trivial) (fun i w ρ h2 hw I=>?_) fun ρ h2 I=>?_
 ·obtain⟨a,js,s,rfl,A,K,er,F2⟩:=I
  rw[List.getElem?_map,List.getElem?_map] at hw
  obtain⟨x,hx,rfl⟩:=Option.map_eq_some_iff.mp hw
  obtain⟨r,hr,rfl⟩:=Option.map_eq_some_iff.mp hx
  have hi:=(List.getElem?_eq_some_iff.mp hr).1
  have ed:rs.drop i=r::rs.drop (i+1):=by
   rw[List.drop_eq_getElem_cons hi]
   congr 1
   exact Option.some.inj ((List.getElem?_eq_getElem hi).symm.trans hr)
  rw[ed] at K er
  obtain⟨⟨g,p⟩,K⟩:=K
  have fe:=yB g
  have tk:=xu g A p
  refine⟨_,rfl,?_⟩
  generalize r.form=F at *
  generalize r.tx=X at *
  simp!
  refine ga A.ob m8 ?_
  simp! only[aa,fe]
  refine bN tk fun w h3 qq_=>?_
  obtain⟨ew,⟨js',A'⟩,F3⟩:=qq_
  subst ew
  simp!
  exact aB ⟨_,rfl,_,js',_,rfl,A',K,er,F2.trans F3⟩
 ·obtain⟨a,js,s,rfl,A,K,er,F2⟩:=I
  rw[List.length_map,List.length_map,List.drop_length] at er
  have er:s=runR rs RS.nil:=er
  subst er
  simp!
  refine ga A.ob m9 ?_
  simp!
  refine bN (xr A E) fun w h3 qq_=>?_
  obtain⟨ew,F3⟩:=qq_
  subst ew
  simp!
  exact aB ⟨rfl,F2.trans F3⟩
end
section
open Wd
structure Bt where
 nm:Str
 ss:List Rr
 e:Rr
noncomputable def Bt.rows (b:Bt):List Rr:=.block b.nm::(b.ss++[b.e])
def pgR (bx:List (Str×Str))(bl:List Bt):List Rr:=(bx.map fun b=>Rr.box b.1 b.2)++bl.flatMap Bt.rows
structure BtG (bn ns:List Str)(b:Bt):Prop where
 nm:bM b.nm=true
 l:b.ss.length<=8
 s: ∀r∈b.ss,r.stm=true/\r.Ok/\ ∀x∈r.bxs,x∈bn
 e:b.e.end'=true/\b.e.Ok/\(∀x∈b.e.bxs,x∈bn)/\ ∀x∈b.e.tos,x∈ns
structure PtxG (bx:List (Str×Str))(bl:List Bt):Prop where
 b: ∀x∈bx,bM x.1=true/\numOk x.2=true
 bn:(bx.map (·.1)).Nodup
 b4:bx.length<=4
 n:(bl.map Bt.nm).Nodup
 l:bl.length<=10
 l1:1<=bl.length
 g: ∀b∈bl,BtG (bx.map (·.1)) (bl.map Bt.nm) b
def bxV (bx:List (Str×Str)):List (Str×Int):=bx.map fun b=>(b.1,fk b.2)
theorem sF: ∀ (bx:List (Str×Str)) (d:List (Str×Int)),(∀x∈bx,bM x.1=true/\numOk x.2=true)->(d.map (·.1)++bx.map (·.1)).Nodup->d.length+bx.length<=4->OkR (bx.map fun b=>Rr.box b.1 b.2) ⟨d,[],[],[]⟩/\runR (bx.map fun b=>Rr.box b.1 b.2) ⟨d,[],[],[]⟩=⟨d++bxV bx,[],[],[]⟩
 |[],d,_,_,_=>⟨trivial,by show _=RS.mk (d++[]) _ _ _;rw[List.append_nil];rfl⟩
 |b::bx,d,g,nd,l=>by
  have ih:=sF bx (d++[(b.1,fk b.2)]) (fun x hx=>g x (List.mem_cons_of_mem _ hx)) (by rw[List.map_append,List.append_assoc];exact nd) (by rw[List.length_append,List.length_singleton];rw[List.length_cons] at l;omega)
  rw[List.length_cons] at l
  refine⟨⟨⟨g b List.mem_cons_self,rfl,fun hm=>?_,by show d.length<4;omega⟩,ih.1⟩,?_⟩
  ·rw[List.map_cons,List.nodup_append] at nd
   exact nd.2.2 _ hm _ List.mem_cons_self rfl
  ·show runR (bx.map fun b=>Rr.box b.1 b.2) ⟨d++[(b.1,fk b.2)],[],[],[]⟩=_
   rw[ih.2,List.append_assoc];rfl
theorem sE: ∀ (ss:List Rr) (s:RS),s.dn.length<s.nm.length->s.st.length+ss.length<=8->(∀r∈ss,r.stm=true/\r.Ok/\ ∀x∈r.bxs,x∈s.bx.map (·.1))->OkR ss s/\runR ss s={s with st:=s.st++ss.map Rr.form}
 |[],s,_,_,_=>⟨trivial,by rw[List.map_nil,List.append_nil];rfl⟩
 |r::ss,s,i,l,g=>by
  rw[List.length_cons] at l
  obtain⟨g1,g2,g3⟩:=g r List.mem_cons_self
  have es:=pU (s:=s) g1
  have ih:=sE ss {s with st:=s.st++[r.form]} i (by show (s.st++[_]).length+_<=8;rw[List.length_append,List.length_singleton];omega) fun r hr=>g r (List.mem_cons_of_mem _ hr)
  have p:PreIn s r:=⟨i,fun _=>by omega,g3⟩
  have p:Pre s r:=by cases r<;>first|exact p|cases g1
  refine⟨⟨⟨g2,p⟩,by rw[es];exact ih.1⟩,?_⟩
  show runR ss (s.step r)=_
  rw[es,ih.2]
  show RS.mk s.bx s.nm s.dn ((s.st++[r.form])++ss.map Rr.form)=RS.mk s.bx s.nm s.dn (s.st++(r::ss).map Rr.form)
  rw[List.append_assoc];rfl
theorem uz (l:List Str)(x:Str):(l++[x]).getLastD ""=x:=by simp
theorem yG {r:Rr}(a:r.end'=true)(b:r.stm=true):False:=by
 cases r<;>first|exact absurd a Bool.false_ne_true|exact absurd b Bool.false_ne_true
theorem xH {bn ns:List Str}{b:Bt}{s:RS}(g:BtG bn ns b)(hb:s.bx.map (·.1)=bn)(i:s.dn.length=s.nm.length)(l:s.nm.length<10)(n:b.nm ∉ s.nm):OkR b.rows s/\runR b.rows s=⟨s.bx,s.nm++[b.nm],s.dn++[(b.nm,b.ss.map Rr.form,b.e)],b.ss.map Rr.form⟩:=by
 subst hb
 have h1:=sE b.ss ⟨s.bx,s.nm++[b.nm],s.dn,[]⟩ (by show s.dn.length<(s.nm++[_]).length;rw[List.length_append,List.length_singleton];omega) (by show 0+_<=8;have:=g.l;omega) g.s
 have e2:runR b.ss ⟨s.bx,s.nm++[b.nm],s.dn,[]⟩=⟨s.bx,s.nm++[b.nm],s.dn,b.ss.map Rr.form⟩:=by rw[h1.2];rfl
 have p:PreIn ⟨s.bx,s.nm++[b.nm],s.dn,b.ss.map Rr.form⟩ b.e:=⟨by show s.dn.length<(s.nm++[_]).length;rw[List.length_append,List.length_singleton];omega,fun q=>(yG g.e.1 q).elim,g.e.2.2.1⟩
 have p:Pre ⟨s.bx,s.nm++[b.nm],s.dn,b.ss.map Rr.form⟩ b.e:=by
  have ge:=g.e.1
  cases h:b.e<;>rw[h] at p ge<;>first|exact p|cases ge
 refine⟨⟨⟨g.nm,i,n,l⟩,lK h1.1 ?_⟩,?_⟩
 ·show OkR [b.e] (runR b.ss ⟨s.bx,s.nm++[b.nm],s.dn,[]⟩)
  rw[e2]
  exact⟨⟨g.e.2.1,p⟩,trivial⟩
 ·show runR (b.ss++[b.e]) ⟨s.bx,s.nm++[b.nm],s.dn,[]⟩=_
  rw[mi,e2]
  show RS.step _ b.e=_
  rw[pW g.e.1]
  show RS.mk s.bx (s.nm++[b.nm]) (s.dn++[((s.nm++[b.nm]).getLastD "",b.ss.map Rr.form,b.e)]) _=_
  rw[uz]
theorem p9 {bn ns:List Str}: ∀ (bl:List Bt) (s:RS),(∀b∈bl,BtG bn ns b)->s.bx.map (·.1)=bn->s.dn.length=s.nm.length->(s.nm++bl.map Bt.nm).Nodup->s.nm.length+bl.length<=10->OkR (bl.flatMap Bt.rows) s/\ ∃st,runR (bl.flatMap Bt.rows) s=⟨s.bx,s.nm++bl.map Bt.nm,s.dn++bl.map (fun b=>(b.nm,b.ss.map Rr.form,b.e)),st⟩
 |[],s,_,_,_,_,_=>⟨trivial,s.st,by rw[List.map_nil,List.map_nil,List.append_nil,List.append_nil];rfl⟩
 |b::bl,s,g,hb,i,nd,l=>by
  rw[List.length_cons] at l
  rw[List.map_cons] at nd
  have nn:b.nm ∉ s.nm:=fun hm=>by
   rw[List.nodup_append] at nd
   exact nd.2.2 _ hm _ List.mem_cons_self rfl
  have h1:=xH (g b List.mem_cons_self) hb i (by omega) nn
  obtain⟨h2,st,h3⟩:=p9 bl ⟨s.bx,s.nm++[b.nm],s.dn++[(b.nm,b.ss.map Rr.form,b.e)],b.ss.map Rr.form⟩ (fun b hb=>g b (List.mem_cons_of_mem _ hb)) hb (by show (s.dn++[_]).length=(s.nm++[_]).length;rw[List.length_append,List.length_append,i];rfl) (by show ((s.nm++[b.nm])++_).Nodup;rw[List.append_assoc];exact nd) (by show (s.nm++[_]).length+_<=10;rw[List.length_append,List.length_singleton];omega)
  rw[List.flatMap_cons]
  refine⟨lK h1.1 (by rw[h1.2];exact h2),st,?_⟩
  rw[mi,h1.2,h3]
  show RS.mk _ ((s.nm++[b.nm])++bl.map Bt.nm) ((s.dn++[_])++_) _=_
  rw[List.append_assoc,List.append_assoc];rfl
def Bt.w (ns:List Str)(b:Bt):W:=.tup [.str b.nm,.tl (b.ss.map Rr.form),(b.e.en ns).w]
theorem rows_len' {bl:List Bt}(h:∀b∈bl,b.ss.length<=8):(bl.flatMap Bt.rows).length<=10 * bl.length:=by
 induction bl with
 |nil=>simp
 |cons b bl ih=>
  have a:=h b List.mem_cons_self
  have c:=ih fun b hb=>h b (List.mem_cons_of_mem _ hb)
  rw[List.flatMap_cons,List.length_append,List.length_cons]
  have:b.rows.length=b.ss.length+2:=by unfold Bt.rows;rw[List.length_cons,List.length_append];rfl
  omega
theorem vE {h:List Ob}{bx:List (Str×Str)}{bl:List Bt}(G:PtxG bx bl):Ok (lm [.str (textR (pgR bx bl))]) h fun w h'=>w=.tup [.tl ((bxV bx).map bqW),.tl (bl.map (Bt.w (bl.map Bt.nm)))]/\Fo h.length h h':=by
 have h1:=sF bx [] G.b G.bn (by have:=G.b4;show 0+_<=4;omega)
 have ebx:(bxV bx).map (·.1)=bx.map (·.1):=by unfold bxV;rw[List.map_map];rfl
 obtain⟨h2,st,h3⟩:=p9 bl ⟨bxV bx,[],[],[]⟩ (fun b hb=>G.g b hb) ebx rfl G.n (by have:=G.l;show 0+_<=10;omega)
 have e1:runR (bx.map fun b=>Rr.box b.1 b.2) RS.nil=⟨bxV bx,[],[],[]⟩:=h1.2
 have er:runR (pgR bx bl) RS.nil=⟨bxV bx,bl.map Bt.nm,bl.map (fun b=>(b.nm,b.ss.map Rr.form,b.e)),st⟩:=by
  unfold pgR
  rw[mi,e1,h3];rfl
 have K:OkR (pgR bx bl) RS.nil:=lK h1.1 (by rw[e1];exact h2)
 have ll:=rows_len' fun b hb=>(G.g b hb).l
 have g1:=G.l
 have g2:=G.l1
 have g3:=G.b4
 have lp:(pgR bx bl).length=bx.length+(bl.flatMap Bt.rows).length:=by unfold pgR;rw[List.length_append,List.length_map]
 have ne:pgR bx bl≠ []:=by
  cases bl with
  |nil=>exact absurd g2 (by simp)
  |cons b bl=>unfold pgR;rw[List.flatMap_cons];unfold Bt.rows;simp
 have E:EndsOk (runR (pgR bx bl) RS.nil):=by
  rw[er]
  refine⟨by show (bl.map _).length=(bl.map _).length;rw[List.length_map,List.length_map],by show 1<=(bl.map _).length;rw[List.length_map];exact g2,fun b hb=>?_⟩
  have hb:b∈bl.map (fun b=>(b.nm,b.ss.map Rr.form,b.e)):=hb
  obtain⟨c,hc,rfl⟩:=List.mem_map.mp hb
  have g:=(G.g c hc).e
  exact⟨g.1,g.2.1,g.2.2.2⟩
 refine (xI K E ne (by omega)).imp fun w h' ⟨ew,F⟩=>⟨?_,F⟩
 rw[ew,er]
 show W.tup [.tl _,.tl ((bl.map fun b=>(b.nm,b.ss.map Rr.form,b.e)).map (bkW (bl.map Bt.nm)))]=_
 rw[List.map_map];rfl
end
section
open Wd
theorem AA {l:List W}{i:Int}{w:W}(h:atI l i=some w):ixW (.cl l) (.int i)=pr w:=by
 funext hh
 unfold ixW
 have:ixO (.cl l) (.int i) hh=some w:=h
 rw[this];rfl
theorem pE (ns:List Int)(i:Int)(h0:0<=i): ∃c:Int,bR [.cl (ns.map W.int),.int i]=pr (.int c):=by
 have e0:bR [.cl (ns.map W.int),.int i]=bd (fJ [some (.cl (ns.map W.int)),some (.int i)]) finF:=rfl
 rw[e0]
 unfold fJ
 by_cases hc:i<((ns.map W.int).length:Int)
 ·have q:=km W.int ns 0 h0 (by rw[List.length_map] at hc;exact hc)
  refine⟨ns.getD i.toNat 0,?_⟩
  simp! only[aa,s9,decide_eq_true hc,AA q]
 ·refine⟨0,?_⟩
  simp! only[aa,s9,decide_eq_false hc]
theorem lQ (i:Int):absW [.int i]=pr (.int (if i<0 then -i else i)):=rfl
noncomputable def nRest (a:Int):Nat->Int
 |0=>a
 |k+1=>if 10 ^ (18:Int).toNat<=a then nRest a k / 1009 else nRest a k
noncomputable def nMix (r:Int)(k:Int):Int:=(r % 2147483629+7919 * (k+1) * (k+3)) % 2147483629
def nOne (a:Int)(k:Nat):Int:=if 10 ^ (18:Int).toNat<=a then nRest a k % 1009 else (nMix (nRest a k) (0+(k:Int)) * nMix (nRest a k) (0+(k:Int)) % 2147483587+nMix (nRest a k) (0+(k:Int)) / 7) * 48271 % 2147483647 / 16
def nums (c:Int)(n:Nat):List Int:=(List.range n).map (nOne (if c<0 then -c else c))
theorem mK (c:Int)(n:Nat):(nums c n).length=n:=by unfold nums;simp
theorem o3 {h:List Ob}{c N:Int}{n:Nat}(hN:N=(n:Int))(hn:n<=60):Ok (bQ [.int c,.int N]) h fun w h'=>w=.tl ((nums c n).map W.int)/\Fo h.length h h':=by
 have e0:bQ [.int c,.int N]=bd (fE [some (.int c),some (.int N),none,none,none,none]) finF:=rfl
 rw[e0]
 unfold fE
 have eN:N.toNat=n:=by omega
 simp!
 refine gr ?_
 simp! only[aa,lQ,j4 (show (-(2 ^ 62):Int)<=N by omega) (show N<2 ^ 62 by omega)]
 unfold nums
 generalize hA:(if c<0 then -c else c)=A
 refine eQ (I:=fun i ρ h'=> ∃a b,ρ=[some (.int c),some (.int N),some (.loc h.length),some (.int (nRest A i)),a,b]/\h'.length=h.length+1/\(∀j,j<h.length->h'[j]?=h[j]?)/\h'[h.length]?=some (.lst (((List.range i).map (nOne A)).map W.int))) ⟨_,_,rfl,by simp,fun j hj=>by rw[List.getElem?_append_left hj],dO⟩ (fun _ _ _ _=>trivial) (fun i w ρ h1 hw I=>?_) fun ρ h1 I=>?_
 ·obtain⟨a,b,rfl,l1,q1,q2⟩:=I
  obtain⟨rfl,hi⟩:=eV _ _ _ _ hw
  rw[eN] at hi
  refine⟨_,rfl,?_⟩
  have er:(List.range (i+1)).map (nOne A)=(List.range i).map (nOne A)++[nOne A i]:=by rw[List.range_succ,List.map_append];rfl
  have z:(((List.range i).map (nOne A)).map W.int).length<sizeLine:=by rw[List.length_map,List.length_map,List.length_range];exact Nat.lt_of_le_of_lt (show _<=60 by omega) (by decide)
  have fin: ∀x:Int,x=nOne A i->(h1.set h.length (.lst (((List.range i).map (nOne A)).map W.int++[.int x])))[h.length]?=some (.lst (((List.range (i+1)).map (nOne A)).map W.int)):=fun x e=>by rw[cN q2,er,e,List.map_append];rfl
  have fr: ∀b:Ob,(h1.set h.length b).length=h.length+1/\ ∀j,j<h.length->(h1.set h.length b)[j]?=h[j]?:=fun b=>⟨by rw[List.length_set];exact l1,fun j hj=>by rw[List.getElem?_set_ne (by omega)];exact q1 j hj⟩
  by_cases c18:10 ^ (18:Int).toNat<=A
  ·have n1:nOne A i=nRest A i % 1009:=by unfold nOne;rw[if_pos c18]
   have n2:nRest A (i+1)=nRest A i / 1009:=by show (if 10 ^ (18:Int).toNat<=A then _ else _)=_;rw[if_pos c18]
   simp! only[aa,lQ,qf cp18,hA,decide_eq_true c18]
   refine cK q2 ?_
   simp! only[aa,aE (show (0:Int)<1009 by decide)]
   refine gc q2 z ?_
   simp! only[aa,dC (show (0:Int)<1009 by decide) (by decide)]
   rw[<-n2]
   exact aB ⟨_,rfl,_,_,rfl,(fr _).1,(fr _).2,fin _ n1.symm⟩
  ·have n1:nOne A i=(nMix (nRest A i) (0+(i:Int)) * nMix (nRest A i) (0+(i:Int)) % 2147483587+nMix (nRest A i) (0+(i:Int)) / 7) * 48271 % 2147483647 / 16:=by unfold nOne;rw[if_neg c18]
   have n2:nRest A (i+1)=nRest A i:=by show (if 10 ^ (18:Int).toNat<=A then _ else _)=_;rw[if_neg c18]
   simp! only[aa,lQ,qf cp18,hA,decide_eq_false c18,aE (show (0:Int)<2147483629 by decide),kj (wc (i:=7919) (j:=0+(i:Int)+1) (by decide) (by decide)),kj (wb (i:=7919 * (0+(i:Int)+1)) (j:=0+(i:Int)+3) (by omega) (by omega))]
   have em:(nRest A i % 2147483629+7919 * (0+(i:Int)+1) * (0+(i:Int)+3)) % 2147483629=nMix (nRest A i) (0+(i:Int)):=rfl
   have m0:0<=nMix (nRest A i) (0+(i:Int)):=Int.emod_nonneg _ (by decide)
   have m1:nMix (nRest A i) (0+(i:Int))<2147483629:=Int.emod_lt_of_pos _ (by decide)
   rw[em]
   generalize nMix (nRest A i) (0+(i:Int))=x at *
   simp! only[aa,kj (wc (i:=x) (j:=x) (by omega) (by omega)),aE (show (0:Int)<2147483587 by decide),dC (show (0:Int)<7 by decide) (by decide)]
   refine cK q2 ?_
   simp! only[aa,kj (wb (i:=x * x % 2147483587+x / 7) (j:=48271) (by decide) (by decide)),aE (show (0:Int)<2147483647 by decide),dC (show (0:Int)<16 by decide) (by decide)]
   refine gc q2 z ?_
   simp!
   rw[<-n2]
   exact aB ⟨_,rfl,_,_,rfl,(fr _).1,(fr _).2,fin _ n1.symm⟩
 ·obtain⟨a,b,rfl,l1,q1,q2⟩:=I
  rw[eU,eN] at q2
  simp!
  refine jU q2 ?_
  simp!
  exact aB ⟨rfl,fun i hi=>by rw[List.getElem?_set_ne (by omega)];exact q1 i hi,by rw[List.length_set,l1];omega⟩
theorem sapp (a b c:Str):(a++b)++c=a++(b++c):=ox (by rw[jD,jD,jD,jD,List.append_assoc])
theorem slen (a b:Str):(a++b).length=a.length+b.length:=Array.size_append
theorem adS {a b:Str}(h:a.length+b.length<=100000):addW (.str a) (.str b)=pr (.str (a++b)):=xo (sz h)
noncomputable def bn2:List Str:=["n", "nn"]
structure WG (z:Str)(e:Exp):Prop where
 w:Wrd z e
 b: ∀x∈exNm e,x∈bn2
 d:exDp e<=5
def wOk (z:Str):Bool:=match exprP z with
 |none=>false
 |some e=>clnB z && (exOk e && (decide (exDp e<=5) && (decide ((exNm e).length<=60) && (exNm e).all fun x=>decide (x∈bn2))))
theorem zb {z:Str}(h:wOk z=true): ∃e,WG z e:=by
 unfold wOk at h
 cases e:exprP z with
 |none=>rw[e] at h;cases h
 |some x=>
  rw[e] at h
  simp only[Bool.and_eq_true,decide_eq_true_eq,List.all_eq_true] at h
  obtain⟨h1,h2,h3,h4,h5⟩:=h
  exact⟨x,⟨e,.of h1,h2,by omega,h4⟩,h5,h3⟩
noncomputable def wS (one more:Str):List Str:=[more,one,one++ "+"++more,one++ "-1", "nn-n", "n*"++more, "2*("++one++ "+1)", "7-"++one]
noncomputable def fig4:List Str:=["0", "1", "2", "3"]
theorem AV: ∀o,o<2-> ∀m,m<4-> ∀i,i<8->wOk ((wS (bn2.getD o "") (fig4.getD m "")).getD i "")=true:=by decide+kernel
theorem oR: ∀o,o<2->(bn2.getD o "").length<=2:=by decide+kernel
theorem mR: ∀m,m<4->(fig4.getD m "").length<=1:=by decide+kernel
theorem st4 {v:Int}(h0:0<=v)(h1:v<4):strW [.int v]=pr (.str (fig4.getD v.toNat "")):=by
 have:v=0\/v=1\/v=2\/v=3:=by omega
 rcases this with rfl|rfl|rfl|rfl<;>exact ve (by decide)
theorem pick2 {v:Int}(h0:0<=v)(h1:v<2):ixW (.tl [.str "n",.str "nn"]) (.int v)=pr (.str (bn2.getD v.toNat "")):=bY (km W.str bn2 "" h0 h1)
theorem nM {v:Int}(h0:0<=v)(h1:v<2):bn2.getD v.toNat ""∈bn2/\bM (bn2.getD v.toNat "")=true:=by
 have:v=0\/v=1:=by omega
 rcases this with rfl|rfl<;>decide+kernel
theorem kw_len:(("+":Str).length=1/\("-1":Str).length=2/\("n*":Str).length=2/\("2*(":Str).length=3/\("+1)":Str).length=3/\("7-":Str).length=2)/\("say ":Str).length=4/\("ask ":Str).length=4/\("put ":Str).length=4/\(" ":Str).length=1/\("go ":Str).length=3/\("if ":Str).length=3/\(" else ":Str).length=6/\("block ":Str).length=6:=by decide+kernel
theorem oq (a b c:Int)(l:List W): ∃z e,cG [.tl (.int a::.int b::.int c::l)]=pr (.str z)/\WG z e:=by
 have a0:=Int.emod_nonneg a (show (8:Int)≠0 by decide)
 have a1:=Int.emod_lt_of_pos a (show (0:Int)<8 by decide)
 have b0:=Int.emod_nonneg b (show (2:Int)≠0 by decide)
 have b1:=Int.emod_lt_of_pos b (show (0:Int)<2 by decide)
 have c0:=Int.emod_nonneg c (show (4:Int)≠0 by decide)
 have c1:=Int.emod_lt_of_pos c (show (0:Int)<4 by decide)
 obtain⟨e,w⟩:=zb (AV (b % 2).toNat (by omega) (c % 4).toNat (by omega) (a % 8).toNat (by omega))
 refine⟨_,e,?_,w⟩
 have e0:cG [.tl (.int a::.int b::.int c::l)]=bd (iD [some (.tl (.int a::.int b::.int c::l)),none,none,none]) finF:=rfl
 rw[e0]
 unfold iD
 have l1:=oR (b % 2).toNat (by omega)
 have l2:=mR (c % 4).toNat (by omega)
 have p2:=pick2 b0 b1
 have s4:=st4 c0 c1
 obtain⟨⟨k1,k2,k3,k4,k5,k6⟩,_⟩:=kw_len
 generalize bn2.getD (b % 2).toNat ""=one at *
 generalize fig4.getD (c % 4).toNat ""=more at *
 have ix:ixW (.tl [.str more,.str one,.str (one++ "+"++more),.str (one++ "-1"),.str "nn-n",.str ("n*"++more),.str ("2*("++one++ "+1)"),.str ("7-"++one)]) (.int (a % 8))=pr (.str ((wS one more).getD (a % 8).toNat "")):=bY (km W.str (wS one more) "" a0 a1)
 simp! only[aa,tx0,tx1,tx2,aE (show (0:Int)<2 by decide),aE (show (0:Int)<4 by decide),aE (show (0:Int)<8 by decide),p2,s4,adS (a:=one) (b:= "+") (by omega),adS (a:=one++ "+") (b:=more) (by rw[slen];omega),adS (a:=one) (b:= "-1") (by omega),adS (a:= "n*") (b:=more) (by omega),adS (a:= "2*(") (b:=one) (by omega),adS (a:= "2*("++one) (b:= "+1)") (by rw[slen];omega),adS (a:= "7-") (b:=one) (by omega),ix]
theorem WG.len {z:Str}{e:Exp}(g:WG z e):z.length<=60:=g.w.c.len
theorem kw_sp:(("say ":Str)= "say"++⟨#[32]⟩/\("ask ":Str)= "ask"++⟨#[32]⟩/\("put ":Str)= "put"++⟨#[32]⟩/\("go ":Str)= "go"++⟨#[32]⟩)/\("if ":Str)= "if"++⟨#[32]⟩/\(" else ":Str)=⟨#[32]⟩++("else"++⟨#[32]⟩)/\("block ":Str)= "block"++⟨#[32]⟩/\(" < ":Str)=⟨#[32]⟩++("<"++⟨#[32]⟩)/\(" = ":Str)=⟨#[32]⟩++("="++⟨#[32]⟩):=by decide+kernel
def Rr.dep:Rr->Nat
 |.put _ _ e=>exDp e
 |.say _ e=>exDp e
 |.iff _ _ e1 _ e2 _ _=>max (exDp e1) (exDp e2)
 |.table _ e _=>exDp e
 |_=>0
structure RG (r:Rr):Prop where
 ok:r.Ok
 b: ∀x∈r.bxs,x∈bn2
 d:r.dep<=5
theorem zw (z:Str)(e:Exp):(Rr.say z e).tx= "say "++z:=by rw[kw_sp.1.1];rfl
theorem AQ (z:Str):(Rr.ask z).tx= "ask "++z:=by rw[kw_sp.1.2.1];rfl
theorem zD (x z:Str)(e:Exp):(Rr.put x z e).tx= "put "++x++ " "++z:=by
 rw[kw_sp.1.2.2.1,sB]
 show "put"++⟨#[32]⟩++(x++⟨#[32]⟩++z)=_
 simp only[sapp]
theorem Bh (z:Str):(Rr.go z).tx= "go "++z:=by rw[kw_sp.1.2.2.2];rfl
theorem xk (z:Str):(Rr.block z).tx= "block "++z:=by rw[kw_sp.2.2.2.1];rfl
theorem vf (p q r:Int): ∃R:Rr,bV [.tl [.int p,.int q,.int r]]=pr (.str R.tx)/\R.stm=true/\RG R:=by
 have e0:bV [.tl [.int p,.int q,.int r]]=bd (dR [some (.tl [.int p,.int q,.int r]),none]) finF:=rfl
 rw[e0]
 unfold dR
 obtain⟨z,e,ew,g⟩:=oq p q r []
 have zl:=g.len
 have k0:=Int.emod_nonneg (p / 8) (show (4:Int)≠0 by decide)
 have k1:=Int.emod_lt_of_pos (p / 8) (show (0:Int)<4 by decide)
 obtain⟨_,l1,l2,l3,l4,_⟩:=kw_len
 by_cases c0:p / 8 % 4=0
 ·refine⟨.say z e,?_,rfl,g.w,g.b,g.d⟩
  rw[zw]
  simp! only[aa,tx0,dC (show (0:Int)<8 by decide) (by decide),aE (show (0:Int)<4 by decide),decide_eq_true c0,ew,adS (a:= "say ") (b:=z) (by omega)]
 by_cases c1:p / 8 % 4=1
 ·have r0:=Int.emod_nonneg r (show (2:Int)≠0 by decide)
  have r1:=Int.emod_lt_of_pos r (show (0:Int)<2 by decide)
  have m:=nM r0 r1
  have l:=oR (r % 2).toNat (by omega)
  have p2:=pick2 r0 r1
  generalize bn2.getD (r % 2).toNat ""=one at *
  refine⟨.ask one,?_,rfl,m.2,fun x hx=>by rw[List.mem_singleton.mp hx];exact m.1,Nat.zero_le _⟩
  rw[AQ]
  simp! only[aa,tx0,tx2,dC (show (0:Int)<8 by decide) (by decide),aE (show (0:Int)<4 by decide),aE (show (0:Int)<2 by decide),decide_eq_false c0,decide_eq_true c1,p2,adS (a:= "ask ") (b:=one) (by omega)]
 ·have r0:=Int.emod_nonneg (r / 4) (show (2:Int)≠0 by decide)
  have r1:=Int.emod_lt_of_pos (r / 4) (show (0:Int)<2 by decide)
  have m:=nM r0 r1
  have l:=oR (r / 4 % 2).toNat (by omega)
  have p2:=pick2 r0 r1
  generalize bn2.getD (r / 4 % 2).toNat ""=one at *
  refine⟨.put one z e,?_,rfl,⟨m.2,g.w⟩,fun x hx=>?_,g.d⟩
  ·rw[zD]
   simp! only[aa,tx0,tx2,dC (show (0:Int)<8 by decide) (by decide),dC (show (0:Int)<4 by decide) (by decide),aE (show (0:Int)<4 by decide),aE (show (0:Int)<2 by decide),decide_eq_false c0,decide_eq_false c1,p2,ew,adS (a:= "put ") (b:=one) (by omega),adS (a:= "put "++one) (b:= " ") (by rw[slen];omega),adS (a:= "put "++one++ " ") (b:=z) (by rw[slen,slen];omega)]
  ·rcases List.mem_cons.mp hx with rfl|hx
   ·exact m.1
   ·exact g.b x hx
end
section
open Wd
theorem Bf (s z1 z2 x y:Str)(e1 e2:Exp):(Rr.iff s z1 e1 z2 e2 x y).tx= "if "++(z1++(⟨#[32]⟩++(s++⟨#[32]⟩))++z2)++ " "++x++ " else "++y:=by
 rw[kw_sp.2.1,kw_sp.2.2.1,sB]
 show "if"++⟨#[32]⟩++(z1++⟨#[32]⟩++(s++⟨#[32]⟩++(z2++⟨#[32]⟩++(x++⟨#[32]⟩++("else"++⟨#[32]⟩++y)))))=_
 simp only[sapp]
theorem yK {α:Type}(l:List α){v:Int}(h0:0<=v):(cutW l none (some v)).length<=v.toNat/\ ∀x∈cutW l none (some v),x∈l:=by
 unfold cutW
 refine⟨?_,fun x hx=>List.mem_of_mem_drop (List.mem_of_mem_take hx)⟩
 rw[List.length_take]
 have:HT.sIx l.length l.length (some v)<=v.toNat:=by
  show (if v<0 then (v+(l.length:Int)).toNat else min v.toNat l.length)<=_
  rw[if_neg (by omega)]
  omega
 show min (HT.sIx l.length l.length (some v) - HT.sIx l.length 0 none) _<=_
 omega
theorem sgn2 {v:Int}(h0:0<=v)(h1:v<2): ∃s:Str,ixW (.tl [.str " < ",.str " = "]) (.int v)=pr (.str (⟨#[32]⟩++(s++⟨#[32]⟩)))/\(s= "<"\/s= "=")/\s.length=1:=by
 have:v=0\/v=1:=by omega
 rcases this with rfl|rfl
 ·exact⟨"<",by rw[tx0,kw_sp.2.2.2.2.1],.inl rfl,by decide+kernel⟩
 ·exact⟨"=",by rw[tx1,kw_sp.2.2.2.2.2],.inr rfl,by decide+kernel⟩
theorem sV {ns:List Str}{x N:Int}(hN:N=(ns.length:Int))(l1:1<=ns.length): ∃s∈ns,ixW (.tl (ns.map W.str)) (.int (x % N))=pr (.str s):=by
 have a0:=Int.emod_nonneg x (show N≠0 by omega)
 have a1:=Int.emod_lt_of_pos x (show 0<N by omega)
 have hi:(x % N).toNat<ns.length:=by omega
 exact⟨ns[(x % N).toNat],List.getElem_mem _,bY (br a0 (by rw[List.getElem?_map,List.getElem?_eq_getElem hi];rfl))⟩
theorem tx7 (a b c d e f g h:W)(l:List W):ixW (.tl (a::b::c::d::e::f::g::h::l)) (.int 7)=pr h:=bY (br (by decide) rfl)
theorem tx8 (a b c d e f g h i:W)(l:List W):ixW (.tl (a::b::c::d::e::f::g::h::i::l)) (.int 8)=pr i:=bY (br (by decide) rfl)
theorem tx9 (a b c d e f g h i j:W)(l:List W):ixW (.tl (a::b::c::d::e::f::g::h::i::j::l)) (.int 9)=pr j:=bY (br (by decide) rfl)
theorem tx10 (a b c d e f g h i j k:W)(l:List W):ixW (.tl (a::b::c::d::e::f::g::h::i::j::k::l)) (.int 10)=pr k:=bY (br (by decide) rfl)
section
variable (x0 x1 x2 x3 x4 x5 x6 x7 x8 x9 x10 x11:W)
theorem ct912:cutW [x0,x1,x2,x3,x4,x5,x6,x7,x8,x9,x10,x11] (some 9) (some 12)=[x9,x10,x11]:=rfl
theorem xa:cutW [x0,x1,x2,x3,x4,x5,x6,x7,x8,x9,x10,x11] (some 10) (some 12)=[x10,x11]:=rfl
theorem ct01:cutW [x0,x1,x2,x3,x4,x5,x6,x7,x8,x9,x10,x11] none (some 1)=[x0]:=rfl
theorem ct14:cutW [x0,x1,x2,x3,x4,x5,x6,x7,x8,x9,x10,x11] (some 1) (some 4)=[x1,x2,x3]:=rfl
theorem ct47:cutW [x0,x1,x2,x3,x4,x5,x6,x7,x8,x9,x10,x11] (some 4) (some 7)=[x4,x5,x6]:=rfl
end
theorem ad21 (a b c:W):addW (.tl [a,b]) (.tl [c])=pr (.tl [a,b,c]):=iK [a,b] [c] (sz (by show 2+1<=_;omega))
theorem xg {a b:List Str}(h:∀x∈a,x∈bn2)(g:∀x∈b,x∈bn2): ∀x∈a++b,x∈bn2:=fun x hx=>by
 rcases List.mem_append.mp hx with hx|hx
 ·exact h x hx
 ·exact g x hx
theorem pP: ∀ {l:List Str},(∀z∈l,z.length<=60)->(l.map (·.length)).sum<=60 * l.length
 |[],_=>by simp
 |z::l,h=>by
  have a:=h z List.mem_cons_self
  have b:=pP (l:=l) fun z hz=>h z (List.mem_cons_of_mem _ hz)
  rw[List.map_cons,List.sum_cons,List.length_cons,Nat.mul_succ]
  omega
theorem yo {ns:List Str}(x0 x1 x2 x3 x4 x5 x6 x7 x8 x9 x10 x11:Int)(l1:1<=ns.length)(l2:ns.length<=10)(nm: ∀x∈ns,bM x=true): ∃R:Rr,gk [.tl [.int x0,.int x1,.int x2,.int x3,.int x4,.int x5,.int x6,.int x7,.int x8,.int x9,.int x10,.int x11],.tl (ns.map W.str)]=pr (.str R.tx)/\R.end'=true/\RG R/\ ∀x∈R.tos,x∈ns:=by
 have e0:gk [.tl [.int x0,.int x1,.int x2,.int x3,.int x4,.int x5,.int x6,.int x7,.int x8,.int x9,.int x10,.int x11],.tl (ns.map W.str)]=bd (jv [some (.tl [.int x0,.int x1,.int x2,.int x3,.int x4,.int x5,.int x6,.int x7,.int x8,.int x9,.int x10,.int x11]),some (.tl (ns.map W.str)),none,none,none,none,none,none]) finF:=rfl
 rw[e0]
 unfold jv
 obtain⟨N,hN⟩: ∃N:Int,N=(ns.length:Int):=⟨_,rfl⟩
 have N0:0<N:=by omega
 have eL:lenW [.tl (ns.map W.str)]=pr (.int N):=by rw[lenW_tl,List.length_map,hN]
 obtain⟨one,m1,i1⟩:=sV (x:=x8) hN l1
 obtain⟨other,m2,i2⟩:=sV (x:=x9) hN l1
 have o1:=(cM (nm one m1)).len
 have o2:=(cM (nm other m2)).len
 have v0:=Int.emod_nonneg x10 (show (3:Int)≠0 by decide)
 have v1:=Int.emod_lt_of_pos x10 (show (0:Int)<3 by decide)
 obtain⟨f1,f2⟩:=yK ns v0
 have cm:=yJ W.str ns none (some (x10 % 3))
 have sl:slW (.tl (ns.map W.str)) none (some (x10 % 3))=pr (.tl ((cutW ns none (some (x10 % 3))).map W.str)):=by rw[slW_tl,cm]
 generalize cutW ns none (some (x10 % 3))=few at *
 generalize W.tl (ns.map W.str)=NW at *
 obtain⟨w1,e1,ew1,g1⟩:=oq x9 x10 x11 []
 obtain⟨w2,e2,ew2,g2⟩:=oq x10 x11 x0 []
 have z1:=g1.len
 have z2:=g2.len
 obtain⟨_,_,_,_,k4,k5,k6,k7,_⟩:=kw_len
 have k8:=Int.emod_lt_of_pos x7 (show (0:Int)<8 by decide)
 by_cases c2:x7 % 8<2
 ·refine⟨.go one,?_,rfl,⟨nm one m1,fun x hx=>absurd hx List.not_mem_nil,Nat.zero_le _⟩,fun x hx=>by rw[List.mem_singleton.mp hx];exact m1⟩
  rw[Bh]
  simp! only[aa,tx7,tx8,tx9,tx10,eL,aE N0,aE (show (0:Int)<8 by decide),i1,i2,decide_eq_true c2,adS (a:= "go ") (b:=one) (by omega)]
 by_cases c5:x7 % 8=5
 ·refine⟨.table w1 e1 (one::other::few),?_,rfl,⟨⟨g1.w,by simp,by rw[List.length_cons,List.length_cons];omega,fun x hx=>?_⟩,g1.b,g1.d⟩,fun x hx=>?_⟩
  ·have gl: ∀ {α:Type} (q:M α),gd (0+1+1+1+1+(few.map W.str).length<=sizeLine) q=q:=fun q=>ay (by rw[List.length_map];exact sz (by omega))
   have jw:joinW (.str " ") [.tl ([W.str "table",W.str w1,W.str one,W.str other]++few.map W.str)]=pr (.str (Str.join " " ("table"::w1::one::other::few))):=by
    refine wE (ts:= "table"::w1::one::other::few) (sz ?_)
    have fl: ∀z∈few,z.length<=60:=fun z hz=>(cM (nm z (f2 z hz))).len
    have fs:=pP fl
    have t5:("table":Str).length=5:=by decide+kernel
    simp only[List.map_cons,List.sum_cons,List.length_cons]
    rw[k4]
    omega
   simp! only[aa,tx7,tx8,tx9,tx10,eL,aE N0,aE (show (0:Int)<8 by decide),aE (show (0:Int)<3 by decide),i1,i2,decide_eq_false c2,decide_eq_true c5,ct912,ew1,sl,catL,ph,gl,jw]
   rw[sB]
   rfl
  ·rcases List.mem_cons.mp hx with rfl|hx
   ·exact nm _ m1
   ·rcases List.mem_cons.mp hx with rfl|hx
    ·exact nm _ m2
    ·exact nm _ (f2 x hx)
  ·rcases List.mem_cons.mp hx with rfl|hx
   ·exact m1
   ·rcases List.mem_cons.mp hx with rfl|hx
    ·exact m2
    ·exact f2 x hx
 by_cases c6:x7 % 8=6
 ·refine⟨.stop,?_,rfl,⟨trivial,fun x hx=>absurd hx List.not_mem_nil,Nat.zero_le _⟩,fun x hx=>absurd hx List.not_mem_nil⟩
  simp! only[aa,tx7,tx8,tx9,tx10,eL,aE N0,aE (show (0:Int)<8 by decide),i1,i2,decide_eq_false c2,decide_eq_false c5,decide_eq_true c6]
  rfl
 ·have s0:=Int.emod_nonneg (x10 / 8) (show (2:Int)≠0 by decide)
  have s1:=Int.emod_lt_of_pos (x10 / 8) (show (0:Int)<2 by decide)
  obtain⟨s,es,hs,ls⟩:=sgn2 s0 s1
  have sgl:((⟨#[32]⟩:Str)++(s++⟨#[32]⟩)).length=3:=by rw[slen,slen,ls];rfl
  have tx:=fun y=>Bf s w1 w2 one y e1 e2
  generalize ((⟨#[32]⟩:Str)++(s++⟨#[32]⟩))=sg at *
  by_cases c7:x7 % 8=7
  ·refine⟨.iff s w1 e1 w2 e2 one one,?_,rfl,⟨⟨hs,g1.w,g2.w,nm one m1,nm one m1⟩,xg g1.b g2.b,Nat.max_le.mpr ⟨g1.d,g2.d⟩⟩,fun x hx=>by rcases List.mem_cons.mp hx with rfl|hx;exact m1;rw[List.mem_singleton.mp hx];exact m1⟩
   rw[tx]
   simp! only[aa,tx7,tx8,tx9,tx10,eL,aE N0,aE (show (0:Int)<8 by decide),aE (show (0:Int)<2 by decide),dC (show (0:Int)<8 by decide) (by decide),i1,i2,decide_eq_false c2,decide_eq_false c5,decide_eq_false c6,decide_eq_true c7,es,ct912,xa,ct01,ad21,ew1,ew2,adS (a:=w1) (b:=sg) (by omega),adS (a:=w1++sg) (b:=w2) (by rw[slen];omega),adS (a:= "if ") (b:=w1++sg++w2) (by rw[slen,slen];omega),adS (a:= "if "++(w1++sg++w2)) (b:= " ") (by rw[slen,slen,slen];omega),adS (a:= "if "++(w1++sg++w2)++ " ") (b:=one) (by rw[slen,slen,slen,slen];omega),adS (a:= "if "++(w1++sg++w2)++ " "++one) (b:= " else ") (by rw[slen,slen,slen,slen,slen];omega),adS (a:= "if "++(w1++sg++w2)++ " "++one++ " else ") (b:=one) (by rw[slen,slen,slen,slen,slen,slen];omega)]
  ·refine⟨.iff s w1 e1 w2 e2 one other,?_,rfl,⟨⟨hs,g1.w,g2.w,nm one m1,nm other m2⟩,xg g1.b g2.b,Nat.max_le.mpr ⟨g1.d,g2.d⟩⟩,fun x hx=>by rcases List.mem_cons.mp hx with rfl|hx;exact m1;rw[List.mem_singleton.mp hx];exact m2⟩
   rw[tx]
   simp! only[aa,tx7,tx8,tx9,tx10,eL,aE N0,aE (show (0:Int)<8 by decide),aE (show (0:Int)<2 by decide),dC (show (0:Int)<8 by decide) (by decide),i1,i2,decide_eq_false c2,decide_eq_false c5,decide_eq_false c6,decide_eq_false c7,es,ct912,xa,ct01,ad21,ew1,ew2,adS (a:=w1) (b:=sg) (by omega),adS (a:=w1++sg) (b:=w2) (by rw[slen];omega),adS (a:= "if ") (b:=w1++sg++w2) (by rw[slen,slen];omega),adS (a:= "if "++(w1++sg++w2)) (b:= " ") (by rw[slen,slen,slen];omega),adS (a:= "if "++(w1++sg++w2)++ " ") (b:=one) (by rw[slen,slen,slen,slen];omega),adS (a:= "if "++(w1++sg++w2)++ " "++one) (b:= " else ") (by rw[slen,slen,slen,slen,slen];omega),adS (a:= "if "++(w1++sg++w2)++ " "++one++ " else ") (b:=other) (by rw[slen,slen,slen,slen,slen,slen];omega)]
noncomputable def nmA:List Str:=["a", "b", "c", "d", "e", "f", "g", "h", "i", "j"]
def nmB:List Str:=["top", "t", "ab", "a", "zed", "n", "nn", "out", "mid", "x"]
def nmL (i:Nat):List Str:=[nmA,nmB,nmA.reverse,nmB.reverse].getD i []
theorem Ai: ∀i,i<4->(nmL i).length=10/\(nmL i).all bM=true/\(nmL i).Nodup:=by decide+kernel
theorem v9 (x:Int):eG [.int x]=pr (.tl ((nmL (x % 4).toNat).map W.str)):=by
 have e0:eG [.int x]=bd (gH [some (.int x),none,none]) finF:=rfl
 rw[e0]
 unfold gH
 have a0:=Int.emod_nonneg x (show (4:Int)≠0 by decide)
 have a1:=Int.emod_lt_of_pos x (show (0:Int)<4 by decide)
 have rv: ∀l:List W,revW (.tl l) (some (-1))=pr (.tl l.reverse):=fun l=>rfl
 have ix:ixW (.tl [.tl (nmA.map W.str),.tl (nmB.map W.str),.tl (nmA.map W.str).reverse,.tl (nmB.map W.str).reverse]) (.int (x % 4))=pr (.tl ((nmL (x % 4).toNat).map W.str)):=by
  rw[<-List.map_reverse,<-List.map_reverse]
  exact bY (km (fun l:List Str=>W.tl (l.map W.str)) [nmA,nmB,nmA.reverse,nmB.reverse] [] a0 a1)
 have ea:[W.str "a",W.str "b",W.str "c",W.str "d",W.str "e",W.str "f",W.str "g",W.str "h",W.str "i",W.str "j"]=nmA.map W.str:=rfl
 have eb:[W.str "top",W.str "t",W.str "ab",W.str "a",W.str "zed",W.str "n",W.str "nn",W.str "out",W.str "mid",W.str "x"]=nmB.map W.str:=rfl
 simp!
 rw[ea,eb]
 generalize nmA.map W.str=LA at *
 generalize nmB.map W.str=LB at *
 simp! only[aa,mRev,rv,aE (show (0:Int)<4 by decide),ix]
theorem ln12: ∀ {l:List Int},l.length=12-> ∃a b c d e f g h i j k m,l=[a,b,c,d,e,f,g,h,i,j,k,m]
 |[a,b,c,d,e,f,g,h,i,j,k,m],_=>⟨a,b,c,d,e,f,g,h,i,j,k,m,rfl⟩
theorem ln4': ∀ {l:List Int},l.length=4-> ∃a b c d,l=[a,b,c,d]
 |[a,b,c,d],_=>⟨a,b,c,d,rfl⟩
structure BtL (ns:List Str)(b:Bt):Prop where
 g:BtG bn2 ns b
 l:b.ss.length<=2
 d:(∀r∈b.ss,r.dep<=5)/\b.e.dep<=5
def bT:Env'->M Fl:=(sSeq (sSet 6 (mCall (arW 2 bQ) (mCons (mCall (arW 2 bR) (mCons (mVar 0) (mCons (m2 addW (mC (.int 1)) (mVar 5)) mNil))) (mCons (mC (.int 12)) mNil)))) (sSeq (sEx (mMeth isL bP (mVar 4) (mCons (m2 addW (mC (.str "block ")) (m2 ixW (mVar 3) (mVar 5))) mNil))) (sSeq (sIf (mB (m2 gtW (m2 modW (m2 ixW (mVar 6) (mC (.int 0))) (mC (.int 3))) (mC (.int 0)))) (sEx (mMeth isL bP (mVar 4) (mCons (mCall (arW 1 bV) (mCons (m3 slW (mVar 6) (mPart (mC (.int 1))) (mPart (mC (.int 4)))) mNil)) mNil))) sNil) (sSeq (sIf (mB (m2 gtW (m2 modW (m2 ixW (mVar 6) (mC (.int 0))) (mC (.int 3))) (mC (.int 1)))) (sEx (mMeth isL bP (mVar 4) (mCons (mCall (arW 1 bV) (mCons (m3 slW (mVar 6) (mPart (mC (.int 4))) (mPart (mC (.int 7)))) mNil)) mNil))) sNil) (sEx (mMeth isL bP (mVar 4) (mCons (mCall (arW 2 gk) (mCons (mVar 6) (mCons (mVar 3) mNil))) mNil)))))))
theorem ms:iE=(sSeq (sSet 2 (mCall (arW 2 bQ) (mCons (mCall (arW 2 bR) (mCons (mVar 0) (mCons (mC (.int 0)) mNil))) (mCons (mC (.int 4)) mNil)))) (sSeq (sSet 3 (m3 slW (mCall (arW 1 eG) (mCons (m2 ixW (mVar 2) (mC (.int 0))) mNil)) bj (mPart (m2 addW (mC (.int 1)) (m2 modW (m2 ixW (mVar 2) (mC (.int 1))) (mVar 1)))))) (sSeq (sSet 4 (mNew (lenG (mCons (m2 addW (mC (.str "box n ")) (mCall strW (mCons (m2 modW (m2 ixW (mVar 2) (mC (.int 2))) (mC (.int 3))) mNil))) (mCons (m2 addW (mC (.str "box nn ")) (mCall strW (mCons (m2 modW (m2 ixW (mVar 2) (mC (.int 3))) (mC (.int 4))) mNil))) mNil))))) (sSeq (sFor (mSrcA (mCons (mCall lenW (mCons (mVar 3) mNil)) mNil) rng1) (tgN 5) bT) (sRet (mMeth isS joinW (mC (.str "\n")) (mCons (mVar 4) mNil))))))):=rfl
theorem yO (sc:List Int){ns:List Str}{k:Nat}{nm:Str}(hk:ns[k]?=some nm)(l2:ns.length<=10)(na: ∀x∈ns,bM x=true): ∃b:Bt,b.nm=nm/\BtL ns b/\ ∀ (h:List Ob) (j:Nat) (L:List Str) (a mo hd:Option W),h[j]?=some (.lst (L.map W.str))->L.length<=200->
  Ok (bT [some (.cl (sc.map W.int)),mo,hd,some (.tl (ns.map W.str)),some (.loc j),some (.int (0+(k:Int))),a]) h fun x h'=>(∃a',x=.nx [some (.cl (sc.map W.int)),mo,hd,some (.tl (ns.map W.str)),some (.loc j),some (.int (0+(k:Int))),a'])/\h'[j]?=some (.lst ((L++b.rows.map Rr.tx).map W.str))/\(∀i,i<h.length->i≠j->h'[i]?=h[i]?)/\h.length<=h'.length:=by
 obtain⟨c,ec⟩:=pE sc (1+(0+(k:Int))) (by omega)
 obtain⟨x0,x1,x2,x3,x4,x5,x6,x7,x8,x9,x10,x11,ex⟩:=ln12 (mK c 12)
 have hl:=(List.getElem?_eq_some_iff.mp hk).1
 obtain⟨R1,es1,st1,g1⟩:=vf x1 x2 x3
 obtain⟨R2,es2,st2,g2⟩:=vf x4 x5 x6
 obtain⟨R,ee,en,g,to⟩:=yo x0 x1 x2 x3 x4 x5 x6 x7 x8 x9 x10 x11 (ns:=ns) (by omega) l2 na
 have nm1:=na nm (List.mem_of_getElem? hk)
 have nl:=(cM nm1).len
 have v0:=Int.emod_nonneg x0 (show (3:Int)≠0 by decide)
 have v1:=Int.emod_lt_of_pos x0 (show (0:Int)<3 by decide)
 have ik:ixW (.tl (ns.map W.str)) (.int (0+(k:Int)))=pr (.str nm):=bY (br (by omega) (by rw[List.getElem?_map,show (0+(k:Int)).toNat=k by omega,hk];rfl))
 have kb:("block ":Str).length=6:=kw_len.2.2.2.2.2.2.2.2
 have ss: ∀ {h:List Ob}{j:Nat}{L:List Str}{z:Str}{β:Type}{k:W->M β}{Q:β->List Ob->Prop},h[j]?=some (.lst (L.map W.str))->L.length<=300->(∀h',h'[j]?=some (.lst ((L++[z]).map W.str))->(∀i,i≠j->h'[i]?=h[i]?)->h'.length=h.length->Ok (k .non) h' Q)->Ok (bd (bP (.loc j) [.str z]) k) h Q:=fun{h j L z β k Q} e l q=>by
  refine gc e (by rw[List.length_map];exact Nat.lt_of_le_of_lt l (by decide)) (q _ ?_ (fun i hi=>List.getElem?_set_ne (Ne.symm hi)) (List.length_set ..))
  rw[cN e,List.map_append];rfl
 refine⟨⟨nm,if x0 % 3=0 then [] else if x0 % 3=1 then [R1] else [R1,R2],R⟩,rfl,⟨⟨nm1,?_,?_,⟨en,g.ok,g.b,to⟩⟩,?_,?_,g.d⟩,fun h j L a mo hd ej lL=>?_⟩
 ·show (if x0 % 3=0 then [] else if x0 % 3=1 then [R1] else [R1,R2]).length<=8
  split
  ·simp
  ·split<;>simp
 ·intro r hr
  have hr:r∈(if x0 % 3=0 then [] else if x0 % 3=1 then [R1] else [R1,R2]):=hr
  have two:r∈[R1,R2]->r.stm=true/\r.Ok/\ ∀x∈r.bxs,x∈bn2:=fun hm=>by
   rcases List.mem_cons.mp hm with rfl|hm
   ·exact⟨st1,g1.ok,g1.b⟩
   ·rw[List.mem_singleton.mp hm];exact⟨st2,g2.ok,g2.b⟩
  split at hr
  ·exact absurd hr List.not_mem_nil
  ·split at hr
   ·exact two (by rw[List.mem_singleton.mp hr];exact List.mem_cons_self)
   ·exact two hr
 ·show (if x0 % 3=0 then [] else if x0 % 3=1 then [R1] else [R1,R2]).length<=2
  split
  ·simp
  ·split<;>simp
 ·intro r hr
  have hr:r∈(if x0 % 3=0 then [] else if x0 % 3=1 then [R1] else [R1,R2]):=hr
  have two:r∈[R1,R2]->r.dep<=5:=fun hm=>by
   rcases List.mem_cons.mp hm with rfl|hm
   ·exact g1.d
   ·rw[List.mem_singleton.mp hm];exact g2.d
  split at hr
  ·exact absurd hr List.not_mem_nil
  ·split at hr
   ·exact two (by rw[List.mem_singleton.mp hr];exact List.mem_cons_self)
   ·exact two hr
 unfold bT
 have em:(nums c 12).map W.int=[.int x0,.int x1,.int x2,.int x3,.int x4,.int x5,.int x6,.int x7,.int x8,.int x9,.int x10,.int x11]:=by rw[ex];rfl
 simp! only[aa,ec]
 refine bN (o3 (n:=12) rfl (by decide)) fun w h1 qq_=>?_
 obtain⟨ew,F⟩:=qq_
 subst ew
 rw[em]
 have e1:h1[j]?=some (.lst (L.map W.str)):=(F.eq j (eA ej)).trans ej
 have bt:=xk nm
 simp!
 refine cK e1 ?_
 simp! only[aa,ik,adS (a:= "block ") (b:=nm) (by omega)]
 rw[<-bt]
 refine ss e1 (by omega) fun h2 e2 f2 l2'=>?_
 have lL2:(L++[(Rr.block nm).tx]).length<=201:=by rw[List.length_append,List.length_singleton];omega
 by_cases c0:x0 % 3=0
 ·simp! only[aa,tx0,aE (show (0:Int)<3 by decide),decide_eq_false (show¬(0:Int)<x0 % 3 by omega),decide_eq_false (show¬(1:Int)<x0 % 3 by omega)]
  refine cK e2 ?_
  simp! only[aa,ee]
  refine ss e2 (by omega) fun h3 e3 f3 l3=>?_
  simp!
  refine aB ⟨⟨_,rfl⟩,?_,fun i hi hj=>?_,?_⟩
  ·rw[e3,if_pos c0,List.append_assoc];rfl
  ·rw[f3 i hj,f2 i hj];exact F.eq i hi
  ·rw[l3,l2'];exact F.le
 by_cases c1:x0 % 3=1
 ·simp! only[aa,tx0,aE (show (0:Int)<3 by decide),decide_eq_true (show (0:Int)<x0 % 3 by omega),decide_eq_false (show¬(1:Int)<x0 % 3 by omega)]
  refine cK e2 ?_
  simp! only[aa,ct14,es1]
  refine ss e2 (by omega) fun h3 e3 f3 l3=>?_
  simp! only[aa,tx0,aE (show (0:Int)<3 by decide),decide_eq_false (show¬(1:Int)<x0 % 3 by omega)]
  refine cK e3 ?_
  simp! only[aa,ee]
  refine ss e3 (by rw[List.length_append,List.length_singleton];omega) fun h4 e4 f4 l4=>?_
  simp!
  refine aB ⟨⟨_,rfl⟩,?_,fun i hi hj=>?_,?_⟩
  ·rw[e4,if_neg c0,if_pos c1,List.append_assoc,List.append_assoc];rfl
  ·rw[f4 i hj,f3 i hj,f2 i hj];exact F.eq i hi
  ·rw[l4,l3,l2'];exact F.le
 ·simp! only[aa,tx0,aE (show (0:Int)<3 by decide),decide_eq_true (show (0:Int)<x0 % 3 by omega),decide_eq_true (show (1:Int)<x0 % 3 by omega)]
  refine cK e2 ?_
  simp! only[aa,ct14,es1]
  refine ss e2 (by omega) fun h3 e3 f3 l3=>?_
  simp! only[aa,tx0,aE (show (0:Int)<3 by decide),decide_eq_true (show (1:Int)<x0 % 3 by omega)]
  refine cK e3 ?_
  simp! only[aa,ct47,es2]
  refine ss e3 (by rw[List.length_append,List.length_singleton];omega) fun h4 e4 f4 l4=>?_
  simp!
  refine cK e4 ?_
  simp! only[aa,ee]
  refine ss e4 (by rw[List.length_append,List.length_append,List.length_singleton,List.length_singleton];omega) fun h5 e5 f5 l5=>?_
  simp!
  refine aB ⟨⟨_,rfl⟩,?_,fun i hi hj=>?_,?_⟩
  ·rw[e5,if_neg c0,if_neg c1,List.append_assoc,List.append_assoc,List.append_assoc];rfl
  ·rw[f5 i hj,f4 i hj,f3 i hj,f2 i hj];exact F.eq i hi
  ·rw[l5,l4,l3,l2'];exact F.le
theorem nr {α:Type}(l:List α){v:Int}(h0:0<=v):cutW l none (some v)=l.take v.toNat:=by
 unfold cutW
 show List.take ((if v<0 then (v+(l.length:Int)).toNat else min v.toNat l.length) - 0) (l.drop 0)=_
 rw[if_neg (by omega),List.drop_zero,Nat.sub_zero]
 by_cases h:v.toNat<=l.length
 ·rw[Nat.min_eq_left h]
 ·rw[Nat.min_eq_right (by omega),List.take_length,List.take_of_length_le (by omega)]
theorem xj (x v:Str):(Rr.box x v).tx= "box"++⟨#[32]⟩++(x++⟨#[32]⟩++v):=rfl
theorem Bd:("box n ":Str)= "box"++⟨#[32]⟩++("n"++⟨#[32]⟩)/\("box nn ":Str)= "box"++⟨#[32]⟩++("nn"++⟨#[32]⟩)/\("box n ":Str).length=6/\("box nn ":Str).length=7:=by decide+kernel
theorem tH: ∀m,m<4->numOk (fig4.getD m "")=true:=by decide+kernel
theorem bn2_ok:bM "n"=true/\bM "nn"=true/\(["n", "nn"]:List Str).Nodup:=by decide+kernel
structure TxG (most:Nat)(bx:List (Str×Str))(bl:List Bt):Prop where
 g:PtxG bx bl
 b: ∀b∈bl,BtL (bl.map Bt.nm) b
 n:bx.map (·.1)=bn2
 l:bl.length<=most
theorem xt (sc:List Int){most:Nat}{MM:Int}(hM:MM=(most:Int))(m1:1<=most)(m2:most<=10): ∃bx bl,TxG most bx bl/\ ∀h:List Ob,Ok (gA [.cl (sc.map W.int),.int MM]) h fun w h'=>w=.str (textR (pgR bx bl))/\Fo h.length h h':=by
 obtain⟨c,ec⟩:=pE sc 0 (by omega)
 obtain⟨y0,y1,y2,y3,ey⟩:=ln4' (mK c 4)
 have i0:=Int.emod_nonneg y0 (show (4:Int)≠0 by decide)
 have i1:=Int.emod_lt_of_pos y0 (show (0:Int)<4 by decide)
 obtain⟨nl,na,nd⟩:=Ai (y0 % 4).toNat (by omega)
 have na:=List.all_eq_true.mp na
 have v0:=Int.emod_nonneg y1 (show MM≠0 by omega)
 have v1:=Int.emod_lt_of_pos y1 (show 0<MM by omega)
 have hn:=v9 y0
 obtain⟨ns,hns⟩: ∃ns,ns=(nmL (y0 % 4).toNat).take (1+y1 % MM).toNat:=⟨_,rfl⟩
 have ln:ns.length=(1+y1 % MM).toNat:=by rw[hns,List.length_take,nl];omega
 have nn: ∀x∈ns,bM x=true:=fun x hx=>by rw[hns] at hx;exact na x (List.mem_of_mem_take hx)
 have ndn:ns.Nodup:=by rw[hns];exact nd.sublist (List.take_sublist _ _)
 have sl:slW (.tl ((nmL (y0 % 4).toNat).map W.str)) none (some (1+y1 % MM))=pr (.tl (ns.map W.str)):=by
  rw[slW_tl,nr _ (by omega),<-List.map_take,<-hns]
 generalize nmL (y0 % 4).toNat=NL at *
 have s0:=Int.emod_nonneg y2 (show (3:Int)≠0 by decide)
 have s1:=Int.emod_lt_of_pos y2 (show (0:Int)<3 by decide)
 have t0:=Int.emod_nonneg y3 (show (4:Int)≠0 by decide)
 have t1:=Int.emod_lt_of_pos y3 (show (0:Int)<4 by decide)
 have sv:=st4 s0 (show y2 % 3<4 by omega)
 have tv:=st4 t0 t1
 have n2:=tH (y2 % 3).toNat (by omega)
 have n3:=tH (y3 % 4).toNat (by omega)
 have l2:=mR (y2 % 3).toNat (by omega)
 have l3:=mR (y3 % 4).toNat (by omega)
 generalize fig4.getD (y2 % 3).toNat ""=f2 at *
 generalize fig4.getD (y3 % 4).toNat ""=f3 at *
 have bo: ∀k:Nat,∃b:Bt,∀nm,ns[k]?=some nm->b.nm=nm/\BtL ns b/\ ∀ (h:List Ob) (j:Nat) (L:List Str) (a mo hd:Option W),h[j]?=some (.lst (L.map W.str))->L.length<=200->
  Ok (bT [some (.cl (sc.map W.int)),mo,hd,some (.tl (ns.map W.str)),some (.loc j),some (.int (0+(k:Int))),a]) h fun x h'=>(∃a',x=.nx [some (.cl (sc.map W.int)),mo,hd,some (.tl (ns.map W.str)),some (.loc j),some (.int (0+(k:Int))),a'])/\h'[j]?=some (.lst ((L++b.rows.map Rr.tx).map W.str))/\(∀i,i<h.length->i≠j->h'[i]?=h[i]?)/\h.length<=h'.length:=fun k=>by
  cases e:ns[k]? with
  |none=>exact⟨⟨"",[],.stop⟩,fun nm h=>by cases h⟩
  |some nm=>
   obtain⟨b,q⟩:=yO sc e (by omega) nn
   exact⟨b,fun nm' h=>by cases h;exact q⟩
 obtain⟨F,hF⟩:=Classical.axiomOfChoice bo
 have gF: ∀k,k<ns.length-> ∃nm,ns[k]?=some nm:=fun k hk=>⟨_,List.getElem?_eq_getElem hk⟩
 have enm:((List.range ns.length).map F).map Bt.nm=ns:=by
  apply List.ext_getElem?
  intro k
  rw[List.map_map,List.getElem?_map]
  by_cases hk:k<ns.length
  ·obtain⟨nm,e⟩:=gF k hk
   rw[List.getElem?_range hk,e]
   exact congrArg some (hF k nm e).1
  ·rw[List.getElem?_eq_none (by rw[List.length_range];omega),List.getElem?_eq_none (by omega)];rfl
 have all: ∀b∈(List.range ns.length).map F,BtL ns b:=fun b hb=>by
  obtain⟨k,hk,rfl⟩:=List.mem_map.mp hb
  obtain⟨nm,e⟩:=gF k (List.mem_range.mp hk)
  exact (hF k nm e).2.1
 have lbl:((List.range ns.length).map F).length=ns.length:=by rw[List.length_map,List.length_range]
 refine⟨[("n",f2),("nn",f3)],(List.range ns.length).map F,⟨⟨fun x hx=>?_,bn2_ok.2.2,by simp,by rw[enm];exact ndn,by rw[lbl];omega,by rw[lbl];omega,fun b hb=>by rw[enm];exact (all b hb).g⟩,fun b hb=>by rw[enm];exact all b hb,rfl,by rw[lbl];omega⟩,fun h=>?_⟩
 ·rcases List.mem_cons.mp hx with rfl|hx
  ·exact⟨bn2_ok.1,n2⟩
  ·rw[List.mem_singleton.mp hx];exact⟨bn2_ok.2.1,n3⟩
 have e0:gA [.cl (sc.map W.int),.int MM]=bd (iE [some (.cl (sc.map W.int)),some (.int MM),none,none,none,none,none]) finF:=rfl
 rw[e0,ms]
 have em:(nums c 4).map W.int=[.int y0,.int y1,.int y2,.int y3]:=by rw[ey];rfl
 simp! only[aa,ec]
 refine bN (o3 (n:=4) rfl (by decide)) fun w h1 qq_=>?_
 obtain⟨ew,F1⟩:=qq_
 subst ew
 rw[em]
 obtain⟨kb1,kb2,kb3,kb4⟩:=Bd
 obtain⟨N,hN⟩: ∃N:Int,N=(ns.length:Int):=⟨_,rfl⟩
 have eL:lenW [.tl (ns.map W.str)]=pr (.int N):=by rw[lenW_tl,List.length_map,hN]
 have eN:N.toNat=ns.length:=by omega
 obtain⟨NW,hNW⟩: ∃NW,NW=W.tl (ns.map W.str):=⟨_,rfl⟩
 rw[<-hNW] at sl eL
 simp! only[aa,tx0,tx1,tx2,tx3,hn,aE (show 0<MM by omega),aE (show (0:Int)<3 by decide),aE (show (0:Int)<4 by decide),sl,sv,tv,adS (a:= "box n ") (b:=f2) (by omega),adS (a:= "box nn ") (b:=f3) (by omega)]
 refine gr ?_
 simp! only[aa,eL,j4 (show (-(2 ^ 62):Int)<=N by omega) (show N<2 ^ 62 by omega)]
 have b1: "box n "++f2=(Rr.box "n" f2).tx:=by rw[xj,kb1];simp only[sapp]
 have b2: "box nn "++f3=(Rr.box "nn" f3).tx:=by rw[xj,kb2];simp only[sapp]
 rw[b1,b2]
 obtain⟨T1,hT1⟩: ∃T,T=(Rr.box "n" f2).tx:=⟨_,rfl⟩
 obtain⟨T2,hT2⟩: ∃T,T=(Rr.box "nn" f3).tx:=⟨_,rfl⟩
 rw[<-hT1,<-hT2]
 have rl: ∀i,i<=ns.length->([T1,T2]++(((List.range i).map F).flatMap Bt.rows).map Rr.tx).length<=2+4 * i:=fun i hi=>by
  rw[List.length_append,List.length_map]
  show 2+_<=_
  have: ∀i,i<=ns.length->(((List.range i).map F).flatMap Bt.rows).length<=4 * i:=fun i=>by
   induction i with
   |zero=>intro _;simp
   |succ i ih=>
    intro hi
    have ih:=ih (by omega)
    rw[List.range_succ,List.map_append,List.flatMap_append,List.length_append]
    obtain⟨nm,e⟩:=gF i (by omega)
    have:=(hF i nm e).2.1.l
    have:((List.map F [i]).flatMap Bt.rows).length=(F i).ss.length+2:=by
     show ((F i).rows++[]).length=_
     rw[List.append_nil];unfold Bt.rows;rw[List.length_cons,List.length_append];rfl
    omega
  have:=this i hi
  omega
 have hg0:(h1++[Ob.lst [.str T1,.str T2]])[h1.length]?=some (.lst (([T1,T2]++(((List.range 0).map F).flatMap Bt.rows).map Rr.tx).map W.str)):=dO
 have hg1:h1.length<=(h1++[Ob.lst [.str T1,.str T2]]).length:=by rw[List.length_append];omega
 refine eQ (I:=fun i ρ h'=> ∃a b,ρ=[some (.cl (sc.map W.int)),some (.int MM),some (.tl [.int y0,.int y1,.int y2,.int y3]),some NW,some (.loc h1.length),a,b]/\h'[h1.length]?=some (.lst (([T1,T2]++(((List.range i).map F).flatMap Bt.rows).map Rr.tx).map W.str))/\(∀i,i<h1.length->h'[i]?=h1[i]?)/\h1.length<=h'.length) ⟨none,none,rfl,hg0,fun i hi=>List.getElem?_append_left hi,hg1⟩ (fun _ _ _ _=>trivial) (fun i w ρ h2 hw I=>?_) fun ρ h2 I=>?_
 ·obtain⟨a,b,rfl,q1,q2,q3⟩:=I
  obtain⟨rfl,hi⟩:=eV _ _ _ _ hw
  rw[eN] at hi
  obtain⟨nm,e⟩:=gF i hi
  obtain⟨_,_,bk⟩:=hF i nm e
  have r:=rl i (by omega)
  rw[<-hNW] at bk
  refine⟨_,rfl,(bk h2 h1.length _ b _ _ q1 (by omega)).imp fun x h3 qz=>?_⟩
  obtain⟨⟨a',ex⟩,p1,p2,p3⟩:=qz
  refine⟨_,ex,_,_,rfl,?_,fun i hi=>(p2 i (by omega) (by omega)).trans (q2 i hi),by omega⟩
  have e1:((List.range (i+1)).map F).flatMap Bt.rows=((List.range i).map F).flatMap Bt.rows++(F i).rows:=by
   rw[List.range_succ,List.map_append,List.flatMap_append]
   show _++((F i).rows++[])=_
   rw[List.append_nil]
  rw[p1,e1,List.append_assoc,<-List.map_append (f:=Rr.tx)]
 ·obtain⟨a,b,rfl,q1,q2,q3⟩:=I
  rw[eU,eN] at q1
  have r:=rl ns.length (Nat.le_refl _)
  have et:[T1,T2]++(((List.range ns.length).map F).flatMap Bt.rows).map Rr.tx=(pgR [("n",f2),("nn",f3)] ((List.range ns.length).map F)).map Rr.tx:=by
   unfold pgR
   rw[List.map_append,hT1,hT2];rfl
  rw[et] at q1 r
  have lens: ∀z∈(pgR [("n",f2),("nn",f3)] ((List.range ns.length).map F)).map Rr.tx,z.length<=600:=fun z hz=>by
   obtain⟨R,hR,rfl⟩:=List.mem_map.mp hz
   unfold pgR at hR
   rcases List.mem_append.mp hR with hR|hR
   ·obtain⟨x,hx,rfl⟩:=List.mem_map.mp hR
    rcases List.mem_cons.mp hx with rfl|hx
    ·exact Rr.Ok.len (r:=.box "n" f2) ⟨bn2_ok.1,n2⟩
    ·rw[List.mem_singleton.mp hx];exact Rr.Ok.len (r:=.box "nn" f3) ⟨bn2_ok.2.1,n3⟩
   ·obtain⟨b,hb,hR⟩:=List.mem_flatMap.mp hR
    have gb:=(all b hb).g
    rcases List.mem_cons.mp hR with rfl|hR
    ·exact Rr.Ok.len (r:=.block b.nm) gb.nm
    ·rcases List.mem_append.mp hR with hR|hR
     ·exact (gb.s _ hR).2.1.len
     ·rw[List.mem_singleton.mp hR];exact gb.e.2.1.len
  have sm: ∀ {l:List Str},(∀z∈l,z.length<=600)->(l.map (·.length)).sum<=600 * l.length:=fun{l} h=>by
   induction l with
   |nil=>simp
   |cons z l ih=>
    have a:=h z List.mem_cons_self
    have b:=ih fun z hz=>h z (List.mem_cons_of_mem _ hz)
    rw[List.map_cons,List.sum_cons,List.length_cons,Nat.mul_succ]
    omega
  have sm:=sm lens
  have hr:textR (pgR [("n",f2),("nn",f3)] ((List.range ns.length).map F))=Str.join "\n" ((pgR [("n",f2),("nn",f3)] ((List.range ns.length).map F)).map Rr.tx):=by rw[v6];rfl
  rw[hr]
  generalize (pgR [("n",f2),("nn",f3)] ((List.range ns.length).map F)).map Rr.tx=TS at *
  have jl:("\n":Str).length=1:=by rw[v6];rfl
  have jw:joinW (.str "\n") [.loc h1.length] h2=.ok (.str (Str.join "\n" TS)) h2:=by
   show bd (lstO (.loc h1.length)) _ h2=_
   rw[gM (mW q1),kd (f:=sOf) (g:=W.str) (fun a=>rfl)]
   exact congrFun (ay (sz (by rw[jl];omega))) h2
  simp!
  refine cC jw ?_
  simp!
  exact aB ⟨rfl,fun i hi=>(q2 i (Nat.lt_of_lt_of_le hi F1.le)).trans (F1.eq i hi),Nat.le_trans F1.le q3⟩
end
section
open Wd
theorem sk_all:(PyData.strOk "n"=true/\PyData.strOk "nn"=true)/\(PyData.strOk "+"=true/\PyData.strOk "-"=true/\PyData.strOk "*"=true)/\(PyData.strOk "say"=true/\PyData.strOk "ask"=true/\PyData.strOk "put"=true)/\PyData.strOk "<"=true/\PyData.strOk "="=true:=by decide+kernel
theorem vk {x:Str}(h:x∈bn2):PyData.strOk x=true:=by
 rcases List.mem_cons.mp h with rfl|h
 ·exact sk_all.1.1
 ·rw[List.mem_singleton.mp h];exact sk_all.1.2
theorem jS: ∀ (n:Nat) (e:Exp),exDp e+2<=n->exOk e=true->(∀x∈exNm e,x∈bn2)->Pd n (expW e)
 |0,_,h,_,_=>by omega
 |1,_,h,_,_=>by omega
 |n+2,.num i,_,_,_=>pd2i um
 |n+2,.box x,_,_,b=>pd2s Ag (vk (b x List.mem_cons_self))
 |n+2,.bin s l r,h,k,b=>by
  have h:1+max (exDp l) (exDp r)+2<=n+2:=h
  have k:(decide (s∈(["+", "-", "*"]:List Str)) && (exOk l && exOk r))=true:=k
  rw[Bool.and_eq_true,Bool.and_eq_true,decide_eq_true_eq] at k
  have sk:PyData.strOk s=true:=by
   have:=k.1
   simp only[List.mem_cons,List.not_mem_nil,or_false] at this
   rcases this with rfl|rfl|rfl
   ·exact sk_all.2.1.1
   ·exact sk_all.2.1.2.1
   ·exact sk_all.2.1.2.2
  exact pdT (by simp) (cD (.str sk) (cD (jS (n+1) l (by omega) k.2.1 fun x hx=>b x (List.mem_append_left _ hx)) (cD (jS (n+1) r (by omega) k.2.2 fun x hx=>b x (List.mem_append_right _ hx)) kR)))
theorem yH {ns:List Str}{r:Rr}{N:Int}(hN:N=(ns.length:Int))(q:r.end'=true)(g:r.Ok)(b:∀x∈r.bxs,x∈bn2)(d:r.dep<=5)(to: ∀x∈r.tos,x∈ns):(r.en ns).Good N:=by
 have ix: ∀x,x∈ns->(0:Int)<=((ixOf ns x:Nat):Int)/\((ixOf ns x:Nat):Int)<N:=fun x hx=>by
  have:=(nV hx).2
  omega
 cases r with
 |go nm=>exact ix nm (to nm List.mem_cons_self)
 |iff s z1 e1 z2 e2 x y=>
  obtain⟨g1,g2,g3,g4,g5⟩:=g
  have d:max (exDp e1) (exDp e2)<=5:=d
  refine⟨ix x (to x List.mem_cons_self),ix y (to y (List.mem_cons_of_mem _ List.mem_cons_self)),jS 8 e1 (by omega) g2.ok fun x hx=>b x (List.mem_append_left _ hx),jS 8 e2 (by omega) g3.ok fun x hx=>b x (List.mem_append_right _ hx),?_⟩
  rcases g1 with rfl|rfl
  ·exact sk_all.2.2.2.1
  ·exact sk_all.2.2.2.2
 |table z e xs=>
  obtain⟨g1,g2,g3,g4⟩:=g
  have d:exDp e<=5:=d
  refine⟨by show (xs.map _).length<=6;rw[List.length_map];exact g3,fun t ht=>?_,jS 8 e (by omega) g1.ok b⟩
  have ht:t∈xs.map fun x=>((ixOf ns x:Nat):Int):=ht
  obtain⟨x,hx,rfl⟩:=List.mem_map.mp ht
  exact ix x (to x hx)
 |stop=>trivial
 |_=>cases q
theorem zr {r:Rr}(q:r.stm=true)(g:r.Ok)(b:∀x∈r.bxs,x∈bn2)(d:r.dep<=5): ∃ (z:Str) (l:List W),r.form=.tup (.str z::l)/\(z= "say"\/z= "ask"\/z= "put")/\Pd 9 r.form:=by
 obtain⟨k1,k2,k3⟩:=sk_all.2.2.1
 cases r with
 |put nm z e=>
  have d:exDp e<=5:=d
  exact⟨"put",_,rfl,.inr (.inr rfl),pdT (n:=8) (by simp) (cD (.str k3) (cD (.str (vk (b nm List.mem_cons_self))) (cD (jS 8 e (by omega) g.2.ok fun x hx=>b x (List.mem_cons_of_mem _ hx)) kR)))⟩
 |say z e=>
  have d:exDp e<=5:=d
  exact⟨"say",_,rfl,.inl rfl,pdT (n:=8) (by simp) (cD (.str k1) (cD (jS 8 e (by omega) g.ok b) kR))⟩
 |ask nm=>exact⟨"ask",_,rfl,.inr (.inl rfl),pd2s k2 (vk (b nm List.mem_cons_self))⟩
 |_=>cases q
end
section
noncomputable def upto (n:Nat):List Int:=(List.range n).map fun (r:Nat)=>1+(r:Int)
theorem t7 (n:Nat):upto (n+1)=upto n++[1+(n:Int)]:=by
 unfold upto
 rw[List.range_succ,List.map_append];rfl
theorem uY (n:Nat):(upto n).length=n:=by unfold upto;simp
theorem upto_mem {n:Nat}{x:Int}:x∈upto n↔1<=x/\x<=n:=by
 unfold upto
 constructor
 ·intro h
  obtain⟨r,hr,rfl⟩:=List.mem_map.mp h
  have:=List.mem_range.mp hr
  omega
 ·intro h
  exact List.mem_map.mpr ⟨(x - 1).toNat,List.mem_range.mpr (by omega),by omega⟩
def allB (n:Nat):List Int:=0::upto (n - 1)
theorem so (n:Nat):(allB n).Nodup:=by
 unfold allB
 refine List.nodup_cons.mpr ⟨fun h=>by have:=upto_mem.mp h;omega,?_⟩
 unfold upto
 show List.Pairwise (· ≠ ·) _
 rw[List.pairwise_map]
 exact List.nodup_range.imp fun h=>by omega
theorem xn {n:Nat}(hn:1<=n){x:Int}:x∈allB n↔0<=x/\x<n:=by
 unfold allB
 rw[List.mem_cons,upto_mem]
 omega
theorem qX {n:Nat}(hn:1<=n):(allB n).length=n:=by unfold allB;rw[List.length_cons,uY];omega
theorem addT (a:W)(l m:List W)(h:l.length+m.length<=100):addW (.tup (a::l)) (.tup m)=pr (.tup (a::(l++m))):=by
 show gd ((a::l).isEmpty=false/\(a::l).length+m.length<=sizeLine) (pr (W.tup ((a::l)++m)))=_
 rw[ay ⟨rfl,sz (by rw[List.length_cons];omega)⟩];rfl
def StmG (w:W):Prop:= ∃ (z:Str) (l:List W),w=.tup (.str z::l)/\(z= "say"\/z= "ask"\/z= "put")/\Pd 9 w
def StsG (sts:List W):Prop:=sts.length<=8/\ ∀x∈sts,StmG x
structure B17 where
 nm:Str
 s:List W
 e:E17
inductive R17
 |stm (w:W)
 |jump (t:Int)
 |cond (nm s:Str)(a b:W)(t:Int)
 |table (e:W)(ts:List Int)
 |stop
def R17.w:R17->W
 |.stm w=>w
 |.jump t=>.tup [.str "jump",.int t]
 |.cond nm s a b t=>.tup [.str nm,.str s,a,b,.int t]
 |.table e ts=>.tup [.str "table",e,.tup (ts.map W.int)]
 |.stop=>.tup [.str "stop"]
def R17.fin (f:Int->Int):R17->W
 |.stm w=>w
 |.jump t=>.tup [.str "jump",.int (f t)]
 |.cond nm s a b t=>.tup [.str nm,.str s,a,b,.int (f t)]
 |.table e ts=>.tup [.str "table",e,.tup ((ts.map f).map W.int)]
 |.stop=>.tup [.str "stop"]
def R17.Good (m:Int):R17->Prop
 |.stm w=>StmG w
 |.jump t=>0<=t/\t<m
 |.cond nm s a b t=>(nm= "when"\/nm= "unless")/\(0<=t/\t<m)/\Pd 8 a/\Pd 8 b/\PyData.strOk s=true
 |.table e ts=>ts.length<=6/\(∀t∈ts,0<=t/\t<m)/\Pd 8 e
 |.stop=>True
noncomputable def goR (t:Int)(nx:Option Int):List R17:=if nx=some t then [] else [.jump t]
def E17.tail (e:E17)(nx:Option Int):List R17:=match e with
 |.go t=>goR t nx
 |.iff s a b x y=>if x=y then goR x nx else if nx=some x then [.cond "unless" s a b y] else .cond "when" s a b x::goR y nx
 |.table e ts=>[.table e ts]
 |.stop=>[.stop]
theorem pq (t:Int)(nx:Option Int):(goR t nx).length<=1:=by unfold goR;split<;>simp
theorem pO (e:E17)(nx:Option Int):(e.tail nx).length<=2:=by
 cases e with
 |go t=>have:=pq t nx;show (goR t nx).length<=2;omega
 |iff s a b x y=>
  show (if x=y then goR x nx else if nx=some x then [R17.cond "unless" s a b y] else R17.cond "when" s a b x::goR y nx).length<=2
  have h1:=pq x nx
  have h2:=pq y nx
  split
  ·omega
  ·split
   ·simp
   ·rw[List.length_cons];omega
 |table e ts=>show ([R17.table e ts]:List R17).length<=2;simp
 |stop=>show ([R17.stop]:List R17).length<=2;simp
theorem pz {m t:Int}{nx:Option Int}(h:0<=t/\t<m): ∀r∈goR t nx,r.Good m:=fun r hr=>by
 unfold goR at hr
 split at hr
 ·exact absurd hr List.not_mem_nil
 ·rw[List.mem_singleton.mp hr];exact h
theorem ub {m:Int}{e:E17}{nx:Option Int}(g:e.Good m): ∀r∈e.tail nx,r.Good m:=fun r hr=>by
 cases e with
 |go t=>exact pz g r hr
 |iff s a b x y=>
  obtain⟨gx,gy,pa,pb⟩:=g
  have hr:r∈(if x=y then goR x nx else if nx=some x then [R17.cond "unless" s a b y] else R17.cond "when" s a b x::goR y nx):=hr
  split at hr
  ·exact pz gx r hr
  ·split at hr
   ·rw[List.mem_singleton.mp hr];exact⟨.inr rfl,gy,pa,pb⟩
   ·rcases List.mem_cons.mp hr with rfl|hr
    ·exact⟨.inl rfl,gx,pa,pb⟩
    ·exact pz gy r hr
 |table e ts=>rw[List.mem_singleton.mp (show r∈[R17.table e ts] from hr)];exact g
 |stop=>rw[List.mem_singleton.mp (show r∈[R17.stop] from hr)];trivial
noncomputable def nxW (nx:Option Int):W:=match nx with
 |none=>.non
 |some t=>.int t
theorem tJ (t:Int)(nx:Option Int):eqW (.int t) (nxW nx)=pr (.bl (decide (nx=some t))):=by
 cases nx with
 |none=>
  funext h
  rfl
 |some x=>
  show eqW (.int t) (.int x)=_
  rw[eqW_int]
  congr 2
  rw[decide_eq_decide]
  exact⟨fun z=>by rw[z],fun z=>(Option.some.inj z).symm⟩
theorem Bv:decide (("if":Str)= "go")=false:=by decide+kernel
theorem Bq:decide (("table":Str)= "go")=false:=by decide+kernel
theorem Bp:decide (("table":Str)= "if")=false:=by decide+kernel
theorem Bu:decide (("stop":Str)= "go")=false:=by decide+kernel
theorem Bs:decide (("stop":Str)= "if")=false:=by decide+kernel
theorem Br:decide (("stop":Str)= "table")=false:=by decide+kernel
theorem wR (t:Int)(nx:Option Int):eI [.int t,nxW nx]=pr (.tl ((goR t nx).map R17.w)):=by
 have e0:eI [.int t,nxW nx]=bd (jy [some (.int t),some (nxW nx)]) finF:=rfl
 rw[e0]
 unfold jy goR
 by_cases h:nx=some t
 ·rw[if_pos h]
  simp! only[aa,tupW,tJ,decide_eq_true h]
  rfl
 ·rw[if_neg h]
  simp! only[aa,tupW,tJ,decide_eq_false h]
  rfl
theorem sl14 (a b c d e f:W):slW (.tup [a,b,c,d,e,f]) (some 1) (some 4)=pr (.tup [b,c,d]):=by
 show gd (¬(HT.sIx 6 0 (some 1)=0/\HT.sIx 6 6 (some 4)=6)) (pr (W.tup (cutW [a,b,c,d,e,f] (some 1) (some 4))))=_
 rw[ay (by decide)];rfl
theorem add13 (a b c d:W):addW (.tup [a]) (.tup [b,c,d])=pr (.tup [a,b,c,d]):=addT a [] [b,c,d] (by show 0+3<=100;decide)
theorem add41 (a b c d e:W):addW (.tup [a,b,c,d]) (.tup [e])=pr (.tup [a,b,c,d,e]):=addT a [b,c,d] [e] (by show 3+1<=100;decide)
theorem add11 (a b:W):addW (.tup [a]) (.tup [b])=pr (.tup [a,b]):=addT a [] [b] (by show 0+1<=100;decide)
theorem Bg (s:Str)(a b:W)(x y:Int)(nx:Option Int):hV [.tup [.str "if",.str s,a,b,.int x,.int y],nxW nx]=pr (.tl (((E17.iff s a b x y).tail nx).map R17.w)):=by
 have e0:hV [.tup [.str "if",.str s,a,b,.int x,.int y],nxW nx]=bd (jx [some (.tup [.str "if",.str s,a,b,.int x,.int y]),some (nxW nx),none,none,none]) finF:=rfl
 rw[e0]
 unfold jx
 have et:(E17.iff s a b x y).tail nx=if x=y then goR x nx else if nx=some x then [.cond "unless" s a b y] else .cond "when" s a b x::goR y nx:=rfl
 rw[et]
 by_cases h:x=y
 ·rw[if_pos h]
  simp! only[aa,sl14,ix4,ix5,decide_eq_true h,wR]
 ·rw[if_neg h]
  by_cases h2:nx=some x
  ·rw[if_pos h2]
   simp! only[aa,sl14,ix4,ix5,decide_eq_false h,tJ,decide_eq_true h2,tupW,add13,add41]
   rfl
  ·rw[if_neg h2]
   have gl:=pq y nx
   have g2: ∀ {α:Type} (q:M α),gd (0+1+((goR y nx).map R17.w).length<=sizeLine) q=q:=fun q=>ay (sz (by rw[List.length_map];omega))
   simp! only[aa,sl14,ix4,ix5,decide_eq_false h,tJ,decide_eq_false h2,tupW,add13,add41,wR,catL,ph,g2]
   rfl
theorem AH (e:E17)(nx:Option Int):gB [e.w,nxW nx]=pr (.tl ((e.tail nx).map R17.w)):=by
 have e0:gB [e.w,nxW nx]=bd (iF [some e.w,some (nxW nx)]) finF:=rfl
 rw[e0]
 unfold iF
 cases e with
 |go t=>
  show bd _ finF=_
  unfold E17.w
  simp! only[aa,ix0,ix1,eq_self,decide_true,wR]
  rfl
 |iff s a b x y=>
  unfold E17.w
  simp! only[aa,ix0,Bv,eq_self,decide_true,Bg]
 |table e ts=>
  unfold E17.w
  simp! only[aa,ix0,Bq,Bp]
  rfl
 |stop=>
  unfold E17.w
  simp! only[aa,ix0,Bu,Bs]
  rfl
def secR (bl:List B17)(os:List Int)(i:Nat):List R17:=match os[i]? with
 |some o=>(match bl[o.toNat]? with
  |some b=>(b.s).map R17.stm++b.e.tail os[i+1]?
  |none=>[])
 |none=>[]
def rowsR (bl:List B17)(os:List Int):Nat->List R17
 |0=>[]
 |n+1=>rowsR bl os n++secR bl os n
def posR (bl:List B17)(os:List Int)(t:Int):Int:=match os.findIdx? (fun x=>decide (x=t)) with
 |some i=>((rowsR bl os i).length:Int)
 |none=>0
structure Pg (bl:List B17)(os:List Int):Prop where
 l1:1<=bl.length
 l2:bl.length<=10
 ok: ∀b∈bl,b.e.Good (bl.length:Int)/\StsG (b.s)
 pm:List.Perm os (allB bl.length)
theorem iG: ∀ {os:List Int}{i:Nat}{o:Int},os.Nodup->os[i]?=some o->os.findIdx? (fun x=>decide (x=o))=some i
 |[],_,_,_,h=>by cases h
 |a::os,0,o,_,h=>by
  cases h
  rw[List.findIdx?_cons,if_pos (by simp)]
 |a::os,i+1,o,nd,h=>by
  rw[List.getElem?_cons_succ] at h
  have nd':=List.nodup_cons.mp nd
  have ne: ¬a=o:=fun z=>nd'.1 (by rw[z];exact List.mem_of_getElem? h)
  rw[List.findIdx?_cons,if_neg (by simpa using ne),iG nd'.2 h];rfl
section
variable {bl:List B17}{os:List Int}
theorem Pg.nodup (P:Pg bl os):os.Nodup:=P.pm.nodup_iff.mpr (so _)
theorem Pg.mem (P:Pg bl os){x:Int}:x∈os↔0<=x/\x<bl.length:=by rw[P.pm.mem_iff,xn P.l1]
theorem Pg.len (P:Pg bl os):os.length=bl.length:=by rw[P.pm.length_eq,qX P.l1]
theorem Pg.blk (P:Pg bl os){i:Nat}{o:Int}(h:os[i]?=some o): ∃b∈bl,bl[o.toNat]?=some b/\0<=o/\o<bl.length:=by
 have ho:=P.mem.mp (List.mem_of_getElem? h)
 have hb:o.toNat<bl.length:=by omega
 exact⟨bl[o.toNat],List.getElem_mem hb,List.getElem?_eq_getElem hb,ho.1,ho.2⟩
theorem oB {i:Nat}{o:Int}{b:B17}(h:os[i]?=some o)(hb:bl[o.toNat]?=some b):secR bl os i=(b.s).map R17.stm++b.e.tail os[i+1]?:=by
 unfold secR
 simp only[h,hb]
theorem xD (P:Pg bl os)(n:Nat):(secR bl os n).length<=10:=by
 cases ho:os[n]? with
 |none=>unfold secR;simp only[ho];exact Nat.zero_le _
 |some o=>
  obtain⟨b,mb,hb,_⟩:=P.blk ho
  rw[oB ho hb,List.length_append,List.length_map]
  have:=pO b.e os[n+1]?
  have:=(P.ok b mb).2.1
  omega
theorem j3 (P:Pg bl os): ∀n:Nat,(rowsR bl os n).length<=10 * n
 |0=>Nat.zero_le _
 |n+1=>by
  rw[rowsR,List.length_append]
  have a:=j3 P n
  have b:=xD P n
  omega
theorem vn (P:Pg bl os)(n:Nat): ∀r∈secR bl os n,r.Good (bl.length:Int):=fun r hr=>by
 cases ho:os[n]? with
 |none=>unfold secR at hr;simp only[ho] at hr;exact absurd hr List.not_mem_nil
 |some o=>
  obtain⟨b,mb,hb,_⟩:=P.blk ho
  rw[oB ho hb] at hr
  rcases List.mem_append.mp hr with hr|hr
  ·obtain⟨x,hx,rfl⟩:=List.mem_map.mp hr
   exact (P.ok b mb).2.2 x hx
  ·exact ub (P.ok b mb).1 r hr
theorem jj (P:Pg bl os): ∀n:Nat,∀r∈rowsR bl os n,r.Good (bl.length:Int)
 |0,r,hr=>absurd hr List.not_mem_nil
 |n+1,r,hr=>by
  rw[rowsR] at hr
  rcases List.mem_append.mp hr with hr|hr
  ·exact jj P n r hr
  ·exact vn P n r hr
theorem vI (P:Pg bl os){i:Nat}{t:Int}(h:os[i]?=some t):posR bl os t=((rowsR bl os i).length:Int):=by
 unfold posR
 rw[iG P.nodup h]
theorem Pg.ix (P:Pg bl os){t:Int}(h:0<=t/\t<bl.length): ∃i:Nat,os[i]?=some t:=List.mem_iff_getElem?.mp (P.mem.mpr h)
theorem vh (l:List W):srcT (.tup l)=pr ⟨l,fun _=>True⟩:=rfl
end
noncomputable abbrev JL:List Str:=["jump", "when", "unless"]
theorem r6 (z:Str):inW (.str z) (.tup ((["jump", "when", "unless"]:List Str).map W.str))=pr (.bl (decide (z∈JL))):=by
 funext h
 unfold inW
 have e:inB (.str z) (.tup ((["jump", "when", "unless"]:List Str).map W.str)) h=some (decide (z∈JL)):=by
  show (match vOf (.str z),vsOf ((["jump", "when", "unless"]:List Str).map W.str) with
   |some v,some vs=>some (inV v vs)
   |_,_=>none)=_
  rw[eJ (g:=W.str) (k:=V.str) (fun a=>rfl)]
  show some (inV (.str z) ((["jump", "when", "unless"]:List Str).map V.str))=_
  rw[hJ]
 rw[e];rfl
theorem Az:decide (("jump":Str)∈JL)=true:=by decide+kernel
theorem Ay:decide (("stop":Str)∈JL)=false:=by decide+kernel
theorem yv:decide (("table":Str)∈JL)=false:=by decide+kernel
theorem cut2m (a b:W):slW (.tup [a,b]) none (some (-1))=pr (.tup [a]):=by
 show gd (¬(HT.sIx 2 0 none=0/\HT.sIx 2 2 (some (-1))=2)) (pr (W.tup (cutW [a,b] none (some (-1)))))=_
 rw[ay (by decide)];rfl
theorem cut5m (a b c d e:W):slW (.tup [a,b,c,d,e]) none (some (-1))=pr (.tup [a,b,c,d]):=by
 show gd (¬(HT.sIx 5 0 none=0/\HT.sIx 5 5 (some (-1))=5)) (pr (W.tup (cutW [a,b,c,d,e] none (some (-1)))))=_
 rw[ay (by decide)];rfl
theorem last2 (a b:W):ixW (.tup [a,b]) (.int (-1))=pr b:=gh (jf [a] b)
theorem last5 (a b c d e:W):ixW (.tup [a,b,c,d,e]) (.int (-1))=pr e:=gh (jf [a,b,c,d] e)
section
variable {β:Type}{h:List Ob}{Q:β->List Ob->Prop}{j:Nat}
theorem Aa {ks:List Key}{ws:List W}{o:Int}{v:W}{k:Unit->M β}(e:h[j]?=some (.dic ks ws))(nw:ks.any (fun k=>decide (k=.inl o))=false)(hz:ks.length<sizeLine)(q:Ok (k ()) (h.set j (.dic (ks++[.inl o]) (ws++[v]))) Q):Ok (bd (oy (.loc j) (.int o) v) k) h Q:=by
 refine cC (a:=()) (h':=h.set j (.dic (ks++[.inl o]) (ws++[v]))) ?_ q
 unfold oy
 have pw:putW ks ws (.inl o) v=(ks++[.inl o],ws++[v]):=by unfold putW;rw[nw];rfl
 have ko:keyOf (.int o)=some (.inl o):=rfl
 simp only[e,ko,pw,if_pos hz]
theorem v3 {ks:List Key}{ws:List W}{o:Int}{v:W}{k:W->M β}(e:h[j]?=some (.dic ks ws))(e2:atK ks ws (.inl o)=some v)(q:Ok (k v) h Q):Ok (bd (ixW (.loc j) (.int o)) k) h Q:=by
 refine cC (a:=v) (h':=h) ?_ q
 have d:dicOf (.loc j) h=some (ks,ws):=by unfold dicOf;simp only[e]
 have:ixO (.loc j) (.int o) h=some v:=by
  unfold ixO
  simp only[d,keyOf,e2]
 unfold ixW
 rw[this]
theorem yc {k:W->M β}{ρ:Env'}(q:Ok (k (.loc h.length)) (h++[.dic [] []]) Q):Ok (bd (mDNew ρ) k) h Q:=cC (a:=.loc h.length) (h':=h++[.dic [] []]) rfl q
theorem v4 {l mm:List W}{k:W->M β}(e:h[j]?=some (.lst l))(hz:l.length+mm.length<=sizeLine)(q:Ok (k .non) (h.set j (.lst (l++mm))) Q):Ok (bd (ku (.loc j) [.tl mm]) k) h Q:=by
 refine cC (a:=.non) (h':=h.set j (.lst (l++mm))) ?_ q
 unfold ku
 dsimp only
 rw[gM (show lstO (.tl mm) h=.ok mm h from rfl)]
 simp only[e,if_pos hz]
end
theorem uU: ∀ (os:List Int) (a:Int),zipW ((a::os).map W.int) (os.map W.int++[.non])=(List.range (os.length+1)).map fun i=>W.tup [.int ((a::os).getD i 0),nxW (a::os)[i+1]?]
 |[],a=>rfl
 |b::os,a=>by
  have ih:=uU os b
  unfold zipW at ih ⊢
  rw[List.map_cons,List.map_cons,List.cons_append,List.zipWith_cons_cons,<-List.map_cons,ih,List.length_cons,List.range_succ_eq_map (n:=os.length+1),List.map_cons,List.map_map]
  rfl
theorem slos {os:List Int}(h:1<=os.length):slW (.tup (os.map W.int)) (some 1) none=pr (.tup (os.tail.map W.int)):=by
 show gd (¬(HT.sIx (os.map W.int).length 0 (some 1)=0/\HT.sIx (os.map W.int).length (os.map W.int).length none=(os.map W.int).length)) (pr (W.tup (cutW (os.map W.int) (some 1) none)))=_
 have s1:HT.sIx (os.map W.int).length 0 (some 1)=1:=by
  show (if (1:Int)<0 then ((1:Int)+((os.map W.int).length:Int)).toNat else min (1:Int).toNat (os.map W.int).length)=1
  rw[if_neg (by decide),List.length_map]
  show min 1 os.length=1
  omega
 rw[ay (by rw[s1];omega)]
 congr 2
 unfold cutW
 rw[s1,show HT.sIx (os.map W.int).length (os.map W.int).length none=(os.map W.int).length from rfl]
 cases os with
 |nil=>rfl
 |cons a os=>
  rw[List.map_cons,List.drop_one,List.tail_cons,List.tail_cons,List.length_cons,Nat.add_sub_cancel,List.take_length]
theorem AN (l:List W)(h:l.length<=100):catTW (.tup l) (.tup [.non])=pr (.tup (l++[.non])):=by
 cases l with
 |nil=>rfl
 |cons a l=>
  show gd ((a::l).length+([W.non]:List W).length<=sizeLine) (pr (W.tup ((a::l)++[.non])))=_
  exact ay (sz (by show (a::l).length+1<=_;omega))
theorem xy (a b:List W):srcZ true true [.tup a,.tup b]=pr ⟨zipW a b,fun _=>True/\True⟩:=rfl
def ksW (os:List Int)(n:Nat):List Key:=(os.take n).map Sum.inl
def wsR (bl:List B17)(os:List Int)(n:Nat):List W:=(List.range n).map fun (i:Nat)=>W.int ((rowsR bl os i).length:Int)
theorem xl: ∀ {os:List Int}{ws:List W}{i:Nat}{t:Int},os.Nodup->os.length=ws.length->os[i]?=some t->atK (os.map (Sum.inl:Int->Key)) ws (.inl t)=ws[i]?
 |[],_,_,_,_,_,h=>by cases h
 |o::os,[],_,_,_,h,_=>by cases h
 |o::os,w::ws,0,t,_,_,h=>by cases h;rw[List.map_cons,atK,if_pos rfl];rfl
 |o::os,w::ws,i+1,t,nd,hl,h=>by
  rw[List.getElem?_cons_succ] at h
  have nd':=List.nodup_cons.mp nd
  have ne: ¬o=t:=fun z=>nd'.1 (by rw[z];exact List.mem_of_getElem? h)
  rw[List.map_cons,atK,if_neg (fun z=>ne (Sum.inl.inj z)),List.getElem?_cons_succ]
  exact xl nd'.2 (Nat.succ.inj hl) h
section
variable {bl:List B17}{os:List Int}
theorem za (n:Nat):(wsR bl os n).length=n:=by unfold wsR;simp
theorem xq (n:Nat):wsR bl os (n+1)=wsR bl os n++[.int ((rowsR bl os n).length:Int)]:=by
 unfold wsR
 rw[List.range_succ,List.map_append];rfl
theorem yt {n:Nat}{o:Int}(h:os[n]?=some o):ksW os (n+1)=ksW os n++[.inl o]:=by
 unfold ksW
 rw[List.take_succ,h,List.map_append];rfl
theorem At (P:Pg bl os){n:Nat}{o:Int}(h:os[n]?=some o):(ksW os n).any (fun k=>decide (k=.inl o))=false:=by
 rw[List.any_eq_false]
 intro k hk
 unfold ksW at hk
 obtain⟨x,hx,rfl⟩:=List.mem_map.mp hk
 intro z
 have z:=Sum.inl.inj (of_decide_eq_true z)
 subst z
 obtain⟨i,hi,e⟩:=List.mem_take_iff_getElem.mp hx
 have hn:=(List.getElem?_eq_some_iff.mp h)
 obtain⟨hn1,hn2⟩:=hn
 have il:i<os.length:=by omega
 have q1:=iG P.nodup (List.getElem?_eq_some_iff.mpr ⟨il,e⟩)
 have q2:=iG P.nodup h
 rw[q1] at q2
 have:=Option.some.inj q2
 omega
theorem sj (P:Pg bl os){t:Int}(ht:0<=t/\t<bl.length):atK (ksW os bl.length) (wsR bl os bl.length) (.inl t)=some (.int (posR bl os t)):=by
 have e:ksW os bl.length=os.map Sum.inl:=by unfold ksW;rw[<-P.len,List.take_length]
 obtain⟨i,hi⟩:=P.ix ht
 have il:=(List.getElem?_eq_some_iff.mp hi).1
 rw[e,xl P.nodup (by rw[za,P.len]) hi,vI P hi]
 unfold wsR
 rw[List.getElem?_map,List.getElem?_range (by rw[<-P.len];exact il)];rfl
theorem AB {h:List Ob}{j:Nat}{ks:List Key}{ws:List W}{o:Int}{v:W}(e:h[j]?=some (.dic ks ws))(e2:atK ks ws (.inl o)=some v):Ok (ixW (.loc j) (.int o)) h fun w h'=>w=v/\h'=h:=by
 have d:dicOf (.loc j) h=some (ks,ws):=by unfold dicOf;simp only[e]
 have:ixO (.loc j) (.int o) h=some v:=by
  unfold ixO
  simp only[d,keyOf,e2]
 refine⟨v,h,?_,rfl,rfl⟩
 unfold ixW
 rw[this]
theorem As {h:List Ob}{kg:Nat}{r:R17}(P:Pg bl os)(ed:h[kg]?=some (.dic (ksW os bl.length) (wsR bl os bl.length)))(g:r.Good (bl.length:Int)):Ok (dJ [r.w,.loc kg]) h fun w h'=>w=r.fin (posR bl os)/\h'=h:=by
 have e0:dJ [r.w,.loc kg]=bd (fw [some r.w,some (.loc kg)]) finF:=rfl
 rw[e0]
 unfold fw
 cases r with
 |stm w=>
  obtain⟨z,l',rfl,hz',_⟩:=(show StmG w from g)
  have jz:decide (z∈JL)=false:=by rcases hz' with rfl|rfl|rfl<;>decide+kernel
  have tz:decide (z= "table")=false:=by rcases hz' with rfl|rfl|rfl<;>decide+kernel
  unfold R17.w R17.fin
  simp! only[aa,ix0,r6,jz,tz]
  exact aB ⟨rfl,rfl⟩
 |jump t=>
  unfold R17.w R17.fin
  simp! only[aa,ix0,r6,Az,cut2m,last2]
  refine v3 ed (sj P g) ?_
  simp! only[aa,tupW,add11]
  exact aB ⟨rfl,rfl⟩
 |cond nm s a b t=>
  obtain⟨hn,ht,_⟩:=g
  have jz:decide (nm∈JL)=true:=by rcases hn with rfl|rfl<;>decide+kernel
  unfold R17.w R17.fin
  simp! only[aa,ix0,r6,jz,cut5m,last5]
  refine v3 ed (sj P ht) ?_
  simp! only[aa,tupW,add41]
  exact aB ⟨rfl,rfl⟩
 |table e ts=>
  obtain⟨tl,gt,_⟩:=g
  have gl: ∀ {α:Type} (q:M α),gd ((ts.map W.int).length<=sizeLine) q=q:=fun q=>ay (by rw[List.length_map];exact sz (by omega))
  unfold R17.w R17.fin
  simp! only[aa,ix0,ix1,ix2,r6,yv,eq_self,decide_true,bu,vh,gl]
  refine jo (I:=fun n l h'=>h'=h/\l=((ts.take n).map (posR bl os)).map W.int) ⟨rfl,rfl⟩ kF (fun _ _ _ _=>trivial) (fun n w l h4 hw J=>?_) fun l' h4 J=>?_
  ·obtain⟨rfl,rfl⟩:=J
   rw[List.getElem?_map] at hw
   obtain⟨t,ht,rfl⟩:=Option.map_eq_some_iff.mp hw
   refine⟨_,rfl,?_⟩
   simp! only[List.replicate,List.cons_append,List.nil_append,aa]
   refine Ok.imp (AB ed (sj P (gt t (List.mem_of_getElem? ht)))) fun w h5 qz=>?_
   obtain⟨e1,e2⟩:=qz
   refine⟨e2,?_⟩
   rw[e1,List.take_succ,ht,List.map_append,List.map_append];rfl
  ·obtain⟨rfl,rfl⟩:=J
   rw[List.length_map,List.take_length]
   simp! only[aa,kG,tupW]
   exact aB ⟨rfl,rfl⟩
 |stop=>
  unfold R17.w R17.fin
  simp! only[aa,ix0,r6,Ay,Br]
  exact aB ⟨rfl,rfl⟩
def hwS (b:B17):W:=.tup [.str b.nm,.tl (b.s),b.e.w]
theorem hw1 (b:B17):ixW (hwS b) (.int 1)=pr (.tl (b.s)):=ix1 _ _ _
theorem hw2 (b:B17):ixW (hwS b) (.int 2)=pr b.e.w:=ix2 _ _ _ _
theorem yz {o:Int}{b:B17}(o0:0<=o)(hb:bl[o.toNat]?=some b):ixW (.tl (bl.map hwS)) (.int o)=pr (hwS b):=bY (br o0 (by rw[List.getElem?_map,hb];rfl))
theorem yr {h:List Ob}{bx:W}(P:Pg bl os):Ok (nq [.tup [bx,.tl (bl.map hwS)],.tup (os.map W.int)]) h fun w h'=>(∀i,i<h.length->h'[i]?=h[i]?)/\h.length<=h'.length/\w=.tl ((rowsR bl os bl.length).map (R17.fin (posR bl os))):=by
 have e0:nq [.tup [bx,.tl (bl.map hwS)],.tup (os.map W.int)]=bd (pB [some (.tup [bx,.tl (bl.map hwS)]),some (.tup (os.map W.int)),none,none,none,none,none]) finF:=rfl
 have pl:=P.len
 have m1:=P.l1
 have m2:=P.l2
 rw[e0]
 unfold pB
 simp!
 refine gr ?_
 simp!
 refine yc ?_
 have el:(h++[Ob.lst []]).length=h.length+1:=by simp
 simp! only[sFor,aa,tupW,slos (os:=os) (by omega),AN (os.tail.map W.int) (by rw[List.length_map,List.length_tail];omega),xy]
 have zz:zipW (os.map W.int) (os.tail.map W.int++[.non])=(List.range bl.length).map fun i=>W.tup [.int (os.getD i 0),nxW os[i+1]?]:=by
  cases os with
  |nil=>have:0=bl.length:=pl;omega
  |cons a r=>rw[List.tail_cons,uU,<-pl];rfl
 rw[zz]
 refine eQ (I:=fun n ρ h'=>(∃a4 a5 a6,ρ=[some (.tup [bx,.tl (bl.map hwS)]),some (.tup (os.map W.int)),some (.loc h.length),some (.loc (h++[Ob.lst []]).length),a4,a5,a6])/\(∀i,i<h.length->h'[i]?=h[i]?)/\h'.length=h.length+2/\h'[h.length]?=some (.lst ((rowsR bl os n).map R17.w))/\h'[h.length+1]?=some (.dic (ksW os n) (wsR bl os n))) ⟨⟨_,_,_,rfl⟩,fun i hi=>by rw[List.getElem?_append_left (by rw[el];omega),List.getElem?_append_left hi],by simp,tu dO,by rw[<-el];exact dO⟩ (fun _ _ _ _=>⟨trivial,trivial⟩) (fun n w ρ h1 hw I=>?_) fun ρ h1 I=>?_
 ·obtain⟨⟨a4,a5,a6,rfl⟩,fr,hl,er,ed⟩:=I
  rw[List.getElem?_map] at hw
  obtain⟨n',hn',rfl⟩:=Option.map_eq_some_iff.mp hw
  have hn:n<bl.length:=by
   have:=(List.getElem?_eq_some_iff.mp hn').1
   rwa[List.length_range] at this
  have nn:n'=n:=by
   rw[List.getElem?_range hn] at hn'
   exact (Option.some.inj hn').symm
  subst nn
  obtain⟨o,ho⟩: ∃o,os[n']?=some o:=⟨_,List.getElem?_eq_getElem (by omega)⟩
  have go:os.getD n' 0=o:=by rw[List.getD_eq_getElem?_getD,ho];rfl
  rw[go]
  obtain⟨b,mb,hb,o0,o1⟩:=P.blk ho
  have rl:=j3 P n'
  have tl:=pO b.e os[n'+1]?
  have s8:=(P.ok b mb).2.1
  have kl:(ksW os n').length<=10:=by unfold ksW;rw[List.length_map,List.length_take];omega
  refine⟨_,rfl,?_⟩
  simp! only[aa,ix1,yz o0 hb]
  refine (Lw.len (.inr ⟨h.length,rfl,er⟩)) ?_
  simp!
  rw[el]
  refine Aa ed (At P ho) (Nat.lt_of_le_of_lt kl (by decide)) ?_
  rw[List.length_map]
  have er2:(h1.set (h.length+1) (.dic (ksW os n'++[.inl o]) (wsR bl os n'++[.int ((rowsR bl os n').length:Int)])))[h.length]?=some (.lst ((rowsR bl os n').map R17.w)):=by rw[List.getElem?_set_ne (by omega)];exact er
  have ed2:(h1.set (h.length+1) (.dic (ksW os n'++[.inl o]) (wsR bl os n'++[.int ((rowsR bl os n').length:Int)])))[h.length+1]?=some (.dic (ksW os (n'+1)) (wsR bl os (n'+1))):=by rw[cN ed,yt ho,xq]
  have fr2: ∀i,i<h.length->(h1.set (h.length+1) (.dic (ksW os n'++[.inl o]) (wsR bl os n'++[.int ((rowsR bl os n').length:Int)])))[i]?=h[i]?:=fun i hi=>by rw[List.getElem?_set_ne (by omega)];exact fr i hi
  have hl2:(h1.set (h.length+1) (.dic (ksW os n'++[.inl o]) (wsR bl os n'++[.int ((rowsR bl os n').length:Int)]))).length=h.length+2:=by rw[List.length_set];exact hl
  generalize h1.set (h.length+1) (.dic (ksW os n'++[.inl o]) (wsR bl os n'++[.int ((rowsR bl os n').length:Int)]))=h2 at *
  simp!
  refine cK er2 ?_
  simp! only[aa,hw1]
  refine v4 er2 (sz (by rw[List.length_map];omega)) ?_
  have er3:(h2.set h.length (.lst ((rowsR bl os n').map R17.w++b.s)))[h.length]?=some (.lst ((rowsR bl os n').map R17.w++b.s)):=cN er2
  have ed3:(h2.set h.length (.lst ((rowsR bl os n').map R17.w++b.s)))[h.length+1]?=some (.dic (ksW os (n'+1)) (wsR bl os (n'+1))):=by rw[List.getElem?_set_ne (by omega)];exact ed2
  have fr3: ∀i,i<h.length->(h2.set h.length (.lst ((rowsR bl os n').map R17.w++b.s)))[i]?=h[i]?:=fun i hi=>by rw[List.getElem?_set_ne (by omega)];exact fr2 i hi
  have hl3:(h2.set h.length (.lst ((rowsR bl os n').map R17.w++b.s))).length=h.length+2:=by rw[List.length_set];exact hl2
  generalize h2.set h.length (.lst ((rowsR bl os n').map R17.w++b.s))=h3 at *
  simp!
  refine cK er3 ?_
  simp! only[aa,hw2,AH]
  refine v4 er3 (sz (by rw[List.length_append,List.length_map,List.length_map];omega)) ?_
  simp!
  refine aB ⟨_,rfl,⟨_,_,_,rfl⟩,fun i hi=>by rw[List.getElem?_set_ne (by omega)];exact fr3 i hi,by rw[List.length_set];exact hl3,?_,by rw[List.getElem?_set_ne (by omega)];exact ed3⟩
  have es:b.s++(b.e.tail os[n'+1]?).map R17.w=(secR bl os n').map R17.w:=by
   rw[oB ho hb,List.map_append,List.map_map]
   congr 1
   exact (List.map_id' (b.s)).symm
  rw[cN er3,rowsR,List.map_append,<-es,<-List.append_assoc]
 ·obtain⟨⟨a4,a5,a6,rfl⟩,fr,hl,er,ed⟩:=I
  rw[List.length_map,List.length_range] at er ed
  have rl:=j3 P bl.length
  simp! only[aa,bu]
  refine oS er ?_
  have gl: ∀ {α:Type} (q:M α),gd (((rowsR bl os bl.length).map R17.w).length<=sizeLine) q=q:=fun q=>ay (sz (by rw[List.length_map];omega))
  simp! only[aa,gl]
  refine jo (I:=fun n a h'=>h'=h1/\a=((rowsR bl os bl.length).take n).map (R17.fin (posR bl os))) ⟨rfl,rfl⟩ kF (fun _ _ h' I=>by rw[I.1];exact er) (fun n w a h' hw I=>?_) fun a h' I=>?_
  ·obtain⟨rfl,rfl⟩:=I
   rw[List.getElem?_map] at hw
   obtain⟨r,hr,rfl⟩:=Option.map_eq_some_iff.mp hw
   refine⟨_,rfl,?_⟩
   rw[el]
   simp! only[List.replicate,List.cons_append,List.nil_append,aa]
   refine Ok.imp (As P ed (jj P bl.length r (List.mem_of_getElem? hr))) fun x h2 qz=>?_
   obtain⟨e1,e2⟩:=qz
   refine⟨e2,?_⟩
   rw[e1,List.take_succ,hr,List.map_append];rfl
  ·obtain⟨rfl,rfl⟩:=I
   rw[List.length_map,List.take_length]
   simp!
   exact aB ⟨fun i hi=>fr i hi,by omega,rfl⟩
end
end
section
def RowOk (N:Nat)(w:W)(o:Option Nat):Prop:= ∃ (z:Str) (l:List W),w=.tup (.str z::l)/\match o with
 |none=>decide (z∈JL)=false
 |some t=>decide (z∈JL)=true/\t<=N/\ ∃m,l=m++[.int (t:Int)]
structure Rows (D:List W)(T:List (Option Nat)):Prop where
 len:T.length=D.length
 ok: ∀ (i:Nat) (w:W) (o:Option Nat),D[i]?=some w->T[i]?=some o->RowOk D.length w o
 pd: ∀x∈D,Pd 9 x
 sz:D.length<=100
 pos:1<=D.length
section
variable {bl:List B17}{os:List Int}
theorem nK (i:Nat): ∀n:Nat,i<=n->(rowsR bl os i).length<=(rowsR bl os n).length
 |0,h=>by rw[show i=0 by omega];exact Nat.le_refl _
 |n+1,h=>by
  by_cases e:i=n+1
  ·rw[e];exact Nat.le_refl _
  ·have:=nK i n (by omega)
   rw[rowsR,List.length_append];omega
theorem sM (P:Pg bl os){t:Int}(h:0<=t/\t<bl.length): ∃p:Nat,posR bl os t=(p:Int)/\p<=(rowsR bl os bl.length).length:=by
 obtain⟨i,hi⟩:=P.ix h
 have il:=(List.getElem?_eq_some_iff.mp hi).1
 have:=P.len
 exact⟨_,vI P hi,nK i _ (by omega)⟩
noncomputable def toR (f:Int->Int):R17->Option Nat
 |.jump t=>some (f t).toNat
 |.cond _ _ _ _ t=>some (f t).toNat
 |_=>none
theorem AF {m:Int}{r:R17}(g:r.Good m)(f:Int->Int):Pd 9 (r.fin f):=by
 cases r with
 |stm w=>
  obtain⟨z,l,e,_,p⟩:=(show StmG w from g)
  exact p
 |jump t=>exact pd2i (by decide+kernel)
 |cond nm s a b t=>
  obtain⟨hn,_,pa,pb,sk⟩:=g
  have hk:PyData.strOk nm=true:=by rcases hn with rfl|rfl<;>decide+kernel
  exact pdT (n:=8) (by simp) (cD (.str hk) (cD (.str sk) (cD pa (cD pb (cD .int kR)))))
 |table e ts=>
  obtain⟨tl,_,pe⟩:=g
  refine pdT (n:=8) (by simp) (cD (.str (by decide+kernel)) (cD pe (cD (pdT (n:=7) (by rw[List.length_map,List.length_map];omega) fun x hx=>?_) kR)))
  obtain⟨i,_,rfl⟩:=List.mem_map.mp hx
  exact .int
 |stop=>exact (pdT (n:=8) (by simp) (cD (.str (by decide+kernel)) kR))
theorem yC (P:Pg bl os){r:R17}(g:r.Good (bl.length:Int)):RowOk (rowsR bl os bl.length).length (r.fin (posR bl os)) (toR (posR bl os) r):=by
 cases r with
 |stm w=>
  obtain⟨z,l,e,hz,p⟩:=(show StmG w from g)
  refine⟨z,l,e,?_⟩
  show decide (z∈JL)=false
  rcases hz with rfl|rfl|rfl<;>decide+kernel
 |jump t=>
  obtain⟨p,e,hp⟩:=sM P (t:=t) g
  refine⟨"jump",[.int (posR bl os t)],rfl,by decide+kernel,?_,[],?_⟩
  ·show (posR bl os t).toNat<=_
   omega
  ·rw[e];rfl
 |cond nm s a b t=>
  obtain⟨hn,ht,_⟩:=g
  obtain⟨p,e,hp⟩:=sM P (t:=t) ht
  refine⟨nm,[.str s,a,b,.int (posR bl os t)],rfl,by rcases hn with rfl|rfl<;>decide+kernel,?_,[.str s,a,b],?_⟩
  ·show (posR bl os t).toNat<=_
   omega
  ·rw[e];rfl
 |table e ts=>exact⟨"table",_,rfl,(by decide+kernel:decide (("table":Str)∈JL)=false)⟩
 |stop=>exact⟨"stop",_,rfl,(by decide+kernel:decide (("stop":Str)∈JL)=false)⟩
theorem xv (e:E17):1<=(e.tail none).length:=by
 cases e with
 |go t=>exact Nat.le_refl _
 |iff s a b x y=>
  show 1<=(if x=y then goR x none else if (none:Option Int)=some x then [R17.cond "unless" s a b y] else R17.cond "when" s a b x::goR y none).length
  split
  ·exact Nat.le_refl _
  ·rw[if_neg (by simp),List.length_cons];omega
 |table e ts=>exact Nat.le_refl _
 |stop=>exact Nat.le_refl _
theorem vA (P:Pg bl os):1<=(rowsR bl os bl.length).length:=by
 have l1:=P.l1
 have l2:=P.len
 obtain⟨n,hn⟩: ∃n,bl.length=n+1:=⟨bl.length - 1,by omega⟩
 obtain⟨o,ho⟩: ∃o,os[n]?=some o:=⟨_,List.getElem?_eq_getElem (by omega)⟩
 obtain⟨b,mb,hb,_⟩:=P.blk ho
 have hx:os[n+1]?=none:=List.getElem?_eq_none (by omega)
 have:=xv b.e
 rw[hn,rowsR,List.length_append,oB ho hb,List.length_append,hx]
 omega
theorem uA (P:Pg bl os): ∃T,Rows ((rowsR bl os bl.length).map (R17.fin (posR bl os))) T:=by
 have rl:=j3 P bl.length
 have l2:=P.l2
 refine⟨(rowsR bl os bl.length).map (toR (posR bl os)),by simp,fun i w o hw ho=>?_,fun x hx=>?_,by rw[List.length_map];omega,by rw[List.length_map];exact vA P⟩
 ·rw[List.getElem?_map] at hw ho
  obtain⟨r,hr,rfl⟩:=Option.map_eq_some_iff.mp hw
  rw[hr] at ho
  cases ho
  rw[List.length_map]
  exact yC P (jj P _ r (List.mem_of_getElem? hr))
 ·obtain⟨r,hr,rfl⟩:=List.mem_map.mp hx
  exact AF (jj P _ r hr) _
end
end
section
noncomputable def pre (ls:List Int)(k:Nat):Int:=(ls.take k).sum
theorem j8 {ls:List Int}{k:Nat}{x:Int}(h:ls[k]?=some x):pre ls (k+1)=pre ls k+x:=by
 unfold pre
 rw[List.take_succ,h,List.sum_append];simp
def begs (ls:List Int)(n:Nat):List Int:=(List.range (n+1)).map (pre ls)
theorem jd (ls:List Int)(n:Nat):(begs ls n).length=n+1:=by unfold begs;simp
theorem ig {ls:List Int}{n k:Nat}(h:k<=n):(begs ls n)[k]?=some (pre ls k):=by
 unfold begs
 rw[List.getElem?_map,List.getElem?_range (by omega)];rfl
theorem om (ls:List Int)(n:Nat):begs ls (n+1)=begs ls n++[pre ls (n+1)]:=by
 unfold begs
 rw[List.range_succ,List.map_append];rfl
theorem oo {l:List W}{w:W}{n:Nat}(hl:l.length=n+1)(h:l[n]?=some w):atI l (-1)=some w:=by
 have e:l=l.take n++[w]:=by
  have:l=l.take (n+1):=by rw[<-hl,List.take_length]
  rw[List.take_succ,h] at this
  exact this
 rw[e];exact jf _ _
theorem on {h:List Ob}{x:W}{ls:List Int}(p:Lw h x (ls.map W.int))(hl:ls.length<=1000):Ok (dq [x]) h fun w h'=>w=.tl ((begs ls ls.length).map W.int)/\(∀i,i<h.length->h'[i]?=h[i]?)/\h.length<=h'.length:=by
 have e0:dq [x]=bd (gJ [some x,none,none]) finF:=rfl
 rw[e0]
 unfold gJ
 simp!
 refine gr ?_
 simp! only[sFor,aa]
 have p1:Lw (h++[.lst [.int 0]]) x (ls.map W.int):=p.keep fun i hi=>List.getElem?_append_left hi
 refine p1.src fun G hG=>?_
 refine eQ (I:=fun n ρ h'=>(∃a,ρ=[some x,some (.loc h.length),a])/\(∀i,i<h.length->h'[i]?=h[i]?)/\h'[h.length]?=some (.lst ((begs ls n).map W.int))) ⟨⟨_,rfl⟩,fun i hi=>List.getElem?_append_left hi,dO⟩ (fun i ρ h' I=>hG _ (p.keep I.2.1)) (fun n w ρ h1 hw I=>?_) fun ρ h1 I=>?_
 ·obtain⟨⟨a,rfl⟩,fr,eb⟩:=I
  rw[List.getElem?_map] at hw
  obtain⟨v,hv,rfl⟩:=Option.map_eq_some_iff.mp hw
  have hn:=(List.getElem?_eq_some_iff.mp hv).1
  refine⟨_,rfl,?_⟩
  simp!
  refine cK eb ?_
  simp!
  refine nO eb (w:=.int (pre ls n)) (oo (n:=n) (by rw[List.length_map,jd]) (by rw[List.getElem?_map,ig (Nat.le_refl _)];rfl)) ?_
  simp!
  refine gc eb (by rw[List.length_map,jd];exact Nat.lt_of_le_of_lt (show n+1<=1000 by omega) (by decide)) ?_
  simp!
  refine aB ⟨_,rfl,⟨_,rfl⟩,fun i hi=>by rw[List.getElem?_set_ne (by omega)];exact fr i hi,?_⟩
  rw[cN eb,om,List.map_append,j8 hv];rfl
 ·obtain⟨⟨a,rfl⟩,fr,eb⟩:=I
  rw[List.length_map] at eb
  have:=eA eb
  simp!
  refine jU eb ?_
  simp!
  exact aB ⟨rfl,fun i hi=>by rw[List.getElem?_set_ne (by omega)];exact fr i hi,by rw[List.length_set];omega⟩
def farA (ls:List Int)(t i:Nat):Int:=if pre ls t - pre ls (i+1)<0 then -(pre ls t - pre ls (i+1)) else pre ls t - pre ls (i+1)
def hasL (ls:List Int)(o:Option Nat)(i:Nat)(r:Int):Bool:=match o with
 |none=>false
 |some t=>decide (r<farA ls t i)
theorem sU (z:Str):cL (.str z) (.tup ((["jump", "when", "unless"]:List Str).map W.str))=pr (.bl (!decide (z∈JL))):=by
 funext h
 unfold cL
 have e:inB (.str z) (.tup ((["jump", "when", "unless"]:List Str).map W.str)) h=some (decide (z∈JL)):=by
  show (match vOf (.str z),vsOf ((["jump", "when", "unless"]:List Str).map W.str) with
   |some v,some vs=>some (inV v vs)
   |_,_=>none)=_
  rw[eJ (g:=W.str) (k:=V.str) (fun a=>rfl)]
  show some (inV (.str z) ((["jump", "when", "unless"]:List Str).map V.str))=_
  rw[hJ]
 rw[e];rfl
theorem wL {x:Int}{ss:List Int}:inV (.int x) (ss.map V.int)=decide (x∈ss):=by
 unfold inV
 rw[Bool.eq_iff_iff,List.any_eq_true,decide_eq_true_eq]
 constructor
 ·rintro⟨v,hv,q⟩
  obtain⟨y,hy,rfl⟩:=List.mem_map.mp hv
  have:y=x:=by simpa [eqV] using q
  subst this;exact hy
 ·intro q
  exact⟨.int x,List.mem_map.mpr ⟨x,q,rfl⟩,by simp [eqV]⟩
theorem rN (x:Int)(ss:List Int):cL (.int x) (.tup (ss.map W.int))=pr (.bl (!decide (x∈ss))):=by
 funext h
 unfold cL
 have e:inB (.int x) (.tup (ss.map W.int)) h=some (decide (x∈ss)):=by
  show (match vOf (.int x),vsOf (ss.map W.int) with
   |some v,some vs=>some (inV v vs)
   |_,_=>none)=_
  rw[eJ (g:=W.int) (k:=V.int) (fun a=>rfl)]
  show some (inV (.int x) (ss.map V.int))=_
  rw[wL]
 rw[e];rfl
theorem wB (z:Str)(m:List W)(t:Int):ixW (.tup (.str z::(m++[.int t]))) (.int (-1))=pr (.int t):=gh (by rw[<-List.cons_append];exact jf _ _)
theorem Ak (i j:Int):minW [.int i,.int j]=pr (.int (if j<i then j else i)):=rfl
theorem AU (i:Int):absW [.int i]=pr (.int (if i<0 then -i else i)):=rfl
theorem wQ {N:Nat}{w:W}{o:Option Nat}{ls:List Int}{i:Nat}{r:Int}(R:RowOk N w o)(hi:i<N):ci [.int (i:Int),w,.int r,.tl ((begs ls N).map W.int)]=pr (.bl (hasL ls o i r)):=by
 obtain⟨z,l,rfl,q⟩:=R
 have e0: ∀b,ci [.int (i:Int),.tup (.str z::l),.int r,b]=bd (dB [some (.int (i:Int)),some (.tup (.str z::l)),some (.int r),some b,none]) finF:=fun b=>rfl
 rw[e0]
 unfold dB
 cases o with
 |none=>
  have q:decide (z∈JL)=false:=q
  simp! only[aa,ix0,sU,q]
  rfl
 |some t=>
  obtain⟨q,ht,m,rfl⟩:=q
  obtain⟨B,hB⟩: ∃B:Int,B=(((begs ls N).map W.int).length:Int):=⟨_,rfl⟩
  have hB':B=(N:Int)+1:=by rw[hB,List.length_map,jd];omega
  have hm:(if B - 1<(t:Int) then B - 1 else (t:Int))=(t:Int):=if_neg (by omega)
  have x1:ixW (.tl ((begs ls N).map W.int)) (.int (t:Int))=pr (.int (pre ls t)):=bY (br (by omega) (by rw[List.getElem?_map,show ((t:Int)).toNat=t by omega,ig ht];rfl))
  have x2:ixW (.tl ((begs ls N).map W.int)) (.int ((i:Int)+1))=pr (.int (pre ls (i+1))):=bY (br (by omega) (by rw[List.getElem?_map,show ((i:Int)+1).toNat=i+1 by omega,ig (by omega)];rfl))
  simp! only[aa,ix0,sU,q,wB,<-hB,Ak,hm,x1,x2,AU]
  rfl
noncomputable def i8 (o:Option Nat):List Int:=if o.isSome then [1,3] else [1]
theorem yn {N:Nat}{w:W}{o:Option Nat}(R:RowOk N w o):eY [w]=pr (.tup ((i8 o).map W.int)):=by
 obtain⟨z,l,rfl,q⟩:=R
 have e0:eY [.tup (.str z::l)]=bd (gi [some (.tup (.str z::l))]) finF:=rfl
 rw[e0]
 unfold gi
 cases o with
 |none=>
  have q:decide (z∈JL)=false:=q
  simp! only[aa,ix0,r6,q,tupW]
  rfl
 |some t=>
  obtain⟨q,_⟩:=q
  simp! only[aa,ix0,r6,q,tupW]
  rfl
def OkA (T:List (Option Nat))(r:Int)(ls:List Int)(i:Nat):Prop:= ∀o x,T[i]?=some o->ls[i]?=some x->x∈i8 o/\(x=1->hasL ls o i r=false)
def Rt (T:List (Option Nat))(r:Int)(ls:List Int):Prop:=ls.length=T.length/\ ∀i,i<T.length->OkA T r ls i
theorem qc {h:List Ob}{D:List W}{T:List (Option Nat)}{r:Int}{x:W}{ls:List Int}(R:Rows D T)(p:Lw h x (ls.map W.int))(hl:ls.length<=1000):Ok (bh [.tl D,.int r,x]) h fun w h'=>(∃b:Bool,w=.bl b/\(b=true↔Rt T r ls))/\(∀i,i<h.length->h'[i]?=h[i]?)/\h.length<=h'.length:=by
 have e0: ∀d,bh [d,.int r,x]=bd (dP [some d,some (.int r),some x,none,none,none]) finF:=fun d=>rfl
 have tl:=R.len
 obtain⟨N,hN⟩: ∃N:Int,N=((ls.map W.int).length:Int):=⟨_,rfl⟩
 have hN':N=(ls.length:Int):=by rw[hN,List.length_map]
 obtain⟨M,hM⟩: ∃M:Int,M=(D.length:Int):=⟨_,rfl⟩
 rw[e0]
 unfold dP
 simp!
 refine p.len_eq hN ?_
 by_cases c:ls.length=D.length
 ·have c1:decide (N=M)=true:=decide_eq_true (by omega)
  simp! only[aa,<-hM,c1]
  refine bN (on p hl) fun w h1 qq_=>?_
  obtain⟨ew,fr1,le1⟩:=qq_
  subst ew
  rw[c]
  have p1:Lw h1 x (ls.map W.int):=p.keep fr1
  simp! only[sFor,aa,qJ]
  refine sQ (I:=fun n ρ h'=>(∃a4 a5,ρ=[some (.tl D),some (.int r),some x,some (.tl ((begs ls D.length).map W.int)),a4,a5])/\h'=h1/\ ∀i,i<n->OkA T r ls i) (J:=fun v h'=>v=.bl false/\h'=h1/\ ¬Rt T r ls) ⟨⟨_,_,rfl⟩,rfl,fun i hi=>absurd hi (Nat.not_lt_zero _)⟩ (fun _ _ _ _=>trivial) (fun n w ρ h2 hw I=>?_) (fun ρ h2 I=>?_) (fun v h2 J=>?_)
  ·obtain⟨⟨a4,a5,rfl⟩,rfl,A⟩:=I
   obtain⟨d,hd,rfl⟩:=kf _ _ _ _ hw
   have hn:=(List.getElem?_eq_some_iff.mp hd).1
   obtain⟨o,ho⟩: ∃o,T[n]?=some o:=⟨_,List.getElem?_eq_getElem (by omega)⟩
   obtain⟨y,hy⟩: ∃y,ls[n]?=some y:=⟨_,List.getElem?_eq_getElem (by omega)⟩
   have ro:=R.ok n d o hd ho
   have at0:atI (ls.map W.int) ((0:Int)+(n:Int))=some (.int y):=br (by omega) (by rw[List.getElem?_map,show ((0:Int)+(n:Int)).toNat=n by omega,hy];rfl)
   have bad: ¬(y∈i8 o/\(y=1->hasL ls o n r=false))-> ¬Rt T r ls:=fun z q=>z (q.2 n (by omega) o y ho hy)
   have good:(y∈i8 o/\(y=1->hasL ls o n r=false))-> ∀i,i<n+1->OkA T r ls i:=fun z i hi=>by
    by_cases e:i=n
    ·subst e
     intro o' x' h1' h2'
     rw[ho] at h1';rw[hy] at h2'
     cases h1';cases h2'
     exact z
    ·exact A i (by omega)
   refine⟨_,rfl,?_⟩
   simp!
   refine p1.ix at0 ?_
   simp! only[aa,yn ro,rN]
   by_cases c2:y∈i8 o
   ·simp! only[aa,decide_eq_true c2]
    refine p1.ix at0 ?_
    by_cases c3:y=1
    ·simp! only[aa,decide_eq_true c3,Int.zero_add,wQ ro hn]
     by_cases c4:hasL ls o n r=true
     ·simp! only[aa,c4]
      exact aB (.inr ⟨_,rfl,rfl,rfl,bad fun z=>by rw[z.2 c3] at c4;cases c4⟩)
     ·have c4:hasL ls o n r=false:=by simpa using c4
      simp! only[aa,c4]
      exact aB (.inl ⟨_,rfl,⟨_,_,rfl⟩,rfl,good ⟨c2,fun _=>c4⟩⟩)
    ·simp! only[aa,decide_eq_false c3]
     exact aB (.inl ⟨_,rfl,⟨_,_,rfl⟩,rfl,good ⟨c2,fun z=>absurd z c3⟩⟩)
   ·simp! only[aa,decide_eq_false c2]
    exact aB (.inr ⟨_,rfl,rfl,rfl,bad fun z=>c2 z.1⟩)
  ·obtain⟨⟨a4,a5,rfl⟩,rfl,A⟩:=I
   rw[i7] at A
   simp!
   exact aB ⟨⟨true,rfl,fun _=>⟨by omega,fun i hi=>A i (by omega)⟩,fun _=>rfl⟩,fr1,le1⟩
  ·obtain⟨rfl,rfl,A⟩:=J
   simp!
   exact aB ⟨⟨false,rfl,fun z=>(by cases z),fun z=>absurd z A⟩,fr1,le1⟩
 ·have c1:decide (N=M)=false:=decide_eq_false (by omega)
  simp! only[aa,<-hM,c1]
  exact aB ⟨⟨false,rfl,fun z=>(by cases z),fun z=>absurd z.1 (by omega)⟩,fun _ _=>rfl,Nat.le_refl _⟩
end
section
theorem xM {ls:List Int}{a b:Nat}(h:a<=b):pre ls b=pre ls a+((ls.drop a).take (b - a)).sum:=by
 unfold pre
 obtain⟨c,rfl⟩: ∃c,b=a+c:=⟨b - a,by omega⟩
 rw[List.take_add,List.sum_append,Nat.add_sub_cancel_left]
theorem lU: ∀ {l:List Int},(∀x∈l,0<=x)->0<=l.sum
 |[],_=>Int.le_refl _
 |x::l,h=>by
  rw[List.sum_cons]
  have:=h x List.mem_cons_self
  have:=lU (l:=l) fun y hy=>h y (List.mem_cons_of_mem _ hy)
  omega
theorem qe {ls:List Int}{a b:Nat}(h:a<=b)(q:∀x∈ls,0<=x):pre ls a<=pre ls b:=by
 rw[xM h]
 have:=lU (l:=(ls.drop a).take (b - a)) fun x hx=>q x (List.mem_of_mem_drop (List.mem_of_mem_take hx))
 omega
def farP (ls:List Int)(t i:Nat):Int:=if i<t then pre ls t - pre ls (i+1) else pre ls (i+1) - pre ls t
theorem mem_lens {o:Option Nat}{x:Int}:x∈i8 o↔ (x=1\/(x=3/\o.isSome=true)):=by
 cases o with
 |none=>
  show x∈[1]↔_
  simp
 |some t=>
  show x∈[1,3]↔_
  simp
theorem wX {ls:List Int}{t i:Nat}(q:∀x∈ls,0<=x):farA ls t i=farP ls t i:=by
 unfold farA farP
 by_cases c:i<t
 ·have:=qe (ls:=ls) (a:=i+1) (b:=t) (by omega) q
  rw[if_neg (by omega),if_pos c]
 ·have:=qe (ls:=ls) (a:=t) (b:=i+1) (by omega) q
  rw[if_neg c]
  split<;>omega
theorem eF {α:Type}{l:List α}{i:Nat}{x:α}(h:l[i]?=some x):i<l.length:=(List.getElem?_eq_some_iff.mp h).1
end
section
noncomputable def Le (a b:List Int):Prop:=a.length=b.length/\ ∀ (i:Nat) x y,a[i]?=some x->b[i]?=some y->x<=y
theorem Le.sum: ∀ {a b:List Int},Le a b->a.sum<=b.sum/\(a.sum=b.sum->a=b)
 |[],[],_=>⟨Int.le_refl _,fun _=>rfl⟩
 |[],_::_,h=>by have:=h.1;simp at this
 |_::_,[],h=>by have:=h.1;simp at this
 |x::a,y::b,h=>by
  have h0:=h.2 0 x y rfl rfl
  have t:=Le.sum (a:=a) (b:=b) ⟨by have:=h.1;simpa using this,fun i u v h1 h2=>h.2 (i+1) u v (by simpa using h1) (by simpa using h2)⟩
  rw[List.sum_cons,List.sum_cons]
  refine⟨by omega,fun e=>?_⟩
  rw[t.2 (by omega),show x=y by omega]
theorem Le.dpre {a b:List Int}(h:Le a b){i:Nat}: ∀ {j:Nat},i<=j->j<=a.length->pre a j - pre a i<=pre b j - pre b i
 |0,h1,_=>by rw[show i=0 by omega];omega
 |j+1,h1,h2=>by
  by_cases e:i=j+1
  ·subst e;omega
  ·have ih:=h.dpre (i:=i) (j:=j) (by omega) (by omega)
   have ha:=List.getElem?_eq_getElem (show j<a.length by omega)
   have hb:=List.getElem?_eq_getElem (show j<b.length by have:=h.1;omega)
   have:=h.2 j _ _ ha hb
   rw[j8 ha,j8 hb];omega
theorem Le.far {a b:List Int}(h:Le a b)(qa: ∀x∈a,0<=x)(qb: ∀x∈b,0<=x){t i:Nat}(ht:t<=a.length)(hi:i<a.length):farA a t i<=farA b t i:=by
 rw[wX qa,wX qb]
 unfold farP
 by_cases c:i<t
 ·rw[if_pos c,if_pos c];exact h.dpre (by omega) ht
 ·rw[if_neg c,if_neg c];exact h.dpre (by omega) (by omega)
noncomputable def TOk (T:List (Option Nat)):Prop:= ∀ (i t:Nat),T[i]?=some (some t)->t<=T.length
theorem Rows.tok {D:List W}{T:List (Option Nat)}(R:Rows D T):TOk T:=fun i t h=>by
 have hi:=eF h
 have:=R.len
 obtain⟨z,l,e,q⟩:=R.ok i _ _ (List.getElem?_eq_getElem (show i<D.length by omega)) h
 have:=q.2.1
 omega
theorem Le.has {a b:List Int}{T:List (Option Nat)}(h:Le a b)(qa: ∀x∈a,0<=x)(qb: ∀x∈b,0<=x)(hT:TOk T)(hl:a.length=T.length){i:Nat}{o:Option Nat}{r:Int}(ho:T[i]?=some o)(q:hasL a o i r=true):hasL b o i r=true:=by
 cases o with
 |none=>cases q
 |some t=>
  have q:decide (r<farA a t i)=true:=q
  have q:=of_decide_eq_true q
  have:=h.far qa qb (t:=t) (i:=i) (by rw[hl];exact hT i t ho) (by rw[hl];exact eF ho)
  exact decide_eq_true (by omega)
def stepL (T:List (Option Nat))(r:Int)(ls:List Int):List Int:=T.mapIdx fun i o=>if hasL ls o i r=true then 3 else 1
theorem dH (T:List (Option Nat))(r:Int)(ls:List Int):(stepL T r ls).length=T.length:=by unfold stepL;simp
theorem iR {T:List (Option Nat)}{r:Int}{ls:List Int}{i:Nat}{o:Option Nat}(h:T[i]?=some o):(stepL T r ls)[i]?=some (if hasL ls o i r=true then 3 else 1):=by
 unfold stepL
 rw[List.getElem?_mapIdx,h];rfl
theorem pV {T:List (Option Nat)}{r:Int}{ls:List Int}: ∀x∈stepL T r ls,1<=x/\x<=3:=fun x hx=>by
 obtain⟨i,hi⟩:=List.mem_iff_getElem?.mp hx
 have il:=eF hi
 rw[dH] at il
 rw[iR (List.getElem?_eq_getElem il)] at hi
 have hi:=Option.some.inj hi
 split at hi<;>omega
theorem vt {T:List (Option Nat)}{r:Int}{R:List Int}(h:Rt T r R): ∀x∈R,1<=x:=fun x hx=>by
 obtain⟨i,hi⟩:=List.mem_iff_getElem?.mp hx
 have il:=eF hi
 have ho:=List.getElem?_eq_getElem (show i<T.length by have:=h.1;omega)
 rcases mem_lens.mp ((h.2 i (eF ho) _ x ho hi).1) with e|e<;>omega
def Low (T:List (Option Nat))(r:Int)(ls:List Int):Prop:= ∀R,Rt T r R->Le ls R
theorem ww {T:List (Option Nat)}{r:Int}{ls:List Int}(hT:TOk T)(hl:ls.length=T.length)(q:∀x∈ls,1<=x)(h:Low T r ls):Low T r (stepL T r ls):=fun R hR=>by
 have hL:=h R hR
 have pR:=vt hR
 refine⟨by rw[dH,hR.1],fun i x y h1 h2=>?_⟩
 have il:=eF h1
 rw[dH] at il
 have ho:=List.getElem?_eq_getElem il
 rw[iR ho] at h1
 have h1:=Option.some.inj h1
 have hy:=hR.2 i il _ y ho h2
 have py:=pR y (List.mem_of_getElem? h2)
 by_cases c:hasL ls T[i] i r=true
 ·rw[if_pos c] at h1
  have c2:=hL.has (fun x hx=>by have:=q x hx;omega) (fun x hx=>by have:=pR x hx;omega) hT hl ho c
  rcases mem_lens.mp hy.1 with e|e
  ·rw[hy.2 e] at c2;cases c2
  ·omega
 ·rw[if_neg c] at h1;omega
theorem ud {T:List (Option Nat)}{r:Int}{a b:List Int}(hT:TOk T)(hl:a.length=T.length)(qa: ∀x∈a,1<=x)(qb: ∀x∈b,1<=x)(h:Le a b):Le (stepL T r a) (stepL T r b):=⟨by rw[dH,dH],fun i x y h1 h2=>by
 have il:=eF h1
 rw[dH] at il
 have ho:=List.getElem?_eq_getElem il
 rw[iR ho] at h1 h2
 have h1:=Option.some.inj h1
 have h2:=Option.some.inj h2
 by_cases c:hasL a T[i] i r=true
 ·have c2:=h.has (fun x hx=>by have:=qa x hx;omega) (fun x hx=>by have:=qb x hx;omega) hT hl ho c
  rw[if_pos c] at h1;rw[if_pos c2] at h2;omega
 ·rw[if_neg c] at h1
  split at h2<;>omega⟩
theorem AE {T:List (Option Nat)}{r:Int}{ls:List Int}(h:stepL T r ls=ls):Rt T r ls:=by
 refine⟨by rw[<-h,dH],fun i hi o x ho hx=>?_⟩
 rw[<-h,iR ho] at hx
 have hx:=Option.some.inj hx
 by_cases c:hasL ls o i r=true
 ·rw[if_pos c] at hx
  refine⟨mem_lens.mpr (.inr ⟨hx.symm,?_⟩),fun z=>by omega⟩
  cases o with
  |none=>cases c
  |some t=>rfl
 ·rw[if_neg c] at hx
  exact⟨mem_lens.mpr (.inl hx.symm),fun _=>by simpa using c⟩
theorem sw: ∀ {l:List Int},(∀x∈l,x<=3)->l.sum<=3 * l.length
 |[],_=>by simp
 |x::l,h=>by
  have:=h x List.mem_cons_self
  have:=sw (l:=l) fun y hy=>h y (List.mem_cons_of_mem _ hy)
  rw[List.sum_cons,List.length_cons];omega
theorem qV {h:List Ob}{D:List W}{T:List (Option Nat)}{r:Int}{x:W}{ls:List Int}(R:Rows D T)(p:Lw h x (ls.map W.int))(hl:ls.length=T.length):Ok (cp [.tl D,.int r,x]) h fun w h'=> ∃k,w=.loc k/\h.length<=k/\h'[k]?=some (.lst ((stepL T r ls).map W.int))/\ ∀i,i<h.length->h'[i]?=h[i]?:=by
 have e0: ∀d,cp [d,.int r,x]=bd (dQ [some d,some (.int r),some x,none]) finF:=fun d=>rfl
 have tl:=R.len
 have ds:=R.sz
 rw[e0]
 unfold dQ
 simp!
 refine bN (on p (by omega)) fun w h1 qq_=>?_
 obtain⟨ew,fr1,le1⟩:=qq_
 subst ew
 rw[show ls.length=D.length by omega]
 have gl: ∀ {α:Type} (q:M α),gd ((numd 0 D).length<=sizeLine) q=q:=fun q=>ay (by rw[i7];exact sz (by omega))
 simp! only[aa,bu,qJ,gl]
 refine jo (I:=fun n a h'=>h'=h1/\a=((stepL T r ls).take n).map W.int) ⟨rfl,rfl⟩ kF (fun _ _ _ _=>trivial) (fun n w a h2 hw I=>?_) fun a h2 I=>?_
 ·obtain⟨rfl,rfl⟩:=I
  obtain⟨d,hd,rfl⟩:=kf _ _ _ _ hw
  have hn:=eF hd
  have ho:=List.getElem?_eq_getElem (show n<T.length by omega)
  have ro:=R.ok n d _ hd ho
  refine⟨_,rfl,?_⟩
  simp! only[List.replicate,List.cons_append,List.nil_append,aa,Int.zero_add,wQ ro hn]
  have st:=iR (r:=r) (ls:=ls) ho
  by_cases c:hasL ls T[n] n r=true
  ·rw[if_pos c] at st
   simp! only[aa,c]
   exact aB ⟨rfl,by rw[List.take_succ,st,List.map_append];rfl⟩
  ·rw[if_neg c] at st
   have c:hasL ls T[n] n r=false:=by simpa using c
   simp! only[aa,c]
   exact aB ⟨rfl,by rw[List.take_succ,st,List.map_append];rfl⟩
 ·obtain⟨rfl,rfl⟩:=I
  rw[i7,<-tl,<-dH T r ls,List.take_length]
  simp!
  refine gr ?_
  simp!
  exact aB ⟨_,rfl,le1,dO,fun i hi=>by rw[List.getElem?_append_left (by omega)];exact fr1 i hi⟩
theorem wY (a b:List Int):PyData.eqvAll (a.map PyData.int) (b.map PyData.int)=decide (a=b):=by
 induction a generalizing b with
 |nil=>
  cases b with
  |nil=>rw[List.map_nil,PyData.eqvAll];rfl
  |cons y b=>rw[List.map_nil,List.map_cons,PyData.eqvAll]<;>simp
 |cons x a ih=>
  cases b with
  |nil=>rw[List.map_nil,List.map_cons,PyData.eqvAll]<;>simp
  |cons y b=>
   rw[List.map_cons,List.map_cons,PyData.eqvAll,ih,PyData.eqv]
   rw[Bool.eq_iff_iff]
   simp
theorem tQ {h:List Ob}{x:W}{a:List Int}(p:Lw h x (a.map W.int)):dataH h 50 x=some (.list (a.map PyData.int)):=by
 have o1:optL (dataH h 49) (a.map W.int)=some (a.map PyData.int):=kS (f:=dataH h 49) (g:=W.int) (k:=PyData.int) (fun a=>rfl) a
 rcases p with rfl|⟨j,rfl,e⟩
 ·show (optL (dataH h 49) (a.map W.int)).map PyData.list=_
  rw[o1];rfl
 ·show (match h[j]? with
   |some (.lst l)=>(optL (dataH h 49) l).map PyData.list
   |_=>none)=_
  simp only[e,o1];rfl
theorem w5 {h:List Ob}{x y:W}{a b:List Int}(p:Lw h x (a.map W.int))(q:Lw h y (b.map W.int)):eqB x y h=some (decide (a=b)):=by
 have vx:vOf x=none:=by rcases p with rfl|⟨j,rfl,e⟩<;>rfl
 have ca: ∀a:List Int,(PyData.list (a.map PyData.int)).canLay0=true:=fun a=>by rw[PyData.canLay0];exact si a fun z hz=>by rw[PyData.canLay0]
 unfold eqB
 rw[vx]
 dsimp only
 rw[tQ p,tQ q]
 dsimp only
 rw[if_pos ⟨ca a,ca b⟩,PyData.eqv,wY]
theorem Ad {β:Type}{h:List Ob}{k:W->M β}{Q:β->List Ob->Prop}{x y:W}{a b:List Int}(p:Lw h x (a.map W.int))(q:Lw h y (b.map W.int))(z:Ok (k (.bl (!decide (a=b)))) h Q):Ok (bd (neW x y) k) h Q:=by
 refine cC (a:=.bl (!decide (a=b))) (h':=h) ?_ z
 unfold neW
 rw[w5 p q]
def tL:Env'->M Bool:=(mB (L2.m2 neW (mVar 3) (mVar 2)))
def bL:Env'->M Fl:=(sSeq (sSet 2 (mVar 3)) (sSet 3 (mCall (arW 3 cp) (mCons (mVar 0) (mCons (mVar 1) (mCons (mVar 2) mNil))))))
theorem pj {D:List W}{T:List (Option Nat)}{r:Int}(R:Rows D T)(n:Nat): ∀ {h:List Ob}{k2 k3:Nat}{ls:List Int},h[k2]?=some (.lst (ls.map W.int))->h[k3]?=some (.lst ((stepL T r ls).map W.int))->ls.length=T.length->(∀x∈ls,1<=x/\x<=3)->Low T r ls->Le ls (stepL T r ls)->(3 * (T.length:Int) - ls.sum<n)->
  Ok (jK tL bL n [some (.tl D),some (.int r),some (.loc k2),some (.loc k3)]) h fun x h'=> ∃k k' ls',x=.nx [some (.tl D),some (.int r),some (.loc k),some (.loc k')]/\(k=k2\/k=k3\/h.length<=k)/\h'[k]?=some (.lst (ls'.map W.int))/\Rt T r ls'/\Low T r ls'/\(∀i,i<h.length->h'[i]?=h[i]?)/\h.length<=h'.length:=by
 induction n with
 |zero=>
  intro h k2 k3 ls e2 e3 hl q lo le hn
  have:=sw (l:=ls) fun x hx=>(q x hx).2
  rw[hl] at this
  omega
 |succ n ih=>
  intro h k2 k3 ls e2 e3 hl q lo le hn
  unfold jK tL
  simp!
  refine Ad (.inr ⟨k3,rfl,e3⟩) (.inr ⟨k2,rfl,e2⟩) ?_
  by_cases c:stepL T r ls=ls
  ·simp! only[aa,decide_eq_true c]
   exact aB ⟨k2,k3,ls,rfl,.inl rfl,e2,AE c,lo,fun _ _=>rfl,Nat.le_refl _⟩
  ·have tok:=R.tok
   have sl:=dH T r ls
   have sp:=pV (T:=T) (r:=r) (ls:=ls)
   have lt:ls.sum<(stepL T r ls).sum:=by
    have:=le.sum
    have: ¬ls.sum=(stepL T r ls).sum:=fun z=>c (le.sum.2 z).symm
    omega
   simp! only[aa,decide_eq_false c]
   unfold bL
   simp!
   refine bN (qV R (.inr ⟨k3,rfl,e3⟩) sl) fun w h1 qq_=>?_
   obtain⟨k,ew,hk,ek,fr⟩:=qq_
   subst ew
   have kl:=eA ek
   have k3l:=eA e3
   simp!
   refine Ok.imp (ih (k2:=k3) (k3:=k) ((fr _ k3l).trans e3) ek sl sp (ww tok hl (fun x hx=>(q x hx).1) lo) (ud tok hl (fun x hx=>(q x hx).1) (fun x hx=>(sp x hx).1) le) (by omega)) fun x h' qz=>?_
   obtain⟨k',k'',ls',e,hk',e',q1,q2,q3,q4⟩:=qz
   refine⟨k',k'',ls',e,?_,e',q1,q2,fun i hi=>(q3 i (by omega)).trans (fr i hi),by omega⟩
   rcases hk' with h'|h'|h'
   ·exact .inr (.inl h')
   ·exact .inr (.inr (by omega))
   ·exact .inr (.inr (by omega))
noncomputable def ones (n:Nat):List Int:=List.replicate n 1
theorem mz {n:Nat}: ∀x∈ones n,x=1:=fun x hx=>List.eq_of_mem_replicate hx
theorem wx (T:List (Option Nat))(r:Int):Low T r (ones T.length):=fun R hR=>⟨by rw[hR.1];simp [ones],fun i x y h1 h2=>by
 have:=mz x (List.mem_of_getElem? h1)
 have:=vt hR y (List.mem_of_getElem? h2)
 omega⟩
theorem vc (n:Nat):(ones n).sum=n:=by
 unfold ones
 induction n with
 |zero=>rfl
 |succ n ih=>rw[List.replicate_succ,List.sum_cons,ih];omega
theorem rV {h:List Ob}{D:List W}{T:List (Option Nat)}{r:Int}(R:Rows D T):Ok (hU [.tl D,.int r]) h fun w h'=> ∃k ls,w=.loc k/\h.length<=k/\h'[k]?=some (.lst (ls.map W.int))/\Rt T r ls/\Low T r ls/\(∀i,i<h.length->h'[i]?=h[i]?)/\h.length<=h'.length:=by
 have e0: ∀d,hU [d,.int r]=bd (ju [some d,some (.int r),none,none]) finF:=fun d=>rfl
 have tl:=R.len
 have ds:=R.sz
 rw[e0]
 unfold ju
 have gl: ∀ {α:Type} (q:M α),gd (D.length<=sizeLine) q=q:=fun q=>ay (sz (by omega))
 simp! only[aa,bu,lH,gl]
 refine jo (I:=fun n a h'=>h'=h/\a=(ones n).map W.int) ⟨rfl,rfl⟩ kF (fun _ _ _ _=>trivial) (fun n w a h2 hw I=>?_) fun a h2 I=>?_
 ·obtain⟨rfl,rfl⟩:=I
  refine⟨_,rfl,?_⟩
  simp!
  exact aB ⟨rfl,by unfold ones;rw[List.replicate_succ',List.map_append];rfl⟩
 ·obtain⟨rfl,rfl⟩:=I
  rw[<-tl]
  simp!
  refine gr ?_
  simp!
  refine bN (qV R (.inr ⟨_,rfl,dO⟩) (by simp [ones])) fun w h3 qq_=>?_
  obtain⟨k,ew,hk,ek,fr⟩:=qq_
  subst ew
  have l1:(h2++[Ob.lst ((ones T.length).map W.int)]).length=h2.length+1:=by simp
  have o1: ∀x∈ones T.length,1<=x/\x<=3:=fun x hx=>by have:=mz x hx;omega
  have kl:=eA ek
  simp!
  have le0:Le (ones T.length) (stepL T r (ones T.length)):=⟨by rw[dH];simp [ones],fun i x y h1 h2=>by
   have:=mz x (List.mem_of_getElem? h1)
   have:=(pV y (List.mem_of_getElem? h2)).1
   omega⟩
  refine bN (pj R 300 (k2:=h2.length) (k3:=k) (ls:=ones T.length) ((fr _ (by omega)).trans dO) ek (by simp [ones]) o1 (wx T r) le0 (by rw[vc];omega)) fun x h4 qq_=>?_
  obtain⟨k',k'',ls,e,hk',e',q1,q2,q3,q4⟩:=qq_
  ·subst e
   simp!
   exact aB ⟨k',ls,rfl,by omega,e',q1,q2,fun i hi=>by rw[q3 i (by omega),fr i (by omega),List.getElem?_append_left hi],by omega⟩
end
section
open Wd
theorem addTn {l m:List W}(h:l≠ [])(hz:l.length+m.length<=100):addW (.tup l) (.tup m)=pr (.tup (l++m)):=by
 cases l with
 |nil=>exact absurd rfl h
 |cons a l=>exact addT a l m (by rw[List.length_cons] at hz;omega)
theorem vj (l:List W)(lo hi:Option Int):slTW (.tup l) lo hi=pr (.tup (cutW l lo hi)):=rfl
theorem qP {α:Type}(l:List α){v:Int}(h0:0<=v):cutW l (some v) none=l.drop v.toNat:=by
 unfold cutW
 show List.take (l.length - (if v<0 then (v+(l.length:Int)).toNat else min v.toNat l.length)) (l.drop (if v<0 then (v+(l.length:Int)).toNat else min v.toNat l.length))=_
 rw[if_neg (by omega)]
 by_cases h:v.toNat<=l.length
 ·rw[Nat.min_eq_left h,List.take_of_length_le (by rw[List.length_drop];omega)]
 ·rw[Nat.min_eq_right (by omega),List.drop_length,List.take_nil,List.drop_eq_nil_of_le (by omega)]
theorem ux {h:List Ob}{xs:List Int}{N:Int}{m:Nat}(hx:xs.length=12)(hN:N=(m:Int))(m1:1<=m)(m2:m<=10):Ok (fV [.tl (xs.map W.int),.int N]) h fun w h'=>h'=h/\ ∃os:List Int,w=.tup (os.map W.int)/\List.Perm os (allB m):=by
 have e0:fV [.tl (xs.map W.int),.int N]=bd (gG [some (.tl (xs.map W.int)),some (.int N),none,none,none]) finF:=rfl
 rw[e0]
 unfold gG
 have eN:(N - 1).toNat=m - 1:=by omega
 simp! only[aa,vC (show (-(2 ^ 62):Int)<=1 by decide) (show (1:Int)<2 ^ 62 by decide) (show (-(2 ^ 62):Int)<=N by omega) (show N<2 ^ 62 by omega)]
 refine eQ (I:=fun i ρ h'=>h'=h/\ ∃ (os:List Int) (a b:Option W),ρ=[some (.tl (xs.map W.int)),some (.int N),some (.tup (os.map W.int)),a,b]/\List.Perm os (allB (i+1))) ⟨rfl,[0],none,none,rfl,List.Perm.refl _⟩ (fun _ _ _ _=>trivial) (fun i w ρ h1 hw I=>?_) fun ρ h1 I=>?_
 ·obtain⟨rfl,os,a,b,rfl,pm⟩:=I
  obtain⟨rfl,hi⟩:=eV _ _ _ _ hw
  rw[eN] at hi
  have lo:os.length=i+1:=by rw[pm.length_eq,qX (by omega)]
  obtain⟨x,ex⟩: ∃x,xs[i+1]?=some x:=⟨_,List.getElem?_eq_getElem (by omega)⟩
  have ix:ixW (.tl (xs.map W.int)) (.int (1+(i:Int)))=pr (.int x):=bY (br (by omega) (by rw[List.getElem?_map,show (1+(i:Int)).toNat=i+1 by omega,ex];rfl))
  obtain⟨L,hL⟩: ∃L:Int,L=(os.length:Int):=⟨_,rfl⟩
  have eL:lenW [.tup (os.map W.int)]=pr (.int L):=by rw[lenW_tup,List.length_map,hL]
  have v0:=Int.emod_nonneg x (show L≠0 by omega)
  have v1:=Int.emod_lt_of_pos x (show 0<L by omega)
  have s1:slTW (.tup (os.map W.int)) none (some (1+x % L))=pr (.tup ((os.take (1+x % L).toNat).map W.int)):=by rw[vj,nr _ (by omega),List.map_take]
  have s2:slTW (.tup (os.map W.int)) (some (1+x % L)) none=pr (.tup ((os.drop (1+x % L).toNat).map W.int)):=by rw[vj,qP _ (by omega),List.map_drop]
  have pv:1<=(1+x % L).toNat:=by omega
  generalize (1+x % L).toNat=v at *
  have lt:(os.take v).length<=i+1:=by rw[List.length_take];omega
  have l1:1<=(os.take v).length:=by rw[List.length_take];omega
  have ld:(os.drop v).length<=i+1:=by rw[List.length_drop];omega
  have a1:addW (.tup ((os.take v).map W.int)) (.tup [.int (1+(i:Int))])=pr (.tup ((os.take v++[1+(i:Int)]).map W.int)):=by
   rw[addTn (fun z=>by rw[List.map_eq_nil_iff.mp z] at l1;exact absurd l1 (by decide)) (by rw[List.length_map];show _+1<=100;omega),List.map_append];rfl
  have a2:addW (.tup ((os.take v++[1+(i:Int)]).map W.int)) (.tup ((os.drop v).map W.int))=pr (.tup ((os.take v++[1+(i:Int)]++os.drop v).map W.int)):=by
   rw[addTn (by simp) (by rw[List.length_map,List.length_map,List.length_append,List.length_singleton];omega),List.map_append (l₂:=os.drop v)]
  refine⟨_,rfl,?_⟩
  generalize W.tl (xs.map W.int)=XW at *
  have pm2:List.Perm (os.take v++[1+(i:Int)]++os.drop v) (allB (i+1+1)):=by
   have e1:allB (i+1+1)=allB (i+1)++[1+(i:Int)]:=by
    show 0::upto (i+1)=(0::upto i)++[_]
    rw[t7];rfl
   rw[e1,List.append_assoc]
   refine List.Perm.trans ?_ (pm.append_right [1+(i:Int)])
   refine List.Perm.trans (List.perm_append_comm_assoc _ _ _) ?_
   rw[List.take_append_drop]
   exact List.perm_append_comm
  generalize (os.take v++[1+(i:Int)]++os.drop v)=os2 at *
  generalize W.tup (os.map W.int)=OW at *
  simp! only[aa,ix,eL,aE (show 0<L by omega),s1,s2,a1,a2]
  exact aB ⟨_,rfl,rfl,os2,_,_,rfl,pm2⟩
 ·obtain⟨rfl,os,a,b,rfl,pm⟩:=I
  rw[eU,eN,show m - 1+1=m by omega] at pm
  simp!
  exact aB ⟨rfl,os,rfl,pm⟩
theorem yZ (z:Str):inW (.str z) (.tl [.str "jump",.str "when",.str "unless"])=pr (.bl (decide (z∈JL))):=tm (ss:=["jump", "when", "unless"])
theorem kh (z:Str):cL (.str z) (.tl [.str "jump",.str "when",.str "unless"])=pr (.bl (!decide (z∈JL))):=mL (ss:=["jump", "when", "unless"])
theorem vB {D:List W}{i:Nat}{d:W}(h:D[i]?=some d):ixW (.tl D) (.int (0+(i:Int)))=pr d:=bY (br (by omega) (by rw[show (0+(i:Int)).toNat=i by omega];exact h))
theorem wu {ls:List Int}{i:Nat}{x:Int}(h:ls[i]?=some x):ixW (.tl (ls.map W.int)) (.int (0+(i:Int)))=pr (.int x):=bY (br (by omega) (by rw[show (0+(i:Int)).toNat=i by omega,List.getElem?_map,h];rfl))
theorem nU {h:List Ob}{D:List W}{T:List (Option Nat)}{r:Int}{ls:List Int}(R:Rows D T)(hl:ls.length<=1000):Ok (cy [.tl D,.int r,.tl (ls.map W.int)]) h fun w h'=>(∃b:Bool,w=.bl b/\(b=true↔Rt T r ls))/\Fo h.length h h':=by
 have e0:cy [.tl D,.int r,.tl (ls.map W.int)]=bd (gE [some (.tl D),some (.int r),some (.tl (ls.map W.int)),none,none,none,none]) finF:=rfl
 have tl:=R.len
 obtain⟨N,hN⟩: ∃N:Int,N=(ls.length:Int):=⟨_,rfl⟩
 obtain⟨M1,hM⟩: ∃M1:Int,M1=(D.length:Int):=⟨_,rfl⟩
 have eN:lenW [.tl (ls.map W.int)]=pr (.int N):=by rw[lenW_tl,List.length_map,hN]
 have eM:lenW [.tl D]=pr (.int M1):=by rw[lenW_tl,hM]
 have sD:=R.sz
 rw[e0]
 unfold gE
 obtain⟨LW,hLW⟩: ∃LW,LW=W.tl (ls.map W.int):=⟨_,rfl⟩
 obtain⟨DW,hDW⟩: ∃DW,DW=W.tl D:=⟨_,rfl⟩
 rw[<-hLW] at eN ⊢
 rw[<-hDW] at eM ⊢
 by_cases c:ls.length=D.length
 ·have c1:decide (N=M1)=true:=decide_eq_true (by omega)
  simp! only[aa,eN,eM,c1]
  refine gr ?_
  simp!
  have pL: ∀h,Lw h LW (ls.map W.int):=fun h=>.inl hLW
  refine Lw.src (pL _) fun G hG=>?_
  refine eQ (I:=fun n ρ h'=>(∃a,ρ=[some DW,some (.int r),some LW,some (.loc h.length),a,none,none])/\(∀i,i<h.length->h'[i]?=h[i]?)/\h'.length=h.length+1/\h'[h.length]?=some (.lst ((begs ls n).map W.int))) ⟨⟨_,rfl⟩,fun i hi=>List.getElem?_append_left hi,by simp,dO⟩ (fun _ _ h _=>hG h (pL h)) (fun n w ρ h1 hw I=>?_) fun ρ h1 I=>?_
  ·obtain⟨⟨a,rfl⟩,fr,l1,eb⟩:=I
   rw[List.getElem?_map] at hw
   obtain⟨v,hv,rfl⟩:=Option.map_eq_some_iff.mp hw
   have hn:=(List.getElem?_eq_some_iff.mp hv).1
   refine⟨_,rfl,?_⟩
   simp!
   refine cK eb ?_
   simp!
   refine nO eb (w:=.int (pre ls n)) (oo (n:=n) (by rw[List.length_map,jd]) (by rw[List.getElem?_map,ig (Nat.le_refl _)];rfl)) ?_
   simp!
   refine gc eb (by rw[List.length_map,jd];exact Nat.lt_of_le_of_lt (show n+1<=1000 by omega) (by decide)) ?_
   simp!
   refine aB ⟨_,rfl,⟨_,rfl⟩,fun i hi=>by rw[List.getElem?_set_ne (by omega)];exact fr i hi,by rw[List.length_set];exact l1,?_⟩
   rw[cN eb,om,List.map_append,j8 hv];rfl
  ·obtain⟨⟨a,rfl⟩,fr,l1,eb⟩:=I
   rw[List.length_map,c] at eb
   simp! only[aa,eM,j4 (show (-(2 ^ 62):Int)<=M1 by omega) (show M1<2 ^ 62 by omega)]
   have eMn:M1.toNat=D.length:=by omega
   refine sQ (I:=fun n ρ h'=>(∃a b c,ρ=[some DW,some (.int r),some LW,some (.loc h.length),a,b,c])/\h'=h1/\ ∀i,i<n->OkA T r ls i) (J:=fun v h'=>v=.bl false/\h'=h1/\ ¬Rt T r ls) ⟨⟨_,_,_,rfl⟩,rfl,fun i hi=>absurd hi (Nat.not_lt_zero _)⟩ (fun _ _ _ _=>trivial) (fun n w ρ h2 hw I=>?_) (fun ρ h2 I=>?_) (fun v h2 J=>?_)
   ·obtain⟨⟨a,b,c',rfl⟩,rfl,A⟩:=I
    obtain⟨rfl,hn⟩:=eV _ _ _ _ hw
    rw[eMn] at hn
    obtain⟨d,hd⟩: ∃d,D[n]?=some d:=⟨_,List.getElem?_eq_getElem hn⟩
    obtain⟨o,ho⟩: ∃o,T[n]?=some o:=⟨_,List.getElem?_eq_getElem (by omega)⟩
    obtain⟨y,hy⟩: ∃y,ls[n]?=some y:=⟨_,List.getElem?_eq_getElem (by omega)⟩
    have id':ixW DW (.int (0+(n:Int)))=pr d:=by rw[hDW];exact vB hd
    have il:ixW LW (.int (0+(n:Int)))=pr (.int y):=by rw[hLW];exact wu hy
    have bad: ¬(y∈i8 o/\(y=1->hasL ls o n r=false))-> ¬Rt T r ls:=fun z q=>z (q.2 n (by omega) o y ho hy)
    have good:(y∈i8 o/\(y=1->hasL ls o n r=false))-> ∀i,i<n+1->OkA T r ls i:=fun z i hi=>by
     by_cases e:i=n
     ·subst e
      intro o' x' h1' h2'
      rw[ho] at h1';rw[hy] at h2'
      cases h1';cases h2'
      exact z
     ·exact A i (by omega)
    obtain⟨z,l,rfl,hz⟩:=R.ok n d o hd ho
    refine⟨_,rfl,?_⟩
    cases o with
    |none=>
     have hz:decide (z∈JL)=false:=hz
     by_cases c3:y=1
     ·simp! only[aa,id',il,ix0,kh,hz,decide_eq_true c3]
      exact aB (.inl ⟨_,rfl,⟨_,_,_,rfl⟩,rfl,good ⟨by rw[c3];exact List.mem_cons_self,fun _=>rfl⟩⟩)
     ·simp! only[aa,id',il,ix0,kh,hz,decide_eq_false c3]
      exact aB (.inr ⟨_,rfl,rfl,rfl,bad fun z=>c3 (List.mem_singleton.mp z.1)⟩)
    |some t=>
     obtain⟨hz,ht,mm,rfl⟩:=(show decide (z∈JL)=true/\t<=D.length/\ ∃m,l=m++[.int (t:Int)] from hz)
     by_cases c3:y=3
     ·simp! only[aa,id',il,ix0,kh,hz,decide_eq_true c3]
      exact aB (.inl ⟨_,rfl,⟨_,_,_,rfl⟩,rfl,good ⟨by rw[c3];exact List.mem_cons_of_mem _ List.mem_cons_self,fun e=>absurd (c3.symm.trans e) (by decide)⟩⟩)
     ·have b1:atI ((begs ls D.length).map W.int) (t:Int)=some (.int (pre ls t)):=br (by omega) (by rw[List.getElem?_map,show ((t:Int)).toNat=t by omega,ig ht];rfl)
      have b2:atI ((begs ls D.length).map W.int) (0+(n:Int)+1)=some (.int (pre ls (n+1))):=br (by omega) (by rw[List.getElem?_map,show (0+(n:Int)+1).toNat=n+1 by omega,ig (by omega)];rfl)
      simp! only[aa,id',il,ix0,kh,hz,decide_eq_false c3,wB]
      refine nO eb b1 ?_
      simp!
      refine nO eb b2 ?_
      have fa:(if pre ls t - pre ls (n+1)<0 then -(pre ls t - pre ls (n+1)) else pre ls t - pre ls (n+1))=farA ls t n:=rfl
      simp! only[aa,lQ,il]
      rw[fa]
      by_cases c4:y=1
      ·by_cases c5:r<farA ls t n
       ·simp! only[aa,decide_eq_true c4,decide_eq_true c5]
        exact aB (.inr ⟨_,rfl,rfl,rfl,bad fun z=>by
         have:=z.2 c4
         have:decide (r<farA ls t n)=false:=this
         rw[decide_eq_true c5] at this;cases this⟩)
       ·simp! only[aa,decide_eq_true c4,decide_eq_false c5]
        exact aB (.inl ⟨_,rfl,⟨_,_,_,rfl⟩,rfl,good ⟨by rw[c4];exact List.mem_cons_self,fun _=>decide_eq_false c5⟩⟩)
      ·simp! only[aa,decide_eq_false c4]
       exact aB (.inr ⟨_,rfl,rfl,rfl,bad fun z=>by
        rcases List.mem_cons.mp (show y∈[1,3] from z.1) with e|e
        ·exact c4 e
        ·exact c3 (List.mem_singleton.mp e)⟩)
   ·obtain⟨⟨a,b,c',rfl⟩,rfl,A⟩:=I
    rw[eU,eMn] at A
    simp!
    exact aB ⟨⟨true,rfl,fun _=>⟨by omega,fun i hi=>A i (by omega)⟩,fun _=>rfl⟩,fr,by omega⟩
   ·obtain⟨rfl,rfl,A⟩:=J
    simp!
    exact aB ⟨⟨false,rfl,fun z=>(by cases z),fun z=>absurd z A⟩,fr,by omega⟩
 ·have c1:decide (N=M1)=false:=decide_eq_false (by omega)
  simp! only[aa,eN,eM,c1]
  exact aB ⟨⟨false,rfl,fun z=>(by cases z),fun z=>absurd z.1 (by omega)⟩,Fo.refl _ _⟩
noncomputable def jc (T:List (Option Nat)):Nat:=T.countP Option.isSome
noncomputable def chW (c:List Int):W:=.tl (c.map W.int)
theorem add1 (c:List Int)(x:Int)(h:c.length<=1000):addW (chW c) (.tl [.int x])=pr (chW (c++[x])):=by
 unfold chW
 rw[iK _ _ (sz (by rw[List.length_map];show _+1<=_;omega)),List.map_append];rfl
theorem sh {h:List Ob}{D:List W}{T:List (Option Nat)}(R:Rows D T)(hj:jc T<=8):Ok (cU [.tl D]) h fun w h'=>(∃cs:List (List Int),w=.tl (cs.map chW)/\ ∀c∈cs,c.length=D.length)/\Fo h.length h h':=by
 have e0:cU [.tl D]=bd (fH [some (.tl D),none,none,none,none]) finF:=rfl
 rw[e0]
 unfold fH
 have tl:=R.len
 have sD:=R.sz
 simp!
 refine eQ (I:=fun n ρ h'=>(∃ (cs:List (List Int)) (a b c:Option W),ρ=[some (.tl D),some (.tl (cs.map chW)),a,b,c]/\(∀c∈cs,c.length=n)/\cs.length<=2 ^ jc (T.take n))/\Fo h.length h h') ⟨⟨[[]],none,none,none,rfl,fun c hc=>by rw[List.mem_singleton.mp hc];rfl,by rw[List.take_zero];decide⟩,Fo.refl _ _⟩ (fun _ _ _ _=>trivial) (fun n w ρ h1 hw I=>?_) fun ρ h1 I=>?_
 ·obtain⟨⟨cs,a,b,c,rfl,lc,nc⟩,F⟩:=I
  have hn:=(List.getElem?_eq_some_iff.mp hw).1
  obtain⟨o,ho⟩: ∃o,T[n]?=some o:=⟨_,List.getElem?_eq_getElem (by omega)⟩
  obtain⟨z,l,rfl,hz⟩:=R.ok n w o hw ho
  have hz:decide (z∈JL)=o.isSome:=by
   cases o with
   |none=>exact hz
   |some t=>exact hz.1
  have js:jc (T.take (n+1))=jc (T.take n)+(if o.isSome=true then 1 else 0):=by
   unfold jc
   rw[List.take_succ,ho,List.countP_append]
   show _+[o].countP Option.isSome=_
   rw[List.countP_singleton]
  have jl:jc (T.take (n+1))<=8:=Nat.le_trans (List.Sublist.countP_le (List.take_sublist _ _)) hj
  have pw:2 ^ jc (T.take n)<=2 ^ 8:=Nat.pow_le_pow_right (by decide) (by omega)
  refine⟨_,rfl,?_⟩
  simp!
  refine gr ?_
  simp!
  refine eQ (I:=fun i ρ h'=>(∃ (ws:List (List Int)) (c:Option W),ρ=[some (.tl D),some (.tl (cs.map chW)),some (.tup (.str z::l)),some (.loc h1.length),c]/\h'[h1.length]?=some (.lst (ws.map chW))/\(∀c∈ws,c.length=n+1)/\ws.length<=(if o.isSome=true then 2 else 1) * i)/\(∀j,j<h1.length->h'[j]?=h1[j]?)/\h'.length=h1.length+1) ⟨⟨[],c,rfl,dO,fun c hc=>absurd hc List.not_mem_nil,Nat.zero_le _⟩,fun j hj=>List.getElem?_append_left hj,by simp⟩ (fun _ _ _ _=>trivial) (fun i w ρ h2 hw2 I=>?_) fun ρ h2 I=>?_
  ·obtain⟨⟨ws,c,rfl,e2,lw,nw⟩,fr,l2⟩:=I
   rw[List.getElem?_map] at hw2
   obtain⟨c1,hc1,rfl⟩:=Option.map_eq_some_iff.mp hw2
   have hi:=(List.getElem?_eq_some_iff.mp hc1).1
   have c1l:=lc c1 (List.mem_of_getElem? hc1)
   refine⟨_,rfl,?_⟩
   have wl:ws.length<=600:=by split at nw<;>omega
   simp!
   refine cK e2 ?_
   simp! only[aa,add1 c1 1 (by omega)]
   refine gc e2 (by rw[List.length_map];exact Nat.lt_of_le_of_lt wl (by decide)) ?_
   have e3:(h2.set h1.length (.lst (ws.map chW++[chW (c1++[1])])))[h1.length]?=some (.lst ((ws++[c1++[1]]).map chW)):=by rw[cN e2,List.map_append];rfl
   have f3: ∀j,j<h1.length->(h2.set h1.length (.lst (ws.map chW++[chW (c1++[1])])))[j]?=h1[j]?:=fun j hj=>by rw[List.getElem?_set_ne (by omega)];exact fr j hj
   have l3:(h2.set h1.length (.lst (ws.map chW++[chW (c1++[1])]))).length=h1.length+1:=by rw[List.length_set];exact l2
   generalize h2.set h1.length (.lst (ws.map chW++[chW (c1++[1])]))=h3 at *
   have m3: ∀c∈ws++[c1++[1]],c.length=n+1:=fun c hc=>by
    rcases List.mem_append.mp hc with hc|hc
    ·exact lw c hc
    ·rw[List.mem_singleton.mp hc,List.length_append,c1l];rfl
   simp! only[aa,ix0,yZ,hz]
   cases eo:o.isSome with
   |true=>
    rw[eo] at nw
    simp!
    refine cK e3 ?_
    simp! only[aa,add1 c1 3 (by omega)]
    refine gc e3 (by rw[List.length_map,List.length_append,List.length_singleton];exact Nat.lt_of_le_of_lt (show _<=700 by omega) (by decide)) ?_
    simp!
    refine aB ⟨_,rfl,⟨ws++[c1++[1]]++[c1++[3]],_,rfl,by rw[cN e3,List.map_append (l₂:=[c1++[3]])];rfl,fun c hc=>?_,?_⟩,fun j hj=>by rw[List.getElem?_set_ne (by omega)];exact f3 j hj,by rw[List.length_set];exact l3⟩
    ·rcases List.mem_append.mp hc with hc|hc
     ·exact m3 c hc
     ·rw[List.mem_singleton.mp hc,List.length_append,c1l];rfl
    ·rw[if_pos rfl] at nw
     rw[List.length_append,List.length_append,List.length_singleton,List.length_singleton];omega
   |false=>
    rw[eo] at nw
    simp!
    refine aB ⟨_,rfl,⟨ws++[c1++[1]],_,rfl,e3,m3,?_⟩,f3,l3⟩
    rw[if_neg Bool.false_ne_true] at nw
    show (ws++[c1++[1]]).length<=1 * (i+1)
    rw[List.length_append,List.length_singleton];omega
  ·obtain⟨⟨ws,c,rfl,e2,lw,nw⟩,fr,l2⟩:=I
   rw[List.length_map] at nw
   simp!
   refine jU e2 ?_
   simp!
   refine aB ⟨_,rfl,⟨ws,_,_,_,rfl,lw,?_⟩,F.trans ⟨fun j hj=>?_,?_⟩⟩
   ·rw[js]
    cases eo:o.isSome with
    |true=>rw[eo,if_pos rfl] at nw;rw[if_pos rfl,Nat.pow_succ];omega
    |false=>rw[eo,if_neg Bool.false_ne_true] at nw;rw[if_neg Bool.false_ne_true,Nat.add_zero];omega
   ·have:=F.le
    rw[List.getElem?_set_ne (by omega)];exact fr j (by omega)
   ·rw[List.length_set,l2];omega
 ·obtain⟨⟨cs,a,b,c,rfl,lc,_⟩,F⟩:=I
  simp!
  exact aB ⟨⟨cs,rfl,lc⟩,F⟩
def jB (T:List (Option Nat))(w:W):Bool:=match w with
 |.int i=>(T.getD i.toNat none).isSome
 |_=>false
noncomputable def jL (T:List (Option Nat)):List Nat:=(List.range T.length).filter fun i=>(T.getD i none).isSome
theorem rW (T:List (Option Nat)):(jL T).length=jc T:=by
 unfold jL jc
 rw[<-List.countP_eq_length_filter]
 have e:T=(List.range T.length).map fun i=>T.getD i none:=by
  apply List.ext_getElem?
  intro i
  rw[List.getElem?_map]
  by_cases hi:i<T.length
  ·rw[List.getElem?_range hi,List.getElem?_eq_getElem hi]
   show _=some (T.getD i none)
   rw[List.getD_eq_getElem?_getD,List.getElem?_eq_getElem hi];rfl
  ·rw[List.getElem?_eq_none (by omega),List.getElem?_eq_none (by rw[List.length_range];omega)];rfl
 conv=>rhs;rw[e]
 rw[List.countP_map];rfl
theorem wF {T:List (Option Nat)}{i:Nat}(h:i∈jL T):i<T.length:=List.mem_range.mp (List.mem_filter.mp h).1
theorem rY (n:Nat):intsW 0 n=(List.range n).map fun i=>W.int ((0:Int)+((i:Nat):Int)):=by
 apply List.ext_getElem?
 intro i
 by_cases hi:i<n
 ·obtain⟨w,hw⟩: ∃w,(intsW 0 n)[i]?=some w:=⟨_,List.getElem?_eq_getElem (by rw[eU];exact hi)⟩
  obtain⟨rfl,_⟩:=eV _ _ _ _ hw
  rw[hw,List.getElem?_map,List.getElem?_range hi];rfl
 ·rw[List.getElem?_eq_none (by rw[eU];omega),List.getElem?_eq_none (by rw[List.length_map,List.length_range];omega)]
noncomputable def jW (i:Nat):W:=.int ((0:Int)+(i:Int))
theorem wD (T:List (Option Nat)):(intsW 0 T.length).filter (jB T)=(jL T).map jW:=by
 rw[rY,List.filter_map]
 unfold jL
 congr 1
 apply List.filter_congr
 intro i _
 show (T.getD ((0:Int)+(i:Int)).toNat none).isSome=_
 rw[show ((0:Int)+(i:Int)).toNat=i by omega]
theorem Bk {ls:List Int}{i:Nat}{x:Int}(h:ls[i]?=some x)(y:Int)(hl:ls.length<=1000): ∀ {β:Type}{k:W->M β},bd (slW (.tl (ls.map W.int)) none (some (0+(i:Int)))) (fun a=>bd (addW a (.tl [.int y])) fun b=>bd (slW (.tl (ls.map W.int)) (some (0+(i:Int)+1)) none) fun c=>bd (addW b c) k)=k (.tl ((ls.set i y).map W.int)):=fun{β k}=>by
 have hi:=(List.getElem?_eq_some_iff.mp h).1
 rw[slW_tl,ck,nr _ (by omega),slW_tl,<-List.map_take,show (0+(i:Int)).toNat=i by omega]
 rw[iK _ _ (sz (by rw[List.length_map,List.length_take];show _+1<=_;omega)),ck,ck,qP _ (by omega),<-List.map_drop,show (0+(i:Int)+1).toNat=i+1 by omega]
 rw[iK _ _ (sz (by rw[List.length_append,List.length_map,List.length_map,List.length_take,List.length_drop];show _+1+_<=_;omega)),ck]
 congr 2
 rw[List.set_eq_take_append_cons_drop,if_pos hi,List.map_append,List.append_assoc];rfl
theorem wz {h:List Ob}{D:List W}{T:List (Option Nat)}{r:Int}{ls:List Int}(R:Rows D T)(rt:Rt T r ls)(lo:Low T r ls):Ok (fW [.tl D,.int r,.tl (ls.map W.int)]) h fun w h'=>w=.bl true/\Fo h.length h h':=by
 have e0:fW [.tl D,.int r,.tl (ls.map W.int)]=bd (gI [some (.tl D),some (.int r),some (.tl (ls.map W.int)),none,none,none]) finF:=rfl
 rw[e0]
 unfold gI
 have tl:=R.len
 have sD:=R.sz
 have ll:=rt.1
 obtain⟨N,hN⟩: ∃N:Int,N=(D.length:Int):=⟨_,rfl⟩
 have eN:lenW [.tl D]=pr (.int N):=by rw[lenW_tl,hN]
 have eNn:N.toNat=T.length:=by omega
 have rok: ∀ {h:List Ob}{c:List Int},c.length<=1000->Ok (bh [.tl D,.int r,.tl (c.map W.int)]) h fun w h'=>(∃b:Bool,w=.bl b/\(b=true↔Rt T r c))/\Fo h.length h h':=fun{h c} hc=>(qc (h:=h) (x:=.tl (c.map W.int)) (r:=r) R (.inl rfl) hc).imp fun w h' ⟨a,b,c⟩=>⟨a,b,c⟩
 have lok: ∀ {h:List Ob}{c:List Int},c.length<=1000->Ok (cy [.tl D,.int r,.tl (c.map W.int)]) h fun w h'=>(∃b:Bool,w=.bl b/\(b=true↔Rt T r c))/\Fo h.length h h':=fun{h c} hc=>nU R hc
 have jm: ∀ρ:Env',compM (fun _=>True) (tgN 0) (mB (L2.m2 inW (L2.m2 ixW (L2.m2 ixW (mVar 2) (mVar 0)) (mC (.int 0))) (mTl (lenG (mCons (mC (.str "jump")) (mCons (mC (.str "when")) (mCons (mC (.str "unless")) mNil))))))) (mVar 0) 2 (intsW 0 T.length) (some (.tl D)::ρ)=pr ((jL T).map jW):=fun ρ=>by
  rw[kA (b:=jB T) (v:=id) fun w hw=>?_,List.map_id,wD]
  obtain⟨i,hi0⟩:=List.getElem?_of_mem hw
  obtain⟨rfl,hi⟩:=eV _ _ _ _ hi0
  obtain⟨d,hd⟩: ∃d,D[i]?=some d:=⟨_,List.getElem?_eq_getElem (by omega)⟩
  obtain⟨o,ho⟩: ∃o,T[i]?=some o:=⟨_,List.getElem?_eq_getElem hi⟩
  have id':=vB hd
  obtain⟨z,l,rfl,hz⟩:=R.ok i d o hd ho
  have hz:decide (z∈JL)=o.isSome:=by
   cases o with
   |none=>exact hz
   |some t=>exact hz.1
  have eb:jB T (.int (0+(i:Int)))=o.isSome:=by
   show (T.getD ((0:Int)+(i:Int)).toNat none).isSome=_
   rw[show ((0:Int)+(i:Int)).toNat=i by omega,List.getD_eq_getElem?_getD,ho];rfl
  refine⟨_,rfl,?_,fun _=>?_⟩
  ·rw[eb]
   generalize W.tl D=DW at *
   simp! only[List.replicate,List.cons_append,List.nil_append,aa,id',ix0,yZ,hz]
  ·simp! only[List.replicate,List.cons_append,List.nil_append,aa,id]
 have glN: ∀ {α:Type} (q:M α),gd ((intsW 0 T.length).length<=sizeLine) q=q:=fun q=>ay (by rw[eU];exact sz (by omega))
 obtain⟨DW,hDW⟩: ∃DW,DW=W.tl D:=⟨_,rfl⟩
 rw[<-hDW] at eN rok lok jm ⊢
 simp! only[aa,eN,j4 (show (-(2 ^ 62):Int)<=N by omega) (show N<2 ^ 62 by omega),eNn,glN]
 rw[jm]
 obtain⟨TW,hTW⟩: ∃TW,TW=W.tl (ls.map W.int):=⟨_,rfl⟩
 have tix: ∀ (i:Nat) (x:Int),ls[i]?=some x->ixW TW (.int (0+(i:Int)))=pr (.int x):=fun i x hx=>by rw[hTW];exact wu hx
 have tcut: ∀ {i:Nat}{x:Int} (hx:ls[i]?=some x) (y:Int) {β:Type}{k:W->M β},bd (slW TW none (some (0+(i:Int)))) (fun a=>bd (addW a (.tl [.int y])) fun b=>bd (slW TW (some (0+(i:Int)+1)) none) fun c=>bd (addW b c) k)=k (.tl ((ls.set i y).map W.int)):=fun{i x} hx y {β k}=>by rw[hTW];exact Bk hx y (by omega)
 have nb: ∀b:Bool,notBW (.bl b) (.bl true)=pr (.bl (!b)):=fun b=>by cases b<;>rfl
 have ne0:neW (.tl []) (.tl [])=pr (.bl false):=Aj (b:=true) fun h=>yD [] h
 have glJ: ∀ {α:Type} (q:M α),gd (((jL T).map jW).length<=sizeLine) q=q:=fun q=>ay (by rw[List.length_map,rW];exact sz (Nat.le_trans List.countP_le_length (by omega)))
 have cm: ∀ (c:List Int) (ρ:Env') (a b d:Option W),c.length=T.length->(∀ (i:Nat) (x y:Int),ls[i]?=some x->c[i]?=some y->x<=y)->compM (fun _=>True) (tgN 0) (mB (L2.m2 ltW (L2.m2 ixW (mVar 6) (mVar 0)) (L2.m2 ixW (mVar 4) (mVar 0)))) (mVar 0) 2 ((jL T).map jW) (a::b::some TW::d::some (.tl (c.map W.int))::ρ)=pr []:=fun c ρ a b d lc le=>by
  rw[kA (b:=fun _=>false) (v:=id) fun w hw=>?_]
  ·congr 1
   rw[List.filter_eq_nil_iff.mpr fun _ _=>by simp];rfl
  ·obtain⟨i,hi,rfl⟩:=List.mem_map.mp hw
   have hi:=wF hi
   obtain⟨x,hx⟩: ∃x,ls[i]?=some x:=⟨_,List.getElem?_eq_getElem (by omega)⟩
   obtain⟨y,hy⟩: ∃y,c[i]?=some y:=⟨_,List.getElem?_eq_getElem (by omega)⟩
   have:=le i x y hx hy
   have i1:=tix i x hx
   have i2:=wu hy
   refine⟨_,rfl,?_,fun z=>by cases z⟩
   unfold jW
   generalize W.tl (c.map W.int)=CW at *
   simp! only[List.replicate,List.cons_append,List.nil_append,aa,i1,i2,decide_eq_false (show¬y<x by omega)]
 have rest: ∀ {h1:List Ob}{a:Option W}{Q:W->List Ob->Prop},(∀h',Fo h1.length h1 h'->Q (.bl true) h')->Ok (bd (sSeq (sFor (mSrc (mVar 3) srcL) (tgN 5)
              (sSeq
               (sSet 4
                (L2.m2 addW
                 (L2.m2 addW (L2.m3 slW (mVar 2) bj (mPart (mVar 5)))
                  (mTl (lenG (mCons (L2.m2 subW (mC (W.int 4)) (L2.m2 ixW (mVar 2) (mVar 5))) mNil))))
                 (L2.m3 slW (mVar 2) (mPart (L2.m2 addW (mVar 5) (mC (W.int 1)))) bj)))
               (sIf
                (mB
                 (L2.m2 neW (mCall (arW 3 bh) (mCons (mVar 0) (mCons (mVar 1) (mCons (mVar 4) mNil))))
                  (mCall (arW 3 cy) (mCons (mVar 0) (mCons (mVar 1) (mCons (mVar 4) mNil))))))
                (sRet (mC (W.bl false))) sNil)))
            (sRet (mC (W.bl true))) [some DW,some (.int r),some TW,some (.tl ((jL T).map jW)),a,none]) finF) h1 Q:=fun{h1 a Q} q=>by
  simp!
  refine eQ (I:=fun n ρ h'=>(∃a b,ρ=[some DW,some (.int r),some TW,some (.tl ((jL T).map jW)),a,b])/\Fo h1.length h1 h') ⟨⟨_,_,rfl⟩,Fo.refl _ _⟩ (fun _ _ _ _=>trivial) (fun n w ρ h2 hw I=>?_) fun ρ h2 I=>?_
  ·obtain⟨⟨a,b,rfl⟩,F⟩:=I
   obtain⟨i,hi,rfl⟩:=List.mem_map.mp (List.mem_of_getElem? hw)
   have hi:=wF hi
   obtain⟨x,hx⟩: ∃x,ls[i]?=some x:=⟨_,List.getElem?_eq_getElem (by omega)⟩
   have i1:=tix i x hx
   have lset:(ls.set i (4 - x)).length<=1000:=by rw[List.length_set];omega
   refine⟨_,rfl,?_⟩
   unfold jW
   simp! only[aa,i1]
   rw[tcut hx]
   simp!
   refine bN (rok lset) fun w h3 qq_=>?_
   obtain⟨⟨b1,ew,eb1⟩,F3⟩:=qq_
   subst ew
   simp!
   refine bN (lok lset) fun w h4 qq_=>?_
   obtain⟨⟨b2,ew,eb2⟩,F4⟩:=qq_
   subst ew
   have:b1=b2:=by
    rw[Bool.eq_iff_iff,eb1,eb2]
   subst this
   simp! only[aa,decide_true]
   have q2:=F.le
   have q3:=F3.le
   exact aB ⟨_,rfl,⟨_,_,rfl⟩,fun i hi=>((F4.eq i (by omega)).trans (F3.eq i (by omega))).trans (F.eq i hi),by have:=F4.le;omega⟩
  ·obtain⟨⟨a,b,rfl⟩,F⟩:=I
   simp!
   exact aB (q _ F)
 rw[<-hTW]
 by_cases c9:jc T<9
 ·have d9:decide ((((jL T).map jW).length:Int)<9)=true:=decide_eq_true (by rw[List.length_map,rW];omega)
  have co: ∀h:List Ob,Ok (cU [DW]) h fun w h'=>(∃cs:List (List Int),w=.tl (cs.map chW)/\ ∀c∈cs,c.length=D.length)/\Fo h.length h h':=fun h=>by rw[hDW];exact sh R (by omega)
  simp! only[aa,d9]
  refine bN (co h) fun w h1 qq_=>?_
  obtain⟨⟨cs,ew,lc⟩,F1⟩:=qq_
  subst ew
  simp!
  refine eQ (I:=fun n ρ h'=>(∃a,ρ=[some DW,some (.int r),some TW,some (.tl ((jL T).map jW)),a,none])/\Fo h.length h h') ⟨⟨_,rfl⟩,F1⟩ (fun _ _ _ _=>trivial) (fun n w ρ h2 hw I=>?_) fun ρ h2 I=>?_
  ·obtain⟨⟨a,rfl⟩,F⟩:=I
   obtain⟨c,hc,rfl⟩:=List.mem_map.mp (List.mem_of_getElem? hw)
   have cl:=lc c hc
   have q1:=F.le
   refine⟨_,rfl,?_⟩
   unfold chW
   simp!
   refine bN (lok (by omega)) fun w h3 qq_=>?_
   obtain⟨⟨b,ew,eb⟩,F3⟩:=qq_
   subst ew
   have q3:=F3.le
   cases b with
   |false=>
    simp!
    exact aB ⟨_,rfl,⟨_,rfl⟩,fun i hi=>(F3.eq i (by omega)).trans (F.eq i hi),by omega⟩
   |true=>
    have rc:=eb.mp rfl
    have le:=lo c rc
    simp! only[aa,glJ]
    rw[cm c _ _ _ _ (by omega) le.2]
    simp! only[aa,ne0]
    refine bN (rok (by omega)) fun w h4 qq_=>?_
    obtain⟨⟨b,ew,eb⟩,F4⟩:=qq_
    subst ew
    rw[eb.mpr rc]
    simp! only[aa,nb]
    exact aB ⟨_,rfl,⟨_,rfl⟩,fun i hi=>((F4.eq i (by omega)).trans (F3.eq i (by omega))).trans (F.eq i hi),by have:=F4.le;omega⟩
  ·obtain⟨⟨a,rfl⟩,F⟩:=I
   try simp only[du]
   have q1:=F.le
   exact rest fun h' F'=>⟨rfl,fun i hi=>(F'.eq i (by omega)).trans (F.eq i hi),by have:=F'.le;omega⟩
 ·have d9:decide ((((jL T).map jW).length:Int)<9)=false:=decide_eq_false (by rw[List.length_map,rW];omega)
  simp only[ck,d9,gf,sNil,du]
  exact rest fun h' F'=>⟨rfl,F'⟩
theorem zB {ys:List Int}{i:Nat}(hi:i<4)(hy:ys.length=12): ∃r:Int,∀ {β:Type}{k:W->M β},bd (ixW (.tl (ys.map W.int)) (.int (8+(0+(i:Int))))) (fun a=>bd (ixW (.tl [.int 1,.int 4,.int 9,.int 25]) (.int (0+(i:Int)))) fun b=>bd (modW a b) k)=k (.int r):=by
 obtain⟨x,ex⟩: ∃x,ys[8+i]?=some x:=⟨_,List.getElem?_eq_getElem (by omega)⟩
 have i1:ixW (.tl (ys.map W.int)) (.int (8+(0+(i:Int))))=pr (.int x):=bY (br (by omega) (by rw[show (8+(0+(i:Int))).toNat=8+i by omega,List.getElem?_map,ex];rfl))
 have:i=0\/i=1\/i=2\/i=3:=by omega
 have i2: ∃m:Int,0<m/\ixW (.tl [.int 1,.int 4,.int 9,.int 25]) (.int (0+(i:Int)))=pr (.int m):=by
  rcases this with rfl|rfl|rfl|rfl
  ·exact⟨1,by decide,bY rfl⟩
  ·exact⟨4,by decide,bY rfl⟩
  ·exact⟨9,by decide,bY rfl⟩
  ·exact⟨25,by decide,bY rfl⟩
 obtain⟨m,m0,i2⟩:=i2
 exact⟨x % m,fun{β k}=>by rw[i1,ck,i2,ck,aE m0,ck]⟩
def b17 (ns:List Str)(b:Bt):B17:=⟨b.nm,b.ss.map Rr.form,b.e.en ns⟩
theorem y7 {most:Nat}{bx:List (Str×Str)}{bl:List Bt}{os:List Int}(G:TxG most bx bl)(pm:List.Perm os (allB bl.length)):Pg (bl.map (b17 (bl.map Bt.nm))) os:=by
 have l:(bl.map (b17 (bl.map Bt.nm))).length=bl.length:=List.length_map ..
 refine⟨by rw[l];exact G.g.l1,by rw[l];exact G.g.l,fun b hb=>?_,by rw[l];exact pm⟩
 obtain⟨c,hc,rfl⟩:=List.mem_map.mp hb
 have g:=(G.b c hc).g
 have d:=(G.b c hc).d
 refine⟨yH (by rw[l,List.length_map]) g.e.1 g.e.2.1 g.e.2.2.1 d.2 g.e.2.2.2,by show (c.ss.map _).length<=8;rw[List.length_map];exact g.l,fun x hx=>?_⟩
 have hx:x∈c.ss.map Rr.form:=hx
 obtain⟨r,hr,rfl⟩:=List.mem_map.mp hx
 obtain⟨r1,r2,r3⟩:=g.s r hr
 exact zr r1 r2 r3 (d.1 r hr)
theorem yq (ns:List Int)(hh:List Ob):Ok (nZ [.cl (ns.map W.int)]) hh fun w _=>w=.bl true:=by
 have e0:nZ [.cl (ns.map W.int)]=bd (tD [some (.cl (ns.map W.int)),none,none,none,none,none,none]) finF:=rfl
 rw[e0]
 unfold tD
 obtain⟨bx,bl,G,ht⟩:=xt ns (most:=7) (MM:=7) rfl (by decide) (by decide)
 obtain⟨c,ec⟩:=pE ns 8 (by decide)
 have yl:=mK c 12
 simp!
 refine bN (ht hh) fun w h1 qq_=>?_
 obtain⟨ew,F1⟩:=qq_
 subst ew
 simp!
 refine bN (vE G.g) fun w h2 qq_=>?_
 obtain⟨ew,F2⟩:=qq_
 subst ew
 simp! only[aa,ec]
 refine bN (o3 (n:=12) rfl (by decide)) fun w h3 qq_=>?_
 obtain⟨ew,F3⟩:=qq_
 subst ew
 generalize nums c 12=ys at *
 obtain⟨N,hN⟩: ∃N:Int,N=(bl.length:Int):=⟨_,rfl⟩
 have eL:lenW [.tl (bl.map (Bt.w (bl.map Bt.nm)))]=pr (.int N):=by rw[lenW_tl,List.length_map,hN]
 have ebl:(bl.map (b17 (bl.map Bt.nm))).map hwS=bl.map (Bt.w (bl.map Bt.nm)):=by rw[List.map_map];rfl
 have lay:=fun (h:List Ob) (os:List Int) (pm:List.Perm os (allB bl.length))=>yr (h:=h) (bx:=.tl ((bxV bx).map bqW)) (y7 G pm)
 rw[ebl] at lay
 have l1:=G.g.l1
 have l7:=G.l
 have i1: ∀a b:W,ixW (.tup [a,b]) (.int 1)=pr b:=fun a b=>ix1 ..
 generalize W.tl (bl.map (Bt.w (bl.map Bt.nm)))=BW at *
 generalize W.tl ((bxV bx).map bqW)=XW at *
 simp! only[aa,i1,eL]
 refine bN (ux yl hN l1 (by omega)) fun w h4 qq_=>?_
 obtain⟨eh,os,ew,pm⟩:=qq_
 subst eh ew
 obtain⟨T,RR⟩:=uA (y7 G pm)
 simp!
 refine bN (lay h4 os pm) fun w h5 qq_=>?_
 obtain⟨_,_,ew⟩:=qq_
 subst ew
 generalize (rowsR (bl.map (b17 (bl.map Bt.nm))) os (bl.map (b17 (bl.map Bt.nm))).length).map (R17.fin (posR (bl.map (b17 (bl.map Bt.nm))) os))=D at *
 have tl:=RR.len
 have sD:=RR.sz
 have len:=fun (h:List Ob) (r:Int)=>rV (h:=h) (r:=r) RR
 have lok:=fun (h:List Ob) (r:Int) (c:List Int) (hc:c.length<=1000)=>nU (h:=h) (r:=r) (ls:=c) RR hc
 have rok:=fun (h:List Ob) (r:Int) (c:List Int) (hc:c.length<=1000)=>qc (h:=h) (x:=.tl (c.map W.int)) (r:=r) (ls:=c) RR (.inl rfl) hc
 have leo:=fun (h:List Ob) (r:Int) (c:List Int) (a:Rt T r c) (b:Low T r c)=>wz (h:=h) RR a b
 simp!
 refine eQ (I:=fun i ρ h'=> ∃a b c:Option W,ρ=[some (.cl (ns.map W.int)),some (.tup [XW,BW]),some (.tl (ys.map W.int)),some (.tl D),a,b,c]) ⟨_,_,_,rfl⟩ (fun _ _ _ _=>trivial) (fun i w ρ h6 hw I=>?_) fun ρ h6 I=>?_
 ·obtain⟨a,b,c',rfl⟩:=I
  obtain⟨rfl,hi⟩:=eV _ _ _ _ hw
  have hi:i<4:=hi
  obtain⟨r,er⟩:=zB hi yl
  refine⟨_,rfl,?_⟩
  have nb: ∀x y:Bool,notBW (.bl x) (.bl y)=pr (.bl (!(x==y))):=fun x y=>rfl
  simp!
  rw[er]
  simp! only[aa,qx]
  refine bN (len h6 r) fun w h7 qq_=>?_
  obtain⟨k,ls,ew,_,ek,rt,lw,_,_⟩:=qq_
  subst ew
  have ll:=rt.1
  simp!
  refine jU ek ?_
  simp!
  refine Lw.isi (c:= "list") (b:=true) (.inl rfl) (by decide) (by decide) ?_
  simp!
  refine bN (lok _ r ls (by omega)) fun w h8 qq_=>?_
  obtain⟨⟨b1,ew,eb⟩,_⟩:=qq_
  subst ew
  rw[eb.mpr rt]
  simp! only[aa,qx]
  refine bN (rok _ r ls (by omega)) fun w h9 qq_=>?_
  obtain⟨⟨b2,ew,eb2⟩,_⟩:=qq_
  subst ew
  rw[eb2.mpr rt]
  have a1:addW (.tl (ls.map W.int)) (.tl [.int 1])=pr (.tl ((ls++[1]).map W.int)):=by rw[iK _ _ (sz (by rw[List.length_map];show _+1<=_;omega)),List.map_append];rfl
  simp! only[aa,nb,beq_self_eq_true,a1]
  refine bN (rok _ r (ls++[1]) (by rw[List.length_append,List.length_singleton];omega)) fun w h10 qq_=>?_
  obtain⟨⟨b3,ew,eb3⟩,_⟩:=qq_
  subst ew
  have:b3=false:=by
   cases b3 with
   |false=>rfl
   |true=>
    have:=(eb3.mp rfl).1
    rw[List.length_append,List.length_singleton] at this
    omega
  subst this
  simp! only[aa,nb,beq_self_eq_true]
  refine bN (leo _ r ls rt lw) fun w h11 qq_=>?_
  obtain⟨ew,_⟩:=qq_
  subst ew
  simp!
  exact aB ⟨_,rfl,_,_,_,rfl⟩
 ·obtain⟨a,b,c',rfl⟩:=I
  simp!
  exact aB rfl
theorem law_true (ns:List Int)(hh:List Ob): ∃h',nZ [.cl (ns.map W.int)] hh=.ok (.bl true) h':=by
 obtain⟨w,h',e,rfl⟩:=yq ns hh
 exact⟨h',e⟩
end
end Q
namespace Q
open PySem L2 Wd
theorem ln1 {α:Type}: ∀ {us:List α},us.length=1-> ∃a0,us=[a0]
 |[a0],_=>⟨a0,rfl⟩
theorem ln2 {α:Type}: ∀ {us:List α},us.length=2-> ∃a0 a1,us=[a0,a1]
 |[a0,a1],_=>⟨a0,a1,rfl⟩
theorem ln3 {α:Type}: ∀ {us:List α},us.length=3-> ∃a0 a1 a2,us=[a0,a1,a2]
 |[a0,a1,a2],_=>⟨a0,a1,a2,rfl⟩
theorem ln4 {α:Type}: ∀ {us:List α},us.length=4-> ∃a0 a1 a2 a3,us=[a0,a1,a2,a3]
 |[a0,a1,a2,a3],_=>⟨a0,a1,a2,a3,rfl⟩
noncomputable def Dx (K:PySem.W.Frag)(x q:Str)(st:Stmt)(f:Addr):Prop:= ∃fd,Fun K x q st f fd
theorem dx {K:PySem.W.Frag}{x qual:Str}{st:Stmt}{f:Addr}{oc:Value}{od an:Option Addr}{osl:Array (Option Value)}{kV doc pm cdv ct:Value}(l:K.lookup f=some ⟨oc,od,.func (fnOf x qual (kz st) (gK st) (ak st) .none kV doc pm an cdv ct),osl⟩)(c:PySem.W.codeIn K cdv qual=true)(k:keepIn K (.ref f)=true):Dx K x qual st f:=⟨_,AD l c k⟩
def spLaw (K:PySem.W.Frag):Sp:=fun vs H Q _=> ∃ (a:Addr) (ns:List Int),vs=[.ref a]/\SqL K H a (ns.map V.int)/\ns.length<=63/\ ∀H',Q (.bl true) H'
theorem p7 {K:PySem.W.Frag}{o:Wo}: ∀ns:List Int,Rvs K o (ns.map W.int) (ns.map V.int)
 |[]=>Rvs.nil
 |n::r=>Rvs.cons (rv_int.mpr rfl) (p7 r)
theorem law_ok {P:Program}{w:World}{K:PySem.W.Frag}{mg:Str->Option Value}{base:Heap}{f:Addr}{fd:FuncData}(C:CG P w K mg base 68 "law" f fd ["script"] 1 nZ):FnOk P w K mg base CX0 68 f fd ["script"] (spLaw K):=
 C.ok.imp fun vs H Q E h=>by
  obtain⟨a,ns,rfl,sq,hn,q⟩:=h
  have nl: ¬Lv ⟨fun _=>0,[],H⟩ a:=fun⟨k,b,hk,_⟩=>by simp at hk
  refine⟨⟨fun _=>0,[],H⟩,[.cl (ns.map W.int)],rfl,rfl,⟨fun k b hk=>by simp at hk,fun j k b c hj=>by simp at hj⟩,Rvs.cons ?_ Rvs.nil,?_⟩
  ·unfold Rv
   exact⟨a,_,rfl,sq.imp (fun r=>⟨r,nl⟩) id,p7 ns⟩
  ·obtain⟨h',e⟩:=law_true ns []
   show Ps _ _ _ (nZ [.cl (ns.map W.int)] []) Q
   rw[e]
   intro p b _ _ _ rb
   rw[rv_bl.mp rb]
   exact q _
theorem all_mk {l:PySem.W.OpenLaw}{w:World}{K:PySem.W.Frag}{h:Heap}{mg:Str->Option Value}{fa CS CN aT fw1 fw2 fw3 fw4 fw5 fw6 fw7 fw8 fw9 fw10 fw11 fw12 f1 f2 f3 f4 f5 f6 f7 f8 f9 f10 f11 f12 f13 f14 f15 f16 f17 f18 f19 f20 f21 f22 f23 f24 f25 f26 f27 f28 f29 f30 f31 f32 f33 f34 f35 f36 f37 f38 f39 f40 f41 f42 c_Reading c_CONDITION_SIGNS c_JUMPS c_STATEMENTS:Addr}(X:K.In h)(G:h.Ns mainGlobals mg)(hfa:mg "law"=some (.ref fa))
  {odT:Option Addr}{slT:Array (Option Value)}{nT:Nat}{twl twf tw0 tw1 tw2 tw3 tw4 tw5 tw6 tw7 tw8 tw9 twc0 twc1 twc2 twc3:Tok}
  {od_CONDITION_SIGNS:Option Addr}{nn_CONDITION_SIGNS:Nat}{sl_CONDITION_SIGNS:Array (Option Value)}{tt_CONDITION_SIGNS_0 tt_CONDITION_SIGNS_1:Tok}
  {od_JUMPS:Option Addr}{nn_JUMPS:Nat}{sl_JUMPS:Array (Option Value)}{tt_JUMPS_0 tt_JUMPS_1 tt_JUMPS_2:Tok}
  {od_STATEMENTS:Option Addr}{nn_STATEMENTS:Nat}{sl_STATEMENTS:Array (Option Value)}{tt_STATEMENTS_0 tt_STATEMENTS_1 tt_STATEMENTS_2:Tok}
  {t_LONG t_MOST_BLOCKS t_MOST_BOXES t_MOST_IN_TABLE t_MOST_ROWS t_MOST_STATEMENTS t_SHORT:Tok}
  (n_Reading:nsIn K mainGlobals "Reading"=some (some (.ref c_Reading)))
  (a1:nsIn K mainGlobals "names_in"=some (some (.ref f1)))
  (l1:Dx K "names_in" "names_in" jO f1)
  (a2:nsIn K mainGlobals "name_of"=some (some (.ref f2)))
  (l2:Dx K "name_of" "name_of" kM f2)
  (a3:nsIn K mainGlobals "number_of"=some (some (.ref f3)))
  (l3:Dx K "number_of" "number_of" iT f3)
  (a4:nsIn K mainGlobals "condition_of"=some (some (.ref f4)))
  (l4:Dx K "condition_of" "condition_of" gm f4)
  (a5:nsIn K mainGlobals "form_of"=some (some (.ref f5)))
  (l5:Dx K "form_of" "form_of" ji f5)
  (a6:nsIn K mainGlobals "boxes_named"=some (some (.ref f6)))
  (l6:Dx K "boxes_named" "boxes_named" gR f6)
  (a7:nsIn K mainGlobals "place_of"=some (some (.ref f7)))
  (l7:Dx K "place_of" "place_of" jN f7)
  (a8:nsIn K mainGlobals "end_by_places"=some (some (.ref f8)))
  (l8:Dx K "end_by_places" "end_by_places" dM f8)
  (a9:findIn K (.ref c_Reading) "__init__"=some (some (.ref f9)))
  (i9:isFn K (.ref f9)=true)
  (l9:Dx K "__init__" "Reading.__init__" dX f9)
  (a10:findIn K (.ref c_Reading) "in_block"=some (some (.ref f10)))
  (i10:isFn K (.ref f10)=true)
  (l10:Dx K "in_block" "Reading.in_block" dW f10)
  (a11:findIn K (.ref c_Reading) "box_names"=some (some (.ref f11)))
  (i11:isFn K (.ref f11)=true)
  (l11:Dx K "box_names" "Reading.box_names" cI f11)
  (a12:findIn K (.ref c_Reading) "check_place"=some (some (.ref f12)))
  (i12:isFn K (.ref f12)=true)
  (l12:Dx K "check_place" "Reading.check_place" cX f12)
  (a13:findIn K (.ref c_Reading) "check_twice"=some (some (.ref f13)))
  (i13:isFn K (.ref f13)=true)
  (l13:Dx K "check_twice" "Reading.check_twice" cW f13)
  (a14:findIn K (.ref c_Reading) "check_room"=some (some (.ref f14)))
  (i14:isFn K (.ref f14)=true)
  (l14:Dx K "check_room" "Reading.check_room" dc f14)
  (a15:findIn K (.ref c_Reading) "check_boxes"=some (some (.ref f15)))
  (i15:isFn K (.ref f15)=true)
  (l15:Dx K "check_boxes" "Reading.check_boxes" cY f15)
  (a16:findIn K (.ref c_Reading) "put_down"=some (some (.ref f16)))
  (i16:isFn K (.ref f16)=true)
  (l16:Dx K "put_down" "Reading.put_down" dU f16)
  (a17:findIn K (.ref c_Reading) "take"=some (some (.ref f17)))
  (i17:isFn K (.ref f17)=true)
  (l17:Dx K "take" "Reading.take" gn f17)
  (a18:findIn K (.ref c_Reading) "told_program"=some (some (.ref f18)))
  (i18:isFn K (.ref f18)=true)
  (l18:Dx K "told_program" "Reading.told_program" cO f18)
  (a19:nsIn K mainGlobals "read"=some (some (.ref f19)))
  (l19:Dx K "read" "read" rk f19)
  (a20:nsIn K mainGlobals "go_rows"=some (some (.ref f20)))
  (l20:Dx K "go_rows" "go_rows" kP f20)
  (a21:nsIn K mainGlobals "if_rows"=some (some (.ref f21)))
  (l21:Dx K "if_rows" "if_rows" kO f21)
  (a22:nsIn K mainGlobals "end_rows"=some (some (.ref f22)))
  (l22:Dx K "end_rows" "end_rows" jR f22)
  (a23:nsIn K mainGlobals "led_to_rows"=some (some (.ref f23)))
  (l23:Dx K "led_to_rows" "led_to_rows" fq f23)
  (a24:nsIn K mainGlobals "laid"=some (some (.ref f24)))
  (l24:Dx K "laid" "laid" oE f24)
  (a25:nsIn K mainGlobals "lengths_of"=some (some (.ref f25)))
  (l25:Dx K "lengths_of" "lengths_of" im f25)
  (a26:nsIn K mainGlobals "begins_by"=some (some (.ref f26)))
  (l26:Dx K "begins_by" "begins_by" iX f26)
  (a27:nsIn K mainGlobals "has_to_be_long"=some (some (.ref f27)))
  (l27:Dx K "has_to_be_long" "has_to_be_long" fg f27)
  (a28:nsIn K mainGlobals "lengths_asked"=some (some (.ref f28)))
  (l28:Dx K "lengths_asked" "lengths_asked" dL f28)
  (a29:nsIn K mainGlobals "lengths"=some (some (.ref f29)))
  (l29:Dx K "lengths" "lengths" jh f29)
  (a30:nsIn K mainGlobals "right_lengths"=some (some (.ref f30)))
  (l30:Dx K "right_lengths" "right_lengths" fY f30)
  (a31:nsIn K mainGlobals "_law_cell_at"=some (some (.ref f31)))
  (l31:Dx K "_law_cell_at" "_law_cell_at" gQ f31)
  (a32:nsIn K mainGlobals "_law_numbers"=some (some (.ref f32)))
  (l32:Dx K "_law_numbers" "_law_numbers" gO f32)
  (a33:nsIn K mainGlobals "_law_names"=some (some (.ref f33)))
  (l33:Dx K "_law_names" "_law_names" iW f33)
  (a34:nsIn K mainGlobals "_law_word"=some (some (.ref f34)))
  (l34:Dx K "_law_word" "_law_word" jP f34)
  (a35:nsIn K mainGlobals "_law_statement"=some (some (.ref f35)))
  (l35:Dx K "_law_statement" "_law_statement" fZ f35)
  (a36:nsIn K mainGlobals "_law_end"=some (some (.ref f36)))
  (l36:Dx K "_law_end" "_law_end" kN f36)
  (a37:nsIn K mainGlobals "_law_text"=some (some (.ref f37)))
  (l37:Dx K "_law_text" "_law_text" jQ f37)
  (a38:nsIn K mainGlobals "_law_order"=some (some (.ref f38)))
  (l38:Dx K "_law_order" "_law_order" iV f38)
  (a39:nsIn K mainGlobals "_law_right"=some (some (.ref f39)))
  (l39:Dx K "_law_right" "_law_right" iU f39)
  (a40:nsIn K mainGlobals "_law_choices"=some (some (.ref f40)))
  (l40:Dx K "_law_choices" "_law_choices" gP f40)
  (a41:nsIn K mainGlobals "_law_least"=some (some (.ref f41)))
  (l41:Dx K "_law_least" "_law_least" fQ f41)
  (a42:nsIn K mainGlobals "law"=some (some (.ref f42)))
  (l42:Dx K "law" "law" vp f42)
  (pg_Reading:plainGet K c_Reading Str.empty=true)
  (hd_Reading:hasDictIn K c_Reading=true)
  (po_Reading:PySem.W.plainOver K c_Reading=true)
  (sa_Reading:findIn K (.ref c_Reading) "__setattr__"=some (some (.builtin "object.__setattr__")))
  (mk_Reading:PySem.W.makesIn K c_Reading=true)
  (kc_Reading:keepIn K (.ref c_Reading)=true)
  (na_Reading_block_names:findIn K (.ref c_Reading) "block_names"=some none)
  (na_Reading_boxes:findIn K (.ref c_Reading) "boxes"=some none)
  (na_Reading_ended_blocks:findIn K (.ref c_Reading) "ended_blocks"=some none)
  (na_Reading_statements:findIn K (.ref c_Reading) "statements"=some none)
  (g_CONDITION_SIGNS:nsIn K mainGlobals "CONDITION_SIGNS"=some (some (.ref c_CONDITION_SIGNS)))
  (l_CONDITION_SIGNS:K.lookup c_CONDITION_SIGNS=some ⟨.type "tuple",od_CONDITION_SIGNS,.seq #[.str "<" tt_CONDITION_SIGNS_0,.str "=" tt_CONDITION_SIGNS_1] nn_CONDITION_SIGNS,sl_CONDITION_SIGNS⟩)
  (g_JUMPS:nsIn K mainGlobals "JUMPS"=some (some (.ref c_JUMPS)))
  (l_JUMPS:K.lookup c_JUMPS=some ⟨.type "tuple",od_JUMPS,.seq #[.str "jump" tt_JUMPS_0,.str "when" tt_JUMPS_1,.str "unless" tt_JUMPS_2] nn_JUMPS,sl_JUMPS⟩)
  (g_STATEMENTS:nsIn K mainGlobals "STATEMENTS"=some (some (.ref c_STATEMENTS)))
  (l_STATEMENTS:K.lookup c_STATEMENTS=some ⟨.type "tuple",od_STATEMENTS,.seq #[.str "put" tt_STATEMENTS_0,.str "say" tt_STATEMENTS_1,.str "ask" tt_STATEMENTS_2] nn_STATEMENTS,sl_STATEMENTS⟩)
  (h_LONG:nsIn K mainGlobals "LONG"=some (some (.int 3 t_LONG)))
  (h_MOST_BLOCKS:nsIn K mainGlobals "MOST_BLOCKS"=some (some (.int 10 t_MOST_BLOCKS)))
  (h_MOST_BOXES:nsIn K mainGlobals "MOST_BOXES"=some (some (.int 4 t_MOST_BOXES)))
  (h_MOST_IN_TABLE:nsIn K mainGlobals "MOST_IN_TABLE"=some (some (.int 6 t_MOST_IN_TABLE)))
  (h_MOST_ROWS:nsIn K mainGlobals "MOST_ROWS"=some (some (.int 120 t_MOST_ROWS)))
  (h_MOST_STATEMENTS:nsIn K mainGlobals "MOST_STATEMENTS"=some (some (.int 8 t_MOST_STATEMENTS)))
  (h_SHORT:nsIn K mainGlobals "SHORT"=some (some (.int 1 t_SHORT)))
  (aS:nsIn K mainGlobals "Signs"=some (some (.ref CS)))
  (aN:nsIn K mainGlobals "NoRow"=some (some (.ref CN)))
  (xN:PySem.W.excIn K CN bmVal "ValueError.__new__"=true)
  (aL:nsIn K mainGlobals "LETTERS"=some (some (.str "abcdefghijklmnopqrstuvwxyz" twl)))
  (aF:nsIn K mainGlobals "FIGURES"=some (some (.str "0123456789" twf)))
  (aW:nsIn K mainGlobals "TAKEN_WORDS"=some (some (.ref aT)))
  (lW:K.lookup aT=some ⟨.type "tuple",odT,.seq #[.str "box" tw0,.str "block" tw1,.str "put" tw2,.str "say" tw3,.str "ask" tw4,.str "go" tw5,.str "if" tw6,.str "else" tw7,.str "table" tw8,.str "stop" tw9] nT,slT⟩)
  (n0:nsIn K mainGlobals "LONGEST_NAME"=some (some (.int 8 twc0)))
  (n1:nsIn K mainGlobals "LONGEST_NUMBER"=some (some (.int 3 twc1)))
  (n2:nsIn K mainGlobals "LONGEST_EXPRESSION"=some (some (.int 60 twc2)))
  (n3:nsIn K mainGlobals "DEEPEST_BRACKET"=some (some (.int 5 twc3)))
  (wa1:findIn K (.ref CS) "__init__"=some (some (.ref fw1)))
  (wi1:isFn K (.ref fw1)=true)
  (wl1:Dx K "__init__" "Signs.__init__" rp fw1)
  (wa2:findIn K (.ref CS) "is_done"=some (some (.ref fw2)))
  (wi2:isFn K (.ref fw2)=true)
  (wl2:Dx K "is_done" "Signs.is_done" rA fw2)
  (wa3:findIn K (.ref CS) "stands_one_of"=some (some (.ref fw3)))
  (wi3:isFn K (.ref fw3)=true)
  (wl3:Dx K "stands_one_of" "Signs.stands_one_of" mh fw3)
  (wa4:findIn K (.ref CS) "take_sign"=some (some (.ref fw4)))
  (wi4:isFn K (.ref fw4)=true)
  (wl4:Dx K "take_sign" "Signs.take_sign" rn fw4)
  (wa5:findIn K (.ref CS) "run_of"=some (some (.ref fw5)))
  (wi5:isFn K (.ref fw5)=true)
  (wl5:Dx K "run_of" "Signs.run_of" sSRun fw5)
  (wa6:nsIn K mainGlobals "is_name"=some (some (.ref fw6)))
  (wl6:Dx K "is_name" "is_name" lI fw6)
  (wa7:nsIn K mainGlobals "is_number"=some (some (.ref fw7)))
  (wl7:Dx K "is_number" "is_number" oG fw7)
  (wa8:nsIn K mainGlobals "expression"=some (some (.ref fw8)))
  (wl8:Dx K "expression" "expression" sExpr fw8)
  (wa9:nsIn K mainGlobals "read_terms"=some (some (.ref fw9)))
  (wl9:Dx K "read_terms" "read_terms" oF fw9)
  (wa10:nsIn K mainGlobals "read_factors"=some (some (.ref fw10)))
  (wl10:Dx K "read_factors" "read_factors" j2 fw10)
  (wa11:nsIn K mainGlobals "read_factor"=some (some (.ref fw11)))
  (wl11:Dx K "read_factor" "read_factor" lJ fw11)
  (wa12:nsIn K mainGlobals "read_bracket"=some (some (.ref fw12)))
  (wl12:Dx K "read_bracket" "read_bracket" iY fw12)
  (wpg:plainGet K CS Str.empty=true)
  (whd:hasDictIn K CS=true)
  (wpo:PySem.W.plainOver K CS=true)
  (wsa:findIn K (.ref CS) "__setattr__"=some (some (.builtin "object.__setattr__")))
  (wmk:PySem.W.makesIn K CS=true)
  (wkc:keepIn K (.ref CS)=true)
  (nW:findIn K (.ref CS) "word"=some none)
  (nP:findIn K (.ref CS) "place"=some none)
  (z_abs:nsIn K mainGlobals "abs"=some none)
  (z_all:nsIn K mainGlobals "all"=some none)
  (z_enumerate:nsIn K mainGlobals "enumerate"=some none)
  (z_int:nsIn K mainGlobals "int"=some none)
  (z_isinstance:nsIn K mainGlobals "isinstance"=some none)
  (z_len:nsIn K mainGlobals "len"=some none)
  (z_list:nsIn K mainGlobals "list"=some none)
  (z_min:nsIn K mainGlobals "min"=some none)
  (z_range:nsIn K mainGlobals "range"=some none)
  (z_str:nsIn K mainGlobals "str"=some none)
  (z_tuple:nsIn K mainGlobals "tuple"=some none)
  (z_zip:nsIn K mainGlobals "zip"=some none):
  ∃fd:FuncData,(∀ (s:Shared) (v:Value),BindsTo s fd ⟨[v],[]⟩ [("script",v)])/\ ∀base:Heap,K.In base->base.Ns mainGlobals mg->FnOk l.prog w K mg base CX0 68 fa fd ["script"] (spLaw K):=by
 have e:=hfa.symm.trans (mg_of X G a42)
 cases e
 have y_abs:=mg_none_of X G z_abs
 have y_all:=mg_none_of X G z_all
 have y_enumerate:=mg_none_of X G z_enumerate
 have y_int:=mg_none_of X G z_int
 have y_isinstance:=mg_none_of X G z_isinstance
 have y_len:=mg_none_of X G z_len
 have y_list:=mg_none_of X G z_list
 have y_min:=mg_none_of X G z_min
 have y_range:=mg_none_of X G z_range
 have y_str:=mg_none_of X G z_str
 have y_tuple:=mg_none_of X G z_tuple
 have y_zip:=mg_none_of X G z_zip
 have cl_Reading:Cls K c_Reading:=⟨pg_Reading,hd_Reading,po_Reading,sa_Reading⟩
 have m_Reading:=mg_of X G n_Reading
 have m_CONDITION_SIGNS:=mg_of X G g_CONDITION_SIGNS
 have q_CONDITION_SIGNS: ∀H,SqT K H c_CONDITION_SIGNS ((["<", "="]:List Str).map V.str):=fun H=>.inr ⟨_,_,_,l_CONDITION_SIGNS,rfl,rfl,by show 2<=sizeLine;decide,.cons ⟨_,rfl⟩ (.cons ⟨_,rfl⟩ (.nil))⟩
 have m_JUMPS:=mg_of X G g_JUMPS
 have q_JUMPS: ∀H,SqT K H c_JUMPS ((["jump", "when", "unless"]:List Str).map V.str):=fun H=>.inr ⟨_,_,_,l_JUMPS,rfl,rfl,by show 3<=sizeLine;decide,.cons ⟨_,rfl⟩ (.cons ⟨_,rfl⟩ (.cons ⟨_,rfl⟩ (.nil)))⟩
 have m_STATEMENTS:=mg_of X G g_STATEMENTS
 have q_STATEMENTS: ∀H,SqT K H c_STATEMENTS ((["put", "say", "ask"]:List Str).map V.str):=fun H=>.inr ⟨_,_,_,l_STATEMENTS,rfl,rfl,by show 3<=sizeLine;decide,.cons ⟨_,rfl⟩ (.cons ⟨_,rfl⟩ (.cons ⟨_,rfl⟩ (.nil)))⟩
 have c_LONG:=mg_of X G h_LONG
 have c_MOST_BLOCKS:=mg_of X G h_MOST_BLOCKS
 have c_MOST_BOXES:=mg_of X G h_MOST_BOXES
 have c_MOST_IN_TABLE:=mg_of X G h_MOST_IN_TABLE
 have c_MOST_ROWS:=mg_of X G h_MOST_ROWS
 have c_MOST_STATEMENTS:=mg_of X G h_MOST_STATEMENTS
 have c_SHORT:=mg_of X G h_SHORT
 obtain⟨d1,F1⟩:=l1
 have b1:=F1.binds (ps:=["e"]) fun _ _ _ _ _ _ us hl=>by obtain⟨_,rfl⟩:=ln1 hl;rfl
 have m1:=mg_of X G a1
 obtain⟨d2,F2⟩:=l2
 have b2:=F2.binds (ps:=["word"]) fun _ _ _ _ _ _ us hl=>by obtain⟨_,rfl⟩:=ln1 hl;rfl
 have m2:=mg_of X G a2
 obtain⟨d3,F3⟩:=l3
 have b3:=F3.binds (ps:=["word"]) fun _ _ _ _ _ _ us hl=>by obtain⟨_,rfl⟩:=ln1 hl;rfl
 have m3:=mg_of X G a3
 obtain⟨d4,F4⟩:=l4
 have b4:=F4.binds (ps:=["words"]) fun _ _ _ _ _ _ us hl=>by obtain⟨_,rfl⟩:=ln1 hl;rfl
 have m4:=mg_of X G a4
 obtain⟨d5,F5⟩:=l5
 have b5:=F5.binds (ps:=["row"]) fun _ _ _ _ _ _ us hl=>by obtain⟨_,rfl⟩:=ln1 hl;rfl
 have m5:=mg_of X G a5
 obtain⟨d6,F6⟩:=l6
 have b6:=F6.binds (ps:=["form"]) fun _ _ _ _ _ _ us hl=>by obtain⟨_,rfl⟩:=ln1 hl;rfl
 have m6:=mg_of X G a6
 obtain⟨d7,F7⟩:=l7
 have b7:=F7.binds (ps:=["name", "block_names"]) fun _ _ _ _ _ _ us hl=>by obtain⟨_,_,rfl⟩:=ln2 hl;rfl
 have m7:=mg_of X G a7
 obtain⟨d8,F8⟩:=l8
 have b8:=F8.binds (ps:=["end", "block_names"]) fun _ _ _ _ _ _ us hl=>by obtain⟨_,_,rfl⟩:=ln2 hl;rfl
 have m8:=mg_of X G a8
 obtain⟨d9,F9⟩:=l9
 have b9:=F9.binds (ps:=["self"]) fun _ _ _ _ _ _ us hl=>by obtain⟨_,rfl⟩:=ln1 hl;rfl
 obtain⟨d10,F10⟩:=l10
 have b10:=F10.binds (ps:=["self"]) fun _ _ _ _ _ _ us hl=>by obtain⟨_,rfl⟩:=ln1 hl;rfl
 obtain⟨d11,F11⟩:=l11
 have b11:=F11.binds (ps:=["self"]) fun _ _ _ _ _ _ us hl=>by obtain⟨_,rfl⟩:=ln1 hl;rfl
 obtain⟨d12,F12⟩:=l12
 have b12:=F12.binds (ps:=["self", "head"]) fun _ _ _ _ _ _ us hl=>by obtain⟨_,_,rfl⟩:=ln2 hl;rfl
 obtain⟨d13,F13⟩:=l13
 have b13:=F13.binds (ps:=["self", "form"]) fun _ _ _ _ _ _ us hl=>by obtain⟨_,_,rfl⟩:=ln2 hl;rfl
 obtain⟨d14,F14⟩:=l14
 have b14:=F14.binds (ps:=["self", "head"]) fun _ _ _ _ _ _ us hl=>by obtain⟨_,_,rfl⟩:=ln2 hl;rfl
 obtain⟨d15,F15⟩:=l15
 have b15:=F15.binds (ps:=["self", "form"]) fun _ _ _ _ _ _ us hl=>by obtain⟨_,_,rfl⟩:=ln2 hl;rfl
 obtain⟨d16,F16⟩:=l16
 have b16:=F16.binds (ps:=["self", "form"]) fun _ _ _ _ _ _ us hl=>by obtain⟨_,_,rfl⟩:=ln2 hl;rfl
 obtain⟨d17,F17⟩:=l17
 have b17:=F17.binds (ps:=["self", "form"]) fun _ _ _ _ _ _ us hl=>by obtain⟨_,_,rfl⟩:=ln2 hl;rfl
 obtain⟨d18,F18⟩:=l18
 have b18:=F18.binds (ps:=["self"]) fun _ _ _ _ _ _ us hl=>by obtain⟨_,rfl⟩:=ln1 hl;rfl
 obtain⟨d19,F19⟩:=l19
 have b19:=F19.binds (ps:=["text"]) fun _ _ _ _ _ _ us hl=>by obtain⟨_,rfl⟩:=ln1 hl;rfl
 have m19:=mg_of X G a19
 obtain⟨d20,F20⟩:=l20
 have b20:=F20.binds (ps:=["to", "behind"]) fun _ _ _ _ _ _ us hl=>by obtain⟨_,_,rfl⟩:=ln2 hl;rfl
 have m20:=mg_of X G a20
 obtain⟨d21,F21⟩:=l21
 have b21:=F21.binds (ps:=["end", "behind"]) fun _ _ _ _ _ _ us hl=>by obtain⟨_,_,rfl⟩:=ln2 hl;rfl
 have m21:=mg_of X G a21
 obtain⟨d22,F22⟩:=l22
 have b22:=F22.binds (ps:=["end", "behind"]) fun _ _ _ _ _ _ us hl=>by obtain⟨_,_,rfl⟩:=ln2 hl;rfl
 have m22:=mg_of X G a22
 obtain⟨d23,F23⟩:=l23
 have b23:=F23.binds (ps:=["row", "begins"]) fun _ _ _ _ _ _ us hl=>by obtain⟨_,_,rfl⟩:=ln2 hl;rfl
 have m23:=mg_of X G a23
 obtain⟨d24,F24⟩:=l24
 have b24:=F24.binds (ps:=["program", "order"]) fun _ _ _ _ _ _ us hl=>by obtain⟨_,_,rfl⟩:=ln2 hl;rfl
 have m24:=mg_of X G a24
 obtain⟨d25,F25⟩:=l25
 have b25:=F25.binds (ps:=["row"]) fun _ _ _ _ _ _ us hl=>by obtain⟨_,rfl⟩:=ln1 hl;rfl
 have m25:=mg_of X G a25
 obtain⟨d26,F26⟩:=l26
 have b26:=F26.binds (ps:=["told"]) fun _ _ _ _ _ _ us hl=>by obtain⟨_,rfl⟩:=ln1 hl;rfl
 have m26:=mg_of X G a26
 obtain⟨d27,F27⟩:=l27
 have b27:=F27.binds (ps:=["place", "row", "reach", "begins"]) fun _ _ _ _ _ _ us hl=>by obtain⟨_,_,_,_,rfl⟩:=ln4 hl;rfl
 have m27:=mg_of X G a27
 obtain⟨d28,F28⟩:=l28
 have b28:=F28.binds (ps:=["rows", "reach", "told"]) fun _ _ _ _ _ _ us hl=>by obtain⟨_,_,_,rfl⟩:=ln3 hl;rfl
 have m28:=mg_of X G a28
 obtain⟨d29,F29⟩:=l29
 have b29:=F29.binds (ps:=["rows", "reach"]) fun _ _ _ _ _ _ us hl=>by obtain⟨_,_,rfl⟩:=ln2 hl;rfl
 have m29:=mg_of X G a29
 obtain⟨d30,F30⟩:=l30
 have b30:=F30.binds (ps:=["rows", "reach", "told"]) fun _ _ _ _ _ _ us hl=>by obtain⟨_,_,_,rfl⟩:=ln3 hl;rfl
 have m30:=mg_of X G a30
 obtain⟨d31,F31⟩:=l31
 have b31:=F31.binds (ps:=["script", "k"]) fun _ _ _ _ _ _ us hl=>by obtain⟨_,_,rfl⟩:=ln2 hl;rfl
 have m31:=mg_of X G a31
 obtain⟨d32,F32⟩:=l32
 have b32:=F32.binds (ps:=["cell", "many"]) fun _ _ _ _ _ _ us hl=>by obtain⟨_,_,rfl⟩:=ln2 hl;rfl
 have m32:=mg_of X G a32
 obtain⟨d33,F33⟩:=l33
 have b33:=F33.binds (ps:=["head"]) fun _ _ _ _ _ _ us hl=>by obtain⟨_,rfl⟩:=ln1 hl;rfl
 have m33:=mg_of X G a33
 obtain⟨d34,F34⟩:=l34
 have b34:=F34.binds (ps:=["numbers"]) fun _ _ _ _ _ _ us hl=>by obtain⟨_,rfl⟩:=ln1 hl;rfl
 have m34:=mg_of X G a34
 obtain⟨d35,F35⟩:=l35
 have b35:=F35.binds (ps:=["numbers"]) fun _ _ _ _ _ _ us hl=>by obtain⟨_,rfl⟩:=ln1 hl;rfl
 have m35:=mg_of X G a35
 obtain⟨d36,F36⟩:=l36
 have b36:=F36.binds (ps:=["numbers", "names"]) fun _ _ _ _ _ _ us hl=>by obtain⟨_,_,rfl⟩:=ln2 hl;rfl
 have m36:=mg_of X G a36
 obtain⟨d37,F37⟩:=l37
 have b37:=F37.binds (ps:=["script", "most"]) fun _ _ _ _ _ _ us hl=>by obtain⟨_,_,rfl⟩:=ln2 hl;rfl
 have m37:=mg_of X G a37
 obtain⟨d38,F38⟩:=l38
 have b38:=F38.binds (ps:=["numbers", "many"]) fun _ _ _ _ _ _ us hl=>by obtain⟨_,_,rfl⟩:=ln2 hl;rfl
 have m38:=mg_of X G a38
 obtain⟨d39,F39⟩:=l39
 have b39:=F39.binds (ps:=["rows", "reach", "told"]) fun _ _ _ _ _ _ us hl=>by obtain⟨_,_,_,rfl⟩:=ln3 hl;rfl
 have m39:=mg_of X G a39
 obtain⟨d40,F40⟩:=l40
 have b40:=F40.binds (ps:=["rows"]) fun _ _ _ _ _ _ us hl=>by obtain⟨_,rfl⟩:=ln1 hl;rfl
 have m40:=mg_of X G a40
 obtain⟨d41,F41⟩:=l41
 have b41:=F41.binds (ps:=["rows", "reach", "told"]) fun _ _ _ _ _ _ us hl=>by obtain⟨_,_,_,rfl⟩:=ln3 hl;rfl
 have m41:=mg_of X G a41
 obtain⟨d42,F42⟩:=l42
 have b42:=F42.binds (ps:=["script"]) fun _ _ _ _ _ _ us hl=>by obtain⟨_,rfl⟩:=ln1 hl;rfl
 have m42:=mg_of X G a42
 have T:Txt K mg CS CN:=⟨⟨wpg,whd,wpo,wsa⟩,nW,nP,mg_of X G aS,mg_of X G aN,xN,y_len,y_all,y_int,⟨_,mg_of X G aL⟩,⟨_,mg_of X G aF⟩,⟨aT,mg_of X G aW,fun H=>.inr ⟨_,_,_,lW,rfl,rfl,by show 10<=sizeLine;decide,.cons ⟨_,rfl⟩ (.cons ⟨_,rfl⟩ (.cons ⟨_,rfl⟩ (.cons ⟨_,rfl⟩ (.cons ⟨_,rfl⟩ (.cons ⟨_,rfl⟩ (.cons ⟨_,rfl⟩ (.cons ⟨_,rfl⟩ (.cons ⟨_,rfl⟩ (.cons ⟨_,rfl⟩ (.nil))))))))))⟩⟩,⟨_,mg_of X G n0⟩,⟨_,mg_of X G n1⟩,⟨_,mg_of X G n2⟩,⟨_,mg_of X G n3⟩⟩
 obtain⟨_,F_Sinit⟩:=wl1
 have B_Sinit:=F_Sinit.binds (ps:=["self", "word"]) fun _ _ _ _ _ _ us hl=>by obtain⟨_,_,rfl⟩:=ln2 hl;rfl
 obtain⟨_,F_Sis_done⟩:=wl2
 have B_Sis_done:=F_Sis_done.binds (ps:=["self"]) fun _ _ _ _ _ _ us hl=>by obtain⟨_,rfl⟩:=ln1 hl;rfl
 obtain⟨_,F_Sstands_one_of⟩:=wl3
 have B_Sstands_one_of:=F_Sstands_one_of.binds (ps:=["self", "wanted"]) fun _ _ _ _ _ _ us hl=>by obtain⟨_,_,rfl⟩:=ln2 hl;rfl
 obtain⟨_,F_Stake_sign⟩:=wl4
 have B_Stake_sign:=F_Stake_sign.binds (ps:=["self"]) fun _ _ _ _ _ _ us hl=>by obtain⟨_,rfl⟩:=ln1 hl;rfl
 obtain⟨_,F_Srun_of⟩:=wl5
 have B_Srun_of:=F_Srun_of.binds (ps:=["self", "wanted"]) fun _ _ _ _ _ _ us hl=>by obtain⟨_,_,rfl⟩:=ln2 hl;rfl
 obtain⟨_,F_is_name⟩:=wl6
 have B_is_name:=F_is_name.binds (ps:=["word"]) fun _ _ _ _ _ _ us hl=>by obtain⟨_,rfl⟩:=ln1 hl;rfl
 have M_is_name:=mg_of X G wa6
 obtain⟨_,F_is_number⟩:=wl7
 have B_is_number:=F_is_number.binds (ps:=["word"]) fun _ _ _ _ _ _ us hl=>by obtain⟨_,rfl⟩:=ln1 hl;rfl
 have M_is_number:=mg_of X G wa7
 obtain⟨_,F_expression⟩:=wl8
 have B_expression:=F_expression.binds (ps:=["word"]) fun _ _ _ _ _ _ us hl=>by obtain⟨_,rfl⟩:=ln1 hl;rfl
 have M_expression:=mg_of X G wa8
 obtain⟨_,F_read_terms⟩:=wl9
 have B_read_terms:=F_read_terms.binds (ps:=["signs", "depth"]) fun _ _ _ _ _ _ us hl=>by obtain⟨_,_,rfl⟩:=ln2 hl;rfl
 have M_read_terms:=mg_of X G wa9
 obtain⟨_,F_read_factors⟩:=wl10
 have B_read_factors:=F_read_factors.binds (ps:=["signs", "depth"]) fun _ _ _ _ _ _ us hl=>by obtain⟨_,_,rfl⟩:=ln2 hl;rfl
 have M_read_factors:=mg_of X G wa10
 obtain⟨_,F_read_factor⟩:=wl11
 have B_read_factor:=F_read_factor.binds (ps:=["signs", "depth"]) fun _ _ _ _ _ _ us hl=>by obtain⟨_,_,rfl⟩:=ln2 hl;rfl
 have M_read_factor:=mg_of X G wa11
 obtain⟨_,F_read_bracket⟩:=wl12
 have B_read_bracket:=F_read_bracket.binds (ps:=["signs", "depth"]) fun _ _ _ _ _ _ us hl=>by obtain⟨_,_,rfl⟩:=ln2 hl;rfl
 have M_read_bracket:=mg_of X G wa12
 obtain⟨oc,od,kV,doc,pm,an,cdv,ct,osl,ed,lk,hcd⟩:=F42.ex
 refine⟨d42,fun s v=>by rw[ed];exact .of_eq rfl,fun base _ _=>?_⟩
 have MD:CM l.prog w K mg base CX0 1 CS "is_done" _ _ ["self"] (oz CS):=⟨yb F_Sis_done T,B_Sis_done,⟨wa2,wi2,F_Sis_done.kp⟩⟩
 have MS:CM l.prog w K mg base CX0 2 CS "stands_one_of" _ _ ["self", "wanted"] (fL CS):=⟨ul F_Sstands_one_of T MD,B_Sstands_one_of,⟨wa3,wi3,F_Sstands_one_of.kp⟩⟩
 have MT:CM l.prog w K mg base CX0 1 CS "take_sign" _ _ ["self"] (kJ CS):=⟨xV F_Stake_sign T,B_Stake_sign,⟨wa4,wi4,F_Stake_sign.kp⟩⟩
 have MR:CM l.prog w K mg base CX0 3 CS "run_of" _ _ ["self", "wanted"] (spRun CS):=⟨Ab F_Srun_of T MS,B_Srun_of,⟨wa5,wi5,F_Srun_of.kp⟩⟩
 have CNm:CF l.prog w K mg base CX0 1 "is_name" _ _ ["word"] lX:=⟨xX F_is_name T,B_is_name,F_is_name.kp,M_is_name⟩
 have CNu:CF l.prog w K mg base CX0 1 "is_number" _ _ ["word"] spNum:=⟨Ac F_is_number T,B_is_number,F_is_number.kp,M_is_number⟩
 have RT:=sG T F_read_terms B_read_terms M_read_terms F_read_factors B_read_factors M_read_factors F_read_factor B_read_factor M_read_factor F_read_bracket B_read_bracket M_read_bracket MS MT MR CNm CNu 5 (by decide)
 have CE:CF l.prog w K mg base (CXx l.prog w) 28 "expression" _ _ ["word"] (rg CN):=⟨ya (by decide) F_expression T RT ⟨wmk,wa1,wi1,wkc⟩ (vX F_Sinit T) B_Sinit MD,B_expression,F_expression.kp,M_expression⟩
 have C_is_name:=uQ CNm
 have C_is_number:=xb CNu
 have C0_expression:=yM CE
 have M_Reading:Mk K c_Reading f9:=⟨mk_Reading,a9,i9,kc_Reading⟩
 have C_names_in:=lx (P:=l.prog) (w:=w) (mg:=mg) (base:=base) F1 b1 m1 62
 have C_name_of:=rG C_is_name F2 b2 m2
 have C_number_of:=oT y_int C_is_number F3 b3 m3
 have C_condition_of:=lE m_CONDITION_SIGNS q_CONDITION_SIGNS C0_expression C_name_of F4 b4 m4
 have C_form_of:=rM y_len y_tuple c_MOST_IN_TABLE C0_expression C_number_of C_name_of C_condition_of F5 b5 m5
 have C_boxes_named:=mJ C_names_in F6 b6 m6
 have C_place_of:=qi (P:=l.prog) (w:=w) (mg:=mg) (base:=base) F7 b7 m7
 have C_end_by_places:=kX y_tuple C_place_of F8 b8 m8
 have C_Reading___init__:=jJ (P:=l.prog) (w:=w) (mg:=mg) (base:=base) n_Reading cl_Reading na_Reading_block_names na_Reading_boxes na_Reading_ended_blocks na_Reading_statements F9 b9 ⟨a9,i9,F9.kp⟩
 have C_Reading_in_block:=jI (P:=l.prog) (w:=w) (mg:=mg) (base:=base) y_len n_Reading cl_Reading na_Reading_block_names na_Reading_ended_blocks F10 b10 ⟨a10,i10,F10.kp⟩
 have C_Reading_box_names:=i6 (P:=l.prog) (w:=w) (mg:=mg) (base:=base) n_Reading cl_Reading na_Reading_boxes F11 b11 ⟨a11,i11,F11.kp⟩
 have C_Reading_check_place:=iu y_len n_Reading cl_Reading na_Reading_block_names C_Reading_in_block F12 b12 ⟨a12,i12,F12.kp⟩
 have C_Reading_check_twice:=ir n_Reading cl_Reading na_Reading_block_names C_Reading_box_names F13 b13 ⟨a13,i13,F13.kp⟩
 have C_Reading_check_room:=iQ (P:=l.prog) (w:=w) (mg:=mg) (base:=base) y_len c_MOST_BLOCKS c_MOST_BOXES c_MOST_STATEMENTS m_STATEMENTS q_STATEMENTS n_Reading cl_Reading na_Reading_block_names na_Reading_boxes na_Reading_statements F14 b14 ⟨a14,i14,F14.kp⟩
 have C_Reading_check_boxes:=iw n_Reading cl_Reading C_Reading_box_names C_boxes_named F15 b15 ⟨a15,i15,F15.kp⟩
 have C_Reading_put_down:=jH (P:=l.prog) (w:=w) (mg:=mg) (base:=base) m_STATEMENTS q_STATEMENTS n_Reading cl_Reading na_Reading_block_names na_Reading_boxes na_Reading_ended_blocks na_Reading_statements F16 b16 ⟨a16,i16,F16.kp⟩
 have C_Reading_take:=lF n_Reading cl_Reading C_Reading_check_place C_Reading_check_twice C_Reading_check_room C_Reading_check_boxes C_Reading_put_down F17 b17 ⟨a17,i17,F17.kp⟩
 have C_Reading_told_program:=gZ y_len n_Reading cl_Reading na_Reading_block_names na_Reading_boxes na_Reading_ended_blocks C_Reading_in_block C_end_by_places F18 b18 ⟨a18,i18,F18.kp⟩
 have C_read:=xW y_len c_MOST_ROWS n_Reading cl_Reading m_Reading M_Reading C_Reading___init__ C_Reading_take C_form_of C_Reading_told_program F19 b19 m19
 have C_go_rows:=rL (P:=l.prog) (w:=w) (mg:=mg) (base:=base) F20 b20 m20
 have C_if_rows:=rK C_go_rows F21 b21 m21
 have C_end_rows:=ql C_go_rows C_if_rows F22 b22 m22
 have C_led_to_rows:=mD (P:=l.prog) (w:=w) (mg:=mg) (base:=base) y_tuple m_JUMPS q_JUMPS F23 b23 m23
 have C_laid:=xZ y_len y_zip C_end_rows C_led_to_rows F24 b24 m24
 have C_lengths_of:=nA (P:=l.prog) (w:=w) (mg:=mg) (base:=base) c_LONG c_SHORT m_JUMPS q_JUMPS F25 b25 m25
 have C_begins_by:=oZ (P:=l.prog) (w:=w) (mg:=mg) (base:=base) F26 b26 m26
 have C_has_to_be_long:=ke (P:=l.prog) (w:=w) (mg:=mg) (base:=base) y_abs y_len y_min m_JUMPS q_JUMPS F27 b27 m27
 have C_lengths_asked:=kU y_enumerate c_LONG c_SHORT C_begins_by C_has_to_be_long F28 b28 m28
 have C_lengths:=rH c_SHORT C_lengths_asked F29 b29 m29
 have C_right_lengths:=kT y_enumerate y_len c_SHORT C_begins_by C_lengths_of C_has_to_be_long F30 b30 m30
 have C_law_cell_at:=mH (P:=l.prog) (w:=w) (mg:=mg) (base:=base) y_len F31 b31 m31
 have C_law_numbers:=mE (P:=l.prog) (w:=w) (mg:=mg) (base:=base) y_abs y_range F32 b32 m32
 have C_law_names:=oW (P:=l.prog) (w:=w) (mg:=mg) (base:=base) F33 b33 m33
 have C_law_word:=qj (P:=l.prog) (w:=w) (mg:=mg) (base:=base) y_str F34 b34 m34
 have C_law_statement:=kW C_law_word F35 b35 m35
 have C_law_end:=rJ y_len C_law_word F36 b36 m36
 have C_law_text:=qk y_len y_range y_str C_law_numbers C_law_cell_at C_law_names C_law_statement C_law_end F37 b37 m37
 have C_law_order:=oV (P:=l.prog) (w:=w) (mg:=mg) (base:=base) y_len y_range F38 b38 m38
 have C_law_right:=oU (P:=l.prog) (w:=w) (mg:=mg) (base:=base) y_abs y_len y_range F39 b39 m39
 have C_law_choices:=mG (P:=l.prog) (w:=w) (mg:=mg) (base:=base) F40 b40 m40
 have C_law_least:=oX y_len y_range C_law_choices C_law_right C_right_lengths F41 b41 m41
 have C_law:=Ae y_isinstance y_len y_list y_range C_read C_law_text C_law_numbers C_law_cell_at C_laid C_law_order C_lengths C_law_right C_right_lengths C_law_least F42 b42 m42
 exact law_ok C_law
theorem walk {l:PySem.W.OpenLaw}{q:Program}{loose:List Str}{XP:(Str->Option Value)->Heap->Prop}{YP:World->Heap->Prop}{d:DefRec}{K:Params->PySem.W.Frag}(hn:l.most=some 63)(hdf:d.params.defaults=[])
  (hY: ∀ (w:World) (h:Heap),YP w h->(K w.params).In h)
  (F:∀ (w:World) (mg:Str->Option Value) (fa:Addr) (h:Heap),(K w.params).In h->h.Ns mainGlobals mg->mg d.name=some (.ref fa)->
    ∃fd:FuncData,(∀ (s:Shared) (u:Value),BindsTo s fd ⟨[u],[]⟩ [("script",u)])/\ ∀base:Heap,(K w.params).In base->base.Ns mainGlobals mg->FnOk l.prog w (K w.params) mg base CX0 68 fa fd ["script"] (spLaw (K w.params))):
  PySem.W.WalkO q loose XP YP l.row.toRowW d [] (fun f vs=>PySem.call f vs):=
 L2.walk_of (n:=63) (k:=68) (x:= "script") (CX:=fun _=>CX0) (sp:=fun w=>spLaw (K w.params)) hn (by decide) hdf ⟨rfl,by decide,by decide⟩ hY F (fun _ _ a ns hl _ hS=>⟨a,ns,rfl,hS,hl,fun _=>rfl⟩) fun _ _ _ _ _ z=>z
theorem walk_x {q:Program}{loose:List Str}{XP:(Str->Option Value)->Heap->Prop}{K:Params->PySem.W.Frag}{as:List Addr}{n t:Nat}{r:PySem.W.RowW}{d:DefRec}{kwd:List (Str×Expr)}{run:Value->List Value->Sem Value}(e:∀P,as=(K P).map (·.1))
  (W:PySem.W.WalkO q loose XP (fun w h=>(K w.params).In h) r d kwd run):PySem.W.WalkX q loose XP (PySem.W.X.obsZ as) (PySem.W.X.valZ K n t) r d kwd run:=
 fun w s₀ s₁ mg mb G y a o pm cd doc dV kV ho hd hcd hD hmg hg args vals bs L hpre hlay hrd hwl hlo=>
  W w s₀ s₁ mg mb G (PySem.W.InK.keeps w _ _ (PySem.W.X.z_facts e y).2.1 L.keeps) a o pm cd doc dV kV ho hd hcd hD hmg hg args vals bs hpre hlay hrd hwl hlo
end Q
def PySem.W.Fast.tw6631307849783847761:=0
def PySem.W.Fast.tw1687883049049980489:=0
def PySem.W.Fast.tw17429931143358752255:=0
def PySem.W.Fast.tw1896552984863582454:=0
def PySem.W.Fast.tw17739370880724966822:=0
def PySem.W.Fast.tw7244366732984582164:=0
def PySem.W.Fast.tw12595519141113564830:=0
def PySem.W.Fast.tw11734292358215822146:=0
def PySem.W.Fast.tw9423180222512540281:=0
def PySem.W.Fast.tw95117045351908238:=0
def PySem.W.Fast.tw14730274443430488258:=0
def PySem.W.Fast.tw1372144353378825210:=0
def PySem.W.Fast.tw558891633696896885:=0
def PySem.W.Fast.tw13891388637366344526:=0
def PySem.W.Fast.tw8983961465463926949:=0
def PySem.W.Fast.tw6656140688392114872:=0
def PySem.W.Fast.tw14002797489676838333:=0
def PySem.W.Fast.tw4392550619984799686:=0
def PySem.W.Fast.tw860273155862085678:=0
def PySem.W.Fast.tw9319304450608844653:=0
def PySem.W.Fast.tw16735508339366668561:=0
def PySem.W.Fast.tw6502685173157624526:=0
def PySem.W.Fast.tw16776703587565984744:=0
def PySem.W.Fast.tw10433534777232064610:=0
def PySem.W.Fast.tw13979234730287278122:=0
def PySem.W.Fast.tw13602354383845777519:=0
def PySem.W.Fast.tw10079803609985521636:=0
def PySem.W.Fast.tw5759481336592190526:=0
def PySem.W.Fast.tw7637981192745017404:=0
def PySem.W.Fast.tw9404511859402832719:=0
def PySem.W.Fast.tw11465646870590109716:=0
def PySem.W.Fast.tw9349040361679215559:=0
def PySem.W.Fast.tw16934422897004098491:=0
def PySem.W.Fast.tw5890816519820650272:=0
def PySem.W.Fast.tw5697125232966750973:=0
def PySem.W.Fast.tw4251738876337571074:=0
def PySem.W.Fast.tw6389788600919279449:=0
def PySem.W.Fast.tw17649799976659463212:=0
def PySem.W.Fast.tw6860412109917265508:=0
def PySem.W.Fast.tw12230602753064441569:=0
open PySem PySem.W PyProof.Rows
set_option maxRecDepth 100000 in
set_option maxHeartbeats 0 in
theorem PySem.Challenge.cw_blockfall_k48_whole_lengths_are_least_holds : PySem.Challenge.rw_blockfall_k48_whole_lengths_are_least.Holds := by
 w_on;o_law;z_head;(case hw=>w_witness2)
 k_fill
 refine Q.walk_x (fun _=>by kernel_rfl) (Q.walk (l:=PySem.Challenge.rw_blockfall_k48_whole_lengths_are_least) rfl rfl (fun w h Y=>Y) ?F)
 case F=>
  intro w mg fa h KX G hmg
  apply Q.all_mk KX G hmg
  all_goals try first|(apply Q.dx<;>k_is)|k_is|k_exc|rfl|kernel_rfl|decide+kernel
#print axioms PySem.Challenge.cw_blockfall_k48_whole_lengths_are_least_holds
