import PyProof.Rows.All
import Wide.All
import OpenK.AllK
import Wide.FinOn
import Lean
import PyProof.EqAt
import PyProof.EqKinds
import PyProof.TupleCall
import PyProof.ZipIter
import PySem.Challenge.RW_blockfall_k09_faults_together
set_option bootstrap.genMatcherCode false
set_option genSizeOf false
set_option genSizeOfSpec false
set_option Elab.async false
set_option linter.all false
set_option maxRecDepth 100000
set_option maxHeartbeats 4000000
noncomputable section
open PySem.W (instObj makesIn emptyDict keepIn fnOf codeIn excIn kitOne nsIn mg_of)
namespace L2
open PySem
noncomputable abbrev PKy:=Int×List Int
noncomputable def zU (b:Bool)(v u:Value):List Value:=match b with
 |false=>[v,u]
 |true=>[u,v]
noncomputable def qX (ks:List Int):Int:=reduceHash (Builtin.Tuple.tupleHashOf (ks.map hashInt))
def xa (b:Bool)(k:PKy):Int:=match b with
 |false=>reduceHash (Builtin.Tuple.tupleHashOf [hashInt k.1,qX k.2])
 |true=>reduceHash (Builtin.Tuple.tupleHashOf [qX k.2,hashInt k.1])
section
variable {prog:Program}{w:World}
variable {A:Around}{E:Value->Shared->Prop}{s:Shared}
end
end L2
namespace L2
open PySem PySem.Spec PyProof.Rows
noncomputable abbrev Key:=Sum Int Str
def keyIs:Key->Value->Bool
 |.inl k,v=>Value.isInt k v
 |.inr x,v=>Value.isStrOf x v
def keyH (w:World):Key->Int
 |.inl k=>hashInt k
 |.inr x=>hashStr w x
theorem bz: ∀ {k:Key}{v:Value},keyIs k v=true->(∃i t,k=Sum.inl i/\v=Value.int i t)\/(∃x t,k=Sum.inr x/\v=Value.str x t)
 |.inl i,v,h=>by
  obtain⟨t,e⟩:=Value.isInt_shape (k:=i) (v:=v) h
  exact .inl ⟨i,t,rfl,e⟩
 |.inr x,v,h=>by
  obtain⟨t,e⟩:=Value.isStrOf_shape (x:=x) (v:=v) h
  exact .inr ⟨x,t,rfl,e⟩
theorem qx (i:Int)(t:Tok):keyIs (.inl i) (.int i t)=true:=by simp [keyIs,Value.isInt]
theorem qw (x:Str)(t:Tok):keyIs (.inr x) (.str x t)=true:=by simp [keyIs,Value.isStrOf]
theorem yt (a b:Int):decide ((Sum.inl a:Key)=Sum.inl b)=(a==b):=by
 by_cases e:a=b
 ·subst e;simp
 ·have h: ¬(Sum.inl a:Key)=Sum.inl b:=fun q=>e (Sum.inl.inj q)
  rw[decide_eq_false h]
  exact (beq_eq_false_iff_ne.mpr e).symm
theorem yp (a b:Str):decide ((Sum.inr a:Key)=Sum.inr b)=decide (a=b):=by
 by_cases e:a=b
 ·subst e;simp
 ·have h: ¬(Sum.inr a:Key)=Sum.inr b:=fun q=>e (Sum.inr.inj q)
  rw[decide_eq_false h,decide_eq_false e]
theorem yr (a:Int)(b:Str):decide ((Sum.inl a:Key)=Sum.inr b)=false:=decide_eq_false (fun q=>nomatch q)
theorem yq (a:Str)(b:Int):decide ((Sum.inr a:Key)=Sum.inl b)=false:=decide_eq_false (fun q=>nomatch q)
def dy (prog:Program)(w:World):PySem.KeyKind prog w Key where
 is:=keyIs
 hash:=keyH w
 inj:=fun v a b ha hb=>by
  rcases bz ha with⟨i,t,rfl,rfl⟩|⟨x,t,rfl,rfl⟩
  ·rcases bz hb with⟨j,u,rfl,e⟩|⟨y,u,rfl,e⟩
   ·injection e with e1 _;rw[e1]
   ·exact nomatch e
  ·rcases bz hb with⟨j,u,rfl,e⟩|⟨y,u,rfl,e⟩
   ·exact nomatch e
   ·injection e with e1 _;rw[e1]
 byValue:=fun k v h=>by
  rcases bz h with⟨i,t,rfl,rfl⟩|⟨x,t,rfl,rfl⟩<;>rfl
 pyHash:=fun hv h=>by
  rcases bz hv with⟨i,t,rfl,rfl⟩|⟨x,t,rfl,rfl⟩
  ·exact wpAny_pyHash_int h
  ·exact wpAny_pyHash_str h
 eqBool:=fun hu hv h=>by
  rcases bz hu with⟨i,t,rfl,rfl⟩|⟨x,t,rfl,rfl⟩
  ·rcases bz hv with⟨j,u,rfl,rfl⟩|⟨y,u,rfl,rfl⟩
   ·rw[yt] at h;exact wpAny_eqBool_int h
   ·rw[yr] at h;exact SeqAt.EqAt.int_str i t y u _ _ _ _ h
  ·rcases bz hv with⟨j,u,rfl,rfl⟩|⟨y,u,rfl,rfl⟩
   ·rw[yq] at h;exact SeqAt.EqAt.str_int x t j u _ _ _ _ h
   ·rw[yp] at h;exact wpAny_eqBool_str h
 «strs»:=fun k x t v h=>by
  rcases bz h with⟨i,u,rfl,e⟩|⟨y,u,rfl,e⟩
  ·exact nomatch e
  ·injection e with e1 _
   subst e1
   cases v<;>rfl
theorem mD (prog:Program)(w:World)(i:Int)(t:Tok):(dy prog w).is (.inl i) (.int i t)=true:=qx i t
theorem mz (prog:Program)(w:World)(x:Str)(t:Tok):(dy prog w).is (.inr x) (.str x t)=true:=qw x t
section
inductive V where
 |non|bl (b:Bool)|int (i:Int)|str (x:Str)|byt (b:Array UInt8)|flt (b:UInt64)|ref (a:Addr)|ty (n:String)
 deriving DecidableEq
noncomputable def RelV:V->Value->Prop
 |.non,u=>u=Value.none
 |.bl b,u=>u=Value.bool b
 |.int i,u=> ∃t,u=Value.int i t
 |.str x,u=> ∃t,u=Value.str x t
 |.byt b,u=> ∃t,u=Value.bytes b t
 |.flt b,u=> ∃t,u=Value.float b t
 |.ref a,u=>u=Value.ref a
 |.ty n,u=>u=Value.type n
noncomputable abbrev Vals:List V->List Value->Prop:=Paired RelV
theorem Vals.length {xs:List V}{us:List Value}(r:Vals xs us):xs.length=us.length:=Paired.length r
theorem Vals.get: ∀ {xs:List V}{us:List Value}{i:Nat}{x:V},Vals xs us->xs[i]?=some x-> ∃u,us[i]?=some u/\RelV x u
 |_,_,_,_,.nil,e=>by simp at e
 |_,_,0,_,.cons r _,e=>by simp at e;subst e;exact⟨_,rfl,r⟩
 |_,_,i+1,x,.cons _ t,e=>by
  obtain⟨u,h1,h2⟩:=Vals.get (i:=i) (x:=x) t (by simpa using e)
  exact⟨u,by simpa using h1,h2⟩
theorem Vals.append: ∀ {xs ys:List V}{us ws:List Value},Vals xs us->Vals ys ws->Vals (xs++ys) (us++ws)
 |_,_,_,_,.nil,s=>s
 |_,_,_,_,.cons r t,s=>.cons r (Vals.append t s)
theorem Vals.take: ∀ {xs:List V}{us:List Value} (n:Nat),Vals xs us->Vals (xs.take n) (us.take n)
 |_,_,0,_=>.nil
 |_,_,_+1,.nil=>.nil
 |_,_,n+1,.cons r t=>.cons r (Vals.take n t)
theorem Vals.drop: ∀ {xs:List V}{us:List Value} (n:Nat),Vals xs us->Vals (xs.drop n) (us.drop n)
 |_,_,0,r=>r
 |_,_,_+1,.nil=>.nil
 |_,_,n+1,.cons _ t=>Vals.drop n t
def RelO:Option V->Option Value->Prop
 |some v,some u=>RelV v u
 |none,none=>True
 |_,_=>False
def KV {κ:Type}:List (κ×V)->List (κ×Value)->Prop:=Paired fun (p:κ×V) (q:κ×Value)=>p.1=q.1/\RelV p.2 q.2
def kV:Key->V
 |.inl i=>.int i
 |.inr x=>.str x
inductive HO where
 |lst (xs:List V)
 |tup (xs:List V)
 |dK (kvs:List (Key×V))|dT (kvs:List (List Key×V))|dN (b:Bool)(xs:List (PKy×Addr×V))(ep:Nat)
 |set (S:Int->Bool)(n:Nat)
 |ins (C dx:Addr)(fs:List (Str×V))
 |own (x:Addr)
 |xd (fs:List (Str×V))
 |met (f x:Addr)
 |rng (lo hi:Int)
 |frz (o:Obj)(u:HO)
 |tbl (ps:Array Value)
 |ext (φ:Heap->Prop)
noncomputable abbrev Hp:=Addr->Option HO
def upd (H:Hp)(a:Addr)(o:HO):Hp:=fun b=>if b=a then some o else H b
theorem aM {H:Hp}{a:Addr}{o:HO}:upd H a o a=some o:=by unfold upd;rw[if_pos rfl]
theorem aC {H:Hp}{a b:Addr}{o:HO}(h:b≠a):upd H a o b=H b:=by unfold upd;rw[if_neg h]
theorem a7 {H:Hp}{a b:Addr}{o:HO}(h:H a=some o)(h':H b=none):a≠b:=by
 intro e;subst e;rw[h] at h';cases h'
noncomputable def IsTupD (h:Heap)(a:Addr)(its:Array Value):Prop:=IsTup h a its/\ ∃o,h.get? a=some o/\o.dict=none
theorem IsTupD.new (h:Heap)(its:Array Value):IsTupD (h.push {cls:=.type "tuple",data:=.seq its}) h.objs.size its:=⟨IsTup.new _ _,_,Heap.get?_push_size _ rfl,rfl⟩
section
variable (P:Program)(w:World)
def ObjOk (H:Hp)(h:Heap)(a:Addr):HO->Prop
 |.lst xs=>xs.length<=sizeLine/\ ∃ (its:List Value) (n:Nat),Vals xs its/\h.get? a=some {cls:=.type "list",data:=.seq its.toArray n}
 |.tup xs=>xs.length<=sizeLine/\ ∃its:List Value,Vals xs its/\IsTupD h a its.toArray
 |.dK kvs=>kvs.length<=sizeLine/\(a==sysModules)=false/\ ∃vs,KV kvs vs/\h.DictOf (dy P w) a vs
 |.dT kvs=>kvs.length<=sizeLine/\(a==sysModules)=false/\ ∃xs:List (List Key×Addr×Value),
  Paired (fun (p:List Key×V) (q:List Key×Addr×Value)=>p.1=q.1/\H q.2.1=some (.tup (p.1.map kV))/\RelV p.2 q.2.2) kvs xs/\
  ∃o es ep,h.get? a=some o/\o.ExactDict/\o.data=.dict es ep/\es.toList=xs.map (entryOfKey (tupleKind (dy P w)))/\(xs.map (·.1)).Nodup
 |.dN b xs ep=>xs.length<=sizeLine/\(a==sysModules)=false/\ ∃ys:List (PKy×Addr×Value),Paired (fun (p:PKy×Addr×V) (q:PKy×Addr×Value)=>p.1=q.1/\p.2.1=q.2.1/\RelV p.2.2 q.2.2) xs ys/\
  ∃o es,h.get? a=some o/\o.ExactDict/\o.data=.dict es ep/\es.toList=ys.map (fun y=>(⟨xa b y.1,.ref y.2.1,y.2.2⟩:DictEntry))/\(ys.map (·.1)).Nodup
 |.set S n=>h.SetOf (intKind P w) a S n
 |.ins C dx fs=>H dx=some (.own a)/\fs.length<=1000/\dx≠a/\h.get? a=some (instObj C dx)/\
  ∃mA,h.Ns1 dx mA/\(∀f,RelO (fs.lookup f) (mA f))/\PySem.Within mA (fs.map (·.1))
 |.own _=> ∃o,h.get? a=some o
 |.xd fs=> ∃mA,h.Ns1 a mA/\ ∀f,RelO (fs.lookup f) (mA f)
 |.rng lo hi=> ∃t u v,h.get? a=some {cls:=.type "range",data:=.fields #[.int lo t,.int hi u,.int 1 v]}
 |.frz o u=>h.get? a=some o/\ObjOk H h a u
 |.tbl ps=>h.get? a=some {cls:=.none,data:=.fields ps}
 |.met f x=>h.get? a=some (PySem.W.methodObj (.ref f) (.ref x))
 |.ext φ=>φ h/\(∃o,h.get? a=some o)/\ ∀h1 h2:Heap,φ h1->(∀o,h1.get? a=some o->h2.get? a=some o)->φ h2
def HOk (H:Hp)(h:Heap):Prop:= ∀a o,H a=some o->ObjOk P w H h a o
end
section
variable {P:Program}{w:World}{H H':Hp}{h h':Heap}{a:Addr}{o:HO}
theorem ObjOk.lt (x:ObjOk P w H h a o):a<h.objs.size:=by
 cases o with
 |lst xs=>obtain⟨_,_,_,_,e⟩:=x;exact Heap.lt_size e
 |tup xs=>obtain⟨_,_,_,p⟩:=x;exact p.1.lt
 |dK kvs=>obtain⟨_,_,_,_,o,_,_,e,_⟩:=x;exact Heap.lt_size e
 |dT kvs=>obtain⟨_,_,_,_,o,_,_,e,_⟩:=x;exact Heap.lt_size e
 |dN b xs ep=>obtain⟨_,_,_,_,o,_,e,_⟩:=x;exact Heap.lt_size e
 |set S n=>obtain⟨o,_,_,_,e,_⟩:=x;exact Heap.lt_size e
 |ins C dx fs=>obtain⟨_,_,_,e,_⟩:=x;exact Heap.lt_size e
 |own y=>obtain⟨_,e⟩:=x;exact Heap.lt_size e
 |xd fs=>obtain⟨_,⟨_,_,_,e,_⟩,_⟩:=x;exact Heap.lt_size e
 |rng lo hi=>obtain⟨_,_,_,e⟩:=x;exact Heap.lt_size e
 |frz ob u=>obtain⟨e,_⟩:=x;exact Heap.lt_size e
 |tbl ps=>exact Heap.lt_size (show h.get? a=some _ from x)
 |met f y=>exact Heap.lt_size (show h.get? a=some _ from x)
 |ext φ=>obtain⟨_,⟨_,e⟩,_⟩:=x;exact Heap.lt_size e
theorem Paired.mapP {α β:Type}{F G:α->β->Prop}: ∀ {l₁:List α}{l₂:List β},Paired F l₁ l₂->(∀a b,F a b->G a b)->Paired G l₁ l₂
 |_,_,.nil,_=>.nil
 |_,_,.cons r t,f=>.cons (f _ _ r) (Paired.mapP t f)
theorem ObjOk.stay (x:ObjOk P w H h a o)(k:∀b u,(b=a\/H b=some (.own a))->h.get? b=some u->h'.get? b=some u)
  (ho: ∀b,H b=some (.own a)->H' b=some (.own a))(ht: ∀b xs,H b=some (.tup xs)->H' b=some (.tup xs)):ObjOk P w H' h' a o:=by
 induction o with
 |lst xs=>obtain⟨z,its,n,r,e⟩:=x;exact⟨z,its,n,r,k _ _ (.inl rfl) e⟩
 |tup xs=>obtain⟨z,its,r,⟨ob,e,c⟩,o2,e2,c2⟩:=x;exact⟨z,its,r,⟨ob,k _ _ (.inl rfl) e,c⟩,o2,k _ _ (.inl rfl) e2,c2⟩
 |dK kvs=>obtain⟨z,y,vs,r,ob,es,ep,e,c⟩:=x;exact⟨z,y,vs,r,ob,es,ep,k _ _ (.inl rfl) e,c⟩
 |dT kvs=>
  obtain⟨z,y,xs,r,ob,es,ep,e,c⟩:=x
  exact⟨z,y,xs,Paired.mapP r fun p q z=>⟨z.1,ht _ _ z.2.1,z.2.2⟩,ob,es,ep,k _ _ (.inl rfl) e,c⟩
 |dN b xs ep=>obtain⟨z,y,ys,r,ob,es,e,c⟩:=x;exact⟨z,y,ys,r,ob,es,k _ _ (.inl rfl) e,c⟩
 |set S n=>obtain⟨ob,es,ep,t,e,c⟩:=x;exact⟨ob,es,ep,t,k _ _ (.inl rfl) e,c⟩
 |ins C dx fs=>
  obtain⟨d,z,ne,e,mA,⟨od,es,ep,e2,c⟩,r⟩:=x
  exact⟨ho _ d,z,ne,k _ _ (.inl rfl) e,mA,⟨od,es,ep,k _ _ (.inr d) e2,c⟩,r⟩
 |own y=>obtain⟨ob,e⟩:=x;exact⟨ob,k _ _ (.inl rfl) e⟩
 |xd fs=>obtain⟨mA,⟨od,es,ep,e,c⟩,r⟩:=x;exact⟨mA,⟨od,es,ep,k _ _ (.inl rfl) e,c⟩,r⟩
 |rng lo hi=>obtain⟨t,u,v,e⟩:=x;exact⟨t,u,v,k _ _ (.inl rfl) e⟩
 |frz ob u ih=>obtain⟨e,q⟩:=x;exact⟨k _ _ (.inl rfl) e,ih q⟩
 |tbl ps=>
  have e:h.get? a=some {cls:=.none,data:=.fields ps}:=x
  show h'.get? a=some {cls:=.none,data:=.fields ps}
  exact k a _ (.inl rfl) e
 |met f y=>
  have e:h.get? a=some (PySem.W.methodObj (.ref f) (.ref y)):=x
  show h'.get? a=some (PySem.W.methodObj (.ref f) (.ref y))
  exact k a _ (.inl rfl) e
 |ext φ=>obtain⟨p,⟨o,e⟩,st⟩:=x;exact⟨st _ _ p fun o q=>k _ _ (.inl rfl) q,⟨o,k _ _ (.inl rfl) e⟩,st⟩
theorem HOk.lt (x:HOk P w H h)(e:H a=some o):a<h.objs.size:=(x a o e).lt
theorem HOk.fresh (x:HOk P w H h)(e:h.objs.size<=a):H a=none:=by
 cases q:H a with
 |none=>rfl
 |some u=>exact absurd (Nat.lt_of_lt_of_le (x.lt q) e) (Nat.lt_irrefl _)
theorem HOk.kept (x:HOk P w H h)(k:∀b u,h.get? b=some u->h'.get? b=some u):HOk P w H h':=fun a o e=>
 (x a o e).stay (fun b u _ q=>k b u q) (fun _ q=>q) fun _ _ q=>q
theorem HOk.laid (x:HOk P w H h)(k:∀b u,h.get? b=some u->h'.get? b=some u)(hp:h.objs.size<=a)(new:ObjOk P w (upd H a o) h' a o):HOk P w (upd H a o) h':=fun b u e=>by
 have hn:=x.fresh hp
 by_cases hb:b=a
 ·subst hb;rw[aM] at e;cases e;exact new
 ·rw[aC hb] at e
  exact (x b u e).stay (fun c v _ q=>k c v q) (fun c q=>by rw[aC (a7 q hn)];exact q) fun c xs q=>by rw[aC (a7 q hn)];exact q
end
def Rd (H:Hp)(a:Addr)(u:HO):Prop:=H a=some u\/ ∃o,H a=some (.frz o u)
theorem Rd.ok {P:Program}{w:World}{H:Hp}{h:Heap}{a:Addr}{u:HO}(r:Rd H a u)(x:HOk P w H h):ObjOk P w H h a u:=by
 rcases r with r|⟨o,r⟩
 ·exact x a u r
 ·obtain⟨_,q⟩:=x a _ r
  exact q
noncomputable def Mut:Option HO->Prop
 |some (.lst _)=>True
 |some (.dK _)=>True
 |some (.dT _)=>True
 |some (.dN _ _ _)=>True
 |some (.set _ _)=>True
 |some (.ins _ _ _)=>True
 |some (.ext _)=>True
 |_=>False
section
variable {P:Program}{w:World}{H:Hp}{h h':Heap}{x e:Addr}{o':HO}
theorem HOk.write (ok:HOk P w H h)(mu:Mut (H x))(he:e=x\/H e=some (.own x))(k:∀b u,b≠e->h.get? b=some u->h'.get? b=some u)(heo: ∃u,h'.get? e=some u)
  (new:ObjOk P w (upd H x o') h' x o'):HOk P w (upd H x o') h':=fun b u q=>by
 have nown: ∀c y,H c=some (.own y)->c≠x:=fun c y r z=>by subst z;rw[r] at mu;exact mu
 have ntup: ∀c xs,H c=some (.tup xs)->c≠x:=fun c xs r z=>by subst z;rw[r] at mu;exact mu
 by_cases hb:b=x
 ·subst hb;rw[aM] at q;cases q;exact new
 ·rw[aC hb] at q
  by_cases hbe:b=e
  ·have q':H b=some (.own x):=by
    rcases he with z|z
    ·exact absurd (hbe.trans z) hb
    ·rw[hbe];exact z
   rw[q] at q';cases q'
   obtain⟨v,hv⟩:=heo
   exact⟨v,by rw[hbe];exact hv⟩
  ·refine (ok b u q).stay (fun c v hc r=>k c v ?_ r) (fun c r=>by rw[aC (nown c b r)];exact r) fun c xs r=>by rw[aC (ntup c xs r)];exact r
   rcases hc with rfl|hc
   ·exact hbe
   ·rintro rfl
    rcases he with z|z
    ·exact nown c b hc z
    ·rw[hc] at z;cases z;exact hb rfl
end
structure Un (fs ex:List Addr)(H H':Hp)(h h':Heap):Prop where
 keep: ∀b o,h.get? b=some o->H b=none->b ∉ fs->b ∉ ex->h'.get? b=some o
 slot: ∀b o,h.get? b=some o->H b=none->b∈fs->b ∉ ex-> ∃sl,h'.get? b=some {o with slots:=sl}
 free: ∀b o,h.get? b=some o->H b=none->b ∉ ex->H' b=none
 there: ∀b o,h.get? b=some o->b ∉ ex-> ∃o',h'.get? b=some o'
 tups: ∀b xs,H b=some (.tup xs)->H' b=some (.tup xs)
 frzs: ∀b o u,H b=some (.frz o u)->H' b=some (.frz o u)
 tbls: ∀b ps,H b=some (.tbl ps)-> ∃more,H' b=some (.tbl (ps++more))
section
variable {fs fs' ex ex':List Addr}{H H1 H2:Hp}{h h1 h2 h':Heap}{a x e:Addr}{o:HO}
theorem Un.any (u:Un fs ex H H1 h h1){b:Addr}{ob:Obj}(q:h.get? b=some ob)(n:H b=none)(hx:b ∉ ex): ∃sl,h1.get? b=some {ob with slots:=sl}:=by
 by_cases hb:b∈fs
 ·exact u.slot b ob q n hb hx
 ·exact⟨ob.slots,u.keep b ob q n hb hx⟩
theorem Un.kept (k:∀b u,h.get? b=some u->h'.get? b=some u):Un fs ex H H h h':=
 ⟨fun b ob q _ _ _=>k b ob q,fun b ob q _ _ _=>⟨ob.slots,k b ob q⟩,fun _ _ _ n _=>n,fun b ob q _=>⟨ob,k b ob q⟩,fun _ _ q=>q,fun _ _ _ q=>q,fun _ ps q=>⟨#[],by rw[q];simp⟩⟩
theorem Un.refl:Un fs ex H H h h:=Un.kept fun _ _ q=>q
theorem Un.laid (k:∀b u,h.get? b=some u->h'.get? b=some u)(hp:h.objs.size<=a)(hn:H a=none):Un fs ex H (upd H a o) h h' where
 keep:=fun b u q _ _ _=>k b u q
 slot:=fun b u q _ _ _=>⟨u.slots,k b u q⟩
 free:=fun b u q n _=>by rw[aC (Nat.ne_of_lt (Nat.lt_of_lt_of_le (Heap.lt_size q) hp))];exact n
 there:=fun b u q _=>⟨u,k b u q⟩
 tups:=fun b xs q=>by rw[aC (a7 q hn)];exact q
 frzs:=fun b u xs q=>by rw[aC (a7 q hn)];exact q
 tbls:=fun b ps q=>⟨#[],by rw[aC (a7 q hn),q];simp⟩
theorem Un.write (mu:Mut (H x))(he:e=x\/H e=some (.own x))(k:∀b u,b≠e->h.get? b=some u->h'.get? b=some u)(heo: ∃u,h'.get? e=some u):Un fs ex H (upd H x o) h h':=by
 have hx: ∀b,H b=none->b≠x:=fun b n z=>by subst z;rw[n] at mu;exact mu
 have hb: ∀b,H b=none->b≠e:=fun b n z=>by
  subst z
  rcases he with r|r
  ·exact hx b n r
  ·rw[n] at r;cases r
 have hm: ∀b u,H b=some u-> ¬Mut (some u)->b≠x:=fun b u q nm z=>by subst z;rw[q] at mu;exact nm mu
 refine⟨fun b u q n _ _=>k b u (hb b n) q,fun b u q n _ _=>⟨u.slots,k b u (hb b n) q⟩,fun b u q n _=>by rw[aC (hx b n)];exact n,fun b u q _=>?_,
  fun b xs q=>by rw[aC (hm b _ q fun z=>z)];exact q,fun b u xs q=>by rw[aC (hm b _ q fun z=>z)];exact q,fun b ps q=>⟨#[],by rw[aC (hm b _ q fun z=>z),q];simp⟩⟩
 by_cases hbe:b=e
 ·subst hbe;exact heo
 ·exact⟨u,k b u hbe q⟩
end
def trk (h:Heap)(H:Hp):List Addr:=(List.range h.objs.size).filter fun a=>(H a).isSome
def hidT (h:Heap)(H:Hp):Heap:=PySem.W.hideAll h (trk h H)
theorem qH (h:Heap)(H:Hp):(hidT h H).objs.size=h.objs.size:=PySem.W.hideAll_size _ _
theorem sY {h:Heap}{H:Hp}{b:Addr}{o:Obj}(e:h.get? b=some o)(n:H b=none):(hidT h H).get? b=some o:=
 PySem.W.hideAll_get _ e fun hm=>by
  have q:(H b).isSome=true:=(List.mem_filter.mp hm).2
  rw[n] at q;simp at q
theorem uQ {h:Heap}{H:Hp}{b:Addr}{o:Obj}(e:(hidT h H).get? b=some o):h.get? b=some o/\H b=none:=by
 have e':h.get? b=some o:=PySem.W.of_hideAll (trk h H) e
 refine⟨e',?_⟩
 cases q:H b with
 |none=>rfl
 |some x=>
  have hm:b∈trk h H:=List.mem_filter.mpr ⟨List.mem_range.mpr (Heap.lt_size e'),by simp [q]⟩
  have z:(hidT h H).get? b=none:=PySem.W.hideAll_none (trk h H) hm
  rw[z] at e;cases e
noncomputable def vU (g h:Heap)(L:Addr):List (Addr×Obj):=(List.range h.objs.size).filterMap fun a=>if a=L\/(g.get? a).isSome=true then none else (h.get? a).map fun o=>(a,o)
def rest (g h:Heap)(L d:Addr):List (Addr×Obj):=(vU g h L).filter fun p=>decide (p.1≠d)
end
section
structure Mod (K:PySem.W.Frag)(mg:Str->Option Value)(base:Heap):Prop where
 kin:K.In base
 glob:base.Ns mainGlobals mg
 blt: ∃mb,base.Ns builtinsNs mb/\ ∀x:Str,x≠ "__name__"->mb x=bootBuiltins x
 nolimit:base.NoLimit
structure Cx where
 prog:Program
 w:World
 K:PySem.W.Frag
 mg:Str->Option Value
 base:Heap
 A:Around
 N:List Str
 s₀:Shared
 H₀:Hp
 env:Env
 outer:List Env
 stack:List Env
 ex:List Addr
 fn:Str->Bool
 calm:Bool
 pn:List (Addr×Obj)
 xe:Value->Shared->Prop
noncomputable def frs (l:List Env):List Addr:=l.filterMap (·.frame)
noncomputable abbrev Cx.fs (X:Cx):List Addr:=frs X.outer
noncomputable def Vis (sc:Scope)(x:Str):Prop:=sc.names.lookup x=some .local \/sc.names.lookup x=some .cell\/sc.names.lookup x=some .free
noncomputable def Loc (sc:Scope)(x:Str):Prop:=sc.names.lookup x=some .local \/sc.names.lookup x=some .cell
noncomputable def Look (env:Env)(h:Heap)(m:Str->Option Value)(x:Str)(u:Value):Prop:=
 (env.kindOf x=some .local /\m x=some u)\/((env.kindOf x=some .cell\/env.kindOf x=some .free)/\ ∃c,env.cells.lookup x=some c/\h.IsCell c (some u))
structure Cx.Ok (X:Cx):Prop where
 mod:Mod X.K X.mg X.base
 kind:X.env.scope.kind=.function
 glob:X.env.globals=mainGlobals
 blt:X.env.builtins=builtinsNs
 above:X.s₀.heap.objs.size<=X.env.locals
 inj: ∀x y c,X.env.cells.lookup x=some c->X.env.cells.lookup y=some c->x=y
 has: ∀x,(X.env.kindOf x=some .cell\/X.env.kindOf x=some .free)-> ∃c,X.env.cells.lookup x=some c
 cab: ∀x c,X.fn x=true->X.env.cells.lookup x=some c->X.s₀.heap.objs.size<=c
 hd:X.calm=true->X.A.handled=none
 frames:X.A.frames=some X.stack
 stk:X.stack=X.outer\/(X.stack=X.env::X.outer/\X.env.frame=some X.env.locals)
 exf: ∀b∈X.ex,b≠X.env.locals/\ ∀x c,X.env.cells.lookup x=some c->c≠b
 bs: ∀b o,X.base.get? b=some o->X.s₀.heap.get? b=some o/\X.H₀ b=none
 bsz:X.base.objs.size<=X.s₀.heap.objs.size
 noex: ∀b o,X.base.get? b=some o->b ∉ X.ex
 exfs: ∀b∈X.ex,b ∉ X.fs
 funs:X.s₀.heap.FunFrames X.base X.outer
 frf: ∀b∈X.fs,X.H₀ b=none
structure Inv (X:Cx)(pins:List (Addr×Obj))(σ:List (Option V))(H:Hp)(s:Shared):Prop where
 ok:X.Ok
 os:s.os=X.s₀.os
 bare:AllBare s.gens
 base:Un X.fs X.ex X.H₀ H X.s₀.heap s.heap
 loc: ∃m,s.heap.Ns X.env.locals m/\ ∀ (i:Nat) (x:Str) (v:V),X.N[i]?=some x->σ[i]?=some (some v)->Vis X.env.scope x-> ∃u,RelV v u/\Look X.env s.heap m x u
 cell: ∀x c,X.env.cells.lookup x=some c-> ∃v,s.heap.IsCell c v
 free:H X.env.locals=none
 freeC: ∀x c,X.env.cells.lookup x=some c->H c=none
 pin: ∀p∈X.pn++pins,s.heap.get? p.1=some p.2/\H p.1=none/\p.1≠X.env.locals/\p.1 ∉ X.fs/\ ∀v,p.2.data≠.cell v
 hok:HOk X.prog X.w H s.heap
 len:σ.length=X.N.length
section
variable {X:Cx}{pins:List (Addr×Obj)}{σ:List (Option V)}{H H':Hp}{s:Shared}{h':Heap}
theorem Cx.Ok.nofr (ok:X.Ok){b:Addr}{o:Obj}(e:X.base.get? b=some o):b ∉ X.fs:=fun hb=>by
 have:=(ok.funs.mem hb).1
 rw[e] at this;cases this
theorem Inv.bs (I:Inv X pins σ H s): ∀b o,X.base.get? b=some o->s.heap.get? b=some o/\H b=none:=fun b o e=>
 ⟨I.base.keep b o (I.ok.bs b o e).1 (I.ok.bs b o e).2 (I.ok.nofr e) (I.ok.noex b o e),I.base.free b o (I.ok.bs b o e).1 (I.ok.bs b o e).2 (I.ok.noex b o e)⟩
theorem Inv.bk (I:Inv X pins σ H s): ∀b o,X.base.get? b=some o->s.heap.get? b=some o:=fun b o e=>(I.bs b o e).1
theorem Inv.mod (I:Inv X pins σ H s):Mod X.K X.mg X.base:=I.ok.mod
theorem Inv.kIn (I:Inv X pins σ H s):X.K.In s.heap:=I.ok.mod.kin.keeps I.bk
theorem Inv.fr (I:Inv X pins σ H s): ∃m,Fr X.base X.env.locals s.heap m:=
 let ⟨m,hn,_⟩:=I.loc
 ⟨m,hn,I.bk,Nat.le_trans I.ok.bsz I.ok.above⟩
theorem Inv.lt (I:Inv X pins σ H s):X.env.locals<s.heap.objs.size:=let ⟨_,hn,_⟩:=I.loc;hn.lt
theorem Inv.sz (I:Inv X pins σ H s):X.s₀.heap.objs.size<=s.heap.objs.size:=Nat.le_trans I.ok.above (Nat.le_of_lt I.lt)
theorem Inv.nofs (I:Inv X pins σ H s){a:Addr}(h:s.heap.objs.size<=a):a ∉ X.fs:=fun hb=>by
 obtain⟨_,o,ho,_⟩:=I.ok.funs.mem hb
 exact absurd (Nat.lt_of_lt_of_le (Heap.lt_size ho) (Nat.le_trans I.sz h)) (Nat.lt_irrefl _)
theorem Inv.cne (I:Inv X pins σ H s): ∀x c,X.env.cells.lookup x=some c->c≠X.env.locals:=fun x c e z=>by
 obtain⟨v,o,ho,hd⟩:=I.cell x c e
 obtain⟨m,⟨o',es,ep,ho',hd',_⟩,_⟩:=I.loc
 rw[z,ho'] at ho;cases ho;rw[hd'] at hd;cases hd
theorem Inv.funs (I:Inv X pins σ H s):s.heap.FunFrames X.base X.outer:=by
 have all: ∀ (l:List Env),(∀b∈frs l,b∈X.fs)->X.s₀.heap.FunFrames X.base l->s.heap.FunFrames X.base l:=by
  intro l
  induction l with
  |nil=>intro _ _;trivial
  |cons env r ih=>
   intro hs hl
   obtain⟨hk,⟨L,o,hf,hn,ho,hd⟩,hr⟩:=hl
   have hL:L∈X.fs:=hs L (by unfold frs;rw[List.filterMap_cons,hf];exact List.mem_cons_self)
   obtain⟨sl,e⟩:=I.base.slot L o ho (I.ok.frf L hL) hL fun z=>I.ok.exfs L z hL
   exact⟨hk,⟨L,_,hf,hn,e,hd⟩,ih (fun b hb=>hs b (by unfold frs;rw[List.filterMap_cons,hf];exact List.mem_cons_of_mem _ hb)) hr⟩
 exact all X.outer (fun _ hb=>hb) I.ok.funs
theorem Inv.stack (I:Inv X pins σ H s):s.heap.FunFrames X.base X.stack:=by
 rcases I.ok.stk with e|⟨e,hf⟩
 ·rw[e];exact I.funs
 ·rw[e]
  obtain⟨m,hn,_⟩:=I.loc
  refine .cons (by rw[I.ok.kind];decide) hf hn ?_ I.funs
  exact Heap.get?_none_of_le (Nat.le_trans I.ok.bsz I.ok.above)
theorem Inv.stkSub (I:Inv X pins σ H s): ∀b∈frs X.stack,b∈X.env.locals::X.fs:=fun b hb=>by
 rcases I.ok.stk with e|⟨e,hf⟩
 ·rw[e] at hb;exact List.mem_cons_of_mem _ hb
 ·rw[e] at hb
  unfold frs at hb
  rw[List.filterMap_cons,hf] at hb
  exact hb
theorem Inv.stkFree (I:Inv X pins σ H s): ∀b∈frs X.stack,H b=none:=fun b hb=>by
 rcases List.mem_cons.mp (I.stkSub b hb) with e|hb
 ·rw[e];exact I.free
 ·obtain⟨_,o,ho,_⟩:=I.ok.funs.mem hb
  exact I.base.free b o ho (I.ok.frf b hb) fun z=>I.ok.exfs b z hb
theorem Inv.step {g':Array GenState}{t':Nat}{d':Drawn}{ch:List Addr}(I:Inv X pins σ H s)
  (hch: ∀b∈ch,(b∈X.ex\/X.s₀.heap.objs.size<=b)/\b≠X.env.locals/\(∀x c,X.env.cells.lookup x=some c->c≠b)/\ ∀p∈X.pn++pins,p.1≠b)
  (keep: ∀b o,b≠X.env.locals->b ∉ X.fs->b ∉ ch->s.heap.get? b=some o->H b=none->h'.get? b=some o)
  (slot: ∀b o,b≠X.env.locals->b∈X.fs->b ∉ ch->s.heap.get? b=some o->H b=none-> ∃sl,h'.get? b=some {o with slots:=sl})(free: ∀b o,b ∉ ch->s.heap.get? b=some o->H b=none->H' b=none)
  (there: ∀b o,b ∉ ch->s.heap.get? b=some o-> ∃o',h'.get? b=some o')
  (tups: ∀b xs,H b=some (.tup xs)->H' b=some (.tup xs))(frzs: ∀b o u,H b=some (.frz o u)->H' b=some (.frz o u))(tbls: ∀b ps,H b=some (.tbl ps)-> ∃more,H' b=some (.tbl (ps++more)))
  (ns: ∀m,s.heap.Ns X.env.locals m->h'.Ns X.env.locals m)(hok:HOk X.prog X.w H' h')(hg:AllBare g'):
  Inv X pins σ H' {s with heap:=h',gens:=g',drawn:=d',toks:=t'}:=by
 have neL: ∀b o,X.s₀.heap.get? b=some o->b≠X.env.locals:=fun b o e=>Nat.ne_of_lt (Nat.lt_of_lt_of_le (Heap.lt_size e) I.ok.above)
 have neC: ∀b o,X.s₀.heap.get? b=some o->b ∉ X.ex->b ∉ ch:=fun b o e hx hb=>by
  rcases (hch b hb).1 with z|z
  ·exact hx z
  ·exact absurd (Nat.lt_of_lt_of_le (Heap.lt_size e) z) (Nat.lt_irrefl _)
 have cellK: ∀x c,X.env.cells.lookup x=some c-> ∀v,s.heap.IsCell c v->h'.IsCell c v:=fun x c e v ⟨o,ho,hd⟩=>by
  have nch:c ∉ ch:=fun z=>(hch c z).2.2.1 x c e rfl
  by_cases hc:c∈X.fs
  ·obtain⟨sl,q⟩:=slot c o (I.cne x c e) hc nch ho (I.freeC x c e)
   exact⟨_,q,hd⟩
  ·exact⟨o,keep c o (I.cne x c e) hc nch ho (I.freeC x c e),hd⟩
 refine⟨I.ok,I.os,hg,⟨fun b o e n hb hx=>?_,fun b o e n hb hx=>?_,fun b o e n hx=>?_,fun b o e hx=>?_,fun b xs e=>tups b xs (I.base.tups b xs e),fun b o xs e=>frzs b o xs (I.base.frzs b o xs e),fun b ps e=>?_⟩,?_,fun x c e=>?_,?_,fun x c e=>?_,fun p hp=>?_,hok,I.len⟩
 ·exact keep b o (neL b o e) hb (neC b o e hx) (I.base.keep b o e n hb hx) (I.base.free b o e n hx)
 ·obtain⟨sl,e1⟩:=I.base.slot b o e n hb hx
  obtain⟨sl',e2⟩:=slot b _ (neL b o e) hb (neC b o e hx) e1 (I.base.free b o e n hx)
  exact⟨sl',e2⟩
 ·obtain⟨o',e1⟩:=I.base.there b o e hx
  exact free b o' (neC b o e hx) e1 (I.base.free b o e n hx)
 ·obtain⟨o',e1⟩:=I.base.there b o e hx
  exact there b o' (neC b o e hx) e1
 ·obtain⟨m1,e1⟩:=I.base.tbls b ps e
  obtain⟨m2,e2⟩:=tbls b _ e1
  exact⟨m1++m2,by rw[e2,Array.append_assoc]⟩
 ·obtain⟨m,hn,hl⟩:=I.loc
  refine⟨m,ns m hn,fun i x v e1 e2 e3=>?_⟩
  obtain⟨u,r,l⟩:=hl i x v e1 e2 e3
  refine⟨u,r,?_⟩
  rcases l with l|⟨k,c,e,z⟩
  ·exact .inl l
  ·exact .inr ⟨k,c,e,cellK x c e _ z⟩
 ·obtain⟨v,z⟩:=I.cell x c e
  exact⟨v,cellK x c e v z⟩
 ·obtain⟨m,⟨o,_,_,ho,_⟩,_⟩:=I.loc
  exact free _ o (fun z=>(hch _ z).2.1 rfl) ho I.free
 ·obtain⟨v,o,ho,hd⟩:=I.cell x c e
  exact free c o (fun z=>(hch c z).2.2.1 x c e rfl) ho (I.freeC x c e)
 ·obtain⟨e,n,ne,nf,d⟩:=I.pin p hp
  have nch:p.1 ∉ ch:=fun z=>(hch p.1 z).2.2.2 p hp rfl
  exact⟨keep p.1 p.2 ne nf nch e n,free p.1 p.2 nch e n,ne,nf,d⟩
theorem Inv.un {t':Nat}(I:Inv X pins σ H s)(u:Un X.fs [] H H' s.heap h')(hok:HOk X.prog X.w H' h'):Inv X pins σ H' {s with heap:=h',toks:=t'}:=by
 obtain⟨m,⟨o,es,ep,ho,r⟩,_⟩:=id I.loc
 obtain⟨sl,hL⟩:=u.any ho I.free (by simp)
 exact I.step (g':=s.gens) (d':=s.drawn) (ch:=[]) (fun _ z=>nomatch z) (fun b o _ hb _ e n=>u.keep b o e n hb (by simp)) (fun b o _ hb _ e n=>u.slot b o e n hb (by simp)) (fun b o _ e n=>u.free b o e n (by simp)) (fun b o _ e=>u.there b o e (by simp)) u.tups u.frzs u.tbls (fun m' hm=>by
  obtain⟨o',es',ep',ho',r'⟩:=hm
  rw[ho] at ho';cases ho'
  exact⟨_,es',ep',hL,r'⟩) hok I.bare
theorem Inv.call {g':Array GenState}{t':Nat}{d':Drawn}{ch:List Addr}(I:Inv X pins σ H s)(u:Un (frs X.stack) ch H H' s.heap h')(hok:HOk X.prog X.w H' h')(hg:AllBare g')
  (hch: ∀b∈ch,(b∈X.ex\/X.s₀.heap.objs.size<=b)/\b≠X.env.locals/\(∀x c,X.env.cells.lookup x=some c->c≠b)/\ ∀p∈X.pn++pins,p.1≠b):
  Inv X pins σ H' {s with heap:=h',gens:=g',drawn:=d',toks:=t'}:=by
 obtain⟨m,⟨o,es,ep,ho,r⟩,_⟩:=id I.loc
 obtain⟨sl,hL⟩:=u.any ho I.free fun z=>(hch _ z).2.1 rfl
 exact I.step (ch:=ch) hch (fun b o hL hb hc e n=>u.keep b o e n (fun z=>(List.mem_cons.mp (I.stkSub b z)).elim hL hb) hc) (fun b o _ _ hc e n=>u.any e n hc) (fun b o hc e n=>u.free b o e n hc) (fun b o hc e=>u.there b o e hc) u.tups u.frzs u.tbls (fun m' hm=>by
  obtain⟨o',es',ep',ho',r'⟩:=hm
  rw[ho] at ho';cases ho'
  exact⟨_,es',ep',hL,r'⟩) hok hg
theorem Inv.turned {t':Nat}{it:Addr}(I:Inv X pins σ H s)(k:∀b o,b≠it->s.heap.get? b=some o->h'.get? b=some o)(hn:H it=none)(hL:it≠X.env.locals)
  (h1:it∈X.ex\/X.s₀.heap.objs.size<=it)(h2: ∀x c,X.env.cells.lookup x=some c->c≠it)(h3: ∀p∈X.pn++pins,p.1≠it):Inv X pins σ H {s with heap:=h',toks:=t'}:=by
 have nit: ∀b u,H b=some u->b≠it:=fun b u e z=>by rw[z,hn] at e;cases e
 refine I.step (g':=s.gens) (d':=s.drawn) (ch:=[it]) (fun b hb=>?_) (fun b o _ _ hc e _=>k b o (fun z=>hc (by simp [z])) e) (fun b o _ _ hc e _=>⟨o.slots,k b o (fun z=>hc (by simp [z])) e⟩) (fun _ _ _ _ n=>n)
  (fun b o hc e=>⟨o,k b o (fun z=>hc (by simp [z])) e⟩) (fun _ _ e=>e) (fun _ _ _ e=>e) (fun b ps e=>⟨#[],by rw[e];simp⟩) (fun m hm=>?_) (fun b u e=>?_) I.bare
 ·have e:b=it:=by simpa using hb
  subst e
  exact⟨h1,hL,h2,h3⟩
 ·obtain⟨o,es,ep,ho,r⟩:=hm
  exact⟨o,es,ep,k _ o (Ne.symm hL) ho,r⟩
 ·refine (I.hok b u e).stay (fun c v hc q=>k c v ?_ q) (fun _ q=>q) fun _ _ q=>q
  rcases hc with z|z
  ·rw[z];exact nit b u e
  ·exact nit c _ z
theorem Inv.tok (I:Inv X pins σ H s)(t:Nat):Inv X pins σ H {s with toks:=t}:=I.un (h':=s.heap) (t':=t) Un.refl I.hok
theorem Inv.kept {t':Nat}(I:Inv X pins σ H s)(k:∀b u,s.heap.get? b=some u->h'.get? b=some u):Inv X pins σ H {s with heap:=h',toks:=t'}:=I.un (Un.kept k) (I.hok.kept k)
theorem Inv.laid {a:Addr}{o:HO}{t':Nat}(I:Inv X pins σ H s)(k:∀b u,s.heap.get? b=some u->h'.get? b=some u)(hp:s.heap.objs.size<=a)(new:ObjOk X.prog X.w (upd H a o) h' a o):
 Inv X pins σ (upd H a o) {s with heap:=h',toks:=t'}:=I.un (Un.laid k hp (I.hok.fresh hp)) (I.hok.laid k hp new)
theorem Inv.write {x e:Addr}{o:HO}{t':Nat}(I:Inv X pins σ H s)(mu:Mut (H x))(he:e=x\/H e=some (.own x))(k:∀b u,b≠e->s.heap.get? b=some u->h'.get? b=some u)(heo: ∃u,h'.get? e=some u)
 (new:ObjOk X.prog X.w (upd H x o) h' x o):Inv X pins σ (upd H x o) {s with heap:=h',toks:=t'}:=I.un (Un.write mu he k heo) (I.hok.write mu he k heo new)
theorem Inv.weak {σ':List (Option V)}(I:Inv X pins σ H s)(hl:σ'.length=σ.length)(w:∀ (i:Nat) v,σ'[i]?=some (some v)->σ[i]?=some (some v)):Inv X pins σ' H s:=
 ⟨I.ok,I.os,I.bare,I.base,let ⟨m,hn,hl'⟩:=I.loc;⟨m,hn,fun i x v e1 e2 e3=>hl' i x v e1 (w i v e2) e3⟩,I.cell,I.free,I.freeC,I.pin,I.hok,hl.trans I.len⟩
theorem Inv.pins_of {pins':List (Addr×Obj)}(I:Inv X pins σ H s)(h:∀p∈pins',s.heap.get? p.1=some p.2/\H p.1=none/\p.1≠X.env.locals/\p.1 ∉ X.fs/\ ∀v,p.2.data≠.cell v):Inv X pins' σ H s:=
 ⟨I.ok,I.os,I.bare,I.base,I.loc,I.cell,I.free,I.freeC,fun p hp=>(List.mem_append.mp hp).elim (fun z=>I.pin p (List.mem_append_left _ z)) (h p),I.hok,I.len⟩
theorem jx {N:List Str}(hN:N.Nodup){i j:Nat}{x:Str}(a:N[i]?=some x)(b:N[j]?=some x):i=j:=by
 obtain⟨h1,e1⟩:=List.getElem?_eq_some_iff.mp a
 obtain⟨h2,e2⟩:=List.getElem?_eq_some_iff.mp b
 exact (List.getElem_inj hN).mp (e1.trans e2.symm)
theorem j9 {M:Model}{A:Around}{E:Value->Shared->Prop}{i:Nat}{x:Str}{v:V}{u:Value}{Q:Unit->Shared->Prop}(I:Inv X pins σ H s)(hN:X.N.Nodup)(hi:X.N[i]?=some x)(hx:Loc X.env.scope x)(r:RelV v u)
  (h:∀s',Inv X pins (σ.set i (some v)) H s'->(∃a,Heap.SameBut a s.heap s'.heap/\(a=X.env.locals\/X.env.cells.lookup x=some a))->Q () s')(hf:X.fn x=true\/X.env.scope.names.lookup x=some .local :=by first|exact .inl rfl|exact .inr rfl|assumption):wpAny M A (storeName X.env x u) Q E s:=by
 obtain⟨m,hn,hl⟩:=id I.loc
 have hcls:(X.env.scope.kind==.class||(X.env.scope.kind==.module && X.env.locals !=X.env.globals))=false:=by rw[I.ok.kind];rfl
 have hiσ:i<σ.length:=by rw[I.len];exact (List.getElem?_eq_some_iff.mp hi).1
 have cne:=I.cne
 have tracked: ∀ {a:Addr}{h':Heap},(∃o,s.heap.get? a=some o/\H a=none)->Heap.SameBut a s.heap h'->HOk X.prog X.w H h':=fun{a h'} ha hs b ob e=>by
  obtain⟨_,_,hfree⟩:=ha
  refine (I.hok b ob e).stay (fun c w' hc q=>(hs.2 c ?_).trans q) (fun _ q=>q) fun _ _ q=>q
  rintro rfl
  rcases hc with rfl|hc
  ·rw[hfree] at e;cases e
  ·rw[hfree] at hc;cases hc
 rcases hx with hk|hk
 ·refine wpAny_storeName_local hk hn (fun h' hn' hs=>?_) hcls
  obtain⟨oL,_,_,hoL,_⟩:=id hn
  refine h _ ⟨I.ok,I.os,I.bare,⟨fun b o e n hb hx=>?_,fun b o e n hb hx=>?_,I.base.free,fun b o e hx=>?_,I.base.tups,I.base.frzs,I.base.tbls⟩,⟨_,hn',fun j y v' e1 e2 e3=>?_⟩,fun y c e=>?_,I.free,I.freeC,fun p hp=>?_,tracked ⟨oL,hoL,I.free⟩ hs,by simpa using I.len⟩ ⟨_,hs,.inl rfl⟩
  ·exact (hs.2 b (Nat.ne_of_lt (Nat.lt_of_lt_of_le (Heap.lt_size e) I.ok.above))).trans (I.base.keep b o e n hb hx)
  ·obtain⟨sl,e1⟩:=I.base.slot b o e n hb hx
   exact⟨sl,(hs.2 b (Nat.ne_of_lt (Nat.lt_of_lt_of_le (Heap.lt_size e) I.ok.above))).trans e1⟩
  ·obtain⟨o',e1⟩:=I.base.there b o e hx
   exact⟨o',(hs.2 b (Nat.ne_of_lt (Nat.lt_of_lt_of_le (Heap.lt_size e) I.ok.above))).trans e1⟩
  ·by_cases hj:j=i
   ·subst hj
    rw[hi] at e1;cases e1
    rw[List.getElem?_set_self hiσ] at e2
    cases e2
    exact⟨u,r,.inl ⟨hk,by simp⟩⟩
   ·rw[List.getElem?_set_ne (Ne.symm hj)] at e2
    obtain⟨u',r',q⟩:=hl j y v' e1 e2 e3
    refine⟨u',r',?_⟩
    rcases q with⟨k,e⟩|⟨k,c,e,z⟩
    ·refine .inl ⟨k,?_⟩
     have:y≠x:=fun e=>hj (jx hN e1 (e▸hi))
     simp [this,e]
    ·exact .inr ⟨k,c,e,z.sameBut hs (cne y c e)⟩
  ·obtain⟨w',z⟩:=I.cell y c e
   exact⟨w',z.sameBut hs (cne y c e)⟩
  ·obtain⟨e,n,ne,nf,d⟩:=I.pin p hp
   exact⟨(hs.2 p.1 ne).trans e,n,ne,nf,d⟩
 ·have hfn:X.fn x=true:=by
   rcases hf with z|z
   ·exact z
   ·rw[z] at hk;cases hk
  obtain⟨c,hc⟩:=I.ok.has x (.inl hk)
  obtain⟨w',z⟩:=I.cell x c hc
  refine wpAny_storeName_cell I.ok.kind hk hc z (fun h' hc' hs=>?_)
  obtain⟨oc,hoc,hocd⟩:=id z
  refine h {s with heap:=h'} ⟨I.ok,I.os,I.bare,⟨fun b o e n hb hx=>?_,fun b o e n hb hx=>?_,I.base.free,fun b o e hx=>?_,I.base.tups,I.base.frzs,I.base.tbls⟩,⟨m,hn.sameBut hs (Ne.symm (cne x c hc)),fun j y v' e1 e2 e3=>?_⟩,fun y c' e=>?_,I.free,I.freeC,fun p hp=>?_,tracked ⟨oc,hoc,I.freeC x c hc⟩ hs,by simpa using I.len⟩ ⟨c,hs,.inr hc⟩
  ·exact (hs.2 b (Nat.ne_of_lt (Nat.lt_of_lt_of_le (Heap.lt_size e) (I.ok.cab x c hfn hc)))).trans (I.base.keep b o e n hb hx)
  ·obtain⟨sl,e1⟩:=I.base.slot b o e n hb hx
   exact⟨sl,(hs.2 b (Nat.ne_of_lt (Nat.lt_of_lt_of_le (Heap.lt_size e) (I.ok.cab x c hfn hc)))).trans e1⟩
  ·obtain⟨o',e1⟩:=I.base.there b o e hx
   exact⟨o',(hs.2 b (Nat.ne_of_lt (Nat.lt_of_lt_of_le (Heap.lt_size e) (I.ok.cab x c hfn hc)))).trans e1⟩
  ·by_cases hj:j=i
   ·subst hj
    rw[hi] at e1;cases e1
    rw[List.getElem?_set_self hiσ] at e2
    cases e2
    exact⟨u,r,.inr ⟨.inl hk,c,hc,hc'⟩⟩
   ·rw[List.getElem?_set_ne (Ne.symm hj)] at e2
    obtain⟨u',r',q⟩:=hl j y v' e1 e2 e3
    refine⟨u',r',?_⟩
    rcases q with q|⟨k,c',e,z'⟩
    ·exact .inl q
    ·refine .inr ⟨k,c',e,z'.sameBut hs ?_⟩
     rintro rfl
     exact hj (jx hN e1 (I.ok.inj _ _ _ e hc▸hi))
  ·by_cases hcc:c'=c
   ·subst hcc;exact⟨_,hc'⟩
   ·obtain⟨w2,z2⟩:=I.cell y c' e
    exact⟨w2,z2.sameBut hs hcc⟩
  ·obtain⟨e,n,ne,nf,d⟩:=I.pin p hp
   refine⟨(hs.2 p.1 ?_).trans e,n,ne,nf,d⟩
   intro q
   rw[q,hoc] at e
   have q':oc=p.2:=Option.some.inj e
   exact d w' (by rw[<-q'];exact hocd)
theorem i9 {M:Model}{A:Around}{E:Value->Shared->Prop}{i:Nat}{x:Str}{v:V}{u:Value}{Q:Unit->Shared->Prop}(I:Inv X pins σ H s)(hN:X.N.Nodup)(hi:X.N[i]?=some x)(hx:Loc X.env.scope x)(r:RelV v u)
  (h:∀s',Inv X pins (σ.set i (some v)) H s'->Q () s')(hf:X.fn x=true\/X.env.scope.names.lookup x=some .local :=by first|exact .inl rfl|exact .inr rfl|assumption):wpAny M A (storeName X.env x u) Q E s:=
 j9 I hN hi hx r (fun s' I' _=>h s' I') hf
theorem Inv.call' {s':Shared}{ch:List Addr}(I:Inv X pins σ H s)(ho:s'.os=s.os)(u:Un (frs X.stack) ch H H' s.heap s'.heap)(hok:HOk X.prog X.w H' s'.heap)(hg:AllBare s'.gens)
  (hch: ∀b∈ch,(b∈X.ex\/X.s₀.heap.objs.size<=b)/\b≠X.env.locals/\(∀x c,X.env.cells.lookup x=some c->c≠b)/\ ∀p∈X.pn++pins,p.1≠b):Inv X pins σ H' s':=by
 obtain⟨h',g',d',t',o'⟩:=s'
 have e:o'=s.os:=ho
 subst e
 exact I.call (g':=g') (t':=t') (d':=d') u hok hg hch
end
noncomputable abbrev XK:=Value->Option Addr->Hp->Prop
noncomputable abbrev St:=List (Option V)
noncomputable abbrev VK:=V->Hp->Prop
noncomputable abbrev TE:=St->Hp->VK->Prop
noncomputable abbrev TT:=St->Hp->(Bool->Hp->Prop)->Prop
noncomputable abbrev TA:=St->Hp->(List V->Hp->Prop)->Prop
structure Ends where
 nx:St->Hp->Prop
 rt:VK
 bk:St->Hp->Prop:=fun _ _=>False
 ct:St->Hp->Prop:=fun _ _=>False
noncomputable abbrev TS:=Ends->St->Hp->Prop
def EP (X:Cx)(pins:List (Addr×Obj))(σ:St)(Q:VK)(u:Value)(s':Shared):Prop:= ∃v H',Inv X pins σ H' s'/\RelV v u/\Q v H'
def TP (X:Cx)(pins:List (Addr×Obj))(σ:St)(Q:Bool->Hp->Prop)(b:Bool)(s':Shared):Prop:= ∃H',Inv X pins σ H' s'/\Q b H'
def AP (X:Cx)(pins:List (Addr×Obj))(σ:St)(Q:List V->Hp->Prop)(us:List Value)(s':Shared):Prop:= ∃vs H',Inv X pins σ H' s'/\Vals vs us/\Q vs H'
def SP (X:Cx)(pins:List (Addr×Obj))(D:Ends)(f:Flow)(s':Shared):Prop:=
 match f with
 |.next=> ∃σ' H',Inv X pins σ' H' s'/\D.nx σ' H'
 |.brk=> ∃σ' H',Inv X pins σ' H' s'/\D.bk σ' H'
 |.cont=> ∃σ' H',Inv X pins σ' H' s'/\D.ct σ' H'
 |.ret u=> ∃v σ' H',Inv X pins σ' H' s'/\RelV v u/\D.rt v H'
def PE (X:Cx)(e:Expr)(t:TE):Prop:=
 ∀ (pins:List (Addr×Obj)) (s:Shared) (σ:St) (H:Hp) (Q:VK),Inv X pins σ H s->t σ H Q->wpAny (model X.prog X.w) X.A (eval e X.env) (EP X pins σ Q) X.xe s
def PT (X:Cx)(e:Expr)(t:TT):Prop:=
 ∀ (pins:List (Addr×Obj)) (s:Shared) (σ:St) (H:Hp) (Q:Bool->Hp->Prop),Inv X pins σ H s->t σ H Q->wpAny (model X.prog X.w) X.A (isTrue e X.env (eval e X.env)) (TP X pins σ Q) X.xe s
def PW (X:Cx)(e:Expr)(t:TT):Prop:=
 ∀ (whole:Sem Value) (pins:List (Addr×Obj)) (s:Shared) (σ:St) (H:Hp) (Q:Bool->Hp->Prop),Inv X pins σ H s->t σ H Q->wpAny (model X.prog X.w) X.A (isTrue e X.env whole) (TP X pins σ Q) X.xe s
theorem PW.pt {X:Cx}{e:Expr}{t:TT}(h:PW X e t):PT X e t:=h _
def PA (X:Cx)(es:List Expr)(t:TA):Prop:=
 ∀ (pos:Pos) (pins:List (Addr×Obj)) (s:Shared) (σ:St) (H:Hp) (Q:List V->Hp->Prop),Inv X pins σ H s->t σ H Q->wpAny (model X.prog X.w) X.A (spliced (backTo pos (starEach es X.env))) (AP X pins σ Q) X.xe s
def PS (X:Cx)(st:Stmt)(t:TS):Prop:=
 ∀ (pins:List (Addr×Obj)) (s:Shared) (σ:St) (H:Hp) (D:Ends),Inv X pins σ H s->t D σ H->wpAny (model X.prog X.w) X.A (exec st X.env) (SP X pins D) X.xe s
def PSs (X:Cx)(st:List Stmt)(t:TS):Prop:=
 ∀ (pins:List (Addr×Obj)) (s:Shared) (σ:St) (H:Hp) (D:Ends),Inv X pins σ H s->t D σ H->wpAny (model X.prog X.w) X.A (execs st X.env) (SP X pins D) X.xe s
theorem thn {α:Type}{t:Sem α}{Q Q':α->Shared->Prop}{M:Model}{A:Around}{E:Value->Shared->Prop}{s:Shared}(h:wpAny M A t Q E s)(hQ: ∀a s,Q a s->Q' a s):wpAny M A t Q' E s:=wpAny_mono h hQ fun _ _ x=>x
end
section
section
variable {X:Cx}
theorem bin {a b:Expr}{ta tb:TE}(ha:PE X a ta)(hb:PE X b tb){pins:List (Addr×Obj)}{s:Shared}{σ:St}{H:Hp}{R:V->V->Hp->Prop}(I:Inv X pins σ H s)(h:ta σ H fun x H1=>tb σ H1 fun y H2=>R x y H2)
  {α:Type}{Q:α->Shared->Prop}{f:Value->Value->Sem α}
  (hf: ∀v u s2 x y H2,Inv X pins σ H2 s2->RelV x v->RelV y u->R x y H2->wpAny (model X.prog X.w) X.A (f v u) Q X.xe s2):
  wpAny (model X.prog X.w) X.A (eval a X.env) (fun v s₁=>wpAny (model X.prog X.w) X.A (eval b X.env) (fun u s₂=>wpAny (model X.prog X.w) X.A (f v u) Q X.xe s₂) X.xe s₁) X.xe s:=by
 refine thn (ha pins s σ H _ I h) fun v s1 qz=>?_
 obtain⟨x,H1,I1,r1,q1⟩:=qz
 refine thn (hb pins s1 σ H1 _ I1 q1) fun u s2 qz=>?_
 obtain⟨y,H2,I2,r2,q2⟩:=qz
 exact hf v u s2 x y H2 I2 r1 r2 q2
def tVar (i:Nat):TE:=fun σ H Q=> ∃v,σ[i]?=some (some v)/\Q v H
def tC (v:V):TE:=fun _ H Q=>Q v H
theorem xc {i:Nat}{x:Str}{pos:Pos}(hN:X.N[i]?=some x)(hv:Vis X.env.scope x)(hd:(x==("__debug__":Str))=false:=by decide)(hcd:(x==("__classdict__":Str))=false:=by decide):PE X (.Name x pos) (tVar i):=by
 intro pins s σ H Q I h
 obtain⟨v,e,h⟩:=h
 obtain⟨m,hn,hl⟩:=I.loc
 obtain⟨u,r,l⟩:=hl i x v hN e hv
 have fin:EP X pins σ Q u s:=⟨v,H,I,r,h⟩
 rcases l with⟨hk,hm⟩|⟨hk,c,hc,hcell⟩
 ·exact wpAny_Name (wpAny_loadName_local I.ok.kind hk hn hm fin) hd
 ·rcases hk with hk|hk
  ·exact wpAny_Name (wpAny_loadName_cell I.ok.kind hk hc hcell fin) hd
  ·exact wpAny_Name (wpAny_loadName_free I.ok.kind hk hc hcell fin hcd) hd
theorem pe_int {i j pos}:PE X (.Constant (.int i) j pos) (tC (.int i)):=fun _ _ _ H _ I h=>wpAny_Constant_int ⟨.int i,H,I.tok _,⟨_,rfl⟩,h⟩
theorem pe_bl {b j pos}:PE X (.Constant (.bool b) j pos) (tC (.bl b)):=fun _ _ _ H _ I h=>Constant_bool ⟨.bl b,H,I,rfl,h⟩
theorem pe_str {x j pos}:PE X (.Constant (.str x) j pos) (tC (.str x)):=fun _ _ _ H _ I h=>Calls.Constant_str ⟨.str x,H,I.tok _,⟨_,rfl⟩,h⟩
noncomputable def Gl (X:Cx)(x:Str):Prop:=X.env.kindOf x=some .globalImplicit
theorem fE {E:Value->Shared->Prop}{pins:List (Addr×Obj)}{s:Shared}{σ:St}{H:Hp}{x:Str}{u:Value}{pos:Pos}{Q:Value->Shared->Prop}(I:Inv X pins σ H s)(hg:Gl X x)(hm:X.mg x=some u)(h:Q u s)
  (hd:(x==("__debug__":Str))=false:=by decide):wpAny (model X.prog X.w) X.A (eval (.Name x pos) X.env) Q E s:=
 Calls.Name_function_global I.ok.kind hg (Calls.loadGlobal_global (by rw[I.ok.glob];exact I.mod.glob.keeps I.bk) hm h) hd
theorem lr {E:Value->Shared->Prop}{pins:List (Addr×Obj)}{s:Shared}{σ:St}{H:Hp}{x:Str}{u:Value}{pos:Pos}{Q:Value->Shared->Prop}(I:Inv X pins σ H s)(hg:Gl X x)(hm:X.mg x=none)(hv:bootBuiltins x=some u)(h:Q u s)
  (hn:x≠ "__name__":=by decide)(hd:(x==("__debug__":Str))=false:=by decide):wpAny (model X.prog X.w) X.A (eval (.Name x pos) X.env) Q E s:=by
 obtain⟨mb,h1,h2⟩:=I.mod.blt
 exact Calls.Name_function_global I.ok.kind hg (Calls.loadGlobal_builtin (by rw[I.ok.glob];exact I.mod.glob.keeps I.bk) hm (by rw[I.ok.blt];exact h1.keeps I.bk) ((h2 x hn).trans hv) h) hd
theorem cN {x:Str}{v:V}{u:Value}{pos:Pos}(hg:Gl X x)(hm:X.mg x=some u)(r:RelV v u)(hd:(x==("__debug__":Str))=false:=by decide):PE X (.Name x pos) (tC v):=
 fun _ _ _ H _ I h=>fE I hg hm ⟨v,H,I,r,h⟩ hd
theorem uG {x:Str}{v:V}{u:Value}{pos:Pos}(hg:Gl X x)(hm:X.mg x=none)(hv:bootBuiltins x=some u)(r:RelV v u)(hn:x≠ "__name__":=by decide)(hd:(x==("__debug__":Str))=false:=by decide):PE X (.Name x pos) (tC v):=
 fun _ _ _ H _ I h=>lr I hg hm hv ⟨v,H,I,r,h⟩ hn hd
variable {a b:Expr}{ta tb:TE}{pos:Pos}
def PC (X:Cx)(op:CmpOp)(a b:Expr)(t:TE):Prop:=
 ∀ (pins:List (Addr×Obj)) (s:Shared) (σ:St) (H:Hp) (Q:VK),Inv X pins σ H s->t σ H Q->
   wpAny (model X.prog X.w) X.A (eval a X.env) (fun v s₁=>wpAny (model X.prog X.w) X.A (eval b X.env) (fun u s₂=>wpAny (model X.prog X.w) X.A (compareOp op v u) (EP X pins σ Q) X.xe s₂) X.xe s₁) X.xe s
def tB (t:TE):TT:=fun σ H Q=>t σ H fun x H1=> ∃c,x=.bl c/\Q c H1
theorem z0 {op:CmpOp}{t:TE}(h:PC X op a b t)(h1:behindInMarks op b=false:=by first|exact nobehind _ (by decide) (by decide)|rfl):PT X (.Compare a [op] [b] pos) (tB t):=by
 intro pins s σ H Q I hw
 refine wpAny_isTrue_Compare1 (thn (h pins s σ H _ I hw) fun v s1 h1=>thn h1 fun u s2 h2=>thn h2 fun c s3 qz=>?_) h1
 obtain⟨x,H1,I1,r1,q1⟩:=qz
 obtain⟨d,rfl,q⟩:=q1
 cases r1
 exact wpAny_truthy_bool ⟨H1,I1,q⟩
theorem ft {e:Expr}{t:TE}(h:PE X e t)(he: ∀whole,isTrue e X.env whole=(do let v<-whole;standAt e.pos;holding [v] (truthy v)):=by intro _;rfl):PT X e (tB t):=by
 intro pins s σ H Q I hw
 refine isTrue_plain (thn (h pins s σ H _ I hw) fun v s1 qz=>?_) (he _)
 obtain⟨x,H1,I1,r1,q1⟩:=qz
 obtain⟨d,rfl,q⟩:=q1
 cases r1
 exact wpAny_truthy_bool ⟨H1,I1,q⟩
variable {tA tB':TT}{rest:List Expr}
def tAnd (t u:TT):TT:=fun σ H Q=>t σ H fun c H1=>if c=true then u σ H1 Q else Q false H1
def tOr (t u:TT):TT:=fun σ H Q=>t σ H fun c H1=>if c=true then Q true H1 else u σ H1 Q
def tNot (t:TT):TT:=fun σ H Q=>t σ H fun c H1=>Q (!c) H1
theorem oZ (ha:PT X a tA):PW X (.BoolOp .And [a] pos) tA:=by
 intro wh pins s σ H Q I h
 refine isTrue_and (thn (ha pins s σ H Q I h) fun c s1 e=>?_)
 cases c with
 |true=>exact isTrue_and_nil e
 |false=>exact e
theorem nY (ha:PT X a tA):PW X (.BoolOp .Or [a] pos) tA:=by
 intro wh pins s σ H Q I h
 refine isTrue_or (thn (ha pins s σ H Q I h) fun c s1 e=>?_)
 cases c with
 |false=>exact isTrue_or_nil e
 |true=>exact e
theorem rH (ha:PT X a tA)(hb:PW X (.BoolOp .And (b::rest) pos) tB'):PW X (.BoolOp .And (a::b::rest) pos) (tAnd tA tB'):=by
 intro wh pins s σ H Q I h
 refine isTrue_and (thn (ha pins s σ H _ I h) fun c s1 qz=>?_)
 obtain⟨H1,I1,q1⟩:=qz
 cases c with
 |true=>exact hb wh pins s1 σ H1 Q I1 q1
 |false=>exact⟨H1,I1,q1⟩
theorem rF (ha:PT X a tA)(hb:PW X (.BoolOp .Or (b::rest) pos) tB'):PW X (.BoolOp .Or (a::b::rest) pos) (tOr tA tB'):=by
 intro wh pins s σ H Q I h
 refine isTrue_or (thn (ha pins s σ H _ I h) fun c s1 qz=>?_)
 obtain⟨H1,I1,q1⟩:=qz
 cases c with
 |true=>exact⟨H1,I1,q1⟩
 |false=>exact hb wh pins s1 σ H1 Q I1 q1
theorem oa (ha:PT X a tA):PT X (.UnaryOp .Not a pos) (tNot tA):=by
 intro pins s σ H Q I h
 exact isTrue_not (ha pins s σ H (fun c H1=>Q (!c) H1) I h)
def tAndV (ta tb:TE):TE:=fun σ H Q=>ta σ H fun x H1=> ∃c,x=.bl c/\if c=true then tb σ H1 Q else Q (.bl false) H1
def tNotV (ta:TE):TE:=fun σ H Q=>ta σ H fun x H1=> ∃c,x=.bl c/\Q (.bl (!c)) H1
theorem rO {op}{t:TE}(h:PE X a t):PE X (.BoolOp op [a] pos) t:=fun pins s σ H Q I hw=>BoolOp_one (h pins s σ H Q I hw)
theorem rT (ha:PE X a ta)(hb:PE X (.BoolOp .And (b::rest) pos) tb):PE X (.BoolOp .And (a::b::rest) pos) (tAndV ta tb):=by
 intro pins s σ H Q I h
 refine BoolOp_and (thn (ha pins s σ H _ I h) fun v s1 qz=>?_)
 obtain⟨x,H1,I1,r1,q1⟩:=qz
 obtain⟨c,rfl,q1⟩:=q1
 cases r1
 refine wpAny_truthy_bool ?_
 cases c with
 |true=>exact hb pins s1 σ H1 Q I1 q1
 |false=>exact⟨.bl false,H1,I1,rfl,q1⟩
theorem rP (ha:PE X a ta):PE X (.UnaryOp .Not a pos) (tNotV ta):=by
 intro pins s σ H Q I h
 refine UnaryOp_ (thn (ha pins s σ H _ I h) fun v s1 qz=>?_)
 obtain⟨x,H1,I1,r1,q1⟩:=qz
 obtain⟨c,rfl,q1⟩:=q1
 cases r1
 exact not_of (wpAny_truthy_bool ⟨.bl (!c),H1,I1,rfl,q1⟩)
end
end
section
def SqL (K:PySem.W.Frag)(H:Hp)(a:Addr)(xs:List V):Prop:=
 Rd H a (.lst xs)\/
  ∃ (o:Obj) (its:Array Value) (n:Nat),K.lookup a=some o/\o.cls=.type "list"/\o.dict=none/\o.data=.seq its n/\its.size<=sizeLine/\Vals xs its.toList
def SqT (K:PySem.W.Frag)(H:Hp)(a:Addr)(xs:List V):Prop:=
 Rd H a (.tup xs)\/
  ∃ (o:Obj) (its:Array Value) (n:Nat),K.lookup a=some o/\o.cls=.type "tuple"/\o.data=.seq its n/\its.size<=sizeLine/\Vals xs its.toList
noncomputable def absV:Value->Option V
 |.none=>some .non
 |.bool b=>some (.bl b)
 |.int i _=>some (.int i)
 |.str x _=>some (.str x)
 |.bytes b _=>some (.byt b)
 |.float b _=>some (.flt b)
 |.ref a=>some (.ref a)
 |.type n=>some (.ty n)
 |_=>none
theorem RelV.abs {x:V}{u:Value}(r:RelV x u):absV u=some x:=by
 cases x with
 |non=>cases r;rfl
 |bl _=>cases r;rfl
 |int _=>obtain⟨t,rfl⟩:=r;rfl
 |str _=>obtain⟨t,rfl⟩:=r;rfl
 |byt _=>obtain⟨t,rfl⟩:=r;rfl
 |flt _=>obtain⟨t,rfl⟩:=r;rfl
 |ref _=>cases r;rfl
 |ty _=>cases r;rfl
theorem RelV.inj {x y:V}{u:Value}(r:RelV x u)(q:RelV y u):x=y:=Option.some.inj (r.abs.symm.trans q.abs)
theorem Vals.inj: ∀ {xs ys:List V}{us:List Value},Vals xs us->Vals ys us->xs=ys
 :=by
 intro xs ys us h
 induction h generalizing ys with
 |nil=>intro g;cases g;rfl
 |cons r t ih=>
  intro g
  cases g with
  |cons r' t'=>rw[r.inj r',ih t']
section
variable {X:Cx}{pins:List (Addr×Obj)}{σ:St}{H:Hp}{s:Shared}{a:Addr}{xs ys:List V}
theorem SqL.of {K:PySem.W.Frag}(h:H a=some (.lst xs)):SqL K H a xs:=.inl (.inl h)
theorem SqT.of {K:PySem.W.Frag}(h:H a=some (.tup xs)):SqT K H a xs:=.inl (.inl h)
theorem Inv.list (I:Inv X pins σ H s)(h:SqL X.K H a xs): ∃its:List Value,Vals xs its/\PlainL s.heap a its.toArray/\xs.length<=sizeLine:=by
 rcases h with h|⟨o,its,n,hk,hc,hd,hs,hz,r⟩
 ·obtain⟨z,its,n,r,e⟩:=h.ok I.hok
  exact⟨its,r,⟨_,n,e,rfl,rfl,rfl⟩,z⟩
 ·refine⟨its.toList,r,⟨o,n,I.kIn a o hk,hc,hd,by simpa using hs⟩,?_⟩
  have e:=r.length
  simp only[Array.length_toList] at e
  omega
theorem Inv.tuple (I:Inv X pins σ H s)(h:SqT X.K H a xs): ∃its:List Value,Vals xs its/\IsTup s.heap a its.toArray/\xs.length<=sizeLine:=by
 rcases h with h|⟨o,its,n,hk,hc,hs,hz,r⟩
 ·obtain⟨z,its,r,p⟩:=h.ok I.hok
  exact⟨its,r,p.1,z⟩
 ·refine⟨its.toList,r,⟨o,I.kIn a o hk,hc,n,by simpa using hs⟩,?_⟩
  have e:=r.length
  simp only[Array.length_toList] at e
  omega
theorem Inv.list_inj (I:Inv X pins σ H s)(h:SqL X.K H a xs)(h':SqL X.K H a ys):xs=ys:=by
 obtain⟨its,r,⟨o,n,e,_,_,d⟩,_⟩:=I.list h
 obtain⟨its',r',⟨o',n',e',_,_,d'⟩,_⟩:=I.list h'
 rw[e] at e';cases e'
 rw[d] at d'
 injection d' with d1 _
 have:its=its':=by simpa using congrArg Array.toList d1
 subst this
 exact r.inj r'
theorem Inv.tuple_inj (I:Inv X pins σ H s)(h:SqT X.K H a xs)(h':SqT X.K H a ys):xs=ys:=by
 obtain⟨its,r,⟨o,e,_,n,d⟩,_⟩:=I.tuple h
 obtain⟨its',r',⟨o',e',_,n',d'⟩,_⟩:=I.tuple h'
 rw[e] at e';cases e'
 rw[d] at d'
 injection d' with d1 _
 have:its=its':=by simpa using congrArg Array.toList d1
 subst this
 exact r.inj r'
end
noncomputable abbrev Cx.wish (X:Cx)(E:Value->Shared->Prop):Cx:={X with xe:=E}
noncomputable abbrev Cx.nox (X:Cx):Cx:=X.wish fun _ _=>False
theorem Cx.Ok.wish {X:Cx}(ok:X.Ok)(E:Value->Shared->Prop):(X.wish E).Ok:=
 ⟨ok.mod,ok.kind,ok.glob,ok.blt,ok.above,ok.inj,ok.has,ok.cab,ok.hd,ok.frames,ok.stk,ok.exf,ok.bs,ok.bsz,ok.noex,ok.exfs,ok.funs,ok.frf⟩
theorem Cx.Ok.unwish {X:Cx}{E:Value->Shared->Prop}(ok:(X.wish E).Ok):X.Ok:=
 ⟨ok.mod,ok.kind,ok.glob,ok.blt,ok.above,ok.inj,ok.has,ok.cab,ok.hd,ok.frames,ok.stk,ok.exf,ok.bs,ok.bsz,ok.noex,ok.exfs,ok.funs,ok.frf⟩
section
variable {X:Cx}{pins:List (Addr×Obj)}{σ:St}{H:Hp}{s:Shared}{E:Value->Shared->Prop}
theorem Inv.wish (I:Inv X pins σ H s)(E:Value->Shared->Prop):Inv (X.wish E) pins σ H s:=⟨I.ok.wish E,I.os,I.bare,I.base,I.loc,I.cell,I.free,I.freeC,I.pin,I.hok,I.len⟩
theorem Inv.unwish (I:Inv (X.wish E) pins σ H s):Inv X pins σ H s:=⟨I.ok.unwish,I.os,I.bare,I.base,I.loc,I.cell,I.free,I.freeC,I.pin,I.hok,I.len⟩
theorem SP.unwish {D:Ends}{f:Flow}{s':Shared}(h:SP (X.wish E) pins D f s'):SP X pins D f s':=by
 cases f with
 |next=>obtain⟨σ',H',I,q⟩:=h;exact⟨σ',H',I.unwish,q⟩
 |brk=>obtain⟨σ',H',I,q⟩:=h;exact⟨σ',H',I.unwish,q⟩
 |cont=>obtain⟨σ',H',I,q⟩:=h;exact⟨σ',H',I.unwish,q⟩
 |ret u=>obtain⟨v,σ',H',I,r,q⟩:=h;exact⟨v,σ',H',I.unwish,r,q⟩
theorem PSs.nox {st:List Stmt}{t:TS}(h:PSs X.nox st t):PSs X st t:=fun pins s σ H D I hw=>
 wpAny_mono (h pins s σ H D (I.wish _) hw) (fun _ _ q=>q.unwish) fun _ _ z=>False.elim z
end
section
variable {X:Cx}{st:Stmt}{rest:List Stmt}{t u:TS}{e:Expr}{te:TE}{pos:Pos}
def tNext:TS:=fun D σ H=>D.nx σ H
def tSeq (t u:TS):TS:=fun D σ H=>t {D with nx:=u D} σ H
theorem pss_nil:PSs X [] tNext:=fun _ _ σ H _ I h=>wpAny_execs_nil ⟨σ,H,I,h⟩
theorem aB (h1:PS X st t)(h2:PSs X rest u):PSs X (st::rest) (tSeq t u):=by
 intro pins s σ H D I h
 refine wpAny_execs_cons (thn (h1 pins s σ H {D with nx:=u D} I h) fun f s1 q=>?_)
 cases f with
 |next=>
  obtain⟨σ',H',I',q⟩:=q
  exact h2 pins s1 σ' H' D I' q
 |ret v=>exact q
 |brk=>exact q
 |cont=>exact q
theorem aK (h1:PS X st t):PSs X [st] t:=by
 intro pins s σ H D I h
 refine wpAny_execs_cons (thn (h1 pins s σ H D I h) fun f s1 q=>?_)
 cases f with
 |next=>exact wpAny_execs_nil q
 |ret v=>exact q
 |brk=>exact q
 |cont=>exact q
theorem Inv.quiet {pins:List (Addr×Obj)}{σ:St}{H:Hp}{s:Shared}(I:Inv X pins σ H s):interactive X.env=false:=by simp [interactive,I.ok.kind]
def tDrop (te:TE):TS:=fun D σ H=>te σ H fun _ H1=>D.nx σ H1
theorem iY (he:PE X e te)(hs:swapsWith e none pos.line X.env=pure false:=by rfl):PS X (.Expr e pos) (tDrop te):=by
 intro pins s σ H D I h
 exact wpAny_Expr_any (thn (he pins s σ H _ I h) fun v s1 ⟨x,H1,I1,r1,q1⟩=>⟨σ,H1,I1,q1⟩) I.quiet hs
def tRet (te:TE):TS:=fun D σ H=>te σ H D.rt
theorem cn (he:PE X e te):PS X (.Return (some e) pos) (tRet te):=by
 intro pins s σ H D I h
 exact wpAny_Return_some (thn (he pins s σ H _ I h) fun v s1 ⟨x,H1,I1,r1,q1⟩=>⟨x,σ,H1,I1,r1,q1⟩)
def tIfS (c:TT)(t u:TS):TS:=fun D σ H=>c σ H fun b H1=>if b=true then t D σ H1 else u D σ H1
theorem f9 {c:Expr}{a b:List Stmt}{tc:TT}(hc:PT X c tc)(ha:PSs X a t)(hb:PSs X b u):PS X (.If c a b pos) (tIfS tc t u):=by
 intro pins s σ H D I h
 refine wpAny_If (thn (hc pins s σ H _ I h) fun d s1 qz=>?_)
 obtain⟨H1,I1,q1⟩:=qz
 cases d with
 |true=>exact ha pins s1 σ H1 D I1 q1
 |false=>exact hb pins s1 σ H1 D I1 q1
def wG:TS:=fun _ _ _=>False
theorem qf {sts:List Stmt}:PSs X sts wG:=fun _ _ _ _ _ _ h=>h.elim
end
noncomputable abbrev TG:=V->St->Hp->(St->Hp->Prop)->Prop
noncomputable abbrev TGs:=List V->St->Hp->(St->Hp->Prop)->Prop
def PG (X:Cx)(target:Expr)(t:TG):Prop:=
 ∀ (pins:List (Addr×Obj)) (s:Shared) (σ:St) (H:Hp) (v:V) (u:Value) (Q:St->Hp->Prop),Inv X pins σ H s->RelV v u->t v σ H Q->
   wpAny (model X.prog X.w) X.A (assign target X.env u) (fun _ s'=> ∃σ' H',Inv X pins σ' H' s'/\Q σ' H') X.xe s
def PGs (X:Cx)(ts:List Expr)(t:TGs):Prop:=
 ∀ (pins:List (Addr×Obj)) (s:Shared) (σ:St) (H:Hp) (vs:List V) (us:List Value) (Q:St->Hp->Prop),Inv X pins σ H s->Vals vs us->t vs σ H Q->
   wpAny (model X.prog X.w) X.A (assignInOrder ((assignEach ts X.env).map (·.2)) us) (fun _ s'=> ∃σ' H',Inv X pins σ' H' s'/\Q σ' H') X.xe s
section
variable {X:Cx}{pos:Pos}
def gName (i:Nat):TG:=fun v σ H Q=>Q (σ.set i (some v)) H
theorem cE {i:Nat}{x:Str}(hN:X.N.Nodup)(hi:X.N[i]?=some x)(hx:Loc X.env.scope x)(hf:X.fn x=true\/X.env.scope.names.lookup x=some .local :=by first|exact .inl rfl|exact .inr rfl|assumption):PG X (.Name x pos) (gName i):=by
 intro pins s σ H v u Q I r h
 exact wpAny_assign_Name (i9 I hN hi hx r (fun s' I'=>⟨_,H,I',h⟩) hf)
def gNil:TGs:=fun vs σ H Q=>vs=[]/\Q σ H
def gCons (t:TG)(u:TGs):TGs:=fun vs σ H Q=> ∃v r,vs=v::r/\t v σ H fun σ' H'=>u r σ' H' Q
theorem o4:PGs X [] gNil:=by
 intro pins s σ H vs us Q I r h
 obtain⟨e,h⟩:=h
 subst e
 cases r
 exact assignInOrder_nil ⟨σ,H,I,h⟩
theorem jo {e:Expr}{es:List Expr}{t:TG}{u:TGs}(h1:PG X e t)(h2:PGs X es u)
  (hs:(assignEach (e::es) X.env).map (·.2)=assign e X.env::(assignEach es X.env).map (·.2):=by rfl):PGs X (e::es) (gCons t u):=by
 intro pins s σ H vs us Q I r h
 obtain⟨v,vr,e1,h⟩:=h
 subst e1
 cases r with
 |cons r rr=>
  rw[hs]
  refine assignInOrder_cons (thn (h1 pins s σ H _ _ _ I r h) fun _ s1 qz=>?_)
  obtain⟨σ1,H1,I1,q1⟩:=qz
  exact h2 pins s1 σ1 H1 _ _ Q I1 rr q1
def gTup (K:PySem.W.Frag)(n:Nat)(t:TGs):TG:=fun v σ H Q=> ∃a xs,v=.ref a/\SqT K H a xs/\xs.length=n/\t xs σ H Q
theorem ol {es:List Expr}{k:Nat}{t:TGs}{n:Nat}(hc:X.calm=true)(h:PGs X es t)
  (hn:(assignEach es X.env).length=n:=by rfl)(hst:(assignEach es X.env).findIdx? (·.1)=none:=by rfl):PG X (.Tuple es k pos) (gTup X.K n t):=by
 intro pins s σ H v u Q I r hw
 obtain⟨a,xs,e1,hq,hl,hw⟩:=hw
 subst e1
 cases r
 obtain⟨its,rv,ht,hz⟩:=I.tuple hq
 refine assign_Tuple_tuple (I.ok.hd hc) ht (by simp [hn,<-hl,rv.length]) hst fun h' hx=>?_
 have I1:Inv X pins σ H {s with heap:=h'}:=I.kept (t':=s.toks) fun b o e=>hx b o (Nat.ne_of_lt (Heap.lt_size e)) e
 exact h pins _ σ H xs _ Q I1 (by simpa using rv) hw
def tAsg (te:TE)(g:TG):TS:=fun D σ H=>te σ H fun x H1=>g x σ H1 D.nx
theorem wZ {tg e:Expr}{te:TE}{g:TG}(he:PE X e te)(hg:PG X tg g)(hs:swapsWithSole [tg] e pos.line X.env=pure false:=by rfl)(hw:swappedStores [tg] e X.env=pure none:=by rfl)
  (h1:(assignEach [tg] X.env).map (·.2)=[assign tg X.env]:=by rfl):PS X (.Assign [tg] e pos) (tAsg te g):=by
 intro pins s σ H D I h
 refine wpAny_Assign_stores (thn (he pins s σ H _ I h) fun v s1 qz=>?_) hs hw
 obtain⟨x,H1,I1,r1,q1⟩:=qz
 rw[h1]
 exact thn (hg pins s1 σ H1 x v _ I1 r1 q1) fun _ s2 q=>q
theorem dh {i:Nat}{x:Str}{e:Expr}{te:TE}{pos':Pos}(hN:X.N.Nodup)(hi:X.N[i]?=some x)(hx:Loc X.env.scope x)(he:PE X e te)(hs:swapsWith e (some (.Name x pos')) pos.line X.env=pure false:=by rfl)(hf:X.fn x=true\/X.env.scope.names.lookup x=some .local :=by first|exact .inl rfl|exact .inr rfl|assumption):
  PS X (.Assign [.Name x pos'] e pos) (tAsg te (gName i)):=by
 intro pins s σ H D I h
 refine wpAny_Assign_Name (thn (he pins s σ H _ I h) fun v s1 qz=>?_) hs
 obtain⟨y,H1,I1,r1,q1⟩:=qz
 exact i9 I1 hN hi hx r1 (fun s2 I2=>⟨_,H1,I2,q1⟩) hf
end
section
variable {X:Cx}{pos:Pos}
def wz (c:TT)(tb:TS):TS:=fun D σ H=> ∃W:Nat->St->Hp->Prop,(∃m,W m σ H)/\ ∀m σ H,W m σ H->
 c σ H fun b H1=>if b=true then∃N:St->Hp->Prop,(∀σ' H',N σ' H'-> ∃m',m'<m/\W m' σ' H')/\tb {D with nx:=N,ct:=N,bk:=D.nx} σ H1 else D.nx σ H1
theorem jk {c:Expr}{body:List Stmt}{tc:TT}{tb:TS}(hp:PassesOwn (model X.prog X.w) X.A X.env X.xe)(hc:PT X c tc)(hb:PSs X body tb):PS X (.While c body [] pos) (wz tc tb):=by
 intro pins s σ H D I h
 obtain⟨W,⟨m0,w0⟩,turn⟩:=h
 refine wpAny_While (codeAny_whileLoop (fun n s'=> ∃σ' H',Inv X pins σ' H' s'/\W n σ' H') ?_ m0 ⟨σ,H,I,w0⟩)
 rintro n s1 ⟨σ1,H1,I1,w1⟩
 refine wpAny_passesOwn hp (thn (hc pins s1 σ1 H1 _ I1 (turn n σ1 H1 w1)) fun b s2 qz=>?_)
 obtain⟨H2,I2,q2⟩:=qz
 cases b with
 |true=>
  obtain⟨N,hN,q2⟩:=q2
  rw[if_pos rfl]
  refine wpAny_passesOwn hp (thn (hb pins s2 σ1 H2 _ I2 q2) fun f s3 q3=>?_)
  cases f with
  |next=>
   obtain⟨σ3,H3,I3,n3⟩:=q3
   obtain⟨m',hm,w3⟩:=hN σ3 H3 n3
   exact⟨m',hm,σ3,H3,I3,w3⟩
  |cont=>
   obtain⟨σ3,H3,I3,n3⟩:=q3
   obtain⟨m',hm,w3⟩:=hN σ3 H3 n3
   exact⟨m',hm,σ3,H3,I3,w3⟩
  |brk=>exact q3
  |ret v=>exact q3
 |false=>
  rw[if_neg Bool.false_ne_true]
  exact wpAny_execs_nil ⟨σ1,H2,I2,q2⟩
end
structure It where
 go:Nat->Hp->Prop
 yld:Nat->Hp->V->Hp->Prop
 stop:Nat->Hp->Prop
def FpOk (X:Cx)(pins:List (Addr×Obj))(H:Hp)(b:Addr):Prop:=
 H b=none/\b≠X.env.locals/\b ∉ X.fs/\(b∈X.ex\/X.s₀.heap.objs.size<=b)/\(∀x c,X.env.cells.lookup x=some c->c≠b)/\ ∀p∈X.pn++pins,p.1≠b
theorem Inv.fpOk {X:Cx}{pins:List (Addr×Obj)}{σ:St}{H H':Hp}{s:Shared}{b:Addr}(I:Inv X pins σ H s)(hb:s.heap.objs.size<=b)(hn:H' b=none):FpOk X pins H' b:=by
 refine⟨hn,Nat.ne_of_gt (Nat.lt_of_lt_of_le I.lt hb),I.nofs hb,.inr (Nat.le_trans I.sz hb),fun x c e z=>?_,fun p hp z=>?_⟩
 ·obtain⟨v,q⟩:=I.cell x c e
  exact absurd (Nat.lt_of_lt_of_le q.lt (by rw[z];exact hb)) (Nat.lt_irrefl _)
 ·exact absurd (Nat.lt_of_lt_of_le (Heap.lt_size (I.pin p hp).1) (by rw[z];exact hb)) (Nat.lt_irrefl _)
structure Turn (P:Program)(w:World)(K:PySem.W.Frag)(tg:Expr)(J:It)(fp:List Addr)(it:Addr)(tn:Nat->Heap->Prop):Prop where
 mem:it∈fp
 obj: ∀i h,tn i h-> ∀b∈fp,∃o,h.get? b=some o/\ ∀v,o.data≠.cell v
 keep: ∀i h h',tn i h->(∀b∈fp,∀o,h.get? b=some o->h'.get? b=some o)->tn i h'
 item: ∀ (X:Cx),X.prog=P->X.w=w->X.K=K->X.calm=true-> ∀ (i:Nat) (pins:List (Addr×Obj)) (s:Shared) (σ:St) (H:Hp) (E:Value->Shared->Prop),Inv X pins σ H s->(∀b∈fp,FpOk X pins H b)->tn i s.heap->J.go i H->
  wpAny (model P w) X.A (pyNext (.ref it)) (fun r s1=> ∃u,r=some u/\
   wpAny (model P w) X.A (letOwnedTupleGo tg (.ref it) u) (fun _ s2=> ∃x H',Inv X pins σ H' s2/\RelV x u/\J.yld i H x H'/\tn (i+1) s2.heap/\ ∀b∈fp,H' b=none) E s1) E s
 done: ∀ (X:Cx),X.prog=P->X.w=w->X.K=K->X.calm=true-> ∀ (i:Nat) (pins:List (Addr×Obj)) (s:Shared) (σ:St) (H:Hp) (E:Value->Shared->Prop),Inv X pins σ H s->(∀b∈fp,FpOk X pins H b)->tn i s.heap->J.stop i H->
  wpAny (model P w) X.A (pyNext (.ref it)) (fun r s1=>r=none/\Inv X pins σ H s1) E s
 self: ∀ (A:Around) (i:Nat) (s:Shared) (Q:Value->Shared->Prop) (E:Value->Shared->Prop),tn i s.heap->Q (.ref it) s->wpAny (model P w) A (pyIter (.ref it)) Q E s
noncomputable abbrev TI:=St->Hp->(It->Hp->Prop)->Prop
def PIE (X:Cx)(pins:List (Addr×Obj))(σ:St)(tg:Expr)(R:It->Hp->Prop)(itv:Value)(s2:Shared):Prop:=
 ∃ (it:Addr) (fp:List Addr) (tn:Nat->Heap->Prop) (J:It) (H':Hp),itv=.ref it/\Inv X pins σ H' s2/\Turn X.prog X.w X.K tg J fp it tn/\tn 0 s2.heap/\(∀b∈fp,FpOk X pins H' b)/\R J H'
def PI (X:Cx)(tg iter:Expr)(wi:TI):Prop:=
 ∀ (pins:List (Addr×Obj)) (s:Shared) (σ:St) (H:Hp) (R:It->Hp->Prop),Inv X pins σ H s->wi σ H R->
   wpAny (model X.prog X.w) X.A (eval iter X.env) (fun v s1=>wpAny (model X.prog X.w) X.A (pyIter v) (PIE X pins σ tg R) X.xe s1) X.xe s
theorem pz {M:Model}{A:Around}{E:Value->Shared->Prop}{s:Shared}{tg:Expr}{it:Addr}{u:Value}{o:Obj}{n:String}{vs:Array Value}{Q:Unit->Shared->Prop}(ho:s.heap.get? it=some o)(hc:o.cls=.type n)(hd:o.data=.fields vs)
  (hn:["enumerate", "zip", "dict_itemiterator", "dict_reverseitemiterator", "odict_iterator", "itertools.zip_longest", "itertools.pairwise"].contains n=false)(hQ:Q () s):wpAny M A (letOwnedTupleGo tg (.ref it) u) Q E s:=by
 unfold letOwnedTupleGo
 cases tg<;>first
  |exact wpAny_pure hQ
  |(cases u<;>first
   |exact wpAny_pure hQ
   |(refine wpAny_bind (wpAny_load ho ?_)
     rw[hc,hd]
     show wpAny M A (if (["enumerate", "zip", "dict_itemiterator", "dict_reverseitemiterator", "odict_iterator", "itertools.zip_longest", "itertools.pairwise"].contains n && vs[0]?==some (rawInt _))=true then _ else _) Q E s
     rw[if_neg (by intro h;rw[hn,Bool.false_and] at h;cases h)]
     exact wpAny_pure hQ))
def Itl (K:PySem.W.Frag)(a:Addr):It:=
 ⟨fun i H=> ∃xs x,SqL K H a xs/\xs[i]?=some x,fun i H x H'=>H'=H/\ ∀xs,SqL K H a xs->xs[i]?=some x,fun i H=> ∃xs,SqL K H a xs/\xs.length<=i⟩
def Itt (K:PySem.W.Frag)(a:Addr):It:=
 ⟨fun i H=> ∃xs x,SqT K H a xs/\xs[i]?=some x,fun i H x H'=>H'=H/\ ∀xs,SqT K H a xs->xs[i]?=some x,fun i H=> ∃xs,SqT K H a xs/\xs.length<=i⟩
noncomputable def Itr (lo:Int)(n:Nat):It:=⟨fun i _=>i<n,fun i H x H'=>H'=H/\x=.int (lo+i),fun i _=>n<=i⟩
theorem p5 {P:Program}{w:World}{K:PySem.W.Frag}{tg:Expr}(a it:Addr):Turn P w K tg (Itl K a) [it] it (fun i h=>h.IsListIter it a i) where
 mem:=by simp
 obj:=fun i h st b hb=>by
  have e:b=it:=by simpa using hb
  subst e
  obtain⟨o,e,c,d⟩:=st
  exact⟨o,e,fun v z=>by rw[d] at z;cases z⟩
 keep:=fun i h h' st k=>st.at fun o e=>k it (by simp) o e
 item:=by
  intro X hP hw hK hc i pins s σ H E I hf st hg
  subst hP hw hK
  obtain⟨xs,x,hq,hx⟩:=hg
  obtain⟨its,rv,p,hz⟩:=I.list hq
  obtain⟨u,hu,ru⟩:=rv.get hx
  obtain⟨f0,f1,f2,f3,f4,f5⟩:=hf it (by simp)
  refine wpAny_pyNext_list_item st p.isList (x:=u) (by simpa using hu) fun h' st' sb=>?_
  have I1:Inv X pins σ H {s with heap:=h'}:=I.turned (t':=s.toks) (fun b o hb e=>(sb.2 b hb).trans e) f0 f1 f3 f4 f5
  obtain⟨o,e,c,d⟩:=id st'
  exact⟨u,rfl,pz (s:={s with heap:=h'}) e c d (by decide) ⟨x,H,I1,ru,⟨rfl,fun ys hy=>by rw[I.list_inj hy hq];exact hx⟩,st',fun b hb=>(hf b hb).1⟩⟩
 done:=by
  intro X hP hw hK hc i pins s σ H E I hf st hg
  subst hP hw hK
  obtain⟨xs,hq,hx⟩:=hg
  obtain⟨its,rv,p,hz⟩:=I.list hq
  obtain⟨f0,f1,f2,f3,f4,f5⟩:=hf it (by simp)
  have hl:=rv.length
  exact wpAny_pyNext_list_end (I.ok.hd hc) st p.isList (by simp;omega) fun h' eb=>⟨rfl,I.turned (t':=s.toks) (fun b o hb e=>eb b o hb e) f0 f1 f3 f4 f5⟩
 self:=fun _ _ _ _ _ st h=>wpAny_pyIter_listiter st h
theorem nG {P:Program}{w:World}{K:PySem.W.Frag}{tg:Expr}(a it:Addr):Turn P w K tg (Itt K a) [it] it (fun i h=>h.IsTupleIter it a i) where
 mem:=by simp
 obj:=fun i h st b hb=>by
  have e:b=it:=by simpa using hb
  subst e
  obtain⟨o,e,c,d⟩:=st
  exact⟨o,e,fun v z=>by rw[d] at z;cases z⟩
 keep:=fun i h h' st k=>st.at fun o e=>k it (by simp) o e
 item:=by
  intro X hP hw hK hc i pins s σ H E I hf st hg
  subst hP hw hK
  obtain⟨xs,x,hq,hx⟩:=hg
  obtain⟨its,rv,p,hz⟩:=I.tuple hq
  obtain⟨u,hu,ru⟩:=rv.get hx
  obtain⟨f0,f1,f2,f3,f4,f5⟩:=hf it (by simp)
  refine wpAny_pyNext_tuple_item st (show s.heap.IsTuple a its.toArray from p) (x:=u) (by simpa using hu) fun h' st' sb=>?_
  have I1:Inv X pins σ H {s with heap:=h'}:=I.turned (t':=s.toks) (fun b o hb e=>(sb.2 b hb).trans e) f0 f1 f3 f4 f5
  obtain⟨o,e,c,d⟩:=id st'
  exact⟨u,rfl,pz (s:={s with heap:=h'}) e c d (by decide) ⟨x,H,I1,ru,⟨rfl,fun ys hy=>by rw[I.tuple_inj hy hq];exact hx⟩,st',fun b hb=>(hf b hb).1⟩⟩
 done:=by
  intro X hP hw hK hc i pins s σ H E I hf st hg
  subst hP hw hK
  obtain⟨xs,hq,hx⟩:=hg
  obtain⟨its,rv,p,hz⟩:=I.tuple hq
  obtain⟨f0,f1,f2,f3,f4,f5⟩:=hf it (by simp)
  have hl:=rv.length
  exact wpAny_pyNext_tuple_end (I.ok.hd hc) st (show s.heap.IsTuple a its.toArray from p) (by simp;omega) fun h' eb=>⟨rfl,I.turned (t':=s.toks) (fun b o hb e=>eb b o hb e) f0 f1 f3 f4 f5⟩
 self:=fun _ _ _ _ _ st h=>wpAny_pyIter_tupleiter st h
theorem nH {P:Program}{w:World}{K:PySem.W.Frag}{tg:Expr}(it:Addr)(lo:Int)(n:Nat):Turn P w K tg (Itr lo n) [it] it (fun i h=>IsRangeIter h it (lo+(i:Nat) * 1) ((n:Int) - (i:Nat)) 1) where
 mem:=by simp
 obj:=fun i h st b hb=>by
  have e:b=it:=by simpa using hb
  subst e
  exact⟨_,st,fun v z=>by
   have z':Data.fields _=Data.cell v:=z
   cases z'⟩
 keep:=fun i h h' st k=>k it (by simp) _ st
 item:=by
  intro X hP hw hK hc i pins s σ H E I hf st hg
  subst hP hw hK
  obtain⟨f0,f1,f2,f3,f4,f5⟩:=hf it (by simp)
  have W:=Walks.range (prog:=X.prog) (w:=X.w) (I.ok.hd hc) it lo 1 n
  refine W.item i s _ _ hg st fun v h' tk hv st' kk=>?_
  obtain⟨t,rfl⟩:=hv
  have I1:Inv X pins σ H {s with heap:=h',toks:=tk}:=I.turned (fun b o hb e=>kk b o (by simpa using hb) e) f0 f1 f3 f4 f5
  refine⟨_,rfl,pz (s:={s with heap:=h',toks:=tk}) (n:= "range_iterator") st' rfl rfl (by decide) ⟨.int (lo+i),H,I1,⟨t,?_⟩,⟨rfl,rfl⟩,st',fun b hb=>(hf b hb).1⟩⟩
  rw[Int.mul_one]
 done:=by
  intro X hP hw hK hc i pins s σ H E I hf st hg
  subst hP hw hK
  obtain⟨f0,f1,f2,f3,f4,f5⟩:=hf it (by simp)
  exact wpAny_pyNext_range_end (I.ok.hd hc) st (by have:n<=i:=hg;omega) fun h' eb=>⟨rfl,I.turned (t':=s.toks) (fun b o hb e=>eb b o hb e) f0 f1 f3 f4 f5⟩
 self:=fun _ _ _ _ _ st h=>wpAny_pyIter_rangeiter st h
end
section
section
variable {X:Cx}{tg:Expr}
def iList (K:PySem.W.Frag)(tl:TE):TI:=fun σ H R=>tl σ H fun x H1=> ∃a,x=.ref a/\(∃xs,SqL K H1 a xs)/\R (Itl K a) H1
def iTup (K:PySem.W.Frag)(tl:TE):TI:=fun σ H R=>tl σ H fun x H1=> ∃a,x=.ref a/\(∃xs,SqT K H1 a xs)/\R (Itt K a) H1
theorem uD {l:Expr}{tl:TE}(hl:PE X l tl):PI X tg l (iList X.K tl):=by
 intro pins s σ H R I h
 refine thn (hl pins s σ H _ I h) fun v s1 qz=>?_
 obtain⟨x,H1,I1,r1,q1⟩:=qz
 obtain⟨a,e,⟨xs,hq⟩,q⟩:=q1
 subst e
 cases r1
 obtain⟨its,rv,p,hz⟩:=I1.list hq
 refine wpAny_pyIter_list p.isList ?_
 refine⟨s1.heap.objs.size,[s1.heap.objs.size],_,_,H1,rfl,I1.kept (t':=s1.toks) fun b o e=>Heap.get?_push_of_some _ e,p5 a _,⟨_,Heap.get?_push_size _ rfl,rfl,rfl⟩,fun b hb=>?_,q⟩
 have e:b=s1.heap.objs.size:=by simpa using hb
 subst e
 exact I1.fpOk (Nat.le_refl _) (I1.hok.fresh (Nat.le_refl _))
theorem xb {l:Expr}{tl:TE}(hl:PE X l tl):PI X tg l (iTup X.K tl):=by
 intro pins s σ H R I h
 refine thn (hl pins s σ H _ I h) fun v s1 qz=>?_
 obtain⟨x,H1,I1,r1,q1⟩:=qz
 obtain⟨a,e,⟨xs,hq⟩,q⟩:=q1
 subst e
 cases r1
 obtain⟨its,rv,p,hz⟩:=I1.tuple hq
 refine wpAny_pyIter_tuple (show s1.heap.IsTuple a its.toArray from p) ?_
 refine⟨s1.heap.objs.size,[s1.heap.objs.size],_,_,H1,rfl,I1.kept (t':=s1.toks) fun b o e=>Heap.get?_push_of_some _ e,nG a _,⟨_,Heap.get?_push_size _ rfl,rfl,rfl⟩,fun b hb=>?_,q⟩
 have e:b=s1.heap.objs.size:=by simpa using hb
 subst e
 exact I1.fpOk (Nat.le_refl _) (I1.hok.fresh (Nat.le_refl _))
theorem rE {pins:List (Addr×Obj)}{σ:St}{H:Hp}{s:Shared}{R:It->Hp->Prop}{E:Value->Shared->Prop}{lo hi:Int}{t u v:Tok}{tk:Nat}(I:Inv X pins σ H s)(h1: -(2 ^ 62)<=lo)(h2:lo<2 ^ 62)(h3: -(2 ^ 62)<=hi)(h4:hi<2 ^ 62)
  (q:R (Itr lo (hi - lo).toNat) H):wpAny (model X.prog X.w) X.A (pyIter (.ref s.heap.objs.size)) (PIE X pins σ tg R) E {s with heap:=s.heap.push {cls:=.type "range",data:=.fields #[.int lo t,.int hi u,.int 1 v]},toks:=tk}:=by
 refine wpAny_pyIter_range (IsRange.new ..) (small_one h1 h2 h3 h4) ?_
 have I1:Inv X pins σ H {s with heap:=s.heap.push {cls:=.type "range",data:=.fields #[.int lo t,.int hi u,.int 1 v]},toks:=tk}:=I.kept fun b o e=>Heap.get?_push_of_some _ e
 refine⟨(s.heap.push {cls:=.type "range",data:=.fields #[.int lo t,.int hi u,.int 1 v]}).objs.size,[(s.heap.push {cls:=.type "range",data:=.fields #[.int lo t,.int hi u,.int 1 v]}).objs.size],_,_,H,rfl,
  I1.kept (t':=tk) fun b o e=>Heap.get?_push_of_some _ e,nH _ lo (hi - lo).toNat,?_,fun b hb=>?_,q⟩
 ·have e1:lo+((0:Nat):Int) * 1=lo:=by simp
  have e2:(((hi - lo).toNat:Nat):Int) - ((0:Nat):Int)=Builtin.Range.rangeSize lo hi 1:=by rw[rangeSize_one];split<;>omega
  show IsRangeIter _ _ (lo+((0:Nat):Int) * 1) ((((hi - lo).toNat:Nat):Int) - ((0:Nat):Int)) 1
  rw[e1,e2]
  exact Heap.get?_push_size _ rfl
 ·have e:b=(s.heap.push {cls:=.type "range",data:=.fields #[.int lo t,.int hi u,.int 1 v]}).objs.size:=by simpa using hb
  subst e
  exact I1.fpOk (Nat.le_refl _) (I1.hok.fresh (Nat.le_refl _))
def iRng1 (ta:TA):TI:=fun σ H R=>ta σ H fun vs H1=> ∃j:Int,vs=[.int j]/\ -(2 ^ 62)<=j/\j<2 ^ 62/\R (Itr 0 j.toNat) H1
theorem qi {a:Expr}{ta:TA}{p pos:Pos}(hg:Gl X "range")(hm:X.mg "range"=none)(ha:PA X [a] ta)(hs:starEach [a] X.env=[(false,eval a X.env)]:=by rfl):PI X tg (.Call (.Name "range" p) [a] [] pos) (iRng1 ta):=by
 intro pins s σ H R I h
 refine Call_ (lr I hg hm boot_range (PyProof.Rows.callWith_type1 (thn (ha pos pins s σ H _ I h) fun us s1 qz=>?_) hs rfl))
 obtain⟨vs,H1,I1,r1,q1⟩:=qz
 obtain⟨j,e,q1,q2,q⟩:=q1
 subst e
 cases r1 with
 |cons r rr=>
  cases rr
  obtain⟨t,rfl⟩:=r
  exact call_range_1 (rE I1 (by omega) (by omega) q1 q2 (by simpa using q))
def tFor (wi:TI)(g:TG)(tb:TS):TS:=fun D σ H=>wi σ H fun J H1=> ∃W:Nat->Nat->St->Hp->Prop,(∃m,W 0 m σ H1)/\ ∀i m σ H,W i m σ H->
 (J.stop i H/\D.nx σ H)\/(J.go i H/\ ∃N:St->Hp->Prop,(∀σ' H',N σ' H'-> ∃m',m'<m/\W (i+1) m' σ' H')/\ ∀x H',J.yld i H x H'->g x σ H' fun σ2 H2=>tb {D with nx:=N,ct:=N,bk:=D.nx} σ2 H2)
noncomputable def iE (fp:List Addr)(h:Heap):List (Addr×Obj):=fp.filterMap fun b=>(h.get? b).map fun o=>(b,o)
theorem fz {fp:List Addr}{h:Heap}{b:Addr}{o:Obj}(hb:b∈fp)(e:h.get? b=some o):(b,o)∈iE fp h:=List.mem_filterMap.mpr ⟨b,hb,by rw[e];rfl⟩
theorem qp {fp:List Addr}{h:Heap}{p:Addr×Obj}(hp:p∈iE fp h):p.1∈fp/\h.get? p.1=some p.2:=by
 obtain⟨b,hb,e⟩:=List.mem_filterMap.mp hp
 cases q:h.get? b with
 |none=>rw[q] at e;cases e
 |some o=>
  rw[q] at e
  have e':(b,o)=p:=Option.some.inj e
  subst e'
  exact⟨hb,q⟩
theorem Inv.pinned {pins:List (Addr×Obj)}{σ:St}{H:Hp}{s:Shared}{fp:List Addr}(I:Inv X pins σ H s)(hf: ∀b∈fp,FpOk X pins H b)(ho: ∀b∈fp,∃o,s.heap.get? b=some o/\ ∀v,o.data≠.cell v):Inv X (pins++iE fp s.heap) σ H s:=
 I.pins_of fun p hp=>(List.mem_append.mp hp).elim (fun z=>I.pin p (List.mem_append_right _ z)) fun z=>by
  obtain⟨hb,e⟩:=qp z
  obtain⟨f0,f1,f2,_⟩:=hf p.1 hb
  obtain⟨o,e',d⟩:=ho p.1 hb
  rw[e] at e';cases e'
  exact⟨e,f0,f1,f2,d⟩
theorem Inv.unpinned {pins pl:List (Addr×Obj)}{σ:St}{H:Hp}{s:Shared}(I:Inv X (pins++pl) σ H s):Inv X pins σ H s:=I.pins_of fun p hp=>I.pin p (List.mem_append_right _ (List.mem_append_left _ hp))
theorem wY {iter:Expr}{body:List Stmt}{wi:TI}{g:TG}{tb:TS}{pos:Pos}(hp:PassesOwn (model X.prog X.w) X.A X.env X.xe)(hc:X.calm=true)(hi:PI X tg iter wi)(hg:PG X tg g)(hb:PSs X body tb)
  (hs: ∀x,foldedSetIterable iter X.env x=pure x:=by intro _;rfl):PS X (.For tg iter body [] pos) (tFor wi g tb):=by
 intro pins s σ H D I h
 refine wpAny_For (thn (hi pins s σ H _ I h) fun v s1 h1=>thn h1 fun itv s2 h2=>?_) hs
 obtain⟨it,fp,tn,J,H2,e,I2,T,st2,f2,W,⟨m0,w0⟩,turn⟩:=h2
 subst e
 have stat: ∀ {H':Hp},(∀b∈fp,H' b=none)-> ∀b∈fp,FpOk X pins H' b:=fun hn b hb=>⟨hn b hb,(f2 b hb).2⟩
 refine codeAny_forLoop_any (fun n s'=> ∃i σ' H',Inv X pins σ' H' s'/\tn i s'.heap/\(∀b∈fp,H' b=none)/\W i n σ' H') ?_ m0 ⟨0,σ,H2,I2,st2,fun b hb=>(f2 b hb).1,w0⟩
 rintro n s3 ⟨i,σ3,H3,I3,st3,fr3,w3⟩
 rcases turn i n σ3 H3 w3 with⟨stop,qn⟩|⟨go,N,hN,step⟩
 ·refine wpAny_passesOwn hp (thn (T.done X rfl rfl rfl hc i pins s3 σ3 H3 X.xe I3 (stat fr3) st3 stop) fun r s4 qz=>?_)
  obtain⟨hr,I4⟩:=qz
  subst hr
  exact wpAny_execs_nil ⟨σ3,H3,I4,qn⟩
 ·refine wpAny_passesOwn hp (thn (T.item X rfl rfl rfl hc i pins s3 σ3 H3 X.xe I3 (stat fr3) st3 go) fun r s4 qz=>?_)
  obtain⟨u,hr,h4⟩:=qz
  subst hr
  refine wpAny_passesOwn hp (thn h4 fun _ s5 qz=>?_)
  obtain⟨x,H5,I5,r5,y5,st5,fr5⟩:=qz
  have I5':=I5.pinned (stat fr5) (T.obj _ _ st5)
  refine wpAny_passesOwn hp (thn (hg _ s5 σ3 H5 x u _ I5' r5 (step x H5 y5)) fun _ s6 qz=>?_)
  obtain⟨σ6,H6,I6,q6⟩:=qz
  refine wpAny_passesOwn hp (thn (hb _ s6 σ6 H6 _ I6 q6) fun f s7 q7=>?_)
  have again: ∀ {σ7:St}{H7:Hp},Inv X (pins++iE fp s5.heap) σ7 H7 s7->N σ7 H7-> ∃m,m<n/\ ∃i σ' H',Inv X pins σ' H' s7/\tn i s7.heap/\(∀b∈fp,H' b=none)/\W i m σ' H':=fun{σ7 H7} I7 n7=>by
   obtain⟨m',hm,w7⟩:=hN σ7 H7 n7
   refine⟨m',hm,i+1,σ7,H7,I7.unpinned,T.keep _ _ _ st5 fun b hb o e=>(I7.pin (b,o) (List.mem_append_right _ (List.mem_append_right _ (fz hb e)))).1,fun b hb=>?_,w7⟩
   obtain⟨o,e,d⟩:=T.obj _ _ st5 b hb
   exact (I7.pin (b,o) (List.mem_append_right _ (List.mem_append_right _ (fz hb e)))).2.1
  cases f with
  |next=>obtain⟨σ7,H7,I7,n7⟩:=q7;exact again I7 n7
  |cont=>obtain⟨σ7,H7,I7,n7⟩:=q7;exact again I7 n7
  |brk=>obtain⟨σ7,H7,I7,q7⟩:=q7;exact⟨σ7,H7,I7.unpinned,q7⟩
  |ret v=>obtain⟨x7,σ7,H7,I7,r7,q7⟩:=q7;exact⟨x7,σ7,H7,I7.unpinned,r7,q7⟩
end
end
section
noncomputable abbrev R2:=V->V->Hp->VK->Prop
def OpR (X:Cx)(f:Value->Value->Sem Value)(r:R2):Prop:=
 ∀ (pins:List (Addr×Obj)) (s:Shared) (σ:St) (H:Hp) (x y:V) (v u:Value) (Q:VK),Inv X pins σ H s->RelV x v->RelV y u->r x y H Q->
   wpAny (model X.prog X.w) X.A (f v u) (EP X pins σ Q) X.xe s
def UnR (X:Cx)(f:Value->Sem Value)(r:V->Hp->VK->Prop):Prop:=
 ∀ (pins:List (Addr×Obj)) (s:Shared) (σ:St) (H:Hp) (x:V) (v:Value) (Q:VK),Inv X pins σ H s->RelV x v->r x H Q->
   wpAny (model X.prog X.w) X.A (f v) (EP X pins σ Q) X.xe s
def CallR (X:Cx)(f:Value)(r:List V->Hp->VK->Prop):Prop:=
 ∀ (pins:List (Addr×Obj)) (s:Shared) (σ:St) (H:Hp) (xs:List V) (us:List Value) (Q:VK),Inv X pins σ H s->Vals xs us->r xs H Q->
   wpAny (model X.prog X.w) X.A (call f us) (EP X pins σ Q) X.xe s
def tOp (r:R2)(ta tb:TE):TE:=fun σ H Q=>ta σ H fun x H1=>tb σ H1 fun y H2=>r x y H2 Q
def tUn (r:V->Hp->VK->Prop)(ta:TE):TE:=fun σ H Q=>ta σ H fun x H1=>r x H1 Q
def rI (C:Int->Int->Prop)(g:Int->Int->V):R2:=fun x y H Q=> ∃i j,x=.int i/\y=.int j/\C i j/\Q (g i j) H
def rI0 (g:Int->Int->V):R2:=fun x y H Q=> ∃i j,x=.int i/\y=.int j/\Q (g i j) H
def rU (g:Int->V):V->Hp->VK->Prop:=fun x H Q=> ∃i,x=.int i/\Q (g i) H
section
variable {X:Cx}{a b c:Expr}{ta tb tc:TE}{pos:Pos}
theorem binT (ha:PE X a ta)(hb:PE X b tb){pins:List (Addr×Obj)}{s:Shared}{σ:St}{H:Hp}{R:V->V->Hp->Prop}(I:Inv X pins σ H s)
  (h:ta σ H fun x H1=>tb σ H1 fun y H2=>R x y H2){Q:Value->Shared->Prop}{f:Value->Value->Sem Value}
  (hf: ∀v u s2 x y H2,Inv X pins σ H2 s2->RelV x v->RelV y u->R x y H2->wpAny (model X.prog X.w) X.A (f v u) Q X.xe s2):
  wpAny (model X.prog X.w) X.A (eval a X.env) (fun v s₁=>wpAny (model X.prog X.w) X.A (eval b X.env) (fun u s₂=>wpAny (model X.prog X.w) X.A (f v u) Q X.xe s₂) X.xe s₁) X.xe s:=by
 refine thn (ha pins s σ H _ I h) fun v s1 qz=>?_
 obtain⟨x,H1,I1,r1,q1⟩:=qz
 refine thn (hb pins s1 σ H1 _ I1 q1) fun u s2 qz=>?_
 obtain⟨y,H2,I2,r2,q2⟩:=qz
 exact hf v u s2 x y H2 I2 r1 r2 q2
theorem mj {op:Operator}{r:R2}(ho:OpR X (binaryOp op) r)(ha:PE X a ta)(hb:PE X b tb):PE X (.BinOp a op b pos) (tOp r ta tb):=by
 intro pins s σ H Q I h
 exact wpAny_BinOp (binT ha hb I h fun v u s2 x y H2 I2 rx ry q=>ho pins s2 σ H2 x y v u Q I2 rx ry q)
theorem yY {op:UnaryOp}{r:V->Hp->VK->Prop}(ho:UnR X (unaryOp op) r)(ha:PE X a ta):PE X (.UnaryOp op a pos) (tUn r ta):=by
 intro pins s σ H Q I h
 exact UnaryOp_ (thn (ha pins s σ H _ I h) fun v s1 ⟨x,H1,I1,r1,q1⟩=>ho pins s1 σ H1 x v Q I1 r1 q1)
theorem opI {f:Value->Value->Sem Value}{C:Int->Int->Prop}{g:Int->Int->Int}
  (rule: ∀ (i j:Int) (t u:Tok) (s:Shared) (Q:Value->Shared->Prop) (E:Value->Shared->Prop),C i j->Q (.int (g i j) s.toks) {s with toks:=s.toks+1}->wpAny (model X.prog X.w) X.A (f (.int i t) (.int j u)) Q E s):
  OpR X f (rI C fun i j=>.int (g i j)):=by
 intro pins s σ H x y v u Q I rx ry h
 obtain⟨i,j,rfl,rfl,hc,q⟩:=h
 obtain⟨t,rfl⟩:=rx
 obtain⟨t',rfl⟩:=ry
 exact rule i j t t' s _ _ hc ⟨.int (g i j),H,I.tok _,⟨_,rfl⟩,q⟩
theorem opI0 {f:Value->Value->Sem Value}{g:Int->Int->Int}
  (rule: ∀ (i j:Int) (t u:Tok) (s:Shared) (Q:Value->Shared->Prop) (E:Value->Shared->Prop),Q (.int (g i j) s.toks) {s with toks:=s.toks+1}->wpAny (model X.prog X.w) X.A (f (.int i t) (.int j u)) Q E s):
  OpR X f (rI0 fun i j=>.int (g i j)):=by
 intro pins s σ H x y v u Q I rx ry h
 obtain⟨i,j,rfl,rfl,q⟩:=h
 obtain⟨t,rfl⟩:=rx
 obtain⟨t',rfl⟩:=ry
 exact rule i j t t' s _ _ ⟨.int (g i j),H,I.tok _,⟨_,rfl⟩,q⟩
theorem opB0 {f:Value->Value->Sem Value}{g:Int->Int->Bool}
  (rule: ∀ (i j:Int) (t u:Tok) (s:Shared) (Q:Value->Shared->Prop) (E:Value->Shared->Prop),Q (.bool (g i j)) s->wpAny (model X.prog X.w) X.A (f (.int i t) (.int j u)) Q E s):
  OpR X f (rI0 fun i j=>.bl (g i j)):=by
 intro pins s σ H x y v u Q I rx ry h
 obtain⟨i,j,rfl,rfl,q⟩:=h
 obtain⟨t,rfl⟩:=rx
 obtain⟨t',rfl⟩:=ry
 exact rule i j t t' s _ _ ⟨.bl (g i j),H,I,rfl,q⟩
noncomputable def CPow (i j:Int):Prop:=0<=j/\j<=1000000/\i.natAbs<2 ^ 64
noncomputable def CMul (i j:Int):Prop:=(-(2 ^ 64)<i/\i<2 ^ 64)\/(-(2 ^ 64)<j/\j<2 ^ 64)
theorem CMul.ok {i j:Int}(h:CMul i j):IntMulOk i j:=by
 rcases h with⟨h1,h2⟩|⟨h1,h2⟩
 ·exact .of_left (intBits_le_64 h1 h2)
 ·exact .of_right (intBits_le_64 h1 h2)
theorem nF (k:Nat):(0:Int)<=2 ^ k:=by
 rw[two_pow_cast]
 exact Int.natCast_nonneg _
theorem op_add:OpR X (binaryOp .Add) (rI0 fun i j=>.int (i+j)):=opI0 fun _ _ _ _ _ _ _ q=>add_int q
theorem xA:OpR X (binaryOp .Sub) (rI0 fun i j=>.int (i - j)):=opI0 fun _ _ _ _ _ _ _ q=>sub_int q
theorem xE:OpR X (binaryOp .Mod) (rI (fun _ j=>0<j) fun i j=>.int (i % j)):=opI fun i j _ _ _ _ _ hc q=>by
 have h1:(0:Int)<j:=hc
 exact mod_int' (by omega) (by rw[Int.fmod_eq_emod_of_nonneg i (by omega)];exact q)
theorem xC:OpR X (binaryOp .Pow) (rI CPow fun i j=>.int (i ^ j.toNat)):=opI fun _ _ _ _ _ _ _ hc q=>pow_int_small hc.1 hc.2.1 hc.2.2 q
theorem xB:OpR X (binaryOp .RShift) (rI (fun _ j=>0<=j) fun i j=>.int (i / 2 ^ j.toNat)):=opI fun i j _ _ _ _ _ hc q=>
 rshift_int hc (by rw[Int.fdiv_eq_ediv_of_nonneg i (nF _)];exact q)
theorem unI {f:Value->Sem Value}{g:Int->Int}
  (rule: ∀ (i:Int) (t:Tok) (s:Shared) (Q:Value->Shared->Prop) (E:Value->Shared->Prop),Q (.int (g i) s.toks) {s with toks:=s.toks+1}->wpAny (model X.prog X.w) X.A (f (.int i t)) Q E s):
  UnR X f (rU fun i=>.int (g i)):=by
 intro pins s σ H x v Q I rx h
 obtain⟨i,rfl,q⟩:=h
 obtain⟨t,rfl⟩:=rx
 exact rule i t s _ _ ⟨.int (g i),H,I.tok _,⟨_,rfl⟩,q⟩
theorem wt:UnR X (unaryOp .USub) (rU fun i=>.int (-i)):=unI fun _ _ _ _ _ q=>neg_int q
end
noncomputable def scal:V->V->Bool
 |.non,.non=>true|.non,.int _=>true|.int _,.non=>true|.non,.bl _=>true|.bl _,.non=>true|.non,.str _=>true|.str _,.non=>true
 |.int _,.int _=>true|.bl _,.bl _=>true|.str _,.str _=>true|.byt _,.byt _=>true
 |.int _,.str _=>true|.str _,.int _=>true|.bl _,.str _=>true|.str _,.bl _=>true
 |_,_=>false
def rEq:R2:=fun x y H Q=>scal x y=true/\Q (.bl (decide (x=y))) H
def rNe:R2:=fun x y H Q=>scal x y=true/\Q (.bl (!decide (x=y))) H
theorem pS {i j:Int}:decide (V.int i=V.int j)=(i==j):=by
 rw[Bool.eq_iff_iff]
 simp
theorem tU {i j:Bool}:decide (V.bl i=V.bl j)=(i==j):=by
 rw[Bool.eq_iff_iff]
 simp
theorem pR {i j:Str}:decide (V.str i=V.str j)=(i==j):=by
 rw[Bool.eq_iff_iff]
 simp
theorem pT {i j:Array UInt8}:decide (V.byt i=V.byt j)=(i.toList==j.toList):=by
 rw[Bool.eq_iff_iff]
 cases i
 cases j
 simp
section
variable {X:Cx}{a b c:Expr}{ta tb tc:TE}{pos:Pos}
theorem aX {pins:List (Addr×Obj)}{σ:St}{H:Hp}{s:Shared}{Q:VK}{k k':Bool}(I:Inv X pins σ H s)(q:Q (.bl k) H)(e:k=k'):EP X pins σ Q (.bool k') s:=by
 subst e
 exact⟨.bl k,H,I,rfl,q⟩
theorem op_eq:OpR X (compareOp .Eq) rEq:=by
 intro pins s σ H x y v u Q I rx ry h
 obtain⟨hs,q⟩:=h
 cases x with
 |non=>
  cases rx
  cases y with
  |non=>cases ry;exact PySem.EqNone.eq_none_none (aX I q (by simp))
  |bl j=>cases ry;exact PySem.EqNone.eq_none_bool (aX I q (by simp))
  |int j=>obtain⟨t',rfl⟩:=ry;exact PySem.EqNone.eq_none_int (aX I q (by simp))
  |str j=>obtain⟨t',rfl⟩:=ry;exact PySem.EqNone.eq_none_str (aX I q (by simp))
  |_=>exact absurd (show false=true from hs) Bool.false_ne_true
 |bl i=>
  cases rx
  cases y with
  |non=>cases ry;exact PySem.EqNone.eq_bool_none (aX I q (by simp))
  |bl j=>cases ry;exact eq_bool (aX I q tU)
  |str j=>obtain⟨t',rfl⟩:=ry;exact PySem.EqMixed.eq_bool_str (aX I q (by simp))
  |_=>exact absurd (show false=true from hs) Bool.false_ne_true
 |int i=>
  obtain⟨t,rfl⟩:=rx
  cases y with
  |non=>cases ry;exact PySem.EqNone.eq_int_none (aX I q (by simp))
  |int j=>obtain⟨t',rfl⟩:=ry;exact eq_int (aX I q pS)
  |str j=>obtain⟨t',rfl⟩:=ry;exact PySem.EqMixed.eq_int_str (aX I q (by simp))
  |_=>exact absurd (show false=true from hs) Bool.false_ne_true
 |str i=>
  obtain⟨t,rfl⟩:=rx
  cases y with
  |non=>cases ry;exact PySem.EqNone.eq_str_none (aX I q (by simp))
  |bl j=>cases ry;exact PySem.EqMixed.eq_str_bool (aX I q (by simp))
  |int j=>obtain⟨t',rfl⟩:=ry;exact PySem.EqMixed.eq_str_int (aX I q (by simp))
  |str j=>obtain⟨t',rfl⟩:=ry;exact eq_str (aX I q pR)
  |_=>exact absurd (show false=true from hs) Bool.false_ne_true
 |byt i=>
  obtain⟨t,rfl⟩:=rx
  cases y with
  |byt j=>obtain⟨t',rfl⟩:=ry;exact PySem.W.eq_bytes (aX I q pT)
  |_=>exact absurd (show false=true from hs) Bool.false_ne_true
 |_=>cases y<;>exact absurd (show false=true from hs) Bool.false_ne_true
theorem op_ne:OpR X (compareOp .NotEq) rNe:=by
 intro pins s σ H x y v u Q I rx ry h
 obtain⟨hs,q⟩:=h
 cases x with
 |non=>
  cases rx
  cases y with
  |non=>cases ry;exact PySem.EqNone.ne_none_none (aX I q (by simp))
  |bl j=>cases ry;exact PySem.EqNone.ne_none_bool (aX I q (by simp))
  |int j=>obtain⟨t',rfl⟩:=ry;exact PySem.EqNone.ne_none_int (aX I q (by simp))
  |str j=>obtain⟨t',rfl⟩:=ry;exact PySem.EqNone.ne_none_str (aX I q (by simp))
  |_=>exact absurd (show false=true from hs) Bool.false_ne_true
 |bl i=>
  cases rx
  cases y with
  |non=>cases ry;exact PySem.EqNone.ne_bool_none (aX I q (by simp))
  |bl j=>cases ry;exact ne_bool (aX I q (congrArg not tU))
  |str j=>obtain⟨t',rfl⟩:=ry;exact PySem.EqMixed.ne_bool_str (aX I q (by simp))
  |_=>exact absurd (show false=true from hs) Bool.false_ne_true
 |int i=>
  obtain⟨t,rfl⟩:=rx
  cases y with
  |non=>cases ry;exact PySem.EqNone.ne_int_none (aX I q (by simp))
  |int j=>obtain⟨t',rfl⟩:=ry;exact ne_int (aX I q (congrArg not pS))
  |str j=>obtain⟨t',rfl⟩:=ry;exact PySem.EqMixed.ne_int_str (aX I q (by simp))
  |_=>exact absurd (show false=true from hs) Bool.false_ne_true
 |str i=>
  obtain⟨t,rfl⟩:=rx
  cases y with
  |non=>cases ry;exact PySem.EqNone.ne_str_none (aX I q (by simp))
  |bl j=>cases ry;exact PySem.EqMixed.ne_str_bool (aX I q (by simp))
  |int j=>obtain⟨t',rfl⟩:=ry;exact PySem.EqMixed.ne_str_int (aX I q (by simp))
  |str j=>obtain⟨t',rfl⟩:=ry;exact ne_str (aX I q (congrArg not pR))
  |_=>exact absurd (show false=true from hs) Bool.false_ne_true
 |byt i=>
  obtain⟨t,rfl⟩:=rx
  cases y with
  |byt j=>obtain⟨t',rfl⟩:=ry;exact PySem.W.ne_bytes (aX I q (congrArg not pT))
  |_=>exact absurd (show false=true from hs) Bool.false_ne_true
 |_=>cases y<;>exact absurd (show false=true from hs) Bool.false_ne_true
theorem rY:OpR X (compareOp .Lt) (rI0 fun i j=>.bl (decide (i<j))):=opB0 fun _ _ _ _ _ _ _ q=>lt_int q
theorem zh:OpR X (compareOp .LtE) (rI0 fun i j=>.bl (decide (i<=j))):=opB0 fun _ _ _ _ _ _ _ q=>le_int q
theorem kj:OpR X (compareOp .Gt) (rI0 fun i j=>.bl (decide (j<i))):=opB0 fun _ _ _ _ _ _ _ q=>gt_int q
theorem zi:OpR X (compareOp .GtE) (rI0 fun i j=>.bl (decide (j<=i))):=opB0 fun _ _ _ _ _ _ _ q=>ge_int q
theorem op_in_str:OpR X (compareOp .In) (fun x y H Q=> ∃i j,x=.str i/\y=.str j/\Q (.bl (!(Builtin.Str.occurrences j i 0 j.length 1).isEmpty)) H):=by
 intro pins s σ H x y v u Q I rx ry h
 obtain⟨i,j,rfl,rfl,q⟩:=h
 obtain⟨t,rfl⟩:=rx
 obtain⟨t',rfl⟩:=ry
 exact in_str (aX I q rfl)
theorem OpR.or {f:Value->Value->Sem Value}{r r':R2}(h:OpR X f r)(h':OpR X f r'):OpR X f (fun x y H Q=>r x y H Q\/r' x y H Q):=by
 intro pins s σ H x y v u Q I rx ry q
 rcases q with q|q
 ·exact h pins s σ H x y v u Q I rx ry q
 ·exact h' pins s σ H x y v u Q I rx ry q
theorem eD (b:Expr){op:CmpOp}(h:op≠.In:=by decide)(h2:op≠.NotIn:=by decide):behindInMarks op b=false:=by
 have e1:(op==CmpOp.In)=false:=by cases op<;>first|rfl|exact absurd rfl h
 have e2:(op==CmpOp.NotIn)=false:=by cases op<;>first|rfl|exact absurd rfl h2
 cases b<;>simp [behindInMarks,e1,e2]
theorem gI {op:CmpOp}{r:R2}(ho:OpR X (compareOp op) r)(ha:PE X a ta)(hb:PE X b tb)(hm:behindInMarks op b=false):PE X (.Compare a [op] [b] pos) (tOp r ta tb):=by
 intro pins s σ H Q I h
 exact wpAny_Compare1 (binT ha hb I h fun v u s2 x y H2 I2 rx ry q=>ho pins s2 σ H2 x y v u Q I2 rx ry q) hm
def tTest (t:TE):TT:=fun σ H Q=>t σ H fun x H'=> ∃k,x=.bl k/\Q k H'
theorem dt {op:CmpOp}{r:R2}(ho:OpR X (compareOp op) r)(ha:PE X a ta)(hb:PE X b tb)(hm:behindInMarks op b=false):PT X (.Compare a [op] [b] pos) (tTest (tOp r ta tb)):=by
 intro pins s σ H Q I h
 refine wpAny_isTrue_Compare1 (thn (ha pins s σ H _ I h) fun v s1 ⟨x,H1,I1,r1,q1⟩=>thn (hb pins s1 σ H1 _ I1 q1) fun u s2 ⟨y,H2,I2,r2,q2⟩=>
  thn (ho pins s2 σ H2 x y v u _ I2 r1 r2 q2) fun c s3 ⟨z,H3,I3,r3,k,e,q3⟩=>?_) hm
 subst e
 cases r3
 exact wpAny_truthy_bool ⟨H3,I3,q3⟩
def rg (r r':R2)(ta tb tc:TE):TE:=fun σ H Q=>ta σ H fun x H1=>tb σ H1 fun y H2=>r x y H2 fun z H3=> ∃k,z=.bl k/\
 (if k=true then tc σ H3 fun w' H4=>r' y w' H4 Q else Q (.bl false) H3)
theorem rJ {op op':CmpOp}{r r':R2}(ho:OpR X (compareOp op) r)(ho':OpR X (compareOp op') r')(ha:PE X a ta)(hb:PE X b tb)(hc:PE X c tc)
  (hm:lastMarks [op,op'] [b,c]=false:=by with_unfolding_all rfl):PT X (.Compare a [op,op'] [b,c] pos) (tTest (rg r r' ta tb tc)):=by
 intro pins s σ H Q I h
 refine isTrue_chain (thn (ha pins s σ H _ I h) fun v s1 ⟨x,H1,I1,r1,q1⟩=>test_link (thn (hb pins s1 σ H1 _ I1 q1) fun u s2 ⟨y,H2,I2,r2,q2⟩=>
  thn (ho pins s2 σ H2 x y v u _ I2 r1 r2 q2) fun d s3 ⟨z,H3,I3,r3,k,e,q3⟩=>?_)) hm
 subst e
 cases r3
 refine wpAny_truthy_bool ?_
 cases k with
 |false=>
  obtain⟨k',e',q'⟩:=q3
  cases e'
  exact ite_ff ⟨H3,I3,q'⟩
 |true=>
  refine ite_tt (test_last (thn (hc pins s3 σ H3 _ I3 q3) fun w' s4 ⟨z',H4,I4,r4,q4⟩=>thn (ho' pins s4 σ H4 y z' u w' _ I4 r2 r4 q4) fun d' s5 qz=>?_))
  obtain⟨z2,H5,I5,r5,k2,e2,q5⟩:=qz
  subst e2
  cases r5
  exact wpAny_truthy_bool ⟨H5,I5,q5⟩
theorem iG:(sizeLine:Nat)<2 ^ 63:=by rw[sizeLine_eq];decide
theorem op_add_str:OpR X (binaryOp .Add) (fun x y H Q=> ∃i j,x=.str i/\y=.str j/\i.length+j.length<=sizeLine/\Q (.str (i++j)) H):=by
 intro pins s σ H x y v u Q I rx ry h
 obtain⟨i,j,rfl,rfl,hz,q⟩:=h
 obtain⟨t,rfl⟩:=rx
 obtain⟨t',rfl⟩:=ry
 exact add_str (fun t' tk=>⟨.str (i++j),H,I.tok _,⟨_,rfl⟩,q⟩) hz
theorem vals1 {x:V}{us:List Value}(r:Vals [x] us): ∃u,us=[u]/\RelV x u:=by
 cases r with
 |cons r1 r2=>cases r2;exact⟨_,rfl,r1⟩
theorem vals2 {x y:V}{us:List Value}(r:Vals [x,y] us): ∃u w',us=[u,w']/\RelV x u/\RelV y w':=by
 cases r with
 |cons r1 r2=>
  cases r2 with
  |cons r3 r4=>cases r4;exact⟨_,_,rfl,r1,r3⟩
theorem call_int1:CallR X (.type "int") (fun xs H Q=>(∃i,xs=[.int i]/\Q (.int i) H)\/ ∃k,xs=[.bl k]/\Q (.int (if k then 1 else 0)) H):=by
 intro pins s σ H xs us Q I r h
 rcases h with⟨i,rfl,q⟩|⟨k,rfl,q⟩
 ·obtain⟨u,rfl,t,rfl⟩:=vals1 r
  exact call_int_int ⟨.int i,H,I,⟨_,rfl⟩,q⟩
 ·obtain⟨u,rfl,r1⟩:=vals1 r
  cases r1
  exact call_int_bool ⟨.int (if k then 1 else 0),H,I.tok _,⟨_,rfl⟩,q⟩
theorem call_str_int:CallR X (.type "str") (fun xs H Q=> ∃i,xs=[.int i]/\i.natAbs.log2<1920/\Q (.str (toString i)) H):=by
 intro pins s σ H xs us Q I r h
 obtain⟨i,rfl,hz,q⟩:=h
 obtain⟨u,rfl,t,rfl⟩:=vals1 r
 exact PySem.P.str_of_int hz ⟨.str _,H,I.tok _,⟨_,rfl⟩,q⟩
end
end
section
structure ObjM (h:Heap)(x dx C:Addr)(mA:Str->Option Value):Prop where
 obj:h.get? x=some (instObj C dx)
 ns:h.Ns1 dx mA
 ne:dx≠x
theorem qv {h:Heap}{dx:Addr}{mA:Str->Option Value}(n:h.Ns1 dx mA): ∃od,h.get? dx=some od/\ ∀name,PySem.W.lookIn name od=some (mA name):=by
 obtain⟨o,es,ep,ho,hd,hk,_,hm⟩:=n
 refine⟨o,ho,fun name=>?_⟩
 have e:=hm name
 unfold nsFind findBy at e
 rw[<-Array.find?_toList] at e
 unfold PySem.W.lookIn
 rw[hd]
 dsimp only
 split
 ·rename_i y q
  rw[q] at e
  exact congrArg some e
 ·rename_i q
  rw[q] at e
  have a:es.toList.any (·.refKey)=false:=by
   rw[List.any_eq_false]
   intro y hy
   obtain⟨z,t,hkey⟩:=hk y (Array.mem_toList_iff.mp hy)
   simp [DictEntry.refKey,hkey]
  have a': ¬es.toList.any (·.refKey)=true:=by rw[a];exact Bool.false_ne_true
  rw[if_neg a']
  exact congrArg some e
theorem ObjM.look {h:Heap}{x dx C:Addr}{mA:Str->Option Value}(I:ObjM h x dx C mA): ∃od,PySem.W.InstAt h x (instObj C dx) C (some od)/\ ∀name,PySem.W.lookIn name od=some (mA name):=
 let ⟨od,ho,hl⟩:=qv I.ns
 ⟨od,⟨I.obj,rfl,rfl,ho⟩,hl⟩
section
variable {prog:Program}{w:World}{A:Around}{E:Value->Shared->Prop}{s:Shared}{K:PySem.W.Frag}{x dx C f:Addr}{mA:Str->Option Value}{name:Str}{v:Value}
theorem vD {expr:Bool}{Q:Value->Shared->Prop}(X:K.In s.heap)(I:ObjM s.heap x dx C mA)(hg:PySem.W.plainGet K C name=true)(hh:PySem.W.hasDictIn K C=true)
  (ha:PySem.W.findIn K (.ref C) name=some none)(hv:mA name=some v)(hv':PySem.W.handedIn v=true)(h:Q v {s with toks:=s.toks+1}):
  wpAny (model prog w) A (getAttr (.ref x) name expr) Q E s:=by
 obtain⟨od,J,hl⟩:=I.look
 exact PySem.W.get_value X J (PySem.W.plainGet_of hg).1 (PySem.W.findObj_own hh ha rfl (by rw[hl,hv])) hv' h
theorem tf {pl:Sem Bool}{Q:Value×List Value->Shared->Prop}(X:K.In s.heap)(I:ObjM s.heap x dx C mA)(hg:PySem.W.plainGet K C name=true)
  (hf:PySem.W.findIn K (.ref C) name=some (some (.ref f)))(ht:PySem.W.isFn K (.ref f)=true)(hv:mA name=none)(h:Q (.ref f,[.ref x]) s):
  wpAny (model prog w) A (getMethod (.ref x) name pl) Q E s:=by
 obtain⟨od,J,hl⟩:=I.look
 exact PySem.W.method_fn X J (PySem.W.plainGet_of hg).1 (PySem.W.plainGet_of hg).2 hf (beq_iff_eq.mp ht) (by show (PySem.W.lookIn name od).map (·.isSome)=some false;rw[hl,hv];rfl) h
theorem ur {ns:List Str}{Q:Unit->Shared->Prop}(X:K.In s.heap)(I:ObjM s.heap x dx C mA)
  (hs:PySem.W.findIn K (.ref C) "__setattr__"=some (some (.builtin "object.__setattr__")))(hp:PySem.W.plainOver K C=true)(ht:PySem.W.takerIn K C name=some none)(hh:PySem.W.hasDictIn K C=true)
  (hw:PySem.Within mA ns)(hsz:ns.length<=sizeLine)
  (h:∀h',ObjM h' x dx C (fun y=>if y=name then some v else mA y)->Heap.SameBut dx s.heap h'->Q () {s with heap:=h',toks:=s.toks+2}):
  wpAny (model prog w) A (setAttr (.ref x) name v) Q E s:=by
 obtain⟨od,J,hl⟩:=I.look
 refine PySem.W.set_plain X J hs (PySem.W.osa_open (s:={s with toks:=s.toks+1}) (r:=none) X J hp ht fun b=>?_)
 obtain⟨cd,hc,hd'⟩:=PySem.W.any_some hh
 have hx:s.heap.get? x=some ⟨.ref C,some dx,.plain,#[]⟩:=I.obj
 refine wpAny_bind (wpAny_pure (wpAny_bind (wpAny_bind (wpAny_loadPart hx (wpAny_bind (PySem.W.Looks.here (s:={s with toks:=s.toks+1}) (PySem.W.looks_clsIn X hc) ?_))))))
 rw[hd']
 refine wpAny_pure (a:=some dx) (wpAny_bind (wpAny_pure (wpAny_bind ?_)))
 refine wpAny_nsSet1 (s:={s with toks:=s.toks+1}) I.ns fun h' hn2 hs2=>?_
 obtain⟨oD,esD,epD,hoD,hdD,hcD⟩:=hn2.count (PySem.Within.cons name v hw)
 refine wpAny_bind (wpAny_lookBehind hoD (by rw[hdD];exact pastItsLine_dict (Nat.le_trans hcD (by rw[List.length_cons];omega))) ?_)
 exact wpAny_pure (h _ ⟨(hs2.2 _ (Ne.symm I.ne)).trans I.obj,hn2,I.ne⟩ hs2)
theorem sJ {R:Result->Shared->Prop}{vs:List Value}{kw:List (Str×Value)}(X:K.In s.heap)(hm:makesIn K C=true)
  (hi:PySem.W.findIn K (.ref C) "__init__"=some (some (.ref f)))(hf:PySem.W.typeIn K (.ref f)=some (.type "function"))
  (h:codeAny (model prog w) (A.under (.builtin "type.__call__" ⟨.ref C::vs,kw⟩)) (.call (.ref f) ⟨.ref (s.heap.objs.size+1)::vs,kw⟩) (PySem.W.InitBack (s.heap.objs.size+1) R)
    {s with heap:=(s.heap.push emptyDict).push (instObj C s.heap.objs.size)}):
  codeAny (model prog w) A (.call (.ref C) ⟨vs,kw⟩) R s:=by
 obtain⟨hh,g,d,t,os⟩:=s
 exact PySem.W.make_core (PySem.W.makes_of X hm) (PySem.W.looks_findIn X hi) (fun self=>PySem.W.bind_fn X self hf) (.inl rfl) h
end
noncomputable def putF (f:Str)(v:V):List (Str×V)->List (Str×V)
 |[]=>[(f,v)]
 |(g,x)::r=>if g=f then (g,v)::r else (g,x)::putF f v r
theorem cq (f g:Str)(v:V): ∀fs:List (Str×V),(putF f v fs).lookup g=if g=f then some v else fs.lookup g
 |[]=>by
  show List.lookup g [(f,v)]=_
  by_cases h:g=f
  ·have hb:(g==f)=true:=beq_iff_eq.mpr h
   simp only[List.lookup,hb,if_pos h]
  ·have hb:(g==f)=false:=beq_eq_false_iff_ne.mpr h
   simp only[List.lookup,hb,if_neg h]
 |(k,x)::r=>by
  have ih:=cq f g v r
  rw[show putF f v ((k,x)::r)=(if k=f then (k,v)::r else (k,x)::putF f v r) from rfl]
  by_cases hk:k=f
  ·rw[if_pos hk]
   by_cases h:g=k
   ·have hb:(g==k)=true:=beq_iff_eq.mpr h
    simp only[List.lookup,hb,if_pos (h.trans hk)]
   ·have hb:(g==k)=false:=beq_eq_false_iff_ne.mpr h
    simp only[List.lookup,hb,if_neg (fun e:g=f=>h (e.trans hk.symm))]
  ·rw[if_neg hk]
   by_cases h:g=k
   ·have hb:(g==k)=true:=beq_iff_eq.mpr h
    simp only[List.lookup,hb,if_neg (fun e:g=f=>hk (h.symm.trans e))]
   ·have hb:(g==k)=false:=beq_eq_false_iff_ne.mpr h
    simp only[List.lookup,hb]
    exact ih
theorem iI (f:Str)(v:V): ∀fs:List (Str×V),f∈(putF f v fs).map (·.1)/\ ∀g,g∈fs.map (·.1)->g∈(putF f v fs).map (·.1)
 |[]=>⟨by simp [putF],fun g h=>by simp at h⟩
 |(k,x)::r=>by
  obtain⟨i1,i2⟩:=iI f v r
  rw[show putF f v ((k,x)::r)=(if k=f then (k,v)::r else (k,x)::putF f v r) from rfl]
  by_cases hk:k=f
  ·rw[if_pos hk]
   subst hk
   exact⟨by simp,fun g h=>by simpa using h⟩
  ·rw[if_neg hk]
   refine⟨?_,fun g h=>?_⟩
   ·rw[List.map_cons]
    exact List.mem_cons_of_mem _ i1
   ·rw[List.map_cons] at h ⊢
    rcases List.mem_cons.mp h with e|e
    ·exact List.mem_cons.mpr (.inl e)
    ·exact List.mem_cons_of_mem _ (i2 g e)
theorem iN (f:Str)(v:V): ∀fs:List (Str×V),(putF f v fs).length<=fs.length+1
 |[]=>by simp [putF]
 |(k,x)::r=>by
  have ih:=iN f v r
  rw[show putF f v ((k,x)::r)=(if k=f then (k,v)::r else (k,x)::putF f v r) from rfl]
  by_cases hk:k=f
  ·rw[if_pos hk,List.length_cons,List.length_cons];omega
  ·rw[if_neg hk,List.length_cons,List.length_cons];omega
theorem RelO.some_of {v:V}{o:Option Value}(r:RelO (some v) o): ∃u,o=some u/\RelV v u:=by
 cases o with
 |none=>exact (show False from r).elim
 |some u=>exact⟨u,rfl,r⟩
theorem RelO.none_of {o:Option Value}(r:RelO none o):o=none:=by
 cases o with
 |none=>rfl
 |some u=>exact (show False from r).elim
theorem qI {v:V}{u:Value}(r:RelV v u):PySem.W.handedIn u=true:=by
 cases v with
 |non=>cases (show u=Value.none from r);rfl
 |bl b=>cases (show u=Value.bool b from r);rfl
 |int i=>obtain⟨t,e⟩:=(show∃t,u=Value.int i t from r);cases e;rfl
 |str x=>obtain⟨t,e⟩:=(show∃t,u=Value.str x t from r);cases e;rfl
 |byt b=>obtain⟨t,e⟩:=(show∃t,u=Value.bytes b t from r);cases e;rfl
 |flt b=>obtain⟨t,e⟩:=(show∃t,u=Value.float b t from r);cases e;rfl
 |ref a=>cases (show u=Value.ref a from r);rfl
 |ty n=>cases (show u=Value.type n from r);rfl
section
variable {P:Program}{w:World}{H H':Hp}{h h':Heap}{a C dx:Addr}{fs fs':List (Str×V)}
theorem ly (hok:HOk P w H h)(e:H a=some (.ins C dx fs)): ∃mA,ObjM h a dx C mA/\(∀f,RelO (fs.lookup f) (mA f))/\PySem.Within mA (fs.map (·.1))/\fs.length<=1000/\H dx=some (.own a):=by
 obtain⟨d,z,ne,ob,mA,n,r,q⟩:=(show ObjOk P w H h a (.ins C dx fs) from hok a _ e)
 exact⟨mA,⟨ob,n,ne⟩,r,q,z,d⟩
end
structure Cls (K:PySem.W.Frag)(C:Addr):Prop where
 pg:PySem.W.plainGet K C Str.empty=true
 hd:PySem.W.hasDictIn K C=true
 po:PySem.W.plainOver K C=true
 sa:PySem.W.findIn K (.ref C) "__setattr__"=some (some (.builtin "object.__setattr__"))
theorem Cls.get {K:PySem.W.Frag}{C:Addr}(c:Cls K C)(f:Str):PySem.W.plainGet K C f=true:=c.pg
noncomputable def NoAttr (K:PySem.W.Frag)(C:Addr)(f:Str):Prop:=PySem.W.findIn K (.ref C) f=some none
theorem NoAttr.taker {K:PySem.W.Frag}{C:Addr}{f:Str}(n:NoAttr K C f):PySem.W.takerIn K C f=some none:=by
 unfold PySem.W.takerIn
 rw[show PySem.W.findIn K (.ref C) f=some none from n]
 rfl
structure Meth (K:PySem.W.Frag)(C:Addr)(m:Str)(f:Addr):Prop where
 at_:PySem.W.findIn K (.ref C) m=some (some (.ref f))
 fn:PySem.W.isFn K (.ref f)=true
 kp:keepIn K (.ref f)=true
section
variable {X:Cx}{pins:List (Addr×Obj)}{σ:St}{H:Hp}{s:Shared}{a C dx:Addr}{fs:List (Str×V)}{f:Str}{v:V}{A:Around}{E:Value->Shared->Prop}
theorem jG {b:Bool}{Q:Value->Shared->Prop}(I:Inv X pins σ H s)(e:H a=some (.ins C dx fs))(c:Cls X.K C)(n:NoAttr X.K C f)(l:fs.lookup f=some v)
  (h:∀u s',Inv X pins σ H s'->RelV v u->Q u s'):wpAny (model X.prog X.w) A (getAttr (.ref a) f b) Q E s:=by
 obtain⟨mA,O,r,_,_,_⟩:=ly I.hok e
 obtain⟨u,hu,ru⟩:=RelO.some_of (v:=v) (o:=mA f) (by rw[<-l];exact r f)
 exact vD I.kIn O (c.get f) c.hd n hu (qI ru) (h u _ (I.tok _) ru)
theorem g7 {m:Str}{g:Addr}{pl:Sem Bool}{Q:Value×List Value->Shared->Prop}(I:Inv X pins σ H s)(e:H a=some (.ins C dx fs))(c:Cls X.K C)(k:Meth X.K C m g)(l:fs.lookup m=none)
  (h:Q (.ref g,[.ref a]) s):wpAny (model X.prog X.w) A (getMethod (.ref a) m pl) Q E s:=by
 obtain⟨mA,O,r,_,_,_⟩:=ly I.hok e
 have hn:mA m=none:=RelO.none_of (by rw[<-l];exact r m)
 exact tf I.kIn O (c.get m) k.at_ k.fn hn h
theorem jf {y:V}{u:Value}{Q:Unit->Shared->Prop}(I:Inv X pins σ H s)(e:H a=some (.ins C dx fs))(c:Cls X.K C)(n:NoAttr X.K C f)(hl:fs.length<1000)(ry:RelV y u)
  (h:∀s',Inv X pins σ (upd H a (.ins C dx (putF f y fs))) s'->Q () s'):wpAny (model X.prog X.w) A (setAttr (.ref a) f u) Q E s:=by
 obtain⟨mA,O,r,wi,_,ho⟩:=ly I.hok e
 have hz:(fs.map (·.1)).length<=sizeLine:=by rw[List.length_map,sizeLine_eq];omega
 refine ur I.kIn O c.sa c.po n.taker c.hd wi hz fun h' O' sb=>h _ ?_
 have hd: ∃o,h'.get? dx=some o:=let ⟨o,_,_,e',_⟩:=O'.ns;⟨o,e'⟩
 refine I.write (x:=a) (e:=dx) (by rw[e];exact True.intro) (.inr ho) (fun b q hb z=>(sb.2 b hb).trans z) hd ?_
 refine⟨by rw[aC O.ne];exact ho,?_,O.ne,O'.obj,_,O'.ns,fun g=>?_,fun g hg=>?_⟩
 ·have:=iN f y fs;omega
 ·show RelO ((putF f y fs).lookup g) (if g=f then some u else mA g)
  rw[cq]
  by_cases q:g=f
  ·rw[if_pos q,if_pos q];exact ry
  ·rw[if_neg q,if_neg q];exact r g
 ·by_cases q:g=f
  ·rw[q];exact (iI f y fs).1
  ·refine (iI f y fs).2 g (wi g fun z=>hg ?_)
   show (if g=f then some u else mA g)=none
   rw[if_neg q];exact z
theorem Inv.made (I:Inv X pins σ H s):Inv X pins σ (upd (upd H s.heap.objs.size (.own (s.heap.objs.size+1))) (s.heap.objs.size+1) (.ins C s.heap.objs.size []))
  {s with heap:=(s.heap.push emptyDict).push (instObj C s.heap.objs.size)}:=by
 have e1:(s.heap.push emptyDict).get? s.heap.objs.size=some emptyDict:=Heap.get?_push_size s.heap rfl
 have e2:((s.heap.push emptyDict).push (instObj C s.heap.objs.size)).get? (s.heap.objs.size+1)=some (instObj C s.heap.objs.size):=by
  have:=Heap.get?_push_size (s.heap.push emptyDict) (o:=instObj C s.heap.objs.size) rfl
  rwa[Heap.size_push] at this
 have e3:(s.heap.push emptyDict).Ns s.heap.objs.size (fun _=>none):=⟨emptyDict,#[],_,e1,rfl,(fun e he=>absurd he (by simp)),fun _=>rfl⟩
 have I1:=I.laid (a:=s.heap.objs.size) (o:=.own (s.heap.objs.size+1)) (h':=s.heap.push emptyDict) (t':=s.toks) (fun b u q=>Heap.get?_push_of_some _ q) (Nat.le_refl _) ⟨_,e1⟩
 refine I1.laid (a:=s.heap.objs.size+1) (o:=.ins C s.heap.objs.size []) (t':=s.toks) (fun b u q=>Heap.get?_push_of_some _ q) (Nat.le_of_eq (Heap.size_push _ _)) ?_
 have ne:s.heap.objs.size≠s.heap.objs.size+1:=Nat.ne_of_lt (Nat.lt_succ_self _)
 refine⟨by rw[aC ne,aM],Nat.zero_le _,ne,e2,fun _=>none,(Heap.Ns1.of_empty e3).at fun o q=>Heap.get?_push_of_some _ q,fun _=>True.intro,fun y hy=>absurd rfl hy⟩
theorem vT {prog:Program}{w:World}{env:Env}{e:Expr}{f:Str}{pos:Pos}{s:Shared}{Q:Value->Shared->Prop}(hb:attributeBase e f env (eval e env)=eval e env)
  (h:wpAny (model prog w) A (eval e env) (fun o s₁=>wpAny (model prog w) A (getAttr o f true) Q E s₁) E s):wpAny (model prog w) A (eval (.Attribute e f pos) env) Q E s:=
 Attribute_any_ h (by rw[arm_eval_Attribute,hb])
end
def tFld (K:PySem.W.Frag)(ta:TE)(f:Str):TE:=fun σ H Q=>ta σ H fun x H1=> ∃a C dx fs v,x=.ref a/\H1 a=some (.ins C dx fs)/\Cls K C/\NoAttr K C f/\fs.lookup f=some v/\Q v H1
def sFld (K:PySem.W.Frag)(ta tv:TE)(f:Str):TS:=fun D σ H=>tv σ H fun y H1=>ta σ H1 fun x H2=> ∃a C dx fs,x=.ref a/\H2 a=some (.ins C dx fs)/\Cls K C/\NoAttr K C f/\fs.length<1000/\
 D.nx σ (upd H2 a (.ins C dx (putF f y fs)))
def InOp (X:Cx)(op:Operator)(rd:V->V->Hp->VK->Prop):Prop:=
 ∀ (pins:List (Addr×Obj)) (s:Shared) (σ:St) (H:Hp) (x y:V) (u v:Value) (Q:VK),Inv X pins σ H s->RelV x u->RelV y v->rd x y H Q->wpAny (model X.prog X.w) X.A (inplaceOp op u v) (EP X pins σ Q) X.xe s
def uu (K:PySem.W.Frag)(ta tv:TE)(rd:V->V->Hp->VK->Prop)(f:Str):TS:=fun D σ H=>ta σ H fun x H1=> ∃a C dx fs v,x=.ref a/\H1 a=some (.ins C dx fs)/\Cls K C/\NoAttr K C f/\fs.lookup f=some v/\
 tv σ H1 fun y H2=>rd v y H2 fun z H3=> ∃dx' fs',H3 a=some (.ins C dx' fs')/\fs'.length<1000/\D.nx σ (upd H3 a (.ins C dx' (putF f z fs')))
section
variable {X:Cx}{o e value:Expr}{f:Str}{pos pos' tpos:Pos}{ta tv:TE}
theorem eR (he:PE X e ta)(hb:attributeBase e f X.env (eval e X.env)=eval e X.env):PE X (.Attribute e f pos) (tFld X.K ta f):=by
 intro pins s σ H Q I h
 refine vT hb (thn (he pins s σ H _ I h) fun u s1 qz=>?_)
 obtain⟨x,H1,I1,rx,a,C,dx,fs,v,ex,ea,c,n,l,q⟩:=qz
 subst ex
 obtain rfl:u=Value.ref a:=rx
 exact jG I1 ea c n l fun u' s2 I2 ru=>⟨v,H1,I2,ru,q⟩
theorem oh (ha:PE X o ta)(hv:PE X value tv)(hs:swapsWith value (some (.Attribute o f pos')) pos.line X.env=pure false):PS X (.Assign [.Attribute o f pos'] value pos) (sFld X.K ta tv f):=by
 intro pins s σ H D I h
 refine plainObj_wpAny_Assign_Attribute (thn (hv pins s σ H _ I h) fun u s1 ⟨y,H1,I1,ry,q⟩=>thn (ha pins s1 σ H1 _ I1 q) fun ov s2 qz=>?_) hs
 obtain⟨x,H2,I2,rx,a,C,dx,fs,ex,ea,c,n,l,q2⟩:=qz
 subst ex
 obtain rfl:ov=Value.ref a:=rx
 exact jf I2 ea c n l ry fun s3 I3=>⟨σ,_,I3,q2⟩
theorem kf {op:Operator}{rd:V->V->Hp->VK->Prop}(ha:PE X o ta)(hv:PE X value tv)(hop:InOp X op rd):PS X (.AugAssign (.Attribute o f tpos) op value pos) (uu X.K ta tv rd f):=by
 intro pins s σ H D I h
 refine wpAny_AugAssign_AttributeAny (thn (ha pins s σ H _ I h) fun ov s1 qz=>?_)
 obtain⟨x,H1,I1,rx,a,C,dx,fs,v,ex,ea,c,n,l,q⟩:=qz
 subst ex
 obtain rfl:ov=Value.ref a:=rx
 refine jG I1 ea c n l fun u s2 I2 ru=>thn (hv pins s2 σ H1 _ I2 q) fun w3 s3 ⟨y,H2,I3,ry,q3⟩=>thn (hop pins s3 σ H2 v y u w3 _ I3 ru ry q3) fun w4 s4 qz=>?_
 obtain⟨z,H3,I4,rz,dx',fs',ea',l',q4⟩:=qz
 exact jf I4 ea' c n l' rz fun s5 I5=>⟨σ,_,I5,q4⟩
def rAdd:V->V->Hp->VK->Prop:=fun x y H Q=> ∃i j,x=.int i/\y=.int j/\Q (.int (i+j)) H
theorem sU:InOp X .Add rAdd:=by
 rintro pins s σ H x y u v Q I rx ry ⟨i,j,rfl,rfl,q⟩
 obtain⟨t,rfl⟩:=(show∃t,u=Value.int i t from rx)
 obtain⟨t',rfl⟩:=(show∃t',v=Value.int j t' from ry)
 exact PyProof.Rows.iadd_int ⟨.int (i+j),H,I.tok _,⟨_,rfl⟩,q⟩
theorem wg {pl:Sem Bool}{m:Str}{apos:Pos}{args:List Expr}{pins:List (Addr×Obj)}{s:Shared}{σ:St}{H:Hp}{Q:Value->Shared->Prop}{te:TE}(he:PE X e te)(I:Inv X pins σ H s)
  (h:te σ H fun x H1=> ∃a C dx fs g,x=.ref a/\H1 a=some (.ins C dx fs)/\Cls X.K C/\Meth X.K C m g/\fs.lookup m=none/\
    ∀s1,Inv X pins σ H1 s1->wpAny (model X.prog X.w) X.A (callWith pos (.ref g) [.ref a] (backTo pos (starEach args X.env)) (backToKw pos (keywordEach [] X.env))) Q X.xe s1)
  (ht:eval (.Call (.Attribute e m apos) args [] pos) X.env=(do
   let ov<-eval e X.env
   standAt apos.atName
   let (f,first)<-holding [ov] (getMethod ov m pl)
   callWith pos f first (backTo pos (starEach args X.env)) (backToKw pos (keywordEach [] X.env)))):
  wpAny (model X.prog X.w) X.A (eval (.Call (.Attribute e m apos) args [] pos) X.env) Q X.xe s:=by
 refine PySem.W.methodCall_KW (pl:=pl) (thn (he pins s σ H _ I h) fun u s1 qz=>?_) ht
 obtain⟨x,H1,I1,rx,a,C,dx,fs,g,ex,ea,c,k,l,q⟩:=qz
 subst ex
 obtain rfl:u=Value.ref a:=rx
 exact g7 I1 ea c k l (q s1 I1)
end
section
variable {X:Cx}{pins:List (Addr×Obj)}{σ:St}{H:Hp}{s:Shared}{A:Around}{E:Value->Shared->Prop}{Q:Value->Shared->Prop}{c:Value}{b:Bool}
end
end
section
structure Room (k:Nat)(A:Around):Prop where
 hd:A.handled=none
 dp:A.depth+3 * k+5<recursionLimit
 un:A.units+16 * k+200<cLine
theorem Room.mono {j k:Nat}{A:Around}(r:Room k A)(h:j<=k):Room j A:=⟨r.hd,by have:=r.dp;omega,by have:=r.un;omega⟩
theorem Room.deeper {k:Nat}{A:Around}(r:Room (k+1) A)(env:Env):Room k (A.deeper env):=
 ⟨r.hd,by have:=r.dp;show A.depth+1+3 * k+5<_;omega,by have:=r.un;show A.units+3+16 * k+200<_;omega⟩
theorem oz {A:Around}{C:Addr}{us:List Value}{kw:List (Str×Value)}:(A.under (.builtin "type.__call__" ⟨.ref C::us,kw⟩)).depth=A.depth+1:=by
 first|rfl|simp [Around.under,Code.weight,Code.isCreation,Code.isGuard,Code.isCaller,Code.frames,Code.isFrame,guardIds]
theorem oy {A:Around}{C:Addr}{us:List Value}{kw:List (Str×Value)}:(A.under (.builtin "type.__call__" ⟨.ref C::us,kw⟩)).units=A.units+1:=by
 first|rfl|simp [Around.under,Code.cUnits,Code.frames,Code.isFrame]
theorem Room.make {k:Nat}{A:Around}(r:Room (k+1) A)(C:Addr)(us:List Value)(kw:List (Str×Value)):Room k (A.under (.builtin "type.__call__" ⟨.ref C::us,kw⟩)):=
 ⟨r.hd,by have:=r.dp;rw[oz];omega,by have:=r.un;rw[oy];omega⟩
theorem Room.depth {k:Nat}{A:Around}(r:Room k A):A.depth<recursionLimit:=by have:=r.dp;omega
theorem Room.units {k:Nat}{A:Around}(r:Room k A):A.units+64<cLine:=by have:=r.un;omega
def tNil:TA:=fun _ H Q=>Q [] H
def tCons (ta:TE)(tr:TA):TA:=fun σ H Q=>ta σ H fun x H1=>tr σ H1 fun xs H2=>Q (x::xs) H2
section
variable {X:Cx}{e:Expr}{es:List Expr}{te:TE}{t:TA}{pos:Pos}
theorem pa_nil:PA X [] tNil:=fun _ _ _ _ H Q I h=>Calls.spliced_nil ⟨[],H,I,.nil,h⟩
theorem ar (ha:PE X e te)(hr:PA X es t)(hs:starEach (e::es) X.env=(false,eval e X.env)::starEach es X.env:=by rfl):PA X (e::es) (tCons te t):=by
 intro pos pins s σ H Q I h
 rw[hs]
 show wpAny _ _ (spliced ((false,eval e X.env)::backTo pos (starEach es X.env))) _ _ s
 refine Calls.spliced_cons (thn (ha pins s σ H _ I h) fun u s1 qz=>?_)
 obtain⟨x,H1,I1,r1,q1⟩:=qz
 exact thn (hr pos pins s1 σ H1 _ I1 q1) fun us s2 ⟨xs,H2,I2,r2,q2⟩=>⟨x::xs,H2,I2,.cons r1 r2,q2⟩
def tTup (t:TA):TE:=fun σ H Q=>t σ H fun xs H1=>xs.length<=sizeLine/\ ∀p,H1 p=none->Q (.ref p) (upd H1 p (.tup xs))
def tLst (t:TA):TE:=fun σ H Q=>t σ H fun xs H1=>xs.length<=sizeLine/\ ∀p,H1 p=none->Q (.ref p) (upd H1 p (.lst xs))
theorem jp {x1}(h:PA X es t):PE X (.Tuple es x1 pos) (tTup t):=by
 intro pins s σ H Q I hq
 refine wpAny_Tuple_spliced (thn (h pos pins s σ H _ I hq) fun us s1 ⟨xs,H1,I1,r,z,q⟩=>⟨by rw[<-r.length];exact z,?_⟩)
 have hf:H1 s1.heap.objs.size=none:=I1.hok.fresh (Nat.le_refl _)
 refine⟨.ref s1.heap.objs.size,upd H1 s1.heap.objs.size (.tup xs),I1.laid (t':=s1.toks) (fun b u e=>Heap.get?_push_of_some _ e) (Nat.le_refl _) ?_,rfl,q _ hf⟩
 exact⟨z,us,r,IsTupD.new _ _⟩
theorem xf (h:PA X es t):PE X (.List es pos) (tLst t):=by
 intro pins s σ H Q I hq
 refine wpAny_List_spliced (thn (h pos pins s σ H _ I hq) fun us s1 ⟨xs,H1,I1,r,z,q⟩=>⟨by rw[<-r.length];exact z,?_⟩)
 have hf:H1 s1.heap.objs.size=none:=I1.hok.fresh (Nat.le_refl _)
 refine⟨.ref s1.heap.objs.size,upd H1 s1.heap.objs.size (.lst xs),I1.laid (t':=s1.toks) (fun b u e=>Heap.get?_push_of_some _ e) (Nat.le_refl _) ?_,rfl,q _ hf⟩
 exact⟨z,us,0,r,Heap.get?_push_size _ rfl⟩
end
noncomputable abbrev Sp:=List V->Hp->VK->XK->Prop
noncomputable abbrev CXT:=List Env->Hp->Shared->XK->Value->Shared->Prop
structure Env0 (P:Program)(w:World)(K:PySem.W.Frag)(mg:Str->Option Value)(base:Heap)(A:Around)(outer:List Env)(s:Shared)(H:Hp):Prop where
 frames:A.frames=some outer
 mod:Mod K mg base
 bs: ∀b o,base.get? b=some o->s.heap.get? b=some o/\H b=none
 bsz:base.objs.size<=s.heap.objs.size
 funs:s.heap.FunFrames base outer
 frf: ∀b∈frs outer,H b=none
 hok:HOk P w H s.heap
 bare:AllBare s.gens
def CE (outer:List Env)(P:Program)(w:World)(H:Hp)(s:Shared)(Q:VK)(u:Value)(s':Shared):Prop:=
 ∃v H',s'.os=s.os/\AllBare s'.gens/\Un (frs outer) [] H H' s.heap s'.heap/\HOk P w H' s'.heap/\RelV v u/\Q v H'
def CR (CX:CXT)(outer:List Env)(P:Program)(w:World)(H:Hp)(s:Shared)(Q:VK)(E:XK)(r:Result)(s':Shared):Prop:=
 match r with
 |.ok (.ret u)=>CE outer P w H s Q u s'
 |.ok _=>False
 |.error e=>CX outer H s E e s'
structure FnOk (P:Program)(w:World)(K:PySem.W.Frag)(mg:Str->Option Value)(base:Heap)(CX:CXT)(k:Nat)(f:Addr)(fd:FuncData)(ps:List Str)(sp:Sp):Prop where
 len: ∀vs H Q E,sp vs H Q E->vs.length=ps.length
 run: ∀ (A:Around) (outer:List Env) (s:Shared) (H:Hp) (args:Args) (us:List Value) (vs:List V) (Q:VK) (E:XK),Room k A->Env0 P w K mg base A outer s H->BindsTo s fd args (ps.zip us)->Vals vs us->sp vs H Q E->
  codeAny (model P w) A (.call (.ref f) args) (CR CX outer P w H s Q E) s
theorem FnOk.mono {P:Program}{w:World}{K:PySem.W.Frag}{mg:Str->Option Value}{base:Heap}{CX:CXT}{j k:Nat}{f:Addr}{fd:FuncData}{ps:List Str}{sp:Sp}(F:FnOk P w K mg base CX j f fd ps sp)(h:j<=k):
 FnOk P w K mg base CX k f fd ps sp:=⟨F.len,fun A outer s H args us vs Q E hr=>F.run A outer s H args us vs Q E (hr.mono h)⟩
theorem FnOk.imp {P:Program}{w:World}{K:PySem.W.Frag}{mg:Str->Option Value}{base:Heap}{CX:CXT}{k:Nat}{f:Addr}{fd:FuncData}{ps:List Str}{sp sp':Sp}(F:FnOk P w K mg base CX k f fd ps sp)
  (h:∀vs H Q E,sp' vs H Q E->sp vs H Q E):FnOk P w K mg base CX k f fd ps sp':=
 ⟨fun vs H Q E q=>F.len vs H Q E (h _ _ _ _ q),fun A outer s H args us vs Q E hr he hb hv hs=>F.run A outer s H args us vs Q E hr he hb hv (h _ _ _ _ hs)⟩
theorem Env0.make {P:Program}{w:World}{K:PySem.W.Frag}{mg:Str->Option Value}{base:Heap}{A:Around}{outer:List Env}{s:Shared}{H:Hp}(e:Env0 P w K mg base A outer s H)(C:Addr)(us:List Value)(kw:List (Str×Value)):
 Env0 P w K mg base (A.under (.builtin "type.__call__" ⟨.ref C::us,kw⟩)) outer s H:=⟨by first|exact e.frames|(simpa [Around.under,Code.envs,Code.isFrame,pushEnvs] using e.frames),e.mod,e.bs,e.bsz,e.funs,e.frf,e.hok,e.bare⟩
section
variable {X:Cx}{pins:List (Addr×Obj)}{σ:St}{H:Hp}{s s':Shared}
theorem Inv.env0 (I:Inv X pins σ H s):Env0 X.prog X.w X.K X.mg X.base X.A X.stack s H:=
 ⟨I.ok.frames,I.ok.mod,I.bs,Nat.le_trans I.ok.bsz I.sz,I.stack,I.stkFree,I.hok,I.bare⟩
theorem Inv.after {Q:VK}{u:Value}(I:Inv X pins σ H s)(h:CE X.stack X.prog X.w H s Q u s'):EP X pins σ Q u s':=by
 obtain⟨v,H',os,bare,un,hok,r,q⟩:=h
 obtain⟨hh,g,d,t,os'⟩:=s'
 obtain rfl:os'=s.os:=os
 exact⟨v,H',I.call (h':=hh) (g':=g) (d':=d) (t':=t) (ch:=[]) un hok bare (fun b z=>absurd z (by simp)),r,q⟩
end
def tCall (sp:Sp)(dvs:List V)(E:XK)(t:TA):TE:=fun σ H Q=>t σ H fun vs H1=>sp (vs++dvs) H1 Q E
def tMeth (C:Addr)(m:Str)(sp:Sp)(dvs:List V)(E:XK)(ta:TE)(t:TA):TE:=fun σ H Q=>ta σ H fun x H1=> ∃a dx fs,x=.ref a/\H1 a=some (.ins C dx fs)/\fs.lookup m=none/\
 t σ H1 fun vs H2=>sp (x::(vs++dvs)) H2 Q E
def tMake (C:Addr)(sp:Sp)(dvs:List V)(E:XK)(t:TA):TE:=fun σ H Q=>t σ H fun vs H1=> ∀x dx,H1 x=none->H1 dx=none->dx≠x->
 sp (.ref x::(vs++dvs)) (upd (upd H1 dx (.own x)) x (.ins C dx [])) (fun v H2=>v=.non/\Q (.ref x) H2) E
noncomputable def Binds (K:PySem.W.Frag)(fd:FuncData)(ps:List Str)(ds:List Value):Prop:=
 ∀ (s:Shared) (us:List Value),K.In s.heap->(us++ds).length=ps.length->BindsTo s fd ⟨us,[]⟩ (ps.zip (us++ds))
theorem Binds.all {K:PySem.W.Frag}{fd:FuncData}{ps:List Str}(h:∀us:List Value,us.length=ps.length->bindArgs fd ⟨us,[]⟩=pure (ps.zip us)):Binds K fd ps []:=fun s us _ hl=>by
 rw[List.append_nil] at hl ⊢
 exact .of_eq (h us hl)
def bH (CX:CXT)(X:Cx)(E:XK):Prop:= ∀ (pins:List (Addr×Obj)) (σ:St) (H:Hp) (s:Shared) (e:Value) (s':Shared),Inv X pins σ H s->CX X.stack H s E e s'->X.xe e s'
section
variable {X:Cx}{CX:CXT}{k:Nat}{f C:Addr}{fd:FuncData}{ps:List Str}{sp:Sp}{dvs:List V}{ds:List Value}{E:XK}{x m:Str}{p pos apos:Pos}{e o:Expr}{es:List Expr}{ta:TE}{t:TA}
theorem nV {pins:List (Addr×Obj)}{σ:St}{H:Hp}{s:Shared}{Q:VK}{us:List Value}{vs:List V}(F:FnOk X.prog X.w X.K X.mg X.base CX k f fd ps sp)(hr:Room k X.A)(hb:Binds X.K fd ps ds)(hd:Vals dvs ds)(hx:bH CX X E)
  (I:Inv X pins σ H s)(r:Vals vs us)(h:sp (vs++dvs) H Q E):wpAny (model X.prog X.w) X.A (call (.ref f) us) (EP X pins σ Q) X.xe s:=by
 have r2:Vals (vs++dvs) (us++ds):=r.append hd
 have hl:(us++ds).length=ps.length:=by rw[<-r2.length];exact F.len _ _ _ _ h
 refine wpAny_call (codeAny_mono (F.run X.A X.stack s H ⟨us,[]⟩ (us++ds) (vs++dvs) Q E hr I.env0 (hb s us I.kIn hl) r2 h) fun r s' hq=>?_)
 cases r with
 |error e=>exact hx pins σ H s e s' I hq
 |ok fl=>
  cases fl with
  |ret u=>exact I.after hq
  |next=>exact False.elim hq
  |brk=>exact False.elim hq
  |cont=>exact False.elim hq
theorem cX (F:FnOk X.prog X.w X.K X.mg X.base CX k f fd ps sp)(hr:Room k X.A)(hg:Gl X x)(hm:X.mg x=some (.ref f))(hk:keepIn X.K (.ref f)=true)(hb:Binds X.K fd ps ds)(hd:Vals dvs ds)(hx:bH CX X E)
  (ha:PA X (e::es) t)(hdb:(x==("__debug__":Str))=false:=by decide)(he:starEach (e::es) X.env=(false,eval e X.env)::starEach es X.env:=by rfl)(hpl:(backTo pos (starEach es X.env)).any (·.1)=false:=by rfl):
  PE X (.Call (.Name x p) (e::es) [] pos) (tCall sp dvs E t):=by
 intro pins s σ H Q I h
 refine wpAny_Call_Name_kw (fE I hg hm ?_ hdb)
 refine PySem.W.callWith_K (h₀:=X.base) I.ok.mod.kin hk (thn (ha pos pins s σ H _ I h) fun us s1 ⟨vs,H1,I1,r,q⟩=>⟨I1.kIn,?_⟩) he hpl
 exact nV F hr hb hd hx I1 r q
theorem fu {pl:Sem Bool}(he:PE X o ta)(c:Cls X.K C)(hm:Meth X.K C m f)(F:FnOk X.prog X.w X.K X.mg X.base CX k f fd ps sp)(hr:Room k X.A)(hb:Binds X.K fd ps ds)(hd:Vals dvs ds)(hx:bH CX X E)(ha:PA X (e::es) t)
  (hst:starEach (e::es) X.env=(false,eval e X.env)::starEach es X.env:=by rfl)(hpl:(backTo pos (starEach es X.env)).any (·.1)=false:=by rfl)
  (ht:eval (.Call (.Attribute o m apos) (e::es) [] pos) X.env=(do
   let ov<-eval o X.env
   standAt apos.atName
   let (f,first)<-holding [ov] (getMethod ov m pl)
   callWith pos f first (backTo pos (starEach (e::es) X.env)) (backToKw pos (keywordEach [] X.env))):=by rfl):
  PE X (.Call (.Attribute o m apos) (e::es) [] pos) (tMeth C m sp dvs E ta t):=by
 intro pins s σ H Q I h
 refine PySem.W.methodCall_KW (pl:=pl) (thn (he pins s σ H _ I h) fun u s1 qz=>?_) ht
 obtain⟨x,H1,I1,rx,a,dx,fs,ex,ea,l,q⟩:=qz
 subst ex
 obtain rfl:u=Value.ref a:=rx
 refine g7 I1 ea c hm l ?_
 refine PySem.W.callWith_K (first:=[.ref a]) (h₀:=X.base) I.ok.mod.kin hm.kp (thn (ha pos pins s1 σ H1 _ I1 q) fun us s2 ⟨vs,H2,I2,r,q2⟩=>⟨I2.kIn,?_⟩) hst hpl
 exact nV (us:=.ref a::us) (vs:=.ref a::vs) F hr hb hd hx I2 (.cons rfl r) q2
theorem eB {pl:Sem Bool}(he:PE X o ta)(c:Cls X.K C)(hm:Meth X.K C m f)(F:FnOk X.prog X.w X.K X.mg X.base CX k f fd ps sp)(hr:Room k X.A)(hb:Binds X.K fd ps ds)(hd:Vals dvs ds)(hx:bH CX X E)
  (ht:eval (.Call (.Attribute o m apos) [] [] pos) X.env=(do
   let ov<-eval o X.env
   standAt apos.atName
   let (f,first)<-holding [ov] (getMethod ov m pl)
   callWith pos f first (backTo pos (starEach [] X.env)) (backToKw pos (keywordEach [] X.env))):=by rfl):
  PE X (.Call (.Attribute o m apos) [] [] pos) (tMeth C m sp dvs E ta tNil):=by
 intro pins s σ H Q I h
 refine PySem.W.methodCall_KW (pl:=pl) (thn (he pins s σ H _ I h) fun u s1 qz=>?_) ht
 obtain⟨x,H1,I1,rx,a,dx,fs,ex,ea,l,q⟩:=qz
 subst ex
 obtain rfl:u=Value.ref a:=rx
 refine g7 I1 ea c hm l ?_
 exact PySem.W.callWith_K0 (first:=[.ref a]) I1.kIn hm.kp (nV (us:=[.ref a]) (vs:=[.ref a]) F hr hb hd hx I1 (.cons rfl .nil) q)
structure Mk (K:PySem.W.Frag)(C f:Addr):Prop where
 makes:makesIn K C=true
 init:PySem.W.findIn K (.ref C) "__init__"=some (some (.ref f))
 fn:PySem.W.isFn K (.ref f)=true
 kp:keepIn K (.ref C)=true
theorem md {pins:List (Addr×Obj)}{σ:St}{H:Hp}{s:Shared}{Q:VK}{us:List Value}{vs:List V}(M:Mk X.K C f)(F:FnOk X.prog X.w X.K X.mg X.base CX k f fd ps sp)(hr:Room (k+1) X.A)(hb:Binds X.K fd ps ds)(hd:Vals dvs ds)
  (hx:bH CX X E)(I:Inv X pins σ H s)(r:Vals vs us)
  (h:∀x dx,H x=none->H dx=none->dx≠x->sp (.ref x::(vs++dvs)) (upd (upd H dx (.own x)) x (.ins C dx [])) (fun v H2=>v=.non/\Q (.ref x) H2) E):
  wpAny (model X.prog X.w) X.A (call (.ref C) us) (EP X pins σ Q) X.xe s:=by
 have hq:=h (s.heap.objs.size+1) s.heap.objs.size (I.hok.fresh (Nat.le_succ _)) (I.hok.fresh (Nat.le_refl _)) (Nat.ne_of_lt (Nat.lt_succ_self _))
 have I2:=Inv.made (C:=C) I
 have r2:Vals (V.ref (s.heap.objs.size+1)::(vs++dvs)) (Value.ref (s.heap.objs.size+1)::(us++ds)):=.cons rfl (r.append hd)
 have hl:(Value.ref (s.heap.objs.size+1)::us++ds).length=ps.length:=by
  have e:=r2.length
  rw[F.len _ _ _ _ hq] at e
  exact e.symm
 refine wpAny_call (sJ (f:=f) I.kIn M.makes M.init (beq_iff_eq.mp M.fn) (codeAny_mono (F.run _ X.stack _ _ ⟨Value.ref (s.heap.objs.size+1)::us,[]⟩ (Value.ref (s.heap.objs.size+1)::(us++ds)) _ _ E (hr.make C us [])
  (I2.env0.make C us []) (hb _ (Value.ref (s.heap.objs.size+1)::us) I2.kIn hl) r2 hq) fun r s' hq'=>?_))
 cases r with
 |error e=>exact hx pins σ _ _ e s' I2 hq'
 |ok fl=>
  cases fl with
  |ret u=>
   obtain⟨v,H',I3,rv,ev,q3⟩:=I2.after hq'
   subst ev
   exact⟨rv,⟨V.ref (s.heap.objs.size+1),H',I3,rfl,q3⟩⟩
  |next=>exact False.elim hq'
  |brk=>exact False.elim hq'
  |cont=>exact False.elim hq'
theorem uF (M:Mk X.K C f)(F:FnOk X.prog X.w X.K X.mg X.base CX k f fd ps sp)(hr:Room (k+1) X.A)(hg:Gl X x)(hm:X.mg x=some (.ref C))(hb:Binds X.K fd ps ds)(hd:Vals dvs ds)(hx:bH CX X E)
  (ha:PA X (e::es) t)(hdb:(x==("__debug__":Str))=false:=by decide)(he:starEach (e::es) X.env=(false,eval e X.env)::starEach es X.env:=by rfl)(hpl:(backTo pos (starEach es X.env)).any (·.1)=false:=by rfl):
  PE X (.Call (.Name x p) (e::es) [] pos) (tMake C sp dvs E t):=by
 intro pins s σ H Q I h
 refine wpAny_Call_Name_kw (fE I hg hm ?_ hdb)
 refine PySem.W.callWith_K (h₀:=X.base) I.ok.mod.kin M.kp (thn (ha pos pins s σ H _ I h) fun us s1 ⟨vs,H1,I1,r,q⟩=>⟨I1.kIn,?_⟩) he hpl
 exact md M F hr hb hd hx I1 r q
theorem rQ (M:Mk X.K C f)(F:FnOk X.prog X.w X.K X.mg X.base CX k f fd ps sp)(hr:Room (k+1) X.A)(hg:Gl X x)(hm:X.mg x=some (.ref C))(hb:Binds X.K fd ps ds)(hd:Vals dvs ds)(hx:bH CX X E)
  (hdb:(x==("__debug__":Str))=false:=by decide):PE X (.Call (.Name x p) [] [] pos) (tMake C sp dvs E tNil):=by
 intro pins s σ H Q I h
 refine wpAny_Call_Name_kw (fE I hg hm ?_ hdb)
 exact PySem.W.callWith_K0 I.kIn M.kp (md (us:=[]) M F hr hb hd hx I .nil h)
end
section
variable {X:Cx}{CX:CXT}{k:Nat}{f C:Addr}{fd:FuncData}{ps ks:List Str}{sp:Sp}{E:XK}{x m:Str}{p pos apos kpos:Pos}{e o:Expr}{es:List Expr}{kws:List Keyword}{te ta:TE}{t tk:TA}{nm:Option Str}
variable {g:List Value->List Value->List Value}{gV:List V->List V->List V}
end
structure FnScope (N P:List Str)(sc:Scope):Prop where
 kind:sc.kind=.function
 co:sc.isCoroutine=false
 gen:sc.isGenerator=false
 nd:N.Nodup
 pre:N.take P.length=P
 par: ∀x∈P,sc.names.lookup x=some .local \/sc.names.lookup x=some .cell
 nofree: ∀y∈sc.names,y.2≠.free
theorem kD {kindOf:Str->Option NameKind}{x:Str}: ∀ {binds:List (Str×Value)}{m:Str->Option Value},(∀v,(x,v) ∉ binds)->bindL kindOf binds m x=m x
 |[],_,_=>rfl
 |(n,v)::r,m,h=>by
  unfold bindL
  rw[kD fun w hw=>h w (List.mem_cons_of_mem _ hw)]
  split
  ·have:x≠n:=by rintro rfl;exact h v List.mem_cons_self
   simp [this]
  ·rfl
theorem kF {kindOf:Str->Option NameKind}{x:Str}: ∀ {binds:List (Str×Value)}{m:Str->Option Value},(∀v,(x,v) ∉ binds)->bindC kindOf binds m x=m x
 |[],_,_=>rfl
 |(n,v)::r,m,h=>by
  unfold bindC
  rw[kF fun w hw=>h w (List.mem_cons_of_mem _ hw)]
  split
  ·rfl
  ·have:x≠n:=by rintro rfl;exact h v List.mem_cons_self
   simp [this]
theorem kE {kindOf:Str->Option NameKind}{x:Str}{v:Value}: ∀ {P:List Str}{vs:List Value}{i:Nat}{m:Str->Option Value},P.Nodup->P[i]?=some x->vs[i]?=some v->kindOf x=some .local ->
  bindL kindOf (P.zip vs) m x=some v
 |[],_,_,_,_,h,_,_=>by simp at h
 |_::_,[],_,_,_,_,h,_=>by simp at h
 |p::P,w::vs,0,m,nd,h1,h2,hk=>by
  simp at h1 h2;subst h1;subst h2
  show bindL kindOf ((p,w)::P.zip vs) m p=_
  unfold bindL
  rw[kD fun v hv=>(List.nodup_cons.mp nd).1 (List.of_mem_zip hv).1,if_pos hk]
  simp
 |p::P,w::vs,i+1,m,nd,h1,h2,hk=>by
  show bindL kindOf ((p,w)::P.zip vs) m x=_
  unfold bindL
  exact kE (i:=i) (List.nodup_cons.mp nd).2 (by simpa using h1) (by simpa using h2) hk
theorem kG {kindOf:Str->Option NameKind}{x:Str}{v:Value}: ∀ {P:List Str}{vs:List Value}{i:Nat}{m:Str->Option Value},P.Nodup->P[i]?=some x->vs[i]?=some v->kindOf x≠some .local ->
  bindC kindOf (P.zip vs) m x=some v
 |[],_,_,_,_,h,_,_=>by simp at h
 |_::_,[],_,_,_,_,h,_=>by simp at h
 |p::P,w::vs,0,m,nd,h1,h2,hk=>by
  simp at h1 h2;subst h1;subst h2
  show bindC kindOf ((p,w)::P.zip vs) m p=_
  unfold bindC
  rw[kF fun v hv=>(List.nodup_cons.mp nd).1 (List.of_mem_zip hv).1,if_neg hk]
  simp
 |p::P,w::vs,i+1,m,nd,h1,h2,hk=>by
  show bindC kindOf ((p,w)::P.zip vs) m x=_
  unfold bindC
  exact kG (i:=i) (List.nodup_cons.mp nd).2 (by simpa using h1) (by simpa using h2) hk
def start (N:List Str)(vs:List V):St:=vs.map some++List.replicate (N.length - vs.length) none
def cxOf (CX:CXT)(P:Program)(w:World)(K:PySem.W.Frag)(mg:Str->Option Value)(base:Heap)(N:List Str)(qual:Str)(scope:Scope)(f:Addr)(cd:Value)(A:Around)(outer:List Env)(s:Shared)(H:Hp)(E:XK):Cx where
 prog:=P
 w:=w
 K:=K
 mg:=mg
 base:=base
 A:=A.deeper (envOfC qual scope s.heap.objs.size f cd)
 N:=N
 s₀:=s
 H₀:=H
 env:=envOfC qual scope s.heap.objs.size f cd
 outer:=outer
 stack:=envOfC qual scope s.heap.objs.size f cd::outer
 ex:=[]
 calm:=true
 fn:=fun _=>true
 pn:=[]
 xe:=fun e s'=>wpAny (model P w) (A.deeper (envOfC qual scope s.heap.objs.size f cd)) (leaving (envOfC qual scope s.heap.objs.size f cd) e) (fun _ s''=>CX outer H s E e s'') (fun e' s''=>CX outer H s E e' s'') s'
theorem nv {sc:Scope}{n:Nat}{x:Str}(h:sc.names.lookup x=some .cell): ∃c,(cellsFrom n sc.names []).lookup x=some c:=by
 have q:=PySem.W.cellsFrom_some sc.names n [] (.inl h)
 exact Option.isSome_iff_exists.mp q
theorem qE {CX:CXT}{P:Program}{w:World}{K:PySem.W.Frag}{mg:Str->Option Value}{base:Heap}{N ps:List Str}{qual:Str}{scope:Scope}{f:Addr}{cd:Value}{A:Around}{outer:List Env}{s s1:Shared}{H:Hp}{E:XK}{us:List Value}{vs:List V}
  (S:FnScope N ps scope)(hd:A.handled=none)(e0:Env0 P w K mg base A outer s H)(hl:vs.length=ps.length)(r:Vals vs us)
  (x:InCallC s s.heap.objs.size (bindL (envOfC qual scope s.heap.objs.size f cd).kindOf (ps.zip us) fun _=>none) (cellsFrom (s.heap.objs.size+1) scope.names []) (bindC (envOfC qual scope s.heap.objs.size f cd).kindOf (ps.zip us) fun _=>none) s1):
  Inv (cxOf CX P w K mg base N qual scope f cd A outer s H E) [] (start N vs) H s1:=by
 have hpl:ps.length<=N.length:=by have:=congrArg List.length S.pre;rw[List.length_take] at this;omega
 obtain⟨h1,tk,rfl,hk⟩:=x.done
 have noA: ∀b:Addr,b ∉ (cxOf CX P w K mg base N qual scope f cd A outer s H E).ex:=fun b z=>absurd (show b∈([]:List Addr) from z) (by simp)
 refine⟨⟨e0.mod,S.kind,rfl,rfl,Nat.le_refl _,fun y z c h1 h2=>?_,fun y hy=>?_,fun y c _ h=>?_,fun _=>hd,Around.frames_deeper e0.frames,.inr ⟨rfl,rfl⟩,fun b z=>absurd z (noA b),e0.bs,e0.bsz,fun b _ _=>noA b,fun b z=>absurd z (noA b),e0.funs,e0.frf⟩,
  rfl,e0.bare,Un.kept hk,⟨_,x.toInCall.ns,fun i y v h1 h2 h3=>?_⟩,fun y c h=>⟨_,x.cell y c h⟩,e0.hok.fresh (Nat.le_refl _),fun y c h=>?_,fun p hp=>absurd (show p∈([]:List (Addr×Obj)) from hp) (by simp),e0.hok.kept hk,?_⟩
 ·exact name_of_addr x.apart (PySem.mem_of_lookup h1) (PySem.mem_of_lookup h2)
 ·have hy:scope.names.lookup y=some .cell\/scope.names.lookup y=some .free:=hy
  rcases hy with hy|hy
  ·exact nv hy
  ·exact absurd rfl (S.nofree _ (PySem.mem_of_lookup hy))
 ·exact Nat.le_of_lt (x.above y c (PySem.mem_of_lookup h))
 ·have hi:i<vs.length:=by
   unfold start at h2
   by_cases hi:i<vs.length
   ·exact hi
   ·rw[List.getElem?_append_right (by simpa using hi)] at h2
    rw[List.getElem?_replicate] at h2
    split at h2<;>cases h2
  have ha:vs[i]?=some v:=by
   unfold start at h2
   rw[List.getElem?_append_left (by simpa using hi),List.getElem?_map] at h2
   cases e:vs[i]? with
   |none=>rw[e] at h2;cases h2
   |some a=>rw[e] at h2;cases h2;rfl
  obtain⟨u,hu,rv⟩:=r.get ha
  have hp:ps[i]?=some y:=by
   rw[<-S.pre,List.getElem?_take_of_lt (by omega)];exact h1
  have ndP:ps.Nodup:=by rw[<-S.pre];exact S.nd.sublist (List.take_sublist _ _)
  refine⟨u,rv,?_⟩
  rcases S.par y (List.mem_of_getElem? hp) with k|k
  ·exact .inl ⟨k,kE ndP hp hu k⟩
  ·obtain⟨c,e⟩:=nv (n:=s.heap.objs.size+1) k
   refine .inr ⟨.inl k,c,e,?_⟩
   have q:=x.cell y c e
   rw[kG ndP hp hu (by show scope.names.lookup y≠_;rw[k];decide)] at q
   exact q
 ·exact e0.hok.fresh (Nat.le_of_lt (x.above y c (PySem.mem_of_lookup h)))
 ·unfold start
  show _=N.length
  rw[List.length_append,List.length_map,List.length_replicate]
  omega
theorem wq {CX:CXT}{P:Program}{w:World}{K:PySem.W.Frag}{mg:Str->Option Value}{base:Heap}{k:Nat}{f:Addr}{name qual:Str}{params:Arguments}{body:List Stmt}{scope:Scope}{dV kV doc pm cdv ct oc:Value}{an od:Option Addr}
  {osl:Array (Option Value)}{N ps:List Str}{sp:Sp}(lk:K.lookup f=some ⟨oc,od,.func (fnOf name qual params body scope dV kV doc pm an cdv ct),osl⟩)(hcd:codeIn K cdv qual=true)(S:FnScope N ps scope)
  (len: ∀vs H Q E,sp vs H Q E->vs.length=ps.length)
  (hbody: ∀ (A:Around) (outer:List Env) (s:Shared) (H:Hp) (vs:List V) (Q:VK) (E:XK),Room k (A.deeper (envOfC qual scope s.heap.objs.size f cdv))->sp vs H Q E->
   ∃t,PSs (cxOf CX P w K mg base N qual scope f cdv A outer s H E) body t/\t {nx:=fun _ H'=>Q .non H',rt:=Q} (start N vs) H):
  FnOk P w K mg base CX (k+1) f (fnOf name qual params body scope dV kV doc pm an cdv ct) ps sp:=by
 refine⟨len,fun A outer s H args us vs Q E hr e0 hb r hsp=>?_⟩
 have hl:=len _ _ _ _ hsp
 have KX:K.In s.heap:=e0.mod.kin.keeps fun b o e=>(e0.bs b o e).1
 have lim:s.heap.NoLimit:=e0.mod.nolimit.keeps fun b o e=>(e0.bs b o e).1
 have hkind: ∀y∈ps.zip us,scope.names.lookup y.1=some .local \/(scope.names.lookup y.1=some .cell/\((cellsFrom (s.heap.objs.size+1) scope.names []).lookup y.1).isSome=true):=fun⟨n,v⟩ hy=>by
  rcases S.par n (List.of_mem_zip hy).1 with q|q
  ·exact .inl q
  ·exact .inr ⟨q,PySem.W.cellsFrom_some _ _ _ (.inl q)⟩
 refine codeAny_call_function hr.depth (KX _ _ lk) rfl S.co S.gen rfl (PySem.W.codeRec_of KX hcd) (hb _ _ _ _ ?_)
 refine wpAny_newFunctionEnv_cells S.kind hkind fun env he s1 x=>?_
 subst he
 refine⟨lim.keeps x.toInCall.keep,codeAny_func ?_⟩
 obtain⟨t,ht,hq⟩:=hbody A outer s H vs Q E (hr.deeper _) hsp
 have I:Inv (cxOf CX P w K mg base N qual scope f cdv A outer s H E) [] (start N vs) H s1:=qE S hr.hd e0 hl r x
 refine wpAny_mono (ht [] s1 (start N vs) H _ I hq) (fun fl s' hs=>?_) fun e s' hs=>hs
 have fin: ∀ {σ':St}{H':Hp}{v:V}{u:Value},Inv (cxOf CX P w K mg base N qual scope f cdv A outer s H E) [] σ' H' s'->RelV v u->Q v H'->CE outer P w H s Q u s':=
  fun{σ' H' v u} J rv q=>⟨v,H',J.os,J.bare,J.base,J.hok,rv,q⟩
 cases fl with
 |ret u=>
  obtain⟨v,σ',H',J,rv,q⟩:=hs
  exact fin J rv q
 |next=>
  obtain⟨σ',H',J,q⟩:=hs
  exact fin (v:=V.non) (u:=Value.none) J rfl q
 |brk=>
  obtain⟨_,_,_,q⟩:=hs
  exact False.elim q
 |cont=>
  obtain⟨_,_,_,q⟩:=hs
  exact False.elim q
end
section
section
variable {X:Cx}{x:Str}{p pos:Pos}{e:Expr}{es:List Expr}{t:TA}{id T:String}{r:List V->Hp->VK->Prop}
def tCB (r:List V->Hp->VK->Prop)(t:TA):TE:=fun σ H Q=>t σ H fun vs H1=>r vs H1 Q
theorem cW (hc:CallR X (.builtin id) r)(hg:Gl X x)(hm:X.mg x=none)(hv:bootBuiltins x=some (.builtin id))(ha:PA X (e::es) t)(hn:x≠ "__name__":=by decide)(hdb:(x==("__debug__":Str))=false:=by decide)
  (he:starEach (e::es) X.env=(false,eval e X.env)::starEach es X.env:=by rfl)(hpl:(backTo pos (starEach es X.env)).any (·.1)=false:=by rfl):PE X (.Call (.Name x p) (e::es) [] pos) (tCB r t):=by
 intro pins s σ H Q I h
 refine wpAny_Call_Name_kw (lr I hg hm hv ?_ hn hdb)
 exact PyProof.Rows.callWith_builtin1 (thn (ha pos pins s σ H _ I h) fun us s1 ⟨vs,H1,I1,r1,q1⟩=>hc pins s1 σ H1 vs us Q I1 r1 q1) he hpl
theorem kg (hc:CallR X (.type T) r)(hg:Gl X x)(hm:X.mg x=none)(hv:bootBuiltins x=some (.type T))(ha:PA X (e::es) t)(hn:x≠ "__name__":=by decide)(hdb:(x==("__debug__":Str))=false:=by decide)
  (he:starEach (e::es) X.env=(false,eval e X.env)::starEach es X.env:=by rfl)(hpl:(backTo pos (starEach es X.env)).any (·.1)=false:=by rfl):PE X (.Call (.Name x p) (e::es) [] pos) (tCB r t):=by
 intro pins s σ H Q I h
 refine wpAny_Call_Name_kw (lr I hg hm hv ?_ hn hdb)
 exact PyProof.Rows.callWith_type1 (thn (ha pos pins s σ H _ I h) fun us s1 ⟨vs,H1,I1,r1,q1⟩=>hc pins s1 σ H1 vs us Q I1 r1 q1) he hpl
end
end
end L2
namespace HT
open PySem PyProof.Rows
section
open PySem.SeqAt
open PySem.AutoSeq1 (wpAny_loadPart')
open PySem.MeetsSeq PySem.MeetsSeq2 PySem.MeetsSeq3
end
section
variable {prog:Program}{w:World}{A:Around}{E:Value->Shared->Prop}{s:Shared}
theorem cat_tup {t b:Addr}{vs ws:List Value}{Q:Value->Shared->Prop}(ht:IsTup s.heap t vs.toArray)(hb:IsTup s.heap b ws.toArray)(hv:vs≠ [])
  (h1:ws=[]->Q (.ref t) s)(h2:ws≠ []->Q (.ref s.heap.objs.size) {s with heap:=s.heap.push {cls:=.type "tuple",data:=.seq (vs++ws).toArray}})
  (hsz:vs.length+ws.length<=sizeLine):wpAny (model prog w) A (binaryOp .Add (.ref t) (.ref b)) Q E s:=by
 obtain⟨⟨cls,dd,data,sl⟩,ho,hc,n,hd⟩:=id ht
 obtain⟨⟨cls2,dd2,data2,sl2⟩,ho2,hc2,n2,hd2⟩:=id hb
 simp only at hc hd hc2 hd2
 subst hc hd hc2 hd2
 have e:vs.toArray++ws.toArray=(vs++ws).toArray:=by simp
 by_cases hw:ws=[]
 ·exact concat_meets ⟨_,ho,rfl⟩ ⟨_,ho2,rfl⟩ noFill_tuple_add seq_tuple_add PySem.F.slot_tuple_add PySem.F.entry_tuple_add (PySem.F.args_tuple_add_2 _ _)
   (tuple_addW1 t b vs.toArray ws.toArray n n2 dd dd2 sl sl2 (by simpa using hv) (by simp [hw])) ⟨ho,ho2,h1 hw⟩
 ·refine concat_meets ⟨_,ho,rfl⟩ ⟨_,ho2,rfl⟩ noFill_tuple_add seq_tuple_add PySem.F.slot_tuple_add PySem.F.entry_tuple_add (PySem.F.args_tuple_add_2 _ _)
   (tuple_addW2 t b vs.toArray ws.toArray n n2 dd dd2 sl sl2 (by simpa using hv) (by simpa using hw) (by rw[List.size_toArray,List.size_toArray];exact hsz)) ⟨ho,ho2,?_⟩
  rw[e]
  exact h2 hw
noncomputable def sIx (n d:Nat):Option Int->Nat
 |none=>d
 |some v=>if v<0 then (v+(n:Int)).toNat else min v.toNat n
theorem wR (n d:Nat)(hd:d<=n)(o:Option Int):sIx n d o<=n:=by
 cases o with
 |none=>exact hd
 |some v=>
  show (if v<0 then (v+(n:Int)).toNat else min v.toNat n)<=n
  by_cases hv:v<0
  ·rw[if_pos hv];omega
  ·rw[if_neg hv];exact Nat.min_le_right _ _
theorem pY (v:Int)(n d:Nat):(if v<0 then max (v+(n:Int)) 0 else min v (n:Int))=((sIx n d (some v):Nat):Int):=by
 show (if v<0 then max (v+(n:Int)) 0 else min v (n:Int))=(((if v<0 then (v+(n:Int)).toNat else min v.toNat n):Nat):Int)
 by_cases hv:v<0
 ·simp only[if_pos hv];omega
 ·simp only[if_neg hv];omega
theorem oO (lo hi:Option Int)(n:Nat):Builtin.Slice.sliceAdjust lo hi 1 (n:Int)=(((sIx n 0 lo:Nat):Int),((sIx n n hi:Nat):Int)):=by
 have h1: ¬((1:Int)<0):=by omega
 unfold Builtin.Slice.sliceAdjust
 simp only[h1,if_false]
 refine Prod.ext ?_ ?_
 ·cases lo with
  |none=>rfl
  |some v=>exact pY v n 0
 ·cases hi with
  |none=>rfl
  |some v=>exact pY v n n
theorem oj (i j:Nat):Builtin.Slice.slicePlaces (i:Int) (j:Int) 1=j - i:=by
 unfold Builtin.Slice.slicePlaces
 have h1:(1:Int)>0:=by omega
 simp only[h1,if_true,Int.ediv_one]
 split<;>omega
theorem jd {v:Value}{o:Option Int}{Q:Option Int->Shared->Prop}(p:IsPart v o)(h:Q o s):wpAny (model prog w) A (Builtin.Slice.slicePartIndex v) Q E s:=by
 cases p with
 |none=>exact slicePart_none h
 |int i t=>exact slicePart_int h
theorem iD {sl:Addr}{vl vu:Value}{lo hi:Option Int}{n:Nat}{Q:Int×Int×Nat->Shared->Prop}(hs:s.heap.IsSliceOf sl vl vu .none)(pl:IsPart vl lo)(pu:IsPart vu hi)
  (h:Q (((sIx n 0 lo:Nat):Int),1,sIx n n hi - sIx n 0 lo) s):wpAny (model prog w) A (Builtin.Slice.sliceApplied (.ref sl) (pure (n:Int))) Q E s:=by
 obtain⟨os,hos,hcs,hds⟩:=id hs
 unfold Builtin.Slice.sliceApplied Builtin.Slice.sliceFields
 refine wpAny_bind (wpAny_bind (wpAny_field hos hds (x:=vl) rfl (wpAny_bind (wpAny_field hos hds (x:=vu) rfl (wpAny_bind (wpAny_field hos hds (x:=.none) rfl (wpAny_pure ?_)))))))
 refine wpAny_bind (slicePart_none ?_)
 show wpAny _ _ (if ((1:Int)==0)=true then _ else _) _ _ s
 rw[if_neg (by decide)]
 refine wpAny_bind (jd pl (wpAny_bind (jd pu (wpAny_bind (wpAny_pure ?_)))))
 show wpAny _ _ (match Builtin.Slice.sliceAdjust lo hi 1 (n:Int) with|(lo,hi)=>pure (lo,(1:Int),Builtin.Slice.slicePlaces lo hi 1)) _ _ s
 rw[oO lo hi n]
 show wpAny _ _ (pure (((sIx n 0 lo:Nat):Int),(1:Int),Builtin.Slice.slicePlaces ((sIx n 0 lo:Nat):Int) ((sIx n n hi:Nat):Int) 1)) _ _ s
 rw[oj]
 exact wpAny_pure h
theorem rM (xs:Array Value)(i k:Nat):((List.range k).filterMap fun (m:Nat)=>xs[((i:Int)+(m:Int) * 1).toNat]?).toArray=((xs.toList.drop i).take k).toArray:=by
 have e:(fun (m:Nat)=>xs[((i:Int)+(m:Int) * 1).toNat]?)=fun m=>xs[i+m]?:=by
  funext m
  have:((i:Int)+(m:Int) * 1).toNat=i+m:=by omega
  rw[this]
 rw[e]
 have:=pick_run xs i k
 rw[List.filterMap_map] at this
 have e2:((fun x=>xs[x]?)∘fun x=>i+x)=fun m=>xs[i+m]?:=rfl
 rw[e2] at this
 rw[this]
theorem getItem_tuple_cut {t sl:Addr}{items:Array Value}{vl vu:Value}{lo hi:Option Int}{Q:Value->Shared->Prop}(ht:IsTup s.heap t items)(hs:s.heap.IsSliceOf sl vl vu .none)(pl:IsPart vl lo)(pu:IsPart vu hi)
  (hw: ¬(sIx items.size 0 lo=0/\sIx items.size items.size hi=items.size))
  (h:Q (.ref s.heap.objs.size) {s with heap:=s.heap.push {cls:=.type "tuple",data:=.seq ((items.toList.drop (sIx items.size 0 lo)).take (sIx items.size items.size hi - sIx items.size 0 lo)).toArray}})
  (hsz:items.size<=sizeLine):wpAny (model prog w) A (getItem (.ref t) (.ref sl)) Q E s:=by
 have htake:sizeOk (.seq ((items.toList.drop (sIx items.size 0 lo)).take (sIx items.size items.size hi - sIx items.size 0 lo)).toArray):=by
  show ((items.toList.drop (sIx items.size 0 lo)).take (sIx items.size items.size hi - sIx items.size 0 lo)).toArray.size<=sizeLine
  rw[List.size_toArray,List.length_take,List.length_drop,Array.length_toList]
  omega
 have hj:sIx items.size items.size hi<=items.size:=wR _ _ (Nat.le_refl _) hi
 obtain⟨os,hos,hcs,hds⟩:=id hs
 have hTs:s.TypeIs (.ref sl) "slice":=⟨os,hos,hcs⟩
 unfold getItem
 try with_reducible refine wpAny_holding ?_
 first|refine wpAny_bind (wpAny_pure ?_)|skip
 refine wpAny_bind (wpAny_sequenceKey ht.typeIs (by decide) ?_)
 refine wpAny_bind (wpAny_callSpecial?_slot (name:=Str.ofString "__getitem__") ht.typeIs PyProof.Rows.slot_tuple_getitem
  (wpAny_call_entry PyProof.Rows.slot_tuple_getitem ht.typeIs entry_tuple_getitem ?_ (args_tuple_getitem _ _)))
 show wpAny _ _ (Builtin.Tuple.tupleItemsOf (.ref t)>>=_) _ _ s
 refine wpAny_bind (tupleItemsOf_ ht ?_)
 refine wpAny_bind (wpAny_typeOf hTs ?_)
 rw[if_pos (by decide)]
 refine wpAny_bind (iD hs pl pu ?_)
 have hno: ¬((((sIx items.size 0 lo:Nat):Int)==0 && (1:Int)==1 && (sIx items.size items.size hi - sIx items.size 0 lo)==items.size)=true):=by
  intro q
  rw[Bool.and_eq_true,Bool.and_eq_true] at q
  have q1:((sIx items.size 0 lo:Nat):Int)=0:=eq_of_beq q.1.1
  have q2:sIx items.size items.size hi - sIx items.size 0 lo=items.size:=eq_of_beq q.2
  exact hw ⟨by omega,by omega⟩
 show wpAny _ _ (if (((sIx items.size 0 lo:Nat):Int)==0 && (1:Int)==1 && (sIx items.size items.size hi - sIx items.size 0 lo)==items.size)=true then _ else _) _ _ s
 rw[if_neg hno,rM]
 first
  |exact wpAny_bind (m:=Builtin.Tuple.tupleExact _) (wpAny_newObj_type (wpAny_pure ⟨_,rfl,wpAny_pure h⟩) htake)
  |exact wpAny_bind (m:=Builtin.Tuple.tupleExact _) (wpAny_newObj_type (wpAny_bind (wpAny_pure (wpAny_pure ⟨_,rfl,wpAny_pure h⟩))) htake)
  |exact wpAny_bind (wpAny_bind (m:=Builtin.Tuple.tupleExact _) (wpAny_newObj_type (wpAny_pure (wpAny_pure ⟨_,rfl,wpAny_pure h⟩)) htake))
  |exact wpAny_bind (wpAny_bind (m:=Builtin.Tuple.tupleExact _) (wpAny_newObj_type (wpAny_pure ⟨_,rfl,wpAny_pure h⟩) htake))
end
end HT
namespace L2
open PySem PySem.Spec PyProof.Rows
noncomputable abbrev TO:=St->Hp->(Option Int->Hp->Prop)->Prop
def PO (X:Cx)(e:Option Expr)(t:TO):Prop:=
 ∀ (pins:List (Addr×Obj)) (s:Shared) (σ:St) (H:Hp) (Q:Option Int->Hp->Prop),Inv X pins σ H s->t σ H Q->
   wpAny (model X.prog X.w) X.A (evalPart e X.env) (fun u s'=> ∃o H',Inv X pins σ H' s'/\IsPart u o/\Q o H') X.xe s
def ul:TO:=fun _ H Q=>Q none H
def tPart (t:TE):TO:=fun σ H Q=>t σ H fun x H1=> ∃i,x=.int i/\Q (some i) H1
section
variable {X:Cx}{e:Expr}{te:TE}{lo hi:Option Expr}{tl th:TO}{pos p2:Pos}
theorem po_none:PO X none ul:=by
 intro pins s σ H Q I h
 rw[evalPart_none]
 exact wpAny_pure ⟨none,H,I,.none,h⟩
theorem kT (h:PE X e te):PO X (some e) (tPart te):=by
 intro pins s σ H Q I hw
 rw[evalPart_some]
 refine thn (h pins s σ H _ I hw) fun u s1 qz=>?_
 obtain⟨x,H1,I1,r1,q1⟩:=qz
 obtain⟨i,rfl,q⟩:=q1
 obtain⟨t,rfl⟩:=r1
 exact⟨some i,H1,I1,.int i t,q⟩
def SlR (X:Cx)(r:V->Option Int->Option Int->Hp->VK->Prop):Prop:=
 ∀ (pins:List (Addr×Obj)) (s:Shared) (σ:St) (H:Hp) (x:V) (v vl vu:Value) (lo hi:Option Int) (sl:Addr) (Q:VK),Inv X pins σ H s->RelV x v->s.heap.IsSliceOf sl vl vu .none->IsPart vl lo->IsPart vu hi->r x lo hi H Q->
   ∃T id,typeLookup (.type T) "__getitem__"=pure (some (.builtin id))/\s.TypeIs v T/\wpAny (model X.prog X.w) X.A (getItem v (.ref sl)) (EP X pins σ Q) X.xe s
theorem SlR.or {r r':V->Option Int->Option Int->Hp->VK->Prop}(h:SlR X r)(h':SlR X r'):SlR X (fun x lo hi H Q=>r x lo hi H Q\/r' x lo hi H Q):=by
 intro pins s σ H x v vl vu lo hi sl Q I rx hs pl pu q
 rcases q with q|q
 ·exact h pins s σ H x v vl vu lo hi sl Q I rx hs pl pu q
 ·exact h' pins s σ H x v vl vu lo hi sl Q I rx hs pl pu q
def tSl (r:V->Option Int->Option Int->Hp->VK->Prop)(te:TE)(tl th:TO):TE:=fun σ H Q=>te σ H fun x H1=>tl σ H1 fun l H2=>th σ H2 fun u H3=>r x l u H3 Q
theorem mi {r:V->Option Int->Option Int->Hp->VK->Prop}(hr:SlR X r)(he:PE X e te)(hl:PO X lo tl)(hu:PO X hi th):PE X (.Subscript e (.Slice lo hi none p2) pos) (tSl r te tl th):=by
 intro pins s σ H Q I h
 refine Subscript_ (thn (he pins s σ H _ I h) fun v s1 qz=>?_)
 obtain⟨x,H1,I1,r1,q1⟩:=qz
 refine wpAny_Slice (thn (hl pins s1 σ H1 _ I1 q1) fun vl s2 ⟨l,H2,I2,pl,q2⟩=>thn (hu pins s2 σ H2 _ I2 q2) fun vu s3 qz=>?_)
 obtain⟨u,H3,I3,pu,q3⟩:=qz
 rw[evalPart_none]
 refine wpAny_pure ?_
 have I4:Inv X pins σ H3 {s3 with heap:=s3.heap.push {cls:=.type "slice",data:=.fields #[vl,vu,.none]}}:=I3.kept (t':=s3.toks) fun b ob q=>Heap.get?_push_of_some _ q
 obtain⟨T,id,hT,ht,hg⟩:=hr pins {s3 with heap:=s3.heap.push {cls:=.type "slice",data:=.fields #[vl,vu,.none]}} σ H3 x v vl vu l u s3.heap.objs.size Q I4 r1 (Heap.IsSliceOf.new ..) pl pu q3
 show wpAny (model X.prog X.w) X.A (subscriptTail e (.Slice lo hi none p2) v (.ref s3.heap.objs.size)) (EP X pins σ Q) X.xe {s3 with heap:=s3.heap.push {cls:=.type "slice",data:=.fields #[vl,vu,.none]}}
 exact tail_any (ops:=[.ref s3.heap.objs.size,v]) ht hT hg (by with_unfolding_all rfl)
def cutV (xs:List V)(lo hi:Option Int):List V:=(xs.drop (HT.sIx xs.length 0 lo)).take (HT.sIx xs.length xs.length hi - HT.sIx xs.length 0 lo)
theorem iO (xs:List V)(lo hi:Option Int):(cutV xs lo hi).length<=xs.length:=by
 unfold cutV
 rw[List.length_take,List.length_drop]
 omega
def rSlT (K:PySem.W.Frag):V->Option Int->Option Int->Hp->VK->Prop:=fun x lo hi H Q=> ∃a xs,x=.ref a/\SqT K H a xs/\
 ¬(HT.sIx xs.length 0 lo=0/\HT.sIx xs.length xs.length hi=xs.length)/\ ∀p,H p=none->Q (.ref p) (upd H p (.tup (cutV xs lo hi)))
theorem sl_tup:SlR X (rSlT X.K):=by
 intro pins s σ H x v vl vu lo hi sl Q I rx hs pl pu h
 obtain⟨a,xs,rfl,hx,hw,q⟩:=h
 cases rx
 obtain⟨its,r,ht,hz⟩:=I.tuple hx
 have hlen:its.toArray.size=xs.length:=by rw[List.size_toArray];exact r.length.symm
 refine⟨"tuple",_,PyProof.Rows.slot_tuple_getitem.lookup,ht.typeIs,?_⟩
 refine HT.getItem_tuple_cut ht hs pl pu (by rw[hlen];exact hw) ?_ (by rw[hlen];exact hz)
 rw[hlen]
 refine⟨.ref s.heap.objs.size,_,I.laid (t':=s.toks) (o:=.tup (cutV xs lo hi)) (fun b ob q=>Heap.get?_push_of_some _ q) (Nat.le_refl _) ?_,rfl,q _ (I.hok.fresh (Nat.le_refl _))⟩
 exact⟨Nat.le_trans (iO xs lo hi) hz,_,(r.drop (HT.sIx xs.length 0 lo)).take (HT.sIx xs.length xs.length hi - HT.sIx xs.length 0 lo),IsTupD.new _ _⟩
def rCatT (K:PySem.W.Frag):R2:=fun x y H Q=> ∃a b xs ys,x=.ref a/\y=.ref b/\SqT K H a xs/\SqT K H b ys/\xs≠ []/\xs.length+ys.length<=sizeLine/\
 (ys=[]->Q (.ref a) H)/\(ys≠ []-> ∀p,H p=none->Q (.ref p) (upd H p (.tup (xs++ys))))
theorem Vals.nil_iff {xs:List V}{us:List Value}(r:Vals xs us):us=[]↔xs=[]:=by
 cases r with
 |nil=>simp
 |cons _ _=>simp
theorem op_catT:OpR X (binaryOp .Add) (rCatT X.K):=by
 intro pins s σ H x y v u Q I rx ry h
 obtain⟨a,b,xs,ys,rfl,rfl,ha,hb,hx,hz,q1,q2⟩:=h
 cases rx
 cases ry
 obtain⟨its,r1,p1,_⟩:=I.tuple ha
 obtain⟨its2,r2,p2,_⟩:=I.tuple hb
 refine HT.cat_tup p1 p2 (fun z=>hx (r1.nil_iff.mp z)) (fun z=>⟨.ref a,H,I,rfl,q1 (r2.nil_iff.mp z)⟩) (fun z=>?_) (by rw[<-r1.length,<-r2.length];exact hz)
 refine⟨.ref s.heap.objs.size,_,I.laid (t':=s.toks) (o:=.tup (xs++ys)) (fun b ob q=>Heap.get?_push_of_some _ q) (Nat.le_refl _) ?_,rfl,q2 (fun w=>z (r2.nil_iff.mpr w)) _ (I.hok.fresh (Nat.le_refl _))⟩
 exact⟨by rw[List.length_append];exact hz,_,r1.append r2,IsTupD.new _ _⟩
end
section
noncomputable def ixN (n:Nat)(i:Int):Option Nat:=if 0<=i then (if i<n then some i.toNat else none) else if -(n:Int)<=i then some (i+n).toNat else none
def atI {α:Type}(xs:List α)(i:Int):Option α:=(ixN xs.length i).bind fun j=>xs[j]?
theorem vp {n:Nat}{i:Int}{j:Nat}(h:ixN n i=some j):seqIndex? i n=some j/\j<n/\ -(n:Int)<=i/\i<n:=by
 unfold ixN at h
 by_cases h0:0<=i
 ·rw[if_pos h0] at h
  by_cases h1:i<n
  ·rw[if_pos h1] at h
   have e:i.toNat=j:=Option.some.inj h
   exact⟨by rw[seqIndex_of h0 h1,e],by omega,by omega,h1⟩
  ·rw[if_neg h1] at h;cases h
 ·rw[if_neg h0] at h
  by_cases h1: -(n:Int)<=i
  ·rw[if_pos h1] at h
   have e:(i+n).toNat=j:=Option.some.inj h
   exact⟨by rw[seqIndex_neg (by omega) h1,e],by omega,h1,by omega⟩
  ·rw[if_neg h1] at h;cases h
theorem lO {α:Type}{xs:List α}{i:Int}{v:α}(h:atI xs i=some v): ∃j,seqIndex? i xs.length=some j/\xs[j]?=some v/\j<xs.length/\ -(xs.length:Int)<=i/\i<xs.length:=by
 unfold atI at h
 cases e:ixN xs.length i with
 |none=>rw[e] at h;cases h
 |some j=>
  rw[e] at h
  obtain⟨h1,h2,h3,h4⟩:=vp e
  exact⟨j,h1,h,h2,h3,h4⟩
theorem iw {α:Type}{xs:List α}{j:Nat}{v:α}(h:xs[j]?=some v):atI xs (j:Int)=some v:=by
 have hj:j<xs.length:=(List.getElem?_eq_some_iff.mp h).1
 have e:ixN xs.length (j:Int)=some j:=by
  unfold ixN
  rw[if_pos (by omega),if_pos (by omega)];simp
 unfold atI;rw[e];exact h
theorem uc {α:Type}(xs:List α)(v:α):atI (xs++[v]) (-1)=some v:=by
 have hl:(xs++[v]).length=xs.length+1:=by simp
 have e:ixN (xs++[v]).length (-1)=some xs.length:=by
  unfold ixN
  rw[hl,if_neg (by decide),if_pos (by omega)]
  congr 1
  omega
 unfold atI
 rw[e]
 show (xs++[v])[xs.length]?=some v
 simp
noncomputable def lP (b:Expr):Prop:= ∀o i,subscripted b false o i=operate [o,i] (getItem o i)
def IxR (X:Cx)(r:R2):Prop:=
 ∀ (value slice:Expr) (pins:List (Addr×Obj)) (s:Shared) (σ:St) (H:Hp) (x y:V) (v u:Value) (Q:VK),Inv X pins σ H s->RelV x v->RelV y u->r x y H Q->
   subscripted slice false v u=operate [v,u] (getItem v u)->wpAny (model X.prog X.w) X.A (subscriptTail value slice v u) (EP X pins σ Q) X.xe s
def MtR (X:Cx)(id:String)(r:V->List V->Hp->VK->Prop):Prop:=
 ∀ (pins:List (Addr×Obj)) (s:Shared) (σ:St) (H:Hp) (x:V) (xs:List V) (v:Value) (us:List Value) (Q:VK),Inv X pins σ H s->RelV x v->Vals xs us->r x xs H Q->
   wpAny (model X.prog X.w) X.A (call (.builtin id) (v::us)) (EP X pins σ Q) X.xe s
section
variable {X:Cx}{a b:Expr}{ta tb:TE}{pos:Pos}
theorem IxR.or {r r':R2}(h:IxR X r)(h':IxR X r'):IxR X (fun x y H Q=>r x y H Q\/r' x y H Q):=by
 intro value slice pins s σ H x y v u Q I rx ry q hs
 rcases q with q|q
 ·exact h value slice pins s σ H x y v u Q I rx ry q hs
 ·exact h' value slice pins s σ H x y v u Q I rx ry q hs
theorem o5 {r:R2}(hr:IxR X r)(ha:PE X a ta)(hb:PE X b tb)(hs:lP b):PE X (.Subscript a b pos) (tOp r ta tb):=by
 intro pins s σ H Q I h
 exact Subscript_ (binT ha hb I h fun v u s2 x y H2 I2 rx ry q=>hr a b pins s2 σ H2 x y v u Q I2 rx ry q (hs _ _))
def rIxL (K:PySem.W.Frag):R2:=fun x y H Q=> ∃p xs i v,x=.ref p/\y=.int i/\SqL K H p xs/\atI xs i=some v/\Q v H
def rIxT (K:PySem.W.Frag):R2:=fun x y H Q=> ∃p xs i v,x=.ref p/\y=.int i/\SqT K H p xs/\atI xs i=some v/\Q v H
def rIxS:R2:=fun x y H Q=> ∃z i c,x=.str z/\y=.int i/\z.length<=sizeLine/\atI z.cps.toList i=some c/\Q (.str ⟨#[c]⟩) H
theorem ix_list:IxR X (rIxL X.K):=by
 intro value slice pins s σ H x y v u Q I rx ry h hs
 obtain⟨p,xs,i,z,rfl,rfl,hq,he,q⟩:=h
 cases rx
 obtain⟨t,rfl⟩:=ry
 obtain⟨its,r,pl,hz⟩:=I.list hq
 obtain⟨j,h1,h2,h3,h4,h5⟩:=lO he
 obtain⟨w,ew,rw'⟩:=r.get h2
 have hl:=r.length
 have hn:=iG
 have fin:EP X pins σ Q w s:=⟨z,H,I,rw',q⟩
 by_cases h0:0<=i
 ·have hj:i.toNat=j:=by
   rw[seqIndex_of h0 h5] at h1
   exact Option.some.inj h1
  exact item_listR pl.isList h0 (by omega) (by rw[hj];simpa using ew) fin hs
 ·have hj:(i+(its.toArray.size:Int)).toNat=j:=by
   rw[seqIndex_neg (by omega) h4] at h1
   rw[List.size_toArray,<-hl]
   exact Option.some.inj h1
  exact subscriptTail_builtinR (x:=w) pl.isList.typeIs slot_list_getitem.lookup
   (wpAny_getItem_list_neg (Q:=fun r s'=>r=w/\EP X pins σ Q r s') pl.isList (by omega) (by rw[List.size_toArray]<;>omega) (by omega) (by rw[hj];simpa using ew) ⟨rfl,fin⟩) hs
theorem ix_tup:IxR X (rIxT X.K):=by
 intro value slice pins s σ H x y v u Q I rx ry h hs
 obtain⟨p,xs,i,z,rfl,rfl,hq,he,q⟩:=h
 cases rx
 obtain⟨t,rfl⟩:=ry
 obtain⟨its,r,pl,hz⟩:=I.tuple hq
 obtain⟨j,h1,h2,h3,h4,h5⟩:=lO he
 obtain⟨w,ew,rw'⟩:=r.get h2
 have hl:=r.length
 have hn:=iG
 have fin:EP X pins σ Q w s:=⟨z,H,I,rw',q⟩
 exact subscriptTail_builtinR (x:=w) pl.typeIs slot_tuple_getitem.lookup
  (getItem_tuple (j:=j) (Q:=fun r s'=>r=w/\EP X pins σ Q r s') pl (by omega) (by omega) (by rw[List.size_toArray,<-hl];exact h1) (by simpa using ew) ⟨rfl,fin⟩) hs
theorem lw:IxR X rIxS:=by
 intro value slice pins s σ H x y v u Q I rx ry h hs
 obtain⟨z,i,c,rfl,rfl,hz,he,q⟩:=h
 obtain⟨t,rfl⟩:=rx
 obtain⟨t',rfl⟩:=ry
 obtain⟨j,h1,h2,h3,h4,h5⟩:=lO he
 have hl:z.cps.toList.length=z.length:=by simp [Str.length]
 rw[hl] at h1 h4 h5
 have hn:=iG
 exact tail_any (typeIs_str s z t) slot_str_getitem.lookup (getItem_str (c:=c) (by
  have e1:decide (i< -(2 ^ 63:Int))=false:=decide_eq_false (by omega)
  have e2:decide (i≥2 ^ 63)=false:=decide_eq_false (by omega)
  rw[e1,e2,Bool.or_false]) (by rw[h1];simpa using h2) ⟨.str ⟨#[c]⟩,H,I.tok _,⟨_,rfl⟩,q⟩) hs
def rIx (K:PySem.W.Frag):R2:=fun x y H Q=>rIxL K x y H Q\/rIxT K x y H Q\/rIxS x y H Q
theorem ix_seq:IxR X (rIx X.K):=ix_list.or (ix_tup.or lw)
theorem Inv.lst {pins:List (Addr×Obj)}{σ:St}{H:Hp}{s:Shared}{p:Addr}{xs:List V}(I:Inv X pins σ H s)(h:H p=some (.lst xs)):
  ∃ (its:List Value) (n:Nat),Vals xs its/\s.heap.get? p=some {cls:=.type "list",data:=.seq its.toArray n}/\xs.length<=sizeLine:=by
 obtain⟨z,its,n,r,e⟩:=I.hok p _ h
 exact⟨its,n,r,e,z⟩
theorem kL (lo hi:Option Int)(n:Nat):(sliceBounds lo hi none n).1=((HT.sIx n 0 lo:Nat):Int)/\(sliceBounds lo hi none n).2.1=((HT.sIx n n hi:Nat):Int)/\(sliceBounds lo hi none n).2.2=1:=by
 refine⟨?_,?_,rfl⟩
 ·cases lo with
  |none=>simp [sliceBounds,HT.sIx]
  |some i=>
   simp only[sliceBounds,HT.sIx,Option.getD_none,show (1:Int)>0 by decide,if_true]
   by_cases h:i<0
   ·simp only[h,if_true]<;>omega
   ·simp only[h,if_false]<;>omega
 ·cases hi with
  |none=>simp [sliceBounds,HT.sIx]
  |some i=>
   simp only[sliceBounds,HT.sIx,Option.getD_none,show (1:Int)>0 by decide,if_true]
   by_cases h:i<0
   ·simp only[h,if_true]<;>omega
   ·simp only[h,if_false]<;>omega
theorem jS (its:List Value)(lo hi:Option Int):slicePick its.toArray lo hi none=((its.drop (HT.sIx its.length 0 lo)).take (HT.sIx its.length its.length hi - HT.sIx its.length 0 lo)).toArray:=by
 obtain⟨h1,h2,h3⟩:=kL lo hi its.toArray.size
 unfold slicePick
 rw[h1,h2,h3]
 simp only[sliceRange_one,pick_run,List.size_toArray]<;>rfl
def rSlL (K:PySem.W.Frag):V->Option Int->Option Int->Hp->VK->Prop:=fun x lo hi H Q=> ∃a xs,x=.ref a/\SqL K H a xs/\ ∀p,H p=none->Q (.ref p) (upd H p (.lst (cutV xs lo hi)))
theorem uq:SlR X (rSlL X.K):=by
 intro pins s σ H x v vl vu lo hi sl Q I rx hs pl pu h
 obtain⟨a,xs,rfl,hx,q⟩:=h
 cases rx
 obtain⟨its,r,ht,hz⟩:=I.list hx
 have hlen:=r.length
 refine⟨"list",_,slot_list_getitem.lookup,ht.isList.typeIs,?_⟩
 refine wpAny_getItem_list_slice ht.isList hs pl pu .none (by simp) ?_ (by rw[List.size_toArray]<;>omega)
 rw[jS,<-hlen]
 refine⟨.ref s.heap.objs.size,_,I.laid (t':=s.toks) (o:=.lst (cutV xs lo hi)) (fun b ob q=>Heap.get?_push_of_some _ q) (Nat.le_refl _) ?_,rfl,q _ (I.hok.fresh (Nat.le_refl _))⟩
 exact⟨Nat.le_trans (iO xs lo hi) hz,_,0,(r.drop (HT.sIx xs.length 0 lo)).take (HT.sIx xs.length xs.length hi - HT.sIx xs.length 0 lo),Heap.get?_push_size _ rfl⟩
noncomputable def flatV:V->Bool
 |.non=>true
 |.bl _=>true
 |.int _=>true
 |.str _=>true
 |_=>false
noncomputable def eqV:V->V->Bool
 |.non,.non=>true
 |.bl a,.bl b=>a==b
 |.bl a,.int b=>(if a then 1 else 0)==b
 |.int a,.bl b=>a==(if b then 1 else 0)
 |.int a,.int b=>a==b
 |.str a,.str b=>a==b
 |_,_=>false
theorem yB {A:Around}{s:Shared}{y x:V}{u v:Value}(ry:RelV y u)(rx:RelV x v)(fy:flatV y=true)(fx:flatV x=true):SeqAt.EqAt A s u v (eqV y x):=by
 cases y with
 |non=>
  cases ry
  cases x with
  |non=>cases rx;exact SeqAt.EqAt.same _
  |bl b=>cases rx;exact SeqAt.EqAt.none_bool b
  |int b=>obtain⟨t,rfl⟩:=rx;exact SeqAt.EqAt.none_int b t
  |str b=>obtain⟨t,rfl⟩:=rx;exact SeqAt.EqAt.none_str b t
  |_=>exact absurd (show false=true from fx) Bool.false_ne_true
 |bl a=>
  cases ry
  cases x with
  |non=>cases rx;exact SeqAt.EqAt.bool_none a
  |bl b=>cases rx;exact SeqAt.EqAt.bool_bool a b
  |int b=>obtain⟨t,rfl⟩:=rx;exact SeqAt.EqAt.bool_int a b t
  |str b=>obtain⟨t,rfl⟩:=rx;exact SeqAt.EqAt.bool_str a b t
  |_=>exact absurd (show false=true from fx) Bool.false_ne_true
 |int a=>
  obtain⟨t',rfl⟩:=ry
  cases x with
  |non=>cases rx;exact SeqAt.EqAt.int_none a t'
  |bl b=>cases rx;exact SeqAt.EqAt.int_bool a t' b
  |int b=>obtain⟨t,rfl⟩:=rx;exact SeqAt.EqAt.int_int a t' b t
  |str b=>obtain⟨t,rfl⟩:=rx;exact SeqAt.EqAt.int_str a t' b t
  |_=>exact absurd (show false=true from fx) Bool.false_ne_true
 |str a=>
  obtain⟨t',rfl⟩:=ry
  cases x with
  |non=>cases rx;exact SeqAt.EqAt.str_none a t'
  |bl b=>cases rx;exact SeqAt.EqAt.str_bool a t' b
  |int b=>obtain⟨t,rfl⟩:=rx;exact SeqAt.EqAt.str_int a t' b t
  |str b=>obtain⟨t,rfl⟩:=rx;exact SeqAt.EqAt.str_str a t' b t
  |_=>exact absurd (show false=true from fx) Bool.false_ne_true
 |_=>exact absurd (show false=true from fy) Bool.false_ne_true
def eqU (x:V)(u:Value):Bool:=match u with
 |.none=>eqV .non x
 |.bool b=>eqV (.bl b) x
 |.int i _=>eqV (.int i) x
 |.str z _=>eqV (.str z) x
 |_=>false
theorem oI {x y:V}{u:Value}(r:RelV y u)(f:flatV y=true):eqU x u=eqV y x:=by
 cases y with
 |non=>cases r;rfl
 |bl b=>cases r;rfl
 |int i=>obtain⟨t,rfl⟩:=r;rfl
 |str z=>obtain⟨t,rfl⟩:=r;rfl
 |_=>exact absurd (show false=true from f) Bool.false_ne_true
theorem iy {x:V}: ∀ {xs:List V}{us:List Value},Vals xs us->xs.all flatV=true->us.any (eqU x)=xs.any fun y=>eqV y x
 |_,_,.nil,_=>rfl
 |y::xs,u::us,.cons r t,f=>by
  rw[List.all_cons,Bool.and_eq_true] at f
  rw[List.any_cons,List.any_cons,oI r f.1,iy t f.2]
theorem eY {A:Around}{s:Shared}{x:V}{v:Value}(rx:RelV x v)(fx:flatV x=true): ∀ {xs:List V}{us:List Value},Vals xs us->xs.all flatV=true-> ∀u∈us,SeqAt.EqAt A s u v (eqU x u)
 |_,_,.nil,_=>fun u hu=>by cases hu
 |y::xs,u::us,.cons r t,f=>fun u' hu=>by
  rw[List.all_cons,Bool.and_eq_true] at f
  rcases List.mem_cons.mp hu with rfl|hu
  ·rw[oI r f.1];exact yB r rx f.1 fx
  ·exact eY rx fx t f.2 u' hu
def inV (x:V)(xs:List V):Bool:=xs.any fun y=>eqV y x
def rIn (K:PySem.W.Frag)(neg:Bool):R2:=fun x y H Q=> ∃p xs,y=.ref p/\(SqL K H p xs\/SqT K H p xs)/\flatV x=true/\xs.all flatV=true/\Q (.bl (if neg then !inV x xs else inV x xs)) H
theorem op_in_seq:OpR X (compareOp .In) (rIn X.K false):=by
 intro pins s σ H x y v u Q I rx ry h
 obtain⟨p,xs,rfl,hq,fx,fs,q⟩:=h
 cases ry
 rcases hq with hq|hq
 ·obtain⟨its,r,pl,hz⟩:=I.list hq
  refine SeqAt.in_listAt (eqU x) pl.isList (fun w hw=>eY rx fx r fs w (by simpa using hw)) ⟨.bl _,H,I,rfl,?_⟩
  rw[show its.toArray.any (eqU x)=its.any (eqU x) by simp,iy r fs]
  exact q
 ·obtain⟨its,r,pl,hz⟩:=I.tuple hq
  refine SeqAt.in_tupleAt (eqU x) pl (fun w hw=>eY rx fx r fs w (by simpa using hw)) ⟨.bl _,H,I,rfl,?_⟩
  rw[show its.toArray.any (eqU x)=its.any (eqU x) by simp,iy r fs]
  exact q
theorem op_notIn_seq:OpR X (compareOp .NotIn) (rIn X.K true):=by
 intro pins s σ H x y v u Q I rx ry h
 obtain⟨p,xs,rfl,hq,fx,fs,q⟩:=h
 cases ry
 rcases hq with hq|hq
 ·obtain⟨its,r,pl,hz⟩:=I.list hq
  refine SeqAt.notIn_listAt (eqU x) pl.isList (fun w hw=>eY rx fx r fs w (by simpa using hw)) ⟨.bl _,H,I,rfl,?_⟩
  rw[show its.toArray.any (eqU x)=its.any (eqU x) by simp,iy r fs]
  exact q
 ·obtain⟨its,r,pl,hz⟩:=I.tuple hq
  refine SeqAt.notIn_tupleAt (eqU x) pl (fun w hw=>eY rx fx r fs w (by simpa using hw)) ⟨.bl _,H,I,rfl,?_⟩
  rw[show its.toArray.any (eqU x)=its.any (eqU x) by simp,iy r fs]
  exact q
theorem op_notIn_str:OpR X (compareOp .NotIn) (fun x y H Q=> ∃i j,x=.str i/\y=.str j/\Q (.bl (!(!(Builtin.Str.occurrences j i 0 j.length 1).isEmpty))) H):=by
 intro pins s σ H x y v u Q I rx ry h
 obtain⟨i,j,rfl,rfl,q⟩:=h
 obtain⟨t,rfl⟩:=rx
 obtain⟨t',rfl⟩:=ry
 exact notIn_str ⟨.bl _,H,I,rfl,q⟩
theorem lI:CallR X (.builtin "len") (fun xs H Q=> ∃p ys,xs=[.ref p]/\(SqL X.K H p ys\/SqT X.K H p ys)/\Q (.int ys.length) H):=by
 intro pins s σ H xs us Q I r h
 obtain⟨p,ys,rfl,hq,q⟩:=h
 obtain⟨u,rfl,rx⟩:=vals1 r
 cases rx
 have hn:=iG
 rcases hq with hq|hq
 ·obtain⟨its,r',pl,hz⟩:=I.list hq
  have hlen:=r'.length
  exact Calls.call_len_list pl.isList (by simp only[List.size_toArray]<;>omega) ⟨.int ys.length,H,I.tok _,⟨s.toks+1,by rw[List.size_toArray,hlen]⟩,q⟩
 ·obtain⟨its,r',pl,hz⟩:=I.tuple hq
  have hlen:=r'.length
  exact len_tuple pl (by simp only[List.size_toArray]<;>omega) ⟨.int ys.length,H,I.tok _,⟨s.toks+1,by rw[List.size_toArray,hlen]⟩,q⟩
theorem call_len_str:CallR X (.builtin "len") (fun xs H Q=> ∃z,xs=[.str z]/\z.length<=sizeLine/\Q (.int z.length) H):=by
 intro pins s σ H xs us Q I r h
 obtain⟨z,rfl,hz,q⟩:=h
 obtain⟨u,rfl,t,rfl⟩:=vals1 r
 have hn:=iG
 exact len_str (by omega) ⟨.int z.length,H,I.tok _,⟨_,rfl⟩,q⟩
theorem CallR.or {f:Value}{r r':List V->Hp->VK->Prop}(h:CallR X f r)(h':CallR X f r'):CallR X f (fun xs H Q=>r xs H Q\/r' xs H Q):=by
 intro pins s σ H xs us Q I rs q
 rcases q with q|q
 ·exact h pins s σ H xs us Q I rs q
 ·exact h' pins s σ H xs us Q I rs q
theorem jX:CallR X (.type "tuple") (fun xs H Q=> ∃p ys,xs=[.ref p]/\((SqL X.K H p ys/\ ∀l,H l=none->Q (.ref l) (upd H l (.tup ys)))\/(SqT X.K H p ys/\Q (.ref p) H))):=by
 intro pins s σ H xs us Q I r h
 obtain⟨p,ys,rfl,h⟩:=h
 obtain⟨u,rfl,rx⟩:=vals1 r
 cases rx
 rcases h with⟨hq,q⟩|⟨hq,q⟩
 ·obtain⟨its,r',pl,hz⟩:=I.list hq
  have hlen:=r'.length
  refine call_tuple_list pl.isList (fun h' kp=>?_) (by simp only[List.size_toArray]<;>omega)
  have I1:Inv X pins σ H {s with heap:=h'}:=I.kept (t':=s.toks) kp
  have I2:Inv X pins σ (upd H h'.objs.size (.tup ys)) {s with heap:=h'.push {cls:=.type "tuple",data:=.seq its.toArray}}:=
   I1.laid (t':=s.toks) (fun b o e=>Heap.get?_push_of_some _ e) (Nat.le_refl _) (show ObjOk X.prog X.w _ _ _ (.tup ys) from⟨hz,its,r',IsTupD.new _ _⟩)
  exact⟨.ref h'.objs.size,_,I2,rfl,q _ (I1.hok.fresh (Nat.le_refl _))⟩
 ·obtain⟨its,r',pl,hz⟩:=I.tuple hq
  exact call_tuple_same pl ⟨.ref p,H,I,rfl,q⟩
def tyV (K:PySem.W.Frag)(T:String)(x:V)(H:Hp):Prop:=match x with
 |.str _=>T= "str"
 |.int _=>T= "int"
 |.ref p=>(T= "list"/\ ∃xs,SqL K H p xs)\/(T= "tuple"/\ ∃o,K.lookup p=some o/\o.cls=.type "tuple"/\o.dict=none)\/
  (T= "dict"/\((∃kvs,H p=some (.dK kvs))\/ ∃kvs,H p=some (.dT kvs)))\/(T= "set"/\ ∃S n,H p=some (.set S n))
 |_=>False
theorem wu {pins:List (Addr×Obj)}{σ:St}{H:Hp}{s:Shared}{T:String}{x:V}{v:Value}(I:Inv X pins σ H s)(r:RelV x v)(ty:tyV X.K T x H):
  s.TypeIs v T/\ ∀a,v=.ref a-> ∃ob,s.heap.get? a=some ob/\ob.dict=none:=by
 cases x with
 |str z=>
  obtain⟨t,rfl⟩:=r
  cases (show T= "str" from ty)
  exact⟨typeIs_str s z t,fun _ e=>nomatch e⟩
 |int i=>
  obtain⟨t,rfl⟩:=r
  cases (show T= "int" from ty)
  exact⟨typeIs_int s i t,fun _ e=>nomatch e⟩
 |ref p=>
  cases r
  rcases ty with⟨rfl,xs,hq⟩|⟨rfl,o,hk,hc,hd⟩|⟨rfl,hk⟩|⟨rfl,S,n,hk⟩
  ·obtain⟨its,_,pl,_⟩:=I.list hq
   refine⟨pl.isList.typeIs,fun a e=>?_⟩
   cases e
   obtain⟨o,n,e,c,hd,_⟩:=pl
   exact⟨o,e,hd⟩
  ·refine⟨⟨o,I.kIn p o hk,hc⟩,fun a e=>?_⟩
   cases e
   exact⟨o,I.kIn _ o hk,hd⟩
  ·have z: ∃o,s.heap.get? p=some o/\o.ExactDict:=by
    rcases hk with⟨kvs,hk⟩|⟨kvs,hk⟩
    ·obtain⟨_,_,_,_,o,_,_,e,ex,_⟩:=I.hok p _ hk
     exact⟨o,e,ex⟩
    ·obtain⟨_,_,_,_,o,_,_,e,ex,_⟩:=I.hok p _ hk
     exact⟨o,e,ex⟩
   obtain⟨o,e,ex⟩:=z
   refine⟨⟨o,e,ex.1⟩,fun a e2=>?_⟩
   cases e2
   exact⟨o,e,ex.2.1⟩
  ·obtain⟨o,_,_,_,e,ex,_⟩:=I.hok p _ hk
   refine⟨⟨o,e,ex.1⟩,fun a e2=>?_⟩
   cases e2
   exact⟨o,e,ex.2.1⟩
 |_=>exact False.elim ty
def tBM (K:PySem.W.Frag)(T:String)(r:V->List V->Hp->VK->Prop)(to:TE)(t:TA):TE:=fun σ H Q=>to σ H fun x H1=>tyV K T x H1/\t σ H1 fun xs H2=>r x xs H2 Q
variable {o e:Expr}{es:List Expr}{to:TE}{t:TA}{name:Str}{apos cpos:Pos}{T id:String}{r:V->List V->Hp->VK->Prop}
theorem o6 (pa:PlainAttrs T)(slot:Slot T name id)(hty:typeOf (.builtin id)=pure (.type "method_descriptor"))(hm:MtR X id r)(ho:PE X o to)(ha:PA X (e::es) t)
  (hbase:attributeBase o name X.env (eval o X.env)=eval o X.env:=by rfl)
  (hfew:((backTo cpos (starEach (e::es) X.env)).all (fun x=>!x.1) && (backToKw cpos (keywordEach [] X.env)).all (fun x=>x.1.isSome)
   && decide ((e::es).length+([]:List Keyword).length+(if ([]:List Keyword).isEmpty then 0 else 1)<30))=true:=by rfl)
  (hline:(apos.endLine==cpos.line)=true:=by rfl)(hs:starEach (e::es) X.env=(false,eval e X.env)::starEach es X.env:=by rfl)(hplain:(backTo cpos (starEach es X.env)).any (·.1)=false:=by rfl):
  PE X (.Call (.Attribute o name apos) (e::es) [] cpos) (tBM X.K T r to t):=by
 intro pins s σ H Q I h
 refine wpAny_Call_method_late hbase hfew hline rfl (thn (ho pins s σ H _ I h) fun v s1 qz=>?_)
 obtain⟨x,H1,I1,r1,ty,q1⟩:=qz
 obtain⟨h1,h2⟩:=wu I1 r1 ty
 refine⟨T,id,pa,slot,hty,h1,h2,?_⟩
 have hA:=ha cpos pins s1 σ H1 _ I1 q1
 rw[hs] at hA ⊢
 refine Calls.callWith_builtin (by show (false||(backTo cpos (starEach es X.env)).any (·.1))=false;rw[hplain]<;>rfl) (Calls.evalArgs_plain ?_)
 exact thn hA fun us s2 ⟨vs,H2,I2,r2,q2⟩=>hm pins s2 σ H2 x vs v us Q I2 r1 r2 q2
end
end
section
def MtM (X:Cx)(id:String)(r:V->List V->Hp->VK->Prop):Prop:=
 ∀ (pins:List (Addr×Obj)) (s:Shared) (σ:St) (H:Hp) (x:V) (xs:List V) (v:Value) (us:List Value) (Q:VK),Inv X pins σ H s->RelV x v->Vals xs us->r x xs H Q->
   wpAny (model X.prog X.w) X.A (call (.builtin id) (v::us)) (EP X pins σ Q) X.xe s
theorem Vals.one: ∀ {x:V}{us:List Value},Vals [x] us-> ∃u,us=[u]/\RelV x u
 :=by
 intro x us h
 cases h with
 |cons r q=>cases q;exact⟨_,rfl,r⟩
theorem Vals.rep {xs:List V}{us:List Value}(h:Vals xs us): ∀k:Nat,Vals (List.replicate k xs).flatten (List.replicate k us).flatten
 |0=>.nil
 |k+1=>by
  rw[List.replicate_succ,List.replicate_succ,List.flatten_cons,List.flatten_cons]
  exact Vals.append h (Vals.rep h k)
theorem ky (its:List Value): ∀ (k:Nat) (acc:List Value),
  List.foldl (fun x1 x2=>x1++x2) acc.toArray (List.replicate k its.toArray)=(acc++(List.replicate k its).flatten).toArray
 |0,acc=>by simp
 |k+1,acc=>by
  have e:acc.toArray++its.toArray=(acc++its).toArray:=by simp
  have e2:(acc++its)++(List.replicate k its).flatten=acc++(List.replicate (k+1) its).flatten:=by
   rw[List.replicate_succ,List.flatten_cons,List.append_assoc]
  rw[<-e2,<-ky its k (acc++its),<-e,List.replicate_succ,List.foldl_cons]
section
variable {X:Cx}{pins:List (Addr×Obj)}{σ:St}{H:Hp}{s:Shared}{l b:Addr}{xs ys zs:List V}
theorem Inv.lset {its its':List Value}{n:Nat}{f:Array Value->Array Value}{t':Nat}(I:Inv X pins σ H s)(hH:H l=some (.lst xs))
  (e:s.heap.get? l=some {cls:=.type "list",data:=.seq its.toArray n})(hf:f its.toArray=its'.toArray)(hv:Vals ys its')(hz:ys.length<=sizeLine):
  Inv X pins σ (upd H l (.lst ys)) {s with heap:=s.heap.update l (Obj.mapSeq f),toks:=t'}:=by
 have q:=PySem.IsL.update e f
 rw[hf] at q
 refine I.write (x:=l) (e:=l) (by rw[hH];exact trivial) (.inl rfl) (fun b' u hb hu=>(Heap.get?_update_other s.heap (Obj.mapSeq f) (Ne.symm hb)).trans hu) ⟨_,q⟩ ?_
 exact⟨hz,its',_,hv,q⟩
theorem Inv.lnew {its:List Value}{t':Nat}(I:Inv X pins σ H s)(hv:Vals ys its)(hz:ys.length<=sizeLine):
  Inv X pins σ (upd H s.heap.objs.size (.lst ys)) {s with heap:=s.heap.push {cls:=.type "list",data:=.seq its.toArray},toks:=t'}:=
 I.laid (fun _ _ q=>Heap.get?_push_of_some _ q) (Nat.le_refl _) ⟨hz,its,0,hv,Heap.get?_push_size _ rfl⟩
theorem Inv.fresh (I:Inv X pins σ H s):H s.heap.objs.size=none:=I.hok.fresh (Nat.le_refl _)
theorem Inv.lstM (I:Inv X pins σ H s)(hH:H l=some (.lst xs)):xs.length<=sizeLine/\ ∃ (its:List Value) (n:Nat),Vals xs its/\xs.length=its.length/\s.heap.get? l=some {cls:=.type "list",data:=.seq its.toArray n}:=by
 obtain⟨z,its,n,r,e⟩:=I.hok l _ hH
 exact⟨z,its,n,r,r.length,e⟩
theorem ms {n:Nat}(h:n<=sizeLine):Builtin.List.listTooLong n=false:=by
 unfold Builtin.List.listTooLong
 exact decide_eq_false (by omega)
end
section
variable {X:Cx}
def uz:V->List V->Hp->VK->Prop:=fun x vs H Q=> ∃l xs y,x=.ref l/\vs=[y]/\H l=some (.lst xs)/\xs.length<sizeLine/\Q .non (upd H l (.lst (xs++[y])))
theorem qq:MtM X "list.append" uz:=by
 intro pins s σ H x vs v us Q I rx rv h
 obtain⟨l,xs,y,rfl,rfl,hH,hz,q⟩:=h
 cases rx
 obtain⟨u,rfl,ru⟩:=rv.one
 obtain⟨z,its,n,r,hl,e⟩:=I.lstM hH
 refine call_meets F.slot_list_append ⟨_,e,rfl⟩ F.entry_list_append (F.args_list_append_2 _ _) (PySem.list_append l its.toArray n u (by rw[List.size_toArray];omega)) ⟨e,?_⟩
 refine⟨.non,_,I.lset (its':=its++[u]) hH e (by simp) (r.append (.cons ru .nil)) ?_,rfl,q⟩
 rw[List.length_append,List.length_singleton]
 omega
def uy:V->List V->Hp->VK->Prop:=fun x vs H Q=> ∃l b xs zs,x=.ref l/\vs=[.ref b]/\H l=some (.lst xs)/\H b=some (.lst zs)/\xs.length+zs.length<=sizeLine/\Q .non (upd H l (.lst (xs++zs)))
theorem yU:MtM X "list.extend" uy:=by
 intro pins s σ H x vs v us Q I rx rv h
 obtain⟨l,b,xs,zs,rfl,rfl,hH,hB,hz,q⟩:=h
 cases rx
 obtain⟨u,rfl,ru⟩:=rv.one
 cases ru
 obtain⟨z,its,n,r,hl,e⟩:=I.lstM hH
 obtain⟨z2,its2,n2,r2,hl2,e2⟩:=I.lstM hB
 have hsz:its.toArray.size+its2.toArray.size<=sizeLine:=by rw[List.size_toArray,List.size_toArray];omega
 have hlong: ¬(!its.toArray.isEmpty && Builtin.List.listTooLong (its.toArray.size+its2.toArray.size))=true:=by
  rw[ms hsz,Bool.and_false]
  exact Bool.false_ne_true
 refine call_meets F.slot_list_extend ⟨_,e,rfl⟩ F.entry_list_extend (F.args_list_extend_2 _ _)
  (AutoSeq1.list_extend_list_list_0 l its.toArray n b its2.toArray n2 hlong (by rw[List.size_toArray];omega) (by omega)) ⟨e,e2,?_⟩
 refine⟨.non,_,I.lset (its':=its++its2) hH e (by simp) (r.append r2) ?_,rfl,q⟩
 rw[List.length_append]
 omega
def rCat:R2:=fun x y H Q=> ∃l b xs zs,x=.ref l/\y=.ref b/\H l=some (.lst xs)/\H b=some (.lst zs)/\xs.length+zs.length<=sizeLine/\ ∀p,H p=none->Q (.ref p) (upd H p (.lst (xs++zs)))
theorem r6:OpR X (binaryOp .Add) rCat:=by
 intro pins s σ H x y v u Q I rx ry h
 obtain⟨l,b,xs,zs,rfl,rfl,hH,hB,hz,q⟩:=h
 cases rx
 cases ry
 obtain⟨z,its,n,r,hl,e⟩:=I.lstM hH
 obtain⟨z2,its2,n2,r2,hl2,e2⟩:=I.lstM hB
 refine PySem.P.add_list e e2 ?_ (by rw[List.size_toArray,List.size_toArray];omega)
 have ea:its.toArray++its2.toArray=(its++its2).toArray:=by simp
 rw[ea]
 exact⟨.ref _,_,I.lnew (t':=s.toks) (r.append r2) (by rw[List.length_append];omega),rfl,q _ I.fresh⟩
def rRep:R2:=fun x y H Q=> ∃l k xs,x=.ref l/\y=.int k/\H l=some (.lst xs)/\ -(2 ^ 63)<=k/\k<2 ^ 63/\xs.length * k.toNat<=sizeLine/\
 ∀p,H p=none->Q (.ref p) (upd H p (.lst (List.replicate k.toNat xs).flatten))
theorem vj {α:Type}(xs:List α)(k:Nat):(List.replicate k xs).flatten.length=k * xs.length:=by
 induction k with
 |zero=>simp
 |succ k ih=>rw[List.replicate_succ,List.flatten_cons,List.length_append,ih,Nat.succ_mul,Nat.add_comm]
theorem rX:OpR X (binaryOp .Mult) rRep:=by
 intro pins s σ H x y v u Q I rx ry h
 obtain⟨l,k,xs,rfl,rfl,hH,h1,h2,hz,q⟩:=h
 cases rx
 obtain⟨t,rfl⟩:=ry
 obtain⟨z,its,n,r,hl,e⟩:=I.lstM hH
 have hlen:its.toArray.size * k.toNat<=sizeLine:=by rw[List.size_toArray,<-hl];exact hz
 have hcap: ¬its.toArray.size * k.toNat>(2 ^ 63 - 1) / 8:=by
  have:(sizeLine:Nat)<=(2 ^ 63 - 1) / 8:=by decide
  omega
 have hfit: ¬(!Builtin.List.listFitsIndex k)=true:=by
  rw[fitsIndex_both h1 h2]
  exact Bool.false_ne_true
 have hlong: ¬Builtin.List.listTooLong (its.toArray.size * k.toNat)=true:=by
  rw[ms hlen]
  exact Bool.false_ne_true
 have hnew:List.foldl (fun x1 x2=>x1++x2) #[] (List.replicate (if its.toArray.isEmpty=true then 0 else k.toNat) its.toArray)=(List.replicate k.toNat its).flatten.toArray:=by
  have f0: ∀m:Nat,List.foldl (fun x1 x2=>x1++x2) #[] (List.replicate m its.toArray)=(List.replicate m its).flatten.toArray:=fun m=>by
   have:=ky its m []
   rw[List.nil_append] at this
   exact this
  rw[f0]
  cases its with
  |nil=>simp
  |cons a r'=>rw[if_neg (by simp)]
 refine wpAny_binaryOp_repeat_ref (T:= "list") (U:= "int") (by decide) ⟨_,e,rfl⟩ (fun s'=>typeIs_int s' k t) noFill_list_mul F.fills_int_mul F.slot_int_rmul repeat_list F.slot_int_index.lookup
  (call_meets F.slot_int_rmul (typeIs_int s k t) F.entry_int_rmul (F.args_int_rmul_2 _ _) (int___rmul___int_list k t l its.toArray n)
   ⟨e,rfl,⟨_,e,rfl⟩,call_meets F.slot_list_mul ⟨_,e,rfl⟩ F.entry_list_mul (F.args_list_mul_2 _ _) (AutoListH.list___mul___list_int_3 l its.toArray n k t hfit hcap hlong) ⟨e,?_⟩⟩)
 rw[hnew]
 exact⟨.ref _,_,I.lnew (t':=s.toks) (r.rep k.toNat) (by rw[vj,Nat.mul_comm];exact hz),rfl,q _ I.fresh⟩
end
section
variable {prog:Program}{w:World}{A:Around}{E:Value->Shared->Prop}{s:Shared}
end
section
variable {X:Cx}
end
end
section
section
variable {κ:Type} [DecidableEq κ]
noncomputable def valV (kvs:List (κ×V))(k:κ):Option V:=(kvs.find? fun kv=>decide (kv.1=k)).map (·.2)
theorem lR {p:κ×V}{r:List (κ×V)}{k:κ}(e:p.1=k):valV (p::r) k=some p.2:=by simp [valV,List.find?_cons,e]
theorem lS {p:κ×V}{r:List (κ×V)}{k:κ}(e:¬p.1=k):valV (p::r) k=valV r k:=by simp [valV,List.find?_cons,e]
theorem RelO.isSome_eq {o:Option V}{u:Option Value}(r:RelO o u):o.isSome=u.isSome:=by
 cases o with
 |none=>cases u with
  |none=>rfl
  |some _=>exact (show False from r).elim
 |some _=>cases u with
  |none=>exact (show False from r).elim
  |some _=>rfl
theorem KV.val {kvs:List (κ×V)}{vs:List (κ×Value)}(r:KV kvs vs)(k:κ):RelO (valV kvs k) (valueAt vs k):=by
 unfold KV at r
 induction r with
 |nil=>exact True.intro
 | @cons p q ps qs h t ih=>
   obtain⟨h1,h2⟩:=h
   by_cases e:p.1=k
   ·have e':q.1=k:=h1.symm.trans e
    have b:valueAt (q::qs) k=some q.2:=by simp [valueAt,List.find?_cons,e']
    rw[lR e,b];exact h2
   ·have e': ¬q.1=k:=fun z=>e (h1.trans z)
    have b:valueAt (q::qs) k=valueAt qs k:=by simp [valueAt,List.find?_cons,e']
    rw[lS e,b];exact ih
end
theorem ph {P:Program}{w:World}{k:Key}{u:Value}(r:RelV (kV k) u):(dy P w).is k u=true:=by
 cases k with
 |inl i=>obtain⟨t,e⟩:=(show∃t,u=Value.int i t from r);subst e;exact mD P w i t
 |inr x=>obtain⟨t,e⟩:=(show∃t,u=Value.str x t from r);subst e;exact mz P w x t
theorem kr {P:Program}{w:World}: ∀ {ks:List Key}{us:List Value},Vals (ks.map kV) us->ItemsAre (dy P w) ks us
 |[],_,r=>by rw[List.map_nil] at r;cases r;exact .nil
 |k::ks,_,r=>by
  rw[List.map_cons] at r
  cases r with
  |cons h t=>exact .cons (ph h) (kr t)
noncomputable abbrev KT (H:Hp):List (List Key×V)->List (List Key×Addr×Value)->Prop:=Paired fun p q=>p.1=q.1/\H q.2.1=some (.tup (p.1.map kV))/\RelV p.2 q.2.2
theorem KT.val {H:Hp}{kvs:List (List Key×V)}{xs:List (List Key×Addr×Value)}(r:KT H kvs xs)(k:List Key):RelO (valV kvs k) ((atKey xs k).map (·.2)):=by
 induction r with
 |nil=>exact True.intro
 | @cons p q ps qs h t ih=>
   obtain⟨h1,_,h2⟩:=h
   by_cases e:p.1=k
   ·have e':q.1=k:=h1.symm.trans e
    have b:atKey (q::qs) k=some q.2:=by simp [atKey,List.find?_cons,e']
    rw[lR e,b];exact h2
   ·have e': ¬q.1=k:=fun z=>e (h1.trans z)
    have b:atKey (q::qs) k=atKey qs k:=by simp [atKey,List.find?_cons,e']
    rw[lS e,b];exact ih
section
variable {P:Program}{w:World}{H:Hp}{h:Heap}{a:Addr}
theorem v3 {u:HO}(ok:HOk P w H h)(e:Rd H a u):ObjOk P w H h a u:=e.ok ok
theorem pQ {kvs:List (Key×V)}(ok:HOk P w H h)(e:Rd H a (.dK kvs)):kvs.length<=sizeLine/\(a==sysModules)=false/\ ∃vs,KV kvs vs/\h.DictOf (dy P w) a vs:=
 show ObjOk P w H h a (.dK kvs) from v3 ok e
theorem lu {ks:List Key}(ok:HOk P w H h)(e:H a=some (.tup (ks.map kV))):(tupleKind (dy P w)).is h ks a:=by
 obtain⟨_,its,r,⟨o,h1,h2,n,h3⟩,_⟩:=(show ObjOk P w H h a (.tup (ks.map kV)) from ok a _ e)
 exact⟨o,its.toArray,n,h1,h2,h3,by simpa using kr r⟩
theorem pP {kvs:List (List Key×V)}(ok:HOk P w H h)(e:Rd H a (.dT kvs)):kvs.length<=sizeLine/\(a==sysModules)=false/\
  ∃xs,KT H kvs xs/\h.DictOfH (tupleKind (dy P w)) a xs:=by
 obtain⟨z,y,xs,r,o,es,ep,h1,h2,h3,h4,h5⟩:=(show ObjOk P w H h a (.dT kvs) from v3 ok e)
 refine⟨z,y,xs,r,o,es,ep,h1,h2,h3,h4,fun x hx=>?_,h5⟩
 have all: ∀ {l:List (List Key×V)}{m:List (List Key×Addr×Value)},KT H l m-> ∀x∈m,(tupleKind (dy P w)).is h x.1 x.2.1:=by
  intro l m q
  induction q with
  |nil=>intro x hx;exact nomatch hx
  | @cons p q ps qs hq t ih=>
    intro x hx
    rcases List.mem_cons.mp hx with e|hx
    ·subst e
     exact lu ok (by rw[<-hq.1];exact hq.2.1)
    ·exact ih x hx
 exact all r x hx
end
def DGet (H:Hp)(a:Addr)(y:V)(r:Option V):Prop:=
 (∃kvs k,Rd H a (.dK kvs)/\y=kV k/\r=valV kvs k)\/ ∃kvs k b,Rd H a (.dT kvs)/\y=.ref b/\H b=some (.tup (k.map kV))/\r=valV kvs k
section
variable {X:Cx}{pins:List (Addr×Obj)}{σ:St}{H:Hp}{s:Shared}{a:Addr}{y v:V}{u r:Value}{o:Option V}{A:Around}{E:Value->Shared->Prop}
theorem qO {Q:Value->Shared->Prop}(hu:A.units+1<cLine)(I:Inv X pins σ H s)(g:DGet H a y (some v))(ry:RelV y u)(h:∀w' s',Inv X pins σ H s'->RelV v w'->Q w' s'):
  wpAny (model X.prog X.w) A (getItem (.ref a) u) Q E s:=by
 rcases g with⟨kvs,k,e,ey,l⟩|⟨kvs,k,b,e,ey,eb,l⟩
 ·subst ey
  obtain⟨z,hd,vs,rel,dd⟩:=pQ I.hok e
  obtain⟨w',hw,rw'⟩:=RelO.some_of (v:=v) (o:=valueAt vs k) (by rw[l];exact rel.val k)
  exact wpAny_getItem_of (ph ry) dd.mapOf hw (h w' _ (I.tok _) rw')
 ·subst ey
  cases (show u=Value.ref b from ry)
  obtain⟨z,hd,xs,rel,dd⟩:=pP I.hok e
  obtain⟨w',hw,rw'⟩:=RelO.some_of (v:=v) (o:=(atKey xs k).map (·.2)) (by rw[l];exact rel.val k)
  obtain⟨p,hp,hp2⟩:=Option.map_eq_some_iff.mp hw
  refine wpAny_getItem_heap (tupleKind_room_in1 hu) (lu I.hok eb) dd hp ?_
  rw[hp2]
  exact h w' _ (I.tok _) rw'
theorem Af {Q:Value->Shared->Prop}(hu:A.units+1<cLine)(I:Inv X pins σ H s)(g:DGet H a y o)(ry:RelV y u)(h:∀s',Inv X pins σ H s'->Q (.bool o.isSome) s'):
  wpAny (model X.prog X.w) A (compareOp .In u (.ref a)) Q E s:=by
 rcases g with⟨kvs,k,e,ey,l⟩|⟨kvs,k,b,e,ey,eb,l⟩
 ·subst ey
  obtain⟨z,hd,vs,rel,dd⟩:=pQ I.hok e
  refine wpAny_in_of (ph ry) hd dd.mapOf ?_
  rw[<-(rel.val k).isSome_eq,<-l]
  exact h _ (I.tok _)
 ·subst ey
  cases (show u=Value.ref b from ry)
  obtain⟨z,hd,xs,rel,dd⟩:=pP I.hok e
  refine wpAny_in_heap (tupleKind_room_in1 hu) (lu I.hok eb) hd dd ?_
  have q:=(rel.val k).isSome_eq
  rw[Option.isSome_map] at q
  rw[<-q,<-l]
  exact h _ (I.tok _)
theorem vL {Q:Value->Shared->Prop}(hu:A.units+1<cLine)(I:Inv X pins σ H s)(g:DGet H a y o)(ry:RelV y u)(h:∀s',Inv X pins σ H s'->Q (.bool (!o.isSome)) s'):
  wpAny (model X.prog X.w) A (compareOp .NotIn u (.ref a)) Q E s:=by
 rcases g with⟨kvs,k,e,ey,l⟩|⟨kvs,k,b,e,ey,eb,l⟩
 ·subst ey
  obtain⟨z,hd,vs,rel,dd⟩:=pQ I.hok e
  refine wpAny_notIn_of (ph ry) hd dd.mapOf ?_
  rw[<-(rel.val k).isSome_eq,<-l]
  exact h _ (I.tok _)
 ·subst ey
  cases (show u=Value.ref b from ry)
  obtain⟨z,hd,xs,rel,dd⟩:=pP I.hok e
  refine wpAny_notIn_heap (tupleKind_room_in1 hu) (lu I.hok eb) hd dd ?_
  have q:=(rel.val k).isSome_eq
  rw[Option.isSome_map] at q
  rw[<-q,<-l]
  exact h _ (I.tok _)
end
section
variable {X:Cx}{pins:List (Addr×Obj)}{σ:St}{H:Hp}{s:Shared}{a:Addr}{kvs:List (Key×V)}{k:Key}{u:Value}{A:Around}{E:Value->Shared->Prop}
end
theorem ni {X:Cx}{pins:List (Addr×Obj)}{σ:St}{H:Hp}{s:Shared}{a:Addr}{y:V}{o:Option V}(I:Inv X pins σ H s)(g:DGet H a y o):s.TypeIs (.ref a) "dict":=by
 rcases g with⟨kvs,k,e,_,_⟩|⟨kvs,k,b,e,_,_,_⟩
 ·obtain⟨_,_,vs,_,dd⟩:=pQ I.hok e
  exact dd.typeIs
 ·obtain⟨_,_,xs,_,dd⟩:=pP I.hok e
  exact dd.typeIs
section
variable {X:Cx}{o i e value:Expr}{pos pos' tpos:Pos}{td ty tv:TE}
end
section
variable {X:Cx}{pos:Pos}
end
section
variable {X:Cx}{pins:List (Addr×Obj)}{σ:St}{H:Hp}{s:Shared}{a:Addr}{y d:V}{u r:Value}{o:Option V}{A:Around}{E:Value->Shared->Prop}
end
section
variable {X:Cx}{o e f:Expr}{apos cpos:Pos}{td ty tx:TE}
end
section
variable {X:Cx}{pins:List (Addr×Obj)}{σ:St}{H:Hp}{s:Shared}{a:Addr}{kvs:List (Key×V)}{A:Around}{E:Value->Shared->Prop}
end
section
variable {X:Cx}{pins:List (Addr×Obj)}{σ:St}{H:Hp}{s:Shared}{a:Addr}{y:V}{u:Value}{A:Around}{E:Value->Shared->Prop}
end
end
end L2
namespace Att
open PySem PySem.W PySem.Calls PyProof.Rows
theorem iQ {P:Params}{h:Heap}: ∀ (ns:List Int) (vs:List Value),WellAll P h vs (ns.map WData.int)->IntsAre vs ns:=by
 intro ns
 induction ns with
 |nil=>
  intro vs w
  rw[List.map_nil] at w
  cases w
  exact .nil
 |cons n ns ih=>
  intro vs w
  rw[List.map_cons] at w
  cases w with
  |cons a b=>
   cases a
   exact .cons _ _ (ih _ b)
theorem p9 {l:OpenLaw}{n:Nat}(hn:l.most=some n){P:Params}{h:Heap}{args:List WData}{vals:List Value}
  (hpre:l.row.toRowW.claim.pre args=true)(hwl:WellAll P h vals args):
  ∃a vs ns,vals=[Value.ref a]/\args=[WData.list (ns.map WData.int)]/\h.get? a=some {cls:=.type "list",data:=.seq vs.toArray}/\IntsAre vs ns/\ns.length<=n:=by
 have hsh:WShape.hasAll [] args [.list .int]=true:=(pre_splitW hpre).1
 have hc:l.pre.holds [] {args:=args}=true:=(pre_splitW hpre).2
 obtain⟨d,r,rfl,h1,h2⟩:=hasAllW_cons hsh
 obtain rfl:=hasAllW_nil h2
 obtain⟨xs,rfl,h3⟩:=hasW_list h1
 obtain⟨ns,rfl⟩:=items_int h3
 have hlen:ns.length<=n:=by
  unfold OpenLaw.pre at hc
  have h4:(WTm.not (.lt (.lit (.int (n:Int))) (.len (.arg 0)))).holds [] {args:=[.list (ns.map .int)]}=true:=by
   have h4:=(holds_andW hc).1
   rw[hn] at h4
   exact h4
  have h5:=condW_of h4 (w_not (w_lt w_lit (w_len_list (w_arg rfl))))
  rw[List.length_map] at h5
  refine Nat.le_of_not_lt fun q=>?_
  have q':(n:Int)<((ns.length:Nat):Int):=by omega
  first
   |(rw[decide_eq_true q'] at h5;exact absurd h5 (by decide))
   |(simp at h5;omega)
 cases hwl with
 |cons w1 w2=>
  cases w2
  cases w1 with
  |list ho hall=>exact⟨_,_,ns,rfl,rfl,ho,iQ ns _ hall,hlen⟩
theorem qg (l:OpenLaw)(args:List WData):l.row.toRowW.claim.post args (.bool true) args=true:=
 postW_of (r:=l.row.toRowW) (X:=(true==true))
  (show WShape.has [] (.bool true) .bool=true by first|rfl|decide|simp [WShape.has,WShape.arms,WShape.armsAll])
  (show (WTm.eq .res (.lit (.bool true))).value [] {args:=args,res:=some (.bool true),after:=args}=some (.bool (true==true)) from w_eq_bool (w_res rfl) w_lit) rfl
theorem attach_call {l:OpenLaw}{n:Nat}{q:Program}{loose:List Str}{XP:(Str->Option Value)->Heap->Prop}{YP:World->Heap->Prop}{d:DefRec}
  (hn:l.most=some n)(hdf:d.params.defaults=[])
  (call: ∀ (w:World) (s₀ s₁:Shared) (mg mb:Str->Option Value) (fa:Addr) (o:Obj) (pm cd doc:Value) (a:Addr) (vs:List Value) (ns:List Int),
   Ground q loose [] XP w s₀ mg mb s₁.heap->YP w s₁.heap->
   s₁.heap.get? fa=some o->o.data=.func (docDef d.name d.params d.body d.scope pm cd doc)->s₁.heap.CodeRec cd d.name->mg d.name=some (.ref fa)->
   s₁.heap.get? a=some {cls:=.type "list",data:=.seq vs.toArray}->IntsAre vs ns->ns.length<=n->s₁.gens= #[]->
   codeAny (model l.prog w) callerA (.call (.ref fa) ⟨[.ref a],[]⟩) (fun r s'=>r=.ok (.ret (.bool true))/\OldK s₁.heap s'.heap/\s'.os=s₁.os/\AllBare s'.gens) s₁):
  WalkO q loose XP YP l.row.toRowW d [] (fun f vs=>PySem.call f vs):=by
 intro w s₀ s₁ mg mb G Y fa o pm cd doc dV kV ho hd hcd hD hmg hg args vals as hpre hlay hrd hwl hlo
 obtain rfl:dV=.none:=Dflts.none hD hdf
 obtain rfl:kV=.none:=Dflts.noKw hD
 obtain⟨a,vs,ns,rfl,rfl,hobj,hints,hlen⟩:=p9 hn hpre hwl
 refine enter_call (codeAny_mono (call w s₀ s₁ mg mb fa o pm cd doc a vs ns G Y ho (fd_plain hd) hcd hmg hobj hints hlen hg) fun r s' hq=>?_)
 obtain⟨rfl,h2,h3,h4⟩:=hq
 exact⟨.inl ⟨.bool true,.bool true,[],rfl,fun _=>rfl,.bool true,qg l _,fun _=>⟨List.Pairwise.nil,fun _ hm=>(nomatch hm)⟩⟩,h2,h3,h4⟩
section
variable {prog:Program}{w:World}{A:Around}{E:Value->Shared->Prop}{s:Shared}{K:Frag}
noncomputable def Ae (h:Heap)(L d:Addr):List (Addr×Obj):=(List.range h.objs.size).filterMap fun a=>if a=L\/a=d then none else (h.get? a).map fun o=>(a,o)
end
end Att
namespace L2
open PySem PySem.Spec PyProof.Rows
theorem j4: ∀ {vs:List Value}{ns:List Int},IntsAre vs ns->Vals (ns.map V.int) vs
 |_,_,.nil=>.nil
 |_,_,.cons n t h=>.cons ⟨t,rfl⟩ (j4 h)
def Only (H:Hp):Prop:= ∀b,H b=none\/ ∃o xs,H b=some (.frz o (.lst xs))
theorem sN {P:Program}{w:World}{K:PySem.W.Frag}{mg mb:Str->Option Value}{CX:CXT}{k:Nat}{fa a:Addr}{fd:FuncData}{x:Str}{sp:Sp}{s₁:Shared}{vs:List Value}{ns:List Int}
  (KX:K.In s₁.heap)(hns:s₁.heap.Ns mainGlobals mg)(hb:s₁.heap.Ns builtinsNs mb)(hbb: ∀x:Str,x≠ "__name__"->mb x=bootBuiltins x)(hlim:s₁.heap.NoLimit)(hg:s₁.gens= #[])
  (ha:s₁.heap.get? a=some {cls:=.type "list",data:=.seq vs.toArray})(hi:IntsAre vs ns)(hl:ns.length<=sizeLine)(hr:Room k callerA)
  (F:∀base:Heap,K.In base->base.Ns mainGlobals mg->FnOk P w K mg base CX k fa fd [x] sp)(hbind: ∀ (s:Shared) (u:Value),BindsTo s fd ⟨[u],[]⟩ [(x,u)])
  (hsp: ∀H:Hp,Only H->SqL K H a (ns.map V.int)->sp [.ref a] H (fun v _=>v=.bl true) fun _ _ _=>False)
  (hCX: ∀H e s',CX [] H s₁ (fun _ _ _=>False) e s'->False):
  codeAny (model P w) callerA (.call (.ref fa) ⟨[.ref a],[]⟩) (fun r s'=>r=.ok (.ret (.bool true))/\OldK s₁.heap s'.heap/\s'.os=s₁.os/\AllBare s'.gens) s₁:=by
 have rv:=j4 hi
 have lenV:=hi.length
 have core: ∀H:Hp,Only H->SqL K H a (ns.map V.int)->HOk P w H s₁.heap->(∀b,H b≠none->b=a)->(H a≠none->K.lookup a=none)->
   codeAny (model P w) callerA (.call (.ref fa) ⟨[.ref a],[]⟩) (fun r s'=>r=.ok (.ret (.bool true))/\OldK s₁.heap s'.heap/\s'.os=s₁.os/\AllBare s'.gens) s₁:=by
  intro H hO hS hok hA hK
  have base_of: ∀ {b:Addr}{o:Obj},s₁.heap.get? b=some o->H b=none->(hidT s₁.heap H).get? b=some o:=fun e n=>sY e n
  have noA: ∀ {b:Addr}{o:Obj}{es:Array DictEntry}{ep:Nat},s₁.heap.get? b=some o->o.data=.dict es ep->H b=none:=fun{b o es ep} e d=>by
   cases q:H b with
   |none=>rfl
   |some u=>
    have e':b=a:=hA b (by rw[q];simp)
    subst e'
    rw[ha] at e;cases e
    have d':Data.seq vs.toArray _=Data.dict es ep:=d
    cases d'
  have nsK: ∀ {b:Addr}{m:Str->Option Value},s₁.heap.Ns b m->(hidT s₁.heap H).Ns b m:=fun{b m} ⟨o,es,ep,e,d,r⟩=>⟨o,es,ep,base_of e (noA e d),d,r⟩
  have hKb:K.In (hidT s₁.heap H):=fun b o e=>base_of (KX b o e) (by
   cases q:H b with
   |none=>rfl
   |some u=>
    have e':b=a:=hA b (by rw[q];simp)
    subst e'
    rw[hK (by rw[q];simp)] at e;cases e)
  have hM:Mod K mg (hidT s₁.heap H):=⟨hKb,nsK hns,⟨mb,nsK hb,hbb⟩,let ⟨mc,h1,h2⟩:=hlim;⟨mc,nsK h1,h2⟩⟩
  have e0:Env0 P w K mg (hidT s₁.heap H) callerA [] s₁ H:=⟨rfl,hM,fun b o e=>uQ e,Nat.le_of_eq (qH _ _),trivial,fun b hb=>absurd (show b∈([]:List Addr) from hb) (by simp),hok,.of_eq hg⟩
  refine codeAny_mono ((F _ hKb (nsK hns)).run callerA [] s₁ H ⟨[.ref a],[]⟩ [.ref a] [.ref a] _ _ hr e0 (hbind s₁ (.ref a)) (.cons rfl .nil) (hsp H hO hS)) fun r s' h=>?_
  cases r with
  |error e=>exact (hCX H e s' h).elim
  |ok fl=>
   cases fl with
   |next=>exact False.elim h
   |brk=>exact False.elim h
   |cont=>exact False.elim h
   |ret u=>
    obtain⟨v,H',os,bare,un,hok',r',q⟩:=h
    have q':v=.bl true:=q
    subst q'
    obtain rfl:u=Value.bool true:=r'
    refine⟨rfl,OldK.of_keep fun b o e=>?_,os,bare⟩
    cases q:H b with
    |none=>exact un.keep b o e q (by intro z;exact absurd (show b∈([]:List Addr) from z) (by simp)) (by simp)
    |some u=>
     rcases hO b with z|⟨ob,xs,z⟩
     ·rw[q] at z;cases z
     ·have z2:=un.frzs b ob _ z
      obtain⟨e1,_⟩:=hok b _ z
      obtain⟨e2,_⟩:=hok' b _ z2
      rw[e] at e1;cases e1
      exact e2
 cases hk:K.lookup a with
 |some o=>
  have e:=KX a o hk
  rw[ha] at e
  cases e
  refine core (fun _=>none) (fun _=>.inl rfl) (.inr ⟨_,vs.toArray,_,hk,rfl,rfl,rfl,by rw[List.size_toArray,lenV];exact hl,by simpa using rv⟩) (fun b u z=>by have z':(none:Option HO)=some u:=z;cases z') (fun b z=>absurd rfl z) fun z=>absurd rfl z
 |none=>
  refine core (fun b=>if b=a then some (.frz {cls:=.type "list",data:=.seq vs.toArray} (.lst (ns.map V.int))) else none) (fun b=>?_) (.inl (.inr ⟨{cls:=.type "list",data:=.seq vs.toArray},if_pos rfl⟩)) (fun b u z=>?_) (fun b z=>?_) fun _=>hk
  ·by_cases hb:b=a
   ·exact .inr ⟨_,_,if_pos hb⟩
   ·exact .inl (if_neg hb)
  ·by_cases hb:b=a
   ·have z':=(if_pos hb).symm.trans z
    cases z'
    subst hb
    exact⟨ha,by rw[List.length_map];exact hl,vs,_,rv,ha⟩
   ·have z':=(if_neg hb).symm.trans z
    cases z'
  ·by_cases hb:b=a
   ·exact hb
   ·exact absurd (if_neg hb) z
section
noncomputable abbrev KOf {K:PySem.W.Frag}{h:Heap}(_:K.In h):PySem.W.Frag:=K
theorem walk_of {l:PySem.W.OpenLaw}{n k:Nat}{q:Program}{loose:List Str}{XP:(Str->Option Value)->Heap->Prop}{YP:World->Heap->Prop}{d:DefRec}{K:Params->PySem.W.Frag}{CX:World->CXT}{sp:World->Sp}{x:Str}
  (hn:l.most=some n)(hn2:n<=sizeLine)(hdf:d.params.defaults=[])(hr:Room k callerA)
  (hY: ∀ (w:World) (h:Heap),YP w h->(K w.params).In h)
  (F:∀ (w:World) (mg:Str->Option Value) (fa:Addr) (h:Heap),(K w.params).In h->h.Ns mainGlobals mg->mg d.name=some (.ref fa)->
    ∃fd:FuncData,(∀ (s:Shared) (u:Value),BindsTo s fd ⟨[u],[]⟩ [(x,u)])/\
     ∀base:Heap,(K w.params).In base->base.Ns mainGlobals mg->FnOk l.prog w (K w.params) mg base (CX w) k fa fd [x] (sp w))
  (hsp: ∀ (w:World) (H:Hp) (a:Addr) (ns:List Int),ns.length<=n->Only H->SqL (K w.params) H a (ns.map V.int)->sp w [.ref a] H (fun v _=>v=.bl true) fun _ _ _=>False)
  (hCX: ∀ (w:World) (H:Hp) (s:Shared) (e:Value) (s':Shared),CX w [] H s (fun _ _ _=>False) e s'->False):
  PySem.W.WalkO q loose XP YP l.row.toRowW d [] (fun f vs=>PySem.call f vs):=by
 refine Att.attach_call hn hdf fun w s₀ s₁ mg mb fa o pm cd doc a vs ns G Y ho hd hcd hmg hobj hints hlen hg=>?_
 have KX:=hY w _ Y
 obtain⟨fd,hb,hF⟩:=F w mg fa _ KX G.T.g hmg
 exact sN KX G.T.g G.T.b G.T.builtins G.T.nolimit hg hobj hints (Nat.le_trans hlen hn2) hr hF hb (fun H hO hS=>hsp w H a ns hlen hO hS) fun H e s'=>hCX w H s₁ e s'
end
section
noncomputable def bV (s:Stmt)(j:Nat):Stmt:=match s with
 |.ClassDef _ _ _ body _ _ _ _ _ _ _=>body.getD j (.Pass ⟨0,0,0,0⟩)
 |_=>.Pass ⟨0,0,0,0⟩
noncomputable def cH (s:Stmt):Arguments:=match s with
 |.FunctionDef _ a _ _ _ _ _ _ _ _=>a
 |_=>{posonlyargs:=[],args:=[],vararg:=none,kwonlyargs:=[],kw_defaults:=[],kwarg:=none,defaults:=[]}
noncomputable def bb (s:Stmt):List Stmt:=match s with
 |.FunctionDef _ _ b _ _ _ _ _ _ _=>b
 |_=>[]
noncomputable def ae (s:Stmt):Scope:=match s with
 |.FunctionDef _ _ _ _ _ _ sc _ _ _=>sc
 |_=>{kind:=.function,names:=[],isGenerator:=false,isCoroutine:=false}
noncomputable abbrev CX0:CXT:=fun _ _ _ _ _ _=>False
noncomputable abbrev E0:XK:=fun _ _ _=>False
theorem pass0 {X:Cx}:bH CX0 X E0:=fun _ _ _ _ _ _ _ h=>h.elim
structure Fun (K:PySem.W.Frag)(x qual:Str)(st:Stmt)(f:Addr)(fd:FuncData):Prop where
 ex: ∃ (oc:Value) (od:Option Addr) (kV doc pm:Value) (an:Option Addr) (cdv ct:Value) (osl:Array (Option Value)),
  fd=fnOf x qual (cH st) (bb st) (ae st) .none kV doc pm an cdv ct/\K.lookup f=some ⟨oc,od,.func fd,osl⟩/\codeIn K cdv qual=true
 kp:keepIn K (.ref f)=true
section
variable {P:Program}{w:World}{K:PySem.W.Frag}{mg:Str->Option Value}{base:Heap}
theorem Fun.ok {x qual:Str}{st:Stmt}{f:Addr}{fd:FuncData}{N ps:List Str}{k:Nat}{sp:Sp}(F:Fun K x qual st f fd)(S:FnScope N ps (ae st))(len: ∀vs H Q E,sp vs H Q E->vs.length=ps.length)
  (hbody: ∀ (cdv:Value) (A:Around) (outer:List Env) (s:Shared) (H:Hp) (vs:List V) (Q:VK) (E:XK),Room k (A.deeper (envOfC qual (ae st) s.heap.objs.size f cdv))->sp vs H Q E->
   ∃t,PSs (cxOf CX0 P w K mg base N qual (ae st) f cdv A outer s H E).nox (bb st) t/\t {nx:=fun _ H'=>Q .non H',rt:=Q} (start N vs) H):FnOk P w K mg base CX0 (k+1) f fd ps sp:=by
 obtain⟨oc,od,kV,doc,pm,an,cdv,ct,osl,rfl,lk,hcd⟩:=F.ex
 refine wq lk hcd S len fun A outer s H vs Q E hr hsp=>?_
 obtain⟨t,h,q⟩:=hbody cdv A outer s H vs Q E hr hsp
 exact⟨t,h.nox,q⟩
theorem Fun.binds {x qual:Str}{st:Stmt}{f:Addr}{fd:FuncData}{ps:List Str}(F:Fun K x qual st f fd)
  (h:∀ (kV doc pm:Value) (an:Option Addr) (cdv ct:Value) (us:List Value),us.length=ps.length->bindArgs (fnOf x qual (cH st) (bb st) (ae st) .none kV doc pm an cdv ct) ⟨us,[]⟩=pure (ps.zip us)):Binds K fd ps []:=by
 obtain⟨oc,od,kV,doc,pm,an,cdv,ct,osl,rfl,lk,hcd⟩:=F.ex
 exact .all (h kV doc pm an cdv ct)
theorem tm {x qual:Str}{st:Stmt}{f:Addr}{oc:Value}{od an:Option Addr}{osl:Array (Option Value)}{kV doc pm cdv ct:Value}(l:K.lookup f=some ⟨oc,od,.func (fnOf x qual (cH st) (bb st) (ae st) .none kV doc pm an cdv ct),osl⟩)
 (c:codeIn K cdv qual=true)(k:keepIn K (.ref f)=true):Fun K x qual st f (fnOf x qual (cH st) (bb st) (ae st) .none kV doc pm an cdv ct):=⟨⟨oc,od,kV,doc,pm,an,cdv,ct,osl,rfl,l,c⟩,k⟩
end
theorem sX {A:Around}{k:Nat}(hr:Room k A):A.units+1<cLine:=Nat.lt_of_le_of_lt (Nat.add_le_add_left (by decide:1<=64) _) hr.units
theorem iC {n:Nat}(h:n<=1000):n<sizeLine:=Nat.lt_of_le_of_lt h (by decide)
section
variable {X:Cx}
theorem pv (i:Nat){x:Str}{pos:Pos}(hN:X.N[i]?=some x:=by rfl)(hv:Vis X.env.scope x:=by first|exact Or.inl rfl|exact Or.inr (Or.inl rfl)|exact Or.inr (Or.inr rfl))(hd:(x==("__debug__":Str))=false:=by decide)
 (hcd:(x==("__classdict__":Str))=false:=by decide):PE X (.Name x pos) (tVar i):=xc hN hv hd hcd
end
theorem iteF {A B:Prop}(h:B):if false=true then A else B:=by
 rw[if_neg Bool.false_ne_true]
 exact h
theorem iteT {A B:Prop}(h:A):if true=true then A else B:=by
 rw[if_pos rfl]
 exact h
theorem ite2 {c A B:Prop} [Decidable c] (h1:c->A)(h2: ¬c->B):if c then A else B:=by
 by_cases h:c
 ·rw[if_pos h]
  exact h1 h
 ·rw[if_neg h]
  exact h2 h
def Same (H H':Hp):Prop:= ∀b o,H b=some o->H' b=some o
theorem Same.refl (H:Hp):Same H H:=fun _ _ h=>h
section
variable {κ:Type} [DecidableEq κ]
end
end
section
theorem jH {α β:Type}{f:α->β->Sem (ForInStep β)}(g:α->β->β): ∀ (l:List α) (c:β),(∀x∈l,∀c,f x c=pure (.yield (g x c)))->forIn l c f=pure (l.foldl (fun c x=>g x c) c)
 |[],_,_=>rfl
 |x::l,c,h=>by
  rw[List.forIn_cons,h x List.mem_cons_self,pure_bind]
  exact jH g l (g x c) fun y hy=>h y (List.mem_cons_of_mem _ hy)
noncomputable def cI (env:Env)(p:Str×NameKind)(cs:List (Str×Addr)):List (Str×Addr):=if (p.2==NameKind.free)=true then (p.1,(env.cells.lookup p.1).getD 0)::cs else cs
def cloOf (scope:Scope)(env:Env):List (Str×Addr):=scope.names.foldl (fun c x=>cI env x c) []
theorem jL {scope:Scope}{env:Env}(h:∀p∈scope.names,p.2=.free-> ∃c,env.cells.lookup p.1=some c):closureFor scope env=pure (cloOf scope env):=by
 unfold cloOf
 simp only[closureFor]
 rw[jH (cI env)]
 ·rfl
 ·intro x hx c
  obtain⟨n,k⟩:=x
  by_cases hk:k=.free
  ·subst hk
   obtain⟨a,ha⟩:=h _ hx rfl
   have ha:env.cells.lookup n=some a:=ha
   simp [cI,cellOf,ha]
  ·have:(k==NameKind.free)=false:=by simpa using hk
   simp [cI,this]
theorem ir (env:Env): ∀ (l:List (Str×NameKind)) (c:List (Str×Addr)),(∀p∈l,p.2=.free-> ∃a,env.cells.lookup p.1=some a)->
  (∀y a,c.lookup y=some a->env.cells.lookup y=some a)-> ∀y a,(l.foldl (fun c x=>cI env x c) c).lookup y=some a->env.cells.lookup y=some a
 |[],_,_,h,y,a,e=>h y a e
 |(n,k)::r,c,hf,h,y,a,e=>by
  refine ir env r (cI env (n,k) c) (fun p hp=>hf p (List.mem_cons_of_mem _ hp)) (fun z b q=>?_) y a e
  unfold cI at q
  split at q
  ·rename_i hk
   obtain⟨d,hd⟩:=hf (n,k) List.mem_cons_self (by simpa using hk)
   have hd:env.cells.lookup n=some d:=hd
   rw[List.lookup_cons] at q
   split at q
   ·rename_i hz
    have:z=n:=by simpa using hz
    subst this
    rw[hd] at q ⊢
    simpa using q
   ·exact h z b q
  ·exact h z b q
theorem nq (env:Env): ∀ (l:List (Str×NameKind)) (c:List (Str×Addr)) (y:Str),(∃a,c.lookup y=some a)-> ∃a,(l.foldl (fun c x=>cI env x c) c).lookup y=some a
 |[],_,_,h=>h
 |(n,k)::r,c,y,h=>by
  refine nq env r _ y ?_
  show∃a,(cI env (n,k) c).lookup y=some a
  unfold cI
  split
  ·rw[List.lookup_cons]
   split
   ·exact⟨_,rfl⟩
   ·exact h
  ·exact h
theorem pX (env:Env): ∀ (l:List (Str×NameKind)) (c:List (Str×Addr)) (y:Str),(y,NameKind.free)∈l-> ∃a,(l.foldl (fun c x=>cI env x c) c).lookup y=some a
 |(n,k)::r,c,y,h=>by
  rcases List.mem_cons.mp h with e|h
  ·obtain⟨rfl,rfl⟩:=Prod.mk.inj e
   refine nq env r _ y ⟨(env.cells.lookup y).getD 0,?_⟩
   show (cI env (y,.free) c).lookup y=_
   unfold cI
   rw[if_pos (by rfl),List.lookup_cons]
   simp
  ·exact pX env r _ y h
structure CScope (X:Cx)(ls:List Str)(scope:Scope):Prop where
 kind:scope.kind=.function
 nocell: ∀y∈scope.names,y.2≠.cell
 names: ∀y∈scope.names,y.2=.local ->scope.names.lookup y.1=some .local
 loc: ∀y,scope.names.lookup y=some .local ->y∈ls
 free: ∀y∈scope.names,y.2=.free->X.env.kindOf y.1=some .cell\/X.env.kindOf y.1=some .free
 noq: ∀y∈ls,∀k,scope.names.lookup ⟨#[63]++y.cps⟩≠some k
noncomputable def hid (ls:List Str)(y:Str):Str:=if ls.contains y then⟨#[63]++y.cps⟩ else y
def cxC (X:Cx)(ls:List Str)(scope:Scope)(C:Addr)(s2:Shared)(H2:Hp)(fp:List Addr):Cx where
 prog:=X.prog
 w:=X.w
 K:=X.K
 mg:=X.mg
 base:=X.base
 A:=X.A
 N:=ls++X.N.map (hid ls)
 s₀:=s2
 H₀:=H2
 env:=compEnvC scope (cloOf scope X.env) C X.env
 outer:=X.stack
 stack:=X.stack
 ex:=fp
 calm:=X.calm
 fn:=fun _=>false
 pn:=[]
 xe:=fun _ _=>False
theorem cm {env:Env}{y:Str}: ∀ {names:List (Str×NameKind)}{k:NameKind},(names.map fun (n,k)=>if (k==NameKind.free && env.scope.kind==.function && env.kindOf n==some .cell) then (n,NameKind.cell) else (n,k)).lookup y=some k->
  names.lookup y=some k\/(names.lookup y=some .free/\k=.cell)
 |[],_,h=>by simp at h
 |(n,j)::r,k,h=>by
  have ih:= @cm env y r k
  replace h:List.lookup y ((if (j==NameKind.free && env.scope.kind==.function && env.kindOf n==some .cell)=true then (n,NameKind.cell) else (n,j))::(r.map fun (n,k)=>if (k==NameKind.free && env.scope.kind==.function && env.kindOf n==some .cell) then (n,NameKind.cell) else (n,k)))=some k:=h
  by_cases hc:(j==NameKind.free && env.scope.kind==.function && env.kindOf n==some .cell)=true
  ·rw[if_pos hc,List.lookup_cons] at h
   rw[List.lookup_cons]
   cases hx:y==n with
   |true=>
    rw[hx] at h
    simp only[Bool.and_eq_true] at hc
    have hj:j=.free:=by simpa using hc.1.1
    subst hj
    have h:some NameKind.cell=some k:=h
    cases h
    exact .inr ⟨rfl,rfl⟩
   |false=>
    rw[hx] at h
    exact ih h
  ·rw[if_neg hc,List.lookup_cons] at h
   rw[List.lookup_cons]
   cases hx:y==n with
   |true=>rw[hx] at h;exact .inl h
   |false=>rw[hx] at h;exact ih h
def hides (N ls:List Str)(σ:St):Bool:=true
theorem ku {X:Cx}{pins:List (Addr×Obj)}{σ:St}{H2:Hp}{s2:Shared}{ls:List Str}{scope:Scope}{fp:List Addr}{C:Addr}{h1:Heap}{m:Str->Option Value}{tk:Nat}
  (I:Inv X pins σ H2 s2)(S:CScope X ls scope)(hh:hides X.N ls σ=true)(f2: ∀b∈fp,FpOk X pins H2 b)(ho: ∀b∈fp,∃o,s2.heap.get? b=some o)(hC:s2.heap.objs.size<=C)(hn:h1.Ns C m)
  (old: ∀b o,s2.heap.get? b=some o->h1.get? b=some o):
  Inv (cxC X ls scope C s2 H2 fp) [] (List.replicate ls.length none++σ) H2 {s2 with heap:=h1,toks:=tk}:=by
 have cf: ∀p∈scope.names,p.2=.free-> ∃c,X.env.cells.lookup p.1=some c:=fun p hp e=>I.ok.has _ (S.free p hp e)
 have c1: ∀y a,(cloOf scope X.env).lookup y=some a->X.env.cells.lookup y=some a:=ir X.env scope.names [] cf (fun y a e=>by simp at e)
 have c2: ∀y,scope.names.lookup y=some .free-> ∃a,(cloOf scope X.env).lookup y=some a:=fun y hy=>pX X.env scope.names [] y (PySem.mem_of_lookup hy)
 have lt2: ∀b∈fp,b<s2.heap.objs.size:=fun b hb=>let ⟨o,e⟩:=ho b hb;Heap.lt_size e
 have kinds: ∀y k,(relabel scope X.env).names.lookup y=some k->k=.cell\/k=.free->scope.names.lookup y=some .free:=fun y k h hk=>by
  rcases cm (env:=X.env) h with q|⟨q,_⟩
  ·rcases hk with rfl|rfl
   ·exact absurd rfl (S.nocell _ (PySem.mem_of_lookup q))
   ·exact q
  ·exact q
 refine⟨⟨I.ok.mod,S.kind,I.ok.glob,I.ok.blt,hC,fun x y c e1 e2=>I.ok.inj x y c (c1 x c e1) (c1 y c e2),fun x hx=>?_,fun x c h=>absurd h Bool.false_ne_true,I.ok.hd,I.ok.frames,.inl rfl,fun b hb=>⟨?_,fun x c e=>(f2 b hb).2.2.2.2.1 x c (c1 x c e)⟩,I.bs,Nat.le_trans I.ok.bsz I.sz,fun b o e hb=>?_,fun b hb hz=>?_,I.stack,I.stkFree⟩,
  rfl,I.bare,Un.kept old,⟨m,hn,fun i y v e1 e2 e3=>?_⟩,fun x c e=>?_,I.hok.fresh hC,fun x c e=>I.freeC x c (c1 x c e),fun p hp=>absurd (show p∈([]:List (Addr×Obj)) from hp) (by simp),I.hok.kept old,?_⟩
 ·have hx:(relabel scope X.env).names.lookup x=some .cell\/(relabel scope X.env).names.lookup x=some .free:=hx
  rcases hx with hx|hx
  ·exact c2 x (kinds x _ hx (.inl rfl))
  ·exact c2 x (kinds x _ hx (.inr rfl))
 ·exact Nat.ne_of_lt (Nat.lt_of_lt_of_le (lt2 b hb) hC)
 ·rcases (f2 b hb).2.2.2.1 with z|z
  ·exact I.ok.noex b o e z
  ·exact absurd (Nat.lt_of_lt_of_le (Heap.lt_size e) (Nat.le_trans I.ok.bsz z)) (Nat.lt_irrefl _)
 ·rcases List.mem_cons.mp (I.stkSub b hz) with z|z
  ·exact (f2 b hb).2.1 z
  ·exact (f2 b hb).2.2.1 z
 ·have e1:(ls++X.N.map (hid ls))[i]?=some y:=e1
  by_cases hi:i<ls.length
  ·rw[List.getElem?_append_left (by simpa using hi),List.getElem?_replicate] at e2
   rw[if_pos hi] at e2
   cases e2
  ·rw[List.getElem?_append_right (by omega)] at e1
   rw[List.getElem?_append_right (by simpa using hi),List.length_replicate] at e2
   rw[List.getElem?_map] at e1
   obtain⟨y0,e1',ey⟩:=Option.map_eq_some_iff.mp e1
   have e3:(relabel scope X.env).names.lookup y=some .local \/(relabel scope X.env).names.lookup y=some .cell\/(relabel scope X.env).names.lookup y=some .free:=e3
   have ny:y0 ∉ ls:=fun hm=>by
    unfold hid at ey
    rw[if_pos (by simpa using hm)] at ey
    subst ey
    have no: ∀k,(relabel scope X.env).names.lookup ⟨#[63]++y0.cps⟩=some k->False:=fun k q=>by
     rcases cm (env:=X.env) q with z|⟨z,_⟩
     ·exact S.noq y0 hm _ z
     ·exact S.noq y0 hm _ z
    rcases e3 with q|q|q<;>exact no _ q
   unfold hid at ey
   rw[if_neg (by simpa using ny)] at ey
   rw[ey] at e1' ny
   have e1:=e1'
   have fr:scope.names.lookup y=some .free:=by
    rcases e3 with q|q|q
    ·rcases cm (env:=X.env) q with z|⟨_,z⟩
     ·exact absurd (S.loc y z) ny
     ·cases z
    ·exact kinds y _ q (.inl rfl)
    ·exact kinds y _ q (.inr rfl)
   have kx:=S.free _ (PySem.mem_of_lookup fr) rfl
   obtain⟨m2,_,hl⟩:=I.loc
   obtain⟨u,r,l⟩:=hl _ y v e1 e2 (.inr kx)
   refine⟨u,r,?_⟩
   have knd:(relabel scope X.env).names.lookup y=some .cell\/(relabel scope X.env).names.lookup y=some .free:=by
    rcases e3 with q|q
    ·rcases cm (env:=X.env) q with z|⟨_,z⟩
     ·exact absurd (S.loc y z) ny
     ·cases z
    ·exact q
   rcases l with⟨k1,_⟩|⟨_,c,hc,hcell⟩
   ·have kx:X.env.kindOf y=some .cell\/X.env.kindOf y=some .free:=kx
    rcases kx with z|z<;>(rw[k1] at z;cases z)
   ·obtain⟨c',hc'⟩:=c2 y fr
    have:=c1 y c' hc'
    rw[hc] at this
    cases this
    refine .inr ⟨knd,c,hc',?_⟩
    obtain⟨o,ho,hd⟩:=hcell
    exact⟨o,old _ _ ho,hd⟩
 ·obtain⟨v,o,ho,hd⟩:=I.cell x c (c1 x c e)
  exact⟨v,o,old _ _ ho,hd⟩
 ·show (List.replicate ls.length none++σ).length=(ls++X.N.map (hid ls)).length
  rw[List.length_append,List.length_append,List.length_replicate,List.length_map,I.len]
theorem mQ {X:Cx}{pins:List (Addr×Obj)}{σ σ':St}{H2 H3:Hp}{s2 s':Shared}{ls:List Str}{scope:Scope}{fp:List Addr}{C D:Addr}{h':Heap}{ys:List V}{its:List Value}{n:Nat}{pl:List (Addr×Obj)}
  (I:Inv X pins σ H2 s2)(f2: ∀b∈fp,FpOk X pins H2 b)(J:Inv (cxC X ls scope C s2 H2 fp) pl σ' H3 s')(hD:s2.heap.objs.size<=D)(hC:s2.heap.objs.size<=C)(hDC:D≠C)
  (sb:Heap.SameBut C s'.heap h')(hD3:H3 D=none)(e:s'.heap.get? D=some {cls:=.type "list",data:=.seq its.toArray n})(r:Vals ys its)(z:ys.length<=sizeLine):Inv X pins σ (upd H3 D (.lst ys)) {s' with heap:=h'}:=by
 have ext: ∀b o,b≠C->s'.heap.get? b=some o->h'.get? b=some o:=fun b o hb e=>sb.extBut b o hb e
 have neD: ∀b,b<s2.heap.objs.size->b≠D:=fun b hb=>Nat.ne_of_lt (Nat.lt_of_lt_of_le hb hD)
 have neC: ∀b,b<s2.heap.objs.size->b≠C:=fun b hb=>Nat.ne_of_lt (Nat.lt_of_lt_of_le hb hC)
 have lt: ∀b u,H2 b=some u->b<s2.heap.objs.size:=fun b u q=>by
  apply Classical.byContradiction
  intro hb
  have:=I.hok.fresh (Nat.le_of_not_lt hb)
  rw[this] at q
  cases q
 have fC:H3 C=none:=J.free
 refine I.call' (s':={s' with heap:=h'}) (ch:=fp) J.os ⟨fun b o q n hb hx=>?_,fun b o q n hb hx=>?_,fun b o q n hx=>?_,fun b o q hx=>?_,fun b xs q=>?_,fun b o u q=>?_,fun b ps q=>?_⟩ (fun b u q=>?_) J.bare fun b hb=>?_
 ·exact ext b o (neC b (Heap.lt_size q)) (J.base.keep b o q n hb hx)
 ·obtain⟨sl,w⟩:=J.base.slot b o q n hb hx
  exact⟨sl,ext b _ (neC b (Heap.lt_size q)) w⟩
 ·rw[aC (neD b (Heap.lt_size q))]
  exact J.base.free b o q n hx
 ·obtain⟨o',w⟩:=J.base.there b o q hx
  exact⟨o',ext b _ (neC b (Heap.lt_size q)) w⟩
 ·rw[aC (neD b (lt b _ q))];exact J.base.tups b xs q
 ·rw[aC (neD b (lt b _ q))];exact J.base.frzs b o u q
 ·rw[aC (neD b (lt b _ q))];exact J.base.tbls b ps q
 ·by_cases hb:b=D
  ·subst hb
   rw[aM] at q
   cases q
   exact⟨z,its,n,r,ext _ _ hDC e⟩
  ·rw[aC hb] at q
   have ne1:b≠C:=fun w=>by rw[w,fC] at q;cases q
   have ow: ∀c u,H3 c=some u->c≠D:=fun c u w z=>by rw[z,hD3] at w;cases w
   have oc: ∀c u,H3 c=some u->c≠C:=fun c u w z=>by rw[z,fC] at w;cases w
   refine (J.hok b u q).stay (fun c v hc w=>ext c v ?_ w) (fun c w=>by rw[aC (ow c _ w)];exact w) fun c xs w=>by rw[aC (ow c _ w)];exact w
   rcases hc with rfl|hc
   ·exact ne1
   ·exact oc c _ hc
 ·obtain⟨a1,a2,a3,a4,a5,a6⟩:=f2 b hb
  exact⟨a4,a2,a5,a6⟩
def PIfs (X:Cx)(ifs:List Expr)(t:TT):Prop:=
 ∀ (pins:List (Addr×Obj)) (s:Shared) (σ:St) (H:Hp) (Q:Bool->Hp->Prop),Inv X pins σ H s->t σ H Q->
   wpAny (model X.prog X.w) X.A (forIn ifs true fun c r=>if r=true then do let ok<-isTrue c X.env (eval c X.env);pure (ForInStep.yield ok) else pure (ForInStep.yield r)) (TP X pins σ Q) X.xe s
def tYes:TT:=fun _ H Q=>Q true H
theorem kU {X:Cx}:PIfs X [] tYes:=fun _ _ _ H _ I h=>wpAny_tests_nil ⟨H,I,h⟩
theorem uC {X:Cx}{c:Expr}{t:TT}(h:PT X c t):PIfs X [c] t:=fun pins s σ H Q I q=>wpAny_tests_one (h pins s σ H Q I q)
def CompW (J:It)(ls:List Str)(g:TG)(tt:TT)(te:TE)(σ:St)(H1:Hp)(Q:VK):Prop:= ∃W:Nat->Nat->List V->Hp->Prop,(∃m,W 0 m [] H1)/\ ∀i m ys H,W i m ys H->
 (J.stop i H/\ ∀D,H D=none->Q (.ref D) (upd H D (.lst ys)))\/
 (J.go i H/\ ∃R:List V->Hp->Prop,(∀ys' H',R ys' H'-> ∃m',m'<m/\W (i+1) m' ys' H')/\ ∀y H',J.yld i H y H'->
  g y (List.replicate ls.length none++σ) H' fun σ2 H2=>σ2.drop ls.length=σ/\σ2.length=ls.length+σ.length/\tt σ2 H2 fun b H3=>if b=true then te σ2 H3 fun v H4=>ys.length<sizeLine/\R (ys++[v]) H4 else R ys H3)
def tComp (N ls:List Str)(wi:TI)(g:TG)(tt:TT)(te:TE):TE:=fun σ H Q=>hides N ls σ=true/\wi σ H fun J H1=>CompW J ls g tt te σ H1 Q
theorem dJ {prog:Program}{w:World}{A:Around}{R:Result->Shared->Prop}{s:Shared}{elt target iter:Expr}{ifs:List Expr}{scope:Scope}{pos:Pos}{it acc:Value}{env:Env}(I:Nat->Shared->Prop)
  (turn: ∀n s,I n s->wpAny (model prog w) A (pyNext it) (fun r s₁=>match r with
   |none=>R (.ok .next) s₁
   |some v=>wpAny (model prog w) A (letOwnedTupleGo target it v) (fun _ s₁=>wpAny (model prog w) A (assign target env v) (fun _ s₂=>
    wpAny (model prog w) A (forIn ifs true fun c r=>if r=true then do let ok<-isTrue c env (eval c env);pure (ForInStep.yield ok) else pure (ForInStep.yield r)) (fun ok s₃=>
     if ok=true then wpAny (model prog w) A (eval elt env) (fun x s₄=>
      wpAny (model prog w) A (call (.builtin "list.append") [acc,x]) (fun _ s₅=> ∃m,m<n/\I m s₅) (notedBy (model prog w) A env fun e s'=>R (.error e) s') s₄) (notedBy (model prog w) A env fun e s'=>R (.error e) s') s₃
     else∃m,m<n/\I m s₃) (notedBy (model prog w) A env fun e s'=>R (.error e) s') s₂) (notedBy (model prog w) A env fun e s'=>R (.error e) s') s₁) (notedBy (model prog w) A env fun e s'=>R (.error e) s') s₁) (notedBy (model prog w) A env fun e s'=>R (.error e) s') s)
  (n:Nat)(h:I n s):
  codeAny (model prog w) A (.compLoop (.ListComp elt [⟨target,iter,ifs,0⟩] scope pos) 0 it acc env) R s:=by
 refine codeAny_loop rfl I (fun n s hI=>?_) n h
 show wpAny _ A ((compTurn (.ListComp elt [⟨target,iter,ifs,0⟩] scope pos) 0 it acc env).onRaise (fun x=>do noteFrame x env;theTreesLotGoes x)) _ _ s
 refine wpAny_noted ?_
 rw[compTurn_list]
 refine wpAny_bind (wpAny_standAt (wpAny_bind (wpAny_mono (turn n s hI) (fun r s₁ h₁=>?_) fun _ _ h'=>h')))
 cases r with
 |none=>exact wpAny_pure h₁
 |some v=>
  refine wpAny_bind (wpAny_mono h₁ (fun _ s₁ h₁=>?_) fun _ _ h'=>h')
  refine wpAny_bind (wpAny_mono h₁ (fun _ s₂ h₂=>wpAny_bind (wpAny_mono h₂ (fun ok s₃ h₃=>?_) fun _ _ h'=>h')) fun _ _ h'=>h')
  cases ok with
  |false=>exact wpAny_pure ⟨rfl,h₃⟩
  |true=>
   exact wpAny_bind (wpAny_bind (wpAny_mono h₃ (fun x s₄ h₄=>wpAny_bind (wpAny_mono h₄ (fun _ s₅ h₅=>wpAny_pure (wpAny_pure ⟨rfl,h₅⟩)) fun _ _ h'=>h')) fun _ _ h'=>h'))
theorem thx {α:Type}{t:Sem α}{Q Q':α->Shared->Prop}{M:Model}{A:Around}{E:Value->Shared->Prop}{s:Shared}(h:wpAny M A t Q (fun _ _=>False) s)(hQ: ∀a s,Q a s->Q' a s):wpAny M A t Q' E s:=wpAny_mono h hQ fun _ _ x=>x.elim
section
variable {X:Cx}{elt iter tg:Expr}{ifs:List Expr}{scope:Scope}{pos:Pos}{ls:List Str}{wi:TI}{g:TG}{tt:TT}{te:TE}
theorem kA {use:Option (Value->Sem Unit)}{pins:List (Addr×Obj)}{s:Shared}{σ:St}{H:Hp}{Q:VK}{QQ:Value->Shared->Prop}{pos':Pos}(hcalm:X.calm=true)(S:CScope X ls scope)(hi:PI X tg iter wi)
  (hg: ∀C s2 H2 fp,PG (cxC X ls scope C s2 H2 fp) tg g)(ht: ∀C s2 H2 fp,PIfs (cxC X ls scope C s2 H2 fp) ifs tt)(he: ∀C s2 H2 fp,PE (cxC X ls scope C s2 H2 fp) elt te)
  (hs: ∀x,foldedSetIterable iter X.env x=pure x)(I:Inv X pins σ H s)(h:tComp X.N ls wi g tt te σ H Q)
  (hQQ: ∀ (D C:Addr) (s':Shared) (H':Hp),(∃m,s'.heap.Ns C m)->FpOk X pins H' C->(∀h',Heap.SameBut C s'.heap h'->Inv X pins σ H' {s' with heap:=h'})->Q (.ref D) H'->compPost (model X.prog X.w) X.A X.xe use QQ (.ref D) C (.ok .next) s'):
  wpAny (model X.prog X.w) X.A (comprehension (.ListComp elt [⟨tg,iter,ifs,0⟩] scope pos) scope X.env pos' (newList []) false (eval iter X.env) use) QQ X.xe s:=by
 obtain⟨hh,h⟩:=h
 have cf: ∀p∈scope.names,p.2=.free-> ∃c,X.env.cells.lookup p.1=some c:=fun p hp e=>I.ok.has _ (S.free p hp e)
 refine wpAny_comprehension_free (use:=use) rfl hs (jL cf) S.kind S.names (thn (hi pins s σ H _ I h) fun v s1 h1=>thn h1 fun itv s2 h2=>?_)
 obtain⟨it,fp,tn,J,H2,rfl,I2,T,st2,f2,W,⟨m0,w0⟩,turn⟩:=h2
 refine wpAny_newObj_type (wpAny_newFunctionEnv S.nocell (by intro y hy;simp at hy) (fun h₁ hns₁ hsb₁=>?_) S.kind)
 dsimp only at hns₁ hsb₁ ⊢
 generalize hH2:s2.heap.push {cls:=.type "list",dict:=none,data:=.seq ([]:List Value).toArray}=G2 at hns₁ hsb₁ ⊢
 have hC:G2.objs.size=s2.heap.objs.size+1:=by rw[<-hH2,Heap.size_push]
 have hDC:s2.heap.objs.size≠G2.objs.size:=by rw[hC];exact Nat.ne_of_lt (Nat.lt_succ_self _)
 have hCle:s2.heap.objs.size<=G2.objs.size:=by rw[hC];exact Nat.le_succ _
 have old: ∀b o,s2.heap.get? b=some o->h₁.get? b=some o:=fun b o e=>hsb₁.extBut b o (Nat.ne_of_lt (Nat.lt_of_lt_of_le (Heap.lt_size e) hCle)) (Heap.get?_push_of_some _ (hH2▸Heap.get?_push_of_some _ e))
 have hacc:h₁.get? s2.heap.objs.size=some {cls:=.type "list",data:=.seq ([]:List Value).toArray}:=hsb₁.extBut _ _ hDC (Heap.get?_push_of_some _ (hH2▸Heap.get?_push_size _ rfl))
 have hobj: ∀b∈fp,∃o,s2.heap.get? b=some o:=fun b hb=>let ⟨o,e,_⟩:=T.obj 0 _ st2 b hb;⟨o,e⟩
 have ltf: ∀b∈fp,b<s2.heap.objs.size:=fun b hb=>let ⟨o,e⟩:=hobj b hb;Heap.lt_size e
 have nofD:s2.heap.objs.size ∉ (cxC X ls scope G2.objs.size s2 H2 fp).fs:=fun z=>by
  rcases List.mem_cons.mp (I2.stkSub _ z) with z|z
  ·exact absurd I2.lt (by rw[<-z];exact Nat.lt_irrefl _)
  ·exact I2.nofs (Nat.le_refl _) z
 have st1:tn 0 h₁:=T.keep 0 _ _ st2 fun b _ o e=>old b o e
 have J0: ∀tk,Inv (cxC X ls scope G2.objs.size s2 H2 fp) [] (List.replicate ls.length none++σ) H2 {s2 with heap:=h₁,toks:=tk}:=fun tk=>ku I2 S hh f2 hobj hCle hns₁ old
 have fpY: ∀ (Hx:Hp) (pl:List (Addr×Obj)),(∀b∈fp,Hx b=none)->(∀p∈pl,s2.heap.objs.size<=p.1)-> ∀b∈fp,FpOk (cxC X ls scope G2.objs.size s2 H2 fp) pl Hx b:=fun Hx pl hx hp b hb=>
  ⟨hx b hb,((J0 0).ok.exf b hb).1,(J0 0).ok.exfs b hb,.inl hb,((J0 0).ok.exf b hb).2,fun p hpp=>by
   have hpp:p∈pl:=by simpa [cxC] using hpp
   exact Nat.ne_of_gt (Nat.lt_of_lt_of_le (ltf b hb) (hp p hpp))⟩
 have loop: ∀s₃:Shared,s₃={s2 with heap:=h₁,toks:=s2.toks+([]:List (Str×Value)).length}->
   codeAny (model X.prog X.w) X.A (.compLoop (.ListComp elt [⟨tg,iter,ifs,0⟩] scope pos) 0 (.ref it) (.ref s2.heap.objs.size) (compEnvC scope (cloOf scope X.env) G2.objs.size X.env))
    (compPost (model X.prog X.w) X.A X.xe use QQ (.ref s2.heap.objs.size) G2.objs.size) s₃:=by
  rintro s₃ rfl
  refine dJ (fun n s'=> ∃ (i:Nat) (ys:List V) (its:List Value) (k:Nat) (H':Hp),Inv (cxC X ls scope G2.objs.size s2 H2 fp) [] (List.replicate ls.length none++σ) H' s'/\tn i s'.heap/\(∀b∈fp,H' b=none)/\H' s2.heap.objs.size=none/\
   s'.heap.get? s2.heap.objs.size=some {cls:=.type "list",data:=.seq its.toArray k}/\Vals ys its/\ys.length<=sizeLine/\W i n ys H') ?_ m0
   ⟨0,[],[],0,H2,J0 _,st1,fun b hb=>(f2 b hb).1,I2.hok.fresh (Nat.le_refl _),hacc,.nil,Nat.zero_le _,w0⟩
  rintro n s3 ⟨i,ys,its,k,H3,I3,st3,fr3,d3,e3,r3,z3,w3⟩
  have big: ∀p∈[((s2.heap.objs.size:Addr),({cls:=.type "list",data:=.seq its.toArray k}:Obj))],s2.heap.objs.size<=p.1:=fun p hp=>by
   have this:=List.mem_singleton.mp hp
   subst this
   exact Nat.le_refl _
  rcases turn i n ys H3 w3 with⟨stop,qn⟩|⟨go,R,hR,step⟩
  ·
   have P3:Inv (cxC X ls scope G2.objs.size s2 H2 fp) [(s2.heap.objs.size,{cls:=.type "list",data:=.seq its.toArray k})] (List.replicate ls.length none++σ) H3 s3:=I3.pins_of fun p hp=>by
    have this:=List.mem_singleton.mp hp
    subst this
    exact⟨e3,d3,hDC,nofD,fun v z=>by cases z⟩
   refine thx (T.done (cxC X ls scope G2.objs.size s2 H2 fp) rfl rfl rfl hcalm i _ s3 _ H3 (fun _ _=>False) P3 (fpY H3 _ fr3 big) st3 stop) fun r s4 qz=>?_
   obtain⟨hr,I4⟩:=qz
   subst hr
   obtain⟨m,hm,_⟩:=I4.loc
   have e4:=(I4.pin _ (List.mem_append_right _ (List.mem_singleton.mpr rfl))).1
   exact hQQ _ _ s4 _ ⟨m,hm⟩ (I2.fpOk hCle (by rw[aC (Ne.symm hDC)];exact I4.free)) (fun h' sb=>mQ I2 f2 I4 (Nat.le_refl _) hCle hDC sb d3 e4 r3 z3) (qn _ d3)
  ·
   have P3:Inv (cxC X ls scope G2.objs.size s2 H2 fp) [(s2.heap.objs.size,{cls:=.type "list",data:=.seq its.toArray k})] (List.replicate ls.length none++σ) H3 s3:=I3.pins_of fun p hp=>by
    have this:=List.mem_singleton.mp hp
    subst this
    exact⟨e3,d3,hDC,nofD,fun v z=>by cases z⟩
   refine thx (T.item (cxC X ls scope G2.objs.size s2 H2 fp) rfl rfl rfl hcalm i _ s3 _ H3 (fun _ _=>False) P3 (fpY H3 _ fr3 big) st3 go) fun r s4 qz=>?_
   obtain⟨u,hr,h4⟩:=qz
   subst hr
   refine thx h4 fun _ s5 qz=>?_
   obtain⟨x,H5,I5,r5,y5,st5,fr5⟩:=qz
   have I5':=I5.pinned (fpY H5 _ fr5 big) (T.obj _ _ st5)
   refine thx (hg _ _ _ _ _ s5 _ H5 x u _ I5' r5 (step x H5 y5)) fun _ s6 qz=>?_
   obtain⟨σ6,H6,I6,q6⟩:=qz
   obtain⟨dr,ln,q6⟩:=q6
   have back: ∀ {s7:Shared}{H7:Hp},Inv (cxC X ls scope G2.objs.size s2 H2 fp) ([((s2.heap.objs.size:Addr),({cls:=.type "list",data:=.seq its.toArray k}:Obj))]++iE fp s5.heap) σ6 H7 s7->
     Inv (cxC X ls scope G2.objs.size s2 H2 fp) [] (List.replicate ls.length none++σ) H7 s7/\tn (i+1) s7.heap/\(∀b∈fp,H7 b=none)/\H7 s2.heap.objs.size=none/\s7.heap.get? s2.heap.objs.size=some {cls:=.type "list",data:=.seq its.toArray k}:=fun{s7 H7} I7=>by
    have pD:=I7.pin _ (List.mem_append_right _ (List.mem_append_left _ (List.mem_singleton.mpr rfl)))
    have pF: ∀b∈fp,∀o,s5.heap.get? b=some o->s7.heap.get? b=some o/\H7 b=none:=fun b hb o e=>by
     have q:=I7.pin (b,o) (List.mem_append_right _ (List.mem_append_right _ (fz hb e)))
     exact⟨q.1,q.2.1⟩
    refine⟨(I7.pins_of (pins':=[]) fun p hp=>absurd hp (by simp)).weak ?_ ?_,T.keep _ _ _ st5 fun b hb o e=>(pF b hb o e).1,fun b hb=>?_,pD.2.1,pD.1⟩
    ·rw[ln,List.length_append,List.length_replicate]
    ·intro j v ej
     by_cases hj:j<ls.length
     ·rw[List.getElem?_append_left (by simpa using hj),List.getElem?_replicate,if_pos hj] at ej
      cases ej
     ·rw[List.getElem?_append_right (by simpa using hj),List.length_replicate,<-dr,List.getElem?_drop] at ej
      rw[<-ej]
      congr 1
      omega
    ·obtain⟨o,e,_⟩:=T.obj _ _ st5 b hb
     exact (pF b hb o e).2
   refine thx (ht _ _ _ _ _ s6 σ6 H6 _ I6 q6) fun b s7 qz=>?_
   obtain⟨H7,I7,q7⟩:=qz
   cases b with
   |false=>
    rw[if_neg Bool.false_ne_true] at q7 ⊢
    obtain⟨m',hm,w7⟩:=hR _ _ q7
    obtain⟨a1,a2,a3,a4,a5⟩:=back I7
    exact⟨m',hm,i+1,ys,its,k,H7,a1,a2,a3,a4,a5,r3,z3,w7⟩
   |true=>
    rw[if_pos rfl] at q7 ⊢
    refine thx (he _ _ _ _ _ s7 σ6 H7 _ I7 q7) fun y s8 qz=>?_
    obtain⟨v,H8,I8,r8,z8,q8⟩:=qz
    obtain⟨m',hm,w8⟩:=hR _ _ q8
    obtain⟨a1,a2,a3,a4,a5⟩:=back I8
    have pl:s8.heap.PlainList s2.heap.objs.size its.toArray:=⟨k,a5⟩
    refine wpAny_list_append_plain (hsz:=by rw[List.size_toArray,<-r3.length];exact z3) pl fun h9 hl9 hs9=>?_
    obtain⟨k9,e9⟩:=hl9
    have cellN: ∀ (y:Str) (c:Addr),(cxC X ls scope G2.objs.size s2 H2 fp).env.cells.lookup y=some c->c≠s2.heap.objs.size:=fun y c e=>by
     have e1:X.env.cells.lookup y=some c:=ir X.env scope.names [] cf (fun y a e=>by simp at e) y c e
     obtain⟨v,o,ho,_⟩:=I2.cell y c e1
     exact Nat.ne_of_lt (Heap.lt_size ho)
    have I9:Inv (cxC X ls scope G2.objs.size s2 H2 fp) [] (List.replicate ls.length none++σ) H8 {s8 with heap:=h9}:=
     a1.turned (t':=s8.toks) (fun b o hb e=>hs9.extBut b o hb e) a4 hDC (.inr (Nat.le_refl _)) cellN (fun p hp=>absurd (show p∈([]:List (Addr×Obj)) from hp) (by simp))
    refine⟨m',hm,i+1,ys++[v],its++[y],k9,H8,I9,T.keep _ _ _ a2 fun b hb o e=>hs9.extBut b o (Nat.ne_of_lt (ltf b hb)) e,a3,a4,?_,r3.append (.cons r8 .nil),?_,w8⟩
    ·simpa using e9
    ·rw[List.length_append,List.length_singleton];exact z8
 exact codeAny_compStart_list (loop _ rfl) (T.self _ 0 _ _ _ st1 (loop _ rfl))
theorem kW (hcalm:X.calm=true)(S:CScope X ls scope)(hi:PI X tg iter wi)
  (hg: ∀C s2 H2 fp,PG (cxC X ls scope C s2 H2 fp) tg g)(ht: ∀C s2 H2 fp,PIfs (cxC X ls scope C s2 H2 fp) ifs tt)(he: ∀C s2 H2 fp,PE (cxC X ls scope C s2 H2 fp) elt te)
  (hs: ∀x,foldedSetIterable iter X.env x=pure x:=by intro _;rfl):PE X (.ListComp elt [⟨tg,iter,ifs,0⟩] scope pos) (tComp X.N ls wi g tt te):=by
 intro pins s σ H Q I h
 rw[eval_ListComp]
 refine kA (use:=none) hcalm S hi hg ht he hs I h fun D C s' H' hm _ hI q=>?_
 obtain⟨m,hm⟩:=hm
 exact⟨m,hm,fun h' sb=>⟨.ref D,H',hI h' sb,rfl,q⟩⟩
theorem og {i:Nat}{x:Str}{px spos:Pos}(hN:X.N.Nodup)(hx1:X.N[i]?=some x)(hx:X.env.scope.names.lookup x=some .local)(hcalm:X.calm=true)(S:CScope X ls scope)(hi:PI X tg iter wi)
  (hg: ∀C s2 H2 fp,PG (cxC X ls scope C s2 H2 fp) tg g)(ht: ∀C s2 H2 fp,PIfs (cxC X ls scope C s2 H2 fp) ifs tt)(he: ∀C s2 H2 fp,PE (cxC X ls scope C s2 H2 fp) elt te)
  (hsw:swapsWith (.ListComp elt [⟨tg,iter,ifs,0⟩] scope pos) (some (.Name x px)) spos.line X.env=pure true:=by rfl)
  (hs: ∀x,foldedSetIterable iter X.env x=pure x:=by intro _;rfl):PS X (.Assign [.Name x px] (.ListComp elt [⟨tg,iter,ifs,0⟩] scope pos) spos) (tAsg (tComp X.N ls wi g tt te) (gName i)):=by
 intro pins s σ H D I h
 rw[exec_Assign_Name_used _ _ _ _ hsw]
 refine wpAny_bind (wpAny_standAt (wpAny_bind ?_))
 show wpAny _ X.A (do let _<-comprehension (.ListComp elt [⟨tg,iter,ifs,0⟩] scope pos) scope X.env _ (newList []) false (eval iter X.env) (some (assign (.Name x px) X.env))) _ _ s
 refine wpAny_bind (wpAny_mono (kA (use:=some (assign (.Name x px) X.env)) (QQ:=fun _ s'=>SP X pins D .next s') hcalm S hi hg ht he hs I h fun Dd C s' H' hm hf hI q=>?_) (fun _ s' hq=>wpAny_pure (wpAny_pure hq)) fun _ _ e=>e)
 obtain⟨m,hm⟩:=hm
 have I1:Inv X pins σ H' s':=hI s'.heap (.refl ..)
 show wpAny _ X.A (assign (.Name x px) X.env (.ref Dd)) _ _ _
 refine wpAny_assign_Name (j9 (v:=.ref Dd) I1 hN hx1 (.inl hx) rfl (fun s2 I2 ch=>?_) (.inr hx))
 obtain⟨f0,f1,f2,f3,f4,f5⟩:=hf
 obtain⟨a,sb,ha⟩:=ch
 have hne:C≠a:=by
  rcases ha with ha|ha
  ·rw[ha];exact f1
  ·exact Ne.symm (f4 _ _ ha)
 refine⟨m,hm.sameBut sb hne,fun h' sb'=>?_⟩
 exact⟨_,H',I2.turned (t':=s2.toks) (fun b o hb e=>sb'.extBut b o hb e) f0 f1 f3 f4 f5,q⟩
end
end
section
noncomputable def pU (ls:List Str)(sc outer:Scope):Bool:=(sc.kind==.function && ls.all fun y=>(sc.names.lookup ⟨#[63]++y.cps⟩).isNone) && sc.names.all fun y=>(y.2 !=.cell) && (y.2 !=.local ||(sc.names.lookup y.1==some .local && ls.contains y.1)) && (y.2 !=.free||outer.names.lookup y.1==some .cell||outer.names.lookup y.1==some .free)
theorem CScope.of {X:Cx}{ls:List Str}{scope:Scope}(outer:Scope)(h:pU ls scope outer=true:=by decide+kernel)(ho:X.env.scope=outer:=by rfl):CScope X ls scope:=by
 unfold pU at h
 rw[Bool.and_eq_true,List.all_eq_true] at h
 obtain⟨h0,h⟩:=h
 rw[Bool.and_eq_true,List.all_eq_true] at h0
 obtain⟨h0,hq⟩:=h0
 refine⟨by simpa using h0,fun y hy e=>?_,fun y hy e=>?_,fun y hy=>?_,fun y hy e=>?_,fun y hy k e=>by have q:=hq y hy;rw[e] at q;cases q⟩
 ·have q:=h y hy
  simp [e] at q
 ·have q:=h y hy
  simp [e] at q
  exact q.1
 ·have q:=h _ (PySem.mem_of_lookup hy)
  simp at q
  exact q.2
 ·have q:=h y hy
  simp [e] at q
  show X.env.scope.names.lookup y.1=_\/X.env.scope.names.lookup y.1=_
  rw[ho]
  exact q
noncomputable def CMulB (i j:Int):Prop:=i.natAbs<2 ^ 65536/\j.natAbs<2 ^ 65536
theorem pZ {i:Int}{n:Nat}(h:i.natAbs<2 ^ n):Builtin.Int.intBits i<=n:=by
 unfold Builtin.Int.intBits
 split
 ·exact Nat.zero_le _
 ·rename_i hz
  have hz':i.natAbs≠0:=by
   intro e
   exact hz (by simp_all)
  have:=(Nat.log2_lt hz').mpr h
  omega
theorem CMulB.ok {i j:Int}(h:CMulB i j):IntMulOk i j:=.of_bits (Nat.le_trans (pZ h.1) (by decide)) (Nat.le_trans (pZ h.2) (by decide))
section
variable {X:Cx}
mutual
inductive Den (K:PySem.W.Frag)(H:Hp):V->PyData->Prop
 |non:Den K H .non .none
 |bl (b):Den K H (.bl b) (.bool b)
 |int (i):Den K H (.int i) (.int i)
 |str (x):Den K H (.str x) (.str x)
 |lst {a xs ds}:SqL K H a xs->DenAll K H xs ds->Den K H (.ref a) (.list ds)
 |tup {a xs ds}:SqT K H a xs->DenAll K H xs ds->Den K H (.ref a) (.tuple ds)
inductive DenAll (K:PySem.W.Frag)(H:Hp):List V->List PyData->Prop
 |nil:DenAll K H [] []
 |cons {x xs d ds}:Den K H x d->DenAll K H xs ds->DenAll K H (x::xs) (d::ds)
end
mutual
theorem fj {pins:List (Addr×Obj)}{σ:St}{H:Hp}{s:Shared}(I:Inv X pins σ H s): ∀ {x:V}{d:PyData}{u:Value},Den X.K H x d->RelV x u-> ∃as,Reads s.heap u d as
 |_,_,_,.non,r=>by cases r;exact⟨_,.none⟩
 |_,_,_,.bl b,r=>by cases r;exact⟨_,.bool b⟩
 |_,_,_,.int i,r=>by obtain⟨t,rfl⟩:=r;exact⟨_,.int i t⟩
 |_,_,_,.str i,r=>by obtain⟨t,rfl⟩:=r;exact⟨_,.str i t⟩
 |_,_,_,.lst hq ha,r=>by
  cases r
  obtain⟨its,rv,⟨o,n,e1,e2,e3,e4⟩,hz⟩:=I.list hq
  obtain⟨as,h⟩:=fQ I ha rv
  exact⟨_,.list e1 e2 e4 (by simpa using h)⟩
 |_,_,_,.tup hq ha,r=>by
  cases r
  obtain⟨its,rv,⟨o,e1,e2,n,e3⟩,hz⟩:=I.tuple hq
  obtain⟨as,h⟩:=fQ I ha rv
  exact⟨_,.tuple e1 e2 e3 (by simpa using h)⟩
theorem fQ {pins:List (Addr×Obj)}{σ:St}{H:Hp}{s:Shared}(I:Inv X pins σ H s): ∀ {xs:List V}{ds:List PyData}{us:List Value},DenAll X.K H xs ds->Vals xs us-> ∃as,ReadsAll s.heap us ds as
 |_,_,_,.nil,.nil=>⟨_,.nil⟩
 |_,_,_,.cons h t,.cons r rs=>by
  obtain⟨as,h1⟩:=fj I h r
  obtain⟨bs,h2⟩:=fQ I t rs
  exact⟨_,.cons h1 h2⟩
end
def rEqD (K:PySem.W.Frag)(A:Around)(neg:Bool):R2:=fun x y H Q=> ∃d e,Den K H x d/\Den K H y e/\d.canLay0=true/\e.canLay0=true/\A.units+min d.depth e.depth<cLine/\Q (.bl (if neg then !PyData.eqv d e else PyData.eqv d e)) H
theorem xG:OpR X (compareOp .Eq) (rEqD X.K X.A false):=by
 intro pins s σ H x y v u Q I rx ry h
 obtain⟨d,e,hd,he,cd,ce,hu,q⟩:=h
 obtain⟨as,ra⟩:=fj I hd rx
 obtain⟨bs,rb⟩:=fj I he ry
 exact SeqAt.compareEq_reads ra rb cd ce hu ⟨.bl _,H,I,rfl,q⟩
theorem xD:OpR X (compareOp .NotEq) (rEqD X.K X.A true):=by
 intro pins s σ H x y v u Q I rx ry h
 obtain⟨d,e,hd,he,cd,ce,hu,q⟩:=h
 obtain⟨as,ra⟩:=fj I hd rx
 obtain⟨bs,rb⟩:=fj I he ry
 exact SeqAt.compareNe_reads ra rb cd ce hu ⟨.bl _,H,I,rfl,q⟩
end
end
section
def CXx (P:Program)(w:World):CXT:=fun outer H s E e s'=>
 ∃ (ea:Addr) (cls a0:Value) (H':Hp) (B:Heap),e=.ref ea/\s'.os=s.os/\AllBare s'.gens/\Un (frs outer) [] H H' s.heap s'.heap/\HOk P w H' s'.heap/\Heap.FlyingW B outer ea cls a0 s'.heap/\
   (∀b o,s'.heap.get? b=some o->b ∉ frs outer->(H' b≠none\/ ∃o',s.heap.get? b=some o')->B.get? b=some o)/\s.heap.get? ea=none/\H' ea=none/\E cls none H'
theorem HOk.there {P:Program}{w:World}{H:Hp}{h:Heap}(x:HOk P w H h){a:Addr}{o:HO}(e:H a=some o): ∃ob,h.get? a=some ob:=by
 have q:=x a o e
 cases o with
 |lst xs=>obtain⟨_,its,n,_,e⟩:=q;exact⟨_,e⟩
 |tup xs=>obtain⟨_,its,_,⟨ob,e,_⟩,_⟩:=q;exact⟨_,e⟩
 |dK kvs=>obtain⟨_,_,vs,_,ob,es,ep,e,_⟩:=q;exact⟨_,e⟩
 |dT kvs=>obtain⟨_,_,xs,_,ob,es,ep,e,_⟩:=q;exact⟨_,e⟩
 |dN b xs ep=>obtain⟨_,_,xs,_,ob,es,e,_⟩:=q;exact⟨_,e⟩
 |set S n=>obtain⟨ob,_,_,_,e,_⟩:=q;exact⟨_,e⟩
 |ins C dx fs=>obtain⟨_,_,_,e,_⟩:=q;exact⟨_,e⟩
 |own y=>exact q
 |xd fs=>obtain⟨_,⟨_,_,_,e,_⟩,_⟩:=q;exact⟨_,e⟩
 |met f y=>exact⟨_,q⟩
 |rng lo hi=>obtain⟨_,_,_,e⟩:=q;exact⟨_,e⟩
 |frz ob u=>exact⟨_,q.1⟩
 |tbl ps=>exact⟨_,q⟩
 |ext φ=>exact q.2.1
structure InDef (X:Cx):Prop where
 stk:X.stack=X.env::X.outer
 fr:X.env.frame=some X.env.locals
 ex:X.ex=[]
theorem InDef.frs {X:Cx}(D:InDef X):frs X.stack=X.env.locals::X.fs:=by
 rw[D.stk]
 unfold L2.frs
 rw[List.filterMap_cons,D.fr]
 rfl
section
variable {X:Cx}{pins:List (Addr×Obj)}{σ:St}{H:Hp}{s:Shared}
theorem Inv.frame_obj (I:Inv X pins σ H s){b:Addr}(hb:b∈frs X.stack): ∃o,s.heap.get? b=some o/\ ∀vs,o.data≠.fields vs:=(I.stack.mem hb).2
theorem mV (I:Inv X pins σ H s)(D:InDef X){h':Heap}{e:Addr}{C:Value}{args:List Value}(hx:Heap.MadeExcOf s.heap h' e C args){M:Model}{Q:Unit->Shared->Prop}{E:Value->Shared->Prop}
  (hQ: ∀ (h'':Heap) (a0:Value) (B:Heap),Heap.FlyingW B X.outer e C a0 h''->(∀b o,s.heap.get? b=some o->b ∉ frs X.stack->B.get? b=some o)->(∀b∈frs X.stack,B.get? b=none)->s.heap.UpToSlots h''->Q () {s with heap:=h''}):
  wpAny M X.A (leaving X.env (.ref e)) Q E {s with heap:=h'}:=by
 have hin: ∀env∈X.stack,∀b,env.frame=some b->b∈frs X.stack:=fun env he b hb=>List.mem_filterMap.mpr ⟨env,he,hb⟩
 have hl:=PySem.W.funFrames_hide I.stack hin
 have fr:=I.ok.frames
 rw[D.stk] at fr
 have hl':s.heap.FunFrames (PySem.W.hideAll s.heap (frs X.stack)) (X.env::X.outer):=by rw[<-D.stk];exact hl
 exact wpAny_leaves_madeW (s:={s with heap:=h'}) fr D.fr (fun b o q=>PySem.W.of_hideAll _ q) hl' hx fun h'' t x1 x2 x3 x4=>
  hQ h'' (.ref t) _ x1 (fun b o q hb=>PySem.W.hideAll_get _ q hb) (fun b hb=>PySem.W.hideAll_none _ hb) ((Heap.UpToSlots.of_keeps hx.keeps).trans x4)
end
section
variable {P:Program}{w:World}{K:PySem.W.Frag}{mg:Str->Option Value}{base:Heap}{N:List Str}{qual:Str}{scope:Scope}{f:Addr}{cd:Value}{A:Around}{outer:List Env}{s:Shared}{H:Hp}{E:XK}
theorem ip {CX:CXT}:InDef (cxOf CX P w K mg base N qual scope f cd A outer s H E):=⟨rfl,rfl,rfl⟩
theorem kP {pins:List (Addr×Obj)}{σ:St}{H1:Hp}{s1:Shared}{h':Heap}{e:Addr}{C:Value}{args:List Value}(I:Inv (cxOf (CXx P w) P w K mg base N qual scope f cd A outer s H E) pins σ H1 s1)
  (hx:Heap.MadeExcOf s1.heap h' e C args)(hE:E C none H1):(cxOf (CXx P w) P w K mg base N qual scope f cd A outer s H E).xe (.ref e) {s1 with heap:=h'}:=by
 refine mV I ip hx fun h'' a0 B fl cov nof up=>?_
 have fr2: ∀b,b∈frs (cxOf (CXx P w) P w K mg base N qual scope f cd A outer s H E).stack↔b=s.heap.objs.size\/b∈frs outer:=fun b=>by
  rw[(ip (CX:=CXx P w)).frs]
  exact List.mem_cons
 have old: ∀b o,s.heap.get? b=some o->b≠s.heap.objs.size:=fun b o q=>Nat.ne_of_lt (Heap.lt_size q)
 have keepB: ∀b o,s1.heap.get? b=some o->b≠s.heap.objs.size->b ∉ frs outer->h''.get? b=some o:=fun b o q h1 h2=>fl.1 b o (cov b o q fun z=>((fr2 b).mp z).elim h1 h2)
 have tr: ∀b u,H1 b=some u->b≠s.heap.objs.size/\b ∉ frs outer:=fun b u q=>by
  refine⟨fun z=>?_,fun z=>?_⟩
  ·have:=I.stkFree b ((fr2 b).mpr (.inl z));rw[this] at q;cases q
  ·have:=I.stkFree b ((fr2 b).mpr (.inr z));rw[this] at q;cases q
 have slotB: ∀b o,s1.heap.get? b=some o->b∈frs outer-> ∃sl,h''.get? b=some {o with slots:=sl}:=fun b o q hb=>by
  obtain⟨o',e',nd⟩:=I.frame_obj ((fr2 b).mpr (.inr hb))
  rw[q] at e';cases e'
  exact up b o q nd
 have baseU:Un (frs outer) [] H H1 s.heap s1.heap:=I.base
 refine⟨e,C,a0,H1,B,rfl,I.os,I.bare,⟨fun b o q n hb hx=>?_,fun b o q n hb hx=>?_,fun b o q n hx=>baseU.free b o q n hx,fun b o q hx=>?_,baseU.tups,baseU.frzs,baseU.tbls⟩,fun b u q=>?_,fl,fun b o q hb hh=>?_,?_,?_,hE⟩
 ·exact keepB b o (baseU.keep b o q n hb hx) (old b o q) hb
 ·obtain⟨sl,q1⟩:=baseU.slot b o q n hb hx
  obtain⟨sl',q2⟩:=slotB b _ q1 hb
  exact⟨sl',q2⟩
 ·obtain⟨o',q1⟩:=baseU.there b o q hx
  by_cases hb:b∈frs outer
  ·obtain⟨sl',q2⟩:=slotB b _ q1 hb
   exact⟨_,q2⟩
  ·exact⟨o',keepB b o' q1 (old b o q) hb⟩
 ·refine (I.hok b u q).stay (fun c v hc r=>?_) (fun _ r=>r) fun _ _ r=>r
  have: ∃u,H1 c=some u:=by
   rcases hc with rfl|hc
   ·exact⟨u,q⟩
   ·exact⟨_,hc⟩
  obtain⟨u',qu⟩:=this
  exact keepB c v r (tr c u' qu).1 (tr c u' qu).2
 ·have: ∃o1,s1.heap.get? b=some o1/\b≠s.heap.objs.size:=by
   rcases hh with hh|⟨o',hh⟩
   ·cases qu:H1 b with
    |none=>exact absurd qu hh
    |some u=>
     obtain⟨o1,q1⟩:=I.hok.there qu
     exact⟨o1,q1,(tr b u qu).1⟩
   ·obtain⟨o1,q1⟩:=baseU.there b o' hh (by simp)
    exact⟨o1,q1,old b o' hh⟩
  obtain⟨o1,q1,hne⟩:=this
  have q2:=keepB b o1 q1 hne hb
  rw[q] at q2
  cases q2
  exact cov b o q1 fun z=>((fr2 b).mp z).elim hne hb
 ·cases q:s.heap.get? e with
  |none=>rfl
  |some o'=>
   obtain⟨o1,q1⟩:=baseU.there e o' q (by simp)
   rw[hx.new] at q1;cases q1
 ·cases q:H1 e with
  |none=>rfl
  |some u=>
   obtain⟨o1,q1⟩:=I.hok.there q
   rw[hx.new] at q1;cases q1
theorem cY:bH (CXx P w) (cxOf (CXx P w) P w K mg base N qual scope f cd A outer s H E) E:=by
 intro pins σ H1 s1 e s2 I hc
 obtain⟨ea,cls,a0,H2,B,rfl,os,bare,un,hok,fly,cov,new,hn,hE⟩:=hc
 have frm:=I.ok.frames
 refine wpAny_leaves_onW (show (A.deeper (envOfC qual scope s.heap.objs.size f cd)).frames=some (envOfC qual scope s.heap.objs.size f cd::outer) from frm) rfl fly fun h' fl up=>?_
 have fr2: ∀b,b∈frs (cxOf (CXx P w) P w K mg base N qual scope f cd A outer s H E).stack↔b=s.heap.objs.size\/b∈frs outer:=fun b=>by
  rw[(ip (CX:=CXx P w)).frs]
  exact List.mem_cons
 have old: ∀b o,s.heap.get? b=some o->b≠s.heap.objs.size:=fun b o q=>Nat.ne_of_lt (Heap.lt_size q)
 have baseU:Un (frs outer) [] H H1 s.heap s1.heap:=I.base
 have frN: ∀b,b∈frs (cxOf (CXx P w) P w K mg base N qual scope f cd A outer s H E).stack->H2 b=none:=fun b hb=>by
  obtain⟨o,q,_⟩:=I.frame_obj hb
  exact un.free b o q (I.stkFree b hb) (by simp)
 have tr: ∀b u,H2 b=some u->b ∉ frs (cxOf (CXx P w) P w K mg base N qual scope f cd A outer s H E).stack:=fun b u q z=>by rw[frN b z] at q;cases q
 have slotB: ∀b o,s2.heap.get? b=some o->b∈frs (cxOf (CXx P w) P w K mg base N qual scope f cd A outer s H E).stack-> ∃sl,h'.get? b=some {o with slots:=sl}:=fun b o q hb=>by
  obtain⟨o',e',nd⟩:=(fly.2.2.1.mem hb).2
  rw[q] at e';cases e'
  exact up b o q nd
 have noSt: ∀b o,s.heap.get? b=some o->b ∉ frs outer->b ∉ frs (cxOf (CXx P w) P w K mg base N qual scope f cd A outer s H E).stack:=fun b o q hb z=>((fr2 b).mp z).elim (old b o q) hb
 refine⟨ea,cls,a0,H2,B,rfl,os.trans I.os,bare,⟨fun b o q n hb hx=>?_,fun b o q n hb hx=>?_,fun b o q n hx=>?_,fun b o q hx=>?_,fun b xs q=>un.tups b xs (baseU.tups b xs q),fun b o u q=>un.frzs b o u (baseU.frzs b o u q),fun b ps q=>?_⟩,fun b u q=>?_,fl,fun b o q hb hh=>?_,?_,hn,hE⟩
 ·have q1:=baseU.keep b o q n hb hx
  have q2:=un.keep b o q1 (baseU.free b o q n hx) (noSt b o q hb) hx
  exact fl.1 b o (cov b o q2 (noSt b o q hb) (.inr ⟨o,q1⟩))
 ·obtain⟨sl,q1⟩:=baseU.slot b o q n hb hx
  obtain⟨sl2,q2⟩:=un.slot b _ q1 (baseU.free b o q n hx) ((fr2 b).mpr (.inr hb)) hx
  obtain⟨sl3,q3⟩:=slotB b _ q2 ((fr2 b).mpr (.inr hb))
  exact⟨sl3,q3⟩
 ·obtain⟨o1,q1⟩:=baseU.there b o q hx
  exact un.free b o1 q1 (baseU.free b o q n hx) hx
 ·obtain⟨o1,q1⟩:=baseU.there b o q hx
  obtain⟨o2,q2⟩:=un.there b o1 q1 hx
  by_cases hb:b∈frs outer
  ·obtain⟨sl,q3⟩:=slotB b o2 q2 ((fr2 b).mpr (.inr hb))
   exact⟨_,q3⟩
  ·exact⟨o2,fl.1 b o2 (cov b o2 q2 (noSt b o q hb) (.inr ⟨o1,q1⟩))⟩
 ·obtain⟨m1,e1⟩:=baseU.tbls b ps q
  obtain⟨m2,e2⟩:=un.tbls b _ e1
  exact⟨m1++m2,by rw[e2,Array.append_assoc]⟩
 ·refine (hok b u q).stay (fun c v hc r=>?_) (fun _ r=>r) fun _ _ r=>r
  have: ∃u,H2 c=some u:=by
   rcases hc with rfl|hc
   ·exact⟨u,q⟩
   ·exact⟨_,hc⟩
  obtain⟨u',qu⟩:=this
  exact fl.1 c v (cov c v r (tr c u' qu) (.inl (by rw[qu];simp)))
 ·have: ∃o2,s2.heap.get? b=some o2/\B.get? b=some o2:=by
   rcases hh with hh|⟨o',hh⟩
   ·cases qu:H2 b with
    |none=>exact absurd qu hh
    |some u=>
     obtain⟨o2,q2⟩:=hok.there qu
     exact⟨o2,q2,cov b o2 q2 (tr b u qu) (.inl hh)⟩
   ·obtain⟨o1,q1⟩:=baseU.there b o' hh (by simp)
    obtain⟨o2,q2⟩:=un.there b o1 q1 (by simp)
    exact⟨o2,q2,cov b o2 q2 (noSt b o' hh hb) (.inr ⟨o1,q1⟩)⟩
  obtain⟨o2,q2,q3⟩:=this
  have q4:=fl.1 b o2 q3
  rw[q] at q4
  cases q4
  exact q3
 ·cases q:s.heap.get? ea with
  |none=>rfl
  |some o'=>
   obtain⟨o1,q1⟩:=baseU.there ea o' q (by simp)
   rw[new] at q1;cases q1
end
end
section
noncomputable def Its (x:Str):It:=⟨fun i _=>i<x.cps.size,fun i H v H'=>H'=H/\ ∃c,x.cps.toList[i]?=some c/\v=.str ⟨#[c]⟩,fun i _=>i=x.cps.size⟩
theorem nK (x:Str):["enumerate", "zip", "dict_itemiterator", "dict_reverseitemiterator", "odict_iterator", "itertools.zip_longest", "itertools.pairwise"].contains (strIterType x)=false:=by
 unfold strIterType
 split<;>decide
theorem j2 {prog:Program}{w:World}{A:Around}(hh:A.handled=none)(I:Addr)(x:Str)(t:Tok):Walks prog w A I [I] [I] x.cps.size (SignAt x) (fun i h=>h.IsStrIter I (strIterType x) x t i):=by
 unfold strIterType
 split
 ·exact Walks.strAscii hh I x t
 ·exact Walks.strWide hh I x t
theorem qC {prog:Program}{w:World}{A:Around}{E:Value->Shared->Prop}{s:Shared}{it:Addr}{x:Str}{t:Tok}{i:Nat}{Q:Value->Shared->Prop}(hit:s.heap.IsStrIter it (strIterType x) x t i)(h:Q (.ref it) s):
  wpAny (model prog w) A (pyIter (.ref it)) Q E s:=by
 unfold strIterType at hit
 split at hit
 ·exact wpAny_pyIter_striter_ascii hit h
 ·exact wpAny_pyIter_striter_wide hit h
theorem qV {P:Program}{w:World}{K:PySem.W.Frag}{tg:Expr}(it:Addr)(x:Str)(t:Tok):Turn P w K tg (Its x) [it] it (fun i h=>h.IsStrIter it (strIterType x) x t i) where
 mem:=by simp
 obj:=fun i h st b hb=>by
  have e:b=it:=by simpa using hb
  subst e
  obtain⟨o,e,c,d⟩:=st
  exact⟨o,e,fun v z=>by rw[d] at z;cases z⟩
 keep:=fun i h h' st k=>by
  obtain⟨o,e,r⟩:=st
  exact⟨o,k it (by simp) o e,r⟩
 item:=by
  intro X hP hw hK hc i pins s σ H E I hf st hg
  subst hP hw hK
  obtain⟨f0,f1,f2,f3,f4,f5⟩:=hf it (by simp)
  refine (j2 (I.ok.hd hc) it x t).item i s _ _ hg st fun v h' tk hv st' kk=>?_
  obtain⟨c,u,hcu,rfl⟩:=hv
  have I1:Inv X pins σ H {s with heap:=h',toks:=tk}:=I.turned (fun b o hb e=>kk b o (by simpa using hb) e) f0 f1 f3 f4 f5
  obtain⟨o,e,c',d⟩:=id st'
  exact⟨_,rfl,pz (s:={s with heap:=h',toks:=tk}) e c' d (nK x) ⟨.str ⟨#[c]⟩,H,I1,⟨u,rfl⟩,⟨rfl,c,by simpa using hcu,rfl⟩,st',fun b hb=>(hf b hb).1⟩⟩
 done:=by
  intro X hP hw hK hc i pins s σ H E I hf st hg
  subst hP hw hK
  obtain⟨f0,f1,f2,f3,f4,f5⟩:=hf it (by simp)
  have hg:i=x.cps.size:=hg
  subst hg
  exact (j2 (I.ok.hd hc) it x t).done s _ _ st fun h' tk kk=>⟨rfl,I.turned (fun b o hb e=>kk b o (by simpa using hb) e) f0 f1 f3 f4 f5⟩
 self:=fun _ _ _ _ _ st h=>qC st h
section
variable {X:Cx}{tg:Expr}
def iStr (tl:TE):TI:=fun σ H R=>tl σ H fun v H1=> ∃x,v=.str x/\R (Its x) H1
theorem rN {l:Expr}{tl:TE}(hl:PE X l tl):PI X tg l (iStr tl):=by
 intro pins s σ H R I h
 refine thn (hl pins s σ H _ I h) fun v s1 qz=>?_
 obtain⟨y,H1,I1,r1,q1⟩:=qz
 obtain⟨x,rfl,q⟩:=q1
 obtain⟨t,rfl⟩:=r1
 refine wpAny_pyIter_strU ?_
 refine⟨s1.heap.objs.size,[s1.heap.objs.size],_,_,H1,rfl,I1.kept (t':=s1.toks) fun b o e=>Heap.get?_push_of_some _ e,qV _ x t,⟨_,Heap.get?_push_size _ rfl,rfl,rfl⟩,fun b hb=>?_,q⟩
 have e:b=s1.heap.objs.size:=by simpa using hb
 subst e
 exact I1.fpOk (Nat.le_refl _) (I1.hok.fresh (Nat.le_refl _))
end
theorem zV {x:Str}{g:TG}{tb:TS}{D:Ends}{σ:St}{H:Hp}(Pv:Nat->St->Hp->Prop)(h0:Pv 0 σ H)
  (hs: ∀i c σ H,x.cps.toList[i]?=some c->Pv i σ H->g (.str ⟨#[c]⟩) σ H fun σ2 H2=>tb {D with nx:=Pv (i+1),ct:=Pv (i+1),bk:=D.nx} σ2 H2)(hd: ∀σ H,Pv x.cps.size σ H->D.nx σ H):
  ∃W:Nat->Nat->St->Hp->Prop,(∃m,W 0 m σ H)/\ ∀i m σ H,W i m σ H->
   ((Its x).stop i H/\D.nx σ H)\/((Its x).go i H/\ ∃N:St->Hp->Prop,(∀σ' H',N σ' H'-> ∃m',m'<m/\W (i+1) m' σ' H')/\ ∀v H',(Its x).yld i H v H'->g v σ H' fun σ2 H2=>tb {D with nx:=N,ct:=N,bk:=D.nx} σ2 H2):=by
 refine⟨fun i m σ H=>m=x.cps.size - i/\i<=x.cps.size/\Pv i σ H,⟨x.cps.size,by simp,Nat.zero_le _,h0⟩,?_⟩
 rintro i m σ H ⟨rfl,hi,p⟩
 by_cases hlt:i<x.cps.size
 ·refine .inr ⟨hlt,Pv (i+1),fun σ' H' p'=>⟨x.cps.size - (i+1),by omega,rfl,hlt,p'⟩,fun v H' y=>?_⟩
  obtain⟨e,c,hc,rfl⟩:=y
  subst e
  exact hs i c σ _ hc p
 ·have e:i=x.cps.size:=by omega
  subst e
  exact .inl ⟨rfl,hd σ H p⟩
theorem nk {x:Str}{ls:List Str}{g:TG}{tt:TT}{te:TE}{σ:St}{H:Hp}{Q:VK}(Pv:Nat->List V->Hp->Prop)(h0:Pv 0 [] H)
  (hs: ∀i c ys H,x.cps.toList[i]?=some c->Pv i ys H->g (.str ⟨#[c]⟩) (List.replicate ls.length none++σ) H fun σ2 H2=>σ2.drop ls.length=σ/\σ2.length=ls.length+σ.length/\tt σ2 H2 fun b H3=>if b=true then te σ2 H3 fun v H4=>ys.length<sizeLine/\Pv (i+1) (ys++[v]) H4 else Pv (i+1) ys H3)
  (hd: ∀ys H,Pv x.cps.size ys H-> ∀D,H D=none->Q (.ref D) (upd H D (.lst ys))):CompW (Its x) ls g tt te σ H Q:=by
 refine⟨fun i m ys H=>m=x.cps.size - i/\i<=x.cps.size/\Pv i ys H,⟨x.cps.size,by simp,Nat.zero_le _,h0⟩,?_⟩
 rintro i m ys H ⟨rfl,hi,p⟩
 by_cases hlt:i<x.cps.size
 ·refine .inr ⟨hlt,Pv (i+1),fun ys' H' p'=>⟨x.cps.size - (i+1),by omega,rfl,hlt,p'⟩,fun v H' y=>?_⟩
  obtain⟨e,c,hc,rfl⟩:=y
  subst e
  exact hs i c ys _ hc p
 ·have e:i=x.cps.size:=by omega
  subst e
  exact .inl ⟨rfl,hd ys H p⟩
section
variable {X:Cx}
theorem nB: ∀ {bs:List Bool}{us:List Value},Vals (bs.map V.bl) us->LSm.BoolsAre us bs
 |[],_,.nil=>.nil
 |b::r,_,.cons h t=>by
  have h:_=Value.bool b:=h
  subst h
  exact .cons b (nB t)
theorem nz (hc:X.calm=true):CallR X (.builtin "all") (fun xs H Q=> ∃ (p:Addr) (bs:List Bool),xs=[.ref p]/\SqL X.K H p (bs.map V.bl)/\Q (.bl (bs.all id)) H):=by
 intro pins s σ H xs us Q I r h
 obtain⟨p,bs,rfl,hq,q⟩:=h
 obtain⟨u,rfl,ru⟩:=vals1 r
 cases ru
 obtain⟨its,rv,pl,hz⟩:=I.list hq
 have hb:=nB rv
 have hl:=pl.isList
 have hlt:p<s.heap.objs.size:=by obtain⟨_,e,_⟩:=hl;exact Heap.lt_size e
 refine call_all_walk (wpAny_pyIter_list hl ?_)
 refine⟨s.heap.objs.size,[s.heap.objs.size,p],[s.heap.objs.size],its.toArray.size,_,_,fun i=>(bs[i]?).getD true,rfl,Walks.list (A:=X.A.in1) (I.ok.hd hc) _ p (Nat.ne_of_lt hlt) its.toArray,
  ⟨⟨_,Heap.get?_push_size _ rfl,rfl,rfl⟩,hl.push _⟩,fun i v s' Q' E' hP hQ=>?_,fun h' tk hk=>?_⟩
 ·obtain⟨b,e,rfl⟩:=hb.get i v (by simpa using hP)
  simp only[e,Option.getD_some] at hQ
  exact wpAny_truthy_bool hQ
 ·have e:((List.range its.toArray.size).all fun i=>(bs[i]?).getD true)=bs.all id:=by
   rw[List.size_toArray,hb.length];exact LSm.range_all bs
  rw[e]
  exact⟨.bl _,H,I.kept (t':=tk) (LSm.kept_iter hk),rfl,q⟩
theorem sl_str:SlR X (fun x lo hi H Q=> ∃z,x=.str z/\z.length<=sizeLine/\Q (.str (StrLaws.sliceText z lo hi)) H):=by
 intro pins s σ H x v vl vu lo hi sl Q I rx hs pl pu h
 obtain⟨z,rfl,hz,q⟩:=h
 obtain⟨t,rfl⟩:=rx
 have part: ∀ {v:Value}{o:Option Int},IsPart v o-> ∃p:Option (Int×Tok),v=partValue p/\p.map (·.1)=o:=fun{v o} h=>by
  cases h with
  |none=>exact⟨none,rfl,rfl⟩
  |int i t=>exact⟨some (i,t),rfl,rfl⟩
 obtain⟨l,rfl,el⟩:=part pl
 obtain⟨u,rfl,eu⟩:=part pu
 refine⟨"str",_,slot_str_getitem.lookup,typeIs_str s z t,?_⟩
 obtain⟨o,h1,h2,h3⟩:=hs
 refine wpAny_getItem_str_slice (l:=l) (u:=u) (st:=none) ⟨o,h1,h2,h3⟩ rfl ?_
 subst el eu
 unfold sliceMade slicePicked
 unfold StrLaws.sliceText at q
 simp only[Option.map_none,Option.getD_none]
 split
 ·rename_i hc
  rw[if_pos hc] at q
  exact⟨.str z,H,I,⟨t,rfl⟩,q⟩
 ·rename_i hc
  rw[if_neg hc] at q
  refine⟨?_,.str _,H,I.tok _,⟨_,rfl⟩,q⟩
  show ((_:List Nat).toArray).size<=sizeLine
  rw[List.size_toArray]
  exact Nat.le_trans (List.length_filterMap_le _ _) (Nat.le_trans (sliceIndices_le _ _ _) hz)
theorem iu:CallR X (.type "int") (fun xs H Q=> ∃ (z:Str) (n:Int),xs=[.str z]/\PySem.intText? z=some n/\z.length<=640/\Q (.int n) H):=by
 intro pins s σ H xs us Q I r h
 obtain⟨z,n,rfl,hn,hl,q⟩:=h
 obtain⟨u,rfl,t,rfl⟩:=vals1 r
 exact PySem.W.KIN.call_text hn hl ⟨.int n,H,I.tok _,⟨_,rfl⟩,q⟩
theorem lH:CallR X (.type "str") (fun xs H Q=> ∃ (z:Str),xs=[.str z]/\Q (.str z) H):=by
 intro pins s σ H xs us Q I r h
 obtain⟨z,rfl,q⟩:=h
 obtain⟨u,rfl,t,rfl⟩:=vals1 r
 exact P.str_of_str ⟨.str z,H,I,⟨_,rfl⟩,q⟩
theorem op_mul_str:OpR X (binaryOp .Mult) (fun x y H Q=> ∃ (z:Str) (n:Int),x=.str z/\y=.int n/\MulOk z n/\Q (.str (Txt.mul z n)) H):=by
 intro pins s σ H x y v u Q I rx ry h
 obtain⟨z,n,rfl,rfl,ho,q⟩:=h
 obtain⟨t,rfl⟩:=rx
 obtain⟨t',rfl⟩:=ry
 exact SB.mul ho fun t' k=>⟨.str _,H,I.tok k,⟨_,rfl⟩,q⟩
end
theorem oC (x:Str)(c:Nat):(!(Builtin.Str.occurrences x ⟨#[c]⟩ 0 x.length 1).isEmpty)=decide (c∈x.cps.toList):=StrLaws.found_one x c
def iz (X:Cx)(E:XK):Prop:= ∀ (pins:List (Addr×Obj)) (σ:St) (H:Hp) (s:Shared) (h':Heap) (e:Addr) (C:Value) (args:List Value),Inv X pins σ H s->Heap.MadeExcOf s.heap h' e C args->E C none H->X.xe (.ref e) {s with heap:=h'}
theorem dD {P:Program}{w:World}{K:PySem.W.Frag}{mg:Str->Option Value}{base:Heap}{N:List Str}{qual:Str}{scope:Scope}{f:Addr}{cd:Value}{A:Around}{outer:List Env}{s:Shared}{H:Hp}{E:XK}:
 iz (cxOf (CXx P w) P w K mg base N qual scope f cd A outer s H E) E:=fun _ _ _ _ _ _ _ _ I hx hE=>kP I hx hE
def wF (C:Value)(E:XK)(t:TA):TS:=fun _ σ H=>t σ H fun vs H1=>vs.length<=sizeLine/\E C none H1
abbrev bmVal:List Value:=[.type "ValueError",.type "Exception",.type "BaseException",.type "object"]
section
variable {X:Cx}{C:Addr}{E:XK}{x:Str}{np cpos pos:Pos}{a:Expr}{es:List Expr}{t:TA}
theorem eA (hX:iz X E)(hc:X.calm=true)(hg:Gl X x)(hm:X.mg x=some (.ref C))(q:excIn X.K C bmVal "ValueError.__new__"=true)(ha:PA X (a::es) t)
  (he:starEach (a::es) X.env=(false,eval a X.env)::starEach es X.env:=by rfl)(hplain:(backTo cpos (starEach es X.env)).any (·.1)=false:=by rfl)(hd:(x==("__debug__":Str))=false:=by decide):
  PS X (.Raise (some (.Call (.Name x np) (a::es) [] cpos)) none pos) (wF (.ref C) E t):=by
 intro pins s σ H D I h
 unfold excIn at q
 split at q
 ·rename_i dd cd sl ho
  split at q
  ·rename_i C' bm k0 k1 k2 k3 n k5 hm' hs
   simp only[Bool.and_eq_true,beq_iff_eq,Bool.not_eq_true'] at q
   obtain⟨⟨⟨⟨⟨rfl,rfl⟩,hdel⟩,ht⟩,hok⟩,hni⟩:=q
   obtain⟨nm,bs,mro,ns,qn,hd',sn,sub,ab,col,del⟩:=cd
   dsimp only at hm' hdel hok hni
   subst hm' hdel
   have hsl:sl= #[k0,k1,k2,k3,some (.builtin "ValueError.__new__"),k5]:=by
    obtain⟨l⟩:=sl
    simp only at hs
    rw[hs]
   subst hsl
   have obj: ∀ {hh:Heap},X.K.In hh->_:=fun{hh} (XX:X.K.In hh)=>(⟨XX _ _ ho,PySem.Heap.Ns.of_isNs (PySem.W.isNs_of_in XX hok),PySem.W.nsMap_none_of_in XX hok hni,PySem.W.tail_of_in XX ht⟩:
    hh.get? C'=some (excClassObj nm qn C' ns bs bm hd' sn sub ab col dd k0 k1 k2 k3 k5 "ValueError.__new__")/\hh.Ns ns (hh.nsMap ns)/\hh.nsMap ns "__init__"=none/\OwnTail hh bmVal bm)
   have o0:=obj I.ok.mod.kin
   refine wpAny_Raise_call_subT (C:=C') (nm:=nm) (q:=qn) (N:=ns) (bs:=bs) (bm:=bm) (hdct:=hd') (sn:=sn) (sub:=sub) (ab:=ab) (col:=col) (dd:=dd) (k0:=k0) (k1:=k1) (k2:=k2) (k3:=k3) (k5:=k5)
    F.excBase_ValueError (mN:=X.base.nsMap ns) (o0.2.2.2.hasType F.excBase_ValueError.hasBase) (I.ok.hd hc) (by rw[he];show (false||(backTo cpos (starEach es X.env)).any (·.1))=false;rw[hplain];rfl) o0.2.2.1 (fE I hg hm ⟨rfl,?_⟩ hd)
   rw[he]
   refine Calls.evalArgs_plain ?_
   have hq:=ha cpos pins s σ H _ I h
   rw[he] at hq
   refine thn hq fun us s2 qz=>?_
   obtain⟨vs,H1,I1,r1,z,q1⟩:=qz
   have kp: ∀b o,X.base.get? b=some o->s2.heap.get? b=some o:=I1.bk
   exact⟨rfl,by rw[<-r1.length];exact z,(obj I1.kIn).1,o0.2.1.keeps kp,(obj I1.kIn).2.2.2,fun h' e hx=>hX pins σ H1 s2 h' e _ _ I1 hx q1⟩
  ·cases q
 ·cases q
end
end
section
noncomputable def excO (ea:Addr)(cls:Value):HO:=.ext fun h=> ∃o vs,h.get? ea=some o/\o.cls=cls/\o.data=.fields vs
theorem sO {X:Cx}{pins:List (Addr×Obj)}{σ:St}{H1 H2:Hp}{s1 s':Shared}{B h5:Heap}{ea:Addr}{cls a0:Value}(I:Inv X pins σ H1 s1)(os:s'.os=s1.os)(bare:AllBare s'.gens)
  (un:Un (frs X.stack) [] H1 H2 s1.heap s'.heap)(hok:HOk X.prog X.w H2 s'.heap)(fly:Heap.FlyingW B X.stack ea cls a0 s'.heap)
  (cov: ∀b o,s'.heap.get? b=some o->b ∉ frs X.stack->(H2 b≠none\/ ∃o',s1.heap.get? b=some o')->B.get? b=some o)(new:s1.heap.get? ea=none)(hn:H2 ea=none)
  (fl5:Heap.FlyingW B X.stack ea cls a0 h5)(up:s'.heap.UpToSlots h5):Inv X pins σ (upd H2 ea (excO ea cls)) {s' with heap:=h5}:=by
 have frN: ∀b,b∈frs X.stack->H2 b=none:=fun b hb=>by
  obtain⟨o,q,_⟩:=I.frame_obj hb
  exact un.free b o q (I.stkFree b hb) (by simp)
 have tr: ∀b u,H2 b=some u->b ∉ frs X.stack:=fun b u q z=>by rw[frN b z] at q;cases q
 have slotB: ∀b o,s'.heap.get? b=some o->b∈frs X.stack-> ∃sl,h5.get? b=some {o with slots:=sl}:=fun b o q hb=>by
  obtain⟨o',e',nd⟩:=(fly.2.2.1.mem hb).2
  rw[q] at e';cases e'
  exact up b o q nd
 have neE: ∀b o,s1.heap.get? b=some o->b≠ea:=fun b o q z=>by rw[z,new] at q;cases q
 have neT: ∀b u,H2 b=some u->b≠ea:=fun b u q z=>by rw[z,hn] at q;cases q
 refine I.call' (s':={s' with heap:=h5}) (ch:=[]) os ⟨fun b o q n hb hx=>?_,fun b o q n hb hx=>?_,fun b o q n hx=>?_,fun b o q hx=>?_,fun b xs q=>?_,fun b o u q=>?_,fun b ps q=>?_⟩ (fun b u q=>?_) bare (fun b z=>absurd z (by simp))
 ·exact fl5.1 b o (cov b o (un.keep b o q n hb hx) hb (.inr ⟨o,q⟩))
 ·obtain⟨sl,q1⟩:=un.slot b o q n hb hx
  obtain⟨sl2,q2⟩:=slotB b _ q1 hb
  exact⟨sl2,q2⟩
 ·rw[aC (neE b o q)];exact un.free b o q n hx
 ·obtain⟨o1,q1⟩:=un.there b o q hx
  by_cases hb:b∈frs X.stack
  ·obtain⟨sl,q2⟩:=slotB b _ q1 hb
   exact⟨_,q2⟩
  ·exact⟨o1,fl5.1 b o1 (cov b o1 q1 hb (.inr ⟨o,q⟩))⟩
 ·have z:=un.tups b xs q
  rw[aC (neT b _ z)];exact z
 ·have z:=un.frzs b o u q
  rw[aC (neT b _ z)];exact z
 ·obtain⟨m,z⟩:=un.tbls b ps q
  exact⟨m,by rw[aC (neT b _ z)];exact z⟩
 ·by_cases hb:b=ea
  ·subst hb
   rw[aM] at q
   cases q
   obtain⟨oe,vs,h1,h2,h3,_⟩:=fl5.first
   refine⟨⟨oe,vs,h1,h2,h3⟩,⟨oe,h1⟩,fun h1' h2' p k=>?_⟩
   obtain⟨o,vs,e1,e2,e3⟩:=p
   exact⟨o,vs,k o e1,e2,e3⟩
  ·rw[aC hb] at q
   refine (hok b u q).stay (fun c v hc r=>?_) (fun c r=>by rw[aC (neT c _ r)];exact r) fun c xs r=>by rw[aC (neT c _ r)];exact r
   have: ∃u,H2 c=some u:=by
    rcases hc with rfl|hc
    ·exact⟨u,q⟩
    ·exact⟨_,hc⟩
   obtain⟨u',qu⟩:=this
   exact fl5.1 c v (cov c v r (tr c u' qu) (.inl (by rw[qu];simp)))
noncomputable abbrev tryX (X:Cx)(pn:List (Addr×Obj))(Z:St->XK):Cx:=
 {X with pn:=pn,xe:=fun e s'=> ∃ (pins:List (Addr×Obj)) (σ:St) (H:Hp) (s:Shared),Inv {X with pn:=pn} pins σ H s/\CXx X.prog X.w X.stack H s (Z σ) e s'}
noncomputable abbrev gm (X:Cx)(ea:Addr):Cx:={X with A:=X.A.mark (some (.ref ea)),calm:=false,xe:=fun _ _=>False}
section
variable {X:Cx}{pins:List (Addr×Obj)}{σ:St}{H:Hp}{s:Shared}{pn:List (Addr×Obj)}{xe:Value->Shared->Prop}
theorem zj (ok:X.Ok):Cx.Ok {X with pn:=pn,xe:=xe}:=
 ⟨ok.mod,ok.kind,ok.glob,ok.blt,ok.above,ok.inj,ok.has,ok.cab,ok.hd,ok.frames,ok.stk,ok.exf,ok.bs,ok.bsz,ok.noex,ok.exfs,ok.funs,ok.frf⟩
theorem Inv.toPn (I:Inv X pins σ H s):Inv {X with pn:=X.pn++pins,xe:=xe} [] σ H s:=
 ⟨zj I.ok,I.os,I.bare,I.base,I.loc,I.cell,I.free,I.freeC,fun p hp=>I.pin p (by simpa using hp),I.hok,I.len⟩
theorem Inv.ofPn (ok:X.Ok){pl:List (Addr×Obj)}(J:Inv {X with pn:=X.pn++pins,xe:=xe} pl σ H s):Inv X pins σ H s:=
 ⟨ok,J.os,J.bare,J.base,J.loc,J.cell,J.free,J.freeC,fun p hp=>J.pin p (List.mem_append_left _ hp),J.hok,J.len⟩
theorem r9 {ea:Addr}(ok:X.Ok):(gm X ea).Ok:=
 ⟨ok.mod,ok.kind,ok.glob,ok.blt,ok.above,ok.inj,ok.has,ok.cab,(fun z=>absurd z Bool.false_ne_true),ok.frames,ok.stk,ok.exf,ok.bs,ok.bsz,ok.noex,ok.exfs,ok.funs,ok.frf⟩
theorem Inv.toSuite {ea:Addr}(I:Inv X pins σ H s):Inv (gm X ea) pins σ H s:=⟨r9 I.ok,I.os,I.bare,I.base,I.loc,I.cell,I.free,I.freeC,I.pin,I.hok,I.len⟩
theorem Inv.ofSuite {ea:Addr}(ok:X.Ok)(I:Inv (gm X ea) pins σ H s):Inv X pins σ H s:=⟨ok,I.os,I.bare,I.base,I.loc,I.cell,I.free,I.freeC,I.pin,I.hok,I.len⟩
end
section
variable {X:Cx}{CX:CXT}{k:Nat}{f C:Addr}{fd:FuncData}{ps:List Str}{sp:Sp}{dvs:List V}{ds:List Value}{Z:St->XK}{x m:Str}{p pos apos:Pos}{e o:Expr}{es:List Expr}{ta:TE}{t:TA}
def wK (sp:Sp)(dvs:List V)(Z:St->XK)(t:TA):TE:=fun σ H Q=>t σ H fun vs H1=>sp (vs++dvs) H1 Q (Z σ)
def lQ (CX:CXT)(X:Cx)(Z:St->XK):Prop:= ∀ (pins:List (Addr×Obj)) (σ:St) (H:Hp) (s:Shared) (e:Value) (s':Shared),Inv X pins σ H s->CX X.stack H s (Z σ) e s'->X.xe e s'
theorem om {pn:List (Addr×Obj)}:lQ (CXx X.prog X.w) (tryX X pn Z) Z:=fun pins σ H s e s' I h=>⟨pins,σ,H,s,⟨⟨I.ok.mod,I.ok.kind,I.ok.glob,I.ok.blt,I.ok.above,I.ok.inj,I.ok.has,I.ok.cab,I.ok.hd,I.ok.frames,I.ok.stk,I.ok.exf,I.ok.bs,I.ok.bsz,I.ok.noex,I.ok.exfs,I.ok.funs,I.ok.frf⟩,I.os,I.bare,I.base,I.loc,I.cell,I.free,I.freeC,I.pin,I.hok,I.len⟩,h⟩
theorem uv {pins:List (Addr×Obj)}{σ:St}{H:Hp}{s:Shared}{Q:VK}{us:List Value}{vs:List V}(F:FnOk X.prog X.w X.K X.mg X.base CX k f fd ps sp)(hr:Room k X.A)(hb:Binds X.K fd ps ds)(hd:Vals dvs ds)(hx:lQ CX X Z)
  (I:Inv X pins σ H s)(r:Vals vs us)(h:sp (vs++dvs) H Q (Z σ)):wpAny (model X.prog X.w) X.A (call (.ref f) us) (EP X pins σ Q) X.xe s:=by
 have r2:Vals (vs++dvs) (us++ds):=r.append hd
 have hl:(us++ds).length=ps.length:=by rw[<-r2.length];exact F.len _ _ _ _ h
 refine wpAny_call (codeAny_mono (F.run X.A X.stack s H ⟨us,[]⟩ (us++ds) (vs++dvs) Q (Z σ) hr I.env0 (hb s us I.kIn hl) r2 h) fun r s' hq=>?_)
 cases r with
 |error e=>exact hx pins σ H s e s' I hq
 |ok fl=>
  cases fl with
  |ret u=>exact I.after hq
  |next=>exact False.elim hq
  |brk=>exact False.elim hq
  |cont=>exact False.elim hq
theorem rS (F:FnOk X.prog X.w X.K X.mg X.base CX k f fd ps sp)(hr:Room k X.A)(hg:Gl X x)(hm:X.mg x=some (.ref f))(hk:keepIn X.K (.ref f)=true)(hb:Binds X.K fd ps ds)(hd:Vals dvs ds)(hx:lQ CX X Z)
  (ha:PA X (e::es) t)(hdb:(x==("__debug__":Str))=false:=by decide)(he:starEach (e::es) X.env=(false,eval e X.env)::starEach es X.env:=by rfl)(hpl:(backTo pos (starEach es X.env)).any (·.1)=false:=by rfl):
  PE X (.Call (.Name x p) (e::es) [] pos) (wK sp dvs Z t):=by
 intro pins s σ H Q I h
 refine wpAny_Call_Name_kw (fE I hg hm ?_ hdb)
 refine PySem.W.callWith_K (h₀:=X.base) I.ok.mod.kin hk (thn (ha pos pins s σ H _ I h) fun us s1 ⟨vs,H1,I1,r,q⟩=>⟨I1.kIn,?_⟩) he hpl
 exact uv F hr hb hd hx I1 r q
end
section
variable {X:Cx}{x:Str}{C:Value}{body suite:List Stmt}{b0:Stmt}{np hpos pos:Pos}{tb:(St->XK)->TS}{ts:TS}
end
section
variable {P:Program}{w:World}{K:PySem.W.Frag}{mg:Str->Option Value}{base:Heap}
theorem Fun.okX {x qual:Str}{st:Stmt}{f:Addr}{fd:FuncData}{N ps:List Str}{k:Nat}{sp:Sp}(F:Fun K x qual st f fd)(S:FnScope N ps (ae st))(len: ∀vs H Q E,sp vs H Q E->vs.length=ps.length)
  (hbody: ∀ (cdv:Value) (A:Around) (outer:List Env) (s:Shared) (H:Hp) (vs:List V) (Q:VK) (E:XK),Room k (A.deeper (envOfC qual (ae st) s.heap.objs.size f cdv))->sp vs H Q E->
   ∃t,PSs (cxOf (CXx P w) P w K mg base N qual (ae st) f cdv A outer s H E) (bb st) t/\t {nx:=fun _ H'=>Q .non H',rt:=Q} (start N vs) H):FnOk P w K mg base (CXx P w) (k+1) f fd ps sp:=by
 obtain⟨oc,od,kV,doc,pm,an,cdv,ct,osl,rfl,lk,hcd⟩:=F.ex
 exact wq lk hcd S len fun A outer s H vs Q E hr hsp=>hbody cdv A outer s H vs Q E hr hsp
end
end
section
section
variable {X:Cx}
end
end
section
section
variable {X:Cx}
end
section
variable {X:Cx}
end
end
end L2
namespace L2
open PySem PySem.Spec PyProof.Rows PySem.W
structure ExcK (K:PySem.W.Frag)(C:Addr):Prop where
 ga:findIn K (.ref C) "__getattribute__"=some (some (.builtin "BaseException.__getattribute__"))
 gn:findIn K (.ref C) "__getattr__"=some none
 cl:findIn K (.ref C) "__class__"=some (some (.builtin "object.__class__"))
 sb:subIn K (.ref C) (.type "BaseException")=some true
 so:subIn K (.ref C) (.type "object")=some true
 ic:(clsIn K C).isSome=true
section
variable {prog:Program}{w:World}{A:Around}{E:Value->Shared->Prop}{h:Heap}{g:Array GenState}{d:Drawn}{t:Nat}{os:OsState}{a C:Addr}{o:Obj}{K:PySem.W.Frag}
theorem jW {R:Result->Shared->Prop}(X:K.In h)(T:ExcK K C)(hx:h.get? a=some o)(hc:o.cls=.ref C)(hq:R (.ok (.ret (.ref C))) ⟨h,g,d,t,os⟩):
  codeAny (model prog w) A (.call (.builtin "getset_descriptor.__get__") ⟨[.builtin "object.__class__",.ref a,.ref C],[]⟩) R ⟨h,g,d,t,os⟩:=by
 have hT5:(⟨h,g,d,t,os⟩:Shared).TypeIs (.builtin "object.__class__") "getset_descriptor":=F.typeOf_object_class
 have f8: ∀M:Model,Looks M h (isSubtype (.ref C) (.type (".".intercalate ("object.__class__".cutAt '.').dropLast))) true:=fun M=>by rw[F.owner_object_class];exact looks_subIn X T.so
 refine codeAny_call_builtin F.slot_gs_get.plain F.entry_gs_get (F.slot_gs_get.check _ _ _ _ _ _ _ _ hT5 (F.args_gs_get _ _ _) ?_)
 repeat (any_goals (first|assumption|(with_reducible refine wpAny_loadPart_at hx ?_;rw[hc])|with_reducible refine (f8 _).at ?_|wp_step))
 refine⟨Code.quiet_builtin _ (by decide+kernel),codeAny_builtin F.entry_object_class ?_⟩
 repeat (any_goals (first|assumption|(with_reducible refine wpAny_loadPart_at hx ?_;rw[hc])|wp_step))
theorem iR {tk:Tok}{Q:Fin->Shared->Prop}(X:K.In h)(T:ExcK K C)(hx:h.get? a=some o)(hc:o.cls=.ref C)(hq:Q (.done (.ret (.ref C))) ⟨h,g,d,t,os⟩):
  wpAny (model prog w) A (Builtin.«object.__getattribute__» ⟨[.ref a,.str "__class__" tk],[]⟩) Q E ⟨h,g,d,t,os⟩:=by
 have hT5:(⟨h,g,d,t,os⟩:Shared).TypeIs (.builtin "object.__class__") "getset_descriptor":=F.typeOf_object_class
 have f4: ∀M:Model,Looks M h (typeLookup (.ref C) "__class__") (some (.builtin "object.__class__")):=fun M=>looks_findIn X T.cl
 have f5:=F.typeOf_object_class
 have f6:=F.slot_gs_get.lookup
 have f7:=F.slot_gs_set.lookup
 repeat (any_goals (first|assumption|(with_reducible refine wpAny_loadPart_at hx ?_;rw[hc])|with_reducible refine (f4 _).at ?_|wp_step))
 refine jW X T hx hc ?_
 repeat (any_goals (first|assumption|wp_step))
theorem lD {M:Model}{nameV:Value}{Q:Unit->Shared->Prop}(X:K.In h)(T:ExcK K C)(hx:h.get? a=some o)(hc:o.cls=.ref C)(hq:Q () ⟨h,g,d,t,os⟩):wpAny M A (checkBuiltinCall "BaseException.__getattribute__" ⟨[.ref a,nameV],[]⟩) Q E ⟨h,g,d,t,os⟩:=by
 have hk:builtinKind "BaseException.__getattribute__"=some .slot:=by decide+kernel
 have hsplit:splitId "BaseException.__getattribute__"=some ("BaseException", "__getattribute__"):=by decide+kernel
 have f8: ∀M:Model,Looks M h (isSubtype (.ref C) (.type "BaseException")) true:=fun M=>looks_subIn X T.sb
 have ha:=F.args_bexc_ga (.ref a) nameV
 simp only[checkBuiltinCall,hk,hsplit]
 refine wpAny_bind ?_
 ·unfold isInstance
  repeat (first|(with_reducible refine wpAny_loadPart_at hx ?_;rw[hc])|with_reducible refine (f8 _).at ?_|wp_step)
  exact hq
theorem jJ {tk:Tok}{R:Result->Shared->Prop}(X:K.In h)(T:ExcK K C)(hx:h.get? a=some o)(hc:o.cls=.ref C)(hq:R (.ok (.ret (.ref C))) ⟨h,g,d,t,os⟩):
  codeAny (model prog w) A (.call (.builtin "BaseException.__getattribute__") ⟨[.ref a,.str "__class__" tk],[]⟩) R ⟨h,g,d,t,os⟩:=
 codeAny_call_builtin (by decide+kernel) F.entry_bexc_ga (lD X T hx hc (iR X T hx hc hq))
theorem lC {tk:Tok}{Q:Value->Shared->Prop}(X:K.In h)(T:ExcK K C)(hx:h.get? a=some o)(hc:o.cls=.ref C)(hq:Q (.ref C) ⟨h,g,d,t,os⟩):
  wpAny (model prog w) A (getAttrBy (.ref a) (.str "__class__" tk) false) Q E ⟨h,g,d,t,os⟩:=by
 have f3:=F.attrBase_ValueError.ga.bind (.ref a)
 have hx2:(Value.builtin "BaseException.__getattribute__"==Value.builtin "object.__getattribute__")=false:=by decide+kernel
 have hx1:(onTheHeap (Value.ref C) && Value.builtin "BaseException.__getattribute__"==Value.builtin "object.__getattribute__")=false:=by rw[hx2];rfl
 have f4: ∀M:Model,Looks M h (typeLookup (.ref C) "__getattribute__") (some (.builtin "BaseException.__getattribute__")):=fun M=>looks_findIn X T.ga
 have f5: ∀M:Model,Looks M h (typeLookup (.ref C) "__getattr__") none:=fun M=>looks_findIn X T.gn
 repeat (any_goals (first|assumption|(with_reducible refine wpAny_loadPart_at hx ?_;rw[hc])|with_reducible refine (f4 _).at ?_|with_reducible refine (f5 _).at ?_|wp_step))
 refine jJ X T hx hc ?_
 repeat (any_goals (first|assumption|wp_step))
theorem jK {Q:Option Value->Shared->Prop}(X:K.In h)(T:ExcK K C)(hx:h.get? a=some o)(hc:o.cls=.ref C)(hq:Q (some (.ref C)) ⟨h,g,d,t+1,os⟩):wpAny (model prog w) A (getAttr? (.ref a) "__class__") Q E ⟨h,g,d,t,os⟩:=by
 unfold getAttr? getAttrBy?
 repeat (any_goals (first|assumption|with_reducible apply lC X T hx hc|wp_step))
theorem sP (T:ExcK K C):KitX K (.ref a) (.ref C) (fun h=> ∃o,h.get? a=some o/\o.cls=.ref C) where
 ty:=fun _ _ _ ⟨o,h1,h2⟩=>h2▸(Looks.ld h1).andThen .now
 it:=fun _ _ X _=>by
  have hcD:=T.ic
  unfold clsIn at hcD
  split at hcD
  ·rename_i c' d' cd' sl' ho
   intro A' Q' E' s' k q
   unfold isType loadHead
   exact wpAny_bind (wpAny_loadPart (k _ _ (X _ _ ho)) (wpAny_pure q))
  ·cases hcD
 ne:=fun h tp dd its n sl X htp=>by
  have hcD:=T.ic
  refine Bool.eq_false_iff.mpr fun q=>?_
  have e:C=tp:=Value.ref.inj (beq_iff_eq.mp q)
  subst e
  unfold clsIn at hcD
  split at hcD
  ·rename_i c' d' cd' sl' ho
   have z:=(X _ _ ho).symm.trans htp
   cases z
  ·cases hcD
 ca:=fun{_ _ _ _ _ s} X ⟨o,h1,h2⟩ k=>by
  obtain⟨h,g,d,t,os⟩:=s
  exact jK X T h1 h2 k
end
section
variable {X:Cx}
theorem lJ:CallR X (.builtin "isinstance") (fun xs H Q=> ∃ (a C:Addr) (c:V) (cv:Value) (b:Bool),xs=[.ref a,c]/\RelV c cv/\H a=some (excO a (.ref C))/\ExcK X.K C/\kitOne X.K (.ref C) cv=some b/\Q (.bl b) H):=by
 intro pins s σ H xs us Q I r h
 obtain⟨a,C,c,cv,b,rfl,rc,ha,T,e,q⟩:=h
 obtain⟨u,u',rfl,ru,ru'⟩:=vals2 r
 cases ru
 have:u'=cv:=by
  cases c with
  |ref a=>cases rc;cases ru';rfl
  |ty n=>cases rc;cases ru';rfl
  |non=>cases rc;cases ru';rfl
  |bl _=>cases rc;cases ru';rfl
  |int _=>obtain⟨t1,rfl⟩:=rc;exact absurd e (by simp [kitOne,PySem.W.kitCls])
  |str _=>obtain⟨t1,rfl⟩:=rc;exact absurd e (by simp [kitOne,PySem.W.kitCls])
  |byt _=>obtain⟨t1,rfl⟩:=rc;exact absurd e (by simp [kitOne,PySem.W.kitCls])
  |flt _=>obtain⟨t1,rfl⟩:=rc;exact absurd e (by simp [kitOne,PySem.W.kitCls])
 subst this
 obtain⟨⟨o,vs,h1,h2,_⟩,_⟩:=I.hok a _ ha
 exact PySem.W.kia_one (sP T) I.kIn ⟨o,h1,h2⟩ e (fun z=>nomatch z) fun tk=>⟨.bl b,H,I.tok tk,rfl,q⟩
end
section
section
variable {X:Cx}{pins:List (Addr×Obj)}{σ:St}{H:Hp}{s:Shared}
theorem i5 {M:Model}{A:Around}{E:Value->Shared->Prop}{i:Nat}{x:Str}{pos:Pos}{Q:Unit->Shared->Prop}(I:Inv X pins σ H s)(hN:X.N.Nodup)(hi:X.N[i]?=some x)(hk:X.env.kindOf x=some .local)
  (h:∀s',Inv X pins (σ.set i none) H s'->Q () s'):wpAny M A (do bindName X.env x .none;unbindBehindTheSuite X.env x pos) Q E s:=by
 obtain⟨m,hn,hl⟩:=id I.loc
 have hcls:(X.env.scope.kind==.class||(X.env.scope.kind==.module && X.env.locals !=X.env.globals))=false:=by rw[I.ok.kind];rfl
 have cne:=I.cne
 have hiσ:i<σ.length:=by rw[I.len];exact (List.getElem?_eq_some_iff.mp hi).1
 have tracked: ∀ {a:Addr}{h':Heap},(∃o,s.heap.get? a=some o/\H a=none)->Heap.SameBut a s.heap h'->HOk X.prog X.w H h':=fun{a h'} ha hs b ob e=>by
  obtain⟨_,_,hfree⟩:=ha
  refine (I.hok b ob e).stay (fun c w' hc q=>(hs.2 c ?_).trans q) (fun _ q=>q) fun _ _ q=>q
  rintro rfl
  rcases hc with rfl|hc
  ·rw[hfree] at e;cases e
  ·rw[hfree] at hc;cases hc
 refine wpAny_nameGoes_keeps hk hn hcls fun h' v hn' hs=>?_
 obtain⟨oL,_,_,hoL,_⟩:=id hn
 refine h _ ⟨I.ok,I.os,I.bare,⟨fun b o e n hb hx=>?_,fun b o e n hb hx=>?_,I.base.free,fun b o e hx=>?_,I.base.tups,I.base.frzs,I.base.tbls⟩,⟨_,hn',fun j y v' e1 e2 e3=>?_⟩,fun y c e=>?_,I.free,I.freeC,fun p hp=>?_,tracked ⟨oL,hoL,I.free⟩ hs,by simpa using I.len⟩
 ·exact (hs.2 b (Nat.ne_of_lt (Nat.lt_of_lt_of_le (Heap.lt_size e) I.ok.above))).trans (I.base.keep b o e n hb hx)
 ·obtain⟨sl,e1⟩:=I.base.slot b o e n hb hx
  exact⟨sl,(hs.2 b (Nat.ne_of_lt (Nat.lt_of_lt_of_le (Heap.lt_size e) I.ok.above))).trans e1⟩
 ·obtain⟨o',e1⟩:=I.base.there b o e hx
  exact⟨o',(hs.2 b (Nat.ne_of_lt (Nat.lt_of_lt_of_le (Heap.lt_size e) I.ok.above))).trans e1⟩
 ·by_cases hj:j=i
  ·subst hj
   rw[List.getElem?_set_self hiσ] at e2
   cases e2
  ·rw[List.getElem?_set_ne (Ne.symm hj)] at e2
   obtain⟨u',r',q⟩:=hl j y v' e1 e2 e3
   refine⟨u',r',?_⟩
   rcases q with⟨k,e⟩|⟨k,c,e,z⟩
   ·refine .inl ⟨k,?_⟩
    have:y≠x:=fun e=>hj (jx hN e1 (e▸hi))
    simp [this,e]
   ·exact .inr ⟨k,c,e,z.sameBut hs (cne y c e)⟩
 ·obtain⟨w',z⟩:=I.cell y c e
  exact⟨w',z.sameBut hs (cne y c e)⟩
 ·obtain⟨e,n,ne,nf,d⟩:=I.pin p hp
  exact⟨(hs.2 p.1 ne).trans e,n,ne,nf,d⟩
end
def wA (K:PySem.W.Frag)(C:Value)(i:Nat)(tb:(St->XK)->TS)(ts:TS):TS:=fun D σ H=>
 tb (fun σ' cls _ H'=>PySem.W.exmOne K cls C=some true/\ ∀ea,H' ea=none->ts {nx:=fun σ2 H2=>D.nx (σ2.set i none) H2,rt:=D.rt,bk:=fun σ2 H2=>D.bk (σ2.set i none) H2,ct:=fun σ2 H2=>D.ct (σ2.set i none) H2} (σ'.set i (some (.ref ea))) (upd H' ea (excO ea cls))) D σ H
section
variable {X:Cx}{x n:Str}{C:Value}{body suite:List Stmt}{b0:Stmt}{np hpos pos:Pos}{tb:(St->XK)->TS}{ts:TS}{i:Nat}
theorem rK (D:InDef X)(hg:Gl X x)(hm:X.mg x=some C)(hN:X.N.Nodup)(hi:X.N[i]?=some n)(hk:X.env.kindOf n=some .local)(hb: ∀pn Z,PSs (tryX X pn Z) body (tb Z))(hs: ∀ea,PSs (gm X ea) (b0::suite) ts)(hd:(x==("__debug__":Str))=false:=by decide):
  PS X (.Try body [.ExceptHandler (some (.Name x np)) (some n) (b0::suite) hpos] [] [] pos) (wA X.K C i tb ts):=by
 intro pins s σ H DD I h
 refine wpAny_Try_except (wpAny_mono (hb (X.pn++pins) _ [] s σ H DD I.toPn h) (fun f s1 q=>?_) fun e s1 q=>?_)
 ·cases f with
  |next=>obtain⟨σ',H',J,q⟩:=q;exact wpAny_execs_nil ⟨σ',H',J.ofPn I.ok,q⟩
  |brk=>obtain⟨σ',H',J,q⟩:=q;exact⟨σ',H',J.ofPn I.ok,q⟩
  |cont=>obtain⟨σ',H',J,q⟩:=q;exact⟨σ',H',J.ofPn I.ok,q⟩
  |ret u=>obtain⟨v,σ',H',J,r,q⟩:=q;exact⟨v,σ',H',J.ofPn I.ok,r,q⟩
 ·obtain⟨pins',σ1,H1,s0,J0,hc⟩:=q
  have J:Inv X pins σ1 H1 s0:=J0.ofPn (xe:=X.xe) I.ok
  obtain⟨ea,cls,a0,H2,B,rfl,os,bare,un,hok,fly,cov,new,hn,hx,hE⟩:=hc
  have frm:=J.ok.frames
  have fly':=fly
  rw[D.stk] at frm fly'
  refine wpAny_looks_onW frm D.fr fly' fun h4 held4 up4=>?_
  refine wpAny_landsW held4 fun h5 fl5' up5=>?_
  have fl5:Heap.FlyingW B X.stack ea cls a0 h5:=by rw[D.stk];exact fl5'
  have L5:=sO J os bare un hok fly cov new hn fl5 (up4.trans up5)
  have L5s:=L5.toSuite (ea:=ea)
  obtain⟨oe,vs,e1,e2,e3,_⟩:=fl5.first
  have LT:PySem.W.Looks (model X.prog X.w) h5 (typeOf (.ref ea)) cls:=e2▸(PySem.W.Looks.ld e1).andThen .now
  refine wpAny_handleBy_cons (codeAny_handlers_test (fE (X:=gm X ea) L5s hg hm ?_ hd)) (by intro q;cases q)
  refine (PySem.W.exm_one L5.kIn LT hx).here ?_
  refine codeAny_handlers_suite_as ?_
  refine lands_againW fl5 fun h6 fl6 up6=>?_
  have L6:=sO J os bare un hok fly cov new hn fl6 ((up4.trans up5).trans up6)
  refine i9 (X:=gm X ea) (v:=.ref ea) L6.toSuite hN hi (.inl hk) rfl (fun s6 I6=>?_) (.inr hk)
  refine wpAny_mono (hs ea pins s6 (σ1.set i (some (.ref ea))) _ {nx:=fun σ2 H2=>DD.nx (σ2.set i none) H2,rt:=DD.rt,bk:=fun σ2 H2=>DD.bk (σ2.set i none) H2,ct:=fun σ2 H2=>DD.ct (σ2.set i none) H2} I6 (hE ea hn)) (fun f s7 q=>?_) (fun _ _ z=>z.elim)
  cases f with
  |next=>obtain⟨σ',H',J',q⟩:=q;exact i5 (J'.ofSuite I.ok) hN hi hk fun s8 J8=>⟨_,H',J8,q⟩
  |brk=>obtain⟨σ',H',J',q⟩:=q;exact i5 (J'.ofSuite I.ok) hN hi hk fun s8 J8=>⟨_,H',J8,q⟩
  |cont=>obtain⟨σ',H',J',q⟩:=q;exact i5 (J'.ofSuite I.ok) hN hi hk fun s8 J8=>⟨_,H',J8,q⟩
  |ret u=>obtain⟨v,σ',H',J',r,q⟩:=q;exact i5 (J'.ofSuite I.ok) hN hi hk fun s8 J8=>⟨v,_,H',J8,r,q⟩
end
end
end L2
namespace L2
open PySem PySem.Spec PyProof.Rows
theorem oU: ∀ {ts:List Str}{us:List Value},Vals (ts.map V.str) us-> ∃l:List (Str×Tok),us=strValues l/\l.map (·.1)=ts
 |[],_,.nil=>⟨[],rfl,rfl⟩
 |t::ts,_,.cons h r=>by
  obtain⟨k,rfl⟩:=h
  obtain⟨l,e,e2⟩:=oU r
  exact⟨(t,k)::l,by rw[e];rfl,by rw[<-e2];rfl⟩
theorem p3 (a b:Str):(a++b).length=a.length+b.length:=by
 show (a.cps++b.cps).size=_
 rw[Array.size_append];rfl
theorem jC (sep:Str): ∀ (ts:List Str),(Str.join sep ts).length<=(ts.map (·.length)).sum+ts.length * sep.length
 |[]=>Nat.zero_le _
 |[x]=>by
  show x.length<=_
  simp
 |x::y::r=>by
  show (x++sep++Str.join sep (y::r)).length<=_
  have ih:=jC sep (y::r)
  rw[p3,p3,List.map_cons,List.sum_cons,List.length_cons]
  have:((y::r).length+1) * sep.length=(y::r).length * sep.length+sep.length:=by rw[Nat.succ_mul]
  omega
section
variable {X:Cx}
def rJoin (K:PySem.W.Frag):V->List V->Hp->VK->Prop:=fun x vs H Q=> ∃ (sep:Str) (p:Addr) (ts:List Str),x=.str sep/\vs=[.ref p]/\SqL K H p (ts.map V.str)/\(ts.map (·.length)).sum+ts.length * sep.length<=sizeLine/\Q (.str (Str.join sep ts)) H
theorem uX:MtM X "str.join" (rJoin X.K):=by
 intro pins s σ H x vs v us Q I rx rv h
 obtain⟨sep,p,ts,rfl,rfl,hq,hz,q⟩:=h
 obtain⟨t,rfl⟩:=rx
 obtain⟨u,rfl,ru⟩:=rv.one
 cases ru
 obtain⟨its,r,pl,_⟩:=I.list hq
 obtain⟨l,rfl,rfl⟩:=oU r
 refine call_meets F.slot_str_join (typeIs_str s sep t) F.entry_str_join (F.args_str_join_2 _ _) (meets_str_join_list sep t p l (by
  rw[StrLaws.joinTotal]
  unfold Builtin.Str.tooLong
  exact decide_eq_false (by omega))) ⟨pl.isList,?_⟩
 cases l with
 |nil=>exact⟨by rw[StrLaws.glued_eq_join];exact Nat.le_trans (jC sep _) hz,.str _,H,I.tok _,⟨_,by rw[StrLaws.glued_eq_join]⟩,q⟩
 |cons a l=>
  cases l with
  |nil=>exact⟨.str a.1,H,I,⟨a.2,rfl⟩,q⟩
  |cons b l=>exact⟨by rw[StrLaws.glued_eq_join];exact Nat.le_trans (jC sep _) hz,.str _,H,I.tok _,⟨_,by rw[StrLaws.glued_eq_join]⟩,q⟩
end
section
variable {X:Cx}
end
end L2
namespace L2
open PySem
theorem xo {P:Program}{w:World}{X:Cx}:bH (CXx P w) X (fun _ _ _=>False):=fun pins σ H s e s' I h=>by
 obtain⟨_,_,_,_,_,_,_,_,_,_,_,_,_,_,z⟩:=h
 exact z.elim
end L2
namespace L2
open PySem PySem.Spec PyProof.Rows
open Sem (wp)
open Builtin
section
variable {prog:Program}{w:World}{A:Around}{E:Value->Shared->Prop}{s:Shared}
end
section
variable {prog:Program}{w:World}{A:Around}{E:Value->Shared->Prop}{s:Shared}
end
section
variable {X:Cx}
end
section
open Sem (wp)
open Builtin
noncomputable def SeqAt (h:Heap)(T:String)(l:Addr)(its:Array Value):Prop:=(T= "list_iterator"/\h.IsList l its)\/(T= "tuple_iterator"/\h.IsTuple l its)
section
variable {prog:Program}{w:World}{A:Around}{E:Value->Shared->Prop}{s:Shared}
end
section
variable {prog:Program}{w:World}{A:Around}{E:Value->Shared->Prop}{s:Shared}
end
end
section
section
variable {X:Cx}{pins:List (Addr×Obj)}{σ:St}{H:Hp}{s:Shared}{a:Addr}{xs ys:List V}{k:Bool}
end
section
variable {X:Cx}
end
end
section
open Builtin
section
variable {prog:Program}{w:World}{A:Around}{E:Value->Shared->Prop}
end
section
variable {X:Cx}
end
end
section
section
variable {X:Cx}
variable {o e:Expr}{es:List Expr}{to:TE}{t:TA}{name:Str}{apos cpos:Pos}{id:String}{r:V->List V->Hp->VK->Prop}
end
end
section
section
variable {X:Cx}
end
end
section
inductive W where
 |ty (n:String)|exc (c:Str)|cls (c:Str)|non|bl (b:Bool)|int (i:Int)|str (x:Str)
 |tup (l:List W)|tl (l:List W)|cl (l:List W)|dv (ks:List Key)(ws:List W)|dn (b:Bool)(ks:List PKy)(ws:List W)|kt (ks:List Key)|loc (k:Nat)
inductive Ob where
 |lst (l:List W)|dic (ks:List Key)(ws:List W)|dit (ks:List (List Key))(ws:List W)|din (b:Bool)(ks:List PKy)(ws:List W)|ins (c:Str)(ns:List Str)(ws:List W)|gone
structure Wo where
 mu:Nat->Addr
 h:List Ob
 H:Hp
noncomputable def Lv (o:Wo)(a:Addr):Prop:= ∃k b,o.h[k]?=some b/\b≠.gone/\o.mu k=a
def FrL (K:PySem.W.Frag)(a:Addr)(xs:List V):Prop:= ∃ (o:Obj) (its:Array Value) (n:Nat),K.lookup a=some o/\o.cls=.type "list"/\o.dict=none/\o.data=.seq its n/\its.size<=sizeLine/\Vals xs its.toList
def KeyN (K:PySem.W.Frag)(H:Hp)(b:Bool)(c:Addr)(k:PKy):Prop:= ∃d,SqT K H c (match b with
 |false=>[.int k.1,.ref d]
 |true=>[.ref d,.int k.1])/\SqT K H d (k.2.map V.int)
mutual
def Rv (K:PySem.W.Frag)(o:Wo):W->V->Prop
 |.ty n,v=>v=.ty n
 |.exc c,v=> ∃a C,v=.ref a/\nsIn K mainGlobals c=some (some (.ref C))/\o.H a=some (excO a (.ref C))
 |.cls c,v=> ∃C,v=.ref C/\nsIn K mainGlobals c=some (some (.ref C))
 |.non,v=>v=.non
 |.bl b,v=>v=.bl b
 |.int i,v=>v=.int i
 |.str x,v=>v=.str x
 |.tup l,v=> ∃a vs,v=.ref a/\SqT K o.H a vs/\Rvs K o l vs
 |.tl l,v=> ∃a vs,v=.ref a/\o.H a=some (.lst vs)/\ ¬Lv o a/\Rvs K o l vs
 |.cl l,v=> ∃a vs,v=.ref a/\((Rd o.H a (.lst vs)/\ ¬Lv o a)\/FrL K a vs)/\Rvs K o l vs
 |.dv ks ws,v=> ∃a kvs,v=.ref a/\Rd o.H a (.dK kvs)/\ ¬Lv o a/\kvs.map (·.1)=ks/\Rvs K o ws (kvs.map (·.2))
 |.dn b ks ws,v=> ∃a,∃xs:List (PKy×Addr×V)×Nat,v=.ref a/\o.H a=some (.dN b xs.1 xs.2)/\ ¬Lv o a/\xs.1.map (·.1)=ks/\(∀x∈xs.1,KeyN K o.H b x.2.1 x.1)/\Rvs K o ws (xs.1.map (·.2.2))
 |.kt ks,v=> ∃a,v=.ref a/\o.H a=some (.tup (ks.map kV))
 |.loc k,v=>k<o.h.length/\v=.ref (o.mu k)
def Rvs (K:PySem.W.Frag)(o:Wo):List W->List V->Prop
 |[],vs=>vs=[]
 |w::l,vs=> ∃v r,vs=v::r/\Rv K o w v/\Rvs K o l r
end
def Ro (K:PySem.W.Frag)(o:Wo)(a:Addr):Ob->Prop
 |.lst l=> ∃vs,o.H a=some (.lst vs)/\Rvs K o l vs
 |.dic ks ws=> ∃kvs,o.H a=some (.dK kvs)/\kvs.map (·.1)=ks/\Rvs K o ws (kvs.map (·.2))
 |.dit ks ws=> ∃kvs,o.H a=some (.dT kvs)/\kvs.map (·.1)=ks/\Rvs K o ws (kvs.map (·.2))
 |.din b ks ws=> ∃xs:List (PKy×Addr×V)×Nat,o.H a=some (.dN b xs.1 xs.2)/\xs.1.map (·.1)=ks/\(∀x∈xs.1,KeyN K o.H b x.2.1 x.1)/\Rvs K o ws (xs.1.map (·.2.2))
 |.ins c ns ws=> ∃C dx fs,nsIn K mainGlobals c=some (some (.ref C))/\o.H a=some (.ins C dx fs)/\fs.map (·.1)=ns/\Rvs K o ws (fs.map (·.2))
 |.gone=>True
structure Rel (K:PySem.W.Frag)(o:Wo):Prop where
 ob: ∀k b,o.h[k]?=some b->Ro K o (o.mu k) b
 inj: ∀j k b c,o.h[j]?=some b->o.h[k]?=some c->b≠.gone->c≠.gone->o.mu j=o.mu k->j=k
structure Ex (o p:Wo):Prop where
 le:o.h.length<=p.h.length
 mu: ∀k,k<o.h.length->p.mu k=o.mu k
 fr: ∀a u,o.H a=some u-> ¬Lv o a->p.H a=some u/\ ¬Lv p a
theorem Ex.refl (o:Wo):Ex o o:=⟨Nat.le_refl _,fun _ _=>rfl,fun _ _ h n=>⟨h,n⟩⟩
theorem Ex.trans {o p q:Wo}(a:Ex o p)(b:Ex p q):Ex o q:=⟨Nat.le_trans a.le b.le,fun k h=>(b.mu k (Nat.lt_of_lt_of_le h a.le)).trans (a.mu k h),fun c u h n=>let ⟨h1,n1⟩:=a.fr c u h n;b.fr c u h1 n1⟩
section
variable {K:PySem.W.Frag}{o p:Wo}
theorem Lv.kind (R:Rel K o){a:Addr}(h:Lv o a):(∃vs,o.H a=some (.lst vs))\/(∃kvs,o.H a=some (.dK kvs))\/(∃C dx fs,o.H a=some (.ins C dx fs))\/(∃kvs,o.H a=some (.dT kvs))\/ ∃b,∃xs:List (PKy×Addr×V)×Nat,o.H a=some (.dN b xs.1 xs.2):=by
 obtain⟨k,b,hk,hb,rfl⟩:=h
 have q:=R.ob k b hk
 cases b with
 |lst l=>exact .inl (let ⟨vs,e,_⟩:=q;⟨vs,e⟩)
 |dic ks ws=>exact .inr (.inl (let ⟨vs,e,_⟩:=q;⟨vs,e⟩))
 |ins c ns ws=>exact .inr (.inr (.inl (let ⟨C,dx,fs,_,e,_⟩:=q;⟨C,dx,fs,e⟩)))
 |dit ks ws=>exact .inr (.inr (.inr (.inl (let ⟨vs,e,_⟩:=q;⟨vs,e⟩))))
 |din b ks ws=>exact .inr (.inr (.inr (.inr (let ⟨vs,e,_⟩:=q;⟨b,vs,e⟩))))
 |gone=>exact absurd rfl hb
theorem Ex.keep (X:Ex o p)(R:Rel K o){a:Addr}{u:HO}(h:o.H a=some u)(n1: ∀vs,u≠.lst vs)(n2: ∀kvs,u≠.dK kvs)(n3: ∀C dx fs,u≠.ins C dx fs)(n4: ∀kvs,u≠.dT kvs)(n5: ∀b (xs:List (PKy×Addr×V)×Nat),u≠.dN b xs.1 xs.2):p.H a=some u:=by
 refine (X.fr a u h fun l=>?_).1
 rcases l.kind R with⟨vs,e⟩|⟨vs,e⟩|⟨C,dx,fs,e⟩|⟨vs,e⟩|⟨b,vs,e⟩
 ·rw[h] at e;exact n1 vs (Option.some.inj e)
 ·rw[h] at e;exact n2 vs (Option.some.inj e)
 ·rw[h] at e;exact n3 C dx fs (Option.some.inj e)
 ·rw[h] at e;exact n4 vs (Option.some.inj e)
 ·rw[h] at e;exact n5 b vs (Option.some.inj e)
theorem Ex.rdT (X:Ex o p)(R:Rel K o){a:Addr}{vs:List V}(h:SqT K o.H a vs):SqT K p.H a vs:=by
 rcases h with (h|⟨ob,h⟩)|h
 ·exact .inl (.inl (X.keep R h (fun _ z=>nomatch z) (fun _ z=>nomatch z) (fun _ _ _ z=>nomatch z) (fun _ z=>nomatch z) fun _ _ z=>nomatch z))
 ·exact .inl (.inr ⟨ob,X.keep R h (fun _ z=>nomatch z) (fun _ z=>nomatch z) (fun _ _ _ z=>nomatch z) (fun _ z=>nomatch z) fun _ _ z=>nomatch z⟩)
 ·exact .inr h
theorem KeyN.mono (X:Ex o p)(R:Rel K o){b:Bool}{c:Addr}{k:PKy}(h:KeyN K o.H b c k):KeyN K p.H b c k:=by
 obtain⟨d,h1,h2⟩:=h
 exact⟨d,X.rdT R h1,X.rdT R h2⟩
theorem Ex.rd (X:Ex o p){a:Addr}{u:HO}(h:Rd o.H a u)(n:¬Lv o a):Rd p.H a u/\ ¬Lv p a:=by
 rcases h with h|⟨ob,h⟩
 ·exact⟨.inl (X.fr a _ h n).1,(X.fr a _ h n).2⟩
 ·exact⟨.inr ⟨ob,(X.fr a _ h n).1⟩,(X.fr a _ h n).2⟩
mutual
theorem Rv.mono (R:Rel K o)(X:Ex o p): ∀ (w:W) (v:V),Rv K o w v->Rv K p w v
 |.ty n,v,h=>h
 |.exc c,v,h=>by
  unfold Rv at h ⊢
  obtain⟨a,C,e,h1,h2⟩:=h
  exact⟨a,C,e,h1,X.keep R h2 (fun _ z=>nomatch z) (fun _ z=>nomatch z) (fun _ _ _ z=>nomatch z) (fun _ z=>nomatch z) fun _ _ z=>nomatch z⟩
 |.cls c,v,h=>by
  unfold Rv at h ⊢
  exact h
 |.non,v,h=>h
 |.bl b,v,h=>h
 |.int i,v,h=>h
 |.str x,v,h=>h
 |.tup l,v,h=>by
  unfold Rv at h ⊢
  obtain⟨a,vs,e,h1,h2⟩:=h
  exact⟨a,vs,e,X.rdT R h1,Rvs.mono R X l vs h2⟩
 |.tl l,v,h=>by
  unfold Rv at h ⊢
  obtain⟨a,vs,e,h1,n,h2⟩:=h
  exact⟨a,vs,e,(X.fr a _ h1 n).1,(X.fr a _ h1 n).2,Rvs.mono R X l vs h2⟩
 |.cl l,v,h=>by
  unfold Rv at h ⊢
  obtain⟨a,vs,e,h1,h2⟩:=h
  refine⟨a,vs,e,?_,Rvs.mono R X l vs h2⟩
  rcases h1 with⟨h1,n⟩|h1
  ·exact .inl (X.rd h1 n)
  ·exact .inr h1
 |.dv ks ws,v,h=>by
  unfold Rv at h ⊢
  obtain⟨a,vs,e,h1,n,h2,h3⟩:=h
  exact⟨a,vs,e,(X.rd h1 n).1,(X.rd h1 n).2,h2,Rvs.mono R X ws _ h3⟩
 |.dn b ks ws,v,h=>by
  unfold Rv at h ⊢
  obtain⟨a,xs,e,h1,n,h2,hn,h3⟩:=h
  exact⟨a,xs,e,(X.fr a _ h1 n).1,(X.fr a _ h1 n).2,h2,fun x hx=>(hn x hx).mono X R,Rvs.mono R X ws _ h3⟩
 |.kt ks,v,h=>by
  unfold Rv at h ⊢
  obtain⟨a,e,h⟩:=h
  exact⟨a,e,X.keep R h (fun _ z=>nomatch z) (fun _ z=>nomatch z) (fun _ _ _ z=>nomatch z) (fun _ z=>nomatch z) fun _ _ z=>nomatch z⟩
 |.loc k,v,h=>by
  unfold Rv at h ⊢
  exact⟨Nat.lt_of_lt_of_le h.1 X.le,by rw[X.mu k h.1];exact h.2⟩
theorem Rvs.mono (R:Rel K o)(X:Ex o p): ∀ (l:List W) (vs:List V),Rvs K o l vs->Rvs K p l vs
 |[],vs,h=>h
 |w::l,vs,h=>by
  unfold Rvs at h ⊢
  obtain⟨v,r,e,h1,h2⟩:=h
  exact⟨v,r,e,Rv.mono R X w v h1,Rvs.mono R X l r h2⟩
end
theorem Rel.keep (R:Rel K o)(X:Ex o p)(e1:p.h=o.h)(e2:p.mu=o.mu)(e3: ∀k b,o.h[k]?=some b->b≠.gone->p.H (o.mu k)=o.H (o.mu k)):Rel K p:=by
 refine⟨fun k b hk=>?_,fun j k b c h1 h2=>?_⟩
 ·rw[e1] at hk
  rw[e2]
  have q:=R.ob k b hk
  cases b with
  |lst l=>obtain⟨vs,h1,h2⟩:=q;exact⟨vs,by rw[e3 k _ hk (by simp)];exact h1,h2.mono R X⟩
  |dic ks ws=>obtain⟨vs,h1,h2,h3⟩:=q;exact⟨vs,by rw[e3 k _ hk (by simp)];exact h1,h2,h3.mono R X⟩
  |dit ks ws=>obtain⟨vs,h1,h2,h3⟩:=q;exact⟨vs,by rw[e3 k _ hk (by simp)];exact h1,h2,h3.mono R X⟩
  |din b ks ws=>obtain⟨vs,h1,h2,hn,h3⟩:=q;exact⟨vs,by rw[e3 k _ hk (by simp)];exact h1,h2,fun x hx=>(hn x hx).mono X R,h3.mono R X⟩
  |ins c ns ws=>obtain⟨C,dx,fs,h0,h1,h2,h3⟩:=q;exact⟨C,dx,fs,h0,by rw[e3 k _ hk (by simp)];exact h1,h2,h3.mono R X⟩
  |gone=>trivial
 ·rw[e1] at h1 h2
  rw[e2]
  exact R.inj j k b c h1 h2
theorem Lv.there (R:Rel K o){a:Addr}(h:Lv o a):o.H a≠none:=by
 rcases h.kind R with⟨vs,e⟩|⟨vs,e⟩|⟨C,dx,fs,e⟩|⟨vs,e⟩|⟨b,vs,e⟩<;>(rw[e];simp)
theorem Ex.new {q:Addr}{u:HO}(h:o.H q=none):Ex o ⟨o.mu,o.h,upd o.H q u⟩:=by
 refine⟨Nat.le_refl _,fun _ _=>rfl,fun a w e n=>⟨?_,n⟩⟩
 show upd o.H q u a=some w
 rw[aC (a7 e h)];exact e
theorem Rel.new (R:Rel K o){q:Addr}{u:HO}(h:o.H q=none):Rel K ⟨o.mu,o.h,upd o.H q u⟩:=by
 refine R.keep (Ex.new h) rfl rfl fun k b hk hb=>?_
 have l:Lv o (o.mu k):=⟨k,b,hk,hb,rfl⟩
 show upd o.H q u (o.mu k)=_
 rw[aC fun z=>l.there R (by rw[z];exact h)]
theorem Ex.same {H':Hp}(g:Same o.H H'):Ex o ⟨o.mu,o.h,H'⟩:=⟨Nat.le_refl _,fun _ _=>rfl,fun a w e n=>⟨g a w e,n⟩⟩
theorem Rel.same (R:Rel K o){H':Hp}(g:Same o.H H'):Rel K ⟨o.mu,o.h,H'⟩:=by
 refine R.keep (Ex.same g) rfl rfl fun k b hk hb=>?_
 cases e:o.H (o.mu k) with
 |none=>exact absurd e (Lv.there R ⟨k,b,hk,hb,rfl⟩)
 |some u=>exact g _ _ e
def Wo.add (o:Wo)(q:Addr)(b:Ob)(u:HO):Wo:=⟨fun k=>if k=o.h.length then q else o.mu k,o.h++[b],upd o.H q u⟩
theorem Ex.add {q:Addr}{b:Ob}{u:HO}(h:o.H q=none):Ex o (o.add q b u):=by
 refine⟨by show _<=(o.h++[b]).length;simp,fun k hk=>?_,fun a w e n=>⟨?_,fun l=>?_⟩⟩
 ·show (if k=o.h.length then q else o.mu k)=_
  rw[if_neg (by omega)]
 ·show upd o.H q u a=some w
  rw[aC (a7 e h)];exact e
 ·obtain⟨k,c,hk,hc,ha⟩:=l
  have ha:(if k=o.h.length then q else o.mu k)=a:=ha
  have hk:(o.h++[b])[k]?=some c:=hk
  by_cases z:k=o.h.length
  ·rw[if_pos z] at ha
   exact absurd ha.symm (a7 e h)
  ·rw[if_neg z] at ha
   have hl:k<o.h.length:=by
    have:=(List.getElem?_eq_some_iff.mp hk).1
    rw[List.length_append,List.length_singleton] at this
    omega
   rw[List.getElem?_append_left hl] at hk
   exact n ⟨k,c,hk,hc,ha⟩
theorem Rel.add (R:Rel K o){q:Addr}{b:Ob}{u:HO}(h:o.H q=none)(hb:Ro K (o.add q b u) q b):Rel K (o.add q b u):=by
 have X:Ex o (o.add q b u):=Ex.add h
 have old: ∀ {k:Nat}{c:Ob},(o.add q b u).h[k]?=some c->k≠o.h.length->o.h[k]?=some c/\(o.add q b u).mu k=o.mu k:=fun{k c} hk z=>by
  have hk:(o.h++[b])[k]?=some c:=hk
  have hl:k<o.h.length:=by
   have:=(List.getElem?_eq_some_iff.mp hk).1
   rw[List.length_append,List.length_singleton] at this
   omega
  rw[List.getElem?_append_left hl] at hk
  exact⟨hk,X.mu k hl⟩
 have new: ∀ {k:Nat}{c:Ob},(o.add q b u).h[k]?=some c->k=o.h.length->c=b/\(o.add q b u).mu k=q:=fun{k c} hk z=>by
  subst z
  have hk:(o.h++[b])[o.h.length]?=some c:=hk
  rw[List.getElem?_append_right (Nat.le_refl _),Nat.sub_self] at hk
  exact⟨(Option.some.inj hk).symm,if_pos rfl⟩
 have ne: ∀ {k:Nat}{c:Ob},o.h[k]?=some c->c≠.gone->o.mu k≠q:=fun{k c} hk hc z=>Lv.there R ⟨k,c,hk,hc,rfl⟩ (by rw[z];exact h)
 refine⟨fun k c hk=>?_,fun j k c d h1 h2 n1 n2 e=>?_⟩
 ·by_cases z:k=o.h.length
  ·obtain⟨rfl,e⟩:=new hk z
   rw[e];exact hb
  ·obtain⟨hk,e⟩:=old hk z
   rw[e]
   have r:=R.ob k c hk
   have st: ∀ {w:HO},c≠.gone->o.H (o.mu k)=some w->(o.add q b u).H (o.mu k)=some w:=fun{w} hc e=>by
    show upd o.H q u (o.mu k)=some w
    rw[aC (ne hk hc)];exact e
   cases c with
   |lst l=>obtain⟨vs,h1,h2⟩:=r;exact⟨vs,st (by simp) h1,h2.mono R X⟩
   |dic ks ws=>obtain⟨vs,h1,h2,h3⟩:=r;exact⟨vs,st (by simp) h1,h2,h3.mono R X⟩
   |dit ks ws=>obtain⟨vs,h1,h2,h3⟩:=r;exact⟨vs,st (by simp) h1,h2,h3.mono R X⟩
   |din b ks ws=>obtain⟨vs,h1,h2,hn,h3⟩:=r;exact⟨vs,st (by simp) h1,h2,fun x hx=>(hn x hx).mono X R,h3.mono R X⟩
   |ins c ns ws=>obtain⟨C,dx,fs,h0,h1,h2,h3⟩:=r;exact⟨C,dx,fs,h0,st (by simp) h1,h2,h3.mono R X⟩
   |gone=>trivial
 ·by_cases z1:j=o.h.length
  ·by_cases z2:k=o.h.length
   ·omega
   ·obtain⟨_,e1⟩:=new h1 z1
    obtain⟨hk,e2⟩:=old h2 z2
    rw[e1,e2] at e
    exact absurd e.symm (ne hk n2)
  ·obtain⟨hj,e1⟩:=old h1 z1
   by_cases z2:k=o.h.length
   ·obtain⟨_,e2⟩:=new h2 z2
    rw[e1,e2] at e
    exact absurd e (ne hj n1)
   ·obtain⟨hk,e2⟩:=old h2 z2
    rw[e1,e2] at e
    exact R.inj j k c d hj hk n1 n2 e
theorem Rel.addL (R:Rel K o){q:Addr}{l:List W}{vs:List V}(h:o.H q=none)(hl:Rvs K o l vs):Rel K (o.add q (.lst l) (.lst vs)):=R.add h ⟨vs,aM,hl.mono R (Ex.add h)⟩
def Wo.put (o:Wo)(k:Nat)(b:Ob)(u:HO):Wo:=⟨o.mu,o.h.set k b,upd o.H (o.mu k) u⟩
theorem Lv.put {k:Nat}{b c:Ob}{u:HO}{a:Addr}(hk:o.h[k]?=some c)(hc:c≠.gone)(h:Lv (o.put k b u) a):Lv o a:=by
 obtain⟨j,d,hj,hd,rfl⟩:=h
 have hj:(o.h.set k b)[j]?=some d:=hj
 by_cases z:j=k
 ·subst z;exact⟨j,c,hk,hc,rfl⟩
 ·rw[List.getElem?_set_ne (Ne.symm z)] at hj
  exact⟨j,d,hj,hd,rfl⟩
theorem Ex.put {k:Nat}{b c:Ob}{u:HO}(hk:o.h[k]?=some c)(hc:c≠.gone):Ex o (o.put k b u):=by
 refine⟨by show _<=(o.h.set k b).length;simp,fun _ _=>rfl,fun a w e n=>⟨?_,fun l=>n (l.put hk hc)⟩⟩
 show upd o.H (o.mu k) u a=some w
 rw[aC fun z=>n ⟨k,c,hk,hc,z.symm⟩];exact e
theorem Rel.put (R:Rel K o){k:Nat}{b c:Ob}{u:HO}(hk:o.h[k]?=some c)(hc:c≠.gone)(hb:Ro K (o.put k b u) (o.mu k) b):Rel K (o.put k b u):=by
 have X:Ex o (o.put k b u):=Ex.put hk hc
 have old: ∀ {j:Nat}{d:Ob},(o.put k b u).h[j]?=some d->j≠k->o.h[j]?=some d:=fun{j d} hj z=>by
  have hj:(o.h.set k b)[j]?=some d:=hj
  rw[List.getElem?_set_ne (Ne.symm z)] at hj
  exact hj
 refine⟨fun j d hj=>?_,fun i j d e h1 h2 n1 n2 q=>?_⟩
 ·by_cases z:j=k
  ·subst z
   have hl:=(List.getElem?_eq_some_iff.mp hk).1
   have hj:(o.h.set j b)[j]?=some d:=hj
   rw[List.getElem?_set_self hl] at hj
   cases hj
   exact hb
  ·have hj:=old hj z
   have r:=R.ob j d hj
   have st: ∀ {w:HO},d≠.gone->o.H (o.mu j)=some w->(o.put k b u).H (o.mu j)=some w:=fun{w} hd e=>by
    show upd o.H (o.mu k) u (o.mu j)=some w
    rw[aC fun q=>z (R.inj j k d c hj hk hd hc q)];exact e
   cases d with
   |lst l=>obtain⟨vs,h1,h2⟩:=r;exact⟨vs,st (by simp) h1,h2.mono R X⟩
   |dic ks ws=>obtain⟨vs,h1,h2,h3⟩:=r;exact⟨vs,st (by simp) h1,h2,h3.mono R X⟩
   |dit ks ws=>obtain⟨vs,h1,h2,h3⟩:=r;exact⟨vs,st (by simp) h1,h2,h3.mono R X⟩
   |din b ks ws=>obtain⟨vs,h1,h2,hn,h3⟩:=r;exact⟨vs,st (by simp) h1,h2,fun x hx=>(hn x hx).mono X R,h3.mono R X⟩
   |ins c ns ws=>obtain⟨C,dx,fs,h0,h1,h2,h3⟩:=r;exact⟨C,dx,fs,h0,st (by simp) h1,h2,h3.mono R X⟩
   |gone=>trivial
 ·have ex: ∀ {j:Nat}{d:Ob},(o.put k b u).h[j]?=some d->d≠.gone-> ∃d',o.h[j]?=some d'/\d'≠.gone:=fun{j d} hj n=>by
   by_cases z:j=k
   ·subst z;exact⟨c,hk,hc⟩
   ·exact⟨d,old hj z,n⟩
  obtain⟨d',h1',n1'⟩:=ex h1 n1
  obtain⟨e',h2',n2'⟩:=ex h2 n2
  exact R.inj i j d' e' h1' h2' n1' n2' q
theorem Rel.putL (R:Rel K o){k:Nat}{c:Ob}{l:List W}{vs:List V}(hk:o.h[k]?=some c)(hc:c≠.gone)(hl:Rvs K o l vs):Rel K (o.put k (.lst l) (.lst vs)):=R.put hk hc ⟨vs,aM,hl.mono R (Ex.put hk hc)⟩
noncomputable def Wo.ice (o:Wo)(k:Nat):Wo:=⟨o.mu,o.h.set k .gone,o.H⟩
theorem Lv.ice {k:Nat}{a:Addr}(h:Lv (o.ice k) a): ∃j b,j≠k/\o.h[j]?=some b/\b≠.gone/\o.mu j=a:=by
 obtain⟨j,d,hj,hd,e⟩:=h
 have hj:(o.h.set k .gone)[j]?=some d:=hj
 by_cases z:j=k
 ·subst z
  have hl:=(List.getElem?_eq_some_iff.mp hj).1
  rw[List.length_set] at hl
  rw[List.getElem?_set_self hl] at hj
  cases hj
  exact absurd rfl hd
 ·rw[List.getElem?_set_ne (Ne.symm z)] at hj
  exact⟨j,d,z,hj,hd,e⟩
theorem Ex.ice {k:Nat}:Ex o (o.ice k):=by
 refine⟨by show _<=(o.h.set k .gone).length;simp,fun _ _=>rfl,fun a w e n=>⟨e,fun l=>?_⟩⟩
 obtain⟨j,b,_,h1,h2,h3⟩:=l.ice
 exact n ⟨j,b,h1,h2,h3⟩
theorem Rel.ice (R:Rel K o){k:Nat}:Rel K (o.ice k):=by
 have X:Ex o (o.ice k):=Ex.ice
 have old: ∀ {j:Nat}{d:Ob},(o.ice k).h[j]?=some d->d≠.gone->o.h[j]?=some d:=fun{j d} hj n=>by
  have hj:(o.h.set k .gone)[j]?=some d:=hj
  by_cases z:j=k
  ·subst z
   have hl:=(List.getElem?_eq_some_iff.mp hj).1
   rw[List.length_set] at hl
   rw[List.getElem?_set_self hl] at hj
   cases hj
   exact absurd rfl n
  ·rw[List.getElem?_set_ne (Ne.symm z)] at hj
   exact hj
 refine⟨fun j d hj=>?_,fun i j d e h1 h2 n1 n2 q=>R.inj i j d e (old h1 n1) (old h2 n2) n1 n2 q⟩
 cases d with
 |lst l=>obtain⟨vs,h1,h2⟩:=R.ob j _ (old hj (by simp));exact⟨vs,h1,h2.mono R X⟩
 |dic ks ws=>obtain⟨vs,h1,h2,h3⟩:=R.ob j _ (old hj (by simp));exact⟨vs,h1,h2,h3.mono R X⟩
 |dit ks ws=>obtain⟨vs,h1,h2,h3⟩:=R.ob j _ (old hj (by simp));exact⟨vs,h1,h2,h3.mono R X⟩
 |din b ks ws=>obtain⟨vs,h1,h2,hn,h3⟩:=R.ob j _ (old hj (by simp));exact⟨vs,h1,h2,fun x hx=>(hn x hx).mono X R,h3.mono R X⟩
 |ins c ns ws=>obtain⟨C,dx,fs,h0,h1,h2,h3⟩:=R.ob j _ (old hj (by simp));exact⟨C,dx,fs,h0,h1,h2,h3.mono R X⟩
 |gone=>trivial
theorem Rv.iceL (R:Rel K o){k:Nat}{l:List W}(hk:o.h[k]?=some (.lst l)):Rv K (o.ice k) (.tl l) (.ref (o.mu k)):=by
 obtain⟨vs,h1,h2⟩:=R.ob k _ hk
 unfold Rv
 refine⟨_,vs,rfl,h1,fun z=>?_,h2.mono R Ex.ice⟩
 obtain⟨j,b,n,q1,q2,q3⟩:=z.ice
 exact n (R.inj j k b _ q1 hk q2 (by simp) q3)
theorem Rv.iceD (R:Rel K o){k:Nat}{ks:List Key}{ws:List W}(hk:o.h[k]?=some (.dic ks ws)):Rv K (o.ice k) (.dv ks ws) (.ref (o.mu k)):=by
 obtain⟨vs,h1,h0,h2⟩:=R.ob k _ hk
 unfold Rv
 refine⟨_,vs,rfl,.inl h1,fun z=>?_,h0,h2.mono R Ex.ice⟩
 obtain⟨j,b,n,q1,q2,q3⟩:=z.ice
 exact n (R.inj j k b _ q1 hk q2 (by simp) q3)
theorem Rv.iceN (R:Rel K o){k:Nat}{b:Bool}{ks:List PKy}{ws:List W}(hk:o.h[k]?=some (.din b ks ws)):Rv K (o.ice k) (.dn b ks ws) (.ref (o.mu k)):=by
 obtain⟨vs,h1,h0,hn,h2⟩:=R.ob k _ hk
 unfold Rv
 refine⟨_,vs,rfl,h1,fun z=>?_,h0,fun x hx=>(hn x hx).mono Ex.ice R,h2.mono R Ex.ice⟩
 obtain⟨j,b,n,q1,q2,q3⟩:=z.ice
 exact n (R.inj j k b _ q1 hk q2 (by simp) q3)
theorem Rvs.len: ∀ {l:List W}{vs:List V},Rvs K o l vs->vs.length=l.length
 |[],_,h=>by unfold Rvs at h;rw[h];rfl
 |w::l,_,h=>by unfold Rvs at h;obtain⟨v,r,rfl,_,h2⟩:=h;rw[List.length_cons,List.length_cons,Rvs.len h2]
theorem Rvs.get: ∀ {l:List W}{vs:List V}{i:Nat}{w:W},Rvs K o l vs->l[i]?=some w-> ∃v,vs[i]?=some v/\Rv K o w v
 |[],_,_,_,_,e=>by simp at e
 |x::l,_,0,w,h,e=>by unfold Rvs at h;obtain⟨v,r,rfl,h1,h2⟩:=h;cases e;exact⟨v,rfl,h1⟩
 |x::l,_,i+1,w,h,e=>by unfold Rvs at h;obtain⟨v,r,rfl,h1,h2⟩:=h;obtain⟨u,q1,q2⟩:=Rvs.get (l:=l) (i:=i) (w:=w) h2 (by simpa using e);exact⟨u,by simpa using q1,q2⟩
theorem Rvs.nil:Rvs K o [] []:=by unfold Rvs;rfl
theorem Rvs.cons {w:W}{v:V}{l:List W}{vs:List V}(h:Rv K o w v)(t:Rvs K o l vs):Rvs K o (w::l) (v::vs):=by unfold Rvs;exact⟨v,vs,rfl,h,t⟩
theorem Rvs.app: ∀ {l m:List W}{vs us:List V},Rvs K o l vs->Rvs K o m us->Rvs K o (l++m) (vs++us)
 |[],_,_,_,h,t=>by unfold Rvs at h;rw[h];exact t
 |w::l,m,_,us,h,t=>by unfold Rvs at h;obtain⟨v,r,rfl,h1,h2⟩:=h;exact Rvs.cons h1 (Rvs.app h2 t)
theorem Rvs.take: ∀ {l:List W}{vs:List V} (n:Nat),Rvs K o l vs->Rvs K o (l.take n) (vs.take n)
 |[],_,n,h=>by unfold Rvs at h;rw[h,List.take_nil,List.take_nil];exact Rvs.nil
 |w::l,_,0,h=>by rw[List.take_zero,List.take_zero];exact Rvs.nil
 |w::l,_,n+1,h=>by unfold Rvs at h;obtain⟨v,r,rfl,h1,h2⟩:=h;exact Rvs.cons h1 (Rvs.take n h2)
theorem Rvs.drop: ∀ {l:List W}{vs:List V} (n:Nat),Rvs K o l vs->Rvs K o (l.drop n) (vs.drop n)
 |[],_,n,h=>by unfold Rvs at h;rw[h,List.drop_nil,List.drop_nil];exact Rvs.nil
 |w::l,_,0,h=>h
 |w::l,_,n+1,h=>by unfold Rvs at h;obtain⟨v,r,rfl,h1,h2⟩:=h;exact Rvs.drop n h2
noncomputable abbrev Env':=List (Option W)
def RvO (K:PySem.W.Frag)(o:Wo):Option W->Option V->Prop
 |some w,s=> ∃v,s=some v/\Rv K o w v
 |none,s=>s=none
def Re (K:PySem.W.Frag)(o:Wo):Env'->St->Prop
 |[],s=>s=[]
 |w::r,s=> ∃x t,s=x::t/\RvO K o w x/\Re K o r t
theorem RvO.mono (R:Rel K o)(X:Ex o p): ∀ {w:Option W}{s:Option V},RvO K o w s->RvO K p w s
 |some w,_,⟨v,e,h⟩=>⟨v,e,h.mono R X⟩
 |none,_,h=>h
theorem Re.mono (R:Rel K o)(X:Ex o p): ∀ {r:Env'}{s:St},Re K o r s->Re K p r s
 |[],_,h=>h
 |w::r,_,⟨x,t,e,h1,h2⟩=>⟨x,t,e,h1.mono R X,Re.mono R X h2⟩
theorem Re.get: ∀ {r:Env'}{s:St}{i:Nat}{w:W},Re K o r s->r[i]?=some (some w)-> ∃v,s[i]?=some (some v)/\Rv K o w v
 |[],_,_,_,_,e=>by simp at e
 |x::r,_,0,w,⟨y,t,rfl,h1,h2⟩,e=>by cases e;obtain⟨v,rfl,q⟩:=h1;exact⟨v,rfl,q⟩
 |x::r,_,i+1,w,⟨y,t,rfl,h1,h2⟩,e=>by obtain⟨u,q1,q2⟩:=Re.get (r:=r) (i:=i) (w:=w) h2 (by simpa using e);exact⟨u,by simpa using q1,q2⟩
theorem Re.set {w:W}{v:V}(q:Rv K o w v): ∀ {r:Env'}{s:St} (i:Nat),Re K o r s->Re K o (r.set i (some w)) (s.set i (some v))
 |[],_,_,h=>by rw[show _=[] from h];rfl
 |x::r,_,0,⟨y,t,rfl,h1,h2⟩=>⟨_,_,rfl,⟨v,rfl,q⟩,h2⟩
 |x::r,_,i+1,⟨y,t,rfl,h1,h2⟩=>⟨_,_,rfl,h1,Re.set q i h2⟩
theorem Re.front: ∀ {r:Env'}{s:St} (n:Nat),Re K o r s->Re K o (List.replicate n none++r) (List.replicate n none++s)
 |_,_,0,h=>h
 |_,_,n+1,h=>⟨none,_,rfl,rfl,Re.front n h⟩
theorem Re.args: ∀ {ws:List W}{vs:List V} (n:Nat),Rvs K o ws vs->Re K o (ws.map some++List.replicate n none) (vs.map some++List.replicate n none)
 |[],_,n,h=>by
  unfold Rvs at h;rw[h]
  induction n with
  |zero=>rfl
  |succ n ih=>exact⟨none,_,rfl,rfl,ih⟩
 |w::l,_,n,h=>by unfold Rvs at h;obtain⟨v,r,rfl,h1,h2⟩:=h;exact⟨_,_,rfl,⟨v,rfl,h1⟩,Re.args n h2⟩
end
inductive Rs (α:Type) where
 |ok (a:α)(h:List Ob)|ex (c:Str)(h:List Ob)|bad
noncomputable abbrev M (α:Type):=List Ob->Rs α
def bd {α β:Type}(f:M α)(g:α->M β):M β:=fun h=>match f h with
 |.ok a h'=>g a h'
 |.ex c h'=>.ex c h'
 |.bad=>.bad
def pr {α:Type}(a:α):M α:=fun h=>.ok a h
def no {α:Type}:M α:=fun _=>.bad
def gd {α:Type}(p:Prop) [Decidable p] (m:M α):M α:=fun h=>if p then m h else .bad
structure Cg where
 K:PySem.W.Frag
 mg:Str->Option Value
 E:XK
def Ps {α β:Type}(c:Cg)(r:Wo->α->β->Prop)(o:Wo)(R:Rs α)(Q:β->Hp->Prop):Prop:=match R with
 |.ok a h'=> ∀p b,p.h=h'->Ex o p->Rel c.K p->r p a b->Q b p.H
 |.ex x h'=> ∃u,c.mg x=some u/\ ∀p,p.h=h'->Ex o p->Rel c.K p->c.E u none p.H
 |.bad=>False
def tG {α β:Type}(c:Cg)(r:Wo->α->β->Prop)(f:Env'->M α)(σ:St)(H:Hp)(Q:β->Hp->Prop):Prop:= ∃o ρ,o.H=H/\Rel c.K o/\Re c.K o ρ σ/\Ps c r o (f ρ o.h) Q
noncomputable abbrev tM (c:Cg)(f:Env'->M W):TE:=tG c (Rv c.K) f
noncomputable abbrev tT (c:Cg)(f:Env'->M Bool):TT:=tG c (fun _ a b=>a=b) f
noncomputable abbrev tA (c:Cg)(f:Env'->M (List W)):TA:=tG c (Rvs c.K) f
section
variable {c:Cg}{o p:Wo}{α β γ δ:Type}{r:Wo->α->β->Prop}{r2:Wo->γ->δ->Prop}
theorem Ps.after {R:Rs α}{Q:β->Hp->Prop}(X:Ex o p)(h:Ps c r o R Q):Ps c r p R Q:=by
 cases R with
 |ok a h'=>exact fun q b e X2 Rq rq=>h q b e (X.trans X2) Rq rq
 |ex x h'=>obtain⟨u,hu,h⟩:=h;exact⟨u,hu,fun q e X2 Rq=>h q e (X.trans X2) Rq⟩
 |bad=>exact h
theorem Ps.bd {f:M α}{g:α->M γ}{Q:δ->Hp->Prop}{N:β->Hp->Prop}(h:Ps c r2 o (bd f g o.h) Q)(k:∀p a b,Ex o p->Rel c.K p->r p a b->Ps c r2 p (g a p.h) Q->N b p.H):Ps c r o (f o.h) N:=by
 unfold L2.bd at h
 cases e:f o.h with
 |ok a h'=>
  rw[e] at h
  intro p b hp X R rb
  subst hp
  exact k p a b X R rb (h.after X)
 |ex x h'=>
  rw[e] at h
  exact h
 |bad=>
  rw[e] at h
  exact h
theorem Ps.pr {a:α}{Q:β->Hp->Prop}{b:β}(h:Ps c r o (pr a o.h) Q)(R:Rel c.K o)(hb:r o a b):Q b o.H:=h o b rfl (Ex.refl _) R hb
theorem Ps.at {a:α}{h':List Ob}{Q:β->Hp->Prop}{b:β}(h:Ps c r o (.ok a h') Q)(e:p.h=h')(X:Ex o p)(R:Rel c.K p)(hb:r p a b):Q b p.H:=h p b e X R hb
theorem Ps.gd {P:Prop} [Decidable P] {m:M α}{Q:β->Hp->Prop}(h:Ps c r o (gd P m o.h) Q):P/\Ps c r o (m o.h) Q:=by
 unfold L2.gd at h
 by_cases q:P
 ·rw[if_pos q] at h;exact⟨q,h⟩
 ·rw[if_neg q] at h;exact h.elim
end
end
section
noncomputable abbrev cg (X:Cx)(E:XK):Cg:=⟨X.K,X.mg,E⟩
def tF (c:Cg)(f:Env'->M (List W)):TE:=fun σ H Q=>tG c (Rvs c.K) f σ H fun vs H1=> ∀q,H1 q=none->Q (.ref q) (upd H1 q (.lst vs))
structure JE (X:Cx)(E:XK)(e:Expr)(f:Env'->M W):Prop where
 h:PE X e (tM (cg X E) f)
structure JT (X:Cx)(E:XK)(e:Expr)(f:Env'->M Bool):Prop where
 h:PT X e (tT (cg X E) f)
structure JW (X:Cx)(E:XK)(e:Expr)(f:Env'->M Bool):Prop where
 h:PW X e (tT (cg X E) f)
structure JA (X:Cx)(E:XK)(es:List Expr)(f:Env'->M (List W)):Prop where
 h:PA X es (tA (cg X E) f)
structure JF (X:Cx)(E:XK)(e:Expr)(f:Env'->M (List W)):Prop where
 h:PE X e (tF (cg X E) f)
theorem PE.imp {X:Cx}{E:XK}{e:Expr}{t:TE}{f:Env'->M W}(h:PE X e t)(k:∀σ H Q,tM (cg X E) f σ H Q->t σ H Q):JE X E e f:=⟨fun pins s σ H Q I q=>h pins s σ H Q I (k σ H Q q)⟩
theorem PE.impF {X:Cx}{E:XK}{e:Expr}{t:TE}{f:Env'->M (List W)}(h:PE X e t)(k:∀σ H Q,tF (cg X E) f σ H Q->t σ H Q):JF X E e f:=⟨fun pins s σ H Q I q=>h pins s σ H Q I (k σ H Q q)⟩
theorem PT.imp {X:Cx}{E:XK}{e:Expr}{t:TT}{f:Env'->M Bool}(h:PT X e t)(k:∀σ H Q,tT (cg X E) f σ H Q->t σ H Q):JT X E e f:=⟨fun pins s σ H Q I q=>h pins s σ H Q I (k σ H Q q)⟩
theorem PW.imp {X:Cx}{E:XK}{e:Expr}{t:TT}{f:Env'->M Bool}(h:PW X e t)(k:∀σ H Q,tT (cg X E) f σ H Q->t σ H Q):JW X E e f:=⟨fun w pins s σ H Q I q=>h w pins s σ H Q I (k σ H Q q)⟩
theorem PA.imp {X:Cx}{E:XK}{e:List Expr}{t:TA}{f:Env'->M (List W)}(h:PA X e t)(k:∀σ H Q,tA (cg X E) f σ H Q->t σ H Q):JA X E e f:=⟨fun pos pins s σ H Q I q=>h pos pins s σ H Q I (k σ H Q q)⟩
theorem wm {X:Cx}{E:XK}{e:Expr}{f:Env'->M Bool}(q:JW X E e f):JT X E e f:=⟨(q.h).pt⟩
section
variable {X:Cx}{E:XK}
def mVar (i:Nat):Env'->M W:=fun ρ=>match ρ[i]? with
 |some (some w)=>pr w
 |_=>no
def mC (w:W):Env'->M W:=fun _=>pr w
theorem wH {i:Nat}{σ:St}{H:Hp}{Q:VK}(h:tM (cg X E) (mVar i) σ H Q):tVar i σ H Q:=by
 obtain⟨o,ρ,rfl,R,S,h⟩:=h
 unfold mVar at h
 cases e:ρ[i]? with
 |none=>rw[e] at h;exact h.elim
 |some x=>
  cases x with
  |none=>rw[e] at h;exact h.elim
  |some w=>
   rw[e] at h
   obtain⟨v,e1,r⟩:=S.get e
   exact⟨v,e1,h.pr R r⟩
theorem bU (i:Nat){x:Str}{pos:Pos}(hN:X.N[i]?=some x:=by rfl)(hv:Vis X.env.scope x:=by first|exact Or.inl rfl|exact Or.inr (Or.inl rfl)|exact Or.inr (Or.inr rfl))(hd:(x==("__debug__":Str))=false:=by decide)
 (hcd:(x==("__classdict__":Str))=false:=by decide):JE X E (.Name x pos) (mVar i):=(pv i hN hv hd hcd).imp fun _ _ _ h=>wH h
theorem p6 {w:W}{v:V}(hr: ∀o,Rv X.K o w v){σ:St}{H:Hp}{Q:VK}(h:tM (cg X E) (mC w) σ H Q):tC v σ H Q:=by
 obtain⟨o,ρ,rfl,R,S,h⟩:=h
 exact Ps.pr (c:=cg X E) h R (hr o)
theorem yg {i j pos}:JE X E (.Constant (.int i) j pos) (mC (.int i)):=pe_int.imp fun _ _ _ h=>p6 (fun o=>by unfold Rv;rfl) h
theorem zG {i j pos}:JE X E (.Constant (.bool i) j pos) (mC (.bl i)):=pe_bl.imp fun _ _ _ h=>p6 (fun o=>by unfold Rv;rfl) h
theorem x6 {i j pos}:JE X E (.Constant (.str i) j pos) (mC (.str i)):=pe_str.imp fun _ _ _ h=>p6 (fun o=>by unfold Rv;rfl) h
theorem lq {x:Str}{w:W}{v:V}{u:Value}{pos:Pos}(hg:Gl X x)(hm:X.mg x=some u)(r:RelV v u)(hr: ∀o,Rv X.K o w v)(hd:(x==("__debug__":Str))=false:=by decide):JE X E (.Name x pos) (mC w):=
 (cN hg hm r hd).imp fun _ _ _ h=>p6 hr h
def m2 (f:W->W->M W)(fa fb:Env'->M W):Env'->M W:=fun ρ=>bd (fa ρ) fun x=>bd (fb ρ) fun y=>f x y
def OpM (X:Cx)(E:XK)(r:R2)(f:W->W->M W):Prop:= ∀ (o:Wo) (x y:W) (vx vy:V) (Q:VK),Rel X.K o->Rv X.K o x vx->Rv X.K o y vy->Ps (cg X E) (Rv X.K) o (f x y o.h) Q->r vx vy o.H Q
theorem um {r:R2}{f:W->W->M W}(hf:OpM X E r f){fa fb:Env'->M W}{σ:St}{H:Hp}{Q:VK}(h:tM (cg X E) (m2 f fa fb) σ H Q):tOp r (tM (cg X E) fa) (tM (cg X E) fb) σ H Q:=by
 obtain⟨o,ρ,rfl,R,S,h⟩:=h
 exact⟨o,ρ,rfl,R,S,Ps.bd h fun p x vx e1 R1 r1 h1=>⟨p,ρ,rfl,R1,S.mono R e1,Ps.bd h1 fun q y vy e2 R2 r2 h2=>hf q x y vx vy Q R2 (r1.mono R1 e2) r2 h2⟩⟩
theorem jB {a b:Expr}{pos:Pos}{op:Operator}{r:R2}{f:W->W->M W}{fa fb:Env'->M W}(ho:OpR X (binaryOp op) r)(hf:OpM X E r f)(ha:JE X E a fa)(hb:JE X E b fb):
 JE X E (.BinOp a op b pos) (m2 f fa fb):=(mj ho ha.h hb.h).imp fun _ _ _ h=>um hf h
theorem yj {a b:Expr}{pos:Pos}{op:CmpOp}{r:R2}{f:W->W->M W}{fa fb:Env'->M W}(ho:OpR X (compareOp op) r)(hf:OpM X E r f)(ha:JE X E a fa)(hb:JE X E b fb)(hm:behindInMarks op b=false):
 JE X E (.Compare a [op] [b] pos) (m2 f fa fb):=(gI ho ha.h hb.h hm).imp fun _ _ _ h=>um hf h
def asB (w:W):M Bool:=match w with
 |.bl b=>pr b
 |_=>no
def mB (f:Env'->M W):Env'->M Bool:=fun ρ=>bd (f ρ) asB
theorem wJ {f:Env'->M W}{σ:St}{H:Hp}{Q:Bool->Hp->Prop}(h:tT (cg X E) (mB f) σ H Q):tM (cg X E) f σ H fun x H'=> ∃k,x=.bl k/\Q k H':=by
 obtain⟨o,ρ,rfl,R,S,h⟩:=h
 refine⟨o,ρ,rfl,R,S,Ps.bd h fun p x vx e1 R1 r1 h1=>?_⟩
 unfold asB at h1
 split at h1
 ·rename_i b
  unfold Rv at r1
  exact⟨b,r1,h1.pr R1 rfl⟩
 ·exact h1.elim
theorem xT {a b:Expr}{pos:Pos}{op:CmpOp}{r:R2}{f:W->W->M W}{fa fb:Env'->M W}(ho:OpR X (compareOp op) r)(hf:OpM X E r f)(ha:JE X E a fa)(hb:JE X E b fb)(hm:behindInMarks op b=false):
 JT X E (.Compare a [op] [b] pos) (mB (m2 f fa fb)):=(dt ho ha.h hb.h hm).imp fun _ _ _ h=>um hf (wJ h)
theorem xR {e:Expr}{f:Env'->M W}(h:JE X E e f)(he: ∀whole,isTrue e X.env whole=(do let v<-whole;standAt e.pos;holding [v] (truthy v)):=by intro _;rfl):JT X E e (mB f):=
 (ft h.h he).imp fun _ _ _ h=>wJ h
def mAnd (f g:Env'->M Bool):Env'->M Bool:=fun ρ=>bd (f ρ) fun b=>if b=true then g ρ else pr false
def mOr (f g:Env'->M Bool):Env'->M Bool:=fun ρ=>bd (f ρ) fun b=>if b=true then pr true else g ρ
def mNot (f:Env'->M Bool):Env'->M Bool:=fun ρ=>bd (f ρ) fun b=>pr (!b)
variable {a b:Expr}{rest:List Expr}{pos:Pos}{f g:Env'->M Bool}
theorem wC {σ:St}{H:Hp}{Q:Bool->Hp->Prop}(h:tT (cg X E) (mAnd f g) σ H Q):tAnd (tT (cg X E) f) (tT (cg X E) g) σ H Q:=by
 obtain⟨o,ρ,rfl,R,S,h⟩:=h
 refine⟨o,ρ,rfl,R,S,Ps.bd h fun p x vx e1 R1 r1 h1=>?_⟩
 subst r1
 cases x with
 |true=>exact iteT ⟨p,ρ,rfl,R1,S.mono R e1,h1⟩
 |false=>exact iteF (h1.pr R1 rfl)
theorem yV {σ:St}{H:Hp}{Q:Bool->Hp->Prop}(h:tT (cg X E) (mOr f g) σ H Q):tOr (tT (cg X E) f) (tT (cg X E) g) σ H Q:=by
 obtain⟨o,ρ,rfl,R,S,h⟩:=h
 refine⟨o,ρ,rfl,R,S,Ps.bd h fun p x vx e1 R1 r1 h1=>?_⟩
 subst r1
 cases x with
 |false=>exact iteF ⟨p,ρ,rfl,R1,S.mono R e1,h1⟩
 |true=>exact iteT (h1.pr R1 rfl)
theorem xS (ha:JT X E a f):JT X E (.UnaryOp .Not a pos) (mNot f):=(oa ha.h).imp fun σ H Q h=>by
 obtain⟨o,ρ,rfl,R,S,h⟩:=h
 refine⟨o,ρ,rfl,R,S,Ps.bd h fun p x vx e1 R1 r1 h1=>?_⟩
 subst r1
 exact h1.pr R1 rfl
theorem uU (ha:JT X E a f):JW X E (.BoolOp .And [a] pos) f:=⟨oZ ha.h⟩
theorem xP (ha:JT X E a f):JW X E (.BoolOp .Or [a] pos) f:=⟨nY ha.h⟩
theorem sr (ha:JT X E a f)(hb:JW X E (.BoolOp .And (b::rest) pos) g):JW X E (.BoolOp .And (a::b::rest) pos) (mAnd f g):=(rH ha.h hb.h).imp fun _ _ _ h=>wC h
theorem v9 (ha:JT X E a f)(hb:JW X E (.BoolOp .Or (b::rest) pos) g):JW X E (.BoolOp .Or (a::b::rest) pos) (mOr f g):=(rF ha.h hb.h).imp fun _ _ _ h=>yV h
def mAndV (f g:Env'->M W):Env'->M W:=fun ρ=>bd (f ρ) fun w=>bd (asB w) fun b=>if b=true then g ρ else pr (.bl false)
def mOrV (f g:Env'->M W):Env'->M W:=fun ρ=>bd (f ρ) fun w=>bd (asB w) fun b=>if b=true then pr (.bl true) else g ρ
def mNotV (f:Env'->M W):Env'->M W:=fun ρ=>bd (f ρ) fun w=>bd (asB w) fun b=>pr (.bl (!b))
theorem ud {α β:Type}{r:Wo->α->β->Prop}{o:Wo}{w:W}{v:V}{k:Bool->M α}{Q:β->Hp->Prop}(hr:Rv X.K o w v)(h:Ps (cg X E) r o (bd (asB w) k o.h) Q): ∃b,w=.bl b/\v=.bl b/\Ps (cg X E) r o (k b o.h) Q:=by
 cases w with
 |bl b=>unfold Rv at hr;exact⟨b,rfl,hr,h⟩
 |_=>exact h.elim
variable {u v:Env'->M W}
theorem sF (ha:JE X E a u):JE X E (.UnaryOp .Not a pos) (mNotV u):=(rP ha.h).imp fun σ H Q h=>by
 obtain⟨o,ρ,rfl,R,S,h⟩:=h
 refine⟨o,ρ,rfl,R,S,Ps.bd h fun p x vx e1 R1 r1 h1=>?_⟩
 obtain⟨k,rfl,rfl,h2⟩:=ud r1 h1
 exact⟨k,rfl,h2.pr R1 (by unfold Rv;rfl)⟩
def mIf (f:Env'->M Bool)(u v:Env'->M W):Env'->M W:=fun ρ=>bd (f ρ) fun b=>if b=true then u ρ else v ρ
def m1 (f:W->M W)(fa:Env'->M W):Env'->M W:=fun ρ=>bd (fa ρ) f
def negW (w:W):M W:=match w with
 |.int i=>pr (.int (-i))
 |_=>no
theorem ya (ha:JE X E a u):JE X E (.UnaryOp .USub a pos) (m1 negW u):=(yY wt ha.h).imp fun σ H Q h=>by
 obtain⟨o,ρ,rfl,R,S,h⟩:=h
 refine⟨o,ρ,rfl,R,S,Ps.bd h fun p x vx e1 R1 r1 h1=>?_⟩
 unfold negW at h1
 split at h1
 ·unfold Rv at r1
  exact⟨_,r1,h1.pr R1 (by unfold Rv;rfl)⟩
 ·exact h1.elim
def mNil:Env'->M (List W):=fun _=>pr []
def mCons (fa:Env'->M W)(fr:Env'->M (List W)):Env'->M (List W):=fun ρ=>bd (fa ρ) fun x=>bd (fr ρ) fun l=>pr (x::l)
variable {es:List Expr}{l:Env'->M (List W)}{e:Expr}
theorem bN:JA X E [] mNil:=pa_nil.imp fun σ H Q h=>by
 obtain⟨o,ρ,rfl,R,S,h⟩:=h
 exact h.pr R Rvs.nil
theorem ay (ha:JE X E e u)(hr:JA X E es l)(hs:starEach (e::es) X.env=(false,eval e X.env)::starEach es X.env:=by rfl):JA X E (e::es) (mCons u l):=(ar ha.h hr.h hs).imp fun σ H Q h=>by
 obtain⟨o,ρ,rfl,R,S,h⟩:=h
 exact⟨o,ρ,rfl,R,S,Ps.bd h fun p x vx e1 R1 r1 h1=>⟨p,ρ,rfl,R1,S.mono R e1,Ps.bd h1 fun q y vy e2 R2 r2 h2=>h2.pr R2 (Rvs.cons (r1.mono R1 e2) r2)⟩⟩
def tupW (l:List W):M W:=gd (l.length<=sizeLine) (pr (.tup l))
def mTup (l:Env'->M (List W)):Env'->M W:=fun ρ=>bd (l ρ) tupW
theorem Rv.newT {K:PySem.W.Frag}{o:Wo}(R:Rel K o){q:Addr}{l:List W}{vs:List V}(h:o.H q=none)(hl:Rvs K o l vs):Rv K ⟨o.mu,o.h,upd o.H q (.tup vs)⟩ (.tup l) (.ref q):=by
 unfold Rv;exact⟨q,vs,rfl,.of aM,hl.mono R (Ex.new h)⟩
theorem Rv.newL {K:PySem.W.Frag}{o:Wo}(R:Rel K o){q:Addr}{l:List W}{vs:List V}(h:o.H q=none)(hl:Rvs K o l vs):Rv K ⟨o.mu,o.h,upd o.H q (.lst vs)⟩ (.tl l) (.ref q):=by
 unfold Rv
 exact⟨q,vs,rfl,aM,fun z=>Lv.there R (show Lv o q from z) h,hl.mono R (Ex.new h)⟩
theorem x0 {x1}(h:JA X E es l):JE X E (.Tuple es x1 pos) (mTup l):=(jp h.h).imp fun σ H Q h=>by
 obtain⟨o,ρ,rfl,R,S,h⟩:=h
 refine⟨o,ρ,rfl,R,S,Ps.bd h fun p x vx e1 R1 r1 h1=>?_⟩
 obtain⟨hz,h1⟩:=h1.gd
 exact⟨by rw[r1.len];exact hz,fun q hq=>Ps.at (p:=⟨p.mu,p.h,upd p.H q (.tup vx)⟩) h1 rfl (Ex.new hq) (R1.new hq) (Rv.newT R1 hq r1)⟩
def mTl (l:Env'->M (List W)):Env'->M W:=fun ρ=>bd (l ρ) fun x=>pr (.tl x)
def newW (x:List W):M W:=fun h=>.ok (.loc h.length) (h++[.lst x])
def mNew (l:Env'->M (List W)):Env'->M W:=fun ρ=>bd (l ρ) newW
theorem mH (h:JF X E e l):JE X E e (mTl l):=h.h.imp fun σ H Q h=>by
 obtain⟨o,ρ,rfl,R,S,h⟩:=h
 exact⟨o,ρ,rfl,R,S,Ps.bd h fun p x vx e1 R1 r1 h1=>fun q hq=>Ps.at (p:=⟨p.mu,p.h,upd p.H q (.lst vx)⟩) h1 rfl (Ex.new hq) (R1.new hq) (Rv.newL R1 hq r1)⟩
theorem g6 (h:JF X E e l):JE X E e (mNew l):=h.h.imp fun σ H Q h=>by
 obtain⟨o,ρ,rfl,R,S,h⟩:=h
 refine⟨o,ρ,rfl,R,S,Ps.bd h fun p x vx e1 R1 r1 h1=>fun q hq=>?_⟩
 refine Ps.at (p:=p.add q (.lst x) (.lst vx)) h1 rfl (Ex.add hq) (R1.addL hq r1) ?_
 unfold Rv
 exact⟨by show _<(p.h++[_]).length;simp,by show V.ref q=V.ref (if p.h.length=p.h.length then q else _);rw[if_pos rfl]⟩
def lenG (l:Env'->M (List W)):Env'->M (List W):=fun ρ=>bd (l ρ) fun x=>gd (x.length<=sizeLine) (pr x)
theorem jA (h:JA X E es l):JF X E (.List es pos) (lenG l):=(xf h.h).impF fun σ H Q h=>by
 obtain⟨o,ρ,rfl,R,S,h⟩:=h
 refine⟨o,ρ,rfl,R,S,Ps.bd h fun p x vx e1 R1 r1 h1=>?_⟩
 obtain⟨hz,h1⟩:=h1.gd
 exact⟨by rw[r1.len];exact hz,h1.pr R1 r1⟩
end
end
section
section
variable {X:Cx}{E:XK}
theorem rv_int {K:PySem.W.Frag}{o:Wo}{i:Int}{v:V}:Rv K o (.int i) v↔v=.int i:=by unfold Rv;exact Iff.rfl
theorem rv_str {K:PySem.W.Frag}{o:Wo}{i:Str}{v:V}:Rv K o (.str i) v↔v=.str i:=by unfold Rv;exact Iff.rfl
theorem rv_bl {K:PySem.W.Frag}{o:Wo}{i:Bool}{v:V}:Rv K o (.bl i) v↔v=.bl i:=by unfold Rv;exact Iff.rfl
theorem rv_non {K:PySem.W.Frag}{o:Wo}{v:V}:Rv K o .non v↔v=.non:=by unfold Rv;exact Iff.rfl
theorem rv_ty {K:PySem.W.Frag}{o:Wo}{n:String}{v:V}:Rv K o (.ty n) v↔v=.ty n:=by unfold Rv;exact Iff.rfl
def lstOf (w:W):M (List W):=match w with
 |.tl l=>pr l
 |.cl l=>pr l
 |.loc k=>fun h=>match h[k]? with
  |some (.lst l)=>.ok l h
  |_=>.bad
 |_=>no
theorem ij {α β:Type}{r:Wo->α->β->Prop}{o:Wo}{w:W}{v:V}{k:List W->M α}{Q:β->Hp->Prop}(R:Rel X.K o)(hr:Rv X.K o w v)(h:Ps (cg X E) r o (bd (lstOf w) k o.h) Q):
  ∃l a vs,v=.ref a/\SqL X.K o.H a vs/\Rvs X.K o l vs/\Ps (cg X E) r o (k l o.h) Q:=by
 cases w with
 |tl l=>unfold Rv at hr;obtain⟨a,vs,e,h1,_,h2⟩:=hr;exact⟨l,a,vs,e,.of h1,h2,h⟩
 |cl l=>
  unfold Rv at hr
  obtain⟨a,vs,e,h1,h2⟩:=hr
  rcases h1 with⟨h1,_⟩|h1
  ·exact⟨l,a,vs,e,.inl h1,h2,h⟩
  ·exact⟨l,a,vs,e,.inr h1,h2,h⟩
 |loc j=>
  unfold Rv at hr
  unfold lstOf bd at h
  cases e:o.h[j]? with
  |none=>simp only[e] at h;exact h.elim
  |some b=>
   cases b with
   |lst l=>
    simp only[e] at h
    obtain⟨vs,h1,h2⟩:=R.ob j _ e
    exact⟨l,_,vs,hr.2,.of h1,h2,h⟩
   |_=>simp only[e] at h;exact h.elim
 |_=>exact h.elim
def lstO (w:W):M (List W):=match w with
 |.tl l=>pr l
 |.loc k=>fun h=>match h[k]? with
  |some (.lst l)=>.ok l h
  |_=>.bad
 |_=>no
theorem dU {α β:Type}{r:Wo->α->β->Prop}{o:Wo}{w:W}{v:V}{k:List W->M α}{Q:β->Hp->Prop}(R:Rel X.K o)(hr:Rv X.K o w v)(h:Ps (cg X E) r o (bd (lstO w) k o.h) Q):
  ∃l a vs,v=.ref a/\o.H a=some (.lst vs)/\Rvs X.K o l vs/\Ps (cg X E) r o (k l o.h) Q:=by
 cases w with
 |tl l=>unfold Rv at hr;obtain⟨a,vs,e,h1,_,h2⟩:=hr;exact⟨l,a,vs,e,h1,h2,h⟩
 |loc j=>
  unfold Rv at hr
  unfold lstO bd at h
  cases e:o.h[j]? with
  |none=>simp only[e] at h;exact h.elim
  |some b=>
   cases b with
   |lst l=>
    simp only[e] at h
    obtain⟨vs,h1,h2⟩:=R.ob j _ e
    exact⟨l,_,vs,hr.2,h1,h2,h⟩
   |_=>simp only[e] at h;exact h.elim
 |_=>exact h.elim
theorem kR {o:Wo}{q:Addr}{l:List W}{vs:List V}{Q:VK}(R:Rel X.K o)(hq:o.H q=none)(hl:Rvs X.K o l vs)(h:Ps (cg X E) (Rv X.K) o (pr (.tup l) o.h) Q):Q (.ref q) (upd o.H q (.tup vs)):=
 Ps.at (p:=⟨o.mu,o.h,upd o.H q (.tup vs)⟩) h rfl (Ex.new hq) (R.new hq) (Rv.newT R hq hl)
theorem iX {o:Wo}{q:Addr}{l:List W}{vs:List V}{Q:VK}(R:Rel X.K o)(hq:o.H q=none)(hl:Rvs X.K o l vs)(h:Ps (cg X E) (Rv X.K) o (pr (.tl l) o.h) Q):Q (.ref q) (upd o.H q (.lst vs)):=
 Ps.at (p:=⟨o.mu,o.h,upd o.H q (.lst vs)⟩) h rfl (Ex.new hq) (R.new hq) (Rv.newL R hq hl)
def addW (x y:W):M W:=match x,y with
 |.int i,.int j=>pr (.int (i+j))
 |.str a,.str b=>gd (a.length+b.length<=sizeLine) (pr (.str (a++b)))
 |.tup a,.tup b=>gd (a.isEmpty=false/\a.length+b.length<=sizeLine) (pr (.tup (a++b)))
 |x,y=>bd (lstO x) fun a=>bd (lstO y) fun b=>gd (a.length+b.length<=sizeLine) (pr (.tl (a++b)))
theorem uI:OpM X E (fun x y H Q=>rI0 (fun i j=>.int (i+j)) x y H Q\/(fun x y H Q=>(fun x y H Q=> ∃i j,x=.str i/\y=.str j/\i.length+j.length<=sizeLine/\Q (.str (i++j)) H) x y H Q\/(fun x y H Q=>rCatT X.K x y H Q\/rCat x y H Q) x y H Q) x y H Q) addW:=by
 intro o x y vx vy Q R rx ry h
 unfold addW at h
 split at h
 ·exact .inl ⟨_,_,rv_int.mp rx,rv_int.mp ry,h.pr R (rv_int.mpr rfl)⟩
 ·obtain⟨hz,h⟩:=h.gd
  exact .inr (.inl ⟨_,_,rv_str.mp rx,rv_str.mp ry,hz,h.pr R (rv_str.mpr rfl)⟩)
 ·obtain⟨hz,h⟩:=h.gd
  unfold Rv at rx ry
  obtain⟨a,vs,e1,s1,r1⟩:=rx
  obtain⟨b,us,e2,s2,r2⟩:=ry
  have n1:vs≠ []:=fun z=>by
   have:=r1.len
   rw[z] at this
   have q:=hz.1
   rw[List.eq_nil_of_length_eq_zero this.symm] at q
   cases q
  refine .inr (.inr (.inl ⟨a,b,vs,us,e1,e2,s1,s2,n1,by rw[r1.len,r2.len];exact hz.2,fun z=>?_,fun _ q hq=>kR R hq (r1.app r2) h⟩))
  refine h.pr R ?_
  unfold Rv
  exact⟨a,vs,rfl,s1,by have:=r1.app r2;rw[z,List.append_nil] at this;exact this⟩
 ·obtain⟨l,a,vs,e1,s1,r1,h⟩:=dU R rx h
  obtain⟨m,b,us,e2,s2,r2,h⟩:=dU R ry h
  obtain⟨hz,h⟩:=h.gd
  exact .inr (.inr (.inr ⟨a,b,vs,us,e1,e2,s1,s2,by rw[r1.len,r2.len];exact hz,fun q hq=>iX R hq (r1.app r2) h⟩))
theorem yk {a b:Expr}{pos:Pos}{fa fb:Env'->M W}(ha:JE X E a fa)(hb:JE X E b fb):JE X E (.BinOp a .Add b pos) (m2 addW fa fb):=
 jB (op_add.or (op_add_str.or (op_catT.or r6))) uI ha hb
def iiW (C:Int->Int->Prop) [∀i j,Decidable (C i j)] (g:Int->Int->W)(x y:W):M W:=match x,y with
 |.int i,.int j=>gd (C i j) (pr (g i j))
 |_,_=>no
theorem fw {C:Int->Int->Prop} [∀i j,Decidable (C i j)] {g:Int->Int->W}{g':Int->Int->V}(hg: ∀o i j,Rv X.K o (g i j) (g' i j)):OpM X E (rI C g') (iiW C g):=by
 intro o x y vx vy Q R rx ry h
 unfold iiW at h
 split at h
 ·obtain⟨hz,h⟩:=h.gd
  exact⟨_,_,rv_int.mp rx,rv_int.mp ry,hz,h.pr R (hg _ _ _)⟩
 ·exact h.elim
theorem opR0 {f:Value->Value->Sem Value}{g':Int->Int->V}(h:OpR X f (rI0 g')):OpR X f (rI (fun _ _=>True) g'):=fun pins s σ H x y v u Q I rx ry q=>h pins s σ H x y v u Q I rx ry (let ⟨i,j,e1,e2,_,q⟩:=q;⟨i,j,e1,e2,q⟩)
noncomputable abbrev CT:Int->Int->Prop:=fun _ _=>True
def subW:W->W->M W:=iiW CT fun i j=>.int (i - j)
theorem x5 {a b:Expr}{pos:Pos}{fa fb:Env'->M W}(ha:JE X E a fa)(hb:JE X E b fb):JE X E (.BinOp a .Sub b pos) (m2 subW fa fb):=
 jB (opR0 xA) (fw fun _ _ _=>rv_int.mpr rfl) ha hb
noncomputable def CDivB (i j:Int):Prop:=0<j/\j<2 ^ 200
instance (i j:Int):Decidable (CDivB i j):=by unfold CDivB;infer_instance
theorem rZ:OpR X (binaryOp .FloorDiv) (rI CDivB fun i j=>.int (i / j)):=opI fun i j _ _ _ _ _ hc q=>by
 have h1:(0:Int)<j:=hc.1
 have h2:j<2 ^ 200:=hc.2
 refine floordiv_int (by omega) (by rw[Int.fdiv_eq_ediv_of_nonneg i (by omega)];exact q) (.inl (PyProof.noPylong_of_log2 ?_))
 have h3:j.natAbs<2 ^ 200:=by omega
 exact Nat.lt_of_lt_of_le ((Nat.log2_lt (by omega)).mpr h3) (by decide)
def fdivW:W->W->M W:=iiW CDivB fun i j=>.int (i / j)
theorem ve {a b:Expr}{pos:Pos}{fa fb:Env'->M W}(ha:JE X E a fa)(hb:JE X E b fb):JE X E (.BinOp a .FloorDiv b pos) (m2 fdivW fa fb):=
 jB rZ (fw fun _ _ _=>rv_int.mpr rfl) ha hb
noncomputable abbrev CMod:Int->Int->Prop:=fun _ j=>0<j
def modW:W->W->M W:=iiW CMod fun i j=>.int (i % j)
theorem yc {a b:Expr}{pos:Pos}{fa fb:Env'->M W}(ha:JE X E a fa)(hb:JE X E b fb):JE X E (.BinOp a .Mod b pos) (m2 modW fa fb):=
 jB xE (fw fun _ _ _=>rv_int.mpr rfl) ha hb
instance (i j:Int):Decidable (CPow i j):=by unfold CPow;infer_instance
def powW:W->W->M W:=iiW CPow fun i j=>.int (i ^ j.toNat)
theorem x9 {a b:Expr}{pos:Pos}{fa fb:Env'->M W}(ha:JE X E a fa)(hb:JE X E b fb):JE X E (.BinOp a .Pow b pos) (m2 powW fa fb):=
 jB xC (fw fun _ _ _=>rv_int.mpr rfl) ha hb
noncomputable abbrev CShr:Int->Int->Prop:=fun _ j=>0<=j
def shrW:W->W->M W:=iiW CShr fun i j=>.int (i / 2 ^ j.toNat)
theorem x8 {a b:Expr}{pos:Pos}{fa fb:Env'->M W}(ha:JE X E a fa)(hb:JE X E b fb):JE X E (.BinOp a .RShift b pos) (m2 shrW fa fb):=
 jB xB (fw fun _ _ _=>rv_int.mpr rfl) ha hb
theorem uV {z:Str}{n:Int}(h0:0<=n)(h1:n<=10000)(h:z.length<=30000)(hz:z.length * n.toNat<=1000000):MulOk z n:=by
 refine⟨?_,fun a b=>?_,fun a b=>?_⟩
 ·rw[Bool.or_eq_false_iff,decide_eq_false_iff_not,decide_eq_false_iff_not];omega
 ·have:(100000000000000:Int)<=(2 ^ 63 - 1) / n:=Int.le_ediv_of_mul_le (by omega) (by omega)
  omega
 ·unfold Builtin.Str.tooLong
  have:sizeLine=16777216:=by decide
  exact decide_eq_false (by omega)
instance (i j:Int):Decidable (CMul i j):=by unfold CMul;infer_instance
instance (i j:Int):Decidable (CMulB i j):=by unfold CMulB;infer_instance
def CMulA (i j:Int):Prop:=CMul i j\/CMulB i j
instance (i j:Int):Decidable (CMulA i j):=by unfold CMulA;infer_instance
theorem op_mulA:OpR X (binaryOp .Mult) (rI CMulA fun i j=>.int (i * j)):=opI fun _ _ _ _ _ _ _ hc q=>mul_int q (by rcases hc with h|h;exact h.ok;exact h.ok)
def mulW (x y:W):M W:=match x,y with
 |.int i,.int j=>gd (CMulA i j) (pr (.int (i * j)))
 |.str z,.int n=>gd (0<=n/\n<=10000/\z.length<=30000/\z.length * n.toNat<=1000000) (pr (.str (Txt.mul z n)))
 |x,.int n=>bd (lstO x) fun l=>gd (0<=n/\n<=1000000/\l.length * n.toNat<=sizeLine) (pr (.tl (List.replicate n.toNat l).flatten))
 |_,_=>no
theorem Rvs.rep {K:PySem.W.Frag}{o:Wo}{l:List W}{vs:List V}(h:Rvs K o l vs): ∀n:Nat,Rvs K o (List.replicate n l).flatten (List.replicate n vs).flatten
 |0=>Rvs.nil
 |n+1=>by rw[List.replicate_succ,List.replicate_succ,List.flatten_cons,List.flatten_cons];exact h.app (Rvs.rep h n)
theorem uH:OpM X E (fun x y H Q=>rI CMulA (fun i j=>.int (i * j)) x y H Q\/(fun x y H Q=>(fun x y H Q=> ∃ (z:Str) (n:Int),x=.str z/\y=.int n/\MulOk z n/\Q (.str (Txt.mul z n)) H) x y H Q\/rRep x y H Q) x y H Q) mulW:=by
 intro o x y vx vy Q R rx ry h
 unfold mulW at h
 split at h
 ·obtain⟨hz,h⟩:=h.gd
  exact .inl ⟨_,_,rv_int.mp rx,rv_int.mp ry,hz,h.pr R (rv_int.mpr rfl)⟩
 ·obtain⟨hz,h⟩:=h.gd
  exact .inr (.inl ⟨_,_,rv_str.mp rx,rv_int.mp ry,uV hz.1 hz.2.1 hz.2.2.1 hz.2.2.2,h.pr R (rv_str.mpr rfl)⟩)
 ·obtain⟨l,a,vs,e1,s1,r1,h⟩:=dU R rx h
  obtain⟨hz,h⟩:=h.gd
  exact .inr (.inr ⟨a,_,vs,e1,rv_int.mp ry,s1,by omega,by omega,by rw[r1.len];exact hz.2.2,fun q hq=>iX R hq (r1.rep _) h⟩)
 ·exact h.elim
theorem yb {a b:Expr}{pos:Pos}{fa fb:Env'->M W}(ha:JE X E a fa)(hb:JE X E b fb):JE X E (.BinOp a .Mult b pos) (m2 mulW fa fb):=
 jB (op_mulA.or (op_mul_str.or rX)) uH ha hb
def ltW:W->W->M W:=iiW CT fun i j=>.bl (decide (i<j))
def leW:W->W->M W:=iiW CT fun i j=>.bl (decide (i<=j))
def gtW:W->W->M W:=iiW CT fun i j=>.bl (decide (j<i))
def geW:W->W->M W:=iiW CT fun i j=>.bl (decide (j<=i))
theorem xr:OpM X E (rI CT fun i j=>.bl (decide (i<j))) ltW:=fw fun _ _ _=>rv_bl.mpr rfl
theorem xt:OpM X E (rI CT fun i j=>.bl (decide (i<=j))) leW:=fw fun _ _ _=>rv_bl.mpr rfl
theorem xw:OpM X E (rI CT fun i j=>.bl (decide (j<i))) gtW:=fw fun _ _ _=>rv_bl.mpr rfl
theorem xx:OpM X E (rI CT fun i j=>.bl (decide (j<=i))) geW:=fw fun _ _ _=>rv_bl.mpr rfl
theorem y9:OpR X (compareOp .Lt) (rI CT fun i j=>.bl (decide (i<j))):=opR0 rY
theorem za:OpR X (compareOp .LtE) (rI CT fun i j=>.bl (decide (i<=j))):=opR0 zh
theorem zc:OpR X (compareOp .Gt) (rI CT fun i j=>.bl (decide (j<i))):=opR0 kj
theorem zd:OpR X (compareOp .GtE) (rI CT fun i j=>.bl (decide (j<=i))):=opR0 zi
noncomputable def vOf:W->Option V
 |.non=>some .non
 |.bl b=>some (.bl b)
 |.int i=>some (.int i)
 |.str x=>some (.str x)
 |_=>none
theorem kH {K:PySem.W.Frag}{o:Wo}{x:W}{v u:V}(e:vOf x=some u)(h:Rv K o x v):v=u:=by
 cases x with
 |non=>cases e;exact rv_non.mp h
 |bl _=>cases e;exact rv_bl.mp h
 |int _=>cases e;exact rv_int.mp h
 |str _=>cases e;exact rv_str.mp h
 |_=>cases e
theorem lT {x:W}{u:V}(e:vOf x=some u):flatV u=true:=by
 cases x<;>first|(cases e;done)|(cases e;rfl)
def vsOf:List W->Option (List V)
 |[]=>some []
 |w::l=>match vOf w,vsOf l with
  |some v,some vs=>some (v::vs)
  |_,_=>none
theorem oP {K:PySem.W.Frag}{o:Wo}: ∀ {l:List W}{vs us:List V},vsOf l=some us->Rvs K o l vs->vs=us
 |[],vs,us,e,h=>by unfold Rvs at h;cases e;exact h
 |w::l,vs,us,e,h=>by
  unfold Rvs at h
  obtain⟨v,r,rfl,h1,h2⟩:=h
  unfold vsOf at e
  split at e
  ·rename_i v' vs' e1 e2
   cases e
   rw[kH e1 h1,oP e2 h2]
  ·cases e
theorem j3: ∀ {l:List W}{us:List V},vsOf l=some us->us.all flatV=true
 |[],us,e=>by cases e;rfl
 |w::l,us,e=>by
  unfold vsOf at e
  split at e
  ·rename_i v' vs' e1 e2
   cases e
   rw[List.all_cons,lT e1,j3 e2];rfl
  ·cases e
end
end
section
noncomputable def optL {α β:Type}(f:α->Option β):List α->Option (List β)
 |[]=>some []
 |a::l=>match f a,optL f l with
  |some b,some r=>some (b::r)
  |_,_=>none
def dataH (h:List Ob):Nat->W->Option PyData
 |0,_=>none
 |_+1,.non=>some .none
 |_+1,.bl b=>some (.bool b)
 |_+1,.int i=>some (.int i)
 |_+1,.str x=>some (.str x)
 |n+1,.tup l=>(optL (dataH h n) l).map .tuple
 |n+1,.tl l=>(optL (dataH h n) l).map .list
 |n+1,.cl l=>(optL (dataH h n) l).map .list
 |n+1,.loc k=>match h[k]? with
  |some (.lst l)=>(optL (dataH h n) l).map .list
  |_=>none
 |_+1,_=>none
section
variable {K:PySem.W.Frag}{o:Wo}
theorem jr {n:Nat}(ih: ∀w v d,dataH o.h n w=some d->Rv K o w v->Den K o.H v d/\d.depth<=n): ∀ {l:List W}{vs:List V}{ds:List PyData},optL (dataH o.h n) l=some ds->Rvs K o l vs->DenAll K o.H vs ds/\PyData.depthAll ds<=n
 |[],vs,ds,e,h=>by unfold Rvs at h;cases e;rw[h];exact⟨.nil,by simp [PyData.depthAll]⟩
 |w::l,vs,ds,e,h=>by
  unfold Rvs at h
  obtain⟨v,r,rfl,h1,h2⟩:=h
  unfold optL at e
  split at e
  ·rename_i d ds' e1 e2
   cases e
   obtain⟨a1,a2⟩:=ih w v d e1 h1
   obtain⟨b1,b2⟩:=jr ih e2 h2
   exact⟨.cons a1 b1,by rw[PyData.depthAll];omega⟩
  ·cases e
theorem iL (R:Rel K o): ∀ (n:Nat) (w:W) (v:V) (d:PyData),dataH o.h n w=some d->Rv K o w v->Den K o.H v d/\d.depth<=n
 |0,_,_,_,e,_=>by cases e
 |n+1,w,v,d,e,h=>by
  have ih:=iL R n
  have seq: ∀ {l:List W}{a:Addr}{vs:List V}{ds:List PyData},optL (dataH o.h n) l=some ds->SqL K o.H a vs->Rvs K o l vs->Den K o.H (.ref a) (.list ds)/\(PyData.list ds).depth<=n+1:=fun{l a vs ds} e s r=>by
   obtain⟨b1,b2⟩:=jr ih e r
   refine⟨.lst s b1,?_⟩
   rw[PyData.depth];omega
  cases w with
  |non=>cases e;rw[rv_non.mp h];exact⟨.non,by simp [PyData.depth]⟩
  |bl b=>cases e;rw[rv_bl.mp h];exact⟨.bl b,by simp [PyData.depth]⟩
  |int b=>cases e;rw[rv_int.mp h];exact⟨.int b,by simp [PyData.depth]⟩
  |str b=>cases e;rw[rv_str.mp h];exact⟨.str b,by simp [PyData.depth]⟩
  |ty b=>cases e
  |exc b=>cases e
  |cls b=>cases e
  |dv a b=>cases e
  |dn a b c=>cases e
  |kt a=>cases e
  |tup l=>
   unfold dataH at e
   obtain⟨ds,e1,rfl⟩:=Option.map_eq_some_iff.mp e
   unfold Rv at h
   obtain⟨a,vs,rfl,s,r⟩:=h
   obtain⟨b1,b2⟩:=jr ih e1 r
   refine⟨.tup s b1,?_⟩
   rw[PyData.depth];omega
  |tl l=>
   unfold dataH at e
   obtain⟨ds,e1,rfl⟩:=Option.map_eq_some_iff.mp e
   unfold Rv at h
   obtain⟨a,vs,rfl,s,_,r⟩:=h
   exact seq e1 (.of s) r
  |cl l=>
   unfold dataH at e
   obtain⟨ds,e1,rfl⟩:=Option.map_eq_some_iff.mp e
   unfold Rv at h
   obtain⟨a,vs,rfl,s,r⟩:=h
   refine seq e1 ?_ r
   rcases s with⟨s,_⟩|s
   ·exact .inl s
   ·exact .inr s
  |loc k=>
   unfold dataH at e
   split at e
   ·rename_i l hk
    obtain⟨ds,e1,rfl⟩:=Option.map_eq_some_iff.mp e
    unfold Rv at h
    obtain⟨vs,h1,h2⟩:=R.ob k _ hk
    rw[h.2]
    exact seq e1 (.of h1) h2
   ·cases e
end
def eqB (x y:W)(h:List Ob):Option Bool:=match vOf x,vOf y with
 |some a,some b=>if scal a b=true then some (decide (a=b)) else match dataH h 50 x,dataH h 50 y with
  |some d,some e=>if d.canLay0=true/\e.canLay0=true then some (PyData.eqv d e) else none
  |_,_=>none
 |_,_=>match dataH h 50 x,dataH h 50 y with
  |some d,some e=>if d.canLay0=true/\e.canLay0=true then some (PyData.eqv d e) else none
  |_,_=>none
def eqW (x y:W):M W:=fun h=>match eqB x y h with
 |some b=>.ok (.bl b) h
 |none=>.bad
def neW (x y:W):M W:=fun h=>match eqB x y h with
 |some b=>.ok (.bl (!b)) h
 |none=>.bad
section
variable {X:Cx}{E:XK}
theorem tQ {o:Wo}{x y:W}{vx vy:V}{b:Bool}(hu:X.A.units+64<cLine)(R:Rel X.K o)(rx:Rv X.K o x vx)(ry:Rv X.K o y vy)(e:eqB x y o.h=some b):
  (scal vx vy=true/\b=decide (vx=vy))\/ ∃d e,Den X.K o.H vx d/\Den X.K o.H vy e/\d.canLay0=true/\e.canLay0=true/\X.A.units+min d.depth e.depth<cLine/\b=PyData.eqv d e:=by
 have deep:(match dataH o.h 50 x,dataH o.h 50 y with
  |some d,some e=>if d.canLay0=true/\e.canLay0=true then some (PyData.eqv d e) else none
  |_,_=>none)=some b-> ∃d e,Den X.K o.H vx d/\Den X.K o.H vy e/\d.canLay0=true/\e.canLay0=true/\X.A.units+min d.depth e.depth<cLine/\b=PyData.eqv d e:=fun q=>by
  split at q
  ·rename_i d e' e1 e2
   split at q
   ·rename_i hc
    obtain⟨a1,a2⟩:=iL R _ _ _ _ e1 rx
    obtain⟨b1,b2⟩:=iL R _ _ _ _ e2 ry
    exact⟨d,e',a1,b1,hc.1,hc.2,by omega,(Option.some.inj q).symm⟩
   ·cases q
  ·cases q
 unfold eqB at e
 split at e
 ·rename_i a c e1 e2
  split at e
  ·rename_i hs
   rw[kH e1 rx,kH e2 ry]
   exact .inl ⟨hs,(Option.some.inj e).symm⟩
  ·exact .inr (deep e)
 ·exact .inr (deep e)
theorem xy (hu:X.A.units+64<cLine):OpM X E (fun x y H Q=>rEq x y H Q\/rEqD X.K X.A false x y H Q) eqW:=by
 intro o x y vx vy Q R rx ry h
 unfold eqW at h
 cases e:eqB x y o.h with
 |none=>rw[e] at h;exact h.elim
 |some b=>
  rw[e] at h
  have q:Q (.bl b) o.H:=Ps.pr (c:=cg X E) (r:=Rv X.K) (a:=W.bl b) h R (rv_bl.mpr rfl)
  rcases tQ hu R rx ry e with⟨s,rfl⟩|⟨d,e',a1,a2,a3,a4,a5,rfl⟩
  ·exact .inl ⟨s,q⟩
  ·exact .inr ⟨d,e',a1,a2,a3,a4,a5,by rw[if_neg Bool.false_ne_true];exact q⟩
theorem xq (hu:X.A.units+64<cLine):OpM X E (fun x y H Q=>rNe x y H Q\/rEqD X.K X.A true x y H Q) neW:=by
 intro o x y vx vy Q R rx ry h
 unfold neW at h
 cases e:eqB x y o.h with
 |none=>rw[e] at h;exact h.elim
 |some b=>
  rw[e] at h
  have q:Q (.bl (!b)) o.H:=Ps.pr (c:=cg X E) (r:=Rv X.K) (a:=W.bl (!b)) h R (rv_bl.mpr rfl)
  rcases tQ hu R rx ry e with⟨s,rfl⟩|⟨d,e',a1,a2,a3,a4,a5,rfl⟩
  ·exact .inl ⟨s,q⟩
  ·exact .inr ⟨d,e',a1,a2,a3,a4,a5,by rw[if_pos rfl];exact q⟩
theorem ze:OpR X (compareOp .Eq) (fun x y H Q=>rEq x y H Q\/rEqD X.K X.A false x y H Q):=op_eq.or xG
theorem y8:OpR X (compareOp .NotEq) (fun x y H Q=>rNe x y H Q\/rEqD X.K X.A true x y H Q):=op_ne.or xD
def keyOf:W->Option Key
 |.int i=>some (.inl i)
 |.str x=>some (.inr x)
 |_=>none
theorem mM {K:PySem.W.Frag}{o:Wo}{x:W}{v:V}{k:Key}(e:keyOf x=some k)(h:Rv K o x v):v=kV k:=by
 cases x with
 |int _=>cases e;exact rv_int.mp h
 |str _=>cases e;exact rv_str.mp h
 |_=>cases e
def dicOf (w:W)(h:List Ob):Option (List Key×List W):=match w with
 |.dv ks ws=>some (ks,ws)
 |.loc k=>match h[k]? with
  |some (.dic ks ws)=>some (ks,ws)
  |_=>none
 |_=>none
theorem nj {o:Wo}{w:W}{v:V}{ks:List Key}{ws:List W}(R:Rel X.K o)(e:dicOf w o.h=some (ks,ws))(h:Rv X.K o w v): ∃a kvs,v=.ref a/\Rd o.H a (.dK kvs)/\kvs.map (·.1)=ks/\Rvs X.K o ws (kvs.map (·.2)):=by
 cases w with
 |dv a b=>
  cases e
  unfold Rv at h
  obtain⟨a,kvs,e,h1,_,h2,h3⟩:=h
  exact⟨a,kvs,e,h1,h2,h3⟩
 |loc k=>
  unfold dicOf at e
  dsimp only at e
  split at e
  ·rename_i a b hk
   cases e
   unfold Rv at h
   obtain⟨kvs,h1,h2,h3⟩:=R.ob k _ hk
   exact⟨_,kvs,h.2,.inl h1,h2,h3⟩
  ·cases e
 |_=>cases e
noncomputable def atK {κ:Type} [DecidableEq κ]:List κ->List W->κ->Option W
 |k::ks,w::ws,x=>if k=x then some w else atK ks ws x
 |_,_,_=>none
theorem lN {κ:Type} [DecidableEq κ] {K:PySem.W.Frag}{o:Wo}{x:κ}: ∀ {ks:List κ}{ws:List W}{kvs:List (κ×V)},kvs.map (·.1)=ks->Rvs K o ws (kvs.map (·.2))->match atK ks ws x with
  |some w=> ∃v,valV kvs x=some v/\Rv K o w v
  |none=>valV kvs x=none
 |[],_,[],_,_=>rfl
 |_,_,(k,v)::r,e,h=>by
  subst e
  cases ‹List W› with
  |nil=>unfold Rvs at h;cases h
  |cons w ws=>
   unfold Rvs at h
   obtain⟨v',r',e',h1,h2⟩:=h
   cases e'
   have ih:=lN (x:=x) (ks:=r.map (·.1)) (ws:=ws) (kvs:=r) rfl h2
   show match (if k=x then some w else atK (r.map (·.1)) ws x) with
    |some w=> ∃v',valV ((k,v)::r) x=some v'/\Rv K o w v'
    |none=>valV ((k,v)::r) x=none
   by_cases z:k=x
   ·rw[if_pos z]
    exact⟨v,by unfold valV;rw[List.find?_cons_of_pos (by simpa using z)];rfl,h1⟩
   ·rw[if_neg z]
    have ev:valV ((k,v)::r) x=valV r x:=by unfold valV;rw[List.find?_cons_of_neg (by simpa using z)]
    rw[ev]
    exact ih
def inB (x y:W)(h:List Ob):Option Bool:=match y with
 |.str b=>match x with
  |.str a=>some (!(Builtin.Str.occurrences b a 0 b.length 1).isEmpty)
  |_=>none
 |.tup l=>match vOf x,vsOf l with
  |some v,some vs=>some (inV v vs)
  |_,_=>none
 |y=>match dicOf y h with
  |some (ks,ws)=>match keyOf x with
   |some k=>some (atK ks ws k).isSome
   |none=>none
  |none=>match lstOf y h with
   |.ok l _=>match vOf x,vsOf l with
    |some v,some vs=>some (inV v vs)
    |_,_=>none
   |_=>none
def inW (x y:W):M W:=fun h=>match inB x y h with
 |some b=>.ok (.bl b) h
 |none=>.bad
def bS (x y:W):M W:=fun h=>match inB x y h with
 |some b=>.ok (.bl (!b)) h
 |none=>.bad
theorem mJ {o:Wo}{w:W}{v:V}{l:List W}{h':List Ob}(R:Rel X.K o)(hr:Rv X.K o w v)(e:lstOf w o.h=.ok l h'):h'=o.h/\ ∃a vs,v=.ref a/\SqL X.K o.H a vs/\Rvs X.K o l vs:=by
 have hh:h'=o.h:=by
  cases w with
  |tl l'=>cases e;rfl
  |cl l'=>cases e;rfl
  |loc j=>
   unfold lstOf at e
   dsimp only at e
   split at e
   ·cases e;rfl
   ·cases e
  |_=>cases e
 subst hh
 have h:Ps (cg X (fun _ _ _=>False)) (fun (_:Wo) (a:List W) (b:List W)=>a=b) o (bd (lstOf w) (fun l=>pr l) o.h) (fun b _=>b=l):=by
  unfold bd
  rw[e]
  intro p b _ _ _ q
  exact q.symm
 obtain⟨m,a,vs,e1,e2,e3,h⟩:=ij R hr h
 have:m=l:=h.pr R rfl
 subst this
 exact⟨rfl,a,vs,e1,e2,e3⟩
def rInD:R2:=fun x y H Q=> ∃a ov,y=.ref a/\DGet H a x ov/\Q (.bl ov.isSome) H
def oX:R2:=fun x y H Q=> ∃a ov,y=.ref a/\DGet H a x ov/\Q (.bl (!ov.isSome)) H
theorem xF (hu:X.A.units+1<cLine):OpR X (compareOp .In) rInD:=by
 intro pins s σ H x y v u Q I rx ry h
 obtain⟨a,ov,rfl,g,q⟩:=h
 cases ry
 exact Af hu I g rx fun s3 I3=>⟨.bl ov.isSome,H,I3,rfl,q⟩
theorem qm (hu:X.A.units+1<cLine):OpR X (compareOp .NotIn) oX:=by
 intro pins s σ H x y v u Q I rx ry h
 obtain⟨a,ov,rfl,g,q⟩:=h
 cases ry
 exact vL hu I g rx fun s3 I3=>⟨.bl (!ov.isSome),H,I3,rfl,q⟩
theorem sV {o:Wo}{x y:W}{vx vy:V}{b:Bool}(R:Rel X.K o)(rx:Rv X.K o x vx)(ry:Rv X.K o y vy)(e:inB x y o.h=some b):
  (∃i j,vx=.str i/\vy=.str j/\b=(!(Builtin.Str.occurrences j i 0 j.length 1).isEmpty))\/(∃p xs,vy=.ref p/\(SqL X.K o.H p xs\/SqT X.K o.H p xs)/\flatV vx=true/\xs.all flatV=true/\b=inV vx xs)\/ ∃a ov,vy=.ref a/\DGet o.H a vx ov/\b=ov.isSome:=by
 have fl: ∀ {l:List W}{vs:List V},Rvs X.K o l vs->(match vOf x,vsOf l with
    |some v,some vs=>some (inV v vs)
    |_,_=>none)=some b->flatV vx=true/\vs.all flatV=true/\b=inV vx vs:=fun{l vs} r q=>by
  split at q
  ·rename_i v us e1 e2
   rw[kH e1 rx,oP e2 r]
   exact⟨lT e1,j3 e2,(Option.some.inj q).symm⟩
  ·cases q
 unfold inB at e
 split at e
 ·split at e
  ·exact .inl ⟨_,_,rv_str.mp rx,rv_str.mp ry,(Option.some.inj e).symm⟩
  ·cases e
 ·unfold Rv at ry
  obtain⟨a,vs,rfl,s,r⟩:=ry
  obtain⟨f1,f2,f3⟩:=fl r e
  exact .inr (.inl ⟨a,vs,rfl,.inr s,f1,f2,f3⟩)
 ·split at e
  ·rename_i ks ws hd
   split at e
   ·rename_i k hk
    obtain⟨a,kvs,rfl,h1,h2,h3⟩:=nj R hd ry
    rw[mM hk rx]
    refine .inr (.inr ⟨a,valV kvs k,rfl,.inl ⟨kvs,k,h1,rfl,rfl⟩,?_⟩)
    rw[<-Option.some.inj e]
    have:=lN (x:=k) h2 h3
    cases q:atK ks ws k with
    |none=>rw[q] at this;rw[show valV kvs k=none from this];rfl
    |some w=>rw[q] at this;obtain⟨v,hv,_⟩:=this;rw[hv];rfl
   ·cases e
  ·split at e
   ·rename_i l h' hl
    obtain⟨rfl,a,vs,rfl,s,r⟩:=mJ R ry hl
    obtain⟨f1,f2,f3⟩:=fl r e
    exact .inr (.inl ⟨a,vs,rfl,.inl s,f1,f2,f3⟩)
   ·cases e
noncomputable abbrev rInA (X:Cx):R2:=fun x y H Q=>(fun x y H Q=> ∃i j,x=.str i/\y=.str j/\Q (.bl (!(Builtin.Str.occurrences j i 0 j.length 1).isEmpty)) H) x y H Q\/(fun x y H Q=>rIn X.K false x y H Q\/rInD x y H Q) x y H Q
noncomputable abbrev oY (X:Cx):R2:=fun x y H Q=>(fun x y H Q=> ∃i j,x=.str i/\y=.str j/\Q (.bl (!(!(Builtin.Str.occurrences j i 0 j.length 1).isEmpty))) H) x y H Q\/(fun x y H Q=>rIn X.K true x y H Q\/oX x y H Q) x y H Q
theorem zb (hu:X.A.units+1<cLine):OpR X (compareOp .In) (rInA X):=op_in_str.or (op_in_seq.or (xF hu))
theorem rW (hu:X.A.units+1<cLine):OpR X (compareOp .NotIn) (oY X):=op_notIn_str.or (op_notIn_seq.or (qm hu))
theorem xv:OpM X E (rInA X) inW:=by
 intro o x y vx vy Q R rx ry h
 unfold inW at h
 cases e:inB x y o.h with
 |none=>rw[e] at h;exact h.elim
 |some b=>
  rw[e] at h
  have q:Q (.bl b) o.H:=Ps.pr (c:=cg X E) (r:=Rv X.K) (a:=W.bl b) h R (rv_bl.mpr rfl)
  rcases sV R rx ry e with⟨i,j,e1,e2,rfl⟩|⟨p,xs,e1,e2,e3,e4,rfl⟩|⟨a,ov,e1,e2,rfl⟩
  ·exact .inl ⟨i,j,e1,e2,q⟩
  ·exact .inr (.inl ⟨p,xs,e1,e2,e3,e4,by rw[if_neg Bool.false_ne_true];exact q⟩)
  ·exact .inr (.inr ⟨a,ov,e1,e2,q⟩)
theorem qk:OpM X E (oY X) bS:=by
 intro o x y vx vy Q R rx ry h
 unfold bS at h
 cases e:inB x y o.h with
 |none=>rw[e] at h;exact h.elim
 |some b=>
  rw[e] at h
  have q:Q (.bl (!b)) o.H:=Ps.pr (c:=cg X E) (r:=Rv X.K) (a:=W.bl (!b)) h R (rv_bl.mpr rfl)
  rcases sV R rx ry e with⟨i,j,e1,e2,rfl⟩|⟨p,xs,e1,e2,e3,e4,rfl⟩|⟨a,ov,e1,e2,rfl⟩
  ·exact .inl ⟨i,j,e1,e2,q⟩
  ·exact .inr (.inl ⟨p,xs,e1,e2,e3,e4,by rw[if_pos rfl];exact q⟩)
  ·exact .inr (.inr ⟨a,ov,e1,e2,q⟩)
theorem Rvs.atI {K:PySem.W.Frag}{o:Wo}{l:List W}{vs:List V}{i:Int}{w:W}(h:Rvs K o l vs)(e:L2.atI l i=some w): ∃v,L2.atI vs i=some v/\Rv K o w v:=by
 unfold L2.atI at e ⊢
 rw[h.len]
 cases q:ixN l.length i with
 |none=>rw[q] at e;cases e
 |some j=>rw[q] at e;exact h.get e
def ixO (x y:W)(h:List Ob):Option W:=match dicOf x h with
 |some (ks,ws)=>match keyOf y with
  |some k=>atK ks ws k
  |none=>none
 |none=>match y with
  |.int i=>match x with
   |.str z=>if z.length<=sizeLine then (atI z.cps.toList i).map fun c=>.str ⟨#[c]⟩ else none
   |.tup l=>atI l i
   |x=>match lstOf x h with
    |.ok l _=>atI l i
    |_=>none
  |_=>none
def ixW (x y:W):M W:=fun h=>match ixO x y h with
 |some w=>.ok w h
 |none=>.bad
def rIxD:R2:=fun x y H Q=> ∃a v,x=.ref a/\DGet H a y (some v)/\Q v H
theorem vo (hu:X.A.units+1<cLine):IxR X rIxD:=by
 intro value slice pins s σ H x y v u Q I rx ry h hs
 obtain⟨a,z,rfl,g,q⟩:=h
 cases rx
 exact tail_any (ni I g) PySem.F.slot_dict_getitem.lookup (qO hu I g ry fun w' s3 I3 rw'=>⟨z,H,I3,rw',q⟩) hs
theorem xu:OpM X E (fun x y H Q=>rIx X.K x y H Q\/rIxD x y H Q) ixW:=by
 intro o x y vx vy Q R rx ry h
 unfold ixW at h
 cases e:ixO x y o.h with
 |none=>rw[e] at h;exact h.elim
 |some w=>
  rw[e] at h
  have q: ∀ {v:V},Rv X.K o w v->Q v o.H:=fun{v} hv=>Ps.pr (c:=cg X E) (r:=Rv X.K) (a:=w) h R hv
  unfold ixO at e
  split at e
  ·rename_i ks ws hd
   split at e
   ·rename_i k hk
    obtain⟨a,kvs,rfl,h1,h2,h3⟩:=nj R hd rx
    have:=lN (x:=k) h2 h3
    rw[e] at this
    obtain⟨v,hv,rv⟩:=this
    rw[mM hk ry]
    exact .inr ⟨a,v,rfl,.inl ⟨kvs,k,h1,rfl,hv.symm⟩,q rv⟩
   ·cases e
  ·split at e
   ·split at e
    ·split at e
     ·rename_i hz
      obtain⟨c,hc,rfl⟩:=Option.map_eq_some_iff.mp e
      exact .inl (.inr (.inr ⟨_,_,c,rv_str.mp rx,rv_int.mp ry,hz,hc,q (rv_str.mpr rfl)⟩))
     ·cases e
    ·unfold Rv at rx
     obtain⟨a,vs,rfl,s,r⟩:=rx
     obtain⟨v,hv,rv⟩:=r.atI e
     exact .inl (.inr (.inl ⟨a,vs,_,v,rfl,rv_int.mp ry,s,hv,q rv⟩))
    ·split at e
     ·rename_i l h' hl
      obtain⟨rfl,a,vs,rfl,s,r⟩:=mJ R rx hl
      obtain⟨v,hv,rv⟩:=r.atI e
      exact .inl (.inl ⟨a,vs,_,v,rfl,rv_int.mp ry,s,hv,q rv⟩)
     ·cases e
   ·cases e
theorem zy {a b:Expr}{pos:Pos}{fa fb:Env'->M W}(hu:X.A.units+1<cLine)(ha:JE X E a fa)(hb:JE X E b fb)(hs:lP b):JE X E (.Subscript a b pos) (m2 ixW fa fb):=
 (o5 (ix_seq.or (vo hu)) ha.h hb.h hs).imp fun _ _ _ h=>um xu h
def cutW {α:Type}(xs:List α)(lo hi:Option Int):List α:=(xs.drop (HT.sIx xs.length 0 lo)).take (HT.sIx xs.length xs.length hi - HT.sIx xs.length 0 lo)
theorem Rvs.cut {K:PySem.W.Frag}{o:Wo}{l:List W}{vs:List V}(h:Rvs K o l vs)(lo hi:Option Int):Rvs K o (cutW l lo hi) (cutV vs lo hi):=by
 unfold cutW cutV
 rw[h.len]
 exact (h.drop _).take _
def aI:Env'->M (Option Int):=fun _=>pr none
def mPart (f:Env'->M W):Env'->M (Option Int):=fun ρ=>bd (f ρ) fun w=>match w with
 |.int i=>pr (some i)
 |_=>no
noncomputable abbrev tP (c:Cg)(f:Env'->M (Option Int)):TO:=tG c (fun _ a b=>a=b) f
structure JO (X:Cx)(E:XK)(e:Option Expr)(f:Env'->M (Option Int)):Prop where
 h:PO X e (tP (cg X E) f)
theorem PO.imp {e:Option Expr}{t:TO}{f:Env'->M (Option Int)}(h:PO X e t)(k:∀σ H Q,tP (cg X E) f σ H Q->t σ H Q):JO X E e f:=⟨fun pins s σ H Q I q=>h pins s σ H Q I (k σ H Q q)⟩
theorem u2:JO X E none aI:=po_none.imp fun σ H Q h=>by
 obtain⟨o,ρ,rfl,R,S,h⟩:=h
 exact h.pr R rfl
theorem uZ {e:Expr}{f:Env'->M W}(he:JE X E e f):JO X E (some e) (mPart f):=(kT he.h).imp fun σ H Q h=>by
 obtain⟨o,ρ,rfl,R,S,h⟩:=h
 refine⟨o,ρ,rfl,R,S,Ps.bd h fun p x vx e1 R1 r1 h1=>?_⟩
 cases x with
 |int i=>exact⟨i,rv_int.mp r1,h1.pr R1 rfl⟩
 |_=>exact h1.elim
def slW (x:W)(lo hi:Option Int):M W:=match x with
 |.str z=>gd (z.length<=sizeLine) (pr (.str (StrLaws.sliceText z lo hi)))
 |.tup l=>gd (¬(HT.sIx l.length 0 lo=0/\HT.sIx l.length l.length hi=l.length)) (pr (.tup (cutW l lo hi)))
 |x=>bd (lstOf x) fun l=>pr (.tl (cutW l lo hi))
def m3 (f:W->Option Int->Option Int->M W)(fa:Env'->M W)(fl fh:Env'->M (Option Int)):Env'->M W:=fun ρ=>bd (fa ρ) fun x=>bd (fl ρ) fun a=>bd (fh ρ) fun b=>f x a b
theorem zv {e:Expr}{lo hi:Option Expr}{p2 pos:Pos}{fa:Env'->M W}{fl fh:Env'->M (Option Int)}(he:JE X E e fa)(hl:JO X E lo fl)(hh:JO X E hi fh):
  JE X E (.Subscript e (.Slice lo hi none p2) pos) (m3 slW fa fl fh):=(mi (sl_str.or (sl_tup.or uq)) he.h hl.h hh.h).imp fun σ H Q h=>by
 obtain⟨o,ρ,rfl,R,S,h⟩:=h
 refine⟨o,ρ,rfl,R,S,Ps.bd h fun p x vx e1 R1 r1 h1=>⟨p,ρ,rfl,R1,S.mono R e1,Ps.bd h1 fun q a va e2 R2 r2 h2=>⟨q,ρ,rfl,R2,(S.mono R e1).mono R1 e2,Ps.bd h2 fun w b vb e3 R3 r3 h3=>?_⟩⟩⟩
 subst r2 r3
 have rx:=(r1.mono R1 e2).mono R2 e3
 unfold slW at h3
 split at h3
 ·obtain⟨hz,h3⟩:=h3.gd
  exact .inl ⟨_,rv_str.mp rx,hz,h3.pr R3 (rv_str.mpr rfl)⟩
 ·obtain⟨hz,h3⟩:=h3.gd
  unfold Rv at rx
  obtain⟨a',vs,rfl,s,r⟩:=rx
  refine .inr (.inl ⟨a',vs,rfl,s,by rw[r.len];exact hz,fun q' hq=>kR R3 hq (r.cut _ _) h3⟩)
 ·obtain⟨l,a',vs,rfl,s,r,h3⟩:=ij R3 rx h3
  exact .inr (.inr ⟨a',vs,rfl,s,fun q' hq=>iX R3 hq (r.cut _ _) h3⟩)
def mCall (f:List W->M W)(l:Env'->M (List W)):Env'->M W:=fun ρ=>bd (l ρ) f
def CallM (X:Cx)(E:XK)(r:List V->Hp->VK->Prop)(f:List W->M W):Prop:= ∀ (o:Wo) (ws:List W) (vs:List V) (Q:VK),Rel X.K o->Rvs X.K o ws vs->Ps (cg X E) (Rv X.K) o (f ws o.h) Q->r vs o.H Q
variable {x:Str}{p pos:Pos}{e:Expr}{es:List Expr}{l:Env'->M (List W)}{f:List W->M W}{r:List V->Hp->VK->Prop}{id T:String}
theorem vW (hf:CallM X E r f){σ:St}{H:Hp}{Q:VK}(h:tM (cg X E) (mCall f l) σ H Q):tCB r (tA (cg X E) l) σ H Q:=by
 obtain⟨o,ρ,rfl,R,S,h⟩:=h
 exact⟨o,ρ,rfl,R,S,Ps.bd h fun p x vx e1 R1 r1 h1=>hf p x vx Q R1 r1 h1⟩
theorem mI (hc:CallR X (.builtin id) r)(hf:CallM X E r f)(hg:Gl X x)(hm:X.mg x=none)(hv:bootBuiltins x=some (.builtin id))(ha:JA X E (e::es) l)(hn:x≠ "__name__":=by decide)(hdb:(x==("__debug__":Str))=false:=by decide)
  (he:starEach (e::es) X.env=(false,eval e X.env)::starEach es X.env:=by rfl)(hpl:(backTo pos (starEach es X.env)).any (·.1)=false:=by rfl):JE X E (.Call (.Name x p) (e::es) [] pos) (mCall f l):=
 (cW hc hg hm hv ha.h hn hdb he hpl).imp fun _ _ _ h=>vW hf h
theorem iF (hc:CallR X (.type T) r)(hf:CallM X E r f)(hg:Gl X x)(hm:X.mg x=none)(hv:bootBuiltins x=some (.type T))(ha:JA X E (e::es) l)(hn:x≠ "__name__":=by decide)(hdb:(x==("__debug__":Str))=false:=by decide)
  (he:starEach (e::es) X.env=(false,eval e X.env)::starEach es X.env:=by rfl)(hpl:(backTo pos (starEach es X.env)).any (·.1)=false:=by rfl):JE X E (.Call (.Name x p) (e::es) [] pos) (mCall f l):=
 (kg hc hg hm hv ha.h hn hdb he hpl).imp fun _ _ _ h=>vW hf h
variable {CX:CXT}{k:Nat}{fA:Addr}{fd:FuncData}{ps:List Str}
end
end
section
inductive Fl where
 |nx (r:Env')|bk (r:Env')|ct (r:Env')|rt (w:W)
inductive FlV where
 |nx (s:St)|bk (s:St)|ct (s:St)|rt (v:V)
def RFl (K:PySem.W.Frag)(o:Wo):Fl->FlV->Prop
 |.nx r,f=> ∃s,f=.nx s/\Re K o r s
 |.bk r,f=> ∃s,f=.bk s/\Re K o r s
 |.ct r,f=> ∃s,f=.ct s/\Re K o r s
 |.rt w,f=> ∃v,f=.rt v/\Rv K o w v
def DQ (D:Ends):FlV->Hp->Prop
 |.nx s,H=>D.nx s H
 |.bk s,H=>D.bk s H
 |.ct s,H=>D.ct s H
 |.rt v,H=>D.rt v H
def tS (c:Cg)(g:Env'->M Fl):TS:=fun D σ H=>tG c (RFl c.K) g σ H (DQ D)
structure JS (X:Cx)(E:XK)(e:Stmt)(f:Env'->M Fl):Prop where
 h:PS X e (tS (cg X E) f)
structure JSs (X:Cx)(E:XK)(e:List Stmt)(f:Env'->M Fl):Prop where
 h:PSs X e (tS (cg X E) f)
theorem PSs.imp {X:Cx}{E:XK}{e:List Stmt}{t:TS}{f:Env'->M Fl}(h:PSs X e t)(k:∀D σ H,tS (cg X E) f D σ H->t D σ H):JSs X E e f:=⟨fun pins s σ H D I q=>h pins s σ H D I (k D σ H q)⟩
theorem PS.imp {X:Cx}{E:XK}{e:Stmt}{t:TS}{f:Env'->M Fl}(h:PS X e t)(k:∀D σ H,tS (cg X E) f D σ H->t D σ H):JS X E e f:=⟨fun pins s σ H D I q=>h pins s σ H D I (k D σ H q)⟩
theorem aa {α β γ:Type}(a:M α)(b:α->M β)(d:β->M γ):bd (bd a b) d=bd a fun x=>bd (b x) d:=by
 funext h
 unfold bd
 cases a h<;>rfl
section
variable {X:Cx}{E:XK}{pos:Pos}
def sNil:Env'->M Fl:=fun ρ=>pr (.nx ρ)
def sSeq (f g:Env'->M Fl):Env'->M Fl:=fun ρ=>bd (f ρ) fun x=>match x with
 |.nx r=>g r
 |x=>pr x
theorem uY:JSs X E [] sNil:=pss_nil.imp fun D σ H h=>by
 obtain⟨o,ρ,rfl,R,S,h⟩:=h
 exact h.pr R ⟨σ,rfl,S⟩
theorem wE {f g:Env'->M Fl}{D:Ends}{σ:St}{H:Hp}(h:tS (cg X E) (sSeq f g) D σ H):tSeq (tS (cg X E) f) (tS (cg X E) g) D σ H:=by
 obtain⟨o,ρ,rfl,R,S,h⟩:=h
 refine⟨o,ρ,rfl,R,S,Ps.bd h fun p x b e1 R1 r1 h1=>?_⟩
 cases x with
 |nx r=>obtain⟨s,rfl,re⟩:=r1;exact⟨p,r,rfl,R1,re,h1⟩
 |bk r=>have q:=h1.pr R1 r1;obtain⟨s,rfl,re⟩:=r1;exact q
 |ct r=>have q:=h1.pr R1 r1;obtain⟨s,rfl,re⟩:=r1;exact q
 |rt r=>have q:=h1.pr R1 r1;obtain⟨s,rfl,re⟩:=r1;exact q
theorem eW {st:Stmt}{rest:List Stmt}{f g:Env'->M Fl}(h1:JS X E st f)(h2:JSs X E rest g):JSs X E (st::rest) (sSeq f g):=(aB h1.h h2.h).imp fun D σ H h=>wE h
theorem li {st:Stmt}{f:Env'->M Fl}(h1:JS X E st f):JSs X E [st] f:=⟨aK h1.h⟩
variable {e:Expr}{f:Env'->M W}
def sSet (i:Nat)(f:Env'->M W):Env'->M Fl:=fun ρ=>bd (f ρ) fun w=>pr (.nx (ρ.set i (some w)))
theorem jz {i:Nat}{x:Str}{pos':Pos}(hN:X.N.Nodup)(hi:X.N[i]?=some x)(hx:Loc X.env.scope x)(he:JE X E e f)(hs:swapsWith e (some (.Name x pos')) pos.line X.env=pure false:=by rfl)(hf:X.fn x=true\/X.env.scope.names.lookup x=some .local :=by first|exact .inl rfl|exact .inr rfl|assumption):
  JS X E (.Assign [.Name x pos'] e pos) (sSet i f):=(dh hN hi hx he.h hs hf).imp fun D σ H h=>by
 obtain⟨o,ρ,rfl,R,S,h⟩:=h
 exact⟨o,ρ,rfl,R,S,Ps.bd h fun p x b e1 R1 r1 h1=>Ps.pr (b:=FlV.nx (σ.set i (some b))) h1 R1 ⟨_,rfl,(S.mono R e1).set r1 i⟩⟩
def sRet (f:Env'->M W):Env'->M Fl:=fun ρ=>bd (f ρ) fun w=>pr (.rt w)
theorem sB (he:JE X E e f):JS X E (.Return (some e) pos) (sRet f):=(cn he.h).imp fun D σ H h=>by
 obtain⟨o,ρ,rfl,R,S,h⟩:=h
 exact⟨o,ρ,rfl,R,S,Ps.bd h fun p x b e1 R1 r1 h1=>Ps.pr (b:=FlV.rt b) h1 R1 ⟨_,rfl,r1⟩⟩
def sEx (f:Env'->M W):Env'->M Fl:=fun ρ=>bd (f ρ) fun _=>pr (.nx ρ)
theorem pc (he:JE X E e f)(hs:swapsWith e none pos.line X.env=pure false:=by rfl):JS X E (.Expr e pos) (sEx f):=(iY he.h hs).imp fun D σ H h=>by
 obtain⟨o,ρ,rfl,R,S,h⟩:=h
 exact⟨o,ρ,rfl,R,S,Ps.bd h fun p x b e1 R1 r1 h1=>Ps.pr (b:=FlV.nx σ) h1 R1 ⟨_,rfl,S.mono R e1⟩⟩
def sIf (t:Env'->M Bool)(f g:Env'->M Fl):Env'->M Fl:=fun ρ=>bd (t ρ) fun b=>if b=true then f ρ else g ρ
theorem zr {c:Expr}{a b:List Stmt}{t:Env'->M Bool}{f g:Env'->M Fl}(hc:JT X E c t)(ha:JSs X E a f)(hb:JSs X E b g):JS X E (.If c a b pos) (sIf t f g):=(f9 hc.h ha.h hb.h).imp fun D σ H h=>by
 obtain⟨o,ρ,rfl,R,S,h⟩:=h
 refine⟨o,ρ,rfl,R,S,Ps.bd h fun p x vx e1 R1 r1 h1=>?_⟩
 subst r1
 cases x with
 |true=>exact iteT ⟨p,ρ,rfl,R1,S.mono R e1,h1⟩
 |false=>exact iteF ⟨p,ρ,rfl,R1,S.mono R e1,h1⟩
def sPass:Env'->M Fl:=fun ρ=>pr (.nx ρ)
def ck:Env'->M Fl:=fun ρ=>pr (.bk ρ)
def sCont:Env'->M Fl:=fun ρ=>pr (.ct ρ)
def qT (t:Env'->M Bool)(g:Env'->M Fl):Nat->Env'->M Fl
 |0,_=>no
 |n+1,ρ=>bd (t ρ) fun b=>if b=true then bd (g ρ) fun x=>match x with
   |.nx r=>qT t g n r
   |.ct r=>qT t g n r
   |.bk r=>pr (.nx r)
   |.rt w=>pr (.rt w)
  else pr (.nx ρ)
structure TgOk (K:PySem.W.Frag)(m:Nat)(g:TG)(t:W->Env'->Option Env'):Prop where
 ok: ∀ (o:Wo) (w:W) (v:V) (ρ ρ2:Env') (σ:St),Rv K o w v->Re K o ρ σ->t w ρ=some ρ2-> ∃σ2,(∀Q:St->Hp->Prop,Q σ2 o.H->g v σ o.H Q)/\Re K o ρ2 σ2/\σ2.drop m=σ.drop m/\σ2.length=σ.length
def tgN (i:Nat):W->Env'->Option Env':=fun w ρ=>some (ρ.set i (some w))
theorem eL {K:PySem.W.Frag}(m i:Nat)(h:i<m):TgOk K m (gName i) (tgN i):=⟨fun o w v ρ ρ2 σ rv re e=>by
 cases e
 exact⟨_,fun Q q=>q,re.set rv i,by rw[List.drop_set_of_lt h],by rw[List.length_set]⟩⟩
def gNs:List Nat->TGs
 |[]=>gNil
 |i::r=>gCons (gName i) (gNs r)
def setW:List Nat->List W->Env'->Option Env'
 |[],[],ρ=>some ρ
 |i::r,w::l,ρ=>setW r l (ρ.set i (some w))
 |_,_,_=>none
theorem oQ {K:PySem.W.Frag}{m:Nat}{o:Wo}: ∀ (is:List Nat) (l:List W) (vs:List V) (ρ ρ2:Env') (σ:St),(∀i∈is,i<m)->Rvs K o l vs->Re K o ρ σ->setW is l ρ=some ρ2-> ∃σ2,(∀Q:St->Hp->Prop,Q σ2 o.H->gNs is vs σ o.H Q)/\Re K o ρ2 σ2/\σ2.drop m=σ.drop m/\σ2.length=σ.length
 |[],[],vs,ρ,ρ2,σ,_,rv,re,e=>by
  unfold Rvs at rv
  cases e
  exact⟨σ,fun Q q=>⟨rv,q⟩,re,rfl,rfl⟩
 |[],_::_,_,_,_,_,_,_,_,e=>by cases e
 |_::_,[],_,_,_,_,_,_,_,e=>by cases e
 |i::is,w::l,vs,ρ,ρ2,σ,hm,rv,re,e=>by
  unfold Rvs at rv
  obtain⟨v,r,rfl,h1,h2⟩:=rv
  obtain⟨σ2,a,b,c,d⟩:=oQ is l r (ρ.set i (some w)) ρ2 (σ.set i (some v)) (fun j hj=>hm j (List.mem_cons_of_mem _ hj)) h2 (re.set h1 i) e
  refine⟨σ2,fun Q q=>⟨v,r,rfl,a Q q⟩,b,?_,?_⟩
  ·rw[c,List.drop_set_of_lt (hm i List.mem_cons_self)]
  ·rw[d,List.length_set]
def tgT (is:List Nat):W->Env'->Option Env':=fun w ρ=>match w with
 |.tup l=>setW is l ρ
 |_=>none
theorem hU: ∀ {is:List Nat}{l:List W}{ρ ρ2:Env'},setW is l ρ=some ρ2->l.length=is.length
 |[],[],_,_,_=>rfl
 |[],_::_,_,_,e=>by cases e
 |_::_,[],_,_,e=>by cases e
 |_::is,_::l,_,_,e=>by rw[List.length_cons,List.length_cons,hU (is:=is) (l:=l) e]
theorem qY {K:PySem.W.Frag}(m:Nat)(is:List Nat)(h:∀i∈is,i<m):TgOk K m (gTup K is.length (gNs is)) (tgT is):=⟨fun o w v ρ ρ2 σ rv re e=>by
 cases w with
 |tup l=>
  unfold Rv at rv
  obtain⟨a,vs,rfl,s,r⟩:=rv
  have e:setW is l ρ=some ρ2:=e
  obtain⟨σ2,a1,a2,a3,a4⟩:=oQ is l vs ρ ρ2 σ h r re e
  exact⟨σ2,fun Q q=>⟨a,vs,rfl,s,by rw[r.len,hU e],a1 Q q⟩,a2,a3,a4⟩
 |_=>cases e⟩
open Classical in
def gdh {α:Type}(G:List Ob->Prop)(m:M α):M α:=fun h=>if G h then m h else .bad
theorem mU {α:Type}(m:M α):gdh (fun _=>True) m=m:=by funext h;unfold gdh;rw[if_pos trivial]
theorem bL {α:Type}{G:List Ob->Prop}{m:M α}{h:List Ob}(q:G h):gdh G m h=m h:=by unfold gdh;rw[if_pos q]
theorem Ps.gdh {α β:Type}{c:Cg}{r:Wo->α->β->Prop}{o:Wo}{G:List Ob->Prop}{m:M α}{Q:β->Hp->Prop}(h:Ps c r o (gdh G m o.h) Q):G o.h/\Ps c r o (m o.h) Q:=by
 unfold L2.gdh at h
 by_cases q:G o.h
 ·rw[if_pos q] at h;exact⟨q,h⟩
 ·rw[if_neg q] at h;exact h.elim
structure Sr where
 l:List W
 G:List Ob->Prop
structure SrcOk (K:PySem.W.Frag)(o0:Wo)(J:It)(s:Sr):Prop where
 stop: ∀o,Ex o0 o->Rel K o->s.G o.h->J.stop s.l.length o.H
 go: ∀o i w,Ex o0 o->Rel K o->s.G o.h->s.l[i]?=some w->J.go i o.H/\ ∀x H',J.yld i o.H x H'-> ∃p,p.H=H'/\p.h=o.h/\Ex o p/\Rel K p/\Rv K p w x
def tI (c:Cg)(src:Env'->M Sr):TI:=fun σ H R=>tG c (fun p s J=>SrcOk c.K p J s) src σ H R
structure JI (X:Cx)(E:XK)(tg iter:Expr)(f:Env'->M Sr):Prop where
 h:PI X tg iter (tI (cg X E) f)
theorem PI.imp {tg iter:Expr}{t:TI}{f:Env'->M Sr}(h:PI X tg iter t)(k:∀σ H R,tI (cg X E) f σ H R->t σ H R):JI X E tg iter f:=⟨fun pins s σ H R I q=>h pins s σ H R I (k σ H R q)⟩
def srcL (w:W):M Sr:=match w with
 |.tl l=>pr ⟨l,fun _=>True⟩
 |.cl l=>pr ⟨l,fun _=>True⟩
 |.loc k=>fun h=>match h[k]? with
  |some (.lst l)=>.ok ⟨l,fun h=>h[k]?=some (.lst l)⟩ h
  |_=>.bad
 |_=>no
def mSrc (f:Env'->M W)(g:W->M Sr):Env'->M Sr:=fun ρ=>bd (f ρ) g
theorem ja {K:PySem.W.Frag}{o0:Wo}{a:Addr}{s:Sr}(h:∀o,Ex o0 o->Rel K o->s.G o.h-> ∃vs,SqL K o.H a vs/\Rvs K o s.l vs):SrcOk K o0 (Itl K a) s:=by
 refine⟨fun o X R g=>?_,fun o i w X R g e=>?_⟩
 ·obtain⟨vs,s,r⟩:=h o X R g
  exact⟨vs,s,Nat.le_of_eq r.len⟩
 ·obtain⟨vs,s,r⟩:=h o X R g
  obtain⟨v,hv,rv⟩:=r.get e
  refine⟨⟨vs,v,s,hv⟩,fun x H' y=>?_⟩
  obtain⟨rfl,y⟩:=y
  have:x=v:=by have:=y vs s;rw[hv] at this;exact (Option.some.inj this).symm
  subst this
  exact⟨o,rfl,rfl,Ex.refl _,R,rv⟩
theorem u5 {tg l:Expr}{fl:Env'->M W}(hl:JE X E l fl):JI X E tg l (mSrc fl srcL):=(uD hl.h).imp fun σ H Q h=>by
 obtain⟨o,ρ,rfl,R,S,h⟩:=h
 refine⟨o,ρ,rfl,R,S,Ps.bd h fun p x vx e1 R1 r1 h1=>?_⟩
 cases x with
 |tl l=>
  have r1':=r1
  unfold Rv at r1
  obtain⟨a,vs,rfl,s,n,r⟩:=r1
  refine⟨a,rfl,⟨vs,.of s⟩,h1.pr R1 (ja fun o X R g=>?_)⟩
  exact⟨vs,.of (X.fr a _ s n).1,r.mono R1 X⟩
 |cl l=>
  unfold Rv at r1
  obtain⟨a,vs,rfl,s,r⟩:=r1
  have sq: ∀o,Ex p o->SqL X.K o.H a vs:=fun o X=>by
   rcases s with⟨s,n⟩|s
   ·exact .inl (X.rd s n).1
   ·exact .inr s
  exact⟨a,rfl,⟨vs,sq p (Ex.refl _)⟩,h1.pr R1 (ja fun o X R g=>⟨vs,sq o X,r.mono R1 X⟩)⟩
 |loc k=>
  unfold Rv at r1
  obtain⟨hk,rfl⟩:=r1
  unfold srcL at h1
  dsimp only at h1
  split at h1
  ·rename_i l hl
   obtain⟨vs,h3,h4⟩:=R1.ob k _ hl
   refine⟨_,rfl,⟨vs,.of h3⟩,Ps.at (p:=p) h1 rfl (Ex.refl _) R1 (ja fun o X R g=>?_)⟩
   obtain⟨vs',h5,h6⟩:=R.ob k _ g
   rw[X.mu k hk] at h5
   exact⟨vs',.of h5,h6⟩
  ·exact h1.elim
 |_=>exact h1.elim
def srcT (w:W):M Sr:=match w with
 |.tup l=>pr ⟨l,fun _=>True⟩
 |_=>no
theorem xY {tg l:Expr}{fl:Env'->M W}(hl:JE X E l fl):JI X E tg l (mSrc fl srcT):=(xb hl.h).imp fun σ H Q h=>by
 obtain⟨o,ρ,rfl,R,S,h⟩:=h
 refine⟨o,ρ,rfl,R,S,Ps.bd h fun p x vx e1 R1 r1 h1=>?_⟩
 cases x with
 |tup l=>
  unfold Rv at r1
  obtain⟨a,vs,rfl,s,r⟩:=r1
  refine⟨a,rfl,⟨vs,s⟩,h1.pr R1 ⟨fun o X R g=>⟨vs,X.rdT R1 s,Nat.le_of_eq r.len⟩,fun o i w X R g e=>?_⟩⟩
  obtain⟨v,hv,rv⟩:=(r.mono R1 X).get e
  have sq:=X.rdT R1 s
  refine⟨⟨vs,v,sq,hv⟩,fun x H' y=>?_⟩
  obtain⟨rfl,y⟩:=y
  have:x=v:=by have:=y vs sq;rw[hv] at this;exact (Option.some.inj this).symm
  subst this
  exact⟨o,rfl,rfl,Ex.refl _,R,rv⟩
 |_=>exact h1.elim
noncomputable def intsW (lo:Int):Nat->List W
 |0=>[]
 |n+1=>.int lo::intsW (lo+1) n
theorem il: ∀ (n:Nat) (lo:Int),(intsW lo n).length=n
 |0,_=>rfl
 |n+1,lo=>by rw[intsW,List.length_cons,il n]
theorem mS: ∀ (n:Nat) (lo:Int) (i:Nat) (w:W),(intsW lo n)[i]?=some w->w=.int (lo+i)/\i<n
 |0,_,_,_,h=>by simp [intsW] at h
 |n+1,lo,0,w,h=>by rw[intsW] at h;cases h;exact⟨by simp,Nat.succ_pos _⟩
 |n+1,lo,i+1,w,h=>by
  rw[intsW,List.getElem?_cons_succ] at h
  obtain⟨e,l⟩:=mS n (lo+1) i w h
  exact⟨by rw[e];congr 1;omega,by omega⟩
theorem p7 {K:PySem.W.Frag}{o0:Wo}{lo:Int}{n:Nat}:SrcOk K o0 (Itr lo n) ⟨intsW lo n,fun _=>True⟩:=by
 refine⟨fun o X R g=>?_,fun o i w X R g e=>?_⟩
 ·show n<=(intsW lo n).length
  rw[il];exact Nat.le_refl _
 ·obtain⟨rfl,hi⟩:=mS n lo i w e
  refine⟨hi,fun x H' y=>?_⟩
  obtain⟨rfl,rfl⟩:=y
  exact⟨o,rfl,rfl,Ex.refl _,R,rv_int.mpr rfl⟩
def rng1 (l:List W):M Sr:=match l with
 |[.int j]=>gd (-(2 ^ 62)<=j/\j<2 ^ 62) (pr ⟨intsW 0 j.toNat,fun _=>True⟩)
 |_=>no
def mSrcA (f:Env'->M (List W))(g:List W->M Sr):Env'->M Sr:=fun ρ=>bd (f ρ) g
theorem qr {tg a:Expr}{p pos:Pos}{fl:Env'->M (List W)}(hg:Gl X "range")(hm:X.mg "range"=none)(ha:JA X E [a] fl)(hs:starEach [a] X.env=[(false,eval a X.env)]:=by rfl):JI X E tg (.Call (.Name "range" p) [a] [] pos) (mSrcA fl rng1):=
 (qi hg hm ha.h hs).imp fun σ H Q h=>by
 obtain⟨o,ρ,rfl,R,S,h⟩:=h
 refine⟨o,ρ,rfl,R,S,Ps.bd h fun p x vx e1 R1 r1 h1=>?_⟩
 unfold rng1 at h1
 split at h1
 ·obtain⟨hz,h1⟩:=h1.gd
  unfold Rvs Rvs at r1
  obtain⟨v,r,rfl,a1,rfl⟩:=r1
  exact⟨_,by rw[rv_int.mp a1],hz.1,hz.2,h1.pr R1 p7⟩
 ·exact h1.elim
def forM (G:List Ob->Prop)(t:W->Env'->Option Env')(g:Env'->M Fl):List W->Env'->M Fl
 |[],ρ=>gdh G (pr (.nx ρ))
 |w::l,ρ=>gdh G (match t w ρ with
  |none=>no
  |some r=>bd (g r) fun x=>match x with
   |.nx r'=>forM G t g l r'
   |.ct r'=>forM G t g l r'
   |.bk r'=>pr (.nx r')
   |.rt v=>pr (.rt v))
def sFor (src:Env'->M Sr)(t:W->Env'->Option Env')(g:Env'->M Fl):Env'->M Fl:=fun ρ=>bd (src ρ) fun s=>forM s.G t g s.l ρ
theorem xW {tg iter:Expr}{body:List Stmt}{src:Env'->M Sr}{t:W->Env'->Option Env'}{gT:TG}{g:Env'->M Fl}{m:Nat}(hp:PassesOwn (model X.prog X.w) X.A X.env X.xe)(hc:X.calm=true)(hi:JI X E tg iter src)(hg:PG X tg gT)(ht:TgOk X.K m gT t)(hb:JSs X E body g)
  (hs: ∀x,foldedSetIterable iter X.env x=pure x:=by intro _;rfl):JS X E (.For tg iter body [] pos) (sFor src t g):=(wY hp hc hi.h hg hb.h hs).imp fun D σ H h=>by
 obtain⟨o,ρ,rfl,R,S,h⟩:=h
 refine⟨o,ρ,rfl,R,S,Ps.bd h fun o1 s J e1 R1 sk h1=>?_⟩
 refine⟨fun i n σ H=>n=s.l.length - i/\i<=s.l.length/\ ∃o ρ,o.H=H/\Ex o1 o/\Rel X.K o/\Re X.K o ρ σ/\Ps (cg X E) (RFl X.K) o (forM s.G t g (s.l.drop i) ρ o.h) (DQ D),⟨_,rfl,Nat.zero_le _,o1,ρ,rfl,Ex.refl _,R1,S.mono R e1,h1⟩,?_⟩
 rintro i n σ H ⟨rfl,hi,o,ρ,rfl,X1,R,S,h⟩
 by_cases hlt:i<s.l.length
 ·obtain⟨w,hw⟩: ∃w,s.l[i]?=some w:=⟨_,List.getElem?_eq_getElem hlt⟩
  have hd:s.l.drop i=w::s.l.drop (i+1):=by
   rw[List.drop_eq_getElem_cons hlt]
   rw[List.getElem?_eq_getElem hlt] at hw
   rw[Option.some.inj hw]
  rw[hd] at h
  unfold forM at h
  obtain⟨hG,h⟩:=h.gdh
  obtain⟨hgo,hy⟩:=sk.go o i w X1 R hG hw
  refine .inr ⟨hgo,fun σ' H'=> ∃o ρ,o.H=H'/\Ex o1 o/\Rel X.K o/\Re X.K o ρ σ'/\Ps (cg X E) (RFl X.K) o (forM s.G t g (s.l.drop (i+1)) ρ o.h) (DQ D),fun σ' H' q=>⟨_,by omega,rfl,hlt,q⟩,fun x H' y=>?_⟩
  obtain⟨p,rfl,eh,X2,R2,rv⟩:=hy x H' y
  cases et:t w ρ with
  |none=>rw[et] at h;exact h.elim
  |some r=>
   rw[et] at h
   obtain⟨σ2,k1,k2,_,_⟩:=ht.ok p w x ρ r σ rv (S.mono R X2) et
   refine k1 _ ?_
   have h2:Ps (cg X E) (RFl X.K) p (bd (g r) (fun x=>match x with
    |.nx r'=>forM s.G t g (s.l.drop (i+1)) r'
    |.ct r'=>forM s.G t g (s.l.drop (i+1)) r'
    |.bk r'=>pr (.nx r')
    |.rt v=>pr (.rt v)) p.h) (DQ D):=by rw[eh];exact h.after X2
   refine⟨p,r,rfl,R2,k2,Ps.bd h2 fun q x b e3 R3 r3 h3=>?_⟩
   cases x with
   |nx r=>obtain⟨s',rfl,re⟩:=r3;exact⟨q,r,rfl,(X1.trans X2).trans e3,R3,re,h3⟩
   |ct r=>obtain⟨s',rfl,re⟩:=r3;exact⟨q,r,rfl,(X1.trans X2).trans e3,R3,re,h3⟩
   |bk r=>obtain⟨s',rfl,re⟩:=r3;exact h3.pr R3 (b:=.nx s') ⟨s',rfl,re⟩
   |rt w=>obtain⟨v,rfl,rv⟩:=r3;exact h3.pr R3 (b:=.rt v) ⟨v,rfl,rv⟩
 ·have e:i=s.l.length:=by omega
  subst e
  rw[List.drop_length] at h
  unfold forM at h
  obtain⟨hG,h⟩:=h.gdh
  exact .inl ⟨sk.stop o X1 R hG,Ps.pr (b:=FlV.nx σ) h R ⟨σ,rfl,S⟩⟩
end
end
section
section
variable {X:Cx}{E:XK}{pos:Pos}
theorem yW {l:Env'->M (List W)}{σ:St}{H:Hp}{Q:VK}(h:tM (cg X E) (mTl l) σ H Q):tF (cg X E) l σ H Q:=by
 obtain⟨o,ρ,rfl,R,S,h⟩:=h
 exact⟨o,ρ,rfl,R,S,Ps.bd h fun p x vx e1 R1 r1 h1=>fun q hq=>Ps.at (p:=⟨p.mu,p.h,upd p.H q (.lst vx)⟩) h1 rfl (Ex.new hq) (R1.new hq) (Rv.newL R1 hq r1)⟩
theorem wD {i:Nat}{f:Env'->M W}{D:Ends}{σ:St}{H:Hp}(h:tS (cg X E) (sSet i f) D σ H):tAsg (tM (cg X E) f) (gName i) D σ H:=by
 obtain⟨o,ρ,rfl,R,S,h⟩:=h
 exact⟨o,ρ,rfl,R,S,Ps.bd h fun p x b e1 R1 r1 h1=>Ps.pr (b:=FlV.nx (σ.set i (some b))) h1 R1 ⟨_,rfl,(S.mono R e1).set r1 i⟩⟩
def compM (G:List Ob->Prop)(t:W->Env'->Option Env')(f:Env'->M Bool)(e:Env'->M W)(n:Nat):List W->Env'->M (List W)
 |[],ρ=>gdh G (pr [])
 |w::l,ρ=>gdh G (match t w (List.replicate n none++ρ) with
  |none=>no
  |some r=>bd (f r) fun b=>if b=true then bd (e r) fun x=>bd (compM G t f e n l ρ) fun m=>pr (x::m) else compM G t f e n l ρ)
def mComp (hs:List Nat)(src:Env'->M Sr)(t:W->Env'->Option Env')(f:Env'->M Bool)(e:Env'->M W)(n:Nat):Env'->M (List W):=fun ρ=>
 gd ((hs.all fun i=>(ρ[i]?.join).isNone)=true) (bd (src ρ) fun s=>gd (s.l.length<=sizeLine) (compM s.G t f e n s.l ρ))
variable {elt iter tg:Expr}{ifs:List Expr}{scope:Scope}{ls:List Str}{gT:TG}{t:W->Env'->Option Env'}{f:Env'->M Bool}{e:Env'->M W}{src:Env'->M Sr}{hs:List Nat}{wh:Prop}
theorem kI (ht:TgOk X.K ls.length gT t){σ:St}{H:Hp}{Q:VK}(h:tF (cg X E) (mComp hs src t f e ls.length) σ H Q):tComp X.N ls (tI (cg X E) src) gT (tT (cg X E) f) (tM (cg X E) e) σ H Q:=by
 obtain⟨o,ρ,rfl,R,S,h⟩:=h
 unfold mComp at h
 obtain⟨h0,h⟩:=h.gd
 refine⟨rfl,o,ρ,rfl,R,S,Ps.bd h fun o1 s J e1 R1 sk h1=>?_⟩
 obtain⟨hz,h1⟩:=h1.gd
 have S1:=S.mono R e1
 refine⟨fun i n ys H=>n=s.l.length - i/\i<=s.l.length/\ ∃o acc,o.H=H/\Ex o1 o/\Rel X.K o/\Rvs X.K o acc ys/\acc.length<=i/\Ps (cg X E) (Rvs X.K) o (bd (compM s.G t f e ls.length (s.l.drop i) ρ) (fun m=>pr (acc++m)) o.h) (fun vs H1=> ∀q,H1 q=none->Q (.ref q) (upd H1 q (.lst vs))),
  ⟨_,rfl,Nat.zero_le _,o1,[],rfl,Ex.refl _,R1,Rvs.nil,Nat.le_refl _,?_⟩,?_⟩
 ·have:bd (compM s.G t f e ls.length (s.l.drop 0) ρ) (fun m=>pr ([]++m))=compM s.G t f e ls.length s.l ρ:=by
   funext h
   rw[List.drop_zero]
   unfold bd
   cases compM s.G t f e ls.length s.l ρ h<;>rfl
  rw[this];exact h1
 rintro i n ys H ⟨rfl,hi,o,acc,rfl,X1,R,A,ha,h⟩
 have S2:=S1.mono R1 X1
 have gs: ∀ {α β γ:Type}{r:Wo->β->γ->Prop}{m:M α}{k:α->M β}{Q':γ->Hp->Prop},Ps (cg X E) r o (bd (gdh s.G m) k o.h) Q'->s.G o.h/\Ps (cg X E) r o (bd m k o.h) Q':=fun{α β γ r m k Q'} q=>by
  have:bd (gdh s.G m) k o.h=gdh s.G (bd m k) o.h:=by
   unfold bd L2.gdh
   by_cases z:s.G o.h
   ·simp only[if_pos z]
   ·simp only[if_neg z]
  rw[this] at q
  exact q.gdh
 by_cases hlt:i<s.l.length
 ·obtain⟨w,hw⟩: ∃w,s.l[i]?=some w:=⟨_,List.getElem?_eq_getElem hlt⟩
  have hd:s.l.drop i=w::s.l.drop (i+1):=by
   rw[List.drop_eq_getElem_cons hlt]
   rw[List.getElem?_eq_getElem hlt] at hw
   rw[Option.some.inj hw]
  rw[hd] at h
  unfold compM at h
  obtain⟨hG,h⟩:=gs h
  obtain⟨hgo,hy⟩:=sk.go o i w X1 R hG hw
  refine .inr ⟨hgo,fun ys' H'=> ∃o acc,o.H=H'/\Ex o1 o/\Rel X.K o/\Rvs X.K o acc ys'/\acc.length<=i+1/\Ps (cg X E) (Rvs X.K) o (bd (compM s.G t f e ls.length (s.l.drop (i+1)) ρ) (fun m=>pr (acc++m)) o.h) (fun vs H1=> ∀q,H1 q=none->Q (.ref q) (upd H1 q (.lst vs))),fun ys' H' q=>⟨_,by omega,rfl,hlt,q⟩,fun x H' y=>?_⟩
  obtain⟨p,rfl,eh,X2,R2,rv⟩:=hy x H' y
  cases et:t w (List.replicate ls.length none++ρ) with
  |none=>rw[et] at h;exact h.elim
  |some r=>
   rw[et] at h
   obtain⟨σ2,k1,k2,k3,k4⟩:=ht.ok p w x _ r (List.replicate ls.length none++σ) rv ((S2.mono R X2).front _) et
   refine k1 _ ⟨?_,?_,?_⟩
   ·rw[k3,List.drop_left' (by rw[List.length_replicate])]
   ·rw[k4,List.length_append,List.length_replicate]
   have h2:Ps (cg X E) (Rvs X.K) p (bd (f r) (fun b=>bd (if b=true then bd (e r) fun x=>bd (compM s.G t f e ls.length (s.l.drop (i+1)) ρ) fun m=>pr (x::m) else compM s.G t f e ls.length (s.l.drop (i+1)) ρ) fun m=>pr (acc++m)) p.h) (fun vs H1=> ∀q,H1 q=none->Q (.ref q) (upd H1 q (.lst vs))):=by
    rw[eh]
    rw[aa] at h
    exact h.after X2
   refine⟨p,r,rfl,R2,k2,Ps.bd h2 fun q b vb e3 R3 r3 h3=>?_⟩
   subst r3
   have A3:=(A.mono R X2).mono R2 e3
   cases b with
   |false=>
    exact iteF ⟨q,acc,rfl,(X1.trans X2).trans e3,R3,A3,by omega,h3⟩
   |true=>
    rw[if_pos rfl,aa] at h3
    refine iteT ⟨q,r,rfl,R3,k2.mono R2 e3,Ps.bd h3 fun q2 x vx e4 R4 r4 h4=>⟨?_,q2,acc++[x],rfl,((X1.trans X2).trans e3).trans e4,R4,(A3.mono R3 e4).app (Rvs.cons r4 Rvs.nil),?_,?_⟩⟩
    ·rw[(A3.mono R3 e4).len];omega
    ·rw[List.length_append,List.length_singleton];omega
    ·rw[aa] at h4
     have ee:(fun m=>bd (pr (x::m)) fun m=>pr (acc++m))=(fun m:List W=>(pr (acc++[x]++m):M (List W))):=by
      funext m h
      show Rs.ok (acc++(x::m)) h=Rs.ok (acc++[x]++m) h
      rw[List.append_assoc];rfl
     rw[ee] at h4
     exact h4
 ·have ei:i=s.l.length:=by omega
  subst ei
  rw[List.drop_length] at h
  unfold compM at h
  obtain⟨hG,h⟩:=gs h
  have h:Ps (cg X E) (Rvs X.K) o (pr (acc++[]) o.h) (fun vs H1=> ∀q,H1 q=none->Q (.ref q) (upd H1 q (.lst vs))):=h
  rw[List.append_nil] at h
  exact .inl ⟨sk.stop o X1 R hG,h.pr R A⟩
structure JQ (X:Cx)(E:XK)(ifs:List Expr)(f:Env'->M Bool):Prop where
 h:PIfs X ifs (tT (cg X E) f)
def mYes:Env'->M Bool:=fun _=>pr true
theorem u4:JQ X E [] mYes:=⟨fun pins s σ H Q I h=>kU pins s σ H Q I (by
 obtain⟨o,ρ,rfl,R,S,h⟩:=h
 exact Ps.pr (b:=true) h R rfl)⟩
theorem u3 {c:Expr}(h:JT X E c f):JQ X E [c] f:=⟨uC h.h⟩
theorem ig (hcalm:X.calm=true)(S:CScope X ls scope)(hi:JI X E tg iter src)(hg: ∀C s2 H2 fp,PG (cxC X ls scope C s2 H2 fp) tg gT)(ht:TgOk X.K ls.length gT t)
  (hf: ∀C s2 H2 fp,JQ (cxC X ls scope C s2 H2 fp) E ifs f)(he: ∀C s2 H2 fp,JE (cxC X ls scope C s2 H2 fp) E elt e)(hh:wh)
  (hs': ∀x,foldedSetIterable iter X.env x=pure x:=by intro _;rfl):JF X E (.ListComp elt [⟨tg,iter,ifs,0⟩] scope pos) (mComp hs src t f e ls.length):=
 (kW hcalm S hi.h hg (fun C s2 H2 fp=>(hf C s2 H2 fp).h) (fun C s2 H2 fp=>(he C s2 H2 fp).h) hs').impF fun σ H Q h=>kI ht h
theorem sA {i:Nat}{x:Str}{px spos:Pos}(hN:X.N.Nodup)(hx1:X.N[i]?=some x)(hx:X.env.scope.names.lookup x=some .local)(hcalm:X.calm=true)(S:CScope X ls scope)(hi:JI X E tg iter src)(hg: ∀C s2 H2 fp,PG (cxC X ls scope C s2 H2 fp) tg gT)(ht:TgOk X.K ls.length gT t)
  (hf: ∀C s2 H2 fp,JQ (cxC X ls scope C s2 H2 fp) E ifs f)(he: ∀C s2 H2 fp,JE (cxC X ls scope C s2 H2 fp) E elt e)(hh:wh)
  (hsw:swapsWith (.ListComp elt [⟨tg,iter,ifs,0⟩] scope pos) (some (.Name x px)) spos.line X.env=pure true:=by rfl)
  (hs': ∀x,foldedSetIterable iter X.env x=pure x:=by intro _;rfl):JS X E (.Assign [.Name x px] (.ListComp elt [⟨tg,iter,ifs,0⟩] scope pos) spos) (sSet i (mTl (mComp hs src t f e ls.length))):=
 (og hN hx1 hx hcalm S hi.h hg (fun C s2 H2 fp=>(hf C s2 H2 fp).h) (fun C s2 H2 fp=>(he C s2 H2 fp).h) hsw hs').imp fun D σ H h=>kI ht (yW (wD h))
end
end
section
section
variable {X:Cx}{E:XK}{pos p:Pos}{a b:Expr}{l:Env'->M (List W)}
theorem Rvs.one {K:PySem.W.Frag}{o:Wo}{w:W}{vs:List V}(h:Rvs K o [w] vs): ∃v,vs=[v]/\Rv K o w v:=by
 unfold Rvs Rvs at h;obtain⟨v,r,rfl,h1,rfl⟩:=h;exact⟨v,rfl,h1⟩
theorem Rvs.two {K:PySem.W.Frag}{o:Wo}{w x:W}{vs:List V}(h:Rvs K o [w,x] vs): ∃v u,vs=[v,u]/\Rv K o w v/\Rv K o x u:=by
 unfold Rvs Rvs Rvs at h;obtain⟨v,r,rfl,h1,u,r2,rfl,h2,rfl⟩:=h;exact⟨v,u,rfl,h1,h2⟩
def lenW (ws:List W):M W:=match ws with
 |[.str z]=>gd (z.length<=sizeLine) (pr (.int z.length))
 |[.tup l]=>pr (.int l.length)
 |[w]=>bd (lstOf w) fun l=>pr (.int l.length)
 |_=>no
theorem yH:CallM X E (fun xs H Q=>(fun xs H Q=> ∃z,xs=[.str z]/\z.length<=sizeLine/\Q (.int z.length) H) xs H Q\/(fun xs H Q=> ∃p ys,xs=[.ref p]/\(SqL X.K H p ys\/SqT X.K H p ys)/\Q (.int ys.length) H) xs H Q) lenW:=by
 intro o ws vs Q R rv h
 unfold lenW at h
 split at h
 ·obtain⟨v,rfl,r⟩:=rv.one
  obtain⟨hz,h⟩:=h.gd
  exact .inl ⟨_,by rw[rv_str.mp r],hz,h.pr R (rv_int.mpr rfl)⟩
 ·obtain⟨v,rfl,r⟩:=rv.one
  unfold Rv at r
  obtain⟨a,us,rfl,s,r⟩:=r
  exact .inr ⟨a,us,rfl,.inr s,by rw[r.len];exact h.pr R (rv_int.mpr rfl)⟩
 ·obtain⟨v,rfl,r⟩:=rv.one
  obtain⟨l,a,us,rfl,s,r,h⟩:=ij R r h
  exact .inr ⟨a,us,rfl,.inl s,by rw[r.len];exact h.pr R (rv_int.mpr rfl)⟩
 ·exact h.elim
theorem yf (hm:X.mg "len"=none)(ha:JA X E [a] l)(hg:Gl X "len":=by rfl)(he:starEach [a] X.env=(false,eval a X.env)::starEach [] X.env:=by rfl)(hpl:(backTo pos (starEach [] X.env)).any (·.1)=false:=by rfl):JE X E (.Call (.Name "len" p) [a] [] pos) (mCall lenW l):=
 mI (call_len_str.or lI) yH hg hm PySem.boot_len ha (he:=he) (hpl:=hpl)
def intW (ws:List W):M W:=match ws with
 |[.int i]=>pr (.int i)
 |[.bl k]=>pr (.int (if k then 1 else 0))
 |[.str z]=>match PySem.intText? z with
  |some n=>gd (z.length<=640) (pr (.int n))
  |none=>no
 |_=>no
theorem yI:CallM X E (fun xs H Q=>((∃i,xs=[.int i]/\Q (.int i) H)\/ ∃k,xs=[.bl k]/\Q (.int (if k then 1 else 0)) H)\/(fun xs H Q=> ∃ (z:Str) (n:Int),xs=[.str z]/\PySem.intText? z=some n/\z.length<=640/\Q (.int n) H) xs H Q) intW:=by
 intro o ws vs Q R rv h
 unfold intW at h
 split at h
 ·obtain⟨v,rfl,r⟩:=rv.one
  exact .inl (.inl ⟨_,by rw[rv_int.mp r],h.pr R (rv_int.mpr rfl)⟩)
 ·obtain⟨v,rfl,r⟩:=rv.one
  exact .inl (.inr ⟨_,by rw[rv_bl.mp r],h.pr R (rv_int.mpr rfl)⟩)
 ·obtain⟨v,rfl,r⟩:=rv.one
  rename_i z
  cases hn:PySem.intText? z with
  |some n=>
   rw[hn] at h
   obtain⟨hz,h⟩:=h.gd
   exact .inr ⟨_,n,by rw[rv_str.mp r],hn,hz,h.pr R (rv_int.mpr rfl)⟩
  |none=>rw[hn] at h;exact h.elim
 ·exact h.elim
theorem vd (hm:X.mg "int"=none)(ha:JA X E [a] l)(hg:Gl X "int":=by rfl)(he:starEach [a] X.env=(false,eval a X.env)::starEach [] X.env:=by rfl)(hpl:(backTo pos (starEach [] X.env)).any (·.1)=false:=by rfl):JE X E (.Call (.Name "int" p) [a] [] pos) (mCall intW l):=
 iF (call_int1.or iu) yI hg hm PyProof.Rows.boot_int ha (he:=he) (hpl:=hpl)
def strW (ws:List W):M W:=match ws with
 |[.int i]=>gd (i.natAbs.log2<1920) (pr (.str (toString i)))
 |[.str z]=>pr (.str z)
 |_=>no
theorem yG:CallM X E (fun xs H Q=>(fun xs H Q=> ∃i,xs=[.int i]/\i.natAbs.log2<1920/\Q (.str (toString i)) H) xs H Q\/(fun xs H Q=> ∃ (z:Str),xs=[.str z]/\Q (.str z) H) xs H Q) strW:=by
 intro o ws vs Q R rv h
 unfold strW at h
 split at h
 ·obtain⟨v,rfl,r⟩:=rv.one
  obtain⟨hz,h⟩:=h.gd
  exact .inl ⟨_,by rw[rv_int.mp r],hz,h.pr R (rv_str.mpr rfl)⟩
 ·obtain⟨v,rfl,r⟩:=rv.one
  exact .inr ⟨_,by rw[rv_str.mp r],h.pr R (rv_str.mpr rfl)⟩
 ·exact h.elim
theorem u7 (hm:X.mg "str"=none)(ha:JA X E [a] l)(hg:Gl X "str":=by rfl)(he:starEach [a] X.env=(false,eval a X.env)::starEach [] X.env:=by rfl)(hpl:(backTo pos (starEach [] X.env)).any (·.1)=false:=by rfl):JE X E (.Call (.Name "str" p) [a] [] pos) (mCall strW l):=
 iF (call_str_int.or lH) yG hg hm PyProof.Rows.boot_str ha (he:=he) (hpl:=hpl)
noncomputable def sOf:W->Option Str
 |.str i=>some i
 |_=>none
theorem kY {K:PySem.W.Frag}{o:Wo}{α:Type}{f:W->Option α}{g:α->V}(hf: ∀w a v,f w=some a->Rv K o w v->v=g a): ∀ {l:List W}{xs:List α}{vs:List V},optL f l=some xs->Rvs K o l vs->vs=xs.map g
 |[],xs,vs,e,h=>by unfold Rvs at h;cases e;exact h
 |w::l,xs,vs,e,h=>by
  unfold Rvs at h
  obtain⟨v,r,rfl,h1,h2⟩:=h
  unfold optL at e
  split at e
  ·rename_i d ds e1 e2
   cases e
   rw[hf w d v e1 h1,kY hf e2 h2];rfl
  ·cases e
theorem rC {K:PySem.W.Frag}{o:Wo}: ∀ (w:W) (a:Str) (v:V),sOf w=some a->Rv K o w v->v=.str a:=fun w a v e h=>by
 cases w<;>first|(cases e;exact rv_str.mp h)|cases e
def i8 (ws:List W):M W:=match ws with
 |[.tup l]=>pr (.tup l)
 |[w]=>bd (lstOf w) fun l=>pr (.tup l)
 |_=>no
theorem sD (hm:X.mg "tuple"=none)(ha:JA X E [a] l)(hg:Gl X "tuple":=by rfl)(he:starEach [a] X.env=(false,eval a X.env)::starEach [] X.env:=by rfl)(hpl:(backTo pos (starEach [] X.env)).any (·.1)=false:=by rfl):JE X E (.Call (.Name "tuple" p) [a] [] pos) (mCall i8 l):=
 iF jX (fun o ws vs Q R rv h=>by
  unfold i8 at h
  split at h
  ·obtain⟨v,rfl,r⟩:=rv.one
   have r0:=r
   unfold Rv at r
   obtain⟨a,us,rfl,s,r⟩:=r
   exact⟨a,us,rfl,.inr ⟨s,h.pr R r0⟩⟩
  ·obtain⟨v,rfl,r⟩:=rv.one
   obtain⟨l,a,us,rfl,s,r,h⟩:=ij R r h
   exact⟨a,us,rfl,.inl ⟨s,fun q hq=>kR R hq r h⟩⟩
  ·exact h.elim) hg hm PyProof.Rows.boot_tuple ha (he:=he) (hpl:=hpl)
def listL (l:Env'->M (List W)):Env'->M (List W):=fun ρ=>bd (l ρ) fun ws=>match ws with
 |[.tup l]=>pr l
 |[w]=>lstOf w
 |_=>no
def isS (w:W):M W:=match w with
 |.str z=>pr (.str z)
 |_=>no
def joinW (x:W)(ws:List W):M W:=match x,ws with
 |.str sep,[w]=>bd (lstO w) fun l=>match optL sOf l with
  |some ts=>gd ((ts.map (·.length)).sum+ts.length * sep.length<=sizeLine) (pr (.str (Str.join sep ts)))
  |none=>no
 |_,_=>no
def mMeth (chk:W->M W)(f:W->List W->M W)(fo:Env'->M W)(l:Env'->M (List W)):Env'->M W:=fun ρ=>bd (fo ρ) fun x=>bd (chk x) fun x=>bd (l ρ) fun ws=>f x ws
variable {o e:Expr}{es:List Expr}{apos cpos:Pos}{fo:Env'->M W}
theorem vc (ho:JE X E o fo)(ha:JA X E [e] l)(hbase:attributeBase o "join" X.env (eval o X.env)=eval o X.env:=by rfl)
  (hfew:((backTo cpos (starEach [e] X.env)).all (fun x=>!x.1) && (backToKw cpos (keywordEach [] X.env)).all (fun x=>x.1.isSome) && decide (([e]:List Expr).length+([]:List Keyword).length+(if ([]:List Keyword).isEmpty then 0 else 1)<30))=true:=by rfl)
  (hline:(apos.endLine==cpos.line)=true:=by rfl)(hs:starEach [e] X.env=(false,eval e X.env)::starEach [] X.env:=by rfl)(hplain:(backTo cpos (starEach [] X.env)).any (·.1)=false:=by rfl):
  JE X E (.Call (.Attribute o "join" apos) [e] [] cpos) (mMeth isS joinW fo l):=
 (o6 PySem.F.plainAttrs_str PySem.F.slot_str_join PySem.F.type_str_join uX ho.h ha.h hbase hfew hline hs hplain).imp fun σ H Q h=>by
  obtain⟨w,ρ,rfl,R,S,h⟩:=h
  refine⟨w,ρ,rfl,R,S,Ps.bd h fun p x vx e1 R1 r1 h1=>?_⟩
  cases x with
  |str sep=>
   have h1:Ps (cg X E) (Rv X.K) p (bd (l ρ) (fun ws=>joinW (.str sep) ws) p.h) Q:=h1
   rw[rv_str.mp r1]
   refine⟨rfl,p,ρ,rfl,R1,S.mono R e1,Ps.bd h1 fun q ws vs e2 R2 r2 h2=>?_⟩
   rcases ws with _|⟨w',_|⟨_,_⟩⟩
   ·exact h2.elim
   ·have h2:Ps (cg X E) (Rv X.K) q (bd (lstO w') (fun l=>match optL sOf l with
     |some ts=>gd ((ts.map (·.length)).sum+ts.length * sep.length<=sizeLine) (pr (.str (Str.join sep ts)))
     |none=>no) q.h) Q:=h2
    obtain⟨v,rfl,r⟩:=r2.one
    obtain⟨l',a,us,rfl,s,r,h2⟩:=dU R2 r h2
    cases e:optL sOf l' with
    |none=>rw[e] at h2;exact h2.elim
    |some ts=>
     rw[e] at h2
     rw[kY rC e r] at s
     obtain⟨hz,h2⟩:=h2.gd
     exact⟨sep,a,ts,rfl,rfl,.of s,hz,h2.pr R2 (rv_str.mpr rfl)⟩
   ·exact h2.elim
  |_=>exact h1.elim
def isL (w:W):M W:=match w with
 |.loc k=>fun h=>match h[k]? with
  |some (.lst _)=>.ok (.loc k) h
  |_=>.bad
 |_=>no
theorem yv {α β:Type}{r:Wo->α->β->Prop}{o:Wo}{w:W}{v:V}{k:W->M α}{Q:β->Hp->Prop}(R:Rel X.K o)(hr:Rv X.K o w v)(h:Ps (cg X E) r o (bd (isL w) k o.h) Q):
  ∃j l vs,w=.loc j/\o.h[j]?=some (.lst l)/\v=.ref (o.mu j)/\j<o.h.length/\o.H (o.mu j)=some (.lst vs)/\Rvs X.K o l vs/\Ps (cg X E) r o (k (.loc j) o.h) Q:=by
 cases w with
 |loc j=>
  unfold Rv at hr
  unfold isL bd at h
  cases e:o.h[j]? with
  |none=>simp only[e] at h;exact h.elim
  |some b=>
   cases b with
   |lst l=>
    simp only[e] at h
    obtain⟨vs,h1,h2⟩:=R.ob j _ e
    exact⟨j,l,vs,rfl,e,hr.2,hr.1,h1,h2,h⟩
   |_=>simp only[e] at h;exact h.elim
 |_=>exact h.elim
def bf (x:W)(ws:List W):M W:=match x,ws with
 |.loc k,[w]=>fun h=>match h[k]? with
  |some (.lst l)=>if l.length<sizeLine then .ok .non (h.set k (.lst (l++[w]))) else .bad
  |_=>.bad
 |_,_=>no
theorem km (ho:JE X E o fo)(ha:JA X E [e] l)(hbase:attributeBase o "append" X.env (eval o X.env)=eval o X.env:=by rfl)
  (hfew:((backTo cpos (starEach [e] X.env)).all (fun x=>!x.1) && (backToKw cpos (keywordEach [] X.env)).all (fun x=>x.1.isSome) && decide (([e]:List Expr).length+([]:List Keyword).length+(if ([]:List Keyword).isEmpty then 0 else 1)<30))=true:=by rfl)
  (hline:(apos.endLine==cpos.line)=true:=by rfl)(hs:starEach [e] X.env=(false,eval e X.env)::starEach [] X.env:=by rfl)(hplain:(backTo cpos (starEach [] X.env)).any (·.1)=false:=by rfl):
  JE X E (.Call (.Attribute o "append" apos) [e] [] cpos) (mMeth isL bf fo l):=
 (o6 PySem.F.plainAttrs_list PySem.F.slot_list_append PySem.F.type_list_append qq ho.h ha.h hbase hfew hline hs hplain).imp fun σ H Q h=>by
  obtain⟨w,ρ,rfl,R,S,h⟩:=h
  refine⟨w,ρ,rfl,R,S,Ps.bd h fun p x vx e1 R1 r1 h1=>?_⟩
  obtain⟨j,l0,vs0,rfl,hj,rfl,hlt,hH,hl0,h1⟩:=yv R1 r1 h1
  refine⟨.inl ⟨rfl,vs0,.of hH⟩,p,ρ,rfl,R1,S.mono R e1,Ps.bd h1 fun q ws vs e2 R2 r2 h2=>?_⟩
  rcases ws with _|⟨w',_|⟨_,_⟩⟩
  ·exact h2.elim
  ·unfold bf at h2
   cases e:q.h[j]? with
   |none=>simp only[e] at h2;exact h2.elim
   |some b=>
    cases b with
    |lst l'=>
     simp only[e] at h2
     obtain⟨v,rfl,r⟩:=r2.one
     obtain⟨us,k1,k2⟩:=R2.ob j _ e
     by_cases z:l'.length<sizeLine
     ·rw[if_pos z] at h2
      rw[e2.mu j hlt] at k1
      refine⟨p.mu j,us,v,rfl,rfl,k1,by rw[k2.len];exact z,?_⟩
      have:=Ps.at (p:=q.put j (.lst (l'++[w'])) (.lst (us++[v]))) (b:=V.non) h2 rfl (Ex.put e (by simp)) (R2.putL e (by simp) (k2.app (Rvs.cons r Rvs.nil))) (rv_non.mpr rfl)
      have em:q.mu j=p.mu j:=e2.mu j hlt
      have ew:(q.put j (.lst (l'++[w'])) (.lst (us++[v]))).H=upd q.H (p.mu j) (.lst (us++[v])):=by
       show upd q.H (q.mu j) _=_
       rw[em]
      rw[ew] at this
      exact this
     ·rw[if_neg z] at h2;exact h2.elim
    |_=>simp only[e] at h2;exact h2.elim
  ·exact h2.elim
def iceW (w:W):M W:=match w with
 |.loc k=>fun h=>match h[k]? with
  |some (.lst l)=>.ok (.tl l) (h.set k .gone)
  |some (.dic ks ws)=>.ok (.dv ks ws) (h.set k .gone)
  |some (.din b ks ws)=>.ok (.dn b ks ws) (h.set k .gone)
  |_=>.bad
 |w=>pr w
theorem wI {f:Env'->M W}{σ:St}{H:Hp}{Q:VK}(h:tM (cg X E) (m1 iceW f) σ H Q):tM (cg X E) f σ H Q:=by
 obtain⟨o,ρ,rfl,R,S,h⟩:=h
 refine⟨o,ρ,rfl,R,S,Ps.bd h fun p x vx e1 R1 r1 h1=>?_⟩
 cases x with
 |loc k=>
  unfold Rv at r1
  obtain⟨_,rfl⟩:=r1
  unfold iceW at h1
  dsimp only at h1
  split at h1
  ·rename_i l hl
   exact Ps.at (p:=p.ice k) h1 rfl Ex.ice R1.ice (Rv.iceL R1 hl)
  ·rename_i ks ws hl
   exact Ps.at (p:=p.ice k) h1 rfl Ex.ice R1.ice (Rv.iceD R1 hl)
  ·rename_i b ks ws hl
   exact Ps.at (p:=p.ice k) h1 rfl Ex.ice R1.ice (Rv.iceN R1 hl)
  ·exact h1.elim
 |_=>exact Ps.pr (c:=cg X E) h1 R1 r1
theorem lm {f:Env'->M W}{e:Expr}(h:JE X E e f):JE X E e (m1 iceW f):=h.h.imp fun _ _ _ q=>wI q
noncomputable def mapAt {κ:Type} [DecidableEq κ]:List κ->List W->κ->W->List W
 |k::ks,w::ws,x,y=>(if k=x then y else w)::mapAt ks ws x y
 |_,_,_,_=>[]
def putW {κ:Type} [DecidableEq κ] (ks:List κ)(ws:List W)(x:κ)(y:W):List κ×List W:=if (ks.any fun k=>decide (k=x))=true then (ks,mapAt ks ws x y) else (ks++[x],ws++[y])
def wL (x i v:W):M Unit:=match x with
 |.loc k=>fun h=>match h[k]? with
  |some (.lst l)=>match i with
   |.int n=>match ixN l.length n with
    |some j=>.ok () (h.set k (.lst (l.set j v)))
    |none=>.bad
   |_=>.bad
  |some (.dic ks ws)=>match keyOf i with
   |some q=>if ks.length<sizeLine then .ok () (h.set k (.dic (putW ks ws q v).1 (putW ks ws q v).2)) else .bad
   |none=>.bad
  |some (.dit ks ws)=>match i with
   |.kt q=>if ks.length<sizeLine then .ok () (h.set k (.dit (putW ks ws q v).1 (putW ks ws q v).2)) else .bad
   |_=>.bad
  |_=>.bad
 |_=>no
def ci (fo fi fv:Env'->M W):Env'->M Fl:=fun ρ=>bd (fv ρ) fun v=>bd (fo ρ) fun x=>bd (fi ρ) fun i=>bd (wL x i v) fun _=>pr (.nx ρ)
variable {i value:Expr}{tpos:Pos}{fi fv:Env'->M W}
end
end
section
def runF (n:Nat)(g:Env'->M Fl)(ws:List W):M W:=bd (g (ws.map some++List.replicate (n - ws.length) none)) fun x=>match x with
 |.rt w=>pr w
 |.nx _=>pr .non
 |_=>no
section
variable {P:Program}{w:World}{K:PySem.W.Frag}{mg:Str->Option Value}{base:Heap}{x qual:Str}{st:Stmt}{f:Addr}{fd:FuncData}{N ps:List Str}{k:Nat}{g:Env'->M Fl}
def spM0 (K:PySem.W.Frag)(mg:Str->Option Value)(n:Nat)(f:List W->M W):Sp:=fun vs H Q _=> ∃o ws,o.H=H/\ws.length=n/\Rel K o/\Rvs K o ws vs/\Ps ⟨K,mg,E0⟩ (Rv K) o (f ws o.h) Q
theorem zJ {n m:Nat}{fn:List W->M W}(F:Fun K x qual st f fd)(S:FnScope N ps (ae st))(hn:N.length=n)(hm:ps.length=m)(hf:fn=runF n g)
  (hb: ∀ (cdv:Value) (A:Around) (outer:List Env) (s:Shared) (H:Hp) (E:XK),Room k (A.deeper (envOfC qual (ae st) s.heap.objs.size f cdv))->JSs (cxOf CX0 P w K mg base N qual (ae st) f cdv A outer s H E).nox E0 (bb st) g):
  FnOk P w K mg base CX0 (k+1) f fd ps (spM0 K mg m fn):=by
 subst hn hm hf
 refine F.ok S (fun vs H Q E h=>?_) (fun cdv A outer s H vs Q E hr h=>?_)
 ·obtain⟨o,ws,_,hl,_,rv,_⟩:=h
  rw[rv.len,hl]
 ·obtain⟨o,ws,rfl,hl,R,rv,h⟩:=h
  refine⟨_,(hb cdv A outer s o.H E hr).h,?_⟩
  have e:start N vs=vs.map some++List.replicate (N.length - ws.length) none:=by unfold start;rw[rv.len]
  rw[e]
  refine⟨o,_,rfl,R,Re.args _ rv,Ps.bd h fun p x b e1 R1 r1 h1=>?_⟩
  cases x with
  |rt w=>obtain⟨v,rfl,r⟩:=r1;exact h1.pr R1 r
  |nx r=>obtain⟨s,rfl,r⟩:=r1;exact h1.pr R1 (rv_non.mpr rfl)
  |bk r=>exact h1.elim
  |ct r=>exact h1.elim
theorem yE {m:Nat}{fn:List W->M W}(h:∀ws h,fn ws h=.bad):FnOk P w K mg base CX0 k f fd ps (spM0 K mg m fn):=by
 have no: ∀vs H Q E,¬spM0 K mg m fn vs H Q E:=fun vs H Q E ⟨o,ws,_,_,_,_,q⟩=>by rw[h] at q;exact q
 exact⟨fun vs H Q E h=>absurd h (no vs H Q E),fun A outer s H args us vs Q E _ _ _ _ h=>absurd h (no vs H Q E)⟩
structure CG (P:Program)(w:World)(K:PySem.W.Frag)(mg:Str->Option Value)(base:Heap)(k:Nat)(x:Str)(f:Addr)(fd:FuncData)(ps:List Str)(m:Nat)(fn:List W->M W):Prop where
 ok:FnOk P w K mg base CX0 k f fd ps (spM0 K mg m fn)
 bi:Binds K fd ps []
 kp:keepIn K (.ref f)=true
 mg:mg x=some (.ref f)
end
def arW (n:Nat)(f:List W->M W)(ws:List W):M W:=if ws.length=n then f ws else no
section
variable {X:Cx}{p pos:Pos}{e:Expr}{es:List Expr}{l:Env'->M (List W)}{f:List W->M W}{k:Nat}{fA:Addr}{fd:FuncData}{ps:List Str}{x:Str}
theorem zE {m:Nat}(C:CG X.prog X.w X.K X.mg X.base k x fA fd ps m f)(hr:Room k X.A)(ha:JA X E0 (e::es) l)(hg:Gl X x:=by rfl)
  (hdb:(x==("__debug__":Str))=false:=by decide)(he:starEach (e::es) X.env=(false,eval e X.env)::starEach es X.env:=by rfl)(hpl:(backTo pos (starEach es X.env)).any (·.1)=false:=by rfl):
  JE X E0 (.Call (.Name x p) (e::es) [] pos) (mCall (arW m f) l):=(cX C.ok hr hg C.mg C.kp C.bi .nil pass0 ha.h hdb he hpl).imp fun σ H Q h=>by
 obtain⟨o,ρ,rfl,R,S,h⟩:=h
 refine⟨o,ρ,rfl,R,S,Ps.bd h fun p x vx e1 R1 r1 h1=>?_⟩
 unfold arW at h1
 by_cases z:x.length=m
 ·rw[if_pos z] at h1
  exact⟨p,x,rfl,z,R1,by rw[List.append_nil];exact r1,h1⟩
 ·rw[if_neg z] at h1
  exact h1.elim
end
section
variable {X:Cx}{E:XK}{p pos:Pos}
noncomputable def chars (z:Str):List W:=z.cps.toList.map fun c=>.str ⟨#[c]⟩
def srcS (w:W):M Sr:=match w with
 |.str z=>pr ⟨chars z,fun _=>True⟩
 |_=>no
def sUnp (t:W->Env'->Option Env')(f:Env'->M W):Env'->M Fl:=fun ρ=>bd (f ρ) fun w=>match t w ρ with
 |some r=>pr (.nx r)
 |none=>no
theorem xU {tg e:Expr}{m:Nat}{gT:TG}{t:W->Env'->Option Env'}{f:Env'->M W}(he:JE X E e f)(hg:PG X tg gT)(ht:TgOk X.K m gT t)(hs:swapsWithSole [tg] e pos.line X.env=pure false:=by rfl)(hw:swappedStores [tg] e X.env=pure none:=by rfl)
  (h1:(assignEach [tg] X.env).map (·.2)=[assign tg X.env]:=by rfl):JS X E (.Assign [tg] e pos) (sUnp t f):=(wZ he.h hg hs hw h1).imp fun D σ H h=>by
 obtain⟨o,ρ,rfl,R,S,h⟩:=h
 refine⟨o,ρ,rfl,R,S,Ps.bd h fun p x vx e1 R1 r1 h1=>?_⟩
 cases et:t x ρ with
 |none=>rw[et] at h1;exact h1.elim
 |some r=>
  rw[et] at h1
  obtain⟨σ2,k1,k2,_,_⟩:=ht.ok p x vx ρ r σ r1 (S.mono R e1) et
  exact k1 _ (Ps.pr (b:=FlV.nx σ2) h1 R1 ⟨σ2,rfl,k2⟩)
end
end
section
section
variable {X:Cx}{E:XK}{p pos:Pos}{a b:Expr}{l:Env'->M (List W)}
end
end
section
section
variable {X:Cx}{E:XK}{p pos:Pos}{a b c:Expr}{fa fb fc:Env'->M W}
def bG (f g:W->W->M W)(fa fb fc:Env'->M W):Env'->M W:=fun ρ=>bd (fa ρ) fun x=>bd (fb ρ) fun y=>bd (f x y) fun z=>bd (asB z) fun k=>if k=true then bd (fc ρ) fun w=>g y w else pr (.bl false)
theorem rf {r r':R2}{f g:W->W->M W}(hf: ∀ (o:Wo) (x y:W) (vx vy:V) (Q:VK),Rel X.K o->Rv X.K o x vx->Rv X.K o y vy->Ps (cg X E) (Rv X.K) o (f x y o.h) Q->r vx vy o.H Q)(hg:OpM X E r' g){σ:St}{H:Hp}{Q:VK}(h:tM (cg X E) (bG f g fa fb fc) σ H Q):rg r r' (tM (cg X E) fa) (tM (cg X E) fb) (tM (cg X E) fc) σ H Q:=by
 obtain⟨o,ρ,rfl,R,S,h⟩:=h
 refine⟨o,ρ,rfl,R,S,Ps.bd h fun p x vx e1 R1 r1 h1=>⟨p,ρ,rfl,R1,S.mono R e1,Ps.bd h1 fun q y vy e2 R2 r2 h2=>hf q x y vx vy _ R2 (r1.mono R1 e2) r2 (Ps.bd h2 fun s z vz e3 R3 r3 h3=>?_)⟩⟩
 obtain⟨k,rfl,rfl,h3⟩:=ud r3 h3
 refine⟨k,rfl,?_⟩
 cases k with
 |false=>exact iteF (h3.pr R3 (rv_bl.mpr rfl))
 |true=>exact iteT ⟨s,ρ,rfl,R3,((S.mono R e1).mono R1 e2).mono R2 e3,Ps.bd h3 fun u w vw e4 R4 r4 h4=>hg u y w vy vw Q R4 ((r2.mono R2 e3).mono R3 e4) r4 h4⟩
theorem sy {op op':CmpOp}{r r':R2}{f g:W->W->M W}(ho:OpR X (compareOp op) r)(hf:OpM X E r f)(ho':OpR X (compareOp op') r')(hg:OpM X E r' g)(ha:JE X E a fa)(hb:JE X E b fb)(hc:JE X E c fc)
 (hm:lastMarks [op,op'] [b,c]=false:=by with_unfolding_all rfl):JT X E (.Compare a [op,op'] [b,c] pos) (mB (bG f g fa fb fc)):=(rJ ho ho' ha.h hb.h hc.h hm).imp fun _ _ _ h=>rf hf hg (wJ h)
end
section
variable {es:List Expr}{env:Env}{pos:Pos}
theorem bg {c p}:starEach (.Name c p::es) env=(false,eval (.Name c p) env)::starEach es env:=by rfl
theorem zX {o a p}:starEach (.UnaryOp o a p::es) env=(false,eval (.UnaryOp o a p) env)::starEach es env:=by rfl
theorem iP {a o b p}:starEach (.Call a o b p::es) env=(false,eval (.Call a o b p) env)::starEach es env:=by rfl
theorem cZ:(backTo pos (starEach [] env)).any (·.1)=false:=by rfl
theorem cb {e:Expr}(hs:starEach (e::es) env=(false,eval e env)::starEach es env)(h:(backTo pos (starEach es env)).any (·.1)=false):(backTo pos (starEach (e::es) env)).any (·.1)=false:=by
 rw[hs]
 show ((false||(backTo pos (starEach es env)).any (·.1)):Bool)=false
 rw[h];rfl
end
section
variable {P:Program}{w:World}{K:PySem.W.Frag}{mg:Str->Option Value}{base:Heap}{x:Str}{f:Addr}{fd:FuncData}{ps:List Str}{k:Nat}{sp:Sp}{fn:List W->M W}
theorem tE (F:FnOk P w K mg base (CXx P w) k f fd ps sp){sp':Sp}(h:∀vs H Q E,sp' vs H Q E->sp vs H Q E0):FnOk P w K mg base CX0 k f fd ps sp':=
 ⟨fun vs H Q E q=>F.len vs H Q E0 (h _ _ _ _ q),fun A outer s H args us vs Q E hr he hb hv hs=>codeAny_mono (F.run A outer s H args us vs Q E0 hr he hb hv (h _ _ _ _ hs)) fun r s' q=>by
  cases r with
  |ok fl=>cases fl<;>exact q
  |error e=>
   obtain⟨_,_,_,_,_,_,_,_,_,_,_,_,_,_,z⟩:=q
   exact z.elim⟩
theorem lY {o:Wo}{ws:List W}{Q:VK}{wv:W}{v:V}{H':Hp}(R:Rel K o)(g:Same o.H H')(hv:Rv K ⟨o.mu,o.h,H'⟩ wv v)(h:Ps ⟨K,mg,E0⟩ (Rv K) o (pr wv o.h) Q):Q v H':=
 Ps.at (p:=⟨o.mu,o.h,H'⟩) h rfl (Ex.same g) (R.same g) hv
end
end
section
def spX (K:PySem.W.Frag)(mg:Str->Option Value)(n:Nat)(f:List W->M W):Sp:=fun vs H Q E=> ∃o ws,o.H=H/\ws.length=n/\Rel K o/\Rvs K o ws vs/\Ps ⟨K,mg,E⟩ (Rv K) o (f ws o.h) Q
structure CGx (P:Program)(w:World)(K:PySem.W.Frag)(mg:Str->Option Value)(base:Heap)(k:Nat)(x:Str)(f:Addr)(fd:FuncData)(ps:List Str)(m:Nat)(fn:List W->M W):Prop where
 ok:FnOk P w K mg base (CXx P w) k f fd ps (spX K mg m fn)
 bi:Binds K fd ps []
 kp:keepIn K (.ref f)=true
 mg:mg x=some (.ref f)
noncomputable def cls12:List Str:=["TooLong", "NoRow", "NoPlace", "Twice", "Full", "NoBox", "Open", "NoBlock", "NoForm", "NoneYet", "NoOrder", "NoWay"]
structure ExF (K:PySem.W.Frag)(mg:Str->Option Value)(CF:Addr)(c:Str):Prop where
 ex: ∃C,nsIn K mainGlobals c=some (some (.ref C))/\mg c=some (.ref C)/\ExcK K C/\PySem.W.exmOne K (.ref C) (.ref CF)=some true/\
  (∀d D,d∈cls12->nsIn K mainGlobals d=some (some (.ref D))->kitOne K (.ref C) (.ref D)=some (decide (c=d)))/\kitOne K (.ref C) (.type "ValueError")=some true
section
variable {X:Cx}{E:XK}{p pos:Pos}{a b:Expr}{l:Env'->M (List W)}{CF:Addr}{raised:List Str}
theorem dP {c:Str}{C:Addr}(hn:nsIn X.K mainGlobals c=some (some (.ref C)))(hm:X.mg c=some (.ref C))(hg:Gl X c:=by rfl)(hd:(c==("__debug__":Str))=false:=by decide):JE X E (.Name c pos) (mC (.cls c)):=
 (cN (v:=.ref C) hg hm rfl hd).imp fun _ _ _ h=>p6 (fun o=>by unfold Rv;exact⟨C,rfl,hn⟩) h
theorem u6 (hm:X.mg "ValueError"=none)(hg:Gl X "ValueError":=by rfl):JE X E (.Name "ValueError" pos) (mC (.ty "ValueError")):=
 (uG (v:=.ty "ValueError") hg hm (by kernel_rfl) rfl).imp fun _ _ _ h=>p6 (fun o=>rv_ty.mpr rfl) h
def isxW (raised:List Str)(ws:List W):M W:=match ws with
 |[.exc c,.cls d]=>gd (c∈raised/\d∈cls12) (pr (.bl (decide (c=d))))
 |[.exc c,.ty "ValueError"]=>gd (c∈raised) (pr (.bl true))
 |_=>no
theorem dk (F:∀c∈raised,ExF X.K X.mg CF c)(hm:X.mg "isinstance"=none)(ha:JA X E [a,b] l)(hg:Gl X "isinstance":=by rfl)(he:starEach [a,b] X.env=(false,eval a X.env)::starEach [b] X.env:=by rfl)(hpl:(backTo pos (starEach [b] X.env)).any (·.1)=false:=by rfl):JE X E (.Call (.Name "isinstance" p) [a,b] [] pos) (mCall (isxW raised) l):=
 mI lJ (fun o ws vs Q R rv h=>by
  unfold isxW at h
  split at h
  ·rename_i c d
   obtain⟨v,u,rfl,r1,r2⟩:=rv.two
   obtain⟨hc,h⟩:=h.gd
   unfold Rv at r1 r2
   obtain⟨a,C,rfl,n1,hH⟩:=r1
   obtain⟨D,rfl,n2⟩:=r2
   obtain⟨C',n1',_,ek,_,kt,_⟩:=(F c hc.1).ex
   rw[n1] at n1'
   cases n1'
   exact⟨a,C,.ref D,.ref D,_,rfl,rfl,hH,ek,kt d D hc.2 n2,h.pr R (rv_bl.mpr rfl)⟩
  ·rename_i c
   obtain⟨v,u,rfl,r1,r2⟩:=rv.two
   obtain⟨hc,h⟩:=h.gd
   rw[rv_ty.mp r2]
   unfold Rv at r1
   obtain⟨a,C,rfl,n1,hH⟩:=r1
   obtain⟨C',n1',_,ek,_,_,kv⟩:=(F c hc).ex
   rw[n1] at n1'
   cases n1'
   exact⟨a,C,.ty "ValueError",.type "ValueError",_,rfl,rfl,hH,ek,kv,h.pr R (rv_bl.mpr rfl)⟩
  ·exact h.elim) hg hm PyProof.Rows.boot_isinstance ha (he:=he) (hpl:=hpl)
noncomputable def clr (i:Nat):Fl->Fl
 |.nx r=>.nx (r.set i none)
 |.bk r=>.bk (r.set i none)
 |.ct r=>.ct (r.set i none)
 |.rt w=>.rt w
def sTry (i:Nat)(raised:List Str)(m:Nat)(fn:List W->M W)(l:Env'->M (List W))(g:Env'->M Fl):Env'->M Fl:=fun ρ=>bd (l ρ) fun ws h=>if ws.length=m then (match fn ws h with
 |.ok _ h'=>.ok (.nx ρ) h'
 |.ex c h'=>if c∈raised then bd (g (ρ.set i (some (.exc c)))) (fun x=>pr (clr i x)) h' else .bad
 |.bad=>.bad) else .bad
theorem Re.unset {K:PySem.W.Frag}{o:Wo}: ∀ {r:Env'}{s:St} (i:Nat),Re K o r s->Re K o (r.set i none) (s.set i none)
 |[],_,_,h=>by rw[show _=[] from h];rfl
 |x::r,_,0,⟨y,t,rfl,h1,h2⟩=>⟨_,_,rfl,rfl,h2⟩
 |x::r,_,i+1,⟨y,t,rfl,h1,h2⟩=>⟨_,_,rfl,h1,Re.unset i h2⟩
variable {x n f:Str}{e b0:Expr}{es:List Expr}{s0:Stmt}{suite:List Stmt}{np hpos tpos epos:Pos}{fn:List W->M W}{g:Env'->M Fl}{k i m:Nat}{fA:Addr}{fd:FuncData}{ps:List Str}
theorem xV (D:InDef X)(F:∀c∈raised,ExF X.K X.mg CF c)(C:CGx X.prog X.w X.K X.mg X.base k f fA fd ps m fn)(hr:Room k X.A)(hm:X.mg x=some (.ref CF))(hN:X.N.Nodup)(hi:X.N[i]?=some n)(hk:X.env.kindOf n=some .local)(ha: ∀pn Z,JA (tryX X pn Z) E0 (e::es) l)(hs: ∀ea,JSs (gm X ea) E0 (s0::suite) g)
  (hg:Gl X x:=by rfl)(hgf: ∀pn Z,Gl (tryX X pn Z) f:=by intros;rfl)(hd:(x==("__debug__":Str))=false:=by decide)(hdb:(f==("__debug__":Str))=false:=by decide)
  (he: ∀pn Z,starEach (e::es) (tryX X pn Z).env=(false,eval e (tryX X pn Z).env)::starEach es (tryX X pn Z).env:=by intros;rfl)(hpl: ∀pn Z,(backTo pos (starEach es (tryX X pn Z).env)).any (·.1)=false:=by intros;rfl)
  (hsw: ∀pn Z,swapsWith (.Call (.Name f p) (e::es) [] pos) none epos.line (tryX X pn Z).env=pure false:=by intros;rfl):
  JS X E0 (.Try [.Expr (.Call (.Name f p) (e::es) [] pos) epos] [.ExceptHandler (some (.Name x np)) (some n) (s0::suite) hpos] [] [] tpos) (sTry i raised m fn l g):=
 (rK D hg hm hN hi hk (fun pn Z=>aK (iY (rS (X:=tryX X pn Z) C.ok hr (hgf pn Z) C.mg C.kp C.bi .nil om (show PA (tryX X pn Z) (e::es) (tA (cg X E0) l) from (ha pn Z).h) hdb (he pn Z) (hpl pn Z)) (hsw pn Z))) (fun ea=>show PSs (gm X ea) (s0::suite) (tS (cg X E0) g) from (hs ea).h) hd).imp fun D σ H h=>by
  obtain⟨o,ρ,rfl,R,S,h⟩:=h
  refine (show tA (cg X E0) l σ o.H (fun vs H1=>spX X.K X.mg m fn (vs++[]) H1 (fun _ H2=>D.nx σ H2) (fun cls _ H'=>PySem.W.exmOne X.K cls (.ref CF)=some true/\ ∀ea,H' ea=none->tS (cg X E0) g {nx:=fun σ2 H2=>D.nx (σ2.set i none) H2,rt:=D.rt,bk:=fun σ2 H2=>D.bk (σ2.set i none) H2,ct:=fun σ2 H2=>D.ct (σ2.set i none) H2} (σ.set i (some (.ref ea))) (upd H' ea (excO ea cls)))) from ?_)
  refine⟨o,ρ,rfl,R,S,Ps.bd h fun p ws vs e1 R1 r1 h1=>?_⟩
  have S1:=S.mono R e1
  by_cases z:ws.length=m
  ·simp only[if_pos z] at h1
   refine⟨p,ws,rfl,z,R1,by rw[List.append_nil];exact r1,?_⟩
   cases ef:fn ws p.h with
   |bad=>rw[ef] at h1;exact h1.elim
   |ok w h'=>
    rw[ef] at h1
    intro q b eq X2 R2 _
    exact Ps.at (b:=FlV.nx σ) h1 eq X2 R2 ⟨σ,rfl,S1.mono R1 X2⟩
   |ex c h'=>
    rw[ef] at h1
    by_cases hc:c∈raised
    ·simp only[if_pos hc] at h1
     obtain⟨C',n1,m1,ek,xm,_,_⟩:=(F c hc).ex
     refine⟨.ref C',m1,fun q eq X2 R2=>⟨xm,fun ea hea=>?_⟩⟩
     subst eq
     have X3:Ex q ⟨q.mu,q.h,upd q.H ea (excO ea (.ref C'))⟩:=Ex.new hea
     have R3:Rel X.K ⟨q.mu,q.h,upd q.H ea (excO ea (.ref C'))⟩:=R2.new hea
     have S3:=(S1.mono R1 X2).mono R2 X3
     have rv:Rv X.K ⟨q.mu,q.h,upd q.H ea (excO ea (.ref C'))⟩ (.exc c) (.ref ea):=by
      unfold Rv
      exact⟨ea,C',rfl,n1,aM⟩
     have h2:Ps (cg X E0) (RFl X.K) ⟨q.mu,q.h,upd q.H ea (excO ea (.ref C'))⟩ (bd (g (ρ.set i (some (.exc c)))) (fun x=>pr (clr i x)) q.h) (DQ D):=(h1.after X2).after X3
     refine⟨⟨q.mu,q.h,upd q.H ea (excO ea (.ref C'))⟩,ρ.set i (some (.exc c)),rfl,R3,S3.set rv i,Ps.bd h2 fun s x b e4 R4 r4 h4=>?_⟩
     cases x with
     |nx r=>obtain⟨s',rfl,re⟩:=r4;have q:=Ps.pr (b:=FlV.nx (s'.set i none)) h4 R4 ⟨_,rfl,re.unset i⟩;exact q
     |bk r=>obtain⟨s',rfl,re⟩:=r4;have q:=Ps.pr (b:=FlV.bk (s'.set i none)) h4 R4 ⟨_,rfl,re.unset i⟩;exact q
     |ct r=>obtain⟨s',rfl,re⟩:=r4;have q:=Ps.pr (b:=FlV.ct (s'.set i none)) h4 R4 ⟨_,rfl,re.unset i⟩;exact q
     |rt w=>obtain⟨v,rfl,re⟩:=r4;have q:=Ps.pr (b:=FlV.rt v) h4 R4 ⟨_,rfl,re⟩;exact q
    ·simp only[if_neg hc] at h1;exact h1.elim
  ·simp only[if_neg z] at h1;exact h1.elim
def catL (fa fb:Env'->M W):Env'->M (List W):=fun ρ=>bd (fa ρ) fun x=>bd (fb ρ) fun y=>bd (lstO x) fun a=>bd (lstO y) fun b=>gd (a.length+b.length<=sizeLine) (pr (a++b))
theorem ox {fa fb:Env'->M W}(ha:JE X E a fa)(hb:JE X E b fb):JF X E (.BinOp a .Add b pos) (catL fa fb):=(mj r6 ha.h hb.h).impF fun σ H Q h=>by
 obtain⟨o,ρ,rfl,R,S,h⟩:=h
 refine⟨o,ρ,rfl,R,S,Ps.bd h fun p x vx e1 R1 r1 h1=>⟨p,ρ,rfl,R1,S.mono R e1,Ps.bd h1 fun q y vy e2 R2 r2 h2=>?_⟩⟩
 obtain⟨l,a,vs,rfl,s1,r3,h3⟩:=dU R2 (r1.mono R1 e2) h2
 obtain⟨m,b,us,rfl,s2,r4,h4⟩:=dU R2 r2 h3
 obtain⟨hz,h4⟩:=h4.gd
 exact⟨a,b,vs,us,rfl,rfl,s1,s2,by rw[r3.len,r4.len];exact hz,h4.pr R2 (r3.app r4)⟩
end
end
end L2
namespace L2
open PySem
theorem df {α β:Type}{f:M α}{g:α->M β}{h h':List Ob}{a:α}(e:f h=.ok a h'):bd f g h=g a h':=by unfold bd;rw[e]
@[simp] theorem bd_pr {α β:Type}(a:α)(g:α->M β):bd (pr a) g=g a:=rfl
@[simp] theorem bd_no {α β:Type}(g:α->M β):bd (no:M α) g=no:=rfl
theorem ai {α:Type}{p:Prop} [Decidable p] {m:M α}(hp:p):gd p m=m:=by funext h;unfold gd;rw[if_pos hp]
@[simp] theorem addW_int (i j:Int):addW (.int i) (.int j)=pr (.int (i+j)):=rfl
theorem uf {a b:Str}(h:a.length+b.length<=sizeLine):addW (.str a) (.str b)=pr (.str (a++b)):=by unfold addW;exact ai h
@[simp] theorem subW_int (i j:Int):subW (.int i) (.int j)=pr (.int (i - j)):=ai trivial
theorem gB {i j:Int}(h:CMulA i j):mulW (.int i) (.int j)=pr (.int (i * j)):=by unfold mulW;exact ai h
theorem ou {i j:Int}(h1: -(2 ^ 64)<i)(h2:i<2 ^ 64):CMulA i j:=.inl (.inl ⟨h1,h2⟩)
theorem su {i j:Int}(h1: -(2 ^ 64)<j)(h2:j<2 ^ 64):CMulA i j:=.inl (.inr ⟨h1,h2⟩)
theorem aA {i j:Int}(h1:0<j)(h2:j<2 ^ 200):fdivW (.int i) (.int j)=pr (.int (i / j)):=ai ⟨h1,h2⟩
theorem aw {i j:Int}(h1:0<j):modW (.int i) (.int j)=pr (.int (i % j)):=ai h1
theorem jm {i j:Int}(h:CPow i j):powW (.int i) (.int j)=pr (.int (i ^ j.toNat)):=ai h
theorem rp {i j:Int}(h:0<=j):shrW (.int i) (.int j)=pr (.int (i / 2 ^ j.toNat)):=ai h
@[simp] theorem ltW_int (i j:Int):ltW (.int i) (.int j)=pr (.bl (decide (i<j))):=ai trivial
@[simp] theorem leW_int (i j:Int):leW (.int i) (.int j)=pr (.bl (decide (i<=j))):=ai trivial
@[simp] theorem gtW_int (i j:Int):gtW (.int i) (.int j)=pr (.bl (decide (j<i))):=ai trivial
@[simp] theorem geW_int (i j:Int):geW (.int i) (.int j)=pr (.bl (decide (j<=i))):=ai trivial
@[simp] theorem asB_bl (b:Bool):asB (.bl b)=pr b:=rfl
@[simp] theorem eqW_int (i j:Int):eqW (.int i) (.int j)=pr (.bl (decide (i=j))):=by
  funext h
  show Rs.ok (W.bl (decide (V.int i=V.int j))) h=Rs.ok (W.bl (decide (i=j))) h
  congr 2
  rw[decide_eq_decide]
  exact⟨V.int.inj,congrArg _⟩
@[simp] theorem eqW_str (i j:Str):eqW (.str i) (.str j)=pr (.bl (decide (i=j))):=by
  funext h
  show Rs.ok (W.bl (decide (V.str i=V.str j))) h=Rs.ok (W.bl (decide (i=j))) h
  congr 2
  rw[decide_eq_decide]
  exact⟨V.str.inj,congrArg _⟩
@[simp] theorem neW_int (i j:Int):neW (.int i) (.int j)=pr (.bl (!decide (i=j))):=by
  funext h
  show Rs.ok (W.bl (!decide (V.int i=V.int j))) h=Rs.ok (W.bl (!decide (i=j))) h
  congr 3
  rw[decide_eq_decide]
  exact⟨V.int.inj,congrArg _⟩
@[simp] theorem neW_str (i j:Str):neW (.str i) (.str j)=pr (.bl (!decide (i=j))):=by
  funext h
  show Rs.ok (W.bl (!decide (V.str i=V.str j))) h=Rs.ok (W.bl (!decide (i=j))) h
  congr 3
  rw[decide_eq_decide]
  exact⟨V.str.inj,congrArg _⟩
@[simp] theorem neW_bl (i j:Bool):neW (.bl i) (.bl j)=pr (.bl (!decide (i=j))):=by
  funext h
  show Rs.ok (W.bl (!decide (V.bl i=V.bl j))) h=Rs.ok (W.bl (!decide (i=j))) h
  congr 3
  rw[decide_eq_decide]
  exact⟨V.bl.inj,congrArg _⟩
theorem eF {l:List W}{i:Int}{w:W}(h:atI l i=some w):ixW (.tl l) (.int i)=pr w:=by
 funext hh
 unfold ixW
 have:ixO (.tl l) (.int i) hh=some w:=h
 rw[this];rfl
theorem gK {l:List W}{i:Int}{w:W}(h:atI l i=some w):ixW (.tup l) (.int i)=pr w:=by
 funext hh
 unfold ixW
 have:ixO (.tup l) (.int i) hh=some w:=h
 rw[this];rfl
theorem pq {z:Str}{i:Int}{c:Nat}(hz:z.length<=sizeLine)(h:atI z.cps.toList i=some c):ixW (.str z) (.int i)=pr (.str ⟨#[c]⟩):=by
 funext hh
 unfold ixW
 have:ixO (.str z) (.int i) hh=some (.str ⟨#[c]⟩):=by
  show (if z.length<=sizeLine then (atI z.cps.toList i).map fun c=>W.str ⟨#[c]⟩ else none)=_
  rw[if_pos hz,h];rfl
 rw[this];rfl
@[simp] theorem slW_tl (l:List W)(lo hi:Option Int):slW (.tl l) lo hi=pr (.tl (cutW l lo hi)):=rfl
@[simp] theorem slW_cl (l:List W)(lo hi:Option Int):slW (.cl l) lo hi=pr (.tl (cutW l lo hi)):=rfl
@[simp] theorem lenW_tl (l:List W):lenW [.tl l]=pr (.int l.length):=rfl
@[simp] theorem lenW_tup (l:List W):lenW [.tup l]=pr (.int l.length):=rfl
theorem ue {n:Nat}{f:List W->M W}{ws:List W}(h:ws.length=n):arW n f ws=f ws:=if_pos h
theorem rj {i:Int}(h:i.natAbs.log2<1920):strW [.int i]=pr (.str (toString i)):=ai h
theorem eX {α:Type}(f:α->W)(l:List α)(d:α){i:Int}(h0:0<=i)(h:i<l.length):atI (l.map f) i=some (f (l.getD i.toNat d)):=by
 have hi:i.toNat<l.length:=by omega
 have e:atI (l.map f) ((i.toNat:Nat):Int)=some (f (l.getD i.toNat d)):=iw (by rw[List.getElem?_map,List.getElem?_eq_getElem hi,List.getD_eq_getElem?_getD,List.getElem?_eq_getElem hi];rfl)
 have e2:((i.toNat:Nat):Int)=i:=by omega
 rw[e2] at e;exact e
theorem cJ {α:Type}{xs:List α}{i:Int}{v:α}(h0:0<=i)(h:xs[i.toNat]?=some v):atI xs i=some v:=by
 have q:=iw h
 have e:((i.toNat:Nat):Int)=i:=by omega
 rw[e] at q;exact q
def finF:Fl->M W:=fun x=>match x with
 |.rt w=>pr w
 |.nx _=>pr .non
 |_=>no
theorem gdn0 {α:Type}(m:M α):gd (0<=sizeLine) m=m:=ai (by decide)
theorem gdn1 {α:Type}(m:M α):gd (0+1<=sizeLine) m=m:=ai (by decide)
theorem gdn2 {α:Type}(m:M α):gd (0+1+1<=sizeLine) m=m:=ai (by decide)
theorem gdn3 {α:Type}(m:M α):gd (0+1+1+1<=sizeLine) m=m:=ai (by decide)
theorem gdn4 {α:Type}(m:M α):gd (0+1+1+1+1<=sizeLine) m=m:=ai (by decide)
theorem gdn5 {α:Type}(m:M α):gd (0+1+1+1+1+1<=sizeLine) m=m:=ai (by decide)
theorem gdn6 {α:Type}(m:M α):gd (0+1+1+1+1+1+1<=sizeLine) m=m:=ai (by decide)
theorem gdn7 {α:Type}(m:M α):gd (0+1+1+1+1+1+1+1<=sizeLine) m=m:=ai (by decide)
theorem gdn8 {α:Type}(m:M α):gd (0+1+1+1+1+1+1+1+1<=sizeLine) m=m:=ai (by decide)
theorem gdn9 {α:Type}(m:M α):gd (0+1+1+1+1+1+1+1+1+1<=sizeLine) m=m:=ai (by decide)
theorem gdn10 {α:Type}(m:M α):gd (0+1+1+1+1+1+1+1+1+1+1<=sizeLine) m=m:=ai (by decide)
theorem gdn11 {α:Type}(m:M α):gd (0+1+1+1+1+1+1+1+1+1+1+1<=sizeLine) m=m:=ai (by decide)
theorem gdn12 {α:Type}(m:M α):gd (0+1+1+1+1+1+1+1+1+1+1+1+1<=sizeLine) m=m:=ai (by decide)
theorem gdn13 {α:Type}(m:M α):gd (0+1+1+1+1+1+1+1+1+1+1+1+1+1<=sizeLine) m=m:=ai (by decide)
theorem gdn14 {α:Type}(m:M α):gd (0+1+1+1+1+1+1+1+1+1+1+1+1+1+1<=sizeLine) m=m:=ai (by decide)
theorem gdn15 {α:Type}(m:M α):gd (0+1+1+1+1+1+1+1+1+1+1+1+1+1+1+1<=sizeLine) m=m:=ai (by decide)
theorem gdn16 {α:Type}(m:M α):gd (0+1+1+1+1+1+1+1+1+1+1+1+1+1+1+1+1<=sizeLine) m=m:=ai (by decide)
theorem gdn17 {α:Type}(m:M α):gd (0+1+1+1+1+1+1+1+1+1+1+1+1+1+1+1+1+1<=sizeLine) m=m:=ai (by decide)
theorem gdn18 {α:Type}(m:M α):gd (0+1+1+1+1+1+1+1+1+1+1+1+1+1+1+1+1+1+1<=sizeLine) m=m:=ai (by decide)
theorem gdn19 {α:Type}(m:M α):gd (0+1+1+1+1+1+1+1+1+1+1+1+1+1+1+1+1+1+1+1<=sizeLine) m=m:=ai (by decide)
theorem gdn20 {α:Type}(m:M α):gd (0+1+1+1+1+1+1+1+1+1+1+1+1+1+1+1+1+1+1+1+1<=sizeLine) m=m:=ai (by decide)
theorem gdn21 {α:Type}(m:M α):gd (0+1+1+1+1+1+1+1+1+1+1+1+1+1+1+1+1+1+1+1+1+1<=sizeLine) m=m:=ai (by decide)
theorem gdn22 {α:Type}(m:M α):gd (0+1+1+1+1+1+1+1+1+1+1+1+1+1+1+1+1+1+1+1+1+1+1<=sizeLine) m=m:=ai (by decide)
theorem gdn23 {α:Type}(m:M α):gd (0+1+1+1+1+1+1+1+1+1+1+1+1+1+1+1+1+1+1+1+1+1+1+1<=sizeLine) m=m:=ai (by decide)
theorem gdn24 {α:Type}(m:M α):gd (0+1+1+1+1+1+1+1+1+1+1+1+1+1+1+1+1+1+1+1+1+1+1+1+1<=sizeLine) m=m:=ai (by decide)
theorem dG {α:Type}{m:M α}{inst:Decidable (true=true)}: @gd α (true=true) inst m=m:= @ai α (true=true) inst m rfl
theorem aP {src:Env'->M Sr}{t:W->Env'->Option Env'}{f:Env'->M Bool}{e:Env'->M W}{n:Nat}{ρ:Env'}:mComp [] src t f e n ρ=bd (src ρ) fun s=>gd (s.l.length<=sizeLine) (compM s.G t f e n s.l ρ):=by unfold mComp;exact ai rfl
section
theorem fk {t:W->Env'->Option Env'}{f:Env'->M Bool}{e:Env'->M W}{n:Nat}{ρ:Env'}{b:W->Bool}{v:W->W}: ∀ {l:List W},(∀w∈l,∃r,t w (List.replicate n none++ρ)=some r/\f r=pr (b w)/\(b w=true->e r=pr (v w)))->compM (fun _=>True) t f e n l ρ=pr ((l.filter b).map v)
 |[],_=>by unfold compM;rw[mU];rfl
 |w::l,h=>by
  obtain⟨r,h1,h2,h3⟩:=h w List.mem_cons_self
  have ih:=fk (l:=l) fun x hx=>h x (List.mem_cons_of_mem _ hx)
  unfold compM
  rw[mU,h1]
  dsimp only
  rw[h2,bd_pr]
  by_cases hb:b w=true
  ·rw[if_pos hb,h3 hb,bd_pr,ih,bd_pr,List.filter_cons_of_pos hb];rfl
  ·rw[if_neg hb,ih,List.filter_cons_of_neg hb]
theorem jq {α:Type}{f:W->Option α}{g:α->W}(hf: ∀a,f (g a)=some a): ∀l:List α,optL f (l.map g)=some l
 |[]=>rfl
 |a::l=>by
  show (match f (g a),optL f (l.map g) with
   |some b,some r=>some (b::r)
   |_,_=>none)=_
  rw[hf,jq hf l]
theorem ki {β:Type}{α:Type}{f:W->Option β}{g:α->W}{k:α->β}(hf: ∀a,f (g a)=some (k a)): ∀l:List α,optL f (l.map g)=some (l.map k)
 |[]=>rfl
 |a::l=>by
  show (match f (g a),optL f (l.map g) with
   |some b,some r=>some (b::r)
   |_,_=>none)=_
  rw[hf,ki hf l];rfl
theorem eT {α:Type}{g:α->W}{k:α->V}(hf: ∀a,vOf (g a)=some (k a)): ∀l:List α,vsOf (l.map g)=some (l.map k)
 |[]=>rfl
 |a::l=>by
  show (match vOf (g a),vsOf (l.map g) with
   |some v,some vs=>some (v::vs)
   |_,_=>none)=_
  rw[hf,eT hf l];rfl
theorem jD {sep:Str}{ts:List Str}(h:(ts.map (·.length)).sum+ts.length * sep.length<=sizeLine):joinW (.str sep) [.tl (ts.map W.str)]=pr (.str (Str.join sep ts)):=by
 have e:joinW (.str sep) [.tl (ts.map W.str)]=(match optL sOf (ts.map W.str) with
  |some (ts:List Str)=>gd ((ts.map (fun z:Str=>z.length)).sum+ts.length * sep.length<=sizeLine) (pr (W.str (Str.join sep ts)))
  |none=>no):=rfl
 rw[e,jq (f:=sOf) (g:=W.str) (fun a=>rfl)]
 exact ai h
theorem qM {l m:List W}{ds es:List PyData}{h:List Ob}(h1:optL (dataH h 49) l=some ds)(h2:optL (dataH h 49) m=some es)(c1:PyData.canLayAll0 ds=true)(c2:PyData.canLayAll0 es=true):eqB (.tl l) (.tl m) h=some (PyData.eqvAll ds es):=by
 show (match (optL (dataH h 49) l).map PyData.list,(optL (dataH h 49) m).map PyData.list with
  |some d,some e=>if d.canLay0=true/\e.canLay0=true then some (PyData.eqv d e) else none
  |_,_=>none)=_
 rw[h1,h2]
 show (if (PyData.list ds).canLay0=true/\(PyData.list es).canLay0=true then some (PyData.eqv (.list ds) (.list es)) else none)=_
 rw[if_pos ⟨by rw[PyData.canLay0];exact c1,by rw[PyData.canLay0];exact c2⟩,PyData.eqv]
theorem tO {x y:W}{b:Bool}(h:∀h,eqB x y h=some b):eqW x y=pr (.bl b):=by funext hh;unfold eqW;rw[h];rfl
theorem xO {x y:W}{b:Bool}(h:∀h,eqB x y h=some b):neW x y=pr (.bl (!b)):=by funext hh;unfold neW;rw[h];rfl
theorem tW {α:Type}{k:α->PyData}: ∀ (l:List α),(∀a∈l,(k a).canLay0=true)->PyData.canLayAll0 (l.map k)=true
 |[],_=>by rw[List.map_nil,PyData.canLayAll0]
 |a::l,h=>by rw[List.map_cons,PyData.canLayAll0,h a List.mem_cons_self,tW l fun b hb=>h b (List.mem_cons_of_mem _ hb)];rfl
theorem gQ (a b:Str):(a++b).cps.toList=a.cps.toList++b.cps.toList:=by
 show (a.cps++b.cps).toList=_
 rw[Array.toList_append]
theorem eC {x:Str}{ss:List Str}:bS (.str x) (.tl (ss.map W.str))=pr (.bl (!decide (x∈ss))):=by
 funext h
 unfold bS
 have e:inB (.str x) (.tl (ss.map W.str)) h=some (decide (x∈ss)):=by
  show (match vOf (.str x),vsOf (ss.map W.str) with
   |some v,some vs=>some (inV v vs)
   |_,_=>none)=_
  rw[eT (k:=V.str) (fun a=>rfl)]
  show some (inV (.str x) (ss.map V.str))=_
  congr 1
  unfold inV
  rw[Bool.eq_iff_iff,List.any_eq_true,decide_eq_true_eq]
  constructor
  ·rintro⟨v,hv,q⟩
   obtain⟨y,hy,rfl⟩:=List.mem_map.mp hv
   have:y=x:=by simpa [eqV] using q
   subst this;exact hy
  ·intro q
   exact⟨.str x,List.mem_map.mpr ⟨x,q,rfl⟩,by simp [eqV]⟩
 rw[e];rfl
end
end L2
namespace L2
open PySem PySem.Spec PyProof.Rows
section
variable {X:Cx}{E:XK}{p pos:Pos}
variable {o e:Expr}{apos cpos:Pos}{fo:Env'->M W}{l:Env'->M (List W)}
end
end L2
namespace L2
open PySem
theorem ba {α β:Type}(a:α)(g:α->M β):bd (pr a) g=g a:=funext fun h=>df (f:=pr a) (a:=a) (h:=h) (h':=h) rfl
def Ok {α:Type}(m:M α)(h:List Ob)(Q:α->List Ob->Prop):Prop:= ∃a h',m h=.ok a h'/\Q a h'
section
variable {α β:Type}{m:M α}{k:α->M β}{h h':List Ob}{a:α}
theorem Ok.imp {P Q:α->List Ob->Prop}(p:Ok m h P)(q:∀a h',P a h'->Q a h'):Ok m h Q:=let ⟨a,h',e,r⟩:=p;⟨a,h',e,q a h' r⟩
theorem bJ {P:α->List Ob->Prop}{Q:β->List Ob->Prop}(p:Ok m h P)(q:∀a h',P a h'->Ok (k a) h' Q):Ok (bd m k) h Q:=by
 obtain⟨a,h',e,r⟩:=p
 obtain⟨b,h2,e2,r2⟩:=q a h' r
 exact⟨b,h2,(df e).trans e2,r2⟩
theorem aY {Q:β->List Ob->Prop}(e:m h=.ok a h')(q:Ok (k a) h' Q):Ok (bd m k) h Q:=by
 obtain⟨b,h2,e2,r2⟩:=q
 exact⟨b,h2,(df e).trans e2,r2⟩
theorem aq {Q:α->List Ob->Prop}(q:Q a h):Ok (pr a) h Q:=⟨a,h,rfl,q⟩
end
section
variable {β:Type}{h:List Ob}{Q:β->List Ob->Prop}{j:Nat}{l:List W}
theorem v7 {i:Int}{w:W}{k:W->M β}(e:h[j]?=some (.lst l))(e2:atI l i=some w)(q:Ok (k w) h Q):Ok (bd (ixW (.loc j) (.int i)) k) h Q:=by
 refine aY (a:=w) (h':=h) ?_ q
 have d:dicOf (.loc j) h=none:=by unfold dicOf;simp only[e]
 have lo:lstOf (.loc j) h=.ok l h:=by unfold lstOf;simp only[e]
 have:ixO (.loc j) (.int i) h=some w:=by
  unfold ixO
  simp only[d,lo,e2]
 unfold ixW
 rw[this]
theorem dM {w:W}{k:W->M β}(e:h[j]?=some (.lst l))(z:l.length<sizeLine)(q:Ok (k .non) (h.set j (.lst (l++[w]))) Q):Ok (bd (bf (.loc j) [w]) k) h Q:=by
 refine aY (a:=.non) (h':=h.set j (.lst (l++[w]))) ?_ q
 unfold bf
 simp only[e,if_pos z]
theorem di {k:W->M β}(e:h[j]?=some (.lst l))(q:Ok (k (.loc j)) h Q):Ok (bd (isL (.loc j)) k) h Q:=by
 refine aY (a:=.loc j) (h':=h) ?_ q
 unfold isL
 simp only[e]
theorem cP {k:W->M β}(q:Ok (k (.loc h.length)) (h++[.lst l]) Q):Ok (bd (newW l) k) h Q:=aY (a:=.loc h.length) (h':=h++[.lst l]) rfl q
theorem ju {k:W->M β}(e:h[j]?=some (.lst l))(q:Ok (k (.tl l)) (h.set j .gone) Q):Ok (bd (iceW (.loc j)) k) h Q:=by
 refine aY (a:=.tl l) (h':=h.set j .gone) ?_ q
 unfold iceW
 simp only[e]
theorem oo {k:Sr->M β}(e:h[j]?=some (.lst l))(q:Ok (k ⟨l,fun h=>h[j]?=some (.lst l)⟩) h Q):Ok (bd (srcL (.loc j)) k) h Q:=by
 refine aY (a:=⟨l,fun h=>h[j]?=some (.lst l)⟩) (h':=h) ?_ q
 unfold srcL
 simp only[e]
noncomputable def Lw (h:List Ob)(x:W)(l:List W):Prop:=x=.tl l\/ ∃j,x=.loc j/\h[j]?=some (.lst l)
theorem Lw.of {x:W}(p:Lw h x l):lstOf x h=.ok l h:=by
 rcases p with rfl|⟨j,rfl,e⟩
 ·rfl
 ·unfold lstOf;simp only[e]
theorem Lw.len {x:W}{k:W->M β}(p:Lw h x l)(q:Ok (k (.int l.length)) h Q):Ok (bd (lenW [x]) k) h Q:=by
 refine aY (a:=.int l.length) (h':=h) ?_ q
 have e:=p.of
 rcases p with rfl|⟨j,rfl,_⟩
 ·rfl
 ·show bd (lstOf (.loc j)) (fun l=>pr (W.int l.length)) h=_
  rw[df e];rfl
end
theorem io {x:Str}{ss:List Str}:inV (.str x) (ss.map V.str)=decide (x∈ss):=by
 unfold inV
 rw[Bool.eq_iff_iff,List.any_eq_true,decide_eq_true_eq]
 constructor
 ·rintro⟨v,hv,q⟩
  obtain⟨y,hy,rfl⟩:=List.mem_map.mp hv
  have:y=x:=by simpa [eqV] using q
  subst this;exact hy
 ·intro q
  exact⟨.str x,List.mem_map.mpr ⟨x,q,rfl⟩,by simp [eqV]⟩
theorem dW {x:Str}{ss:List Str}:inW (.str x) (.tl (ss.map W.str))=pr (.bl (decide (x∈ss))):=by
 funext h
 unfold inW
 have e:inB (.str x) (.tl (ss.map W.str)) h=some (decide (x∈ss)):=by
  show (match vOf (.str x),vsOf (ss.map W.str) with
   |some v,some vs=>some (inV v vs)
   |_,_=>none)=_
  rw[eT (k:=V.str) (fun a=>rfl)]
  show some (inV (.str x) (ss.map V.str))=_
  rw[io]
 rw[e];rfl
theorem v8 {β:Type}{h:List Ob}{Q:β->List Ob->Prop}{j:Nat}{x:Str}{ss:List Str}{k:W->M β}(e:h[j]?=some (.lst (ss.map W.str)))(q:Ok (k (.bl (decide (x∈ss)))) h Q):Ok (bd (inW (.str x) (.loc j)) k) h Q:=by
 refine aY (a:=.bl (decide (x∈ss))) (h':=h) ?_ q
 unfold inW
 have d:dicOf (.loc j) h=none:=by unfold dicOf;simp only[e]
 have lo:lstOf (.loc j) h=.ok (ss.map W.str) h:=by unfold lstOf;simp only[e]
 have e:inB (.str x) (.loc j) h=some (decide (x∈ss)):=by
  unfold inB
  simp only[d,lo,eT (g:=W.str) (k:=V.str) (fun a=>rfl) ss]
  show some (inV (.str x) (ss.map V.str))=_
  rw[io]
 rw[e]
theorem jj {i:Int}(h0: -(2 ^ 62)<=i)(h1:i<2 ^ 62):rng1 [.int i]=pr ⟨intsW 0 i.toNat,fun _=>True⟩:=ai ⟨h0,h1⟩
theorem tz {G:List Ob->Prop}{t:W->Env'->Option Env'}{g:Env'->M Fl}(I:Nat->Env'->List Ob->Prop)(l:List W)(hG: ∀i ρ h,I i ρ h->G h)
  (hs: ∀i w ρ h,l[i]?=some w->I i ρ h-> ∃r,t w ρ=some r/\Ok (g r) h fun x h'=> ∃r',x=.nx r'/\I (i+1) r' h'):
  ∀ (m:List W) (n:Nat) (ρ:Env') (h:List Ob),l.drop n=m->n<=l.length->I n ρ h->Ok (forM G t g m ρ) h fun x h'=> ∃r',x=.nx r'/\I l.length r' h'
 |[],n,ρ,h,e,hn,i=>by
  have:l.length<=n:=List.drop_eq_nil_iff.mp e
  have hn:n=l.length:=by omega
  subst hn
  refine⟨.nx ρ,h,?_,ρ,rfl,i⟩
  unfold forM
  rw[bL (hG _ _ _ i)];rfl
 |w::m,n,ρ,h,e,hn,i=>by
  have hw:l[n]?=some w:=by
   have:=congrArg List.head? e
   rw[List.head?_drop,List.head?_cons] at this
   exact this
  have hl:n<l.length:=(List.getElem?_eq_some_iff.mp hw).1
  have em:l.drop (n+1)=m:=by rw[<-List.tail_drop,e];rfl
  obtain⟨r,e1,x,h',e2,r',rfl,i'⟩:=hs n w ρ h hw i
  obtain⟨y,h2,e3,q⟩:=tz I l hG hs m (n+1) r' h' em hl i'
  refine⟨y,h2,?_,q⟩
  unfold forM
  rw[bL (hG _ _ _ i),e1]
  dsimp only
  rw[df e2]
  exact e3
theorem jv {β:Type}{G:List Ob->Prop}{t:W->Env'->Option Env'}{g:Env'->M Fl}{l:List W}{ρ:Env'}{h:List Ob}{k:Fl->M β}{Q:β->List Ob->Prop}(I:Nat->Env'->List Ob->Prop)(h0:I 0 ρ h)(hG: ∀i ρ h,I i ρ h->G h)
  (hs: ∀i w ρ h,l[i]?=some w->I i ρ h-> ∃r,t w ρ=some r/\Ok (g r) h fun x h'=> ∃r',x=.nx r'/\I (i+1) r' h')(hd: ∀ρ h,I l.length ρ h->Ok (k (.nx ρ)) h Q):Ok (bd (forM G t g l ρ) k) h Q:=
 bJ (tz I l hG hs l 0 ρ h rfl (Nat.zero_le _) h0) fun x h' ⟨r',e,i⟩=>by subst e;exact hd r' h' i
theorem pV {G:List Ob->Prop}{t:W->Env'->Option Env'}{f:Env'->M Bool}{g:Env'->M W}{c:Nat}{ρ:Env'}(I:Nat->List W->List Ob->Prop)(l:List W)(hf: ∀r,f r=pr true)(hG: ∀i a h,I i a h->G h)
  (hs: ∀i w a h,l[i]?=some w->I i a h-> ∃r,t w (List.replicate c none++ρ)=some r/\Ok (g r) h fun v h'=>I (i+1) (a++[v]) h'):
  ∀ (m:List W) (n:Nat) (a:List W) (h:List Ob),l.drop n=m->n<=l.length->I n a h->Ok (compM G t f g c m ρ) h fun r h'=>I l.length (a++r) h'
 |[],n,a,h,e,hn,i=>by
  have:l.length<=n:=List.drop_eq_nil_iff.mp e
  have hn:n=l.length:=by omega
  subst hn
  refine⟨[],h,?_,by show I l.length (a++[]) h;rw[List.append_nil];exact i⟩
  unfold compM
  rw[bL (hG _ _ _ i)];rfl
 |w::m,n,a,h,e,hn,i=>by
  have hw:l[n]?=some w:=by
   have:=congrArg List.head? e
   rw[List.head?_drop,List.head?_cons] at this
   exact this
  have hl:n<l.length:=(List.getElem?_eq_some_iff.mp hw).1
  have em:l.drop (n+1)=m:=by rw[<-List.tail_drop,e];rfl
  obtain⟨r,e1,v,h',e2,i'⟩:=hs n w a h hw i
  obtain⟨y,h2,e3,q⟩:=pV I l hf hG hs m (n+1) (a++[v]) h' em hl i'
  refine⟨v::y,h2,?_,by show I l.length (a++v::y) h2;have q:I l.length (a++[v]++y) h2:=q;rw[List.append_assoc] at q;exact q⟩
  unfold compM
  rw[bL (hG _ _ _ i),e1]
  dsimp only
  rw[hf,bd_pr,if_pos rfl,df e2,df e3];rfl
theorem o8 {β:Type}{G:List Ob->Prop}{t:W->Env'->Option Env'}{f:Env'->M Bool}{g:Env'->M W}{c:Nat}{ρ:Env'}{l:List W}{h:List Ob}{k:List W->M β}{Q:β->List Ob->Prop}(I:Nat->List W->List Ob->Prop)(h0:I 0 [] h)(hf: ∀r,f r=pr true)(hG: ∀i a h,I i a h->G h)
  (hs: ∀i w a h,l[i]?=some w->I i a h-> ∃r,t w (List.replicate c none++ρ)=some r/\Ok (g r) h fun v h'=>I (i+1) (a++[v]) h')(hd: ∀a h,I l.length a h->Ok (k a) h Q):Ok (bd (compM G t f g c l ρ) k) h Q:=
 bJ (pV I l hf hG hs l 0 [] h rfl (Nat.zero_le _) h0) fun r h' i=>hd r h' i
theorem i7 (r:Env'):mYes r=pr true:=rfl
structure Fr (j:Nat)(h h':List Ob):Prop where
 len:h'.length=h.length
 eq: ∀i,i≠j->h'[i]?=h[i]?
theorem cD {j:Nat}{h:List Ob}{a b:Ob}(e:h[j]?=some a):(h.set j b)[j]?=some b:=by
 rw[List.getElem?_set_self (List.getElem?_eq_some_iff.mp e).1]
theorem da {j:Nat}{h:List Ob}{a:Ob}(e:h[j]?=some a):j<h.length:=(List.getElem?_eq_some_iff.mp e).1
theorem pA {j:Nat}{h r:List Ob}{a:Ob}(e:h[j]?=some a):(h++r)[j]?=some a:=by
 rw[List.getElem?_append_left (da e)];exact e
theorem bC {h:List Ob}{a:Ob}:(h++[a])[h.length]?=some a:=by simp
theorem least {p:Nat->Prop}: ∀ {n:Nat},(∃r,r<n/\p r)-> ∃r,r<n/\p r/\ ∀j,j<r-> ¬p j
 |0,⟨_,h,_⟩=>absurd h (Nat.not_lt_zero _)
 |n+1,⟨r,h,q⟩=>by
  by_cases z: ∃r,r<n/\p r
  ·obtain⟨r,h1,h2,h3⟩:=least z
   exact⟨r,by omega,h2,h3⟩
  ·have:r=n:=by
    by_cases e:r<n
    ·exact absurd ⟨r,e,q⟩ z
    ·omega
   subst this
   exact⟨r,h,q,fun j hj hp=>z ⟨j,hj,hp⟩⟩
section
theorem ix0 (a:W)(l:List W):ixW (.tup (a::l)) (.int 0)=pr a:=gK (cJ (by decide) rfl)
theorem ix1 (a b:W)(l:List W):ixW (.tup (a::b::l)) (.int 1)=pr b:=gK (cJ (by decide) rfl)
theorem ix2 (a b c:W)(l:List W):ixW (.tup (a::b::c::l)) (.int 2)=pr c:=gK (cJ (by decide) rfl)
theorem ix3 (a b c d:W)(l:List W):ixW (.tup (a::b::c::d::l)) (.int 3)=pr d:=gK (cJ (by decide) rfl)
theorem ix4 (a b c d e:W)(l:List W):ixW (.tup (a::b::c::d::e::l)) (.int 4)=pr e:=gK (cJ (by decide) rfl)
theorem ix5 (a b c d e f:W)(l:List W):ixW (.tup (a::b::c::d::e::f::l)) (.int 5)=pr f:=gK (cJ (by decide) rfl)
end
end L2
namespace L2
open PySem PySem.Spec PyProof.Rows
section
variable {X:Cx}{E:XK}{p pos:Pos}
variable {o e:Expr}{apos cpos:Pos}{fo:Env'->M W}{l:Env'->M (List W)}
theorem sI {x:Str}{a:Addr}{zs:List Str}{pos:Pos}(hm:X.mg x=some (.ref a))(hq: ∀H,SqT X.K H a (zs.map V.str))(hg:Gl X x:=by rfl)(hd:(x==("__debug__":Str))=false:=by decide):JE X E (.Name x pos) (mC (.tup (zs.map W.str))):=
 lq (v:=.ref a) hg hm rfl (fun o=>by
  unfold Rv
  refine⟨a,_,rfl,hq _,?_⟩
  induction zs with
  |nil=>exact Rvs.nil
  |cons z zs ih=>exact Rvs.cons (rv_str.mpr rfl) (gz zs)) hd
where
 gz {K:PySem.W.Frag}{o:Wo}: ∀zs:List Str,Rvs K o (zs.map W.str) (zs.map V.str)
  |[]=>Rvs.nil
  |z::zs=>Rvs.cons (rv_str.mpr rfl) (gz zs)
end
section
section
variable {X:Cx}{E:XK}{o e e2:Expr}{apos cpos:Pos}{fo:Env'->M W}{l:Env'->M (List W)}
end
end
section
section
variable {X:Cx}{E:XK}{a b:Expr}{p p2 pos pos2:Pos}
end
end
section
section
variable {X:Cx}{E:XK}
end
section
variable {β:Type}{h:List Ob}{Q:β->List Ob->Prop}{x:W}{l:List W}
theorem Lw.sl {k:W->M β}{lo hi:Option Int}(p:Lw h x l)(q:Ok (k (.tl (cutW l lo hi))) h Q):Ok (bd (slW x lo hi) k) h Q:=by
 refine aY (a:=.tl (cutW l lo hi)) (h':=h) ?_ q
 have e:=p.of
 rcases p with rfl|⟨j,rfl,_⟩
 ·rfl
 ·show bd (lstOf (.loc j)) (fun l=>pr (W.tl (cutW l lo hi))) h=_
  rw[df e];rfl
end
theorem Lw.len_eq {β:Type}{h:List Ob}{Q:β->List Ob->Prop}{x:W}{l:List W}{k:W->M β}{N:Int}(p:Lw h x l)(hN:N=(l.length:Int))(q:Ok (k (.int N)) h Q):Ok (bd (lenW [x]) k) h Q:=by
 subst hN;exact p.len q
end
section
noncomputable def lookF:List Str->List W->Str->Option W
 |n::ns,w::ws,f=>if f=n then some w else lookF ns ws f
 |_,_,_=>none
noncomputable def putN:List Str->List W->Str->W->List Str×List W
 |n::ns,w::ws,f,y=>if n=f then (n::ns,y::ws) else (n::(putN ns ws f y).1,w::(putN ns ws f y).2)
 |_,_,f,y=>([f],[y])
section
variable {K:PySem.W.Frag}{o:Wo}
theorem mK {f:Str}{w:W}: ∀ {fs:List (Str×V)}{ns:List Str}{ws:List W},fs.map (·.1)=ns->Rvs K o ws (fs.map (·.2))->lookF ns ws f=some w-> ∃v,fs.lookup f=some v/\Rv K o w v
 |[],_,ws,e,_,h=>by subst e;cases ws<;>cases h
 |(g,x)::fs,_,[],e,r,h=>by subst e;cases h
 |(g,x)::fs,_,y::ws,e,r,h=>by
  subst e
  unfold Rvs at r
  obtain⟨v,t,e2,r1,r2⟩:=r
  cases e2
  have h:(if f=g then some y else lookF (fs.map (·.1)) ws f)=some w:=h
  by_cases z:f=g
  ·rw[if_pos z] at h
   cases h
   exact⟨x,by rw[List.lookup_cons,z];simp,r1⟩
  ·rw[if_neg z] at h
   obtain⟨v,e3,r3⟩:=mK rfl r2 h
   refine⟨v,?_,r3⟩
   rw[List.lookup_cons,show (f==g)=false by simpa using z]
   exact e3
theorem mL {f:Str}: ∀ {fs:List (Str×V)},f ∉ fs.map (·.1)->fs.lookup f=none
 |[],_=>rfl
 |(g,x)::fs,h=>by
  rw[List.map_cons,List.mem_cons,not_or] at h
  rw[List.lookup_cons,show (f==g)=false by simpa using h.1]
  exact mL h.2
theorem o3 {f:Str}{y:W}{v:V}(hy:Rv K o y v): ∀ {fs:List (Str×V)}{ns:List Str}{ws:List W},fs.map (·.1)=ns->Rvs K o ws (fs.map (·.2))->(putF f v fs).map (·.1)=(putN ns ws f y).1/\Rvs K o (putN ns ws f y).2 ((putF f v fs).map (·.2))
 |[],_,[],e,r=>by subst e;exact⟨rfl,Rvs.cons hy Rvs.nil⟩
 |[],_,w::ws,e,r=>by unfold Rvs at r;obtain⟨_,_,e2,_⟩:=r;cases e2
 |(g,x)::fs,_,[],e,r=>by unfold Rvs at r;cases r
 |(g,x)::fs,_,w::ws,e,r=>by
  subst e
  unfold Rvs at r
  obtain⟨u,t,e2,r1,r2⟩:=r
  cases e2
  show (List.map (·.1) (if g=f then (g,v)::fs else (g,x)::putF f v fs))=(if g=f then (g::fs.map (·.1),y::ws) else (g::(putN (fs.map (·.1)) ws f y).1,w::(putN (fs.map (·.1)) ws f y).2)).1/\Rvs K o (if g=f then (g::fs.map (·.1),y::ws) else (g::(putN (fs.map (·.1)) ws f y).1,w::(putN (fs.map (·.1)) ws f y).2)).2 ((if g=f then (g,v)::fs else (g,x)::putF f v fs).map (·.2))
  by_cases z:g=f
  ·rw[if_pos z,if_pos z]
   exact⟨rfl,Rvs.cons hy r2⟩
  ·rw[if_neg z,if_neg z]
   obtain⟨a,b⟩:=o3 hy (fs:=fs) rfl r2
   exact⟨by rw[List.map_cons,a],Rvs.cons r1 b⟩
theorem Rel.putI (R:Rel K o){k:Nat}{b:Ob}{c:Str}{C dx:Addr}{ns:List Str}{ws:List W}{fs:List (Str×V)}(hk:o.h[k]?=some b)(hb:b≠.gone)(hn:nsIn K mainGlobals c=some (some (.ref C)))(h1:fs.map (·.1)=ns)(hl:Rvs K o ws (fs.map (·.2))):Rel K (o.put k (.ins c ns ws) (.ins C dx fs)):=
 R.put hk hb ⟨C,dx,fs,hn,aM,h1,hl.mono R (Ex.put hk hb)⟩
end
section
variable {X:Cx}{E:XK}
def insG (c:Str)(x:W):M (Nat×List Str×List W):=match x with
 |.loc k=>fun h=>match h[k]? with
  |some (.ins c' ns ws)=>if c'=c then .ok (k,ns,ws) h else .bad
  |_=>.bad
 |_=>no
theorem lA {α β:Type}{r:Wo->α->β->Prop}{c:Str}{C:Addr}{o:Wo}{x:W}{v:V}{k:Nat×List Str×List W->M α}{Q:β->Hp->Prop}(hn:nsIn X.K mainGlobals c=some (some (.ref C)))(R:Rel X.K o)(hr:Rv X.K o x v)(h:Ps (cg X E) r o (bd (insG c x) k o.h) Q):
  ∃ (j:Nat) (ns:List Str) (ws:List W) (dx:Addr) (fs:List (Str×V)),x=.loc j/\j<o.h.length/\o.h[j]?=some (.ins c ns ws)/\v=.ref (o.mu j)/\o.H (o.mu j)=some (.ins C dx fs)/\fs.map (·.1)=ns/\Rvs X.K o ws (fs.map (·.2))/\Ps (cg X E) r o (k (j,ns,ws) o.h) Q:=by
 cases x with
 |loc j=>
  unfold Rv at hr
  obtain⟨hj,rfl⟩:=hr
  unfold insG bd at h
  cases e:o.h[j]? with
  |none=>simp only[e] at h;exact h.elim
  |some b=>
   cases b with
   |ins c' ns ws=>
    simp only[e] at h
    by_cases z:c'=c
    ·subst z
     rw[if_pos rfl] at h
     obtain⟨C',dx,fs,q1,q2,q3,q4⟩:=R.ob j _ e
     rw[hn] at q1
     cases q1
     exact⟨j,ns,ws,dx,fs,rfl,hj,e,rfl,q2,q3,q4,h⟩
    ·rw[if_neg z] at h;exact h.elim
   |_=>simp only[e] at h;exact h.elim
 |_=>exact h.elim
def fldG (c f:Str)(x:W):M W:=bd (insG c x) fun t=>match lookF t.2.1 t.2.2 f with
 |some w=>pr w
 |none=>no
def putG (c f:Str)(x y:W):M Unit:=bd (insG c x) fun t=>fun h=>if t.2.1.length<1000 then .ok () (h.set t.1 (.ins c (putN t.2.1 t.2.2 f y).1 (putN t.2.1 t.2.2 f y).2)) else .bad
variable {c f:Str}{C:Addr}{o:Expr}{fo:Env'->M W}{pos pos':Pos}
theorem yi (hn:nsIn X.K mainGlobals c=some (some (.ref C)))(cl:Cls X.K C)(na:NoAttr X.K C f)(ho:JE X E o fo)(hb:attributeBase o f X.env (eval o X.env)=eval o X.env:=by rfl):JE X E (.Attribute o f pos) (m1 (fldG c f) fo):=
 (eR ho.h hb).imp fun σ H Q h=>by
  obtain⟨w,ρ,rfl,R,S,h⟩:=h
  refine⟨w,ρ,rfl,R,S,Ps.bd h fun p x vx e1 R1 r1 h1=>?_⟩
  obtain⟨j,ns,ws,dx,fs,rfl,hj,e,rfl,q2,q3,q4,h1⟩:=lA hn R1 r1 h1
  cases l:lookF ns ws f with
  |none=>simp only[l] at h1;exact h1.elim
  |some y=>
   simp only[l] at h1
   obtain⟨v,lv,rv⟩:=mK q3 q4 l
   exact⟨_,C,dx,fs,v,rfl,q2,cl,na,lv,h1.pr R1 rv⟩
def sFldW (c f:Str)(fo fv:Env'->M W):Env'->M Fl:=fun ρ=>bd (fv ρ) fun y=>bd (fo ρ) fun x=>bd (putG c f x y) fun _=>pr (.nx ρ)
theorem uA {D:Ends}{p:Wo}{x y:W}{vx vy:V}{ρ:Env'}{σ:St}(hn:nsIn X.K mainGlobals c=some (some (.ref C)))(R:Rel X.K p)(S:Re X.K p ρ σ)(rx:Rv X.K p x vx)(ry:Rv X.K p y vy)(h:Ps (cg X E) (RFl X.K) p (bd (putG c f x y) (fun _=>pr (.nx ρ)) p.h) (DQ D)):
  ∃a dx fs,vx=.ref a/\p.H a=some (.ins C dx fs)/\fs.length<1000/\D.nx σ (upd p.H a (.ins C dx (putF f vy fs))):=by
 unfold putG at h
 rw[aa] at h
 obtain⟨j,ns,ws,dx,fs,rfl,hj,e,rfl,q2,q3,q4,h⟩:=lA hn R rx h
 have ln:fs.length=ns.length:=by rw[<-q3,List.length_map]
 by_cases z:ns.length<1000
 ·have h:Ps (cg X E) (RFl X.K) p (.ok (.nx ρ) (p.h.set j (.ins c (putN ns ws f y).1 (putN ns ws f y).2))) (DQ D):=by
   have e2:(bd (fun h=>if ns.length<1000 then Rs.ok () (h.set j (.ins c (putN ns ws f y).1 (putN ns ws f y).2)) else .bad) (fun _=>pr (Fl.nx ρ)) p.h)=.ok (.nx ρ) (p.h.set j (.ins c (putN ns ws f y).1 (putN ns ws f y).2)):=by
    unfold bd
    simp only[if_pos z];rfl
   rw[<-e2];exact h
  obtain⟨a,b⟩:=o3 ry q3 q4
  refine⟨p.mu j,dx,fs,rfl,q2,by omega,?_⟩
  exact Ps.at (p:=p.put j (.ins c (putN ns ws f y).1 (putN ns ws f y).2) (.ins C dx (putF f vy fs))) (b:=FlV.nx σ) h rfl (Ex.put e (by simp)) (R.putI e (by simp) hn a b) ⟨σ,rfl,S.mono R (Ex.put e (by simp))⟩
 ·have e2:(bd (fun h=>if ns.length<1000 then Rs.ok () (h.set j (.ins c (putN ns ws f y).1 (putN ns ws f y).2)) else .bad) (fun _=>pr (Fl.nx ρ)) p.h)=.bad:=by
   unfold bd
   simp only[if_neg z]
  have h:Ps (cg X E) (RFl X.K) p (bd (fun h=>if ns.length<1000 then Rs.ok () (h.set j (.ins c (putN ns ws f y).1 (putN ns ws f y).2)) else .bad) (fun _=>pr (Fl.nx ρ)) p.h) (DQ D):=h
  rw[e2] at h
  exact h.elim
variable {value:Expr}{fv:Env'->M W}{tpos:Pos}
theorem xX (hn:nsIn X.K mainGlobals c=some (some (.ref C)))(cl:Cls X.K C)(na:NoAttr X.K C f)(ho:JE X E o fo)(hv:JE X E value fv)(hs:swapsWith value (some (.Attribute o f pos')) pos.line X.env=pure false:=by rfl):JS X E (.Assign [.Attribute o f pos'] value pos) (sFldW c f fo fv):=
 (oh ho.h hv.h hs).imp fun D σ H h=>by
  obtain⟨w,ρ,rfl,R,S,h⟩:=h
  refine⟨w,ρ,rfl,R,S,Ps.bd h fun p y vy e1 R1 r1 h1=>⟨p,ρ,rfl,R1,S.mono R e1,Ps.bd h1 fun q x vx e2 R2 r2 h2=>?_⟩⟩
  obtain⟨a,dx,fs,ex,q1,q2,q3⟩:=uA hn R2 ((S.mono R e1).mono R1 e2) r2 (r1.mono R1 e2) h2
  exact⟨a,C,dx,fs,ex,q1,cl,na,q2,q3⟩
def addI (x y:W):M W:=match x,y with
 |.int i,.int j=>pr (.int (i+j))
 |_,_=>no
def sAugW (c f:Str)(fo fv:Env'->M W):Env'->M Fl:=fun ρ=>bd (fo ρ) fun x=>bd (fldG c f x) fun v=>bd (fv ρ) fun y=>bd (addI v y) fun z=>bd (putG c f x z) fun _=>pr (.nx ρ)
structure CGm (P:Program)(w:World)(K:PySem.W.Frag)(mg:Str->Option Value)(base:Heap)(k:Nat)(C:Addr)(m:Str)(f:Addr)(fd:FuncData)(ps:List Str)(n:Nat)(fn:List W->M W):Prop where
 ok:FnOk P w K mg base CX0 k f fd ps (spM0 K mg n fn)
 bi:Binds K fd ps []
 me:Meth K C m f
def isI (c m:Str)(x:W):M W:=bd (insG c x) fun t=>if m∈t.2.1 then no else pr x
def mMet (c m:Str)(n:Nat)(fn:List W->M W)(fo:Env'->M W)(l:Env'->M (List W)):Env'->M W:=fun ρ=>bd (fo ρ) fun x=>bd (isI c m x) fun x=>bd (l ρ) fun ws=>arW n fn (x::ws)
theorem sR {α β:Type}{r:Wo->α->β->Prop}{m:Str}{p:Wo}{x:W}{v:V}{k:W->M α}{Q:β->Hp->Prop}(hn:nsIn X.K mainGlobals c=some (some (.ref C)))(R:Rel X.K p)(hr:Rv X.K p x v)(h:Ps (cg X E) r p (bd (isI c m x) k p.h) Q):
  ∃a dx fs,v=.ref a/\p.H a=some (.ins C dx fs)/\fs.lookup m=none/\Ps (cg X E) r p (k x p.h) Q:=by
 unfold isI at h
 rw[aa] at h
 obtain⟨j,ns,ws,dx,fs,rfl,hj,e,rfl,q2,q3,q4,h⟩:=lA hn R hr h
 by_cases z:m∈ns
 ·simp only[if_pos z] at h
  exact h.elim
 ·simp only[if_neg z,ba] at h
  exact⟨_,dx,fs,rfl,q2,mL (by rw[q3];exact z),h⟩
end
section
variable {X:Cx}{c m:Str}{C fA:Addr}{fd:FuncData}{ps:List Str}{k n:Nat}{fn:List W->M W}{o e:Expr}{es:List Expr}{fo:Env'->M W}{l:Env'->M (List W)}{pos apos p:Pos}
def mMake (c:Str)(n:Nat)(fn:List W->M W)(l:Env'->M (List W)):Env'->M W:=fun ρ=>bd (l ρ) fun ws=>fun h=>match arW n fn (.loc h.length::ws) (h++[.ins c [] []]) with
 |.ok .non h'=>.ok (.loc h.length) h'
 |_=>.bad
theorem Rv.addLocI {K:PySem.W.Frag}{o:Wo}{q:Addr}{b:Ob}{u:HO}:Rv K (o.add q b u) (.loc o.h.length) (.ref q):=by
 unfold Rv
 refine⟨by show _<(o.h++[b]).length;simp,?_⟩
 show V.ref q=V.ref (if o.h.length=o.h.length then q else o.mu o.h.length)
 rw[if_pos rfl]
end
end
end L2
namespace PySem
open Sem (wp)
section
variable {prog:Program}{w:World}{K:Type} [DecidableEq K] {knd:KeyKind prog w K}{A:Around}{R:Result->Shared->Prop}
end
end PySem
namespace L2
open PySem PySem.Spec PyProof.Rows
section
variable {X:Cx}
end
section
section
variable {K:PySem.W.Frag}{o:Wo}
end
section
variable {X:Cx}{E:XK}{a:Expr}{p pos:Pos}{l:Env'->M (List W)}
end
end
section
section
variable {X:Cx}{E:XK}{e:Expr}{f:Env'->M W}{pos:Pos}
def sAug (i:Nat)(f:Env'->M W):Env'->M Fl:=fun ρ=>bd (mVar i ρ) fun x=>bd (f ρ) fun y=>bd (addI x y) fun z=>pr (.nx (ρ.set i (some z)))
end
end
end L2
namespace L2
open PySem
section
variable {β:Type}{h:List Ob}{Q:β->List Ob->Prop}{j d:Nat}
theorem kZ {c:Str}{ns:List Str}{ws:List W}(e:h[d]?=some (.ins c ns ws)):insG c (.loc d) h=.ok (d,ns,ws) h:=by
 unfold insG
 simp only[e,if_true]
theorem aZ {c f:Str}{ns:List Str}{ws:List W}{w:W}{k:W->M β}(e:h[d]?=some (.ins c ns ws))(e2:lookF ns ws f=some w)(q:Ok (k w) h Q):Ok (bd (fldG c f (.loc d)) k) h Q:=by
 refine aY (a:=w) (h':=h) ?_ q
 unfold fldG
 rw[df (kZ e)]
 simp only[e2]
 rfl
theorem se {c f:Str}{ns ns':List Str}{ws ws':List W}{y:W}{k:Unit->M β}(e:h[d]?=some (.ins c ns ws))(z:ns.length<1000)(e2:putN ns ws f y=(ns',ws'))(q:Ok (k ()) (h.set d (.ins c ns' ws')) Q):Ok (bd (putG c f (.loc d) y) k) h Q:=by
 refine aY (a:=()) (h':=h.set d (.ins c ns' ws')) ?_ q
 unfold putG
 rw[df (kZ e)]
 simp only[if_pos z,e2]
theorem bj {c m:Str}{ns:List Str}{ws:List W}{k:W->M β}(e:h[d]?=some (.ins c ns ws))(z:m ∉ ns)(q:Ok (k (.loc d)) h Q):Ok (bd (isI c m (.loc d)) k) h Q:=by
 refine aY (a:=.loc d) (h':=h) ?_ q
 unfold isI
 rw[df (kZ e)]
 simp only[if_neg z]
 rfl
theorem o7 {c:Str}{n:Nat}{fn:List W->M W}{ws:List W}{P:List Ob->Prop}{k:W->M β}(hn:ws.length+1=n)(p:Ok (fn (.loc h.length::ws)) (h++[.ins c [] []]) fun w h'=>w=.non/\P h')(q:∀h',P h'->Ok (k (.loc h.length)) h' Q):
  Ok (bd (fun h=>match arW n fn (.loc h.length::ws) (h++[.ins c [] []]) with
 |.ok .non h'=>.ok (.loc h.length) h'
 |_=>.bad) k) h Q:=by
 obtain⟨w,h',e,rfl,hp⟩:=p
 refine aY (a:=.loc h.length) (h':=h') ?_ (q h' hp)
 have:arW n fn (.loc h.length::ws)=fn (.loc h.length::ws):=ue hn
 simp only[this,e]
end
def ctS (g:Env'->M Fl):Fl->M Fl:=fun x=>match x with
 |.nx r=>g r
 |x=>pr x
def ctI (f g:Env'->M Fl)(ρ:Env'):Bool->M Fl:=fun b=>if b=true then f ρ else g ρ
theorem bv (f g:Env'->M Fl)(ρ:Env'):sSeq f g ρ=bd (f ρ) (ctS g):=by unfold sSeq;rfl
theorem cz (g:Env'->M Fl)(r:Env'):ctS g (.nx r)=g r:=by unfold ctS;rfl
theorem cy (g:Env'->M Fl)(w:W):ctS g (.rt w)=pr (.rt w):=by unfold ctS;rfl
theorem cB (g:Env'->M Fl)(r:Env'):ctS g (.bk r)=pr (.bk r):=by unfold ctS;rfl
theorem cA (g:Env'->M Fl)(r:Env'):ctS g (.ct r)=pr (.ct r):=by unfold ctS;rfl
theorem cj (t:Env'->M Bool)(f g:Env'->M Fl)(ρ:Env'):sIf t f g ρ=bd (t ρ) (ctI f g ρ):=by unfold sIf;rfl
theorem dH (f g:Env'->M Fl)(ρ:Env'):ctI f g ρ true=f ρ:=by unfold ctI;rw[if_pos rfl]
theorem dI (f g:Env'->M Fl)(ρ:Env'):ctI f g ρ false=g ρ:=by unfold ctI;rw[if_neg Bool.false_ne_true]
end L2
namespace L2
open PySem PySem.Spec PyProof.Rows
section
variable {X:Cx}{E:XK}{o e f:Expr}{apos cpos:Pos}{fo fe ff:Env'->M W}
end
section
variable {X:Cx}{E:XK}{o e f:Expr}{es:List Expr}{pos apos cpos:Pos}{l:Env'->M (List W)}{fo fe ff:Env'->M W}
end
section
open Sem (wp)
open Builtin
noncomputable def F0 (f:Value):Prop:=f=.none\/ ∃T:Nat,f=rawInt T
section
variable {prog:Program}{w:World}{A:Around}{E:Value->Shared->Prop}{s:Shared}
end
section
variable {X:Cx}
end
end
section
section
variable {X:Cx}{E:XK}{p pos:Pos}
end
end
section
section
variable {X:Cx}{pins:List (Addr×Obj)}{σ:St}{H:Hp}{s:Shared}{a c:Addr}{b:Bool}{k:PKy}{xs:List (PKy×Addr×V)}{A:Around}{Ex:Value->Shared->Prop}
end
section
variable {X:Cx}{E:XK}{a b:Expr}{pos:Pos}{fa fb fv:Env'->M W}
end
end
section
section
variable {X:Cx}{E:XK}{e st:Expr}{te:TE}{ts:TO}{pos p2:Pos}{fa:Env'->M W}{fs:Env'->M (Option Int)}
end
end
section
open Sem (wp)
section
variable {prog:Program}{w:World}{A:Around}{E:Value->Shared->Prop}{s:Shared}
end
section
variable {X:Cx}{pins:List (Addr×Obj)}{σ:St}{H:Hp}{s:Shared}
end
section
variable {X:Cx}{a b:Expr}{p p2 pos pos2:Pos}
end
end
section
section
variable {X:Cx}{E:XK}
open Classical in
open Classical in
variable {a:Expr}{p pos:Pos}{l:Env'->M (List W)}
end
end
section
section
variable {X:Cx}{E:XK}{a b:Expr}{p p2 pos pos2:Pos}
def lr1L (l:Env'->M (List W)):Env'->M (List W):=fun ρ=>bd (l ρ) fun ws=>match ws with
 |[.int j]=>gd ((-(2 ^ 62)<=j/\j<2 ^ 62)/\j.toNat<=sizeLine) (pr (intsW 0 j.toNat))
 |_=>no
def mulL (fa fb:Env'->M W):Env'->M (List W):=fun ρ=>bd (fa ρ) fun x=>bd (fb ρ) fun y=>match y with
 |.int n=>bd (lstO x) fun l=>gd (0<=n/\n<=1000000/\l.length * n.toNat<=sizeLine) (pr (List.replicate n.toNat l).flatten)
 |_=>no
theorem xZ {fa fb:Env'->M W}(ha:JE X E a fa)(hb:JE X E b fb):JF X E (.BinOp a .Mult b pos) (mulL fa fb):=(mj rX ha.h hb.h).impF fun σ H Q h=>by
 obtain⟨o,ρ,rfl,R,S,h⟩:=h
 refine⟨o,ρ,rfl,R,S,Ps.bd h fun p x vx e1 R1 r1 h1=>⟨p,ρ,rfl,R1,S.mono R e1,Ps.bd h1 fun q y vy e2 R2 r2 h2=>?_⟩⟩
 split at h2
 ·obtain⟨l,a,vs,rfl,s1,r3,h3⟩:=dU R2 (r1.mono R1 e2) h2
  obtain⟨hz,h4⟩:=h3.gd
  exact⟨a,_,vs,rfl,rv_int.mp r2,s1,by omega,by omega,by rw[r3.len];exact hz.2.2,h4.pr R2 (r3.rep _)⟩
 ·exact h2.elim
end
end
section
open Sem (wp)
open AutoSeq1 (wpAny_loadPart')
section
variable {prog:Program}{w:World}{A:Around}{E:Value->Shared->Prop}{s:Shared}
end
section
variable {prog:Program}{w:World}{A:Around}{E:Value->Shared->Prop}{s:Shared}
end
section
variable {X:Cx}{E:XK}{a b:Expr}{p p2 pos pos2:Pos}
end
end
section
section
variable {prog:Program}{w:World}{A:Around}{E:Value->Shared->Prop}{s:Shared}
end
section
variable {X:Cx}{o:Expr}{p apos cpos pos:Pos}
end
end
end L2
namespace L2
open PyProof.Rows
section
variable (n:Nat)(lt:Nat->Nat->Bool)
structure Mg where
 out:Array Nat
 ia:Nat
 ib:Nat
 ac:Nat
 bc:Nat
 g:Nat
section
variable (a b:Array Nat)
end
end
end L2
namespace L2
open PySem PySem.W PyProof.Rows
section
variable {M:Model}{A:Around}{E:Value->Shared->Prop}{s:Shared}{σ β:Type}{f:Nat->β->StateT σ Sem (ForInStep β)}{Q:β->σ->Prop}{st:σ}
end
section
variable {prog:Program}{w:World}{A:Around}{E:Value->Shared->Prop}{s:Shared}{κ:SortKind}{it:Array Keyed}{n:Nat}{lt:Nat->Nat->Bool}
variable {p:Array Nat}{pe:Array (Nat×Nat×Nat)}{g:Nat}
end
section
section
variable {prog:Program}{w:World}{A:Around}{E:Value->Shared->Prop}{s:Shared}{κ:SortKind}{it:Array Keyed}{n:Nat}{lt:Nat->Nat->Bool}
variable {p:Array Nat}{pe:Array (Nat×Nat×Nat)}{g:Nat}
noncomputable abbrev GS:=Option (Option Nat)×Nat×Nat
section
variable {f:Nat->GS->StateT SortSt Sem (ForInStep GS)}{st:SortSt}{left:Bool}{key base hint mx:Nat}{a:Array Nat}
end
end
end
section
section
variable {prog:Program}{w:World}{A:Around}{E:Value->Shared->Prop}{s:Shared}{κ:SortKind}{it:Array Keyed}{n:Nat}{lt:Nat->Nat->Bool}
variable {p:Array Nat}{pe:Array (Nat×Nat×Nat)}{a b:Array Nat}
noncomputable abbrev M6:=Option (Array Keyed)×Array Keyed×Nat×Nat×Nat×Nat
noncomputable abbrev M7:=Option (Array Keyed)×Array Keyed×Nat×Nat×Nat×Nat×Nat
noncomputable abbrev M5:=Option (Array Keyed)×Array Keyed×Nat×Nat×Nat
noncomputable abbrev t6 (it:Array Keyed)(r:Option (Array Nat))(s:Mg):M6:=(r.map (·.map (kas_item it)),s.out.map (kas_item it),s.ia,s.ib,s.ac,s.bc)
noncomputable abbrev t7 (it:Array Keyed)(s:Mg):M7:=(none,s.out.map (kas_item it),s.ia,s.ib,s.g,s.ac,s.bc)
noncomputable abbrev t5 (it:Array Keyed)(r:Option (Array Nat))(s:Mg):M5:=(r.map (·.map (kas_item it)),s.out.map (kas_item it),s.ia,s.ib,s.g)
end
end
section
section
variable {prog:Program}{w:World}{A:Around}{E:Value->Shared->Prop}{s:Shared}{κ:SortKind}{it:Array Keyed}{n:Nat}{lt:Nat->Nat->Bool}{p:Array Nat}
end
end
section
section
variable {prog:Program}{w:World}{A:Around}{E:Value->Shared->Prop}{s:Shared}
end
end
section
section
variable {prog:Program}{w:World}{A:Around}{E:Value->Shared->Prop}{s:Shared}
end
section
variable {X:Cx}{pins:List (Addr×Obj)}{σ:St}{H:Hp}{s:Shared}
end
end
section
section
variable {prog:Program}{w:World}{A:Around}{E:Value->Shared->Prop}{s:Shared}
end
end
end L2
namespace L2
open PySem PySem.Spec PyProof.Rows
section
variable {X:Cx}{E:XK}{a:Expr}{p p2 pos kpos:Pos}{fa:Env'->M W}{l:Env'->M (List W)}
end
section
open Sem (wp)
section
variable {prog:Program}{w:World}{A:Around}{E:Value->Shared->Prop}{s:Shared}
end
section
variable {X:Cx}{pins:List (Addr×Obj)}{σ:St}{H:Hp}{s:Shared}
end
section
variable {X:Cx}{E:XK}{tg e a b:Expr}{pos p p2 pos2:Pos}{fa fb fv:Env'->M W}{l:Env'->M (List W)}
end
end
section
section
variable {X:Cx}{E:XK}{tg e a b:Expr}{pos p p2 pos2:Pos}{fa fb fv:Env'->M W}{l:Env'->M (List W)}
end
end
section
open Sem (wp)
section
variable {prog:Program}{w:World}{A:Around}{E:Value->Shared->Prop}{s:Shared}
end
section
variable {X:Cx}{E:XK}{o e f:Expr}{pos apos cpos:Pos}{fa fo fe ff:Env'->M W}{elts:List Expr}{tpos:Pos}
end
end
section
section
variable {X:Cx}{E:XK}
noncomputable def dg (x y:Str):List Str:=if (decide (x.length<y.length)||decide (Builtin.Str.strKind x<Builtin.Str.strKind y))=true then [x] else if (Builtin.Str.occurrences x y 0 x.length (x.length+1)).isEmpty=true then [x] else Builtin.Str.partsBetween x (Builtin.Str.occurrences x y 0 x.length (x.length+1)) y.length
def wX:V->List V->Hp->VK->Prop:=fun x vs H Q=> ∃ (a b:Str),x=.str a/\vs=[.str b]/\(b.length==0)=false/\a.length<=sizeLine/\(dg a b).length<=sizeLine/\ ∀q,H q=none->Q (.ref q) (upd H q (.lst ((dg a b).map V.str)))
theorem j8: ∀ (l:List Str) (t:Nat),Vals (l.map V.str) (strsFrom t l)
 |[],_=>.nil
 |x::l,t=>.cons ⟨_,rfl⟩ (j8 l (t+1))
theorem iH {pins:List (Addr×Obj)}{σ:St}{H:Hp}{s:Shared}{Q:VK}{l:List Str}{us:List Value}{tk:Nat}(I:Inv X pins σ H s)(hv:Vals (l.map V.str) us)(hz:l.length<=sizeLine)(q:∀q,H q=none->Q (.ref q) (upd H q (.lst (l.map V.str)))):
  EP X pins σ Q (.ref s.heap.objs.size) {s with toks:=tk,heap:=s.heap.push {cls:=.type "list",data:=.seq us.toArray}}:=
 ⟨.ref s.heap.objs.size,_,I.laid (t':=tk) (fun b o e=>Heap.get?_push_of_some _ e) (Nat.le_refl _) (show ObjOk X.prog X.w _ (s.heap.push {cls:=.type "list",data:=.seq us.toArray}) _ (.lst (l.map V.str)) from⟨by rw[List.length_map];exact hz,us,_,hv,Heap.get?_push_size _ rfl⟩),rfl,q _ (I.hok.fresh (Nat.le_refl _))⟩
theorem sv:MtR X "str.split" wX:=by
 intro pins s σ H x vs v us Q I rx rv h
 obtain⟨a,b,rfl,rfl,hb,ha,hz,q⟩:=h
 obtain⟨t,rfl⟩:=rx
 obtain⟨u,rfl,ru⟩:=rv.one
 obtain⟨t2,rfl⟩:=ru
 by_cases c1:(decide (a.length<b.length)||decide (Builtin.Str.strKind a<Builtin.Str.strKind b))=true
 ·have e:dg a b=[a]:=if_pos c1
  rw[e] at q
  refine call_meets F.slot_str_split (typeIs_str s a t) F.entry_str_split (F.args_str_split_2 _ _) (meets_str_split_cannot_occur a b t t2 c1) ?_
  exact iH (l:=[a]) (us:=[.str a t]) (tk:=s.toks) I (.cons ⟨t,rfl⟩ .nil) (by show 1<=sizeLine;decide) q
 ·have c1':(decide (a.length<b.length)||decide (Builtin.Str.strKind a<Builtin.Str.strKind b))=false:=by rw[<-Bool.not_eq_true];exact c1
  by_cases c2:(Builtin.Str.occurrences a b 0 a.length (a.length+1)).isEmpty=true
  ·have e:dg a b=[a]:=by unfold dg;rw[if_neg c1,if_pos c2]
   rw[e] at q
   refine call_meets F.slot_str_split (typeIs_str s a t) F.entry_str_split (F.args_str_split_2 _ _) (meets_str_split_not_found a b t t2 c1' hb c2) ?_
   exact iH (l:=[a]) (us:=[.str a t]) (tk:=s.toks) I (.cons ⟨t,rfl⟩ .nil) (by show 1<=sizeLine;decide) q
  ·have c2':(Builtin.Str.occurrences a b 0 a.length (a.length+1)).isEmpty=false:=by rw[<-Bool.not_eq_true];exact c2
   have e:dg a b=Builtin.Str.partsBetween a (Builtin.Str.occurrences a b 0 a.length (a.length+1)) b.length:=by unfold dg;rw[if_neg c1,if_neg c2]
   rw[e] at q hz
   refine call_meets F.slot_str_split (typeIs_str s a t) F.entry_str_split (F.args_str_split_2 _ _) (meets_str_split_sep a b t t2 c1' hb c2' ha hz) ?_
   exact iH (l:=Builtin.Str.partsBetween a (Builtin.Str.occurrences a b 0 a.length (a.length+1)) b.length) I (j8 _ _) hz q
def splW (x:W)(ws:List W):M W:=match x,ws with
 |.str a,[.str b]=>gd ((b.length==0)=false/\a.length<=sizeLine/\(dg a b).length<=sizeLine) (pr (.tl ((dg a b).map W.str)))
 |_,_=>no
theorem gz {K:PySem.W.Frag}{o:Wo}: ∀ns:List Str,Rvs K o (ns.map W.str) (ns.map V.str)
 |[]=>Rvs.nil
 |n::r=>Rvs.cons (rv_str.mpr rfl) (gz r)
variable {o e:Expr}{apos cpos:Pos}{fo:Env'->M W}{l:Env'->M (List W)}
theorem sE (ho:JE X E o fo)(ha:JA X E [e] l)(hbase:attributeBase o "split" X.env (eval o X.env)=eval o X.env:=by rfl)
  (hfew:((backTo cpos (starEach [e] X.env)).all (fun x=>!x.1) && (backToKw cpos (keywordEach [] X.env)).all (fun x=>x.1.isSome) && decide (([e]:List Expr).length+([]:List Keyword).length+(if ([]:List Keyword).isEmpty then 0 else 1)<30))=true:=by rfl)
  (hline:(apos.endLine==cpos.line)=true:=by rfl)(hs:starEach [e] X.env=(false,eval e X.env)::starEach [] X.env:=by rfl)(hplain:(backTo cpos (starEach [] X.env)).any (·.1)=false:=by rfl):
  JE X E (.Call (.Attribute o "split" apos) [e] [] cpos) (mMeth isS splW fo l):=
 (o6 PySem.F.plainAttrs_str PySem.F.slot_str_split PySem.F.type_str_split sv ho.h ha.h hbase hfew hline hs hplain).imp fun σ H Q h=>by
  obtain⟨w,ρ,rfl,R,S,h⟩:=h
  refine⟨w,ρ,rfl,R,S,Ps.bd h fun p x vx e1 R1 r1 h1=>?_⟩
  cases x with
  |str a=>
   have h1:Ps (cg X E) (Rv X.K) p (bd (l ρ) (fun ws=>splW (.str a) ws) p.h) Q:=h1
   rw[rv_str.mp r1]
   refine⟨rfl,p,ρ,rfl,R1,S.mono R e1,Ps.bd h1 fun q ws vs e2 R2 r2 h2=>?_⟩
   rcases ws with _|⟨w',_|⟨_,_⟩⟩
   ·exact h2.elim
   ·obtain⟨v,rfl,r⟩:=r2.one
    cases w' with
    |str b=>
     have h2:Ps (cg X E) (Rv X.K) q (gd ((b.length==0)=false/\a.length<=sizeLine/\(dg a b).length<=sizeLine) (pr (.tl ((dg a b).map W.str))) q.h) Q:=h2
     obtain⟨hz,h2⟩:=h2.gd
     exact⟨a,b,rfl,by rw[rv_str.mp r],hz.1,hz.2.1,hz.2.2,fun q hq=>iX R2 hq (gz _) h2⟩
    |_=>exact h2.elim
   ·cases w'<;>exact h2.elim
  |_=>exact h1.elim
end
section
variable {X:Cx}{c m:Str}{C fA:Addr}{fd:FuncData}{ps:List Str}{k n:Nat}{fn:List W->M W}{o:Expr}{fo:Env'->M W}{pos apos:Pos}
end
end
section
section
variable {X:Cx}{E:XK}{o i e value:Expr}{p pos apos cpos tpos:Pos}{fo fi fv:Env'->M W}{l:Env'->M (List W)}
def isLO (w:W):M W:=bd (lstO w) fun _=>pr w
end
end
section
section
variable {X:Cx}{E:XK}{o i e value:Expr}{p pos apos cpos tpos:Pos}{fo fi fv:Env'->M W}{l:Env'->M (List W)}
def sidxW (x:W)(ws:List W):M W:=match ws with
 |[.str k]=>bd (lstO x) fun l=>match optL sOf l with
  |some (ss:List Str)=>match ss.findIdx? (fun m=>decide (m=k)) with
   |some j=>pr (.int (j:Int))
   |none=>no
  |none=>no
 |_=>no
theorem rn {k:Str}: ∀ {ss:List Str}{us:List Value},Vals (ss.map V.str) us->us.length=ss.length/\ ∀ (i:Nat) (u:Value),us[i]?=some u-> ∃m,ss[i]?=some m/\eqU (.str k) u=decide (m=k)
 |[],_,r=>by rw[List.map_nil] at r;cases r;exact⟨rfl,fun i u h=>by cases h⟩
 |n::ss,_,r=>by
  rw[List.map_cons] at r
  cases r with
  |cons h t=>
   obtain⟨a,b⟩:=rn (k:=k) t
   refine⟨congrArg (· +1) a,fun i u hu=>?_⟩
   cases i with
   |zero=>
    cases hu
    refine⟨n,rfl,?_⟩
    rw[oI h rfl]
    by_cases q:n=k
    ·subst q;simp [eqV]
    ·rw[decide_eq_false q];simp [eqV,q]
   |succ i=>exact b i u hu
def rSIdx:V->List V->Hp->VK->Prop:=fun x vs H Q=> ∃ (p:Addr) (ss:List Str) (k:Str) (j:Nat),x=.ref p/\vs=[.str k]/\H p=some (.lst (ss.map V.str))/\ss.findIdx? (fun m=>decide (m=k))=some j/\Q (.int j) H
theorem uW:MtM X "list.index" rSIdx:=by
 intro pins s σ H x vs v us Q I rx rv h
 obtain⟨p,ss,k,j,rfl,rfl,hp,hj,q⟩:=h
 cases rx
 obtain⟨u,rfl,ru⟩:=rv.one
 obtain⟨t,rfl⟩:=ru
 obtain⟨its,n,r,ho,hz⟩:=I.lst hp
 obtain⟨len,gt⟩:=rn (k:=k) r
 rw[List.findIdx?_eq_some_iff_getElem] at hj
 obtain⟨h1,h2,h3⟩:=hj
 have at': ∀ (i:Nat) (hi:i<its.length),eqU (.str k) its[i]=decide (ss[i]'(by omega)=k):=fun i hi=>by
  obtain⟨m,e1,e2⟩:=gt i its[i] (List.getElem?_eq_getElem hi)
  rw[List.getElem?_eq_getElem (by omega)] at e1
  cases e1
  exact e2
 have lz:=iG
 rw[List.length_map] at hz
 refine call_meets F.slot_list_index ⟨_,ho,rfl⟩ F.entry_list_index (F.args_list_index_2 _ _) (SeqAt.list_indexAt p its.toArray n none #[] (.str k t) (eqU (.str k)) j (by rw[List.size_toArray];omega) (by omega) ?_ fun m hm hlt=>?_) ⟨ho,fun y hy=>eY (x:=.str k) (v:=.str k t) ⟨t,rfl⟩ rfl r ?_ y (by simpa using hy),.int j,H,I.tok _,⟨_,rfl⟩,q⟩
 ·rw[List.getElem_toArray,at' j (by omega)];exact h2
 ·rw[List.getElem_toArray,at' m (by rw[List.size_toArray] at hm;exact hm)]
  have:=h3 m hlt
  simpa using this
 ·rw[List.all_map];exact List.all_eq_true.mpr fun _ _=>rfl
theorem u8 (ho:JE X E o fo)(ha:JA X E [e] l)(hbase:attributeBase o "index" X.env (eval o X.env)=eval o X.env:=by rfl)
  (hfew:((backTo cpos (starEach [e] X.env)).all (fun x=>!x.1) && (backToKw cpos (keywordEach [] X.env)).all (fun x=>x.1.isSome) && decide (([e]:List Expr).length+([]:List Keyword).length+(if ([]:List Keyword).isEmpty then 0 else 1)<30))=true:=by rfl)
  (hline:(apos.endLine==cpos.line)=true:=by rfl)(hs:starEach [e] X.env=(false,eval e X.env)::starEach [] X.env:=by rfl)(hplain:(backTo cpos (starEach [] X.env)).any (·.1)=false:=by rfl):
  JE X E (.Call (.Attribute o "index" apos) [e] [] cpos) (mMeth isLO sidxW fo l):=
 (o6 PySem.F.plainAttrs_list PySem.F.slot_list_index PySem.F.type_list_index uW ho.h ha.h hbase hfew hline hs hplain).imp fun σ H Q h=>by
  obtain⟨w,ρ,rfl,R,S,h⟩:=h
  refine⟨w,ρ,rfl,R,S,Ps.bd h fun p x vx e1 R1 r1 h1=>?_⟩
  have h1:Ps (cg X E) (Rv X.K) p (bd (bd (lstO x) fun _=>pr x) (fun x=>bd (l ρ) fun ws=>sidxW x ws) p.h) Q:=h1
  rw[aa] at h1
  obtain⟨l0,a,vs0,rfl,s1,r3,h1⟩:=dU R1 r1 h1
  rw[ba] at h1
  refine⟨.inl ⟨rfl,vs0,.of s1⟩,p,ρ,rfl,R1,S.mono R e1,Ps.bd h1 fun q ws vs e2 R2 r2 h2=>?_⟩
  unfold sidxW at h2
  split at h2
  ·rename_i k
   obtain⟨v,rfl,r⟩:=r2.one
   obtain⟨l1,a1,vs1,ea,s2,r4,h2⟩:=dU R2 (r1.mono R1 e2) h2
   cases ea
   cases t1:optL sOf l1 with
   |none=>simp only[t1] at h2;exact h2.elim
   |some ss=>
    simp only[t1] at h2
    have e3:vs1=ss.map V.str:=kY rC t1 r4
    subst e3
    cases hj:ss.findIdx? (fun m=>decide (m=k)) with
    |none=>simp only[hj] at h2;exact h2.elim
    |some j=>
     simp only[hj] at h2
     exact⟨a,ss,k,j,rfl,by rw[rv_str.mp r],s2,hj,h2.pr R2 (rv_int.mpr rfl)⟩
  ·exact h2.elim
end
end
end L2
namespace L2
open PySem
theorem nE {c:Nat}: ∀ {a b u v:List Nat},c ∉ a->c ∉ b->a++c::u=b++c::v->a=b/\u=v
 |[],[],u,v,_,_,e=>⟨rfl,(List.cons.inj e).2⟩
 |[],y::b,u,v,_,h,e=>absurd (List.cons.inj e).1 (fun z=>h (z▸List.mem_cons_self))
 |x::a,[],u,v,h,_,e=>absurd (List.cons.inj e).1 (fun z=>h (z▸List.mem_cons_self))
 |x::a,y::b,u,v,h1,h2,e=>by
  obtain⟨e1,e2⟩:=List.cons.inj e
  obtain⟨q1,q2⟩:=nE (fun z=>h1 (List.mem_cons_of_mem _ z)) (fun z=>h2 (List.mem_cons_of_mem _ z)) e2
  exact⟨by rw[e1,q1],q2⟩
theorem iT {a b:Str}(h:a.cps.toList=b.cps.toList):a=b:=by
 cases a;cases b
 congr 1
 exact Array.toList_inj.mp h
theorem b8 (c:Nat)(x y:Str)(r:List Str):(Str.join ⟨#[c]⟩ (x::y::r)).cps.toList=x.cps.toList++c::(Str.join ⟨#[c]⟩ (y::r)).cps.toList:=by
 show ((x++(⟨#[c]⟩:Str))++Str.join ⟨#[c]⟩ (y::r)).cps.toList=_
 rw[gQ,gQ,List.append_assoc]
 rfl
theorem mP {c:Nat}: ∀ {ps qs:List Str},ps≠ []->qs≠ []->(∀p∈ps,c ∉ p.cps.toList)->(∀p∈qs,c ∉ p.cps.toList)->Str.join ⟨#[c]⟩ ps=Str.join ⟨#[c]⟩ qs->ps=qs
 |[],_,h,_,_,_,_=>absurd rfl h
 |_::_,[],_,h,_,_,_=>absurd rfl h
 |[x],[y],_,_,_,_,e=>by rw[show x=y from e]
 |[x],y::z::r,_,_,f,_,e=>by
  have e:=congrArg (fun s:Str=>s.cps.toList) e
  rw[b8] at e
  refine absurd ?_ (f x List.mem_cons_self)
  have e:x.cps.toList=_:=e
  rw[e]
  exact List.mem_append_right _ List.mem_cons_self
 |x::w::s,[y],_,_,_,f,e=>by
  have e:=congrArg (fun s:Str=>s.cps.toList) e
  rw[b8] at e
  refine absurd ?_ (f y List.mem_cons_self)
  have e:_=y.cps.toList:=e
  rw[<-e]
  exact List.mem_append_right _ List.mem_cons_self
 |x::w::s,y::z::r,_,_,f,g,e=>by
  have e:=congrArg (fun s:Str=>s.cps.toList) e
  rw[b8,b8] at e
  obtain⟨e1,e2⟩:=nE (f x List.mem_cons_self) (g y List.mem_cons_self) e
  have e3:=mP (ps:=w::s) (qs:=z::r) (by simp) (by simp) (fun p hp=>f p (List.mem_cons_of_mem _ hp)) (fun p hp=>g p (List.mem_cons_of_mem _ hp)) (iT e2)
  rw[iT e1,e3]
theorem nL {c:Nat}{ps:List Str}(h:ps≠ [])(f:∀p∈ps,c ∉ p.cps.toList):dg (Str.join ⟨#[c]⟩ ps) ⟨#[c]⟩=ps:=by
 have e:dg (Str.join ⟨#[c]⟩ ps) ⟨#[c]⟩=Txt.split (Str.join ⟨#[c]⟩ ps) ⟨#[c]⟩:=rfl
 rw[e]
 refine mP (c:=c) (fun z=>?_) h (StrLaws.split_free _ _) f (StrLaws.join_split _ _)
 have:=PyProof.Rows.split_pos (Str.join ⟨#[c]⟩ ps) ⟨#[c]⟩
 rw[z] at this
 exact absurd this (by simp)
theorem gr {c:Nat}{ps:List Str}(h:ps≠ [])(f:∀p∈ps,c ∉ p.cps.toList)(z:(Str.join ⟨#[c]⟩ ps).length<=sizeLine)(z2:ps.length<=sizeLine):splW (.str (Str.join ⟨#[c]⟩ ps)) [.str ⟨#[c]⟩]=pr (.tl (ps.map W.str)):=by
 show gd _ _=_
 rw[nL h f,ai ⟨rfl,z,z2⟩]
end L2
namespace HT
open PySem PySem.Spec PyProof.Rows
section
variable {prog:Program}{w:World}{A:Around}{E:Value->Shared->Prop}{s:Shared}
end
end HT
namespace L2
open PySem PySem.Spec PyProof.Rows
section
variable {X:Cx}{E:XK}
end
section
section
variable {X:Cx}{E:XK}{e st:Expr}{lo hi:Option Expr}{te:TE}{tl th ts:TO}{pos p2:Pos}{fa:Env'->M W}{fl fh fs:Env'->M (Option Int)}
variable {p:Pos}{a b:Expr}{l:Env'->M (List W)}
end
end
section
section
variable {prog:Program}{w:World}{A:Around}{E:Value->Shared->Prop}{it l:Addr}{items:Array Value}
theorem kz (ne:l≠it): ∀ (n i:Nat) (s:Shared) (Q:List Value->Shared->Prop),s.heap.IsListIter it l i->s.heap.IsList l items->i+n=items.size->(∀h':Heap,h'.IsListIter it l (i+n)->h'.IsList l items->Heap.ExtBut it s.heap h'->Q (items.toList.drop i) {s with heap:=h'})->wpAny (model prog w) A (draw (.ref it) n) Q E s
 |0,i,s,Q,st,hl,e,k=>by
  rw[draw.eq_1]
  have:=k s.heap st hl fun b o _ q=>q
  rw[List.drop_of_length_le (by simp;omega)] at this
  exact wpAny_pure this
 |n+1,i,s,Q,st,hl,e,k=>by
  rw[draw.eq_2]
  have hi:i<items.size:=by omega
  refine wpAny_bind (wpAny_pyNext_list_item st hl (x:=items[i]) (Array.getElem?_eq_getElem hi) fun h' st' sb=>?_)
  have hl':h'.IsList l items:=by
   obtain⟨o,e1,e2⟩:=hl
   exact⟨o,(sb.2 l ne).trans e1,e2⟩
  show wpAny (model prog w) A (holding [items[i]] (draw (.ref it) n)>>=fun r=>pure (items[i]::r)) Q E {s with heap:=h'}
  refine wpAny_bind (wpAny_holding (kz ne n (i+1) {s with heap:=h'} _ st' hl' (by omega) fun h2 st2 hl2 eb=>?_))
  refine wpAny_pure ?_
  have q:=k h2 (by rw[show i+(n+1)=i+1+n by omega];exact st2) hl2 fun b o hb q=>eb b o hb ((sb.2 b hb).trans q)
  rw[List.drop_eq_getElem_cons (by simpa using hi)] at q
  simpa using q
theorem lU {s:Shared}{Q:List Value->Shared->Prop}(hA:A.handled=none)(hl:s.heap.IsList l items)(k:∀h':Heap,Heap.ExtBut s.heap.objs.size s.heap h'->Q items.toList {s with heap:=h'}):wpAny (model prog w) A (unpackItems (.ref l) items.size none) Q E s:=by
 have lt:l<s.heap.objs.size:=by obtain⟨o,e,_⟩:=hl;exact Heap.lt_size e
 unfold unpackItems notIterableAtAll
 refine wpAny_bind (wpAny_bind (wpAny_specialOf hl.typeIs slot_list_iter.lookup ?_))
 refine wpAny_pure ?_
 show wpAny (model prog w) A (holding [.ref l] (pyIter (.ref l))>>=_) Q E s
 refine wpAny_bind (wpAny_holding (wpAny_pyIter_list hl ?_))
 have hl':(s.heap.push {cls:=.type "list_iterator",data:=.fields #[.ref l,.int 0 0]}).IsList l items:=by
  obtain⟨o,e1,e2⟩:=hl
  exact⟨o,Heap.get?_push_of_some _ e1,e2⟩
 refine wpAny_bind (wpAny_holding (kz (items:=items) (l:=l) (Nat.ne_of_lt lt) items.size 0 _ _ ⟨_,Heap.get?_push_size _ rfl,rfl,rfl⟩ hl' (by omega) fun h2 st2 hl2 eb=>?_))
 rw[List.drop_zero]
 have e1: ¬items.toList.length<items.size:=by simp
 dsimp only
 rw[if_neg e1]
 refine wpAny_bind (wpAny_holding (wpAny_pyNext_list_end hA st2 hl2 (Array.getElem?_eq_none (by omega)) fun h3 eb3=>?_))
 exact wpAny_pure (k h3 fun b o hb q=>eb3 b o hb (eb b o hb (Heap.get?_push_of_some _ q)))
end
section
variable {X:Cx}{E:XK}{pos:Pos}
def gTupB (K:PySem.W.Frag)(n:Nat)(t:TGs):TG:=fun v σ H Q=> ∃a xs,v=.ref a/\(SqT K H a xs\/SqL K H a xs)/\xs.length=n/\t xs σ H Q
theorem uE {es:List Expr}{k:Nat}{t:TGs}{n:Nat}(hc:X.calm=true)(h:PGs X es t)
  (hn:(assignEach es X.env).length=n:=by rfl)(hst:(assignEach es X.env).findIdx? (·.1)=none:=by rfl):PG X (.Tuple es k pos) (gTupB X.K n t):=by
 intro pins s σ H v u Q I r hw
 obtain⟨a,xs,e1,hq,hl,hw⟩:=hw
 subst e1
 rcases hq with hq|hq
 ·exact ol hc h hn hst pins s σ H _ u Q I r ⟨a,xs,rfl,hq,hl,hw⟩
 ·cases r
  obtain⟨its,rv,ht,hz⟩:=I.list hq
  rw[assign_Tuple]
  refine wpAny_bind (wpAny_standAt ?_)
  unfold unpack
  have ln:(assignEach es X.env).length=its.toArray.size:=by simp [hn,<-hl,rv.length]
  rw[hst,ln]
  refine wpAny_bind (wpAny_holding (lU (I.ok.hd hc) ht.isList fun h' hx=>?_))
  have I1:Inv X pins σ H {s with heap:=h'}:=I.kept (t':=s.toks) fun b o e=>hx b o (Nat.ne_of_lt (Heap.lt_size e)) e
  exact h pins _ σ H xs _ Q I1 (by simpa using rv) hw
def tgL (is:List Nat):W->Env'->Option Env':=fun w ρ=>match w with
 |.tup l=>setW is l ρ
 |.tl l=>setW is l ρ
 |_=>none
theorem uj {K:PySem.W.Frag}(m:Nat)(is:List Nat)(h:∀i∈is,i<m):TgOk K m (gTupB K is.length (gNs is)) (tgL is):=⟨fun o w v ρ ρ2 σ rv re e=>by
 cases w with
 |tup l=>
  unfold Rv at rv
  obtain⟨a,vs,rfl,s,r⟩:=rv
  have e:setW is l ρ=some ρ2:=e
  obtain⟨σ2,a1,a2,a3,a4⟩:=oQ is l vs ρ ρ2 σ h r re e
  exact⟨σ2,fun Q q=>⟨a,vs,rfl,.inl s,by rw[r.len,hU e],a1 Q q⟩,a2,a3,a4⟩
 |tl l=>
  unfold Rv at rv
  obtain⟨a,vs,rfl,s,_,r⟩:=rv
  have e:setW is l ρ=some ρ2:=e
  obtain⟨σ2,a1,a2,a3,a4⟩:=oQ is l vs ρ ρ2 σ h r re e
  exact⟨σ2,fun Q q=>⟨a,vs,rfl,.inr (.of s),by rw[r.len,hU e],a1 Q q⟩,a2,a3,a4⟩
 |_=>cases e⟩
end
end
section
theorem ln1 {α:Type}: ∀ {us:List α},us.length=1-> ∃a,us=[a]
 |[a],_=>⟨a,rfl⟩
theorem ln2 {α:Type}: ∀ {us:List α},us.length=2-> ∃a b,us=[a,b]
 |[a,b],_=>⟨a,b,rfl⟩
section
variable (K:PySem.W.Frag)(mg:Str->Option Value)(x:Str)(C:Addr)
noncomputable def Dq (st:Stmt):Prop:= ∃f fd,Fun K x x st f fd/\mg x=some (.ref f)
noncomputable def Dqm (q:Str)(st:Stmt):Prop:= ∃f fd,Fun K x q st f fd/\Meth K C x f
def Gt (zs:List Str):Prop:= ∃a,mg x=some (.ref a)/\ ∀H,SqT K H a (zs.map V.str)
noncomputable def Gi (i:Int):Prop:= ∃t,mg x=some (.int i t)
noncomputable def Gs (i:Str):Prop:= ∃t,mg x=some (.str i t)
end
section
variable {P:Program}{w:World}{K:PySem.W.Frag}{mg:Str->Option Value}{base:Heap}{x q:Str}{st:Stmt}{C f:Addr}{fd:FuncData}{k:Nat}{fn:List W->M W}{g:Env'->M Fl}{oc:Value}{od an:Option Addr}{osl:Array (Option Value)}{kV doc pm cdv ct:Value}{h:Heap}
theorem dq (X:K.In h)(G:h.Ns mainGlobals mg)(a:nsIn K mainGlobals x=some (some (.ref f)))(l:K.lookup f=some ⟨oc,od,.func (fnOf x x (cH st) (bb st) (ae st) .none kV doc pm an cdv ct),osl⟩)(c:codeIn K cdv x=true)(k:keepIn K (.ref f)=true):Dq K mg x st:=⟨_,_,tm l c k,mg_of X G a⟩
theorem dqm (a:PySem.W.findIn K (.ref C) x=some (some (.ref f)))(i:PySem.W.isFn K (.ref f)=true)(l:K.lookup f=some ⟨oc,od,.func (fnOf x q (cH st) (bb st) (ae st) .none kV doc pm an cdv ct),osl⟩)(c:codeIn K cdv q=true)(k:keepIn K (.ref f)=true):Dqm K x C q st:=⟨_,_,tm l c k,a,i,k⟩
theorem gi {i:Int}{t:Tok}(X:K.In h)(G:h.Ns mainGlobals mg)(a:nsIn K mainGlobals x=some (some (.int i t))):Gi mg x i:=⟨_,mg_of X G a⟩
theorem gs {i:Str}{t:Tok}(X:K.In h)(G:h.Ns mainGlobals mg)(a:nsIn K mainGlobals x=some (some (.str i t))):Gs mg x i:=⟨_,mg_of X G a⟩
theorem gn (X:K.In h)(G:h.Ns mainGlobals mg)(a:nsIn K mainGlobals x=some none):mg x=none:=PySem.W.mg_none_of X G a
noncomputable def stx:List Value->List Str
 |.str z _::r=>z::stx r
 |_=>[]
theorem ri: ∀ {us:List Value},(stx us).length=us.length->Vals ((stx us).map V.str) us
 |[],_=>.nil
 |.str z t::r,e=>.cons ⟨_,rfl⟩ (ri (Nat.succ.inj e))
theorem gt {zs:List Str}{its:Array Value}{n:Nat}(X:K.In h)(G:h.Ns mainGlobals mg)(a:nsIn K mainGlobals x=some (some (.ref f)))(l:K.lookup f=some ⟨.type "tuple",od,.seq its n,osl⟩)(e:zs=stx its.toList/\(stx its.toList).length=its.toList.length/\its.toList.length<=64):Gt K mg x zs:=by
 obtain⟨rfl,e,e2⟩:=e
 exact⟨f,mg_of X G a,fun H=>.inr ⟨_,_,_,l,rfl,rfl,Nat.le_trans (by simpa using e2) (by unfold sizeLine;decide),ri e⟩⟩
end
section
variable {P:Program}{w:World}{K:PySem.W.Frag}{mg:Str->Option Value}{base:Heap}{x q:Str}{st:Stmt}{C f:Addr}{fd:FuncData}{k:Nat}{fn:List W->M W}{g:Env'->M Fl}
theorem okf (N:List Str)(m:Nat)(F:Fun K x x st f fd)(Mf:mg x=some (.ref f))
  (hb: ∀ (cdv:Value) (A:Around) (outer:List Env) (s:Shared) (H:Hp) (E:XK),Room k (A.deeper (envOfC x (ae st) s.heap.objs.size f cdv))->(A.deeper (envOfC x (ae st) s.heap.objs.size f cdv)).units+1<cLine->(A.deeper (envOfC x (ae st) s.heap.objs.size f cdv)).units+64<cLine->N.Nodup->JSs (cxOf CX0 P w K mg base N x (ae st) f cdv A outer s H E).nox E0 (bb st) g)
  (S:FnScope N (N.take m) (ae st):=by exact⟨rfl,rfl,rfl,by decide+kernel,rfl,by decide+kernel,by decide+kernel⟩)(hm:(N.take m).length=m:=by rfl)(hf:fn=runF N.length g:=by rfl)
  (hi: ∀ (kV doc pm:Value) (an:Option Addr) (cdv ct:Value) (us:List Value),us.length=(N.take m).length->bindArgs (fnOf x x (cH st) (bb st) (ae st) .none kV doc pm an cdv ct) ⟨us,[]⟩=pure ((N.take m).zip us):=by intro _ _ _ _ _ _ us hl;first|(obtain⟨_,rfl⟩:=ln1 hl;rfl)|(obtain⟨_,_,rfl⟩:=ln2 hl;rfl)|(obtain⟨_,_,_,rfl⟩:=ln3 hl;rfl)|(obtain⟨_,_,_,_,rfl⟩:=ln4 hl;rfl)|(obtain⟨_,_,_,_,_,rfl⟩:=ln5 hl;rfl)):
  CG P w K mg base (k+1) x f fd (N.take m) m fn:=
 ⟨zJ (g:=g) F S rfl hm hf fun cdv A outer s H E hr=>hb cdv A outer s H E hr (sX hr) hr.units S.nd,F.binds hi,F.kp,Mf⟩
theorem okz (N:List Str)(m:Nat)(F:Fun K x x st f fd)(Mf:mg x=some (.ref f))(h:∀ws h,fn ws h=.bad)
 (hi: ∀ (kV doc pm:Value) (an:Option Addr) (cdv ct:Value) (us:List Value),us.length=(N.take m).length->bindArgs (fnOf x x (cH st) (bb st) (ae st) .none kV doc pm an cdv ct) ⟨us,[]⟩=pure ((N.take m).zip us):=by intro _ _ _ _ _ _ us hl;first|(obtain⟨_,rfl⟩:=ln1 hl;rfl)|(obtain⟨_,_,rfl⟩:=ln2 hl;rfl)|(obtain⟨_,_,_,rfl⟩:=ln3 hl;rfl)):
 CG P w K mg base k x f fd (N.take m) m fn:=⟨yE h,F.binds hi,F.kp,Mf⟩
end
section
variable {X:Cx}{E:XK}{p p0 pos apos:Pos}{zs:List Str}{x:Str}
noncomputable def nst:Expr->Bool
 |.Starred ..=>false
 |_=>true
theorem p8 {e:Expr}{es:List Expr}{env:Env}(h:nst e=true):starEach (e::es) env=(false,eval e env)::starEach es env:=by
 cases e<;>first|rfl|cases h
noncomputable def nsl:Expr->Bool
 |.Slice ..=>false
 |_=>true
theorem zY {b:Expr}(h:nsl b=true):lP b:=by
 cases b<;>first|exact fun _ _=>rfl|cases h
theorem Aa {a b:Expr}{fa fb:Env'->M W}(h:nsl b=true)(hu:X.A.units+1<cLine)(ha:JE X E a fa)(hb:JE X E b fb):JE X E (.Subscript a b pos) (m2 ixW fa fb):=zy hu ha hb (zY h)
theorem Ad {e:Expr}{es:List Expr}{u:Env'->M W}{l:Env'->M (List W)}(h:nst e=true)(ha:JE X E e u)(hr:JA X E es l):JA X E (e::es) (mCons u l):=ay ha hr (p8 h)
theorem uR {es:List Expr}{env:Env}(h:es.all nst=true):(backTo pos (starEach es env)).any (·.1)=false:=by
 induction es with
 |nil=>exact cZ
 |cons e r ih=>rw[List.all_cons,Bool.and_eq_true] at h;exact cb (p8 h.1) (ih h.2)
def Cm (X:Cx)(E:XK)(op:CmpOp)(f:W->W->M W):Prop:= ∃r,OpM X E r f/\OpR X (compareOp op) r
theorem z9 {a b:Expr}{op:CmpOp}{f:W->W->M W}{fa fb:Env'->M W}(h:Cm X E op f)(ha:JE X E a fa)(hb:JE X E b fb)(hm:behindInMarks op b=false):JT X E (.Compare a [op] [b] pos) (mB (m2 f fa fb)):=h.elim fun _ h=>xT h.2 h.1 ha hb hm
theorem Ac {a b:Expr}{op:CmpOp}{f:W->W->M W}{fa fb:Env'->M W}(h:Cm X E op f)(ha:JE X E a fa)(hb:JE X E b fb)(hm:behindInMarks op b=false):JE X E (.Compare a [op] [b] pos) (m2 f fa fb):=h.elim fun _ h=>yj h.2 h.1 ha hb hm
theorem zo {a b c:Expr}{op op':CmpOp}{f g:W->W->M W}{fa fb fc:Env'->M W}(h:Cm X E op f)(h':Cm X E op' g)(ha:JE X E a fa)(hb:JE X E b fb)(hc:JE X E c fc)(hm:lastMarks [op,op'] [b,c]=false:=by with_unfolding_all rfl):JT X E (.Compare a [op,op'] [b,c] pos) (mB (bG f g fa fb fc)):=h.elim fun _ h=>h'.elim fun _ h'=>sy h.2 h.1 h'.2 h'.1 ha hb hc hm
def Cr (X:Cx)(x:Str)(m:Nat)(f:List W->M W):Prop:= ∃k a d ps,CG X.prog X.w X.K X.mg X.base k x a d ps m f/\Room k X.A
theorem Ab {e:Expr}{es:List Expr}{l:Env'->M (List W)}{m:Nat}{f:List W->M W}(h:Cr X x m f)(ha:JA X E0 (e::es) l)(hg:Gl X x:=by rfl)
  (hdb:(x==("__debug__":Str))=false:=by decide)(he:(e::es).all nst=true):
  JE X E0 (.Call (.Name x p) (e::es) [] pos) (mCall (arW m f) l):=by
 obtain⟨_,_,_,_,h,hr⟩:=h
 rw[List.all_cons,Bool.and_eq_true] at he
 exact zE h hr ha hg hdb (p8 he.1) (uR he.2)
def Cs (X:Cx)(c x:Str)(m:Nat)(f:List W->M W):Prop:= ∃C k a d ps,nsIn X.K mainGlobals c=some (some (.ref C))/\Cls X.K C/\CGm X.prog X.w X.K X.mg X.base k C x a d ps m f/\Room k X.A
def Fq (X:Cx)(c x:Str):Prop:= ∃C,nsIn X.K mainGlobals c=some (some (.ref C))/\Cls X.K C/\NoAttr X.K C x
theorem zD {c:Str}{o:Expr}{fo:Env'->M W}(h:Fq X c x)(ho:JE X E o fo)(hb:attributeBase o x X.env (eval o X.env)=eval o X.env:=by rfl):JE X E (.Attribute o x pos) (m1 (fldG c x) fo):=by
 obtain⟨_,n,k,a⟩:=h
 exact yi n k a ho hb
theorem zt {c:Str}{o value:Expr}{pos':Pos}{fo fv:Env'->M W}(h:Fq X c x)(ho:JE X E o fo)(hv:JE X E value fv)(hs:swapsWith value (some (.Attribute o x pos')) pos.line X.env=pure false:=by rfl):JS X E (.Assign [.Attribute o x pos'] value pos) (sFldW c x fo fv):=by
 obtain⟨_,n,k,a⟩:=h
 exact xX n k a ho hv hs
def Tq (X:Cx)(tg:Expr)(t:W->Env'->Option Env'):Prop:= ∃m gT,TgOk X.K m gT t/\PG X tg gT
theorem zu {tg iter:Expr}{body:List Stmt}{src:Env'->M Sr}{t:W->Env'->Option Env'}{g:Env'->M Fl}(h:Tq X tg t)(hp:PassesOwn (model X.prog X.w) X.A X.env X.xe)(hc:X.calm=true)(hi:JI X E tg iter src)(hb:JSs X E body g)
  (hs: ∀x,foldedSetIterable iter X.env x=pure x:=by intro _;rfl):JS X E (.For tg iter body [] pos) (sFor src t g):=by
 obtain⟨_,_,ht,hg⟩:=h
 exact xW hp hc hi hg ht hb hs
theorem zp {tg e:Expr}{t:W->Env'->Option Env'}{f:Env'->M W}(h:Tq X tg t)(he:JE X E e f)(hs:swapsWithSole [tg] e pos.line X.env=pure false:=by rfl)(hw:swappedStores [tg] e X.env=pure none:=by rfl)
  (h1:(assignEach [tg] X.env).map (·.2)=[assign tg X.env]:=by rfl):JS X E (.Assign [tg] e pos) (sUnp t f):=by
 obtain⟨_,_,ht,hg⟩:=h
 exact xU he hg ht hs hw h1
theorem zR (hu:X.A.units+64<cLine):Cm X E .Eq eqW:=⟨_,xy hu,ze⟩
theorem zL (hu:X.A.units+64<cLine):Cm X E .NotEq neW:=⟨_,xq hu,y8⟩
theorem zM:Cm X E .Lt ltW:=⟨_,xr,y9⟩
theorem zN:Cm X E .LtE leW:=⟨_,xt,za⟩
theorem zP:Cm X E .Gt gtW:=⟨_,xw,zc⟩
theorem zQ:Cm X E .GtE geW:=⟨_,xx,zd⟩
theorem zO (hu:X.A.units+1<cLine):Cm X E .In inW:=⟨_,xv,zb hu⟩
theorem zK (hu:X.A.units+1<cLine):Cm X E .NotIn bS:=⟨_,qk,rW hu⟩
theorem zB {i:Int}(hm:Gi X.mg x i)(hg:Gl X x:=by rfl)(hd:(x==("__debug__":Str))=false:=by decide):JE X E (.Name x pos) (mC (.int i)):=hm.elim fun _ hm=>lq (w:=.int i) (v:=.int i) hg hm ⟨_,rfl⟩ (fun o=>rv_int.mpr rfl) hd
theorem zA {i:Str}(hm:Gs X.mg x i)(hg:Gl X x:=by rfl)(hd:(x==("__debug__":Str))=false:=by decide):JE X E (.Name x pos) (mC (.str i)):=hm.elim fun _ hm=>lq (w:=.str i) (v:=.str i) hg hm ⟨_,rfl⟩ (fun o=>rv_str.mpr rfl) hd
theorem zz (h:Gt X.K X.mg x zs)(hg:Gl X x:=by rfl)(hd:(x==("__debug__":Str))=false:=by decide):JE X E (.Name x pos) (mC (.tup (zs.map W.str))):=by
 obtain⟨a,hm,hq⟩:=h
 exact sI hm hq hg hd
end
section
variable (P:Program)(w:World)(K:PySem.W.Frag)(mg:Str->Option Value)(base:Heap)(k:Nat)(C:Addr)(x:Str)(m:Nat)(fn:List W->M W)
noncomputable def Cq:Prop:= ∃a d ps,CG P w K mg base k x a d ps m fn
noncomputable def Cqm:Prop:= ∃a d ps,CGm P w K mg base k C x a d ps m fn
end
section
variable {P:Program}{w:World}{K:PySem.W.Frag}{mg:Str->Option Value}{base:Heap}{x q:Str}{st:Stmt}{C:Addr}{k:Nat}{fn:List W->M W}{g:Env'->M Fl}
theorem okq (N:List Str)(m:Nat)(D:Dq K mg x st)(hb: ∀ (f:Addr) (cdv:Value) (A:Around) (outer:List Env) (s:Shared) (H:Hp) (E:XK),Room k (A.deeper (envOfC x (ae st) s.heap.objs.size f cdv))->(A.deeper (envOfC x (ae st) s.heap.objs.size f cdv)).units+1<cLine->(A.deeper (envOfC x (ae st) s.heap.objs.size f cdv)).units+64<cLine->N.Nodup->JSs (cxOf CX0 P w K mg base N x (ae st) f cdv A outer s H E).nox E0 (bb st) g)
  (S:FnScope N (N.take m) (ae st):=by exact⟨rfl,rfl,rfl,by decide+kernel,rfl,by decide+kernel,by decide+kernel⟩)(hm:(N.take m).length=m:=by rfl)(hf:fn=runF N.length g:=by rfl)(hi: ∀ (kV doc pm:Value) (an:Option Addr) (cdv ct:Value) (us:List Value),us.length=(N.take m).length->bindArgs (fnOf x x (cH st) (bb st) (ae st) .none kV doc pm an cdv ct) ⟨us,[]⟩=pure ((N.take m).zip us):=by intro _ _ _ _ _ _ us hl;first|(obtain⟨_,rfl⟩:=ln1 hl;rfl)|(obtain⟨_,_,rfl⟩:=ln2 hl;rfl)|(obtain⟨_,_,_,rfl⟩:=ln3 hl;rfl)|(obtain⟨_,_,_,_,rfl⟩:=ln4 hl;rfl)|(obtain⟨_,_,_,_,_,rfl⟩:=ln5 hl;rfl)):Cq P w K mg base (k+1) x m fn:=by
 obtain⟨f,_,F,M⟩:=D
 exact⟨_,_,_,okf N m F M (hb f) S hm hf hi⟩
theorem okqz (N:List Str)(m:Nat)(D:Dq K mg x st)(h:∀ws h,fn ws h=.bad)(hi: ∀ (kV doc pm:Value) (an:Option Addr) (cdv ct:Value) (us:List Value),us.length=(N.take m).length->bindArgs (fnOf x x (cH st) (bb st) (ae st) .none kV doc pm an cdv ct) ⟨us,[]⟩=pure ((N.take m).zip us):=by intro _ _ _ _ _ _ us hl;first|(obtain⟨_,rfl⟩:=ln1 hl;rfl)|(obtain⟨_,_,rfl⟩:=ln2 hl;rfl)|(obtain⟨_,_,_,rfl⟩:=ln3 hl;rfl)|(obtain⟨_,_,_,_,rfl⟩:=ln4 hl;rfl)|(obtain⟨_,_,_,_,_,rfl⟩:=ln5 hl;rfl)):Cq P w K mg base k x m fn:=by
 obtain⟨_,_,F,M⟩:=D
 exact⟨_,_,_,okz N m F M h hi⟩
end
section
variable {X:Cx}{x c:Str}{C:Addr}{k m:Nat}{f:List W->M W}{p pos:Pos}
theorem cr (h:Cq X.prog X.w X.K X.mg X.base k x m f)(r:Room k X.A):Cr X x m f:=h.elim fun a ⟨d,ps,h⟩=>⟨k,a,d,ps,h,r⟩
theorem cs (h:Cqm X.prog X.w X.K X.mg X.base k C x m f)(n:nsIn X.K mainGlobals c=some (some (.ref C)))(l:Cls X.K C)(r:Room k X.A):Cs X c x m f:=h.elim fun a ⟨d,ps,h⟩=>⟨C,k,a,d,ps,n,l,h,r⟩
end
section
variable {X:Cx}{E:XK}{e a b:Expr}{es:List Expr}{s:Stmt}{ss:List Stmt}{o:Option Expr}{op:Operator}{kw:List Keyword}{c:Const}{k:Nat}{x:Str}{pos:Pos}{f:Env'->M W}{u:Env'->M Bool}{l:Env'->M (List W)}{g:Env'->M Fl}{r:Env'->M Sr}{q:Env'->M (Option Int)}
theorem gNm (h:JE X E (.Name x pos) f):JE X E (.Name x pos) f:=h
theorem gCo {j:Nat}(h:JE X E (.Constant c j pos) f):JE X E (.Constant c j pos) f:=h
theorem gCl (h:JE X E (.Call e es kw pos) f):JE X E (.Call e es kw pos) f:=h
theorem gBi (h:JE X E (.BinOp a op b pos) f):JE X E (.BinOp a op b pos) f:=h
theorem gSu (h:JE X E (.Subscript a b pos) f):JE X E (.Subscript a b pos) f:=h
theorem gJE (h:JE X E e f):JE X E e f:=h
theorem gJT (h:JT X E e u):JT X E e u:=h
theorem gJW (h:JW X E e u):JW X E e u:=h
theorem gJA (h:JA X E es l):JA X E es l:=h
theorem gJF (h:JF X E e l):JF X E e l:=h
theorem gJS (h:JS X E s g):JS X E s g:=h
theorem gJZ (h:JSs X E ss g):JSs X E ss g:=h
theorem gJI (h:JI X E a b r):JI X E a b r:=h
theorem gJO (h:JO X E o q):JO X E o q:=h
end
end
end L2
namespace L2
open PySem PySem.W PySem.Spec PyProof.Rows
section
variable {prog:Program}{w:World}{A:Around}{E:Value->Shared->Prop}{s:Shared}
end
section
variable {X:Cx}{E:XK}
open Classical in
open Classical in
end
end L2
namespace L2
open PySem PySem.Spec
section
variable {X:Cx}{E:XK}{pos:Pos}{x:Str}
end
end L2
namespace L2
open PySem PySem.Spec PyProof.Rows
section
variable {P:Program}{w:World}{K:PySem.W.Frag}{mg:Str->Option Value}{base:Heap}{x qual:Str}{st:Stmt}{f C:Addr}{fd:FuncData}{N ps:List Str}{k:Nat}{g:Env'->M Fl}
theorem tR {n m:Nat}{fn:List W->M W}(F:Fun K x qual st f fd)(S:FnScope N ps (ae st))(hn:N.length=n)(hm:ps.length=m)(hf:fn=runF n g)
  (hb: ∀ (cdv:Value) (A:Around) (outer:List Env) (s:Shared) (H:Hp) (E:XK),Room k (A.deeper (envOfC qual (ae st) s.heap.objs.size f cdv))->JSs (cxOf (CXx P w) P w K mg base N qual (ae st) f cdv A outer s H E) E (bb st) g):
  FnOk P w K mg base (CXx P w) (k+1) f fd ps (spX K mg m fn):=by
 subst hn hm hf
 refine F.okX S (fun vs H Q E h=>?_) (fun cdv A outer s H vs Q E hr h=>?_)
 ·obtain⟨o,ws,_,hl,_,rv,_⟩:=h
  rw[rv.len,hl]
 ·obtain⟨o,ws,rfl,hl,R,rv,h⟩:=h
  refine⟨_,(hb cdv A outer s o.H E hr).h,?_⟩
  have e:start N vs=vs.map some++List.replicate (N.length - ws.length) none:=by unfold start;rw[rv.len]
  rw[e]
  refine⟨o,_,rfl,R,Re.args _ rv,Ps.bd h fun p x b e1 R1 r1 h1=>?_⟩
  cases x with
  |rt w=>obtain⟨v,rfl,r⟩:=r1;exact h1.pr R1 r
  |nx r=>obtain⟨s,rfl,r⟩:=r1;exact h1.pr R1 (rv_non.mpr rfl)
  |bk r=>exact h1.elim
  |ct r=>exact h1.elim
theorem Ag {m:Nat}{fn:List W->M W}(c:CG P w K mg base k x f fd ps m fn)(hn: ∀ws h y h',fn ws h≠.ex y h')(F:FnOk P w K mg base (CXx P w) k f fd ps (spM0 K mg m fn)):CGx P w K mg base k x f fd ps m fn:=
 ⟨F.imp fun vs H Q E h=>by
  obtain⟨o,ws,e,hl,R,rv,h⟩:=h
  refine⟨o,ws,e,hl,R,rv,?_⟩
  cases ef:fn ws o.h with
  |ok a h'=>rw[ef] at h;exact h
  |ex y h'=>exact absurd ef (hn _ _ _ _)
  |bad=>rw[ef] at h;exact h,c.bi,c.kp,c.mg⟩
structure CGmx (P:Program)(w:World)(K:PySem.W.Frag)(mg:Str->Option Value)(base:Heap)(k:Nat)(C:Addr)(m:Str)(f:Addr)(fd:FuncData)(ps:List Str)(n:Nat)(fn:List W->M W):Prop where
 ok:FnOk P w K mg base (CXx P w) k f fd ps (spX K mg n fn)
 bi:Binds K fd ps []
 me:Meth K C m f
end
section
variable {X:Cx}{E:XK}{p p0 pos apos cpos np:Pos}{e o a:Expr}{es:List Expr}{l:Env'->M (List W)}{fn:List W->M W}{fo:Env'->M W}{k n:Nat}{fA C:Addr}{fd:FuncData}{ps:List Str}{x c m:Str}
theorem zC (F:CGx X.prog X.w X.K X.mg X.base k x fA fd ps n fn)(hP:bH (CXx X.prog X.w) X E)(hr:Room k X.A)(ha:JA X E (e::es) l)(hg:Gl X x:=by rfl)
  (hdb:(x==("__debug__":Str))=false:=by decide)(he:starEach (e::es) X.env=(false,eval e X.env)::starEach es X.env:=by rfl)(hpl:(backTo pos (starEach es X.env)).any (·.1)=false:=by rfl):
  JE X E (.Call (.Name x p) (e::es) [] pos) (mCall (arW n fn) l):=(cX F.ok hr hg F.mg F.kp F.bi .nil hP ha.h hdb he hpl).imp fun σ H Q h=>by
 obtain⟨o,ρ,rfl,R,S,h⟩:=h
 refine⟨o,ρ,rfl,R,S,Ps.bd h fun p x vx e1 R1 r1 h1=>?_⟩
 unfold arW at h1
 by_cases z:x.length=n
 ·rw[if_pos z] at h1
  exact⟨p,x,rfl,z,R1,by rw[List.append_nil];exact r1,h1⟩
 ·rw[if_neg z] at h1
  exact h1.elim
theorem u9 {pl:Sem Bool}(hn:nsIn X.K mainGlobals c=some (some (.ref C)))(cl:Cls X.K C)(F:CGmx X.prog X.w X.K X.mg X.base k C m fA fd ps n fn)(hP:bH (CXx X.prog X.w) X E)(hr:Room k X.A)(ho:JE X E o fo)(ha:JA X E (e::es) l)
  (hst:starEach (e::es) X.env=(false,eval e X.env)::starEach es X.env:=by rfl)(hpl:(backTo pos (starEach es X.env)).any (·.1)=false:=by rfl)
  (ht:eval (.Call (.Attribute o m apos) (e::es) [] pos) X.env=(do
   let ov<-eval o X.env
   standAt apos.atName
   let (f,first)<-holding [ov] (getMethod ov m pl)
   callWith pos f first (backTo pos (starEach (e::es) X.env)) (backToKw pos (keywordEach [] X.env))):=by rfl):
  JE X E (.Call (.Attribute o m apos) (e::es) [] pos) (mMet c m n fn fo l):=(fu ho.h cl F.me F.ok hr F.bi .nil hP ha.h hst hpl ht).imp fun σ H Q h=>by
 obtain⟨w,ρ,rfl,R,S,h⟩:=h
 refine⟨w,ρ,rfl,R,S,Ps.bd h fun p x vx e1 R1 r1 h1=>?_⟩
 obtain⟨a,dx,fs,rfl,q1,q2,h1⟩:=sR hn R1 r1 h1
 refine⟨a,dx,fs,rfl,q1,q2,p,ρ,rfl,R1,S.mono R e1,Ps.bd h1 fun q ws vs e2 R2 r2 h2=>?_⟩
 unfold arW at h2
 by_cases z:(x::ws).length=n
 ·rw[if_pos z] at h2
  exact⟨q,x::ws,rfl,z,R2,by rw[List.append_nil];exact Rvs.cons (r1.mono R1 e2) r2,h2⟩
 ·rw[if_neg z] at h2
  exact h2.elim
def bE (x:Str)(l:Env'->M (List W)):Env'->M Fl:=fun ρ=>bd (l ρ) fun ws=>gd (ws.length<=sizeLine) fun h=>.ex x h
theorem sC (hX:iz X E)(hc:X.calm=true)(hm:X.mg x=some (.ref C))(q:excIn X.K C bmVal "ValueError.__new__"=true)(ha:JA X E (a::es) l)(hg:Gl X x:=by rfl)
  (he:starEach (a::es) X.env=(false,eval a X.env)::starEach es X.env:=by rfl)(hpl:(backTo cpos (starEach es X.env)).any (·.1)=false:=by rfl)(hd:(x==("__debug__":Str))=false:=by decide):
  JS X E (.Raise (some (.Call (.Name x np) (a::es) [] cpos)) none pos) (bE x l):=(eA hX hc hg hm q ha.h he hpl hd).imp fun D σ H h=>by
 obtain⟨o,ρ,rfl,R,S,h⟩:=h
 refine⟨o,ρ,rfl,R,S,Ps.bd h fun p ws vs e1 R1 r1 h1=>?_⟩
 obtain⟨hz,h1⟩:=h1.gd
 obtain⟨u,hu,h1⟩:=h1
 have hu:X.mg x=some u:=hu
 rw[hm] at hu
 cases hu
 exact⟨by rw[r1.len];exact hz,h1 p rfl (Ex.refl p) R1⟩
theorem pM (z:Str):Str.empty++z=z:=by
 show (⟨#[]++z.cps⟩:Str)=z
 rw[Array.empty_append]
def tFst (z:Str)(tv:TE):TE:=fun σ H Q=>z.length<=sizeLine/\tv σ H fun x H1=> ∃y,x=.str y/\y.length<=sizeLine/\(z++y).length<=sizeLine/\Q (.str (z++y)) H1
theorem xg {z:Str}{j:Nat}{cp p2 pos:Pos}{v:Expr}{tv:TE}(hv:PE X v tv):PE X (.JoinedStr [.Constant (.str z) j cp,.FormattedValue v (-1) none p2] pos) (tFst z tv):=by
 intro pins s σ H Q I h
 obtain⟨hz,h⟩:=h
 refine JoinedStr_many (joinParts_cons (Calls.Constant_str ⟨by rw[pM];exact hz,?_⟩))
 rw[pM]
 refine joinParts_cons (FormattedValue_plain (thn (hv pins _ σ H _ (I.tok _) h) fun u s1 h1=>?_))
 obtain⟨x,H1,I1,rx,y,rfl,hy,hzy,q⟩:=h1
 obtain⟨t,rfl⟩:=(show∃t,u=Value.str y t from rx)
 refine formatField_str (fun t' tk=>⟨hzy,?_⟩) hy
 exact joinParts_nil ⟨.str (z++y),H1,(I1.tok _).tok _,⟨_,rfl⟩,q⟩ hzy
def fstW (z:Str)(x:W):M W:=match x with
 |.str y=>gd (z.length<=sizeLine/\y.length<=sizeLine/\(z++y).length<=sizeLine) (pr (.str (z++y)))
 |_=>no
theorem yh {z:Str}{j:Nat}{cp p2 pos:Pos}{v:Expr}{fv:Env'->M W}(hz:z.length<=sizeLine)(hv:JE X E v fv):JE X E (.JoinedStr [.Constant (.str z) j cp,.FormattedValue v (-1) none p2] pos) (m1 (fstW z) fv):=(xg hv.h).imp fun σ H Q h=>by
 obtain⟨o,ρ,rfl,R,S,h⟩:=h
 refine⟨hz,o,ρ,rfl,R,S,Ps.bd h fun p x vx e1 R1 r1 h1=>?_⟩
 unfold fstW at h1
 split at h1
 ·rename_i y
  obtain⟨⟨_,h3,h4⟩,h1⟩:=h1.gd
  exact⟨y,rv_str.mp r1,h3,h4,h1.pr R1 (rv_str.mpr rfl)⟩
 ·exact h1.elim
end
end L2
namespace L2
open PySem PySem.W PySem.Spec PyProof.Rows
section
variable {M:Model}{A:Around}{E:Value->Shared->Prop}{s:Shared}
noncomputable def FlyT (base:Heap)(l:List Env)(e:Addr)(cls a0:Value)(h:Heap):Prop:=base.StaysIn h/\base.get? e=none/\h.FunFrames base l/\ ∃fl,h.TracedAtW base e cls a0 fl
theorem sM {base:Heap}{env:Env}{outer:List Env}{L e:Addr}{cls a0:Value}{Q:Unit->Shared->Prop}(hfr:A.frames=some (env::outer))(hf:env.frame=some L)(hh:FlyT base (env::outer) e cls a0 s.heap)
  (hQ: ∀h',Heap.FlyingW base outer e cls a0 h'->s.heap.UpToSlots h'->Q () {s with heap:=h'}):wpAny M A (leaving env (.ref e)) Q E s:=by
 obtain⟨f1,f2,f3,fl,f4⟩:=hh
 by_cases z:fl=rawInt L
 ·subst z
  unfold leaving
  refine wpAny_bind (wpAny_noteFrame_againW hf f4 ?_)
  refine wpAny_landsW (L:=L) ⟨f1,f2,f3,f4⟩ fun h' hfl up=>?_
  obtain⟨k1,k2,⟨_,_,k3⟩,k4⟩:=hfl
  exact hQ h' ⟨k1,k2,k3,k4⟩ up
 ·obtain⟨oe,vs,T,oT,ts,he,⟨hcls,h0⟩,hd,h1,hnT,hTe,hT,hdT,h3⟩:=f4
  subst hcls
  unfold leaving noteFrame
  simp only[hf]
  refine wpAny_bind (wpAny_bind (wpAny_field he hd h1 ?_))
  rw[if_pos (show (Value.ref T !=Value.none)=true from by simp)]
  refine wpAny_bind (wpAny_field hT hdT h3 ?_)
  rw[if_neg (show¬((fl==rawInt L)=true) from fun q=>z (by simpa using q))]
  refine wpAny_bind (wpAny_setField hT hdT (Array.getElem?_eq_some_iff.mp h3).1 ?_)
  have other: ∀b,b≠T->(s.heap.update T (Obj.mapFields (·.setIfInBounds 3 Value.none))).get? b=s.heap.get? b:=fun b hb=>Heap.get?_update_other _ _ (Ne.symm hb)
  have nr: ∀b o,s.heap.get? b=some o->(∀vs,o.data≠.fields vs)->b≠T:=fun b o hb hnf q=>by
   rw[q,hT] at hb
   injection hb with hb
   subst hb
   exact hnf ts hdT
  refine wpAny_newEntryW hfr (f3.of_keeps fun b o hb hnf=>⟨o,(other b (nr b o hb hnf)).trans hb,rfl⟩) hf ((other e (Ne.symm hTe)).trans he)
   (fun b o hbo=>(other b fun q=>by rw[q,hnT] at hbo;cases hbo).trans (f1 b o hbo)) f2 hd (Array.getElem?_eq_some_iff.mp h1).1 h0 fun h' hL=>?_
  obtain⟨k1,⟨_,_,k2⟩,k3,k4⟩:=hL
  exact hQ h' ⟨k1,f2,k2,k3⟩ fun b o hb hnf=>k4 b o ((other b (nr b o hb hnf)).trans hb) hnf
end
structure NotT (l:List Env)(B:Heap)(ea:Addr)(cls a0:Value)(s s':Shared):Prop where
 os:s'.os=s.os
 gens:s'.gens=s.gens
 fly:FlyT B l ea cls a0 s'.heap
 slot: ∀b∈frs l,∀o,s.heap.get? b=some o-> ∃sl,s'.heap.get? b=some {o with slots:=sl}
def gR (X:Cx)(E:XK):Prop:= ∀ (pins:List (Addr×Obj)) (σ:St) (H H':Hp) (s s1 s2:Shared) (ea C:Addr) (cls a0:Value) (B:Heap),X.s₀.heap.get? C=none->H' C=none->Inv X pins σ H s->
 s1.os=s.os->AllBare s1.gens->Un (frs X.stack) [] H H' s.heap s1.heap->HOk X.prog X.w H' s1.heap->s1.heap.FunFrames B X.stack->
 (∀b o,b≠C->s1.heap.get? b=some o->b ∉ frs X.stack->(H' b≠none\/ ∃o',s.heap.get? b=some o')->B.get? b=some o)->s.heap.get? ea=none->H' ea=none->E cls none H'->NotT X.stack B ea cls a0 s1 s2->X.xe (.ref ea) s2
section
variable {P:Program}{w:World}{K:PySem.W.Frag}{mg:Str->Option Value}{base:Heap}{N:List Str}{qual:Str}{scope:Scope}{f:Addr}{cd:Value}{A:Around}{outer:List Env}{s:Shared}{H:Hp}{E:XK}
theorem kh:gR (cxOf (CXx P w) P w K mg base N qual scope f cd A outer s H E) E:=by
 intro pins σ H1 H2 s1 s2 s3 ea C cls a0 B hC0 hC2 I os bare un hok fly cov new hn hE nt
 have frm:=I.ok.frames
 refine sM (show (A.deeper (envOfC qual scope s.heap.objs.size f cd)).frames=some (envOfC qual scope s.heap.objs.size f cd::outer) from frm) rfl nt.fly fun h' fl up=>?_
 have fr2: ∀b,b∈frs (cxOf (CXx P w) P w K mg base N qual scope f cd A outer s H E).stack↔b=s.heap.objs.size\/b∈frs outer:=fun b=>by
  rw[(ip (CX:=CXx P w)).frs]
  exact List.mem_cons
 have old: ∀b o,s.heap.get? b=some o->b≠s.heap.objs.size:=fun b o q=>Nat.ne_of_lt (Heap.lt_size q)
 have baseU:Un (frs outer) [] H H1 s.heap s1.heap:=I.base
 have frN: ∀b,b∈frs (cxOf (CXx P w) P w K mg base N qual scope f cd A outer s H E).stack->H2 b=none:=fun b hb=>by
  obtain⟨o,q,_⟩:=I.frame_obj hb
  exact un.free b o q (I.stkFree b hb) (by simp)
 have tr: ∀b u,H2 b=some u->b ∉ frs (cxOf (CXx P w) P w K mg base N qual scope f cd A outer s H E).stack:=fun b u q z=>by rw[frN b z] at q;cases q
 have slotB: ∀b o,s2.heap.get? b=some o->b∈frs (cxOf (CXx P w) P w K mg base N qual scope f cd A outer s H E).stack-> ∃sl,h'.get? b=some {o with slots:=sl}:=fun b o q hb=>by
  obtain⟨o',e',nd⟩:=(fly.mem hb).2
  rw[q] at e';cases e'
  obtain⟨sl,q2⟩:=nt.slot b hb o q
  obtain⟨sl2,q3⟩:=up b {o with slots:=sl} q2 nd
  exact⟨sl2,q3⟩
 have hC0:s.heap.get? C=none:=hC0
 have c0: ∀ {b o},s.heap.get? b=some o->b≠C:=fun{b o} q z=>by rw[z,hC0] at q;cases q
 have c2: ∀ {b},H2 b≠none->b≠C:=fun{b} q z=>q (by rw[z];exact hC2)
 have noSt: ∀b o,s.heap.get? b=some o->b ∉ frs outer->b ∉ frs (cxOf (CXx P w) P w K mg base N qual scope f cd A outer s H E).stack:=fun b o q hb z=>((fr2 b).mp z).elim (old b o q) hb
 refine⟨ea,cls,a0,H2,B,rfl,(nt.os.trans os).trans I.os,by show AllBare s3.gens;rw[nt.gens];exact bare,⟨fun b o q n hb hx=>?_,fun b o q n hb hx=>?_,fun b o q n hx=>?_,fun b o q hx=>?_,fun b xs q=>un.tups b xs (baseU.tups b xs q),fun b o u q=>un.frzs b o u (baseU.frzs b o u q),fun b ps q=>?_⟩,fun b u q=>?_,fl,fun b o q hb hh=>?_,?_,hn,hE⟩
 ·have q1:=baseU.keep b o q n hb hx
  have q2:=un.keep b o q1 (baseU.free b o q n hx) (noSt b o q hb) hx
  exact fl.1 b o (cov b o (c0 q) q2 (noSt b o q hb) (.inr ⟨o,q1⟩))
 ·obtain⟨sl,q1⟩:=baseU.slot b o q n hb hx
  obtain⟨sl2,q2⟩:=un.slot b _ q1 (baseU.free b o q n hx) ((fr2 b).mpr (.inr hb)) hx
  obtain⟨sl3,q3⟩:=slotB b _ q2 ((fr2 b).mpr (.inr hb))
  exact⟨sl3,q3⟩
 ·obtain⟨o1,q1⟩:=baseU.there b o q hx
  exact un.free b o1 q1 (baseU.free b o q n hx) hx
 ·obtain⟨o1,q1⟩:=baseU.there b o q hx
  obtain⟨o2,q2⟩:=un.there b o1 q1 hx
  by_cases hb:b∈frs outer
  ·obtain⟨sl,q3⟩:=slotB b o2 q2 ((fr2 b).mpr (.inr hb))
   exact⟨_,q3⟩
  ·exact⟨o2,fl.1 b o2 (cov b o2 (c0 q) q2 (noSt b o q hb) (.inr ⟨o1,q1⟩))⟩
 ·obtain⟨m1,e1⟩:=baseU.tbls b ps q
  obtain⟨m2,e2⟩:=un.tbls b _ e1
  exact⟨m1++m2,by rw[e2,Array.append_assoc]⟩
 ·refine (hok b u q).stay (fun c v hc r=>?_) (fun _ r=>r) fun _ _ r=>r
  have: ∃u,H2 c=some u:=by
   rcases hc with rfl|hc
   ·exact⟨u,q⟩
   ·exact⟨_,hc⟩
  obtain⟨u',qu⟩:=this
  exact fl.1 c v (cov c v (c2 (by rw[qu];simp)) r (tr c u' qu) (.inl (by rw[qu];simp)))
 ·have: ∃o2,s2.heap.get? b=some o2/\B.get? b=some o2:=by
   rcases hh with hh|⟨o',hh⟩
   ·cases qu:H2 b with
    |none=>exact absurd qu hh
    |some u=>
     obtain⟨o2,q2⟩:=hok.there qu
     exact⟨o2,q2,cov b o2 (c2 hh) q2 (tr b u qu) (.inl hh)⟩
   ·obtain⟨o1,q1⟩:=baseU.there b o' hh (by simp)
    obtain⟨o2,q2⟩:=un.there b o1 q1 (by simp)
    exact⟨o2,q2,cov b o2 (c0 hh) q2 (noSt b o' hh hb) (.inr ⟨o1,q1⟩)⟩
  obtain⟨o2,q2,q3⟩:=this
  have q4:=fl.1 b o2 q3
  rw[q] at q4
  cases q4
  exact q3
 ·cases q:s.heap.get? ea with
  |none=>rfl
  |some o'=>
   obtain⟨o1,q1⟩:=baseU.there ea o' q (by simp)
   rw[new] at q1;cases q1
end
noncomputable def rmC (B:Heap)(C:Addr):Heap:=B.update C fun o=>{o with data:=.freed}
theorem iW (B:Heap)(C:Addr):(rmC B C).get? C=none:=by
 unfold rmC Heap.update Heap.get?
 simp only[Array.getElem?_modify,if_true]
 cases B.objs[C]? with
 |none=>rfl
 |some o=>rfl
theorem mf {B:Heap}{C b:Addr}(h:b≠C):(rmC B C).get? b=B.get? b:=Heap.get?_update_other _ _ (Ne.symm h)
theorem tj {h h' B:Heap}: ∀ {l:List Env},h.FunFrames B l->(∀b∈frs l,∀o,h.get? b=some o->(∀vs,o.data≠.fields vs)-> ∃o',h'.get? b=some o'/\o'.data=o.data)->h'.FunFrames B l
 |[],_,_=>trivial
 |env::r,⟨h1,⟨L,o,h2,h3,h4,h5⟩,h6⟩,k=>by
  obtain⟨o',q,d⟩:=k L (by show L∈(env::r).filterMap (·.frame);rw[List.filterMap_cons,h2];exact List.mem_cons_self) o h4 h5
  refine⟨h1,⟨L,o',h2,h3,q,fun vs=>by rw[d];exact h5 vs⟩,tj h6 fun b hb=>k b ?_⟩
  show b∈(env::r).filterMap (·.frame)
  rw[List.filterMap_cons,h2]
  exact List.mem_cons_of_mem _ hb
theorem oF {h B:Heap}{C:Addr}: ∀ {l:List Env},h.FunFrames B l->h.FunFrames (rmC B C) l
 |[],_=>trivial
 |env::r,⟨h1,⟨L,o,h2,h3,h4,h5⟩,h6⟩=>⟨h1,⟨L,o,h2,by
  by_cases z:L=C
  ·rw[z];exact iW B C
  ·rw[mf z];exact h3,h4,h5⟩,oF h6⟩
section
variable {X:Cx}{E:XK}{ls:List Str}{scope:Scope}{C:Addr}{s2:Shared}{H2:Hp}{fp:List Addr}{pn:List (Addr×Obj)}
def cxP (X:Cx)(ls:List Str)(scope:Scope)(C:Addr)(s2:Shared)(H2:Hp)(fp:List Addr)(pn:List (Addr×Obj)):Cx:={cxC X ls scope C s2 H2 fp with pn:=pn}
def cxX (X:Cx)(ls:List Str)(scope:Scope)(C:Addr)(s2:Shared)(H2:Hp)(fp:List Addr)(E:XK)(pn:List (Addr×Obj)):Cx:=
 {cxC X ls scope C s2 H2 fp with pn:=pn,xe:=fun e s'=> ∃ (pins:List (Addr×Obj)) (σ:St) (H:Hp) (s:Shared),Inv (cxP X ls scope C s2 H2 fp pn) pins σ H s/\CXx X.prog X.w X.stack H s E e s'}
theorem on:bH (CXx X.prog X.w) (cxX X ls scope C s2 H2 fp E pn) E:=fun pins σ H s e s' I h=>⟨pins,σ,H,s,⟨⟨I.ok.mod,I.ok.kind,I.ok.glob,I.ok.blt,I.ok.above,I.ok.inj,I.ok.has,I.ok.cab,I.ok.hd,I.ok.frames,I.ok.stk,I.ok.exf,I.ok.bs,I.ok.bsz,I.ok.noex,I.ok.exfs,I.ok.funs,I.ok.frf⟩,I.os,I.bare,I.base,I.loc,I.cell,I.free,I.freeC,I.pin,I.hok,I.len⟩,h⟩
theorem vv {σ:St}{H:Hp}{s:Shared}(I:Inv (cxC X ls scope C s2 H2 fp) pn σ H s):Inv (cxX X ls scope C s2 H2 fp E pn) [] σ H s:=
 ⟨⟨I.ok.mod,I.ok.kind,I.ok.glob,I.ok.blt,I.ok.above,I.ok.inj,I.ok.has,I.ok.cab,I.ok.hd,I.ok.frames,I.ok.stk,I.ok.exf,I.ok.bs,I.ok.bsz,I.ok.noex,I.ok.exfs,I.ok.funs,I.ok.frf⟩,I.os,I.bare,I.base,I.loc,I.cell,I.free,I.freeC,fun p hp=>I.pin p (by
   have hp:p∈pn++[]:=hp
   rw[List.append_nil] at hp
   exact List.mem_append_right _ hp),I.hok,I.len⟩
theorem vA {σ:St}{H:Hp}{s:Shared}(I:Inv (cxX X ls scope C s2 H2 fp E pn) [] σ H s):Inv (cxC X ls scope C s2 H2 fp) pn σ H s:=
 ⟨⟨I.ok.mod,I.ok.kind,I.ok.glob,I.ok.blt,I.ok.above,I.ok.inj,I.ok.has,I.ok.cab,I.ok.hd,I.ok.frames,I.ok.stk,I.ok.exf,I.ok.bs,I.ok.bsz,I.ok.noex,I.ok.exfs,I.ok.funs,I.ok.frf⟩,I.os,I.bare,I.base,I.loc,I.cell,I.free,I.freeC,fun p hp=>I.pin p (by
   have hp:p∈([]:List (Addr×Obj))++pn:=hp
   exact List.mem_append_left _ hp),I.hok,I.len⟩
theorem vB {pins:List (Addr×Obj)}{σ:St}{H:Hp}{s:Shared}(I:Inv (cxP X ls scope C s2 H2 fp pn) pins σ H s):Inv (cxC X ls scope C s2 H2 fp) (pn++pins) σ H s:=
 ⟨⟨I.ok.mod,I.ok.kind,I.ok.glob,I.ok.blt,I.ok.above,I.ok.inj,I.ok.has,I.ok.cab,I.ok.hd,I.ok.frames,I.ok.stk,I.ok.exf,I.ok.bs,I.ok.bsz,I.ok.noex,I.ok.exfs,I.ok.funs,I.ok.frf⟩,I.os,I.bare,I.base,I.loc,I.cell,I.free,I.freeC,fun p hp=>I.pin p hp,I.hok,I.len⟩
theorem sS {pins pl:List (Addr×Obj)}{σ σ':St}{H3:Hp}{s':Shared}(I:Inv X pins σ H2 s2)(f2: ∀b∈fp,FpOk X pins H2 b)(J:Inv (cxC X ls scope C s2 H2 fp) pl σ' H3 s'):Inv X pins σ H3 s':=
 I.call' (ch:=fp) J.os J.base J.hok J.bare fun b hb=>by
  obtain⟨a1,a2,a3,a4,a5,a6⟩:=f2 b hb
  exact⟨a4,a2,a5,a6⟩
theorem uT (e:Value)(cl:List (Str×Addr)):noteFrame e (compEnvC scope cl C X.env)=noteFrame e X.env:=rfl
theorem uS {pins:List (Addr×Obj)}{σ:St}{use:Option (Value->Sem Unit)}{QQ:Value->Shared->Prop}{acc:Value}{cl:List (Str×Addr)}{ev:Value}{s8:Shared}(I2:Inv X pins σ H2 s2)(f2: ∀b∈fp,FpOk X pins H2 b)(hC:s2.heap.objs.size<=C)(hT:gR X E)(hst: ∃o L,X.stack=X.env::o/\X.env.frame=some L)
  (hx:(cxX X ls scope C s2 H2 fp E pn).xe ev s8):notedBy (model X.prog X.w) X.A (compEnvC scope cl C X.env) (fun e s'=>compPost (model X.prog X.w) X.A X.xe use QQ acc C (.error e) s') ev s8:=by
 obtain⟨pins',σ',H',s9,J,ea,cls,a0,H3,B,rfl,os,bare,un,hok,fly,cov,new,hn,hE⟩:=hx
 have J:=vB J
 have IX:=sS I2 f2 J
 obtain⟨o',L,est,efr⟩:=hst
 have frC:C ∉ frs X.stack:=fun z=>by
  obtain⟨o,q,_⟩:=I2.frame_obj z
  exact absurd (Heap.lt_size q) (Nat.not_lt.mpr hC)
 obtain⟨m,hm,_⟩:=J.loc
 have hm:s9.heap.Ns C m:=hm
 have fC:H' C=none:=J.free
 have nC:s8.heap.Ns C m:=by
  obtain⟨o,es,ep,q,r⟩:=hm
  exact⟨o,es,ep,un.keep C o q fC frC (by simp),r⟩
 have fC3:H3 C=none:=by
  obtain⟨o,es,ep,q,r⟩:=hm
  exact un.free C o q fC (by simp)
 have c0:X.s₀.heap.get? C=none:=by
  cases q:X.s₀.heap.get? C with
  |none=>rfl
  |some o=>
   exact absurd (Heap.lt_size q) (Nat.not_lt.mpr (Nat.le_trans (Nat.le_trans I2.ok.above (Nat.le_of_lt I2.lt)) hC))
 show wpAny _ _ (noteFrame (.ref ea) (compEnvC scope cl C X.env)) _ _ s8
 rw[uT]
 refine wpAny_looks_onW (env:=X.env) (outer:=o') (L:=L) (by rw[<-est];exact I2.ok.frames) efr (by rw[<-est];exact fly) fun h3 held up=>?_
 rw[<-est] at held
 obtain⟨k1,k2,k3,oe,vs,T,oT,ts,e1,e2,e3,e4,e5,e6,e7,e8,e9⟩:=held
 have n3:h3.Ns C m:=up.ns nC
 have noF: ∀ {b o ws},h3.get? b=some o->o.data=.fields ws->b≠C:=fun{b o ws} q d z=>by
  obtain⟨oc,es,ep,qc,dc,_⟩:=n3
  rw[z,qc] at q
  cases q
  rw[dc] at d
  cases d
 refine⟨m,n3,fun h4 sb cenv _=>?_⟩
 have oth: ∀b o,b≠C->h3.get? b=some o->h4.get? b=some o:=fun b o hb q=>sb.extBut b o hb q
 have q1:=oth ea oe (noF e1 e3) e1
 have q2:=oth T oT (noF e7 e8) e7
 unfold PySem.passOn
 refine wpAny_bind (wpAny_field q1 e3 e4 ?_)
 rw[if_neg (show¬((Value.ref T==Value.none)=true) from by simp)]
 refine wpAny_bind (m:=setFlight (.ref ea) cenv.frame) ?_
 unfold setFlight
 refine wpAny_bind (wpAny_field q1 e3 e4 ?_)
 rw[if_pos (show (Value.ref T !=Value.none)=true from by simp)]
 refine wpAny_setField q2 e8 (Array.getElem?_eq_some_iff.mp e9).1 (wpAny_throw ?_)
 have oT5: ∀b o,b≠T->h4.get? b=some o->(h4.update T (Obj.mapFields (·.setIfInBounds 3 (cenv.frame.elim Value.none fun f=>rawInt f)))).get? b=some o:=fun b o hb q=>by rw[Heap.get?_update_other _ _ (Ne.symm hb)];exact q
 have frm: ∀b∈frs X.stack,b≠C:=fun b hb z=>frC (z▸hb)
 refine hT pins σ H' H3 s9 s8 _ ea C cls a0 (rmC B C) c0 fC3 IX os bare un hok (oF fly.2.2.1) (fun b o hb q h5 h6=>by rw[mf hb];exact cov b o q h5 h6) new hn hE ⟨rfl,rfl,⟨fun b o q=>?_,?_,oF ?_,cenv.frame.elim Value.none (fun f=>rawInt f),?_⟩,fun b hb o q=>?_⟩
 ·have z:b≠C:=fun z=>by rw[z,iW] at q;cases q
  rw[mf z] at q
  exact oT5 b o (fun z=>by rw[z,e5] at q;cases q) (oth b o z (k1 b o q))
 ·by_cases z:ea=C
  ·rw[z];exact iW B C
  ·rw[mf z];exact k2
 ·refine tj k3 fun b hb o q nf=>?_
  exact⟨o,oT5 b o (fun z=>by rw[z,e7] at q;cases q;exact nf ts e8) (oth b o (frm b hb) q),rfl⟩
 ·refine⟨oe,vs,T,_,_,oT5 ea oe (Ne.symm e6) q1,e2,e3,e4,?_,e6,Heap.get?_update_self _ q2 (Obj.isFreed_of_fields (Obj.data_mapFields e8 _)),Obj.data_mapFields e8 _,?_⟩
  ·by_cases z:T=C
   ·rw[z];exact iW B C
   ·rw[mf z];exact e5
  ·have:=(Array.getElem?_eq_some_iff.mp e9).1
   simp [this]
 ·obtain⟨o2,q2',nf⟩:=(fly.2.2.1.mem hb).2
  rw[q] at q2'
  cases q2'
  obtain⟨sl,q3⟩:=up b o q nf
  exact⟨sl,oT5 b _ (fun z=>by rw[z,e7] at q3;cases q3;exact nf ts e8) (oth b _ (frm b hb) q3)⟩
end
section
variable {X:Cx}{E:XK}{elt iter tg:Expr}{ifs:List Expr}{scope:Scope}{pos:Pos}{ls:List Str}{wi:TI}{g:TG}{tt:TT}{te:TE}
theorem oK {use:Option (Value->Sem Unit)}{pins:List (Addr×Obj)}{s:Shared}{σ:St}{H:Hp}{Q:VK}{QQ:Value->Shared->Prop}{pos':Pos}(hcalm:X.calm=true)(S:CScope X ls scope)(hi:PI X tg iter wi)
  (hg: ∀C s2 H2 fp,PG (cxC X ls scope C s2 H2 fp) tg g)(ht: ∀C s2 H2 fp,PIfs (cxC X ls scope C s2 H2 fp) ifs tt)(he: ∀C s2 H2 fp pn,PE (cxX X ls scope C s2 H2 fp E pn) elt te)(hT:gR X E)(hst: ∃o L,X.stack=X.env::o/\X.env.frame=some L)
  (hs: ∀x,foldedSetIterable iter X.env x=pure x)(I:Inv X pins σ H s)(h:tComp X.N ls wi g tt te σ H Q)
  (hQQ: ∀ (D C:Addr) (s':Shared) (H':Hp),(∃m,s'.heap.Ns C m)->FpOk X pins H' C->(∀h',Heap.SameBut C s'.heap h'->Inv X pins σ H' {s' with heap:=h'})->Q (.ref D) H'->compPost (model X.prog X.w) X.A X.xe use QQ (.ref D) C (.ok .next) s'):
  wpAny (model X.prog X.w) X.A (comprehension (.ListComp elt [⟨tg,iter,ifs,0⟩] scope pos) scope X.env pos' (newList []) false (eval iter X.env) use) QQ X.xe s:=by
 obtain⟨hh,h⟩:=h
 have cf: ∀p∈scope.names,p.2=.free-> ∃c,X.env.cells.lookup p.1=some c:=fun p hp e=>I.ok.has _ (S.free p hp e)
 refine wpAny_comprehension_free (use:=use) rfl hs (jL cf) S.kind S.names (thn (hi pins s σ H _ I h) fun v s1 h1=>thn h1 fun itv s2 h2=>?_)
 obtain⟨it,fp,tn,J,H2,rfl,I2,T,st2,f2,W,⟨m0,w0⟩,turn⟩:=h2
 refine wpAny_newObj_type (wpAny_newFunctionEnv S.nocell (by intro y hy;simp at hy) (fun h₁ hns₁ hsb₁=>?_) S.kind)
 dsimp only at hns₁ hsb₁ ⊢
 generalize hH2:s2.heap.push {cls:=.type "list",dict:=none,data:=.seq ([]:List Value).toArray}=G2 at hns₁ hsb₁ ⊢
 have hC:G2.objs.size=s2.heap.objs.size+1:=by rw[<-hH2,Heap.size_push]
 have hDC:s2.heap.objs.size≠G2.objs.size:=by rw[hC];exact Nat.ne_of_lt (Nat.lt_succ_self _)
 have hCle:s2.heap.objs.size<=G2.objs.size:=by rw[hC];exact Nat.le_succ _
 have old: ∀b o,s2.heap.get? b=some o->h₁.get? b=some o:=fun b o e=>hsb₁.extBut b o (Nat.ne_of_lt (Nat.lt_of_lt_of_le (Heap.lt_size e) hCle)) (Heap.get?_push_of_some _ (hH2▸Heap.get?_push_of_some _ e))
 have hacc:h₁.get? s2.heap.objs.size=some {cls:=.type "list",data:=.seq ([]:List Value).toArray}:=hsb₁.extBut _ _ hDC (Heap.get?_push_of_some _ (hH2▸Heap.get?_push_size _ rfl))
 have hobj: ∀b∈fp,∃o,s2.heap.get? b=some o:=fun b hb=>let ⟨o,e,_⟩:=T.obj 0 _ st2 b hb;⟨o,e⟩
 have ltf: ∀b∈fp,b<s2.heap.objs.size:=fun b hb=>let ⟨o,e⟩:=hobj b hb;Heap.lt_size e
 have nofD:s2.heap.objs.size ∉ (cxC X ls scope G2.objs.size s2 H2 fp).fs:=fun z=>by
  rcases List.mem_cons.mp (I2.stkSub _ z) with z|z
  ·exact absurd I2.lt (by rw[<-z];exact Nat.lt_irrefl _)
  ·exact I2.nofs (Nat.le_refl _) z
 have st1:tn 0 h₁:=T.keep 0 _ _ st2 fun b _ o e=>old b o e
 have J0: ∀tk,Inv (cxC X ls scope G2.objs.size s2 H2 fp) [] (List.replicate ls.length none++σ) H2 {s2 with heap:=h₁,toks:=tk}:=fun tk=>ku I2 S hh f2 hobj hCle hns₁ old
 have fpY: ∀ (Hx:Hp) (pl:List (Addr×Obj)),(∀b∈fp,Hx b=none)->(∀p∈pl,s2.heap.objs.size<=p.1)-> ∀b∈fp,FpOk (cxC X ls scope G2.objs.size s2 H2 fp) pl Hx b:=fun Hx pl hx hp b hb=>
  ⟨hx b hb,((J0 0).ok.exf b hb).1,(J0 0).ok.exfs b hb,.inl hb,((J0 0).ok.exf b hb).2,fun p hpp=>by
   have hpp:p∈pl:=by simpa [cxC] using hpp
   exact Nat.ne_of_gt (Nat.lt_of_lt_of_le (ltf b hb) (hp p hpp))⟩
 have loop: ∀s₃:Shared,s₃={s2 with heap:=h₁,toks:=s2.toks+([]:List (Str×Value)).length}->
   codeAny (model X.prog X.w) X.A (.compLoop (.ListComp elt [⟨tg,iter,ifs,0⟩] scope pos) 0 (.ref it) (.ref s2.heap.objs.size) (compEnvC scope (cloOf scope X.env) G2.objs.size X.env))
    (compPost (model X.prog X.w) X.A X.xe use QQ (.ref s2.heap.objs.size) G2.objs.size) s₃:=by
  rintro s₃ rfl
  refine dJ (fun n s'=> ∃ (i:Nat) (ys:List V) (its:List Value) (k:Nat) (H':Hp),Inv (cxC X ls scope G2.objs.size s2 H2 fp) [] (List.replicate ls.length none++σ) H' s'/\tn i s'.heap/\(∀b∈fp,H' b=none)/\H' s2.heap.objs.size=none/\
   s'.heap.get? s2.heap.objs.size=some {cls:=.type "list",data:=.seq its.toArray k}/\Vals ys its/\ys.length<=sizeLine/\W i n ys H') ?_ m0
   ⟨0,[],[],0,H2,J0 _,st1,fun b hb=>(f2 b hb).1,I2.hok.fresh (Nat.le_refl _),hacc,.nil,Nat.zero_le _,w0⟩
  rintro n s3 ⟨i,ys,its,k,H3,I3,st3,fr3,d3,e3,r3,z3,w3⟩
  have big: ∀p∈[((s2.heap.objs.size:Addr),({cls:=.type "list",data:=.seq its.toArray k}:Obj))],s2.heap.objs.size<=p.1:=fun p hp=>by
   have this:=List.mem_singleton.mp hp
   subst this
   exact Nat.le_refl _
  rcases turn i n ys H3 w3 with⟨stop,qn⟩|⟨go,R,hR,step⟩
  ·
   have P3:Inv (cxC X ls scope G2.objs.size s2 H2 fp) [(s2.heap.objs.size,{cls:=.type "list",data:=.seq its.toArray k})] (List.replicate ls.length none++σ) H3 s3:=I3.pins_of fun p hp=>by
    have this:=List.mem_singleton.mp hp
    subst this
    exact⟨e3,d3,hDC,nofD,fun v z=>by cases z⟩
   refine thx (T.done (cxC X ls scope G2.objs.size s2 H2 fp) rfl rfl rfl hcalm i _ s3 _ H3 (fun _ _=>False) P3 (fpY H3 _ fr3 big) st3 stop) fun r s4 qz=>?_
   obtain⟨hr,I4⟩:=qz
   subst hr
   obtain⟨m,hm,_⟩:=I4.loc
   have e4:=(I4.pin _ (List.mem_append_right _ (List.mem_singleton.mpr rfl))).1
   exact hQQ _ _ s4 _ ⟨m,hm⟩ (I2.fpOk hCle (by rw[aC (Ne.symm hDC)];exact I4.free)) (fun h' sb=>mQ I2 f2 I4 (Nat.le_refl _) hCle hDC sb d3 e4 r3 z3) (qn _ d3)
  ·
   have P3:Inv (cxC X ls scope G2.objs.size s2 H2 fp) [(s2.heap.objs.size,{cls:=.type "list",data:=.seq its.toArray k})] (List.replicate ls.length none++σ) H3 s3:=I3.pins_of fun p hp=>by
    have this:=List.mem_singleton.mp hp
    subst this
    exact⟨e3,d3,hDC,nofD,fun v z=>by cases z⟩
   refine thx (T.item (cxC X ls scope G2.objs.size s2 H2 fp) rfl rfl rfl hcalm i _ s3 _ H3 (fun _ _=>False) P3 (fpY H3 _ fr3 big) st3 go) fun r s4 qz=>?_
   obtain⟨u,hr,h4⟩:=qz
   subst hr
   refine thx h4 fun _ s5 qz=>?_
   obtain⟨x,H5,I5,r5,y5,st5,fr5⟩:=qz
   have I5':=I5.pinned (fpY H5 _ fr5 big) (T.obj _ _ st5)
   refine thx (hg _ _ _ _ _ s5 _ H5 x u _ I5' r5 (step x H5 y5)) fun _ s6 qz=>?_
   obtain⟨σ6,H6,I6,q6⟩:=qz
   obtain⟨dr,ln,q6⟩:=q6
   have back: ∀ {s7:Shared}{H7:Hp},Inv (cxC X ls scope G2.objs.size s2 H2 fp) ([((s2.heap.objs.size:Addr),({cls:=.type "list",data:=.seq its.toArray k}:Obj))]++iE fp s5.heap) σ6 H7 s7->
     Inv (cxC X ls scope G2.objs.size s2 H2 fp) [] (List.replicate ls.length none++σ) H7 s7/\tn (i+1) s7.heap/\(∀b∈fp,H7 b=none)/\H7 s2.heap.objs.size=none/\s7.heap.get? s2.heap.objs.size=some {cls:=.type "list",data:=.seq its.toArray k}:=fun{s7 H7} I7=>by
    have pD:=I7.pin _ (List.mem_append_right _ (List.mem_append_left _ (List.mem_singleton.mpr rfl)))
    have pF: ∀b∈fp,∀o,s5.heap.get? b=some o->s7.heap.get? b=some o/\H7 b=none:=fun b hb o e=>by
     have q:=I7.pin (b,o) (List.mem_append_right _ (List.mem_append_right _ (fz hb e)))
     exact⟨q.1,q.2.1⟩
    refine⟨(I7.pins_of (pins':=[]) fun p hp=>absurd hp (by simp)).weak ?_ ?_,T.keep _ _ _ st5 fun b hb o e=>(pF b hb o e).1,fun b hb=>?_,pD.2.1,pD.1⟩
    ·rw[ln,List.length_append,List.length_replicate]
    ·intro j v ej
     by_cases hj:j<ls.length
     ·rw[List.getElem?_append_left (by simpa using hj),List.getElem?_replicate,if_pos hj] at ej
      cases ej
     ·rw[List.getElem?_append_right (by simpa using hj),List.length_replicate,<-dr,List.getElem?_drop] at ej
      rw[<-ej]
      congr 1
      omega
    ·obtain⟨o,e,_⟩:=T.obj _ _ st5 b hb
     exact (pF b hb o e).2
   refine thx (ht _ _ _ _ _ s6 σ6 H6 _ I6 q6) fun b s7 qz=>?_
   obtain⟨H7,I7,q7⟩:=qz
   cases b with
   |false=>
    rw[if_neg Bool.false_ne_true] at q7 ⊢
    obtain⟨m',hm,w7⟩:=hR _ _ q7
    obtain⟨a1,a2,a3,a4,a5⟩:=back I7
    exact⟨m',hm,i+1,ys,its,k,H7,a1,a2,a3,a4,a5,r3,z3,w7⟩
   |true=>
    rw[if_pos rfl] at q7 ⊢
    refine wpAny_mono (he _ _ _ _ _ [] s7 σ6 H7 _ (vv I7) q7) (fun y s8 hy=>?_) fun ev s8 hx=>uS I2 f2 hCle hT hst hx
    obtain⟨v,H8,I8,r8,z8,q8⟩:=hy
    have I8:=vA I8
    obtain⟨m',hm,w8⟩:=hR _ _ q8
    obtain⟨a1,a2,a3,a4,a5⟩:=back I8
    have pl:s8.heap.PlainList s2.heap.objs.size its.toArray:=⟨k,a5⟩
    refine wpAny_list_append_plain (hsz:=by rw[List.size_toArray,<-r3.length];exact z3) pl fun h9 hl9 hs9=>?_
    obtain⟨k9,e9⟩:=hl9
    have cellN: ∀ (y:Str) (c:Addr),(cxC X ls scope G2.objs.size s2 H2 fp).env.cells.lookup y=some c->c≠s2.heap.objs.size:=fun y c e=>by
     have e1:X.env.cells.lookup y=some c:=ir X.env scope.names [] cf (fun y a e=>by simp at e) y c e
     obtain⟨v,o,ho,_⟩:=I2.cell y c e1
     exact Nat.ne_of_lt (Heap.lt_size ho)
    have I9:Inv (cxC X ls scope G2.objs.size s2 H2 fp) [] (List.replicate ls.length none++σ) H8 {s8 with heap:=h9}:=
     a1.turned (t':=s8.toks) (fun b o hb e=>hs9.extBut b o hb e) a4 hDC (.inr (Nat.le_refl _)) cellN (fun p hp=>absurd (show p∈([]:List (Addr×Obj)) from hp) (by simp))
    refine⟨m',hm,i+1,ys++[v],its++[y],k9,H8,I9,T.keep _ _ _ a2 fun b hb o e=>hs9.extBut b o (Nat.ne_of_lt (ltf b hb)) e,a3,a4,?_,r3.append (.cons r8 .nil),?_,w8⟩
    ·simpa using e9
    ·rw[List.length_append,List.length_singleton];exact z8
 exact codeAny_compStart_list (loop _ rfl) (T.self _ 0 _ _ _ st1 (loop _ rfl))
theorem rR (hcalm:X.calm=true)(S:CScope X ls scope)(hi:PI X tg iter wi)
  (hg: ∀C s2 H2 fp,PG (cxC X ls scope C s2 H2 fp) tg g)(ht: ∀C s2 H2 fp,PIfs (cxC X ls scope C s2 H2 fp) ifs tt)(he: ∀C s2 H2 fp pn,PE (cxX X ls scope C s2 H2 fp E pn) elt te)(hT:gR X E)(hst: ∃o L,X.stack=X.env::o/\X.env.frame=some L)
  (hs: ∀x,foldedSetIterable iter X.env x=pure x:=by intro _;rfl):PE X (.ListComp elt [⟨tg,iter,ifs,0⟩] scope pos) (tComp X.N ls wi g tt te):=by
 intro pins s σ H Q I h
 rw[eval_ListComp]
 refine oK (use:=none) hcalm S hi hg ht he hT hst hs I h fun D C s' H' hm _ hI q=>?_
 obtain⟨m,hm⟩:=hm
 exact⟨m,hm,fun h' sb=>⟨.ref D,H',hI h' sb,rfl,q⟩⟩
end
section
variable {X:Cx}{E:XK}{elt iter tg:Expr}{ifs:List Expr}{scope:Scope}{pos:Pos}{ls:List Str}{src:Env'->M Sr}{gT:TG}{t:W->Env'->Option Env'}{f:Env'->M Bool}{e:Env'->M W}{hs:List Nat}
theorem mE (hcalm:X.calm=true)(S:CScope X ls scope)(hi:JI X E tg iter src)(hg: ∀C s2 H2 fp,PG (cxC X ls scope C s2 H2 fp) tg gT)(ht:TgOk X.K ls.length gT t)
  (hf: ∀C s2 H2 fp,JQ (cxC X ls scope C s2 H2 fp) E ifs f)(he: ∀C s2 H2 fp pn,JE (cxX X ls scope C s2 H2 fp E pn) E elt e)(hT:gR X E)(hst: ∃o L,X.stack=X.env::o/\X.env.frame=some L)
  (hs': ∀x,foldedSetIterable iter X.env x=pure x:=by intro _;rfl):JF X E (.ListComp elt [⟨tg,iter,ifs,0⟩] scope pos) (mComp hs src t f e ls.length):=
 (rR hcalm S hi.h hg (fun C s2 H2 fp=>(hf C s2 H2 fp).h) (fun C s2 H2 fp pn=>(he C s2 H2 fp pn).h) hT hst hs').impF fun σ H Q h=>kI ht h
end
end L2
namespace L2
open PySem PySem.Spec PyProof.Rows
section
variable {P:Program}{w:World}{K:PySem.W.Frag}{mg:Str->Option Value}{base:Heap}{f:Addr}{fd:FuncData}{ps:List Str}{k:Nat}{sp:Sp}
theorem yz (F:FnOk P w K mg base CX0 k f fd ps sp):FnOk P w K mg base (CXx P w) k f fd ps sp:=
 ⟨F.len,fun A outer s H args us vs Q E hr he hb hv hs=>codeAny_mono (F.run A outer s H args us vs Q E hr he hb hv hs) fun r s' h=>by
  cases r with
  |ok x=>cases x<;>exact h
  |error x=>exact h.elim⟩
end
section
variable (P:Program)(w:World)(K:PySem.W.Frag)(mg:Str->Option Value)(base:Heap)(k:Nat)(C:Addr)(x:Str)(m:Nat)(fn:List W->M W)
noncomputable def Cqx:Prop:= ∃a d ps,CGx P w K mg base k x a d ps m fn
noncomputable def Cqmx:Prop:= ∃a d ps,CGmx P w K mg base k C x a d ps m fn
def Gx:Prop:= ∃C,mg x=some (.ref C)/\excIn K C bmVal "ValueError.__new__"=true
end
section
variable {P:Program}{w:World}{K:PySem.W.Frag}{mg:Str->Option Value}{base:Heap}{x q:Str}{st:Stmt}{C:Addr}{k:Nat}{fn:List W->M W}{g:Env'->M Fl}
theorem oJ (h:Cq P w K mg base k x m fn)(hn: ∀ws h y h',fn ws h≠.ex y h'):Cqx P w K mg base k x m fn:=by
 obtain⟨a,d,ps,c⟩:=h
 exact⟨a,d,ps,Ag c hn (yz c.ok)⟩
theorem okqzx (N:List Str)(m:Nat)(D:Dq K mg x st)(h:∀ws h,fn ws h=.bad)(hi: ∀ (kV doc pm:Value) (an:Option Addr) (cdv ct:Value) (us:List Value),us.length=(N.take m).length->bindArgs (fnOf x x (cH st) (bb st) (ae st) .none kV doc pm an cdv ct) ⟨us,[]⟩=pure ((N.take m).zip us):=by intro _ _ _ _ _ _ us hl;first|(obtain⟨_,rfl⟩:=ln1 hl;rfl)|(obtain⟨_,_,rfl⟩:=ln2 hl;rfl)|(obtain⟨_,_,_,rfl⟩:=ln3 hl;rfl)):Cqx P w K mg base k x m fn:=
 oJ (okqz N m D h hi) fun ws h' y h2 e=>by rw[h] at e;cases e
structure Bx (X:Cx)(E:XK):Prop where
 p:bH (CXx X.prog X.w) X E
 r:iz X E
 t:gR X E
 s: ∃o L,X.stack=X.env::o/\X.env.frame=some L
theorem okqx (N:List Str)(m:Nat)(D:Dq K mg x st)(hb: ∀ (f:Addr) (cdv:Value) (A:Around) (outer:List Env) (s:Shared) (H:Hp) (E:XK),Room k (A.deeper (envOfC x (ae st) s.heap.objs.size f cdv))->(A.deeper (envOfC x (ae st) s.heap.objs.size f cdv)).units+1<cLine->(A.deeper (envOfC x (ae st) s.heap.objs.size f cdv)).units+64<cLine->N.Nodup->Bx (cxOf (CXx P w) P w K mg base N x (ae st) f cdv A outer s H E) E->JSs (cxOf (CXx P w) P w K mg base N x (ae st) f cdv A outer s H E) E (bb st) g)
  (S:FnScope N (N.take m) (ae st):=by exact⟨rfl,rfl,rfl,by decide+kernel,rfl,by decide+kernel,by decide+kernel⟩)(hm:(N.take m).length=m:=by rfl)(hf:fn=runF N.length g:=by rfl)(hi: ∀ (kV doc pm:Value) (an:Option Addr) (cdv ct:Value) (us:List Value),us.length=(N.take m).length->bindArgs (fnOf x x (cH st) (bb st) (ae st) .none kV doc pm an cdv ct) ⟨us,[]⟩=pure ((N.take m).zip us):=by intro _ _ _ _ _ _ us hl;first|(obtain⟨_,rfl⟩:=ln1 hl;rfl)|(obtain⟨_,_,rfl⟩:=ln2 hl;rfl)|(obtain⟨_,_,_,rfl⟩:=ln3 hl;rfl)|(obtain⟨_,_,_,_,rfl⟩:=ln4 hl;rfl)|(obtain⟨_,_,_,_,_,rfl⟩:=ln5 hl;rfl)):Cqx P w K mg base (k+1) x m fn:=by
 obtain⟨f,_,F,M⟩:=D
 exact⟨_,_,_,⟨tR (g:=g) F S rfl hm hf fun cdv A outer s H E hr=>hb f cdv A outer s H E hr (sX hr) hr.units S.nd ⟨cY,dD,kh,_,_,rfl,rfl⟩,F.binds hi,F.kp,M⟩⟩
theorem okqmx (N:List Str)(m:Nat)(D:Dqm K x C q st)(hb: ∀ (f:Addr) (cdv:Value) (A:Around) (outer:List Env) (s:Shared) (H:Hp) (E:XK),Room k (A.deeper (envOfC q (ae st) s.heap.objs.size f cdv))->(A.deeper (envOfC q (ae st) s.heap.objs.size f cdv)).units+1<cLine->(A.deeper (envOfC q (ae st) s.heap.objs.size f cdv)).units+64<cLine->N.Nodup->Bx (cxOf (CXx P w) P w K mg base N q (ae st) f cdv A outer s H E) E->JSs (cxOf (CXx P w) P w K mg base N q (ae st) f cdv A outer s H E) E (bb st) g)
  (S:FnScope N (N.take m) (ae st):=by exact⟨rfl,rfl,rfl,by decide+kernel,rfl,by decide+kernel,by decide+kernel⟩)(hm:(N.take m).length=m:=by rfl)(hf:fn=runF N.length g:=by rfl)(hi: ∀ (kV doc pm:Value) (an:Option Addr) (cdv ct:Value) (us:List Value),us.length=(N.take m).length->bindArgs (fnOf x q (cH st) (bb st) (ae st) .none kV doc pm an cdv ct) ⟨us,[]⟩=pure ((N.take m).zip us):=by intro _ _ _ _ _ _ us hl;first|(obtain⟨_,rfl⟩:=ln1 hl;rfl)|(obtain⟨_,_,rfl⟩:=ln2 hl;rfl)|(obtain⟨_,_,_,rfl⟩:=ln3 hl;rfl)|(obtain⟨_,_,_,_,rfl⟩:=ln4 hl;rfl)|(obtain⟨_,_,_,_,_,rfl⟩:=ln5 hl;rfl)):Cqmx P w K mg base (k+1) C x m fn:=by
 obtain⟨f,_,F,M⟩:=D
 exact⟨_,_,_,⟨tR (g:=g) F S rfl hm hf fun cdv A outer s H E hr=>hb f cdv A outer s H E hr (sX hr) hr.units S.nd ⟨cY,dD,kh,_,_,rfl,rfl⟩,F.binds hi,M⟩⟩
end
section
variable {X:Cx}{E:XK}{x c:Str}{C:Addr}{k m:Nat}{f:List W->M W}{p pos apos cpos np:Pos}{e a o:Expr}{es:List Expr}{l:Env'->M (List W)}{fo:Env'->M W}
variable {fA:Addr}{fd:FuncData}{ps:List Str}{n:Nat}{fn:List W->M W}
theorem sH {pl:Sem Bool}(hn:nsIn X.K mainGlobals c=some (some (.ref C)))(cl:Cls X.K C)(F:CGmx X.prog X.w X.K X.mg X.base k C x fA fd ps n fn)(hP:bH (CXx X.prog X.w) X E)(hr:Room k X.A)(ho:JE X E o fo)
  (ht:eval (.Call (.Attribute o x apos) [] [] pos) X.env=(do
   let ov<-eval o X.env
   standAt apos.atName
   let (f,first)<-holding [ov] (getMethod ov x pl)
   callWith pos f first (backTo pos (starEach [] X.env)) (backToKw pos (keywordEach [] X.env))):=by rfl):
  JE X E (.Call (.Attribute o x apos) [] [] pos) (mMet c x n fn fo mNil):=(eB ho.h cl F.me F.ok hr F.bi .nil hP ht).imp fun σ H Q h=>by
 obtain⟨w,ρ,rfl,R,S,h⟩:=h
 refine⟨w,ρ,rfl,R,S,Ps.bd h fun p x vx e1 R1 r1 h1=>?_⟩
 obtain⟨a,dx,fs,rfl,q1,q2,h1⟩:=sR hn R1 r1 h1
 have h1:Ps (cg X E) (Rv X.K) p (arW n fn [x] p.h) Q:=h1
 unfold arW at h1
 by_cases z:([x]:List W).length=n
 ·rw[if_pos z] at h1
  exact⟨a,dx,fs,rfl,q1,q2,p,[x],rfl,z,R1,by first|(rw[List.append_nil];exact Rvs.cons r1 Rvs.nil)|exact Rvs.cons r1 Rvs.nil,h1⟩
 ·rw[if_neg z] at h1
  exact h1.elim
theorem qt {p0:Pos}(M:Mk X.K C fA)(hn:nsIn X.K mainGlobals c=some (some (.ref C)))(F:FnOk X.prog X.w X.K X.mg X.base (CXx X.prog X.w) k fA fd ps (spX X.K X.mg n fn))(hP:bH (CXx X.prog X.w) X E)(hb:Binds X.K fd ps [])(hr:Room (k+1) X.A)(hm:X.mg c=some (.ref C))(hg:Gl X c:=by rfl)
  (hdb:(c==("__debug__":Str))=false:=by decide):JE X E (.Call (.Name c p0) [] [] pos) (mMake c n fn mNil):=(rQ M F hr hg hm hb .nil hP hdb).imp fun σ H Q h=>by
 obtain⟨p,ρ,rfl,R1,S,h⟩:=h
 intro x dx hx hdx hne
 have X1:Ex p ⟨p.mu,p.h,upd p.H dx (.own x)⟩:=Ex.new hdx
 have N1:Rel X.K ⟨p.mu,p.h,upd p.H dx (.own x)⟩:=R1.new hdx
 have hx1:(⟨p.mu,p.h,upd p.H dx (.own x)⟩:Wo).H x=none:=by
  show upd p.H dx (.own x) x=none
  rw[aC (Ne.symm hne)];exact hx
 have X2:Ex ⟨p.mu,p.h,upd p.H dx (.own x)⟩ (Wo.add ⟨p.mu,p.h,upd p.H dx (.own x)⟩ x (.ins c [] []) (.ins C dx [])):=Ex.add hx1
 have N2:Rel X.K (Wo.add ⟨p.mu,p.h,upd p.H dx (.own x)⟩ x (.ins c [] []) (.ins C dx [])):=N1.add hx1 ⟨C,dx,[],hn,aM,rfl,Rvs.nil⟩
 have h1:Ps (cg X E) (Rv X.K) p (match arW n fn [.loc p.h.length] (p.h++[.ins c [] []]) with
  |.ok .non h'=>.ok (.loc p.h.length) h'
  |_=>.bad) Q:=h
 by_cases z:([W.loc p.h.length]:List W).length=n
 ·rw[ue z] at h1
  refine⟨Wo.add ⟨p.mu,p.h,upd p.H dx (.own x)⟩ x (.ins c [] []) (.ins C dx []),[.loc p.h.length],rfl,z,N2,?_,?_⟩
  ·exact Rvs.cons Rv.addLocI Rvs.nil
  ·show Ps ⟨X.K,X.mg,E⟩ (Rv X.K) _ (fn [.loc p.h.length] (p.h++[.ins c [] []])) _
   cases ef:fn [.loc p.h.length] (p.h++[.ins c [] []]) with
   |ok a h'=>
    rw[ef] at h1
    cases a with
    |non=>
     intro p' b hp X3 R3 rb
     refine⟨rv_non.mp rb,Ps.at (p:=p') h1 hp ((X1.trans X2).trans X3) R3 ?_⟩
     have lt:p.h.length<(Wo.add ⟨p.mu,p.h,upd p.H dx (.own x)⟩ x (.ins c [] []) (.ins C dx [])).h.length:=by show _<(p.h++[_]).length;simp
     unfold Rv
     refine⟨Nat.lt_of_lt_of_le lt X3.le,?_⟩
     rw[X3.mu _ lt]
     show V.ref x=V.ref (if p.h.length=p.h.length then x else p.mu p.h.length)
     rw[if_pos rfl]
    |_=>exact h1.elim
   |ex y h'=>rw[ef] at h1;exact h1.elim
   |bad=>rw[ef] at h1;exact h1.elim
 ·have:arW n fn [.loc p.h.length]=no:=if_neg z
  rw[this] at h1
  exact h1.elim
def Crx (X:Cx)(E:XK)(x:Str)(m:Nat)(f:List W->M W):Prop:=bH (CXx X.prog X.w) X E/\ ∃k a d ps,CGx X.prog X.w X.K X.mg X.base k x a d ps m f/\Room k X.A
def Csx (X:Cx)(E:XK)(c x:Str)(m:Nat)(f:List W->M W):Prop:=bH (CXx X.prog X.w) X E/\ ∃C k a d ps,nsIn X.K mainGlobals c=some (some (.ref C))/\Cls X.K C/\CGmx X.prog X.w X.K X.mg X.base k C x a d ps m f/\Room k X.A
theorem crx (hP:bH (CXx X.prog X.w) X E)(h:Cqx X.prog X.w X.K X.mg X.base k x m f)(r:Room k X.A):Crx X E x m f:=⟨hP,h.elim fun a ⟨d,ps,h⟩=>⟨k,a,d,ps,h,r⟩⟩
theorem csx (hP:bH (CXx X.prog X.w) X E)(h:Cqmx X.prog X.w X.K X.mg X.base k C x m f)(n:nsIn X.K mainGlobals c=some (some (.ref C)))(l:Cls X.K C)(r:Room k X.A):Csx X E c x m f:=⟨hP,h.elim fun a ⟨d,ps,h⟩=>⟨C,k,a,d,ps,n,l,h,r⟩⟩
theorem zF (h:Crx X E x m f)(ha:JA X E (e::es) l)(he:(e::es).all nst=true)(hg:Gl X x:=by rfl)(hdb:(x==("__debug__":Str))=false:=by decide):JE X E (.Call (.Name x p) (e::es) [] pos) (mCall (arW m f) l):=by
 obtain⟨hP,_,_,_,_,h,hr⟩:=h
 rw[List.all_cons,Bool.and_eq_true] at he
 exact zC h hP hr ha hg hdb (p8 he.1) (uR he.2)
theorem zw {pl:Sem Bool}(h:Csx X E c x m f)(ho:JE X E o fo)(ha:JA X E (e::es) l)
  (hst:starEach (e::es) X.env=(false,eval e X.env)::starEach es X.env:=by rfl)(hpl:(backTo pos (starEach es X.env)).any (·.1)=false:=by rfl)
  (ht:eval (.Call (.Attribute o x apos) (e::es) [] pos) X.env=(do
   let ov<-eval o X.env
   standAt apos.atName
   let (f,first)<-holding [ov] (getMethod ov x pl)
   callWith pos f first (backTo pos (starEach (e::es) X.env)) (backToKw pos (keywordEach [] X.env))):=by rfl):
  JE X E (.Call (.Attribute o x apos) (e::es) [] pos) (mMet c x m f fo l):=by
 obtain⟨hP,_,_,_,_,_,n,cl,h,hr⟩:=h
 exact u9 n cl h hP hr ho ha hst hpl ht
theorem zq (hX:iz X E)(hc:X.calm=true)(h:Gx X.K X.mg x)(ha:JA X E (a::es) l)(he:(a::es).all nst=true)(hg:Gl X x:=by rfl)(hd:(x==("__debug__":Str))=false:=by decide):JS X E (.Raise (some (.Call (.Name x np) (a::es) [] cpos)) none pos) (bE x l):=by
 obtain⟨C,hm,q⟩:=h
 rw[List.all_cons,Bool.and_eq_true] at he
 exact sC hX hc hm q ha hg (p8 he.1) (uR he.2) hd
theorem ye {pl:Sem Bool}(h:Csx X E c x m f)(ho:JE X E o fo)
  (ht:eval (.Call (.Attribute o x apos) [] [] pos) X.env=(do
   let ov<-eval o X.env
   standAt apos.atName
   let (f,first)<-holding [ov] (getMethod ov x pl)
   callWith pos f first (backTo pos (starEach [] X.env)) (backToKw pos (keywordEach [] X.env))):=by rfl):
  JE X E (.Call (.Attribute o x apos) [] [] pos) (mMet c x m f fo mNil):=by
 obtain⟨hP,_,_,_,_,_,n,cl,h,hr⟩:=h
 exact sH n cl h hP hr ho ht
theorem yd (hP:bH (CXx X.prog X.w) X E)(h:Cqmx X.prog X.w X.K X.mg X.base k C "__init__" m f)(hn:nsIn X.K mainGlobals c=some (some (.ref C)))(hk:makesIn X.K C=true)(kc:keepIn X.K (.ref C)=true)(hm:X.mg c=some (.ref C))(hr:Room (k+1) X.A)(hg:Gl X c:=by rfl)(hdb:(c==("__debug__":Str))=false:=by decide):JE X E (.Call (.Name c p) [] [] pos) (mMake c m f mNil):=by
 obtain⟨_,_,_,h⟩:=h
 exact qt ⟨hk,h.me.at_,h.me.fn,kc⟩ hn h.ok hP h.bi hr hm hg hdb
end
section
section
variable {X:Cx}{E:XK}{o i e value:Expr}{p pos apos cpos tpos:Pos}{fo fi fv:Env'->M W}{l:Env'->M (List W)}
end
section
variable {X:Cx}{E:XK}{tg iter elt:Expr}{ifs:List Expr}{pos:Pos}{ls ls0:List Str}{scope scope0:Scope}{C0:Addr}{s0:Shared}{H0:Hp}{fp0:List Addr}{gT:TG}{t:W->Env'->Option Env'}{src:Env'->M Sr}{f:Env'->M Bool}{e:Env'->M W}{hs:List Nat}{wh:Prop}
end
section
variable (P:Program)(w:World)(K:PySem.W.Frag)(mg:Str->Option Value)(x:Str)
noncomputable def Gc:Prop:= ∃C,nsIn K mainGlobals x=some (some (.ref C))/\mg x=some (.ref C)
noncomputable def Ge (raised:List Str):Prop:= ∃C,mg x=some (.ref C)/\ ∀c∈raised,ExF K mg C c
end
section
variable {K:PySem.W.Frag}{mg:Str->Option Value}{x c:Str}{C CF:Addr}{h:Heap}
theorem gx (X:K.In h)(G:h.Ns mainGlobals mg)(a:nsIn K mainGlobals x=some (some (.ref C)))(q:excIn K C bmVal "ValueError.__new__"=true):Gx K mg x:=⟨C,mg_of X G a,q⟩
theorem gcl (X:K.In h)(G:h.Ns mainGlobals mg)(a:nsIn K mainGlobals x=some (some (.ref C))):Gc K mg x:=⟨C,a,mg_of X G a⟩
theorem fm_nil {α:Type}{P:α->Prop}: ∀x∈([]:List α),P x:=fun _ h=>nomatch h
theorem fm_cons {α:Type}{P:α->Prop}{a:α}{l:List α}(h:P a)(t:∀x∈l,P x): ∀x∈a::l,P x:=fun x hx=>by
 rcases List.mem_cons.mp hx with rfl|hx
 ·exact h
 ·exact t x hx
theorem ge {raised:List Str}(X:K.In h)(G:h.Ns mainGlobals mg)(a:nsIn K mainGlobals x=some (some (.ref CF)))(f:∀c∈raised,ExF K mg CF c):Ge K mg x raised:=⟨CF,mg_of X G a,f⟩
theorem exf {D1 D2 D3 D4 D5 D6 D7 D8 D9 D10 D11 D12:Addr}(X:K.In h)(G:h.Ns mainGlobals mg)(a:nsIn K mainGlobals c=some (some (.ref C)))
  (n1:nsIn K mainGlobals "TooLong"=some (some (.ref D1)))(n2:nsIn K mainGlobals "NoRow"=some (some (.ref D2)))(n3:nsIn K mainGlobals "NoPlace"=some (some (.ref D3)))(n4:nsIn K mainGlobals "Twice"=some (some (.ref D4)))(n5:nsIn K mainGlobals "Full"=some (some (.ref D5)))(n6:nsIn K mainGlobals "NoBox"=some (some (.ref D6)))(n7:nsIn K mainGlobals "Open"=some (some (.ref D7)))(n8:nsIn K mainGlobals "NoBlock"=some (some (.ref D8)))(n9:nsIn K mainGlobals "NoForm"=some (some (.ref D9)))(n10:nsIn K mainGlobals "NoneYet"=some (some (.ref D10)))(n11:nsIn K mainGlobals "NoOrder"=some (some (.ref D11)))(n12:nsIn K mainGlobals "NoWay"=some (some (.ref D12)))
  (ga:PySem.W.findIn K (.ref C) "__getattribute__"=some (some (.builtin "BaseException.__getattribute__")))(gn:PySem.W.findIn K (.ref C) "__getattr__"=some none)(cl:PySem.W.findIn K (.ref C) "__class__"=some (some (.builtin "object.__class__")))
  (sb:PySem.W.subIn K (.ref C) (.type "BaseException")=some true)(so:PySem.W.subIn K (.ref C) (.type "object")=some true)(ic:(PySem.W.clsIn K C).isSome=true)(xm:PySem.W.exmOne K (.ref C) (.ref CF)=some true)
  (kv:kitOne K (.ref C) (.type "ValueError")=some true)
  (t1:kitOne K (.ref C) (.ref D1)=some (decide (c= "TooLong")))(t2:kitOne K (.ref C) (.ref D2)=some (decide (c= "NoRow")))(t3:kitOne K (.ref C) (.ref D3)=some (decide (c= "NoPlace")))(t4:kitOne K (.ref C) (.ref D4)=some (decide (c= "Twice")))(t5:kitOne K (.ref C) (.ref D5)=some (decide (c= "Full")))(t6:kitOne K (.ref C) (.ref D6)=some (decide (c= "NoBox")))(t7:kitOne K (.ref C) (.ref D7)=some (decide (c= "Open")))(t8:kitOne K (.ref C) (.ref D8)=some (decide (c= "NoBlock")))(t9:kitOne K (.ref C) (.ref D9)=some (decide (c= "NoForm")))(t10:kitOne K (.ref C) (.ref D10)=some (decide (c= "NoneYet")))(t11:kitOne K (.ref C) (.ref D11)=some (decide (c= "NoOrder")))(t12:kitOne K (.ref C) (.ref D12)=some (decide (c= "NoWay"))):ExF K mg CF c:=by
 refine⟨C,a,mg_of X G a,⟨ga,gn,cl,sb,so,ic⟩,xm,fun d D hd hn=>?_,kv⟩
 unfold cls12 at hd
 simp only[List.mem_cons,List.not_mem_nil,or_false] at hd
 rcases hd with rfl|rfl|rfl|rfl|rfl|rfl|rfl|rfl|rfl|rfl|rfl|rfl
 ·rw[n1] at hn;cases hn;exact t1
 ·rw[n2] at hn;cases hn;exact t2
 ·rw[n3] at hn;cases hn;exact t3
 ·rw[n4] at hn;cases hn;exact t4
 ·rw[n5] at hn;cases hn;exact t5
 ·rw[n6] at hn;cases hn;exact t6
 ·rw[n7] at hn;cases hn;exact t7
 ·rw[n8] at hn;cases hn;exact t8
 ·rw[n9] at hn;cases hn;exact t9
 ·rw[n10] at hn;cases hn;exact t10
 ·rw[n11] at hn;cases hn;exact t11
 ·rw[n12] at hn;cases hn;exact t12
end
end
end L2
namespace Wd
open PySem L2
noncomputable def LET:Str:= "abcdefghijklmnopqrstuvwxyz"
noncomputable def FIG:Str:= "0123456789"
def isLet (c:Nat):Bool:=decide (c∈LET.cps.toList)
def isFig (c:Nat):Bool:=decide (c∈FIG.cps.toList)
def isAN (c:Nat):Bool:=decide (c∈(LET++FIG).cps.toList)
theorem sL:LET.cps.toList=List.range' 97 26:=by decide+kernel
theorem tH:FIG.cps.toList=List.range' 48 10:=by decide+kernel
theorem isLet_iff {c:Nat}:isLet c=true↔97<=c/\c<=122:=by
 unfold isLet
 rw[decide_eq_true_eq,sL,List.mem_range'_1]
 omega
theorem isFig_iff {c:Nat}:isFig c=true↔48<=c/\c<=57:=by
 unfold isFig
 rw[decide_eq_true_eq,tH,List.mem_range'_1]
 omega
def taken:List Str:=["box", "block", "put", "say", "ask", "go", "if", "else", "table", "stop"]
def ak (w:Str):Bool:=decide (1<=w.length/\w.length<=8) && (w.cps.toList.all isLet && !decide (w∈taken))
def numOk (w:Str):Bool:=decide (1<=w.length/\w.length<=3) && (!(decide (w.cps.toList.head?=some 48) && !decide (w= "0")) && w.cps.toList.all isFig)
noncomputable def dO (w:Str):Int:=((PySem.NumText.digitsVal w.cps.toList:Nat):Int)
inductive Exp where
 |num (n:Int)
 |box (x:Str)
 |bin (s:Str)(l r:Exp)
 deriving DecidableEq
def leafP (l:List Nat):Option (Exp×List Nat):=
 if ak ⟨(l.takeWhile isAN).toArray⟩=true then some (.box ⟨(l.takeWhile isAN).toArray⟩,l.dropWhile isAN)
 else if numOk ⟨(l.takeWhile isAN).toArray⟩=true then some (.num (dO ⟨(l.takeWhile isAN).toArray⟩),l.dropWhile isAN) else none
noncomputable def chain (f:List Nat->Option (Exp×List Nat))(ops:List Nat):Nat->Exp->List Nat->Option (Exp×List Nat)
 |0,e,l=>some (e,l)
 |_+1,e,[]=>some (e,[])
 |n+1,e,c::r=>if c∈ops then (match f r with
   |none=>none
   |some (e2,r2)=>chain f ops n (.bin ⟨#[c]⟩ e e2) r2) else some (e,c::r)
def parts (f:List Nat->Option (Exp×List Nat))(ops:List Nat)(l:List Nat):Option (Exp×List Nat):=match f l with
 |none=>none
 |some (e,r)=>chain f ops r.length e r
noncomputable def opsF:List Nat:=[42]
noncomputable def opsT:List Nat:=[43,45]
noncomputable def cC (f:List Nat->Option (Exp×List Nat))(r:List Nat):Option (Exp×List Nat):=match f r with
 |some (e,41::r2)=>some (e,r2)
 |_=>none
def bt:Nat->List Nat->Option (Exp×List Nat)
 |0,l=>if l.head?=some 40 then none else leafP l
 |m+1,l=>if l.head?=some 40 then cC (parts (parts (bt m) opsF) opsT) l.tail else leafP l
def bD (m:Nat):List Nat->Option (Exp×List Nat):=parts (bt m) opsF
def eQ (m:Nat):List Nat->Option (Exp×List Nat):=parts (bD m) opsT
def exprP (w:Str):Option Exp:=if w.length>60 then none else match eQ 5 w.cps.toList with
 |some (e,[])=>some e
 |_=>none
noncomputable def Suf (f:List Nat->Option (Exp×List Nat)):Prop:= ∀l e r,f l=some (e,r)->r<:+l
theorem lW:Suf leafP:=fun l e r h=>by
 unfold leafP at h
 split at h
 ·cases h;exact List.dropWhile_suffix _
 ·split at h
  ·cases h;exact List.dropWhile_suffix _
  ·cases h
theorem j7 {f:List Nat->Option (Exp×List Nat)}{ops:List Nat}(hf:Suf f): ∀ (n:Nat) (e:Exp) (l:List Nat) (e':Exp) (r:List Nat),chain f ops n e l=some (e',r)->r<:+l
 |0,e,l,e',r,h=>by cases h;exact List.suffix_refl _
 |_+1,e,[],e',r,h=>by cases h;exact List.suffix_refl _
 |n+1,e,c::l,e',r,h=>by
  unfold chain at h
  split at h
  ·split at h
   ·cases h
   ·rename_i e2 r2 hf2
    exact (j7 hf n _ r2 e' r h).trans ((hf l e2 r2 hf2).trans (List.suffix_cons c l))
  ·cases h;exact List.suffix_refl _
theorem gH {f:List Nat->Option (Exp×List Nat)}{ops:List Nat}(hf:Suf f):Suf (parts f ops):=fun l e r h=>by
 unfold parts at h
 split at h
 ·cases h
 ·rename_i e1 r1 h1
  exact (j7 hf _ _ _ _ _ h).trans (hf l e1 r1 h1)
theorem lX {f:List Nat->Option (Exp×List Nat)}(hf:Suf f):Suf (cC f):=fun l e r h=>by
 unfold cC at h
 split at h
 ·rename_i e1 r1 h1
  cases h
  exact (List.suffix_cons 41 r).trans (hf l e _ h1)
 ·cases h
theorem gU: ∀m,Suf (bt m)
 |0=>fun l e r h=>by
  unfold bt at h
  split at h
  ·cases h
  ·exact lW l e r h
 |m+1=>fun l e r h=>by
  unfold bt at h
  split at h
  ·exact (lX (gH (gH (gU m))) _ e r h).trans (List.tail_suffix l)
  ·exact lW l e r h
theorem iM (m:Nat):Suf (bD m):=gH (gU m)
theorem j6 (m:Nat):Suf (eQ m):=gH (iM m)
theorem rh {w l r:List Nat}{p:Nat}(hl:l=w.drop p)(h:r<:+l):r=w.drop (w.length - r.length)/\r.length<=l.length:=by
 subst hl
 refine⟨List.suffix_iff_eq_drop.mp (h.trans (List.drop_suffix p w)),h.length_le⟩
end Wd
namespace Q
open PySem L2
noncomputable def top (i:Nat):Stmt:=PySem.Challenge.pw_blockfall_k09_faults_together.main.body.getD i (.Pass ⟨0,0,0,0⟩)
noncomputable abbrev iU:Stmt:=top 23
noncomputable abbrev kO:Stmt:=top 24
noncomputable abbrev sExpr:Stmt:=top 26
noncomputable abbrev kN:Stmt:=top 27
noncomputable abbrev hW:Stmt:=top 28
noncomputable abbrev iV:Stmt:=top 29
noncomputable abbrev gv:Stmt:=top 30
noncomputable abbrev nT:Stmt:=bV (top 25) 0
noncomputable abbrev nU:Stmt:=bV (top 25) 1
noncomputable abbrev ji:Stmt:=bV (top 25) 2
noncomputable abbrev nS:Stmt:=bV (top 25) 3
noncomputable abbrev sSRun:Stmt:=bV (top 25) 4
end Q
namespace Q
open PySem L2 Wd
def takenV:List V:=taken.map V.str
structure Txt (K:PySem.W.Frag)(mg:Str->Option Value)(CS CN:Addr):Prop where
 cl:Cls K CS
 nw:NoAttr K CS "word"
 np:NoAttr K CS "place"
 mgS:mg "Signs"=some (.ref CS)
 mgN:mg "NoRow"=some (.ref CN)
 exN:excIn K CN bmVal "ValueError.__new__"=true
 len:mg "len"=none
 all:mg "all"=none
 int:mg "int"=none
 let_: ∃t,mg "LETTERS"=some (.str LET t)
 fig: ∃t,mg "FIGURES"=some (.str FIG t)
 tak: ∃a,mg "TAKEN_WORDS"=some (.ref a)/\ ∀H:Hp,SqT K H a takenV
 n8: ∃t,mg "LONGEST_NAME"=some (.int 8 t)
 n3: ∃t,mg "LONGEST_NUMBER"=some (.int 3 t)
 n60: ∃t,mg "LONGEST_EXPRESSION"=some (.int 60 t)
 n5: ∃t,mg "DEEPEST_BRACKET"=some (.int 5 t)
theorem cV {H:Hp}{p:Addr}(h:H p=none)(o:HO):Same H (upd H p o):=fun b u q=>by rw[aC (a7 q h)];exact q
theorem small {n:Nat}(h:n<=1000):n<=sizeLine:=Nat.le_of_lt (iC h)
theorem iA {α:Type}{l:List α}{i:Nat}{x:α}(h:l[i]?=some x):l.take (i+1)=l.take i++[x]:=by
 obtain⟨hi,e⟩:=List.getElem?_eq_some_iff.mp h
 rw[List.take_succ,h]
 rfl
theorem yQ {α:Type}{xs:List α}{i:Int}{v:α}(h0:0<=i)(h:xs[i.toNat]?=some v):atI xs i=some v:=by
 have q:=iw h
 have e:((i.toNat:Nat):Int)=i:=by omega
 rw[e] at q;exact q
theorem bh (w:Str):w.cps.toList.length=w.length:=by simp [Str.length]
theorem yesT {σ:St}{H:Hp}{A B:Hp->Prop}(h:A H):tYes σ H (fun b H3=>if b=true then A H3 else B H3):=by
 show if true=true then A H else B H
 rw[if_pos rfl];exact h
section
variable {P:Program}{w:World}{K:PySem.W.Frag}{mg:Str->Option Value}{base:Heap}{f CS CN:Addr}{fd:FuncData}
def jc:Sp:=fun vs H Q _=> ∃z:Str,vs=[.str z]/\z.length<=sizeLine/\ ∀H',Same H H'->Q (.bl (ak z)) H'
theorem wO:FnScope ["word"] ["word"] (ae iU):=⟨rfl,rfl,rfl,by decide+kernel,rfl,by decide+kernel,by decide+kernel⟩
theorem sm:((["sign", ".0"]:List Str)++(["word"]:List Str).map (hid ["sign", ".0"])).Nodup:=by decide+kernel
theorem qF (z:Str):inV (.str z) takenV=decide (z∈taken):=by
 unfold inV takenV
 rw[Bool.eq_iff_iff,List.any_eq_true,decide_eq_true_eq]
 constructor
 ·rintro⟨v,hv,h⟩
  obtain⟨y,hy,rfl⟩:=List.mem_map.mp hv
  have:y=z:=by simpa [eqV] using h
  subst this;exact hy
 ·intro h
  exact⟨.str z,List.mem_map.mpr ⟨z,h,rfl⟩,by simp [eqV]⟩
theorem oG:takenV.all flatV=true:=by decide+kernel
theorem uM (F:Fun K "is_name" "is_name" iU f fd)(T:Txt K mg CS CN):FnOk P w K mg base CX0 1 f fd ["word"] jc:=by
 refine F.ok wO (fun vs H Q E h=>?_) (fun cdv A outer s H vs Q E hr h=>?_)
 ·obtain⟨z,rfl,_⟩:=h
  rfl
 obtain⟨z,rfl,hz,q⟩:=h
 obtain⟨t8,h8⟩:=T.n8
 obtain⟨tL,hL⟩:=T.let_
 obtain⟨aT,hT,sT⟩:=T.tak
 refine⟨_,aB (f9 (PW.pt (rF (dt rY (cW call_len_str rfl T.len PySem.boot_len (ar (pv 0) pa_nil)) pe_int (eD _))
   (nY (dt kj (cW call_len_str rfl T.len PySem.boot_len (ar (pv 0) pa_nil)) (cN (v:=.int 8) rfl h8 ⟨_,rfl⟩) (eD _))))) (aK (cn pe_bl)) pss_nil)
  (aK (cn (rT (cW (nz rfl) rfl T.all PyProof.Rows.boot_all (ar (kW (ls:=["sign", ".0"]) rfl (.of (ae iU)) (rN (pv 0)) (fun _ _ _ _=>cE (i:=0) sm rfl (Or.inl rfl) (.inr rfl)) (fun _ _ _ _=>kU)
      (fun _ _ _ _=>gI op_in_str (pv 0) (cN (v:=.str LET) rfl hL ⟨_,rfl⟩) (by with_unfolding_all rfl))) pa_nil))
   (rO (gI op_notIn_seq (pv 0) (cN (v:=.ref aT) rfl hT rfl) (by with_unfolding_all rfl)))))),?_⟩
 refine⟨_,rfl,z,rfl,hz,_,_,rfl,rfl,_,rfl,?_⟩
 have no: ¬(1<=z.length/\z.length<=8)->ak z=false:=fun h=>by unfold ak;rw[decide_eq_false h];rfl
 refine ite2 (fun c=>?_) (fun c=>?_)
 ·have c1:(z.length:Int)<1:=of_decide_eq_true c
  refine iteT ?_
  have:=q H (Same.refl _)
  rw[no (by omega)] at this
  exact this
 ·have c1: ¬(z.length:Int)<1:=of_decide_eq_false (Bool.eq_false_iff.mpr c)
  refine⟨_,rfl,z,rfl,hz,_,_,rfl,rfl,_,rfl,?_⟩
  refine ite2 (fun c=>?_) (fun c=>?_)
  ·have c2:(z.length:Int)>8:=of_decide_eq_true c
   have:=q H (Same.refl _)
   rw[no (by omega)] at this
   exact this
  ·have c2: ¬(z.length:Int)>8:=of_decide_eq_false (Bool.eq_false_iff.mpr c)
   have yes:ak z=(z.cps.toList.all isLet && !decide (z∈taken)):=by
    unfold ak
    rw[decide_eq_true (by omega:1<=z.length/\z.length<=8)];rfl
   refine⟨rfl,_,rfl,z,rfl,nk (fun i ys H'=>H'=H/\ys=((z.cps.toList.take i).map isLet).map V.bl) ⟨rfl,rfl⟩ ?_ ?_⟩
   ·rintro i c0 ys H' hc ⟨rfl,rfl⟩
    refine⟨rfl,rfl,yesT ?_⟩
    refine⟨_,rfl,_,_,rfl,rfl,?_,rfl,?_⟩
    ·rw[List.length_map,List.length_map,List.length_take]
     exact iC (by rw[bh];omega)
    ·rw[iA hc,List.map_append,List.map_append,oC];rfl
   ·rintro ys H' ⟨rfl,rfl⟩ D hD
    refine⟨D,(z.cps.toList.take z.cps.size).map isLet,rfl,SqL.of aM,_,rfl,?_⟩
    have ea:((z.cps.toList.take z.cps.size).map isLet).all id=z.cps.toList.all isLet:=by
     have:z.cps.size=z.cps.toList.length:=by simp
     rw[this,List.take_length,List.all_map];rfl
    rw[ea]
    cases hb:z.cps.toList.all isLet with
    |false=>
     refine iteF ?_
     have this: ∀L,Q _ (upd H' D (.lst L)):=fun L=>q _ (cV hD _)
     rw[yes,hb] at this
     exact this _
    |true=>
     refine iteT ⟨_,rfl,aT,takenV,rfl,.inr (sT _),rfl,oG,?_⟩
     have this: ∀L,Q _ (upd H' D (.lst L)):=fun L=>q _ (cV hD _)
     rw[yes,hb,<-qF] at this
     exact this _
def spNum:Sp:=fun vs H Q _=> ∃z:Str,vs=[.str z]/\z.length<=sizeLine/\ ∀H',Same H H'->Q (.bl (numOk z)) H'
theorem scNum:FnScope ["word"] ["word"] (ae kO):=⟨rfl,rfl,rfl,by decide+kernel,rfl,by decide+kernel,by decide+kernel⟩
theorem xI (F:Fun K "is_number" "is_number" kO f fd)(T:Txt K mg CS CN):FnOk P w K mg base CX0 1 f fd ["word"] spNum:=by
 refine F.ok scNum (fun vs H Q E h=>?_) (fun cdv A outer s H vs Q E hr h=>?_)
 ·obtain⟨z,rfl,_⟩:=h
  rfl
 obtain⟨z,rfl,hz,q⟩:=h
 obtain⟨t3,h3⟩:=T.n3
 obtain⟨tL,hL⟩:=T.fig
 refine⟨_,aB (f9 (PW.pt (rF (dt rY (cW call_len_str rfl T.len PySem.boot_len (ar (pv 0) pa_nil)) pe_int (eD _))
   (nY (dt kj (cW call_len_str rfl T.len PySem.boot_len (ar (pv 0) pa_nil)) (cN (v:=.int 3) rfl h3 ⟨_,rfl⟩) (eD _))))) (aK (cn pe_bl)) pss_nil)
  (aB (f9 (PW.pt (rH (dt op_eq (o5 lw (pv 0) pe_int (fun _ _=>rfl)) pe_str (eD _)) (oZ (dt op_ne (pv 0) pe_str (eD _))))) (aK (cn pe_bl)) pss_nil)
  (aK (cn (cW (nz rfl) rfl T.all PyProof.Rows.boot_all (ar (kW (ls:=["sign", ".0"]) rfl (.of (ae kO)) (rN (pv 0)) (fun _ _ _ _=>cE (i:=0) sm rfl (Or.inl rfl) (.inr rfl)) (fun _ _ _ _=>kU)
      (fun _ _ _ _=>gI op_in_str (pv 0) (cN (v:=.str FIG) rfl hL ⟨_,rfl⟩) (by with_unfolding_all rfl))) pa_nil))))),?_⟩
 refine⟨_,rfl,z,rfl,hz,_,_,rfl,rfl,_,rfl,?_⟩
 have no: ¬(1<=z.length/\z.length<=3)->numOk z=false:=fun h=>by unfold numOk;rw[decide_eq_false h];rfl
 refine ite2 (fun c=>?_) (fun c=>?_)
 ·have c1:(z.length:Int)<1:=of_decide_eq_true c
  refine iteT ?_
  have:=q H (Same.refl _)
  rw[no (by omega)] at this
  exact this
 ·have c1: ¬(z.length:Int)<1:=of_decide_eq_false (Bool.eq_false_iff.mpr c)
  refine⟨_,rfl,z,rfl,hz,_,_,rfl,rfl,_,rfl,?_⟩
  refine ite2 (fun c=>?_) (fun c=>?_)
  ·have c2:(z.length:Int)>3:=of_decide_eq_true c
   have:=q H (Same.refl _)
   rw[no (by omega)] at this
   exact this
  ·have c2: ¬(z.length:Int)>3:=of_decide_eq_false (Bool.eq_false_iff.mpr c)
   have yes:numOk z=(!(decide (z.cps.toList.head?=some 48) && !decide (z= "0")) && z.cps.toList.all isFig):=by
    unfold numOk
    rw[decide_eq_true (by omega:1<=z.length/\z.length<=3)];rfl
   obtain⟨c0,r0,e0⟩: ∃c0 r0,z.cps.toList=c0::r0:=by
    cases h:z.cps.toList with
    |nil=>have:=bh z;rw[h] at this;simp at this;omega
    |cons a b=>exact⟨a,b,rfl⟩
   refine⟨_,rfl,z,0,c0,rfl,rfl,hz,by rw[e0];exact yQ (by decide) rfl,rfl,_,rfl,?_⟩
   have h48:decide (V.str ⟨#[c0]⟩=V.str "0")=decide (z.cps.toList.head?=some 48):=by
    rw[e0,decide_eq_decide]
    constructor
    ·intro h
     have h1:=V.str.inj h
     have h2:(#[c0]:Array Nat)=("0":Str).cps:=congrArg Str.cps h1
     have h3:("0":Str).cps= #[48]:=by decide+kernel
     rw[h3] at h2
     have:c0=48:=by simpa using h2
     subst this;rfl
    ·intro h
     have:c0=48:=by simpa using h
     subst this
     have h3:(⟨#[48]⟩:Str)= "0":=by decide+kernel
     rw[h3]
   have fin:(!(decide (z.cps.toList.head?=some 48) && !decide (z= "0")))=true->tRet (tCB (fun xs H Q=> ∃ (p:Addr) (bs:List Bool),xs=[.ref p]/\SqL K H p (bs.map V.bl)/\Q (.bl (bs.all id)) H) (tCons (tComp ["word"] ["sign", ".0"] (iStr (tVar 0)) (gName 0) tYes (tOp (fun x y H Q=> ∃i j,x=.str i/\y=.str j/\Q (.bl (!(Builtin.Str.occurrences j i 0 j.length 1).isEmpty)) H) (tVar 0) (tC (.str FIG)))) tNil)) {nx:=fun _ H'=>Q .non H',rt:=Q} (start ["word"] [.str z]) H:=by
    intro hb
    refine⟨rfl,_,rfl,z,rfl,nk (fun i ys H'=>H'=H/\ys=((z.cps.toList.take i).map isFig).map V.bl) ⟨rfl,rfl⟩ ?_ ?_⟩
    ·rintro i c0 ys H' hc ⟨rfl,rfl⟩
     refine⟨rfl,rfl,yesT ?_⟩
     refine⟨_,rfl,_,_,rfl,rfl,?_,rfl,?_⟩
     ·rw[List.length_map,List.length_map,List.length_take]
      exact iC (by rw[bh];omega)
     ·rw[iA hc,List.map_append,List.map_append,oC];rfl
    ·rintro ys H' ⟨rfl,rfl⟩ D hD
     refine⟨D,(z.cps.toList.take z.cps.size).map isFig,rfl,SqL.of aM,?_⟩
     have ea:((z.cps.toList.take z.cps.size).map isFig).all id=z.cps.toList.all isFig:=by
      have:z.cps.size=z.cps.toList.length:=by simp
      rw[this,List.take_length,List.all_map];rfl
     rw[ea]
     have this: ∀L,Q _ (upd H' D (.lst L)):=fun L=>q _ (cV hD _)
     rw[yes,hb,Bool.true_and] at this
     exact this _
   rw[h48]
   refine ite2 (fun c=>?_) (fun c=>?_)
   ·refine⟨_,rfl,rfl,_,rfl,?_⟩
    have e2:decide (V.str z=V.str "0")=decide (z= "0"):=by
     rw[decide_eq_decide];exact⟨V.str.inj,congrArg V.str⟩
    rw[e2]
    refine ite2 (fun c2=>?_) (fun c2=>?_)
    ·have:=q H (Same.refl _)
     rw[yes,c,c2] at this
     exact this
    ·exact fin (by rw[c,Bool.eq_false_iff.mpr c2];rfl)
   ·exact fin (by rw[Bool.eq_false_iff.mpr c];rfl)
end
end Q
namespace Q
open PySem L2 Wd
structure CF (P:Program)(w:World)(K:PySem.W.Frag)(mg:Str->Option Value)(base:Heap)(CX:CXT)(k:Nat)(x:Str)(f:Addr)(fd:FuncData)(ps:List Str)(sp:Sp):Prop where
 ok:FnOk P w K mg base CX k f fd ps sp
 bi:Binds K fd ps []
 kp:keepIn K (.ref f)=true
 mg:mg x=some (.ref f)
structure CM (P:Program)(w:World)(K:PySem.W.Frag)(mg:Str->Option Value)(base:Heap)(CX:CXT)(k:Nat)(C:Addr)(m:Str)(f:Addr)(fd:FuncData)(ps:List Str)(sp:Sp):Prop where
 ok:FnOk P w K mg base CX k f fd ps sp
 bi:Binds K fd ps []
 me:Meth K C m f
theorem qS: ¬(("word":Str)= "place"):=by decide+kernel
def flds (z:Str)(p:Int):List (Str×V):=putF "place" (.int p) (putF "word" (.str z) [])
theorem i6 (z:Str)(p:Int):flds z p=([("word",V.str z),("place",V.int p)]:List (Str×V)):=by
 show (if ("word":Str)= "place" then [(("word":Str),V.int p)] else (("word":Str),V.str z)::putF "place" (V.int p) [])=([("word",V.str z),("place",V.int p)]:List (Str×V))
 rw[if_neg qS]
 all_goals rfl
theorem gN (z:Str)(p:Int):(flds z p).lookup ("word":Str)=some (.str z):=by
 unfold flds
 rw[cq,if_neg qS,cq,if_pos rfl]
theorem cQ (z:Str)(p:Int):(flds z p).lookup ("place":Str)=some (.int p):=by
 unfold flds
 rw[cq,if_pos rfl]
theorem cO (z:Str)(p:Int){m:Str}(h1: ¬m= "place")(h2: ¬m= "word"):(flds z p).lookup m=none:=by
 unfold flds
 rw[cq,if_neg h1,cq,if_neg h2]
 all_goals rfl
theorem mW (z:Str)(p y:Int):putF "place" (.int y) (flds z p)=flds z y:=by
 rw[i6,i6]
 show (if ("word":Str)= "place" then _ else (("word":Str),V.str z)::(if ("place":Str)= "place" then [(("place":Str),V.int y)] else _))=([("word",V.str z),("place",V.int y)]:List (Str×V))
 rw[if_neg qS,if_pos rfl]
def SgAt (C:Addr)(H:Hp)(a:Addr)(z:Str)(p:Nat):Prop:=z.length<=sizeLine/\p<=z.length/\ ∃dx,H a=some (.ins C dx (flds z (p:Int)))
def Moved (H H':Hp)(a:Addr):Prop:= ∀b o,b≠a->H b=some o->H' b=some o
theorem Moved.refl (H:Hp)(a:Addr):Moved H H a:=fun _ _ _ h=>h
theorem Moved.trans {H H1 H2:Hp}{a:Addr}(x:Moved H H1 a)(y:Moved H1 H2 a):Moved H H2 a:=fun b o hb h=>y b o hb (x b o hb h)
theorem Moved.same {H H1:Hp}{a:Addr}(x:Same H H1):Moved H H1 a:=fun b o _ h=>x b o h
theorem gJ {H:Hp}{a:Addr}(o:HO):Moved H (upd H a o) a:=fun b u hb h=>by rw[aC hb];exact h
theorem SgAt.same {C:Addr}{H H':Hp}{a:Addr}{z:Str}{p:Nat}(g:Same H H')(h:SgAt C H a z p):SgAt C H' a z p:=let ⟨h1,h2,dx,e⟩:=h;⟨h1,h2,dx,g _ _ e⟩
noncomputable def cK (z:Str)(p:Nat)(y:Str):Bool:=match z.cps.toList.drop p with
 |[]=>false
 |c::_=>decide (c∈y.cps.toList)
section
variable {P:Program}{w:World}{K:PySem.W.Frag}{mg:Str->Option Value}{base:Heap}{f CS CN fD fS:Addr}{fd fdD fdS:FuncData}
def oV (C:Addr):Sp:=fun vs H Q _=> ∃ (a dx:Addr) (z:Str),vs=[.ref a,.str z]/\H a=some (.ins C dx [])/\z.length<=sizeLine/\ ∀H',Moved H H' a->SgAt C H' a z 0->Q .non H'
theorem ut:FnScope ["self", "word"] ["self", "word"] (ae nT):=⟨rfl,rfl,rfl,by decide+kernel,rfl,by decide+kernel,by decide+kernel⟩
theorem sd (F:Fun K "__init__" "Signs.__init__" nT f fd)(T:Txt K mg CS CN):FnOk P w K mg base CX0 1 f fd ["self", "word"] (oV CS):=by
 refine F.ok ut (fun vs H Q E h=>?_) (fun cdv A outer s H vs Q E hr h=>?_)
 ·obtain⟨a,dx,z,rfl,_⟩:=h
  rfl
 obtain⟨a,dx,z,rfl,hp,hz,k⟩:=h
 refine⟨_,aB (oh (pv 0) (pv 1) rfl) (aK (oh (pv 0) pe_int rfl)),?_⟩
 refine⟨_,rfl,_,rfl,a,CS,dx,[],rfl,hp,T.cl,T.nw,(by show 0<1000;decide),_,rfl,a,CS,dx,_,rfl,aM,T.cl,T.np,(by show 1<1000;decide),?_⟩
 exact k _ ((gJ _).trans (gJ _)) ⟨hz,Nat.zero_le _,dx,aM⟩
def kK (C:Addr):Sp:=fun vs H Q _=> ∃ (a:Addr) (z:Str) (p:Nat),vs=[.ref a]/\SgAt C H a z p/\Q (.bl (decide (p=z.length))) H
theorem wP:FnScope ["self"] ["self"] (ae nU):=⟨rfl,rfl,rfl,by decide+kernel,rfl,by decide+kernel,by decide+kernel⟩
theorem uP (F:Fun K "is_done" "Signs.is_done" nU f fd)(T:Txt K mg CS CN):FnOk P w K mg base CX0 1 f fd ["self"] (kK CS):=by
 refine F.ok wP (fun vs H Q E h=>?_) (fun cdv A outer s H vs Q E hr h=>?_)
 ·obtain⟨a,z,p,rfl,_⟩:=h
  rfl
 obtain⟨a,z,p,rfl,⟨hz,hp,dx,ha⟩,k⟩:=h
 refine⟨_,aK (cn (gI op_eq (eR (pv 0) rfl) (cW call_len_str rfl T.len PySem.boot_len (ar (eR (pv 0) rfl) pa_nil)) (eD _))),?_⟩
 refine⟨_,rfl,a,CS,dx,_,_,rfl,ha,T.cl,T.np,cQ _ _,_,rfl,a,CS,dx,_,_,rfl,ha,T.cl,T.nw,gN _ _,z,rfl,hz,rfl,?_⟩
 have e:decide (V.int (p:Int)=V.int (z.length:Int))=decide (p=z.length):=by
  rw[decide_eq_decide]
  exact⟨fun h=>by have:=V.int.inj h;omega,fun h=>by rw[h]⟩
 show Q (.bl (decide (V.int (p:Int)=V.int (z.length:Int)))) H
 rw[e]
 exact k
def dC (C:Addr):Sp:=fun vs H Q _=> ∃ (a:Addr) (z:Str) (p:Nat) (y:Str),vs=[.ref a,.str y]/\SgAt C H a z p/\Q (.bl (cK z p y)) H
theorem rA:FnScope ["self", "wanted"] ["self", "wanted"] (ae ji):=⟨rfl,rfl,rfl,by decide+kernel,rfl,by decide+kernel,by decide+kernel⟩
theorem vY {z:Str}{p:Nat}(h:p<z.length): ∃c,z.cps.toList[p]?=some c/\z.cps.toList.drop p=c::z.cps.toList.drop (p+1):=by
 have hl:p<z.cps.toList.length:=by rw[bh];exact h
 exact⟨z.cps.toList[p],List.getElem?_eq_getElem hl,List.drop_eq_getElem_cons hl⟩
theorem qo (F:Fun K "stands_one_of" "Signs.stands_one_of" ji f fd)(T:Txt K mg CS CN)(M:CM P w K mg base CX0 1 CS "is_done" fD fdD ["self"] (kK CS)):FnOk P w K mg base CX0 2 f fd ["self", "wanted"] (dC CS):=by
 refine F.ok rA (fun vs H Q E h=>?_) (fun cdv A outer s H vs Q E hr h=>?_)
 ·obtain⟨a,z,p,y,rfl,_⟩:=h
  rfl
 obtain⟨a,z,p,y,rfl,S,k⟩:=h
 obtain⟨hz,hp,dx,ha⟩:=id S
 refine⟨_,aK (cn (rT (rP (eB (pv 0) T.cl M.me M.ok hr M.bi .nil pass0)) (rO (gI op_in_str (o5 lw (eR (pv 0) rfl) (eR (pv 0) rfl) (fun _ _=>rfl)) (pv 1) (by with_unfolding_all rfl))))),?_⟩
 refine⟨_,rfl,a,dx,_,rfl,ha,cO _ _ (by decide+kernel) (by decide+kernel),a,z,p,rfl,S,_,rfl,_,rfl,?_⟩
 by_cases hd:p=z.length
 ·rw[decide_eq_true hd]
  refine iteF ?_
  have e:cK z p y=false:=by
   unfold cK
   rw[List.drop_eq_nil_of_le (by rw[bh];omega)]
  rw[e] at k
  exact k
 ·rw[decide_eq_false hd]
  obtain⟨c,hc,hdr⟩:=vY (z:=z) (p:=p) (by omega)
  refine iteT ⟨_,rfl,a,CS,dx,_,_,rfl,ha,T.cl,T.nw,gN _ _,_,rfl,a,CS,dx,_,_,rfl,ha,T.cl,T.np,cQ _ _,z,(p:Int),c,rfl,rfl,hz,iw hc,_,rfl,_,_,rfl,rfl,?_⟩
  have e:cK z p y=decide (c∈y.cps.toList):=by
   unfold cK
   rw[hdr]
  rw[e] at k
  rw[oC]
  exact k
def iB (C:Addr):Sp:=fun vs H Q _=> ∃ (a:Addr) (z:Str) (p:Nat) (c:Nat),vs=[.ref a]/\SgAt C H a z p/\z.cps.toList[p]?=some c/\ ∀H',Moved H H' a->SgAt C H' a z (p+1)->Q (.str ⟨#[c]⟩) H'
theorem scTake:FnScope ["self", "sign"] ["self"] (ae nS):=⟨rfl,rfl,rfl,by decide+kernel,rfl,by decide+kernel,by decide+kernel⟩
theorem ii {z:Str}{p c:Nat}(h:z.cps.toList[p]?=some c):p<z.length:=by rw[<-bh];exact (List.getElem?_eq_some_iff.mp h).1
theorem uL (F:Fun K "take_sign" "Signs.take_sign" nS f fd)(T:Txt K mg CS CN):FnOk P w K mg base CX0 1 f fd ["self"] (iB CS):=by
 refine F.ok scTake (fun vs H Q E h=>?_) (fun cdv A outer s H vs Q E hr h=>?_)
 ·obtain⟨a,z,p,c,rfl,_⟩:=h
  rfl
 obtain⟨a,z,p,c,rfl,⟨hz,hp,dx,ha⟩,hc,k⟩:=h
 refine⟨_,aB (dh (i:=1) scTake.nd rfl (Or.inl rfl) (o5 lw (eR (pv 0) rfl) (eR (pv 0) rfl) (fun _ _=>rfl))) (aB (kf (pv 0) pe_int sU) (aK (cn (pv 1)))),?_⟩
 refine⟨_,rfl,a,CS,dx,_,_,rfl,ha,T.cl,T.nw,gN _ _,_,rfl,a,CS,dx,_,_,rfl,ha,T.cl,T.np,cQ _ _,z,(p:Int),c,rfl,rfl,hz,iw hc,?_⟩
 refine⟨_,rfl,a,CS,dx,_,_,rfl,ha,T.cl,T.np,cQ _ _,_,_,rfl,rfl,dx,_,ha,(by rw[i6];show 2<1000;decide),_,rfl,?_⟩
 refine k _ (gJ _) ⟨hz,ii hc,dx,?_⟩
 rw[aM,mW]
 rfl
def spRun (C:Addr):Sp:=fun vs H Q _=> ∃ (a:Addr) (z:Str) (p:Nat) (y:Str),vs=[.ref a,.str y]/\SgAt C H a z p/\
 ∀H',Moved H H' a->SgAt C H' a z (p+((z.cps.toList.drop p).takeWhile fun c=>decide (c∈y.cps.toList)).length)->Q (.str ⟨((z.cps.toList.drop p).takeWhile fun c=>decide (c∈y.cps.toList)).toArray⟩) H'
theorem scRun:FnScope ["self", "wanted", "begin"] ["self", "wanted"] (ae sSRun):=⟨rfl,rfl,rfl,by decide+kernel,rfl,by decide+kernel,by decide+kernel⟩
theorem xH (F:Fun K "run_of" "Signs.run_of" sSRun f fd)(T:Txt K mg CS CN)(M:CM P w K mg base CX0 2 CS "stands_one_of" fS fdS ["self", "wanted"] (dC CS)):FnOk P w K mg base CX0 3 f fd ["self", "wanted"] (spRun CS):=by
 refine F.ok scRun (fun vs H Q E h=>?_) (fun cdv A outer s H vs Q E hr h=>?_)
 ·obtain⟨a,z,p,y,rfl,_⟩:=h
  rfl
 obtain⟨a,z,p,y,rfl,S,k⟩:=h
 obtain⟨hz,hp,dx,ha⟩:=id S
 refine⟨_,aB (dh (i:=2) scRun.nd rfl (Or.inl rfl) (eR (pv 0) rfl))
  (aB (jk PassesOwn.never (ft (fu (pv 0) T.cl M.me M.ok hr M.bi .nil pass0 (ar (pv 1) pa_nil))) (aK (kf (pv 0) pe_int sU)))
  (aK (cn (mi sl_str (eR (pv 0) rfl) (kT (pv 2)) (kT (eR (pv 0) rfl)))))),?_⟩
 refine⟨_,rfl,a,CS,dx,_,_,rfl,ha,T.cl,T.np,cQ _ _,?_⟩
 refine⟨fun m σ H'=> ∃j,σ=[some (.ref a),some (.str y),some (.int (p:Int))]/\Moved H H' a/\SgAt CS H' a z (p+j)/\m=z.length - (p+j)/\
  (z.cps.toList.drop p).takeWhile (fun c=>decide (c∈y.cps.toList))=(z.cps.toList.drop p).take j++(z.cps.toList.drop (p+j)).takeWhile (fun c=>decide (c∈y.cps.toList))/\j<=(z.cps.toList.drop p).length,⟨_,0,rfl,Moved.refl _ _,S,rfl,by simp,Nat.zero_le _⟩,?_⟩
 rintro m σ H' ⟨j,rfl,mv,S',rfl,tw,jl⟩
 obtain⟨hz',hp',dx',ha'⟩:=id S'
 refine⟨_,rfl,a,dx',_,rfl,ha',cO _ _ (by decide+kernel) (by decide+kernel),_,rfl,a,z,p+j,y,rfl,S',_,rfl,?_⟩
 refine ite2 (fun c=>?_) (fun c=>?_)
 ·have lt:p+j<z.length:=by
   rcases Nat.lt_or_ge (p+j) z.length with h|h
   ·exact h
   ·unfold cK at c
    rw[List.drop_eq_nil_of_le (by rw[bh];exact h)] at c
    cases c
  obtain⟨c0,hc0,hdr⟩:=vY lt
  have cw:decide (c0∈y.cps.toList)=true:=by
   unfold cK at c
   rw[hdr] at c
   exact c
  refine⟨_,fun σ' H'' h=>h,⟨_,rfl,a,CS,dx',_,_,rfl,ha',T.cl,T.np,cQ _ _,_,_,rfl,rfl,dx',_,ha',(by rw[i6];show 2<1000;decide),?_⟩⟩
  refine⟨z.length - (p+(j+1)),by omega,j+1,rfl,mv.trans (gJ _),⟨hz,by omega,dx',?_⟩,rfl,?_,?_⟩
  ·rw[aM,mW]
   show some (HO.ins CS dx' (flds z (((p+j:Nat):Int)+1)))=some (HO.ins CS dx' (flds z ((p+(j+1):Nat):Int)))
   have:((p+j:Nat):Int)+1=((p+(j+1):Nat):Int):=by omega
   rw[this]
  ·rw[tw,hdr,List.takeWhile_cons,if_pos cw]
   have:(z.cps.toList.drop p)[j]?=some c0:=by rw[List.getElem?_drop];exact hc0
   rw[iA this,List.append_assoc]
   rfl
  ·rw[List.length_drop,bh];omega
 ·have tn:(z.cps.toList.drop (p+j)).takeWhile (fun c=>decide (c∈y.cps.toList))=[]:=by
   unfold cK at c
   split at c
   ·rename_i h;rw[h];rfl
   ·rename_i c1 r1 h
    rw[h,List.takeWhile_cons,if_neg c]
  rw[tn,List.append_nil] at tw
  have tl:((z.cps.toList.drop p).takeWhile fun c=>decide (c∈y.cps.toList)).length=j:=by rw[tw,List.length_take];omega
  refine⟨_,rfl,a,CS,dx',_,_,rfl,ha',T.cl,T.nw,gN _ _,_,rfl,_,rfl,_,rfl,a,CS,dx',_,_,rfl,ha',T.cl,T.np,cQ _ _,_,rfl,z,rfl,hz,?_⟩
  have q:=k H' mv (by rw[tl];exact S')
  rw[StrLaws.sliceText_nat z (a:=p) (b:=p+j) (by omega) hp',Nat.add_sub_cancel_left,<-tw]
  exact q
end
end Q
namespace Q
open PySem L2 Wd
def IsE (H:Hp):Exp->V->Prop
 |.num n,v=> ∃p,v=.ref p/\H p=some (.tup [.str "number",.int n])
 |.box x,v=> ∃p,v=.ref p/\H p=some (.tup [.str "box",.str x])
 |.bin s l r,v=> ∃p a b,v=.ref p/\H p=some (.tup [.str s,a,b])/\IsE H l a/\IsE H r b
theorem IsE.mono {H H':Hp}(g:Same H H'): ∀ {e:Exp}{v:V},IsE H e v->IsE H' e v
 |.num _,_,⟨p,e,h⟩=>⟨p,e,g _ _ h⟩
 |.box _,_,⟨p,e,h⟩=>⟨p,e,g _ _ h⟩
 |.bin _ _ _,_,⟨p,a,b,e,h,h1,h2⟩=>⟨p,a,b,e,g _ _ h,h1.mono g,h2.mono g⟩
theorem nI {H:Hp}{a p C dx:Addr}{fs:List (Str×V)}{xs:List V}(ha:H a=some (.ins C dx fs))(h:H p=some (.tup xs)):p≠a:=fun z=>by rw[z,ha] at h;cases h
theorem IsE.moved {H H':Hp}{a C dx:Addr}{fs:List (Str×V)}(ha:H a=some (.ins C dx fs))(g:Moved H H' a): ∀ {e:Exp}{v:V},IsE H e v->IsE H' e v
 |.num _,_,⟨p,e,h⟩=>⟨p,e,g _ _ (nI ha h) h⟩
 |.box _,_,⟨p,e,h⟩=>⟨p,e,g _ _ (nI ha h) h⟩
 |.bin _ _ _,_,⟨p,x,y,e,h,h1,h2⟩=>⟨p,x,y,e,g _ _ (nI ha h) h,h1.moved ha g,h2.moved ha g⟩
def fY (C CN:Addr)(H:Hp)(a:Addr)(z:Str)(Q:VK)(E:XK):Option (Exp×List Nat)->Prop
 |some (e,r)=> ∀v H',Moved H H' a->SgAt C H' a z (z.length - r.length)->IsE H' e v->Q v H'
 |none=> ∀H',Moved H H' a->E (.ref CN) none H'
def dL (C CN:Addr)(fP:Nat->List Nat->Option (Exp×List Nat))(m:Nat):Sp:=fun vs H Q E=> ∃ (a:Addr) (z:Str) (p:Nat),vs=[.ref a,.int (5 - (m:Int))]/\SgAt C H a z p/\fY C CN H a z Q E (fP m (z.cps.toList.drop p))
def brP:Nat->List Nat->Option (Exp×List Nat)
 |0,_=>none
 |m+1,r=>cC (eQ m) r
theorem qK (m:Nat)(l:List Nat):bt m l=if l.head?=some 40 then brP m l.tail else leafP l:=by
 cases m<;>rfl
def spBr (C CN:Addr)(m:Nat):Sp:=fun vs H Q E=> ∃ (a:Addr) (z:Str) (p:Nat) (r:List Nat),vs=[.ref a,.int (6 - (m:Int))]/\m<=5/\SgAt C H a z p/\z.cps.toList.drop p=40::r/\fY C CN H a z Q E (brP m r)
theorem jM {f:List Nat->Option (Exp×List Nat)}{ops:List Nat}{e:Exp}: ∀ {n:Nat}{l:List Nat},(∀c r,l=c::r-> ¬c∈ops)->chain f ops n e l=some (e,l)
 |0,_,_=>rfl
 |_+1,[],_=>rfl
 |_+1,c::r,h=>by
  unfold chain
  rw[if_neg (h c r rfl)]
theorem v5:("+-":Str).cps.toList=opsT:=by decide+kernel
theorem v6:("*":Str).cps.toList=opsF:=by decide+kernel
theorem zg:("(":Str).cps.toList=[40]:=by decide+kernel
theorem zf:(")":Str).cps.toList=[41]:=by decide+kernel
theorem ng {z:Str}{p:Nat}(hp:p<=z.length):z.length - (z.cps.toList.drop p).length=p:=by rw[List.length_drop,bh];omega
theorem fW {z:Str}{p c:Nat}{r:List Nat}(h:z.cps.toList.drop p=c::r):z.cps.toList[p]?=some c/\z.cps.toList.drop (p+1)=r:=by
 refine⟨?_,?_⟩
 ·have:(z.cps.toList.drop p)[0]?=some c:=by rw[h];rfl
  rw[List.getElem?_drop] at this
  exact this
 ·have:=congrArg (List.drop 1) h
  rw[List.drop_drop] at this
  exact this
theorem tY {f:List Nat->Option (Exp×List Nat)}{r:List Nat}(h:f r=none):cC f r=none:=by unfold cC;rw[h]
theorem vQ {f:List Nat->Option (Exp×List Nat)}{r r2:List Nat}{e:Exp}(h:f r=some (e,41::r2)):cC f r=some (e,r2):=by unfold cC;rw[h];rfl
theorem tX {f:List Nat->Option (Exp×List Nat)}{r r1:List Nat}{e:Exp}(h:f r=some (e,r1))(h2: ¬r1.head?=some 41):cC f r=none:=by
 unfold cC
 rw[h]
 split
 ·rename_i heq
  cases heq
  exact absurd rfl h2
 ·rfl
theorem iv {C:Addr}{H:Hp}{a:Addr}{z:Str}{p:Nat}{r:List Nat}(h:r<:+z.cps.toList.drop p):z.cps.toList.drop (z.length - r.length)=r:=by
 have:=(rh (w:=z.cps.toList) rfl h).1
 rw[bh] at this
 exact this.symm
section
variable {P:Program}{w:World}{K:PySem.W.Frag}{mg:Str->Option Value}{base:Heap}{f CS CN fG fS fK:Addr}{fd fdG fdS fdK:FuncData}
theorem scTerms:FnScope ["signs", "depth", "e", "sign"] ["signs", "depth"] (ae kN):=⟨rfl,rfl,rfl,by decide+kernel,rfl,by decide+kernel,by decide+kernel⟩
theorem mn {m k:Nat}(hk:2<=k)(F:Fun K "read_terms" "read_terms" kN f fd)(T:Txt K mg CS CN)(G:CF P w K mg base (CXx P w) k "read_factors" fG fdG ["signs", "depth"] (dL CS CN bD m))
  (MS:CM P w K mg base CX0 2 CS "stands_one_of" fS fdS ["self", "wanted"] (dC CS))(MT:CM P w K mg base CX0 1 CS "take_sign" fK fdK ["self"] (iB CS)):FnOk P w K mg base (CXx P w) (k+1) f fd ["signs", "depth"] (dL CS CN eQ m):=by
 refine F.okX scTerms (fun vs H Q E h=>?_) (fun cdv A outer s H vs Q E hr h=>?_)
 ·obtain⟨a,z,p,rfl,_⟩:=h
  rfl
 obtain⟨a,z,p,rfl,S,k0⟩:=h
 refine⟨_,aB (dh (i:=2) scTerms.nd rfl (Or.inl rfl) (cX G.ok hr rfl G.mg G.kp G.bi .nil cY (ar (pv 0) (ar (pv 1) pa_nil))))
  (aB (jk PassesOwn.leaving (ft (fu (pv 0) T.cl MS.me MS.ok (hr.mono hk) MS.bi .nil pass0 (ar pe_str pa_nil)))
   (aB (dh (i:=3) scTerms.nd rfl (Or.inl rfl) (eB (pv 0) T.cl MT.me MT.ok (hr.mono (by omega)) MT.bi .nil pass0))
   (aK (dh (i:=2) scTerms.nd rfl (Or.inl rfl) (jp (ar (pv 3) (ar (pv 2) (ar (cX G.ok hr rfl G.mg G.kp G.bi .nil cY (ar (pv 0) (ar (pv 1) pa_nil))) pa_nil))))))))
  (aK (cn (pv 2)))),?_⟩
 have sufG:Suf (bD m):=iM m
 refine⟨_,rfl,_,rfl,a,z,p,rfl,S,?_⟩
 have k1:fY CS CN H a z Q E (parts (bD m) opsT (z.cps.toList.drop p)):=k0
 unfold parts at k1
 cases hG:bD m (z.cps.toList.drop p) with
 |none=>
  rw[hG] at k1
  exact fun H' mv=>k1 H' mv
 |some er=>
  obtain⟨e1,r1⟩:=er
  rw[hG] at k1
  have k1:fY CS CN H a z Q E (chain (bD m) opsT r1.length e1 r1):=k1
  intro v1 H1 mv1 S1 i1
  have b1:z.cps.toList.drop (z.length - r1.length)=r1:=iv (C:=CS) (H:=H) (a:=a) (sufG _ _ _ hG)
  generalize hR:chain (bD m) opsT r1.length e1 r1=R at k1
  refine⟨fun mm σ H'=> ∃ (v:V) (e:Exp) (p' n:Nat) (sg:Option V),σ=[some (.ref a),some (.int (5 - (m:Int))),some v,sg]/\Moved H H' a/\SgAt CS H' a z p'/\IsE H' e v/\(z.cps.toList.drop p').length<=n/\
   chain (bD m) opsT n e (z.cps.toList.drop p')=R/\mm=z.length - p',⟨_,v1,e1,z.length - r1.length,r1.length,none,rfl,mv1,S1,i1,by rw[b1];exact Nat.le_refl _,by rw[b1];exact hR,rfl⟩,?_⟩
  rintro mm σ H' ⟨v,e,p',n,sg,rfl,mv,S',ie,ln,ch,rfl⟩
  obtain⟨hz,hp',dx,ha⟩:=id S'
  refine⟨_,rfl,a,dx,_,rfl,ha,cO _ _ (by decide+kernel) (by decide+kernel),a,z,p', "+-",rfl,S',_,rfl,?_⟩
  refine ite2 (fun c=>?_) (fun c=>?_)
  ·unfold cK at c
   cases hd:z.cps.toList.drop p' with
   |nil=>rw[hd] at c;cases c
   |cons c0 r0=>
    rw[hd] at c ch ln
    have c0m:c0∈opsT:=by rw[<-v5];exact of_decide_eq_true c
    obtain⟨n,rfl⟩: ∃n',n=n'+1:=⟨n - 1,by rw[List.length_cons] at ln;omega⟩
    obtain⟨at0,dr0⟩:=fW hd
    unfold chain at ch
    rw[if_pos c0m] at ch
    refine⟨_,fun σ' H'' h=>h,⟨_,rfl,a,dx,_,rfl,ha,cO _ _ (by decide+kernel) (by decide+kernel),a,z,p',c0,rfl,S',at0,fun H2 mv2 S2=>?_⟩⟩
    obtain⟨_,hp2,dx2,ha2⟩:=id S2
    refine⟨_,rfl,_,rfl,_,rfl,_,rfl,a,z,p'+1,rfl,S2,?_⟩
    rw[dr0]
    cases hG2:bD m r0 with
    |none=>
     rw[hG2] at ch
     subst ch
     exact fun H3 mv3=>k1 H3 (mv.trans (mv2.trans mv3))
    |some er2=>
     obtain⟨e2,r2⟩:=er2
     rw[hG2] at ch
     intro v2 H3 mv3 S3 i3
     refine⟨small (by show 3<=1000;decide),fun t ht=>?_⟩
     have g4:=cV ht (.tup [.str ⟨#[c0]⟩,v,v2])
     have suf2:r2<:+z.cps.toList.drop (p'+1):=by rw[dr0];exact sufG _ _ _ hG2
     have b2:=iv (C:=CS) (H:=H) (a:=a) suf2
     have l2:r2.length<=r0.length:=(sufG _ _ _ hG2).length_le
     have l0:=ii at0
     have l3:r0.length=z.length - (p'+1):=by rw[<-dr0,List.length_drop,bh]
     refine⟨z.length - (z.length - r2.length),by omega,.ref t,.bin ⟨#[c0]⟩ e e2,z.length - r2.length,n,_,rfl,mv.trans (mv2.trans (mv3.trans (Moved.same g4))),S3.same g4,?_,?_,?_,rfl⟩
     ·exact⟨t,v,v2,rfl,aM,((ie.moved ha mv2).moved ha2 mv3).mono g4,i3.mono g4⟩
     ·rw[b2];rw[List.length_cons] at ln;omega
     ·rw[b2];exact ch
  ·have st:chain (bD m) opsT n e (z.cps.toList.drop p')=some (e,z.cps.toList.drop p'):=jM fun c0 r0 hd hm=>by
    unfold cK at c
    rw[hd] at c
    exact c (decide_eq_true (by rw[v5];exact hm))
   rw[st] at ch
   subst ch
   exact⟨_,rfl,k1 v H' mv (by rw[ng hp'];exact S') ie⟩
theorem scFactors:FnScope ["signs", "depth", "e", "sign"] ["signs", "depth"] (ae hW):=⟨rfl,rfl,rfl,by decide+kernel,rfl,by decide+kernel,by decide+kernel⟩
theorem jw {m k:Nat}(hk:2<=k)(F:Fun K "read_factors" "read_factors" hW f fd)(T:Txt K mg CS CN)(G:CF P w K mg base (CXx P w) k "read_factor" fG fdG ["signs", "depth"] (dL CS CN bt m))
  (MS:CM P w K mg base CX0 2 CS "stands_one_of" fS fdS ["self", "wanted"] (dC CS))(MT:CM P w K mg base CX0 1 CS "take_sign" fK fdK ["self"] (iB CS)):FnOk P w K mg base (CXx P w) (k+1) f fd ["signs", "depth"] (dL CS CN bD m):=by
 refine F.okX scFactors (fun vs H Q E h=>?_) (fun cdv A outer s H vs Q E hr h=>?_)
 ·obtain⟨a,z,p,rfl,_⟩:=h
  rfl
 obtain⟨a,z,p,rfl,S,k0⟩:=h
 refine⟨_,aB (dh (i:=2) scFactors.nd rfl (Or.inl rfl) (cX G.ok hr rfl G.mg G.kp G.bi .nil cY (ar (pv 0) (ar (pv 1) pa_nil))))
  (aB (jk PassesOwn.leaving (ft (fu (pv 0) T.cl MS.me MS.ok (hr.mono hk) MS.bi .nil pass0 (ar pe_str pa_nil)))
   (aB (dh (i:=3) scFactors.nd rfl (Or.inl rfl) (eB (pv 0) T.cl MT.me MT.ok (hr.mono (by omega)) MT.bi .nil pass0))
   (aK (dh (i:=2) scFactors.nd rfl (Or.inl rfl) (jp (ar (pv 3) (ar (pv 2) (ar (cX G.ok hr rfl G.mg G.kp G.bi .nil cY (ar (pv 0) (ar (pv 1) pa_nil))) pa_nil))))))))
  (aK (cn (pv 2)))),?_⟩
 have sufG:Suf (bt m):=gU m
 refine⟨_,rfl,_,rfl,a,z,p,rfl,S,?_⟩
 have k1:fY CS CN H a z Q E (parts (bt m) opsF (z.cps.toList.drop p)):=k0
 unfold parts at k1
 cases hG:bt m (z.cps.toList.drop p) with
 |none=>
  rw[hG] at k1
  exact fun H' mv=>k1 H' mv
 |some er=>
  obtain⟨e1,r1⟩:=er
  rw[hG] at k1
  have k1:fY CS CN H a z Q E (chain (bt m) opsF r1.length e1 r1):=k1
  intro v1 H1 mv1 S1 i1
  have b1:z.cps.toList.drop (z.length - r1.length)=r1:=iv (C:=CS) (H:=H) (a:=a) (sufG _ _ _ hG)
  generalize hR:chain (bt m) opsF r1.length e1 r1=R at k1
  refine⟨fun mm σ H'=> ∃ (v:V) (e:Exp) (p' n:Nat) (sg:Option V),σ=[some (.ref a),some (.int (5 - (m:Int))),some v,sg]/\Moved H H' a/\SgAt CS H' a z p'/\IsE H' e v/\(z.cps.toList.drop p').length<=n/\
   chain (bt m) opsF n e (z.cps.toList.drop p')=R/\mm=z.length - p',⟨_,v1,e1,z.length - r1.length,r1.length,none,rfl,mv1,S1,i1,by rw[b1];exact Nat.le_refl _,by rw[b1];exact hR,rfl⟩,?_⟩
  rintro mm σ H' ⟨v,e,p',n,sg,rfl,mv,S',ie,ln,ch,rfl⟩
  obtain⟨hz,hp',dx,ha⟩:=id S'
  refine⟨_,rfl,a,dx,_,rfl,ha,cO _ _ (by decide+kernel) (by decide+kernel),a,z,p', "*",rfl,S',_,rfl,?_⟩
  refine ite2 (fun c=>?_) (fun c=>?_)
  ·unfold cK at c
   cases hd:z.cps.toList.drop p' with
   |nil=>rw[hd] at c;cases c
   |cons c0 r0=>
    rw[hd] at c ch ln
    have c0m:c0∈opsF:=by rw[<-v6];exact of_decide_eq_true c
    obtain⟨n,rfl⟩: ∃n',n=n'+1:=⟨n - 1,by rw[List.length_cons] at ln;omega⟩
    obtain⟨at0,dr0⟩:=fW hd
    unfold chain at ch
    rw[if_pos c0m] at ch
    refine⟨_,fun σ' H'' h=>h,⟨_,rfl,a,dx,_,rfl,ha,cO _ _ (by decide+kernel) (by decide+kernel),a,z,p',c0,rfl,S',at0,fun H2 mv2 S2=>?_⟩⟩
    obtain⟨_,hp2,dx2,ha2⟩:=id S2
    refine⟨_,rfl,_,rfl,_,rfl,_,rfl,a,z,p'+1,rfl,S2,?_⟩
    rw[dr0]
    cases hG2:bt m r0 with
    |none=>
     rw[hG2] at ch
     subst ch
     exact fun H3 mv3=>k1 H3 (mv.trans (mv2.trans mv3))
    |some er2=>
     obtain⟨e2,r2⟩:=er2
     rw[hG2] at ch
     intro v2 H3 mv3 S3 i3
     refine⟨small (by show 3<=1000;decide),fun t ht=>?_⟩
     have g4:=cV ht (.tup [.str ⟨#[c0]⟩,v,v2])
     have suf2:r2<:+z.cps.toList.drop (p'+1):=by rw[dr0];exact sufG _ _ _ hG2
     have b2:=iv (C:=CS) (H:=H) (a:=a) suf2
     have l2:r2.length<=r0.length:=(sufG _ _ _ hG2).length_le
     have l0:=ii at0
     have l3:r0.length=z.length - (p'+1):=by rw[<-dr0,List.length_drop,bh]
     refine⟨z.length - (z.length - r2.length),by omega,.ref t,.bin ⟨#[c0]⟩ e e2,z.length - r2.length,n,_,rfl,mv.trans (mv2.trans (mv3.trans (Moved.same g4))),S3.same g4,?_,?_,?_,rfl⟩
     ·exact⟨t,v,v2,rfl,aM,((ie.moved ha mv2).moved ha2 mv3).mono g4,i3.mono g4⟩
     ·rw[b2];rw[List.length_cons] at ln;omega
     ·rw[b2];exact ch
  ·have st:chain (bt m) opsF n e (z.cps.toList.drop p')=some (e,z.cps.toList.drop p'):=jM fun c0 r0 hd hm=>by
    unfold cK at c
    rw[hd] at c
    exact c (decide_eq_true (by rw[v6];exact hm))
   rw[st] at ch
   subst ch
   exact⟨_,rfl,k1 v H' mv (by rw[ng hp'];exact S') ie⟩
theorem scBr:FnScope ["signs", "depth", "e"] ["signs", "depth"] (ae gv):=⟨rfl,rfl,rfl,by decide+kernel,rfl,by decide+kernel,by decide+kernel⟩
theorem xJ (F:Fun K "read_bracket" "read_bracket" gv f fd)(T:Txt K mg CS CN):FnOk P w K mg base (CXx P w) 1 f fd ["signs", "depth"] (spBr CS CN 0):=by
 refine F.okX scBr (fun vs H Q E h=>?_) (fun cdv A outer s H vs Q E hr h=>?_)
 ·obtain⟨a,z,p,r,rfl,_⟩:=h
  rfl
 obtain⟨a,z,p,r,rfl,h5,S,hd,k0⟩:=h
 obtain⟨t5,g5⟩:=T.n5
 refine⟨_,aB (f9 (dt kj (pv 1) (cN (v:=.int 5) rfl g5 ⟨_,rfl⟩) (eD _)) (aK (eA dD rfl rfl T.mgN T.exN (ar pe_str pa_nil))) pss_nil) qf,?_⟩
 refine⟨_,rfl,_,_,rfl,rfl,_,rfl,?_⟩
 refine iteT ⟨small (by show 1<=1000;decide),k0 H (Moved.refl _ _)⟩
theorem zk {m k:Nat}(hk:2<=k)(F:Fun K "read_bracket" "read_bracket" gv f fd)(T:Txt K mg CS CN)(G:CF P w K mg base (CXx P w) k "read_terms" fG fdG ["signs", "depth"] (dL CS CN eQ m))
  (MS:CM P w K mg base CX0 2 CS "stands_one_of" fS fdS ["self", "wanted"] (dC CS))(MT:CM P w K mg base CX0 1 CS "take_sign" fK fdK ["self"] (iB CS)):FnOk P w K mg base (CXx P w) (k+1) f fd ["signs", "depth"] (spBr CS CN (m+1)):=by
 refine F.okX scBr (fun vs H Q E h=>?_) (fun cdv A outer s H vs Q E hr h=>?_)
 ·obtain⟨a,z,p,r,rfl,_⟩:=h
  rfl
 obtain⟨a,z,p,r,rfl,h5,S,hd,k0⟩:=h
 obtain⟨t5,g5⟩:=T.n5
 refine⟨_,aB (f9 (dt kj (pv 1) (cN (v:=.int 5) rfl g5 ⟨_,rfl⟩) (eD _)) (aK (eA dD rfl rfl T.mgN T.exN (ar pe_str pa_nil))) pss_nil)
  (aB (iY (eB (pv 0) T.cl MT.me MT.ok (hr.mono (by omega)) MT.bi .nil pass0))
  (aB (dh (i:=2) scBr.nd rfl (Or.inl rfl) (cX G.ok hr rfl G.mg G.kp G.bi .nil cY (ar (pv 0) (ar (pv 1) pa_nil))))
  (aB (f9 (oa (ft (fu (pv 0) T.cl MS.me MS.ok (hr.mono hk) MS.bi .nil pass0 (ar pe_str pa_nil)))) (aK (eA dD rfl rfl T.mgN T.exN (ar pe_str pa_nil))) pss_nil)
  (aB (iY (eB (pv 0) T.cl MT.me MT.ok (hr.mono (by omega)) MT.bi .nil pass0))
  (aK (cn (pv 2))))))),?_⟩
 obtain⟨hz,hp,dx,ha⟩:=id S
 obtain⟨at0,dr0⟩:=fW hd
 refine⟨_,rfl,_,_,rfl,rfl,_,rfl,?_⟩
 refine ite2 (fun c=>?_) (fun c=>?_)
 ·have c1:(6 - ((m+1:Nat):Int))>5:=of_decide_eq_true c
  omega
 ·refine⟨_,rfl,a,dx,_,rfl,ha,cO _ _ (by decide+kernel) (by decide+kernel),a,z,p,40,rfl,S,at0,fun H1 mv1 S1=>?_⟩
  have e6:(6 - ((m+1:Nat):Int))=5 - (m:Int):=by omega
  refine⟨_,rfl,_,rfl,a,z,p+1,by show [V.ref a,V.int (6 - ((m+1:Nat):Int))]=_;rw[e6],S1,?_⟩
  rw[dr0]
  have k1:fY CS CN H a z Q E (cC (eQ m) r):=k0
  cases hG:eQ m r with
  |none=>
   rw[tY hG] at k1
   exact fun H' mv=>k1 H' (mv1.trans mv)
  |some er=>
   obtain⟨e1,r1⟩:=er
   intro v2 H2 mv2 S2 i2
   obtain⟨_,hp2,dx2,ha2⟩:=id S2
   have suf1:r1<:+z.cps.toList.drop (p+1):=by rw[dr0];exact j6 m _ _ _ hG
   have b1:=iv (C:=CS) (H:=H) (a:=a) suf1
   refine⟨_,rfl,a,dx2,_,rfl,ha2,cO _ _ (by decide+kernel) (by decide+kernel),a,z,_, ")",rfl,S2,_,rfl,?_⟩
   have st:cK z (z.length - r1.length) ")"=decide (r1.head?=some 41):=by
    unfold cK
    rw[b1]
    cases r1 with
    |nil=>rfl
    |cons c0 r0=>
     show decide (c0∈(")":Str).cps.toList)=decide (some c0=some 41)
     rw[zf,decide_eq_decide]
     simp
   rw[st]
   by_cases h41:r1.head?=some 41
   ·rw[decide_eq_true h41]
    obtain⟨r2,rfl⟩: ∃r2,r1=41::r2:=by
     cases r1 with
     |nil=>cases h41
     |cons c0 r0=>have:c0=41:=by simpa using h41
                  subst this;exact⟨r0,rfl⟩
    obtain⟨at1,dr1⟩:=fW b1
    refine iteF ⟨_,rfl,a,dx2,_,rfl,ha2,cO _ _ (by decide+kernel) (by decide+kernel),a,z,_,41,rfl,S2,at1,fun H3 mv3 S3=>⟨_,rfl,?_⟩⟩
    rw[vQ hG] at k1
    have k2: ∀v H',Moved H H' a->SgAt CS H' a z (z.length - r2.length)->IsE H' e1 v->Q v H':=k1
    refine k2 v2 H3 (mv1.trans (mv2.trans mv3)) ?_ (i2.moved ha2 mv3)
    have l1:=ii at1
    have:z.length - (41::r2).length+1=z.length - r2.length:=by
     have:=suf1.length_le
     rw[List.length_drop,bh,List.length_cons] at this
     rw[List.length_cons];omega
    rw[this] at S3
    exact S3
   ·rw[decide_eq_false h41]
    refine iteT ⟨small (by show 1<=1000;decide),?_⟩
    rw[tX hG h41] at k1
    have k2: ∀H',Moved H H' a->E (.ref CN) none H':=k1
    exact k2 H2 (mv1.trans mv2)
theorem scFactor:FnScope ["signs", "depth", "factor"] ["signs", "depth"] (ae iV):=⟨rfl,rfl,rfl,by decide+kernel,rfl,by decide+kernel,by decide+kernel⟩
theorem yS:LET.length+FIG.length<=sizeLine:=by decide+kernel
theorem mq {z:Str}(h:numOk z=true):PySem.intText? z=some (dO z)/\z.length<=640:=by
 unfold numOk at h
 simp only[Bool.and_eq_true,decide_eq_true_eq] at h
 obtain⟨⟨h1,h2⟩,_,h4⟩:=h
 refine⟨?_,by omega⟩
 refine PySem.intText_digits (fun c hc=>?_) (fun e=>?_) (by omega)
 ·exact isFig_iff.mp (List.all_eq_true.mp h4 c hc)
 ·have:=bh z;rw[e] at this;simp at this;omega
theorem kl {m k:Nat}{fN fM fR:Addr}{fdN fdM fdR:FuncData}(hk:3<=k)(hm5:m<=5)(F:Fun K "read_factor" "read_factor" iV f fd)(T:Txt K mg CS CN)(G:CF P w K mg base (CXx P w) k "read_bracket" fG fdG ["signs", "depth"] (spBr CS CN m))
  (MS:CM P w K mg base CX0 2 CS "stands_one_of" fS fdS ["self", "wanted"] (dC CS))(MR:CM P w K mg base CX0 3 CS "run_of" fR fdR ["self", "wanted"] (spRun CS))
  (FN:CF P w K mg base CX0 1 "is_name" fN fdN ["word"] jc)(FM:CF P w K mg base CX0 1 "is_number" fM fdM ["word"] spNum):FnOk P w K mg base (CXx P w) (k+1) f fd ["signs", "depth"] (dL CS CN bt m):=by
 refine F.okX scFactor (fun vs H Q E h=>?_) (fun cdv A outer s H vs Q E hr h=>?_)
 ·obtain⟨a,z,p,rfl,_⟩:=h
  rfl
 obtain⟨a,z,p,rfl,S,k0⟩:=h
 obtain⟨tL,hL⟩:=T.let_
 obtain⟨tF,hF⟩:=T.fig
 refine⟨_,aB (f9 (ft (fu (pv 0) T.cl MS.me MS.ok (hr.mono (by omega)) MS.bi .nil pass0 (ar pe_str pa_nil))) (aK (cn (cX G.ok hr rfl G.mg G.kp G.bi .nil cY (ar (pv 0) (ar (mj op_add (pv 1) pe_int) pa_nil))))) pss_nil)
  (aB (dh (i:=2) scFactor.nd rfl (Or.inl rfl) (fu (pv 0) T.cl MR.me MR.ok (hr.mono hk) MR.bi .nil pass0 (ar (mj op_add_str (cN (v:=.str LET) rfl hL ⟨_,rfl⟩) (cN (v:=.str FIG) rfl hF ⟨_,rfl⟩)) pa_nil)))
  (aB (f9 (ft (cX FN.ok (hr.mono (by omega)) rfl FN.mg FN.kp FN.bi .nil pass0 (ar (pv 2) pa_nil))) (aK (cn (jp (ar pe_str (ar (pv 2) pa_nil))))) pss_nil)
  (aB (f9 (ft (cX FM.ok (hr.mono (by omega)) rfl FM.mg FM.kp FM.bi .nil pass0 (ar (pv 2) pa_nil))) (aK (cn (jp (ar pe_str (ar (kg iu rfl T.int PyProof.Rows.boot_int (ar (pv 2) pa_nil)) pa_nil))))) pss_nil)
  (aK (eA dD rfl rfl T.mgN T.exN (ar pe_str pa_nil)))))),?_⟩
 obtain⟨hz,hp,dx,ha⟩:=id S
 refine⟨_,rfl,a,dx,_,rfl,ha,cO _ _ (by decide+kernel) (by decide+kernel),a,z,p, "(",rfl,S,_,rfl,?_⟩
 rw[qK] at k0
 have st:cK z p "("=decide ((z.cps.toList.drop p).head?=some 40):=by
  unfold cK
  cases hd:z.cps.toList.drop p with
  |nil=>rfl
  |cons c0 r0=>
   show decide (c0∈("(":Str).cps.toList)=decide (some c0=some 40)
   rw[zg,decide_eq_decide]
   simp
 rw[st]
 by_cases h40:(z.cps.toList.drop p).head?=some 40
 ·rw[decide_eq_true h40]
  rw[if_pos h40] at k0
  obtain⟨r,hd⟩: ∃r,z.cps.toList.drop p=40::r:=by
   cases hd:z.cps.toList.drop p with
   |nil=>rw[hd] at h40;cases h40
   |cons c0 r0=>rw[hd] at h40
                have:c0=40:=by simpa using h40
                subst this;exact⟨r0,rfl⟩
  rw[hd] at k0
  refine iteT ⟨_,rfl,_,rfl,_,_,rfl,rfl,a,z,p,r,?_,hm5,S,hd,k0⟩
  show [V.ref a,V.int (5 - (m:Int)+1)]=_
  have:(5 - (m:Int)+1)=6 - (m:Int):=by omega
  rw[this]
 ·rw[decide_eq_false h40]
  rw[if_neg h40] at k0
  refine iteF ⟨_,rfl,a,dx,_,rfl,ha,cO _ _ (by decide+kernel) (by decide+kernel),_,_,rfl,rfl,yS,a,z,p,LET++FIG,rfl,S,fun H1 mv1 S1=>?_⟩
  have ean:(fun c=>decide (c∈(LET++FIG).cps.toList))=isAN:=rfl
  rw[ean] at S1 ⊢
  have fl:(⟨((z.cps.toList.drop p).takeWhile isAN).toArray⟩:Str).length<=sizeLine:=by
   show (((z.cps.toList.drop p).takeWhile isAN).toArray).size<=sizeLine
   rw[List.size_toArray]
   have:=(List.takeWhile_sublist (l:=z.cps.toList.drop p) isAN).length_le
   rw[List.length_drop,bh] at this
   omega
  have dw:z.length - ((z.cps.toList.drop p).dropWhile isAN).length=p+((z.cps.toList.drop p).takeWhile isAN).length:=by
   have e:=congrArg List.length (List.takeWhile_append_dropWhile (p:=isAN) (l:=z.cps.toList.drop p))
   rw[List.length_append,List.length_drop,bh] at e
   omega
  unfold leafP at k0
  refine⟨_,rfl,_,rfl,fl,fun H2 g2=>⟨_,rfl,?_⟩⟩
  refine ite2 (fun c=>?_) (fun c=>?_)
  ·rw[if_pos c] at k0
   have k1: ∀v H',Moved H H' a->SgAt CS H' a z (z.length - ((z.cps.toList.drop p).dropWhile isAN).length)->IsE H' (.box ⟨((z.cps.toList.drop p).takeWhile isAN).toArray⟩) v->Q v H':=k0
   refine⟨_,rfl,small (by show 2<=1000;decide),fun t ht=>?_⟩
   refine k1 _ _ (mv1.trans ((Moved.same g2).trans (Moved.same (cV ht _)))) ?_ ⟨t,rfl,aM⟩
   rw[dw]
   exact (S1.same g2).same (cV ht _)
  ·rw[if_neg c] at k0
   refine⟨_,rfl,_,rfl,fl,fun H3 g3=>⟨_,rfl,?_⟩⟩
   refine ite2 (fun c2=>?_) (fun c2=>?_)
   ·rw[if_pos c2] at k0
    have k1: ∀v H',Moved H H' a->SgAt CS H' a z (z.length - ((z.cps.toList.drop p).dropWhile isAN).length)->IsE H' (.num (dO ⟨((z.cps.toList.drop p).takeWhile isAN).toArray⟩)) v->Q v H':=k0
    obtain⟨n1,n2⟩:=mq c2
    refine⟨_,rfl,_,_,rfl,n1,n2,small (by show 2<=1000;decide),fun t ht=>?_⟩
    refine k1 _ _ (mv1.trans ((Moved.same g2).trans ((Moved.same g3).trans (Moved.same (cV ht _))))) ?_ ⟨t,rfl,aM⟩
    rw[dw]
    exact ((S1.same g2).same g3).same (cV ht _)
   ·rw[if_neg c2] at k0
    exact⟨small (by show 1<=1000;decide),k0 H3 (mv1.trans ((Moved.same g2).trans (Moved.same g3)))⟩
end
end Q
namespace Q
open PySem L2 Wd
def Told (CN:Addr)(H:Hp)(Q:VK)(E:XK):Option Exp->Prop
 |some e=> ∀v H',Same H H'->IsE H' e v->Q v H'
 |none=> ∀H',Same H H'->E (.ref CN) none H'
def kJ (CN:Addr):Sp:=fun vs H Q E=> ∃z:Str,vs=[.str z]/\z.length<=sizeLine/\Told CN H Q E (exprP z)
section
variable {P:Program}{w:World}{K:PySem.W.Frag}{mg:Str->Option Value}{base:Heap}{f CS CN fT fI fD:Addr}{fd fdT fdI fdD:FuncData}
theorem scExpr:FnScope ["word", "signs", "e"] ["word"] (ae sExpr):=⟨rfl,rfl,rfl,by decide+kernel,rfl,by decide+kernel,by decide+kernel⟩
theorem uO {k:Nat}(hk:2<=k)(F:Fun K "expression" "expression" sExpr f fd)(T:Txt K mg CS CN)(G:CF P w K mg base (CXx P w) k "read_terms" fT fdT ["signs", "depth"] (dL CS CN eQ 5))
  (M:Mk K CS fI)(GI:FnOk P w K mg base CX0 1 fI fdI ["self", "word"] (oV CS))(bI:Binds K fdI ["self", "word"] [])(MD:CM P w K mg base CX0 1 CS "is_done" fD fdD ["self"] (kK CS)):FnOk P w K mg base (CXx P w) (k+1) f fd ["word"] (kJ CN):=by
 refine F.okX scExpr (fun vs H Q E h=>?_) (fun cdv A outer s H vs Q E hr h=>?_)
 ·obtain⟨z,rfl,_⟩:=h
  rfl
 obtain⟨z,rfl,hz,k0⟩:=h
 obtain⟨t60,h60⟩:=T.n60
 refine⟨_,aB (f9 (dt kj (cW call_len_str rfl T.len PySem.boot_len (ar (pv 0) pa_nil)) (cN (v:=.int 60) rfl h60 ⟨_,rfl⟩) (eD _)) (aK (eA dD rfl rfl T.mgN T.exN (ar pe_str pa_nil))) pss_nil)
  (aB (dh (i:=1) scExpr.nd rfl (Or.inl rfl) (uF M GI (hr.mono hk) rfl T.mgS bI .nil pass0 (ar (pv 0) pa_nil)))
  (aB (dh (i:=2) scExpr.nd rfl (Or.inl rfl) (cX G.ok hr rfl G.mg G.kp G.bi .nil cY (ar (pv 1) (ar pe_int pa_nil))))
  (aB (f9 (oa (ft (eB (pv 1) T.cl MD.me MD.ok (hr.mono (by omega)) MD.bi .nil pass0))) (aK (eA dD rfl rfl T.mgN T.exN (ar pe_str pa_nil))) pss_nil)
  (aK (cn (pv 2)))))),?_⟩
 refine⟨_,rfl,z,rfl,hz,_,_,rfl,rfl,_,rfl,?_⟩
 unfold exprP at k0
 refine ite2 (fun c=>?_) (fun c=>?_)
 ·have c1:(z.length:Int)>60:=of_decide_eq_true c
  rw[if_pos (by omega)] at k0
  exact⟨small (by show 1<=1000;decide),k0 H (Same.refl _)⟩
 ·have c1: ¬(z.length:Int)>60:=of_decide_eq_false (Bool.eq_false_iff.mpr c)
  rw[if_neg (by omega)] at k0
  refine⟨_,rfl,fun x dx nx ndx nex=>?_⟩
  refine⟨x,dx,z,rfl,aM,hz,fun H1 mv1 S1=>⟨rfl,?_⟩⟩
  have s0: ∀ {H2:Hp},Moved H1 H2 x->Same H H2:=fun{H2} mv b o e=>mv b o (a7 e nx) (mv1 b o (a7 e nx) (by rw[aC (a7 e nx),aC (a7 e ndx)];exact e))
  refine⟨_,rfl,x,z,0,rfl,S1,?_⟩
  rw[List.drop_zero]
  cases hG:eQ 5 z.cps.toList with
  |none=>
   rw[hG] at k0
   exact fun H2 mv2=>k0 H2 (s0 mv2)
  |some er=>
   obtain⟨e1,r1⟩:=er
   rw[hG] at k0
   intro v2 H2 mv2 S2 i2
   obtain⟨_,hp2,dx2,ha2⟩:=id S2
   refine⟨_,rfl,x,dx2,_,rfl,ha2,cO _ _ (by decide+kernel) (by decide+kernel),x,z,_,rfl,S2,_,rfl,?_⟩
   have rl:r1.length<=z.length:=by
    have:=(j6 5 _ _ _ hG).length_le
    rw[bh] at this;exact this
   cases r1 with
   |nil=>
    have k1: ∀v H',Same H H'->IsE H' e1 v->Q v H':=k0
    rw[decide_eq_true (by simp:z.length - ([]:List Nat).length=z.length)]
    exact iteF ⟨_,rfl,k1 v2 H2 (s0 mv2) i2⟩
   |cons c0 r0=>
    have k1: ∀H',Same H H'->E (.ref CN) none H':=k0
    rw[decide_eq_false (by rw[List.length_cons] at rl ⊢;omega)]
    exact iteT ⟨small (by show 1<=1000;decide),k1 H2 (s0 mv2)⟩
end
section
variable {P:Program}{w:World}{K:PySem.W.Frag}{mg:Str->Option Value}{base:Heap}{CS CN fT fF fA fB fS fK fN fM fR:Addr}{fdT fdF fdA fdB fdS fdK fdN fdM fdR:FuncData}
theorem oW (T:Txt K mg CS CN)(FT:Fun K "read_terms" "read_terms" kN fT fdT)(bT:Binds K fdT ["signs", "depth"] [])(mT:mg "read_terms"=some (.ref fT))
  (FF:Fun K "read_factors" "read_factors" hW fF fdF)(bF:Binds K fdF ["signs", "depth"] [])(mF:mg "read_factors"=some (.ref fF))
  (FA:Fun K "read_factor" "read_factor" iV fA fdA)(bA:Binds K fdA ["signs", "depth"] [])(mA:mg "read_factor"=some (.ref fA))
  (FB:Fun K "read_bracket" "read_bracket" gv fB fdB)(bB:Binds K fdB ["signs", "depth"] [])(mB:mg "read_bracket"=some (.ref fB))
  (MS:CM P w K mg base CX0 2 CS "stands_one_of" fS fdS ["self", "wanted"] (dC CS))(MT:CM P w K mg base CX0 1 CS "take_sign" fK fdK ["self"] (iB CS))(MR:CM P w K mg base CX0 3 CS "run_of" fR fdR ["self", "wanted"] (spRun CS))
  (CN':CF P w K mg base CX0 1 "is_name" fN fdN ["word"] jc)(CM':CF P w K mg base CX0 1 "is_number" fM fdM ["word"] spNum):
  ∀m,m<=5->CF P w K mg base (CXx P w) (4 * m+7) "read_terms" fT fdT ["signs", "depth"] (dL CS CN eQ m)
 |0,h=>by
  have B0:CF P w K mg base (CXx P w) 4 "read_bracket" fB fdB ["signs", "depth"] (spBr CS CN 0):=⟨(xJ FB T).mono (by decide),bB,FB.kp,mB⟩
  have A0:CF P w K mg base (CXx P w) 5 "read_factor" fA fdA ["signs", "depth"] (dL CS CN bt 0):=⟨kl (by decide) h FA T B0 MS MR CN' CM',bA,FA.kp,mA⟩
  have F0:CF P w K mg base (CXx P w) 6 "read_factors" fF fdF ["signs", "depth"] (dL CS CN bD 0):=⟨jw (by decide) FF T A0 MS MT,bF,FF.kp,mF⟩
  exact⟨mn (by decide) FT T F0 MS MT,bT,FT.kp,mT⟩
 |m+1,h=>by
  have T0:=oW T FT bT mT FF bF mF FA bA mA FB bB mB MS MT MR CN' CM' m (by omega)
  have B0:CF P w K mg base (CXx P w) (4 * m+8) "read_bracket" fB fdB ["signs", "depth"] (spBr CS CN (m+1)):=⟨zk (by omega) FB T T0 MS MT,bB,FB.kp,mB⟩
  have A0:CF P w K mg base (CXx P w) (4 * m+9) "read_factor" fA fdA ["signs", "depth"] (dL CS CN bt (m+1)):=⟨kl (by omega) h FA T B0 MS MR CN' CM',bA,FA.kp,mA⟩
  have F0:CF P w K mg base (CXx P w) (4 * m+10) "read_factors" fF fdF ["signs", "depth"] (dL CS CN bD (m+1)):=⟨jw (by omega) FF T A0 MS MT,bF,FF.kp,mF⟩
  exact⟨mn (by omega) FT T F0 MS MT,bT,FT.kp,mT⟩
end
end Q
namespace Wd
open PySem L2
section
def kindN (c:Nat):Nat:=if isFig c=true then 2 else if isLet c=true then 1 else 0
noncomputable abbrev Tk:=Nat×List Nat
def toks:List Nat->List Tk
 |[]=>[]
 |c::r=>match toks r with
  |[]=>[(kindN c,[c])]
  |(k,t)::ts=>if kindN c≠0/\k=kindN c then (k,c::t)::ts else (kindN c,[c])::(k,t)::ts
end
section
noncomputable def expW:Exp->W
 |.num n=>.tup [.str "number",.int n]
 |.box x=>.tup [.str "box",.str x]
 |.bin s l r=>.tup [.str s,expW l,expW r]
def eO (ws:List W):M W:=match ws with
 |[.str z]=>gd (z.length<=sizeLine) (pr (.bl (ak z)))
 |_=>no
def gD (ws:List W):M W:=match ws with
 |[.str z]=>gd (z.length<=sizeLine) (pr (.bl (numOk z)))
 |_=>no
def eS (ws:List W):M W:=match ws with
 |[.str z]=>gd (z.length<=sizeLine) (match exprP z with
  |some e=>pr (expW e)
  |none=>fun h=>.ex "NoRow" h)
 |_=>no
def tJ (ws:List W):M W:=match ws with
 |[.str z]=>gd (z.length<=sizeLine) (match exprP z with
  |some e=>pr (expW e)
  |none=>no)
 |_=>no
end
end Wd
namespace Q
open PySem L2 Wd
theorem lx {K:PySem.W.Frag}{mu:Nat->Addr}{h:List Ob}{H:Hp}: ∀ {e:Exp}{v:V},IsE H e v->Rv K ⟨mu,h,H⟩ (expW e) v
 |.num n,v,q=>by
  obtain⟨p,rfl,e⟩:=q
  unfold expW Rv
  exact⟨p,_,rfl,.of e,Rvs.cons (rv_str.mpr rfl) (Rvs.cons (rv_int.mpr rfl) Rvs.nil)⟩
 |.box n,v,q=>by
  obtain⟨p,rfl,e⟩:=q
  unfold expW Rv
  exact⟨p,_,rfl,.of e,Rvs.cons (rv_str.mpr rfl) (Rvs.cons (rv_str.mpr rfl) Rvs.nil)⟩
 |.bin s l r,v,q=>by
  obtain⟨p,a,b,rfl,e,h1,h2⟩:=q
  unfold expW Rv
  exact⟨p,_,rfl,.of e,Rvs.cons (rv_str.mpr rfl) (Rvs.cons (lx h1) (Rvs.cons (lx h2) Rvs.nil))⟩
section
variable {P:Program}{w:World}{K:PySem.W.Frag}{mg:Str->Option Value}{base:Heap}{f CN:Addr}{fd:FuncData}{k:Nat}
theorem kB (C:CF P w K mg base CX0 1 "is_name" f fd ["word"] jc):CG P w K mg base 1 "is_name" f fd ["word"] 1 eO:=
 ⟨C.ok.imp fun vs H Q E h=>by
  obtain⟨o,ws,rfl,hl,R,rv,h⟩:=h
  rcases ws with _|⟨x,_|⟨_,_⟩⟩
  ·exact h.elim
  ·obtain⟨v,rfl,r⟩:=rv.one
   cases x with
   |str z=>
    obtain⟨hz,h⟩:=h.gd
    exact⟨z,by rw[rv_str.mp r],hz,fun H' g=>lY (ws:=[]) R g (rv_bl.mpr rfl) h⟩
   |_=>exact h.elim
  ·exact absurd hl (by simp),C.bi,C.kp,C.mg⟩
theorem nu (C:CF P w K mg base CX0 1 "is_number" f fd ["word"] spNum):CG P w K mg base 1 "is_number" f fd ["word"] 1 gD:=
 ⟨C.ok.imp fun vs H Q E h=>by
  obtain⟨o,ws,rfl,hl,R,rv,h⟩:=h
  rcases ws with _|⟨x,_|⟨_,_⟩⟩
  ·exact h.elim
  ·obtain⟨v,rfl,r⟩:=rv.one
   cases x with
   |str z=>
    obtain⟨hz,h⟩:=h.gd
    exact⟨z,by rw[rv_str.mp r],hz,fun H' g=>lY (ws:=[]) R g (rv_bl.mpr rfl) h⟩
   |_=>exact h.elim
  ·exact absurd hl (by simp),C.bi,C.kp,C.mg⟩
theorem vM (hN:mg "NoRow"=some (.ref CN))(C:CF P w K mg base (CXx P w) k "expression" f fd ["word"] (kJ CN)):CGx P w K mg base k "expression" f fd ["word"] 1 eS:=
 ⟨C.ok.imp fun vs H Q E h=>by
  obtain⟨o,ws,rfl,hl,R,rv,h⟩:=h
  rcases ws with _|⟨x,_|⟨_,_⟩⟩
  ·exact h.elim
  ·obtain⟨v,rfl,r⟩:=rv.one
   cases x with
   |str z=>
    obtain⟨hz,h⟩:=h.gd
    refine⟨z,by rw[rv_str.mp r],hz,?_⟩
    cases e:exprP z with
    |none=>
     rw[e] at h
     obtain⟨u,hu,h⟩:=h
     have hu:mg "NoRow"=some u:=hu
     rw[hN] at hu
     cases hu
     exact fun H' g=>h ⟨o.mu,o.h,H'⟩ rfl (Ex.same g) (R.same g)
    |some x=>
     rw[e] at h
     exact fun v H' g i=>Ps.at (p:=⟨o.mu,o.h,H'⟩) h rfl (Ex.same g) (R.same g) (lx i)
   |_=>exact h.elim
  ·exact absurd hl (by simp),C.bi,C.kp,C.mg⟩
theorem vO (C:CF P w K mg base (CXx P w) k "expression" f fd ["word"] (kJ CN)):CG P w K mg base k "expression" f fd ["word"] 1 tJ:=
 ⟨tE C.ok fun vs H Q E h=>by
  obtain⟨o,ws,rfl,hl,R,rv,h⟩:=h
  rcases ws with _|⟨x,_|⟨_,_⟩⟩
  ·exact h.elim
  ·obtain⟨v,rfl,r⟩:=rv.one
   cases x with
   |str z=>
    obtain⟨hz,h⟩:=h.gd
    refine⟨z,by rw[rv_str.mp r],hz,?_⟩
    cases e:exprP z with
    |none=>rw[e] at h;exact h.elim
    |some x=>
     rw[e] at h
     exact fun v H' g i=>Ps.at (p:=⟨o.mu,o.h,H'⟩) h rfl (Ex.same g) (R.same g) (lx i)
   |_=>exact h.elim
  ·exact absurd hl (by simp),C.bi,C.kp,C.mg⟩
end
end Q
namespace Q
open PySem L2 Wd
noncomputable abbrev nO:Stmt:=top 31
noncomputable abbrev qa:Stmt:=top 42
noncomputable abbrev lZ:Stmt:=top 43
noncomputable abbrev jg:Stmt:=top 41
noncomputable abbrev ke:Stmt:=top 40
noncomputable abbrev jV:Stmt:=top 45
noncomputable abbrev nN:Stmt:=top 47
noncomputable abbrev fZ:Stmt:=top 46
noncomputable abbrev gZ:Stmt:=bV (top 44) 0
noncomputable abbrev gY:Stmt:=bV (top 44) 1
noncomputable abbrev dQ:Stmt:=bV (top 44) 8
noncomputable abbrev gf:Stmt:=bV (top 44) 3
noncomputable abbrev gc:Stmt:=bV (top 44) 4
noncomputable abbrev gu:Stmt:=bV (top 44) 5
noncomputable abbrev gg:Stmt:=bV (top 44) 6
noncomputable abbrev gX:Stmt:=bV (top 44) 7
noncomputable abbrev jh:Stmt:=bV (top 44) 2
noncomputable abbrev fq:Stmt:=bV (top 44) 9
noncomputable abbrev wQ:Stmt:=top 39
noncomputable abbrev jU:Stmt:=top 49
noncomputable abbrev nQ:Stmt:=top 50
noncomputable abbrev qb:Stmt:=top 51
noncomputable abbrev gS:Stmt:=top 52
noncomputable abbrev kd:Stmt:=top 53
noncomputable abbrev kM:Stmt:=top 54
noncomputable abbrev hV:Stmt:=top 55
noncomputable abbrev jT:Stmt:=top 56
noncomputable abbrev nR:Stmt:=top 57
noncomputable abbrev rB:Stmt:=top 58
def cx (fr:List W->M W):Env'->M Fl:=(sSeq (sIf (mB (m2 eqW (m2 ixW (mVar 0) (mC (.int 0))) (mC (.str "number")))) (sRet (mTl (lenG mNil))) sNil) (sSeq (sIf (mB (m2 eqW (m2 ixW (mVar 0) (mC (.int 0))) (mC (.str "box")))) (sRet (mTl (lenG (mCons (m2 ixW (mVar 0) (mC (.int 1))) mNil)))) sNil) (sRet (m2 addW (mCall (arW 1 fr) (mCons (m2 ixW (mVar 0) (mC (.int 1))) mNil)) (mCall (arW 1 fr) (mCons (m2 ixW (mVar 0) (mC (.int 2))) mNil))))))
def aU:Nat->List W->M W
 |0=>fun _=>no
 |n+1=>runF 1 (cx (aU n))
def ec:Env'->M Fl:=(sSeq (sIf (mNot (mB (mCall (arW 1 eO) (mCons (mVar 0) mNil)))) (bE "NoRow" (mCons (mC (.str "a name is of 1 to 8 small letters, and no word of the rows' own")) mNil)) sNil) (sRet (mVar 0)))
def a8:List W->M W:=runF 1 ec
def cR:Env'->M Fl:=(sSeq (sIf (mNot (mB (mCall (arW 1 gD) (mCons (mVar 0) mNil)))) (bE "NoRow" (mCons (mC (.str "a number is of 1 to 3 figures, without noughts ahead")) mNil)) sNil) (sRet (mCall intW (mCons (mVar 0) mNil))))
def cT:List W->M W:=runF 1 cR
def bO:Env'->M Fl:=(sSeq (sSet 1 (m2 ixW (mVar 0) (mC (.int 2)))) (sSeq (sIf (mOr (mB (m2 bS (mVar 1) (mC (.tup ((["<", "="]:List Str).map W.str))))) (mB (m2 neW (m2 ixW (mVar 0) (mC (.int 5))) (mC (.str "else"))))) (bE "NoRow" (mCons (mC (.str "an if is written: if E < E X else Y, or with =")) mNil)) sNil) (sSeq (sSet 2 (mCall (arW 1 eS) (mCons (m2 ixW (mVar 0) (mC (.int 1))) mNil))) (sSeq (sSet 3 (mCall (arW 1 eS) (mCons (m2 ixW (mVar 0) (mC (.int 3))) mNil))) (sRet (mTup (mCons (mC (.str "if")) (mCons (mVar 1) (mCons (mVar 2) (mCons (mVar 3) (mCons (mCall (arW 1 a8) (mCons (m2 ixW (mVar 0) (mC (.int 4))) mNil)) (mCons (mCall (arW 1 a8) (mCons (m2 ixW (mVar 0) (mC (.int 6))) mNil)) mNil))))))))))))
def bQ:List W->M W:=runF 4 bO
def eg:Env'->M Fl:=(sSeq (sSet 1 (mMeth isS splW (mVar 0) (mCons (mC (.str " ")) mNil))) (sSeq (sSet 2 (m2 ixW (mVar 1) (mC (.int 0)))) (sSeq (sSet 3 (mCall lenW (mCons (mVar 1) mNil))) (sSeq (sIf (mAnd (mB (m2 eqW (mVar 2) (mC (.str "box")))) (mB (m2 eqW (mVar 3) (mC (.int 3))))) (sRet (mTup (mCons (mC (.str "box")) (mCons (mCall (arW 1 a8) (mCons (m2 ixW (mVar 1) (mC (.int 1))) mNil)) (mCons (mCall (arW 1 cT) (mCons (m2 ixW (mVar 1) (mC (.int 2))) mNil)) mNil))))) sNil) (sSeq (sIf (mAnd (mB (m2 eqW (mVar 2) (mC (.str "block")))) (mB (m2 eqW (mVar 3) (mC (.int 2))))) (sRet (mTup (mCons (mC (.str "block")) (mCons (mCall (arW 1 a8) (mCons (m2 ixW (mVar 1) (mC (.int 1))) mNil)) mNil)))) sNil) (sSeq (sIf (mAnd (mB (m2 eqW (mVar 2) (mC (.str "put")))) (mB (m2 eqW (mVar 3) (mC (.int 3))))) (sRet (mTup (mCons (mC (.str "put")) (mCons (mCall (arW 1 a8) (mCons (m2 ixW (mVar 1) (mC (.int 1))) mNil)) (mCons (mCall (arW 1 eS) (mCons (m2 ixW (mVar 1) (mC (.int 2))) mNil)) mNil))))) sNil) (sSeq (sIf (mAnd (mB (m2 eqW (mVar 2) (mC (.str "say")))) (mB (m2 eqW (mVar 3) (mC (.int 2))))) (sRet (mTup (mCons (mC (.str "say")) (mCons (mCall (arW 1 eS) (mCons (m2 ixW (mVar 1) (mC (.int 1))) mNil)) mNil)))) sNil) (sSeq (sIf (mAnd (mB (m2 eqW (mVar 2) (mC (.str "ask")))) (mB (m2 eqW (mVar 3) (mC (.int 2))))) (sRet (mTup (mCons (mC (.str "ask")) (mCons (mCall (arW 1 a8) (mCons (m2 ixW (mVar 1) (mC (.int 1))) mNil)) mNil)))) sNil) (sSeq (sIf (mAnd (mB (m2 eqW (mVar 2) (mC (.str "go")))) (mB (m2 eqW (mVar 3) (mC (.int 2))))) (sRet (mTup (mCons (mC (.str "go")) (mCons (mCall (arW 1 a8) (mCons (m2 ixW (mVar 1) (mC (.int 1))) mNil)) mNil)))) sNil) (sSeq (sIf (mAnd (mB (m2 eqW (mVar 2) (mC (.str "if")))) (mB (m2 eqW (mVar 3) (mC (.int 7))))) (sRet (mCall (arW 1 bQ) (mCons (mVar 1) mNil))) sNil) (sSeq (sIf (mAnd (mB (m2 eqW (mVar 2) (mC (.str "table")))) (mB (bG leW leW (mC (.int 3)) (mVar 3) (m2 addW (mC (.int 2)) (mC (.int 6)))))) (sRet (mTup (mCons (mC (.str "table")) (mCons (mCall (arW 1 eS) (mCons (m2 ixW (mVar 1) (mC (.int 1))) mNil)) (mCons (mCall i8 (mCons (mTl (mComp [] (mSrc (m3 slW (mVar 1) (mPart (mC (.int 2))) aI) srcL) (tgN 0) mYes (mCall (arW 1 a8) (mCons (mVar 0) mNil)) 2)) mNil)) mNil))))) sNil) (sSeq (sIf (mAnd (mB (m2 eqW (mVar 2) (mC (.str "stop")))) (mB (m2 eqW (mVar 3) (mC (.int 1))))) (sRet (mTup (mCons (mC (.str "stop")) mNil))) sNil) (bE "NoRow" (mCons (mC (.str "a row has none of the forms")) mNil))))))))))))))
def cG:List W->M W:=runF 4 eg
def av:Env'->M Fl:=(sSeq (sIf (mB (m2 eqW (m2 ixW (mVar 0) (mC (.int 0))) (mC (.str "put")))) (sRet (mTl (catL (mTl (lenG (mCons (m2 ixW (mVar 0) (mC (.int 1))) mNil))) (mCall (arW 1 (aU 62)) (mCons (m2 ixW (mVar 0) (mC (.int 2))) mNil))))) sNil) (sSeq (sIf (mB (m2 eqW (m2 ixW (mVar 0) (mC (.int 0))) (mC (.str "say")))) (sRet (mCall (arW 1 (aU 62)) (mCons (m2 ixW (mVar 0) (mC (.int 1))) mNil))) sNil) (sSeq (sIf (mB (m2 eqW (m2 ixW (mVar 0) (mC (.int 0))) (mC (.str "ask")))) (sRet (mTl (lenG (mCons (m2 ixW (mVar 0) (mC (.int 1))) mNil)))) sNil) (sSeq (sIf (mB (m2 eqW (m2 ixW (mVar 0) (mC (.int 0))) (mC (.str "if")))) (sRet (m2 addW (mCall (arW 1 (aU 62)) (mCons (m2 ixW (mVar 0) (mC (.int 2))) mNil)) (mCall (arW 1 (aU 62)) (mCons (m2 ixW (mVar 0) (mC (.int 3))) mNil)))) sNil) (sSeq (sIf (mB (m2 eqW (m2 ixW (mVar 0) (mC (.int 0))) (mC (.str "table")))) (sRet (mCall (arW 1 (aU 62)) (mCons (m2 ixW (mVar 0) (mC (.int 1))) mNil))) sNil) (sRet (mTl (lenG mNil))))))))
def aO:List W->M W:=runF 1 av
def dm:Env'->M Fl:=(sSeq (sIf (mB (m2 bS (mVar 0) (mVar 1))) (bE "NoBlock" (mCons (m1 (fstW "there is no block ") (mVar 0)) mNil)) sNil) (sRet (mMeth isLO sidxW (mVar 1) (mCons (mVar 0) mNil))))
def bY:List W->M W:=runF 2 dm
def ax:Env'->M Fl:=(sSeq (sIf (mB (m2 eqW (m2 ixW (mVar 0) (mC (.int 0))) (mC (.str "go")))) (sRet (mTup (mCons (mC (.str "go")) (mCons (mCall (arW 2 bY) (mCons (m2 ixW (mVar 0) (mC (.int 1))) (mCons (mVar 1) mNil))) mNil)))) sNil) (sSeq (sIf (mB (m2 eqW (m2 ixW (mVar 0) (mC (.int 0))) (mC (.str "if")))) (sRet (m2 addW (m3 slW (mVar 0) aI (mPart (mC (.int 4)))) (mTup (mCons (mCall (arW 2 bY) (mCons (m2 ixW (mVar 0) (mC (.int 4))) (mCons (mVar 1) mNil))) (mCons (mCall (arW 2 bY) (mCons (m2 ixW (mVar 0) (mC (.int 5))) (mCons (mVar 1) mNil))) mNil))))) sNil) (sSeq (sIf (mB (m2 eqW (m2 ixW (mVar 0) (mC (.int 0))) (mC (.str "table")))) (sRet (mTup (mCons (mC (.str "table")) (mCons (m2 ixW (mVar 0) (mC (.int 1))) (mCons (mCall i8 (mCons (mTl (mComp [] (mSrc (m2 ixW (mVar 0) (mC (.int 2))) srcT) (tgN 0) mYes (mCall (arW 2 bY) (mCons (mVar 0) (mCons (mVar 3) mNil))) 2)) mNil)) mNil))))) sNil) (sRet (mVar 0)))))
def aG:List W->M W:=runF 2 ax
def bX:Env'->M Fl:=(sSeq (sFldW "Reading" "boxes" (mVar 0) (mNew (lenG mNil))) (sSeq (sFldW "Reading" "block_names" (mVar 0) (mNew (lenG mNil))) (sSeq (sFldW "Reading" "ended_blocks" (mVar 0) (mNew (lenG mNil))) (sFldW "Reading" "statements" (mVar 0) (mNew (lenG mNil))))))
def bZ:List W->M W:=runF 1 bX
def bW:Env'->M Fl:=(sRet (m2 gtW (mCall lenW (mCons (m1 (fldG "Reading" "block_names") (mVar 0)) mNil)) (mCall lenW (mCons (m1 (fldG "Reading" "ended_blocks") (mVar 0)) mNil))))
def a9:List W->M W:=runF 1 bW
def bM:Env'->M Fl:=(sRet (mTl (mComp [] (mSrc (m1 (fldG "Reading" "boxes") (mVar 0)) srcL) (tgT [0,1]) mYes (mVar 0) 3)))
def bo:List W->M W:=runF 1 bM
def aj:Env'->M Fl:=(sIf (mB (m2 eqW (mVar 1) (mC (.str "box")))) (sIf (mB (m2 gtW (mCall lenW (mCons (m1 (fldG "Reading" "block_names") (mVar 0)) mNil)) (mC (.int 0)))) (bE "NoPlace" (mCons (mC (.str "a box stands behind a block")) mNil)) sNil) (sIf (mB (m2 eqW (mVar 1) (mC (.str "block")))) (sIf (mB (mMet "Reading" "in_block" 1 a9 (mVar 0) mNil)) (bE "NoPlace" (mCons (mC (.str "a block begins within a block")) mNil)) sNil) (sIf (mNot (mB (mMet "Reading" "in_block" 1 a9 (mVar 0) mNil))) (bE "NoPlace" (mCons (mC (.str "a statement or an end stands outside of a block")) mNil)) sNil)))
def af:List W->M W:=runF 2 aj
def au:Env'->M Fl:=(sSeq (sIf (mAnd (mB (m2 eqW (m2 ixW (mVar 1) (mC (.int 0))) (mC (.str "box")))) (mB (m2 inW (m2 ixW (mVar 1) (mC (.int 1))) (mMet "Reading" "box_names" 1 bo (mVar 0) mNil)))) (bE "Twice" (mCons (mC (.str "two boxes have one name")) mNil)) sNil) (sIf (mAnd (mB (m2 eqW (m2 ixW (mVar 1) (mC (.int 0))) (mC (.str "block")))) (mB (m2 inW (m2 ixW (mVar 1) (mC (.int 1))) (m1 (fldG "Reading" "block_names") (mVar 0))))) (bE "Twice" (mCons (mC (.str "two blocks have one name")) mNil)) sNil))
def ah:List W->M W:=runF 2 au
def am:Env'->M Fl:=(sSeq (sIf (mAnd (mB (m2 eqW (mVar 1) (mC (.str "box")))) (mB (m2 eqW (mCall lenW (mCons (m1 (fldG "Reading" "boxes") (mVar 0)) mNil)) (mC (.int 4))))) (bE "Full" (mCons (mC (.str "a program has at most 4 boxes")) mNil)) sNil) (sSeq (sIf (mAnd (mB (m2 eqW (mVar 1) (mC (.str "block")))) (mB (m2 eqW (mCall lenW (mCons (m1 (fldG "Reading" "block_names") (mVar 0)) mNil)) (mC (.int 10))))) (bE "Full" (mCons (mC (.str "a program has at most 10 blocks")) mNil)) sNil) (sIf (mAnd (mB (m2 inW (mVar 1) (mC (.tup ((["put", "say", "ask"]:List Str).map W.str))))) (mB (m2 eqW (mCall lenW (mCons (m1 (fldG "Reading" "statements") (mVar 0)) mNil)) (mC (.int 8))))) (bE "Full" (mCons (mC (.str "a block has at most 8 statements")) mNil)) sNil)))
def ag:List W->M W:=runF 2 am
def aV:Env'->M Fl:=(sSeq (sSet 2 (mMet "Reading" "box_names" 1 bo (mVar 0) mNil)) (sFor (mSrc (mCall (arW 1 aO) (mCons (mVar 1) mNil)) srcL) (tgN 3) (sIf (mB (m2 bS (mVar 3) (mVar 2))) (bE "NoBox" (mCons (m1 (fstW "there is no box ") (mVar 3)) mNil)) sNil)))
def aE:List W->M W:=runF 4 aV
def aD:Env'->M Fl:=(sIf (mB (m2 eqW (m2 ixW (mVar 1) (mC (.int 0))) (mC (.str "box")))) (sEx (mMeth isL bf (m1 (fldG "Reading" "boxes") (mVar 0)) (mCons (mTup (mCons (m2 ixW (mVar 1) (mC (.int 1))) (mCons (m2 ixW (mVar 1) (mC (.int 2))) mNil))) mNil))) (sIf (mB (m2 eqW (m2 ixW (mVar 1) (mC (.int 0))) (mC (.str "block")))) (sSeq (sEx (mMeth isL bf (m1 (fldG "Reading" "block_names") (mVar 0)) (mCons (m2 ixW (mVar 1) (mC (.int 1))) mNil))) (sFldW "Reading" "statements" (mVar 0) (mNew (lenG mNil)))) (sIf (mB (m2 inW (m2 ixW (mVar 1) (mC (.int 0))) (mC (.tup ((["put", "say", "ask"]:List Str).map W.str))))) (sEx (mMeth isL bf (m1 (fldG "Reading" "statements") (mVar 0)) (mCons (mVar 1) mNil))) (sEx (mMeth isL bf (m1 (fldG "Reading" "ended_blocks") (mVar 0)) (mCons (mTup (mCons (m2 ixW (m1 (fldG "Reading" "block_names") (mVar 0)) (m1 negW (mC (.int 1)))) (mCons (m1 iceW (m1 (fldG "Reading" "statements") (mVar 0))) (mCons (mVar 1) mNil)))) mNil))))))
def az:List W->M W:=runF 2 aD
def bP:Env'->M Fl:=(sSeq (sEx (mMet "Reading" "check_place" 2 af (mVar 0) (mCons (m2 ixW (mVar 1) (mC (.int 0))) mNil))) (sSeq (sEx (mMet "Reading" "check_twice" 2 ah (mVar 0) (mCons (mVar 1) mNil))) (sSeq (sEx (mMet "Reading" "check_room" 2 ag (mVar 0) (mCons (m2 ixW (mVar 1) (mC (.int 0))) mNil))) (sSeq (sEx (mMet "Reading" "check_boxes" 2 aE (mVar 0) (mCons (mVar 1) mNil))) (sEx (mMet "Reading" "put_down" 2 az (mVar 0) (mCons (mVar 1) mNil)))))))
def br:List W->M W:=runF 2 bP
def aQ:Env'->M Fl:=(sSeq (sIf (mOr (mB (mMet "Reading" "in_block" 1 a9 (mVar 0) mNil)) (mB (m2 eqW (mCall lenW (mCons (m1 (fldG "Reading" "block_names") (mVar 0)) mNil)) (mC (.int 0))))) (bE "Open" (mCons (mC (.str "the last block has no end, or there is no block")) mNil)) sNil) (sSeq (sSet 1 (mNew (lenG mNil))) (sSeq (sFor (mSrc (m1 (fldG "Reading" "ended_blocks") (mVar 0)) srcL) (tgT [2,3,4]) (sEx (mMeth isL bf (mVar 1) (mCons (mTup (mCons (mVar 2) (mCons (mVar 3) (mCons (mCall (arW 2 aG) (mCons (mVar 4) (mCons (m1 (fldG "Reading" "block_names") (mVar 0)) mNil))) mNil)))) mNil)))) (sRet (mTup (mCons (m1 iceW (m1 (fldG "Reading" "boxes") (mVar 0))) (mCons (m1 iceW (mVar 1)) mNil)))))))
def aR:List W->M W:=runF 5 aQ
def gC:Env'->M Fl:=(sSeq (sSet 1 (mMeth isS splW (mVar 0) (mCons (mC (.str "\n")) mNil))) (sSeq (sIf (mB (m2 gtW (mCall lenW (mCons (mVar 1) mNil)) (mC (.int 120)))) (bE "TooLong" (mCons (mC (.str "a program has at most 120 rows")) mNil)) sNil) (sSeq (sSet 2 (mMake "Reading" 1 bZ mNil)) (sSeq (sFor (mSrc (mVar 1) srcL) (tgN 3) (sEx (mMet "Reading" "take" 2 br (mVar 2) (mCons (mCall (arW 1 cG) (mCons (mVar 3) mNil)) mNil)))) (sRet (mMet "Reading" "told_program" 1 aR (mVar 2) mNil))))))
def eG:List W->M W:=runF 4 gC
def dz:Env'->M Fl:=(sSeq (sIf (mB (m2 ltW (mVar 1) (mCall lenW (mCons (mVar 0) mNil)))) (sRet (m2 ixW (mVar 0) (mVar 1))) sNil) (sRet (mC (.int 0))))
def cL:List W->M W:=runF 2 dz
def fL:Env'->M Fl:=(sSeq (sIf (mB (m2 geW (mVar 0) (m2 powW (mC (.int 10)) (mC (.int 18))))) (sRet (m2 modW (m2 shrW (m2 subW (mVar 0) (m2 powW (mC (.int 10)) (mC (.int 18)))) (m2 mulW (mC (.int 28)) (mVar 1))) (m2 powW (mC (.int 2)) (mC (.int 28))))) sNil) (sSeq (sSet 2 (m2 modW (m2 mulW (m2 addW (m2 addW (mVar 0) (m2 mulW (mC (.int 1013)) (mVar 1))) (mC (.int 1))) (mC (.int 16807))) (mC (.int 2147483647)))) (sSeq (sSet 2 (m2 modW (m2 mulW (mVar 2) (mVar 2)) (mC (.int 2147483629)))) (sRet (m2 fdivW (m2 modW (m2 mulW (mVar 2) (mC (.int 39373))) (mC (.int 2147483587))) (mC (.int 8)))))))
def ao:List W->M W:=runF 3 fL
def gL : Env' -> M Fl := (sSeq (sSet 1 (mNew (lenG (mCons (mC (.str "")) (mCons (mC (.str " ")) (mCons (mC (.str "box")) (mCons (mC (.str "box a")) (mCons (mC (.str "box a 0 5")) (mCons (mC (.str "box a x")) (mCons (mC (.str "box A 0")) (mCons (mC (.str "box a -1")) (mCons (mC (.str "box a 00")) (mCons (mC (.str "box a 05")) mNil))))))))))))) (sSeq (sSet 1 (mNew (catL (mVar 1) (mTl (lenG (mCons (mC (.str "box a +5")) (mCons (mC (.str "box a 1_0")) (mCons (mC (.str "box a 1000")) (mCons (mC (.str "box a 5.0")) (mCons (mC (.str "box  a 0")) (mCons (mC (.str "box a 0 ")) (mCons (mC (.str "Box a 0")) mNil)))))))))))) (sSeq (sSet 1 (mNew (catL (mVar 1) (mTl (lenG (mCons (mC (.str "boxes a 0")) (mCons (mC (.str "box abcdefghi 0")) (mCons (mC (.str "box a1 0")) (mCons (mC (.str "box 0 a")) (mCons (mC (.str "box a a")) (mCons (mC (.str "box a 1+1")) (mCons (mC (.str "block")) mNil)))))))))))) (sSeq (sSet 1 (mNew (catL (mVar 1) (mTl (lenG (mCons (mC (.str "block A")) (mCons (mC (.str "block a b")) (mCons (mC (.str "block a1")) (mCons (mC (.str "block abcdefghi")) (mCons (mC (.str "blocks a")) (mCons (mC (.str "Block a")) (mCons (mC (.str "block ")) mNil)))))))))))) (sSeq (sSet 1 (mNew (catL (mVar 1) (mTl (lenG (mCons (mC (.str " block a")) (mCons (mC (.str "block 1")) (mCons (mC (.str "block -a")) (mCons (mC (.str "put")) (mCons (mC (.str "put a")) (mCons (mC (.str "put a 1 2")) (mCons (mC (.str "put A 1")) (mCons (mC (.str "put a -1")) mNil))))))))))))) (sSeq (sSet 1 (mNew (catL (mVar 1) (mTl (lenG (mCons (mC (.str "put a (1")) (mCons (mC (.str "put a 1)")) (mCons (mC (.str "put a 1+")) (mCons (mC (.str "put a a1")) (mCons (mC (.str "put a 01")) (mCons (mC (.str "put a 1000")) (mCons (mC (.str "put a 1 + 1")) mNil)))))))))))) (sSeq (sSet 1 (mNew (catL (mVar 1) (mTl (lenG (mCons (mC (.str "put 1 a")) (mCons (mC (.str "put a = 1")) (mCons (mC (.str "put zz 1+")) (mCons (mC (.str "put a +1")) (mCons (mC (.str "put a 1--1")) (mCons (mC (.str "put a *1")) (mCons (mC (.str "put a ()")) mNil)))))))))))) (sSeq (sSet 1 (mNew (catL (mVar 1) (mTl (lenG (mCons (mC (.str "put a a(b)")) (mCons (mC (.str "put a 2a")) (mCons (mC (.str "put a 1_0")) (mCons (mC (.str "put a ")) (mCons (mC (.str "put a a/1")) (mCons (mC (.str "say")) (mCons (mC (.str "say 1 2")) (mCons (mC (.str "say A")) mNil))))))))))))) (sSeq (sSet 1 (mNew (catL (mVar 1) (mTl (lenG (mCons (mC (.str "say -1")) (mCons (mC (.str "say 1+")) (mCons (mC (.str "say ")) (mCons (mC (.str "Say 1")) (mCons (mC (.str "says 1")) (mCons (mC (.str "say (1")) (mCons (mC (.str "say \"a\"")) (mCons (mC (.str "say zz 1")) (mCons (mC (.str "ask")) mNil)))))))))))))) (sSeq (sSet 1 (mNew (catL (mVar 1) (mTl (lenG (mCons (mC (.str "ask a b")) (mCons (mC (.str "ask A")) (mCons (mC (.str "ask 1")) (mCons (mC (.str "asks a")) (mCons (mC (.str "ask  a")) (mCons (mC (.str "ask a ")) (mCons (mC (.str "ask (a)")) (mCons (mC (.str "go")) (mCons (mC (.str "go A")) (mCons (mC (.str "go a b")) mNil))))))))))))))) (sSeq (sSet 1 (mNew (catL (mVar 1) (mTl (lenG (mCons (mC (.str "go 1")) (mCons (mC (.str "goto a")) (mCons (mC (.str "go  a")) (mCons (mC (.str "go a ")) (mCons (mC (.str "go abcdefghi")) (mCons (mC (.str "Go a")) (mCons (mC (.str "if")) (mCons (mC (.str "if a < 1")) (mCons (mC (.str "if a < 1 a")) mNil)))))))))))))) (sSeq (sSet 1 (mNew (catL (mVar 1) (mTl (lenG (mCons (mC (.str "if a < 1 a else")) (mCons (mC (.str "if a < 1 a b")) (mCons (mC (.str "if a < 1 a else b c")) (mCons (mC (.str "if a < 1 a else 1")) mNil))))))))) (sSeq (sSet 1 (mNew (catL (mVar 1) (mTl (lenG (mCons (mC (.str "if a < 1 1 else b")) (mCons (mC (.str "if a > 1 a else b")) (mCons (mC (.str "if a <= 1 a else b")) (mCons (mC (.str "if a == 1 a else b")) mNil))))))))) (sSeq (sSet 1 (mNew (catL (mVar 1) (mTl (lenG (mCons (mC (.str "if < a 1 a else b")) (mCons (mC (.str "if a<1 a else b")) (mCons (mC (.str "if a < 1 a Else b")) (mCons (mC (.str "if a < 1 a then b")) mNil))))))))) (sSeq (sSet 1 (mNew (catL (mVar 1) (mTl (lenG (mCons (mC (.str "if a < 1 else a b")) (mCons (mC (.str "if a < 1  a else b")) (mCons (mC (.str "if 1) = 2 a else b")) (mCons (mC (.str "if a1 < 2 a else b")) mNil))))))))) (sSeq (sSet 1 (mNew (catL (mVar 1) (mTl (lenG (mCons (mC (.str "if 1+ < 2 a else b")) (mCons (mC (.str "if a < (1 a else b")) (mCons (mC (.str "if a < a else b")) (mCons (mC (.str "if A < 1 a else b")) mNil))))))))) (sSeq (sSet 1 (mNew (catL (mVar 1) (mTl (lenG (mCons (mC (.str "if zz < 1+ a else b")) (mCons (mC (.str "if -1 < a a else b")) (mCons (mC (.str "if a = -1 a else b")) (mCons (mC (.str "ifs a < 1 a else b")) mNil))))))))) (sSeq (sSet 1 (mNew (catL (mVar 1) (mTl (lenG (mCons (mC (.str "if a < 1 go a")) (mCons (mC (.str "table")) (mCons (mC (.str "table a")) (mCons (mC (.str "table 1")) (mCons (mC (.str "table a b c d e f g h")) (mCons (mC (.str "table A a")) mNil))))))))))) (sSeq (sSet 1 (mNew (catL (mVar 1) (mTl (lenG (mCons (mC (.str "table 1+ a")) (mCons (mC (.str "table a A")) (mCons (mC (.str "table a b 1")) (mCons (mC (.str "table a  b")) (mCons (mC (.str "table a b ")) (mCons (mC (.str "tables a b")) mNil))))))))))) (sSeq (sSet 1 (mNew (catL (mVar 1) (mTl (lenG (mCons (mC (.str "Table a b")) (mCons (mC (.str "table -1 a")) (mCons (mC (.str "table a b else")) (mCons (mC (.str "table (a b")) (mCons (mC (.str "stop 1")) (mCons (mC (.str "stops")) (mCons (mC (.str " stop")) mNil)))))))))))) (sSeq (sSet 1 (mNew (catL (mVar 1) (mTl (lenG (mCons (mC (.str "stop ")) (mCons (mC (.str "Stop")) (mCons (mC (.str "stop stop")) (mCons (mC (.str "end")) (mCons (mC (.str "else")) (mCons (mC (.str "else a")) (mCons (mC (.str "a")) (mCons (mC (.str "1")) (mCons (mC (.str "let a 1")) (mCons (mC (.str "while a < 1")) mNil))))))))))))))) (sSeq (sSet 1 (mNew (catL (mVar 1) (mTl (lenG (mCons (mC (.str "go~a")) (mCons (mC (.str "# a")) mNil))))))) (sSeq (sSet 2 (mTl (lenG (mCons (mC (.str "box")) (mCons (mC (.str "block")) (mCons (mC (.str "put")) (mCons (mC (.str "say")) (mCons (mC (.str "ask")) (mCons (mC (.str "go")) (mCons (mC (.str "if")) (mCons (mC (.str "else")) (mCons (mC (.str "table")) (mCons (mC (.str "stop")) mNil))))))))))))) (sSeq (sSet 3 (m2 ixW (mVar 2) (m2 modW (mCall (arW 2 ao) (mCons (mVar 0) (mCons (mC (.int 75)) mNil))) (mC (.int 10))))) (sSeq (sSet 1 (mNew (catL (mVar 1) (mTl (lenG (mCons (m2 addW (m2 addW (mC (.str "box ")) (mVar 3)) (mC (.str " 0"))) (mCons (m2 addW (mC (.str "block ")) (mVar 3)) (mCons (m2 addW (mC (.str "ask ")) (mVar 3)) (mCons (m2 addW (m2 addW (mC (.str "put ")) (mVar 3)) (mC (.str " 1"))) mNil))))))))) (sSeq (sEx (mMeth isL bf (mVar 1) (mCons (m2 addW (mC (.str "put a ")) (mVar 3)) mNil))) (sSeq (sSet 1 (mNew (catL (mVar 1) (mTl (lenG (mCons (m2 addW (mC (.str "go ")) (mVar 3)) (mCons (m2 addW (mC (.str "say ")) (mVar 3)) (mCons (m2 addW (m2 addW (mC (.str "if ")) (mVar 3)) (mC (.str " < 1 a else b"))) mNil)))))))) (sSeq (sEx (mMeth isL bf (mVar 1) (mCons (m2 addW (m2 addW (mC (.str "if 1 < ")) (mVar 3)) (mC (.str "+1 a else b"))) mNil))) (sSeq (sSet 1 (mNew (catL (mVar 1) (mTl (lenG (mCons (m2 addW (m2 addW (mC (.str "if 1 < 2 ")) (mVar 3)) (mC (.str " else b"))) (mCons (m2 addW (mC (.str "if 1 < 2 a else ")) (mVar 3)) (mCons (m2 addW (mC (.str "table 1 a ")) (mVar 3)) mNil)))))))) (sSeq (sEx (mMeth isL bf (mVar 1) (mCons (m2 addW (m2 addW (mC (.str "table ")) (mVar 3)) (mC (.str " a"))) mNil))) (sSeq (sSet 1 (mNew (catL (mVar 1) (mTl (lenG (mCons (m2 addW (m2 addW (mC (.str "put a ")) (m2 mulW (mC (.str "1+")) (mC (.int 30)))) (mC (.str "1"))) (mCons (m2 addW (m2 addW (m2 addW (mC (.str "say ")) (m2 mulW (mC (.str "(")) (mC (.int 6)))) (mC (.str "a"))) (m2 mulW (mC (.str ")")) (mC (.int 6)))) (mCons (m2 addW (m2 addW (mC (.str "if ")) (m2 mulW (mC (.str "1+")) (mC (.int 30)))) (mC (.str "1 = 2 a else b"))) mNil)))))))) (sSeq (sEx (mMeth isL bf (mVar 1) (mCons (m2 addW (m2 addW (mC (.str "table ")) (m2 mulW (mC (.str "1+")) (mC (.int 30)))) (mC (.str "1 a"))) mNil))) (sRet (m2 ixW (mVar 1) (m2 modW (mCall (arW 2 ao) (mCons (mVar 0) (mCons (mC (.int 70)) mNil))) (mCall lenW (mCons (mVar 1) mNil)))))))))))))))))))))))))))))))))))))
def fg:List W->M W:=runF 4 gL
def dA:Env'->M Fl:=(sSeq (sSet 1 (mCall (arW 2 ao) (mCons (mVar 0) (mCons (mC (.int 80)) mNil)))) (sSeq (sSet 2 (mCall (arW 2 ao) (mCons (mVar 0) (mCons (mC (.int 81)) mNil)))) (sSeq (sSet 3 (m2 ixW (mTl (lenG (mCons (mC (.str "a")) (mCons (mC (.str "ab")) (mCons (mC (.str "b")) (mCons (mC (.str "c")) (mCons (mC (.str "zz")) mNil))))))) (m2 modW (mVar 2) (mC (.int 5))))) (sSeq (sSet 4 (m2 ixW (mTl (lenG (mCons (mC (.str "b")) (mCons (mC (.str "a")) (mCons (mC (.str "ab")) (mCons (mC (.str "abc")) (mCons (mC (.str "d")) mNil))))))) (m2 modW (m2 fdivW (mVar 2) (mC (.int 5))) (mC (.int 5))))) (sSeq (sSet 5 (mTl (lenG (mCons (mC (.str "m")) (mCons (mC (.str "mm")) (mCons (mC (.str "a")) (mCons (mC (.str "n")) (mCons (mC (.str "loop")) (mCons (mC (.str "lo")) (mCons (mC (.str "b")) (mCons (mC (.str "x")) (mCons (mC (.str "y")) (mCons (mC (.str "z")) (mCons (mC (.str "p")) (mCons (mC (.str "q")) mNil))))))))))))))) (sSeq (sSet 6 (mTl (mComp [] (mSrcA (mCons (mC (.int 3)) mNil) rng1) (tgN 0) mYes (m2 ixW (mVar 7) (m2 modW (m2 fdivW (m2 fdivW (mVar 4) (mC (.int 25))) (m2 ixW (mTl (lenG (mCons (mC (.int 1)) (mCons (mC (.int 12)) (mCons (mC (.int 144)) mNil))))) (mVar 0))) (mC (.int 12)))) 2))) (sSeq (sSet 7 (m2 modW (mVar 1) (mC (.int 16)))) (sSeq (sIf (mB (m2 ltW (mVar 7) (mC (.int 3)))) (sRet (mTl (lenG (mCons (m2 addW (m2 addW (m2 addW (mC (.str "box ")) (mVar 3)) (mC (.str " "))) (mCall strW (mCons (m2 modW (m2 fdivW (mVar 2) (mC (.int 25))) (mC (.int 1000))) mNil))) (mCons (mC (.str "box")) (mCons (mVar 3) (mCons (mTl (lenG mNil)) (mCons (mTl (lenG mNil)) mNil)))))))) sNil) (sSeq (sIf (mB (m2 ltW (mVar 7) (mC (.int 6)))) (sRet (mTl (lenG (mCons (m2 addW (mC (.str "block ")) (m2 ixW (mVar 6) (mC (.int 0)))) (mCons (mC (.str "block")) (mCons (m2 ixW (mVar 6) (mC (.int 0))) (mCons (mTl (lenG mNil)) (mCons (mTl (lenG mNil)) mNil)))))))) sNil) (sSeq (sIf (mB (m2 eqW (mVar 7) (mC (.int 6)))) (sRet (mTl (lenG (mCons (m2 addW (mC (.str "ask ")) (mVar 3)) (mCons (mC (.str "ask")) (mCons (mC (.str "")) (mCons (mTl (lenG (mCons (mVar 3) mNil))) (mCons (mTl (lenG mNil)) mNil)))))))) sNil) (sSeq (sIf (mB (m2 ltW (mVar 7) (mC (.int 9)))) (sSeq (sSet 8 (m2 ixW (mTl (lenG (mCons (m2 addW (m2 addW (mC (.str "2*(")) (mVar 4)) (mC (.str "-1)"))) (mCons (mC (.str "7")) (mCons (m2 addW (m2 addW (m2 addW (mVar 4) (mC (.str "+1+"))) (mVar 3)) (mC (.str "*2"))) mNil))))) (m2 modW (m2 fdivW (mVar 2) (mC (.int 250))) (mC (.int 3))))) (sRet (mTl (lenG (mCons (m2 addW (m2 addW (m2 addW (mC (.str "put ")) (mVar 3)) (mC (.str " "))) (mVar 8)) (mCons (mC (.str "put")) (mCons (mC (.str "")) (mCons (m2 ixW (mTl (lenG (mCons (mTl (lenG (mCons (mVar 3) (mCons (mVar 4) mNil)))) (mCons (mTl (lenG (mCons (mVar 3) mNil))) (mCons (mTl (lenG (mCons (mVar 3) (mCons (mVar 4) mNil)))) mNil))))) (m2 modW (m2 fdivW (mVar 2) (mC (.int 250))) (mC (.int 3)))) (mCons (mTl (lenG mNil)) mNil))))))))) sNil) (sSeq (sIf (mB (m2 eqW (mVar 7) (mC (.int 9)))) (sRet (mTl (lenG (mCons (m2 ixW (mTl (lenG (mCons (mC (.str "say 5")) (mCons (m2 addW (mC (.str "say ")) (mVar 3)) mNil)))) (m2 modW (m2 fdivW (mVar 2) (mC (.int 250))) (mC (.int 2)))) (mCons (mC (.str "say")) (mCons (mC (.str "")) (mCons (m2 ixW (mTl (lenG (mCons (mTl (lenG mNil)) (mCons (mTl (lenG (mCons (mVar 3) mNil))) mNil)))) (m2 modW (m2 fdivW (mVar 2) (mC (.int 250))) (mC (.int 2)))) (mCons (mTl (lenG mNil)) mNil)))))))) sNil) (sSeq (sIf (mB (m2 ltW (mVar 7) (mC (.int 12)))) (sRet (mTl (lenG (mCons (m2 addW (mC (.str "go ")) (m2 ixW (mVar 6) (mC (.int 0)))) (mCons (mC (.str "go")) (mCons (mC (.str "")) (mCons (mTl (lenG mNil)) (mCons (m3 slW (mVar 6) aI (mPart (mC (.int 1)))) mNil)))))))) sNil) (sSeq (sIf (mB (m2 eqW (mVar 7) (mC (.int 12)))) (sRet (mTl (lenG (mCons (mC (.str "stop")) (mCons (mC (.str "stop")) (mCons (mC (.str "")) (mCons (mTl (lenG mNil)) (mCons (mTl (lenG mNil)) mNil)))))))) sNil) (sSeq (sIf (mB (m2 eqW (mVar 7) (mC (.int 13)))) (sSeq (sSet 8 (m2 ixW (mTl (lenG (mCons (mC (.str "3")) (mCons (mVar 3) (mCons (m2 addW (mC (.str "1+")) (mVar 4)) mNil))))) (m2 modW (m2 fdivW (mVar 2) (mC (.int 250))) (mC (.int 3))))) (sRet (mTl (lenG (mCons (mMeth isS joinW (mC (.str " ")) (mCons (mTl (catL (mTl (lenG (mCons (mC (.str "table")) (mCons (mVar 8) mNil)))) (mVar 6))) mNil)) (mCons (mC (.str "table")) (mCons (mC (.str "")) (mCons (m2 ixW (mTl (lenG (mCons (mTl (lenG mNil)) (mCons (mTl (lenG (mCons (mVar 3) mNil))) (mCons (mTl (lenG (mCons (mVar 4) mNil))) mNil))))) (m2 modW (m2 fdivW (mVar 2) (mC (.int 250))) (mC (.int 3)))) (mCons (mVar 6) mNil))))))))) sNil) (sSeq (sSet 9 (m2 ixW (mTl (lenG (mCons (mTl (lenG (mCons (mVar 3) (mCons (m2 addW (mC (.str "1+")) (mVar 4)) mNil)))) (mCons (mTl (lenG (mCons (mC (.str "1")) (mCons (mC (.str "2")) mNil)))) (mCons (mTl (lenG (mCons (m2 addW (mC (.str "3*")) (mVar 4)) (mCons (mC (.str "0")) mNil)))) (mCons (mTl (lenG (mCons (mC (.str "0")) (mCons (m2 addW (m2 addW (mC (.str "(")) (mVar 3)) (mC (.str ")"))) mNil)))) mNil)))))) (m2 modW (m2 fdivW (mVar 2) (mC (.int 250))) (mC (.int 4))))) (sSeq (sSet 10 (m2 ixW (mTl (lenG (mCons (mTl (lenG (mCons (mVar 3) (mCons (mVar 4) mNil)))) (mCons (mTl (lenG mNil)) (mCons (mTl (lenG (mCons (mVar 4) mNil))) (mCons (mTl (lenG (mCons (mVar 3) mNil))) mNil)))))) (m2 modW (m2 fdivW (mVar 2) (mC (.int 250))) (mC (.int 4))))) (sSeq (sSet 11 (mTl (lenG (mCons (mC (.str "if")) (mCons (m2 ixW (mVar 9) (mC (.int 0))) (mCons (m2 ixW (mC (.str "<=")) (m2 modW (m2 fdivW (mVar 1) (mC (.int 16))) (mC (.int 2)))) (mCons (m2 ixW (mVar 9) (mC (.int 1))) (mCons (m2 ixW (mVar 6) (mC (.int 0))) (mCons (mC (.str "else")) (mCons (m2 ixW (mVar 6) (mC (.int 1))) mNil)))))))))) (sRet (mTl (lenG (mCons (mMeth isS joinW (mC (.str " ")) (mCons (mVar 11) mNil)) (mCons (mC (.str "if")) (mCons (mC (.str "")) (mCons (mVar 10) (mCons (m3 slW (mVar 6) aI (mPart (mC (.int 2)))) mNil))))))))))))))))))))))))))
def cM:List W->M W:=runF 12 dA
def cS:Env'->M Fl:=(sSeq (sUnp (tgL [2,3,4,5,6]) (mVar 0)) (sSeq (sUnp (tgL [7,8,9,10]) (mVar 1)) (sSeq (sIf (mB (m2 eqW (mVar 3) (mC (.str "box")))) (sSeq (sIf (mB (m2 neW (mVar 8) (mTl (lenG mNil)))) (sRet (mC (.int 2))) sNil) (sSeq (sIf (mB (m2 inW (mVar 4) (mVar 7))) (sRet (mC (.int 3))) sNil) (sRet (m2 ixW (mTl (lenG (mCons (m1 negW (mC (.int 1))) (mCons (mC (.int 4)) mNil)))) (mCall intW (mCons (m2 eqW (mCall lenW (mCons (mVar 7) mNil)) (mC (.int 4))) mNil)))))) sNil) (sSeq (sIf (mB (m2 eqW (mVar 3) (mC (.str "block")))) (sSeq (sIf (mB (mVar 9)) (sRet (mC (.int 2))) sNil) (sSeq (sIf (mB (m2 inW (mVar 4) (mVar 8))) (sRet (mC (.int 3))) sNil) (sRet (m2 ixW (mTl (lenG (mCons (m1 negW (mC (.int 1))) (mCons (mC (.int 4)) mNil)))) (mCall intW (mCons (m2 eqW (mCall lenW (mCons (mVar 8) mNil)) (mC (.int 10))) mNil)))))) sNil) (sSeq (sIf (mNot (mB (mVar 9))) (sRet (mC (.int 2))) sNil) (sSeq (sIf (mAnd (mB (m2 inW (mVar 3) (mTl (lenG (mCons (mC (.str "put")) (mCons (mC (.str "say")) (mCons (mC (.str "ask")) mNil))))))) (mB (m2 eqW (mVar 10) (mC (.int 8))))) (sRet (mC (.int 4))) sNil) (sRet (m2 ixW (mTl (lenG (mCons (m1 negW (mC (.int 1))) (mCons (mC (.int 5)) mNil)))) (mCall intW (mCons (m2 neW (mTl (mComp [] (mSrc (mVar 5) srcL) (tgN 0) (mB (m2 bS (mVar 0) (mVar 9))) (mVar 0) 2)) (mTl (lenG mNil))) mNil))))))))))
def cF:List W->M W:=runF 11 cS
def dY:Env'->M Fl:=(sSeq (sUnp (tgL [2,3,4,5]) (mVar 1)) (sSeq (sIf (mB (m2 eqW (m2 ixW (mVar 0) (mC (.int 1))) (mC (.str "box")))) (sRet (mTl (lenG (mCons (m2 addW (mVar 2) (mTl (lenG (mCons (m2 ixW (mVar 0) (mC (.int 2))) mNil)))) (mCons (mVar 3) (mCons (mVar 4) (mCons (mVar 5) mNil))))))) sNil) (sSeq (sIf (mB (m2 eqW (m2 ixW (mVar 0) (mC (.int 1))) (mC (.str "block")))) (sRet (mTl (lenG (mCons (mVar 2) (mCons (m2 addW (mVar 3) (mTl (lenG (mCons (m2 ixW (mVar 0) (mC (.int 2))) mNil)))) (mCons (mC (.bl true)) (mCons (mC (.int 0)) mNil))))))) sNil) (sSeq (sIf (mB (m2 inW (m2 ixW (mVar 0) (mC (.int 1))) (mTl (lenG (mCons (mC (.str "put")) (mCons (mC (.str "say")) (mCons (mC (.str "ask")) mNil))))))) (sRet (mTl (lenG (mCons (mVar 2) (mCons (mVar 3) (mCons (mVar 4) (mCons (m2 addW (mVar 5) (mC (.int 1))) mNil))))))) sNil) (sRet (mTl (lenG (mCons (mVar 2) (mCons (mVar 3) (mCons (mC (.bl false)) (mCons (mC (.int 0)) mNil)))))))))))
def dZ:List W->M W:=runF 6 dY
def dX:Env'->M Fl:=(sSeq (sSet 1 (mTl (lenG (mCons (mTl (lenG mNil)) (mCons (mTl (lenG mNil)) (mCons (mC (.bl false)) (mCons (mC (.int 0)) mNil))))))) (sSeq (sSet 2 (mTl (lenG mNil))) (sSeq (sFor (mSrc (mVar 0) srcL) (tgN 3) (sSeq (sIf (mB (m2 eqW (m2 ixW (mVar 3) (mC (.int 1))) (mC (.str "bad")))) (sRet (mC (.int 1))) sNil) (sSeq (sSet 4 (mCall (arW 2 cF) (mCons (mVar 3) (mCons (mVar 1) mNil)))) (sSeq (sIf (mB (m2 geW (mVar 4) (mC (.int 0)))) (sRet (mVar 4)) sNil) (sSeq (sSet 1 (mCall (arW 2 dZ) (mCons (mVar 3) (mCons (mVar 1) mNil)))) (sSet 2 (m2 addW (mVar 2) (m2 ixW (mVar 3) (mC (.int 4)))))))))) (sSeq (sIf (mOr (mB (m2 ixW (mVar 1) (mC (.int 2)))) (mB (m2 eqW (m2 ixW (mVar 1) (mC (.int 1))) (mTl (lenG mNil))))) (sRet (mC (.int 6))) sNil) (sRet (m2 ixW (mTl (lenG (mCons (m1 negW (mC (.int 1))) (mCons (mC (.int 7)) mNil)))) (mCall intW (mCons (m2 neW (mTl (mComp [] (mSrc (mVar 2) srcL) (tgN 0) (mB (m2 bS (mVar 0) (m2 ixW (mVar 3) (mC (.int 1))))) (mVar 0) 2)) (mTl (lenG mNil))) mNil))))))))
def db:List W->M W:=runF 5 dX
def b9:Env'->M Fl:=(sSeq (sSet 1 (mNew (lenG mNil))) (sSeq (sTry 2 ["TooLong", "NoRow", "NoPlace", "Twice", "Full", "NoBox", "Open", "NoBlock"] 1 eG (mCons (mVar 0) mNil) (sSeq (sSet 1 (mNew (lenG (mCons (mCall (isxW ["TooLong", "NoRow", "NoPlace", "Twice", "Full", "NoBox", "Open", "NoBlock"]) (mCons (mVar 2) (mCons (mC (.cls "TooLong")) mNil))) (mCons (mCall (isxW ["TooLong", "NoRow", "NoPlace", "Twice", "Full", "NoBox", "Open", "NoBlock"]) (mCons (mVar 2) (mCons (mC (.cls "NoRow")) mNil))) (mCons (mCall (isxW ["TooLong", "NoRow", "NoPlace", "Twice", "Full", "NoBox", "Open", "NoBlock"]) (mCons (mVar 2) (mCons (mC (.cls "NoPlace")) mNil))) (mCons (mCall (isxW ["TooLong", "NoRow", "NoPlace", "Twice", "Full", "NoBox", "Open", "NoBlock"]) (mCons (mVar 2) (mCons (mC (.cls "Twice")) mNil))) mNil))))))) (sSeq (sSet 1 (mNew (catL (mVar 1) (mTl (lenG (mCons (mCall (isxW ["TooLong", "NoRow", "NoPlace", "Twice", "Full", "NoBox", "Open", "NoBlock"]) (mCons (mVar 2) (mCons (mC (.cls "Full")) mNil))) (mCons (mCall (isxW ["TooLong", "NoRow", "NoPlace", "Twice", "Full", "NoBox", "Open", "NoBlock"]) (mCons (mVar 2) (mCons (mC (.cls "NoBox")) mNil))) (mCons (mCall (isxW ["TooLong", "NoRow", "NoPlace", "Twice", "Full", "NoBox", "Open", "NoBlock"]) (mCons (mVar 2) (mCons (mC (.cls "Open")) mNil))) (mCons (mCall (isxW ["TooLong", "NoRow", "NoPlace", "Twice", "Full", "NoBox", "Open", "NoBlock"]) (mCons (mVar 2) (mCons (mC (.cls "NoBlock")) mNil))) mNil))))))))) (sSeq (sSet 1 (mNew (catL (mVar 1) (mTl (lenG (mCons (mCall (isxW ["TooLong", "NoRow", "NoPlace", "Twice", "Full", "NoBox", "Open", "NoBlock"]) (mCons (mVar 2) (mCons (mC (.cls "NoForm")) mNil))) (mCons (mCall (isxW ["TooLong", "NoRow", "NoPlace", "Twice", "Full", "NoBox", "Open", "NoBlock"]) (mCons (mVar 2) (mCons (mC (.cls "NoneYet")) mNil))) (mCons (mCall (isxW ["TooLong", "NoRow", "NoPlace", "Twice", "Full", "NoBox", "Open", "NoBlock"]) (mCons (mVar 2) (mCons (mC (.cls "NoOrder")) mNil))) (mCons (mCall (isxW ["TooLong", "NoRow", "NoPlace", "Twice", "Full", "NoBox", "Open", "NoBlock"]) (mCons (mVar 2) (mCons (mC (.cls "NoWay")) mNil))) mNil))))))))) (sEx (mMeth isL bf (mVar 1) (mCons (mNotV (mCall (isxW ["TooLong", "NoRow", "NoPlace", "Twice", "Full", "NoBox", "Open", "NoBlock"]) (mCons (mVar 2) (mCons (mC (.ty "ValueError")) mNil)))) mNil))))))) (sRet (m1 iceW (mVar 1)))))
def bq:List W->M W:=runF 3 b9
def fO:Env'->M Fl:=(sSeq (sSet 1 (mNew (lenG mNil))) (sSeq (sFor (mSrc (mTl (lenG (mCons (mC (.str "m")) (mCons (mC (.str "mm")) (mCons (mC (.str "a")) (mCons (mC (.str "n")) (mCons (mC (.str "loop")) (mCons (mC (.str "lo")) (mCons (mC (.str "b")) (mCons (mC (.str "x")) (mCons (mC (.str "y")) (mCons (mC (.str "z")) mNil)))))))))))) srcL) (tgN 2) (sSeq (sEx (mMeth isL bf (mVar 1) (mCons (mTl (lenG (mCons (m2 addW (mC (.str "block ")) (mVar 2)) (mCons (mC (.str "block")) (mCons (mVar 2) (mCons (mTl (lenG mNil)) (mCons (mTl (lenG mNil)) mNil))))))) mNil))) (sSeq (sSet 1 (mNew (catL (mVar 1) (mTl (mulL (mTl (lenG (mCons (mTl (lenG (mCons (mC (.str "say 5")) (mCons (mC (.str "say")) (mCons (mC (.str "")) (mCons (mTl (lenG mNil)) (mCons (mTl (lenG mNil)) mNil))))))) mNil))) (mC (.int 8))))))) (sEx (mMeth isL bf (mVar 1) (mCons (mTl (lenG (mCons (mC (.str "go mm")) (mCons (mC (.str "go")) (mCons (mC (.str "")) (mCons (mTl (lenG mNil)) (mCons (mTl (lenG (mCons (mC (.str "mm")) mNil))) mNil))))))) mNil)))))) (sSeq (sSet 3 (mTl (lenG (mCons (mTl (lenG (mCons (mC (.str "block p")) (mCons (mC (.str "block")) (mCons (mC (.str "p")) (mCons (mTl (lenG mNil)) (mCons (mTl (lenG mNil)) mNil))))))) (mCons (mTl (lenG (mCons (mC (.str "say 5")) (mCons (mC (.str "say")) (mCons (mC (.str "")) (mCons (mTl (lenG mNil)) (mCons (mTl (lenG mNil)) mNil))))))) (mCons (mTl (lenG (mCons (mC (.str "stop")) (mCons (mC (.str "stop")) (mCons (mC (.str "")) (mCons (mTl (lenG mNil)) (mCons (mTl (lenG mNil)) mNil))))))) mNil)))))) (sSeq (sSet 4 (m2 modW (mCall (arW 2 ao) (mCons (mVar 0) (mCons (mC (.int 95)) mNil))) (mC (.int 101)))) (sRet (m2 addW (m2 addW (m3 slW (mVar 1) aI (mPart (mVar 4))) (m3 slW (mVar 3) aI (mPart (m2 modW (mCall (arW 2 ao) (mCons (mVar 0) (mCons (mC (.int 96)) mNil))) (mC (.int 3)))))) (m3 slW (mVar 1) (mPart (mVar 4)) aI)))))))
def eH:List W->M W:=runF 5 fO
def pB:Env'->M Fl:=(sSeq (sSet 1 (mNew (lenG mNil))) (sSeq (sFor (mSrc (m3 slW (mVar 0) aI (mPart (mC (.int 63)))) srcL) (tgN 2) (sIf (mB (m2 eqW (m2 modW (mCall (arW 2 ao) (mCons (mVar 2) (mCons (mC (.int 82)) mNil))) (mC (.int 8))) (mC (.int 0)))) (sEx (mMeth isL bf (mVar 1) (mCons (mTl (lenG (mCons (mCall (arW 1 fg) (mCons (mVar 2) mNil)) (mCons (mC (.str "bad")) (mCons (mC (.str "")) (mCons (mTl (lenG mNil)) (mCons (mTl (lenG mNil)) mNil))))))) mNil))) (sEx (mMeth isL bf (mVar 1) (mCons (mCall (arW 1 cM) (mCons (mVar 2) mNil)) mNil))))) (sSeq (sSet 3 (mCall (arW 2 cL) (mCons (mVar 0) (mCons (mC (.int 0)) mNil)))) (sSeq (sIf (mB (m2 eqW (mVar 1) (mTl (lenG mNil)))) (sSet 1 (mNew (lenG (mCons (mTl (lenG (mCons (mC (.str "say 5")) (mCons (mC (.str "say")) (mCons (mC (.str "")) (mCons (mTl (lenG mNil)) (mCons (mTl (lenG mNil)) mNil))))))) mNil)))) sNil) (sSeq (sIf (mB (m2 eqW (m2 modW (mCall (arW 2 ao) (mCons (mVar 3) (mCons (mC (.int 91)) mNil))) (mC (.int 3))) (mC (.int 0)))) (sSeq (sSet 4 (m2 ixW (mTl (lenG (mCons (mC (.int 119)) (mCons (mC (.int 120)) (mCons (mC (.int 121)) (mCons (mC (.int 122)) (mCons (m2 addW (mC (.int 121)) (m2 modW (mCall (arW 2 ao) (mCons (mVar 3) (mCons (mC (.int 92)) mNil))) (mC (.int 280)))) mNil))))))) (m2 modW (mCall (arW 2 ao) (mCons (mVar 3) (mCons (mC (.int 93)) mNil))) (mC (.int 5))))) (sSeq (sSet 1 (m3 slW (m2 mulW (mVar 1) (mVar 4)) aI (mPart (mVar 4)))) (sIf (mB (m2 eqW (m2 modW (mCall (arW 2 ao) (mCons (mVar 3) (mCons (mC (.int 94)) mNil))) (mC (.int 2))) (mC (.int 1)))) (sSet 1 (mCall (arW 1 eH) (mCons (mVar 3) mNil))) sNil))) sNil) (sSeq (sSet 5 (mCall (arW 1 db) (mCons (mVar 1) mNil))) (sSeq (sIf (mB (m2 gtW (mCall lenW (mCons (mVar 1) mNil)) (mC (.int 120)))) (sSet 5 (mC (.int 0))) sNil) (sSeq (sSet 6 (mMeth isS joinW (mC (.str "\n")) (mCons (mTl (mComp [] (mSrc (mVar 1) srcL) (tgN 0) mYes (m2 ixW (mVar 0) (mC (.int 0))) 2)) mNil))) (sRet (m2 eqW (mCall (arW 1 bq) (mCons (mVar 6) mNil)) (mTl (mComp [] (mSrcA (mCons (m2 ixW (mTl (lenG (mCons (mC (.int 13)) (mCons (mC (.int 0)) mNil)))) (mCall intW (mCons (m2 ltW (mVar 5) (mC (.int 0))) mNil))) mNil) rng1) (tgN 0) mYes (m2 eqW (mVar 7) (mVar 0)) 2))))))))))))
def mX:List W->M W:=runF 7 pB
end Q
namespace Q
open PySem L2
local macro_rules | `(tactic| simp! only [$xs,*]) => `(tactic| try simp only [finF,bv,cz,cy,cB,cA,cj,dH,dI,sFor,mMet,aP,sAug,sAugW,sFldW,tupW,sRet,sSet,sNil,sEx,sPass,ck,sCont,sUnp,ci,mB,L2.m2,L2.m1,L2.m3,mVar,mC,mCall,mCons,mNil,mTup,mTl,mNew,lenG,listL,mPart,aI,mAnd,mOr,mNot,mAndV,mOrV,mNotV,mIf,bG,mMeth,isS,mSrc,mSrcA,srcL,srcT,srcS,tgN,tgT,setW,mYes,ba,bd_no,asB_bl,addW_int,subW_int,ltW_int,leW_int,gtW_int,geW_int,eqW_int,eqW_str,neW_int,neW_str,neW_bl,slW_tl,slW_cl,lenW_tl,lenW_tup,negW,List.set_cons_zero,List.set_cons_succ,List.getElem?_cons_zero,List.getElem?_cons_succ,List.length_cons,List.length_nil,arW,if_true,if_false,Bool.false_eq_true,ite_true,ite_false,reduceIte,decide_true,decide_false,Bool.not_true,Bool.not_false,dG,gdn0,gdn1,gdn2,gdn3,gdn4,gdn5,gdn6,gdn7,gdn8,gdn9,gdn10,gdn11,gdn12,gdn13,gdn14,gdn15,gdn16,gdn17,gdn18,gdn19,gdn20,gdn21,gdn22,gdn23,gdn24,$xs,*])
local macro_rules | `(tactic| simp!) => `(tactic| simp! only [aa])
section
theorem sz {n:Nat}(h:n<=100000):n<=sizeLine:=Nat.le_trans h (by decide)
theorem vf (l:List W):lstO (.tl l)=pr l:=rfl
theorem dS (l:List W):srcL (.tl l)=pr ⟨l,fun _=>True⟩:=rfl
theorem j5 (l:List W):i8 [.tl l]=pr (.tup l):=rfl
theorem fX (a b:List W)(h:a.length+b.length<=sizeLine):addW (.tl a) (.tl b)=pr (.tl (a++b)):=by
 show gd (a.length+b.length<=sizeLine) (pr (W.tl (a++b)))=_
 exact ai h
theorem pf (l:List W):lenW [.cl l]=pr (.int l.length):=rfl
noncomputable def Pd:Nat->W->Prop
 |0,_=>False
 |n+1,w=>(∃i,w=.int i)\/(∃z,w=.str z/\PyData.strOk z=true)\/ ∃l,(w=.tup l\/w=.tl l)/\l.length<=1000/\ ∀x∈l,Pd n x
theorem Pd.mono: ∀ {n:Nat}{w:W},Pd n w->Pd (n+1) w
 |n+1,w,p=>by
  rcases p with p|p|⟨l,e,z,p⟩
  ·exact .inl p
  ·exact .inr (.inl p)
  ·exact .inr (.inr ⟨l,e,z,fun x hx=>(p x hx).mono⟩)
theorem Pd.str {n:Nat}{i:Str}(h:PyData.strOk i=true):Pd (n+1) (.str i):=.inr (.inl ⟨i,rfl,h⟩)
theorem Pd.lst {n:Nat}{l:List W}(z:l.length<=1000)(p:∀x∈l,Pd n x):Pd (n+1) (.tl l):=.inr (.inr ⟨l,.inr rfl,z,p⟩)
theorem du {n:Nat}{w:W}{l:List W}(h:Pd n w)(r:∀x∈l,Pd n x): ∀x∈w::l,Pd n x:=fun x hx=>by
 rcases List.mem_cons.mp hx with rfl|hx
 ·exact h
 ·exact r x hx
theorem kX {n:Nat}: ∀x∈([]:List W),Pd n x:=fun x hx=>absurd hx List.not_mem_nil
theorem jt {n:Nat}{h:List Ob}: ∀ (l:List W),(∀x∈l,∃d,dataH h n x=some d/\d.canLay0=true)-> ∃ds,optL (dataH h n) l=some ds/\PyData.canLayAll0 ds=true
 |[],_=>⟨[],rfl,by rw[PyData.canLayAll0]⟩
 |x::l,q=>by
  obtain⟨d,e,c⟩:=q x List.mem_cons_self
  obtain⟨ds,es,cs⟩:=jt l fun y hy=>q y (List.mem_cons_of_mem _ hy)
  refine⟨d::ds,?_,?_⟩
  ·simp only[optL,e,es]
  ·rw[PyData.canLayAll0,c,cs];rfl
theorem Pd.data {h:List Ob}: ∀ {n:Nat}{w:W},Pd n w-> ∃d,dataH h n w=some d/\d.canLay0=true
 |n+1,w,p=>by
  rcases p with⟨i,rfl⟩|⟨z,rfl,hz⟩|⟨l,e,_,p⟩
  ·exact⟨.int i,rfl,by rw[PyData.canLay0]⟩
  ·exact⟨.str z,rfl,by rw[PyData.canLay0];exact hz⟩
  ·obtain⟨ds,es,cs⟩:=jt (h:=h) l fun x hx=>(p x hx).data
   rcases e with rfl|rfl
   ·exact⟨.tuple ds,by show (optL (dataH h n) l).map PyData.tuple=_;rw[es];rfl,by rw[PyData.canLay0];exact cs⟩
   ·exact⟨.list ds,by show (optL (dataH h n) l).map PyData.list=_;rw[es];rfl,by rw[PyData.canLay0];exact cs⟩
inductive E17
 |go (t:Int)
 |iff (s:Str)(a b:W)(x y:Int)
 |table (e:W)(ts:List Int)
 |stop
noncomputable def E17.w:E17->W
 |.go t=>.tup [.str "go",.int t]
 |.iff s a b x y=>.tup [.str "if",.str s,a,b,.int x,.int y]
 |.table e ts=>.tup [.str "table",e,.tup (ts.map W.int)]
 |.stop=>.tup [.str "stop"]
end
section
open Wd
theorem ka:(" ":Str)=⟨#[32]⟩:=by decide+kernel
theorem pb:("\n":Str)=⟨#[10]⟩:=by decide+kernel
structure Cln (z:Str):Prop where
 sp:32 ∉ z.cps.toList
 nl:10 ∉ z.cps.toList
 len:z.length<=60
noncomputable def clnB (z:Str):Bool:=decide (32 ∉ z.cps.toList) && (decide (10 ∉ z.cps.toList) && decide (z.length<=60))
theorem Cln.of {z:Str}(h:clnB z=true):Cln z:=by
 unfold clnB at h
 simp only[Bool.and_eq_true,decide_eq_true_eq] at h
 exact⟨h.1,h.2.1,h.2.2⟩
theorem c9 {z:Str}(h:ak z=true):Cln z:=by
 unfold ak at h
 simp only[Bool.and_eq_true,decide_eq_true_eq,List.all_eq_true] at h
 have q: ∀c∈z.cps.toList,97<=c:=fun c hc=>(isLet_iff.mp (h.2.1 c hc)).1
 exact⟨fun z=>absurd (q _ z) (by decide),fun z=>absurd (q _ z) (by decide),by omega⟩
theorem lc {z:Str}(h:numOk z=true):Cln z:=by
 unfold numOk at h
 simp only[Bool.and_eq_true,decide_eq_true_eq,List.all_eq_true] at h
 have q: ∀c∈z.cps.toList,48<=c:=fun c hc=>(isFig_iff.mp (h.2.2 c hc)).1
 exact⟨fun z=>absurd (q _ z) (by decide),fun z=>absurd (q _ z) (by decide),by omega⟩
noncomputable def exNm:Exp->List Str
 |.num _=>[]
 |.box x=>[x]
 |.bin _ l r=>exNm l++exNm r
noncomputable def exOk:Exp->Bool
 |.num i=>decide (0<=i/\i<1000)
 |.box _=>true
 |.bin s l r=>decide (s∈(["+", "-", "*"]:List Str)) && (exOk l && exOk r)
noncomputable def exDp:Exp->Nat
 |.num _=>0
 |.box _=>0
 |.bin _ l r=>1+max (exDp l) (exDp r)
structure Wrd (z:Str)(e:Exp):Prop where
 ex:exprP z=some e
 c:Cln z
 ok:exOk e=true
 dp:exDp e<=60
 nm:(exNm e).length<=60
theorem sgn_ne:(decide (("+":Str)= "number")=false/\decide (("+":Str)= "box")=false)/\(decide (("-":Str)= "number")=false/\decide (("-":Str)= "box")=false)/\decide (("*":Str)= "number")=false/\decide (("*":Str)= "box")=false:=by decide+kernel
theorem xL:decide (("box":Str)= "number")=false:=by decide+kernel
theorem wN {s:Str}(h:s∈(["+", "-", "*"]:List Str)):decide (s= "number")=false/\decide (s= "box")=false:=by
 simp only[List.mem_cons,List.not_mem_nil,or_false] at h
 rcases h with rfl|rfl|rfl
 ·exact sgn_ne.1
 ·exact sgn_ne.2.1
 ·exact sgn_ne.2.2
theorem jy: ∀ (n:Nat) (e:Exp),exDp e<n->(exNm e).length<=1000->exOk e=true->aU n [expW e]=pr (.tl ((exNm e).map W.str))
 |0,e,h,_,_=>absurd h (Nat.not_lt_zero _)
 |n+1,.num i,_,_,_=>by
  have e0:aU (n+1) [expW (.num i)]=bd (cx (aU n) [some (.tup [.str "number",.int i])]) finF:=rfl
  rw[e0]
  unfold cx
  simp! only[aa,ix0]
  rfl
 |n+1,.box x,_,_,_=>by
  have e0:aU (n+1) [expW (.box x)]=bd (cx (aU n) [some (.tup [.str "box",.str x])]) finF:=rfl
  rw[e0]
  unfold cx
  simp! only[aa,ix0,ix1,xL]
  rfl
 |n+1,.bin s l r,h,z,k=>by
  have h:1+max (exDp l) (exDp r)<n+1:=h
  have z:(exNm l++exNm r).length<=1000:=z
  have k:(decide (s∈(["+", "-", "*"]:List Str)) && (exOk l && exOk r))=true:=k
  rw[List.length_append] at z
  rw[Bool.and_eq_true,Bool.and_eq_true,decide_eq_true_eq] at k
  have e0:aU (n+1) [expW (.bin s l r)]=bd (cx (aU n) [some (.tup [.str s,expW l,expW r])]) finF:=rfl
  rw[e0]
  unfold cx
  have h1:=jy n l (by omega) (by omega) k.2.1
  have h2:=jy n r (by omega) (by omega) k.2.2
  have sn:=wN k.1
  have ad:=fX ((exNm l).map W.str) ((exNm r).map W.str) (by rw[List.length_map,List.length_map];exact sz (by omega))
  simp! only[aa,ix0,ix1,ix2,sn.1,sn.2,h1,h2,ad]
  show pr _=pr (W.tl ((exNm l++exNm r).map W.str))
  rw[List.map_append]
inductive Rr
 |box (nm v:Str)
 |block (nm:Str)
 |put (nm z:Str)(e:Exp)
 |say (z:Str)(e:Exp)
 |ask (nm:Str)
 |go (nm:Str)
 |iff (s z1:Str)(e1:Exp)(z2:Str)(e2:Exp)(x y:Str)
 |table (z:Str)(e:Exp)(xs:List Str)
 |stop
def Rr.ws:Rr->List Str
 |.box nm v=>["box",nm,v]
 |.block nm=>["block",nm]
 |.put nm z _=>["put",nm,z]
 |.say z _=>["say",z]
 |.ask nm=>["ask",nm]
 |.go nm=>["go",nm]
 |.iff s z1 _ z2 _ x y=>["if",z1,s,z2,x, "else",y]
 |.table z _ xs=> "table"::z::xs
 |.stop=>["stop"]
def Rr.tx (r:Rr):Str:=Str.join ⟨#[32]⟩ r.ws
def Rr.form:Rr->W
 |.box nm v=>.tup [.str "box",.str nm,.int (dO v)]
 |.block nm=>.tup [.str "block",.str nm]
 |.put nm _ e=>.tup [.str "put",.str nm,expW e]
 |.say _ e=>.tup [.str "say",expW e]
 |.ask nm=>.tup [.str "ask",.str nm]
 |.go nm=>.tup [.str "go",.str nm]
 |.iff s _ e1 _ e2 x y=>.tup [.str "if",.str s,expW e1,expW e2,.str x,.str y]
 |.table _ e xs=>.tup [.str "table",expW e,.tup (xs.map W.str)]
 |.stop=>.tup [.str "stop"]
def Rr.Ok:Rr->Prop
 |.box nm v=>ak nm=true/\numOk v=true
 |.block nm=>ak nm=true
 |.put nm z e=>ak nm=true/\Wrd z e
 |.say z e=>Wrd z e
 |.ask nm=>ak nm=true
 |.go nm=>ak nm=true
 |.iff s z1 e1 z2 e2 x y=>(s= "<"\/s= "=")/\Wrd z1 e1/\Wrd z2 e2/\ak x=true/\ak y=true
 |.table z e xs=>Wrd z e/\xs≠ []/\xs.length<=6/\ ∀x∈xs,ak x=true
 |.stop=>True
theorem zS:Cln "box"/\Cln "block"/\Cln "put"/\Cln "say"/\Cln "ask"/\Cln "go"/\Cln "if"/\Cln "else"/\Cln "table"/\Cln "stop"/\Cln "<"/\Cln "=":=⟨.of (by decide+kernel),.of (by decide+kernel),.of (by decide+kernel),.of (by decide+kernel),.of (by decide+kernel),.of (by decide+kernel),.of (by decide+kernel),.of (by decide+kernel),.of (by decide+kernel),.of (by decide+kernel),.of (by decide+kernel),.of (by decide+kernel)⟩
theorem eP: ∀z∈([]:List Str),Cln z:=fun z h=>absurd h List.not_mem_nil
theorem aJ {z:Str}{l:List Str}(h:Cln z)(t:∀z∈l,Cln z): ∀y∈z::l,Cln y:=fun y hy=>by
 rcases List.mem_cons.mp hy with rfl|hy
 ·exact h
 ·exact t y hy
theorem Rr.Ok.cln {r:Rr}(g:r.Ok):(∀z∈r.ws,Cln z)/\r.ws≠ []/\r.ws.length<=8:=by
 obtain⟨k1,k2,k3,k4,k5,k6,k7,k8,k9,k10,k11,k12⟩:=zS
 cases r with
 |box nm v=>exact⟨aJ k1 (aJ (c9 g.1) (aJ (lc g.2) eP)),by simp [ws],by simp [ws]⟩
 |block nm=>exact⟨aJ k2 (aJ (c9 g) eP),by simp [ws],by simp [ws]⟩
 |put nm z e=>exact⟨aJ k3 (aJ (c9 g.1) (aJ g.2.c eP)),by simp [ws],by simp [ws]⟩
 |say z e=>exact⟨aJ k4 (aJ g.c eP),by simp [ws],by simp [ws]⟩
 |ask nm=>exact⟨aJ k5 (aJ (c9 g) eP),by simp [ws],by simp [ws]⟩
 |go nm=>exact⟨aJ k6 (aJ (c9 g) eP),by simp [ws],by simp [ws]⟩
 |iff s z1 e1 z2 e2 x y=>
  have hs:Cln s:=by rcases g.1 with rfl|rfl;exact k11;exact k12
  exact⟨aJ k7 (aJ g.2.1.c (aJ hs (aJ g.2.2.1.c (aJ (c9 g.2.2.2.1) (aJ k8 (aJ (c9 g.2.2.2.2) eP)))))),by simp [ws],by simp [ws]⟩
 |table z e xs=>exact⟨aJ k9 (aJ g.1.c fun x hx=>c9 (g.2.2.2 x hx)),by simp [ws],by have:=g.2.2.1;simp [ws];omega⟩
 |stop=>exact⟨aJ k10 eP,by simp [ws],by simp [ws]⟩
theorem i0 {c:Nat}{n:Nat}: ∀ {l:List Str},(∀z∈l,z.length<=n)->(Str.join ⟨#[c]⟩ l).length<=(n+1) * l.length:=fun{l} h=>by
 refine Nat.le_trans (StrLaws.join_length_le _ l) ?_
 have:(l.map (·.length)).sum<=n * l.length:=by
  induction l with
  |nil=>simp
  |cons z l ih=>
   have a:=h z List.mem_cons_self
   have b:=ih fun z hz=>h z (List.mem_cons_of_mem _ hz)
   rw[List.map_cons,List.sum_cons,List.length_cons,Nat.mul_succ]
   omega
 rw[Nat.add_mul,show (⟨#[c]⟩:Str).length=1 from rfl,Nat.mul_one,Nat.one_mul]
 omega
theorem Rr.Ok.len {r:Rr}(g:r.Ok):r.tx.length<=600:=by
 have a:=i0 (c:=32) (n:=60) fun z hz=>(g.cln.1 z hz).len
 have b:=g.cln.2.2
 unfold Rr.tx
 omega
theorem uo {r:Rr}(g:r.Ok):splW (.str r.tx) [.str " "]=pr (.tl (r.ws.map W.str)):=by
 rw[ka]
 exact gr g.cln.2.1 (fun z hz=>(g.cln.1 z hz).sp) (sz (by have:=g.len;unfold Rr.tx at this;omega)) (sz (by have:=g.cln.2.2;omega))
theorem vn {l:List Str}(h:∀z∈l,10 ∉ z.cps.toList):10 ∉ (Str.join ⟨#[32]⟩ l).cps.toList:=by
 induction l with
 |nil=>exact fun z=>by cases z
 |cons x l ih=>
  cases l with
  |nil=>exact h x List.mem_cons_self
  |cons y l=>
   rw[b8,List.mem_append,List.mem_cons,not_or,not_or]
   exact⟨h x List.mem_cons_self,by decide,ih fun z hz=>h z (List.mem_cons_of_mem _ hz)⟩
theorem Rr.Ok.nl {r:Rr}(g:r.Ok):10 ∉ r.tx.cps.toList:=vn fun z hz=>(g.cln.1 z hz).nl
theorem qD {z:Str}(h:ak z=true):eO [.str z]=pr (.bl true):=by
 show gd (z.length<=sizeLine) (pr (W.bl (ak z)))=_
 rw[ai (sz (by have:=(c9 h).len;omega)),h]
theorem sQ {z:Str}(h:numOk z=true):gD [.str z]=pr (.bl true):=by
 show gd (z.length<=sizeLine) (pr (W.bl (numOk z)))=_
 rw[ai (sz (by have:=(lc h).len;omega)),h]
theorem iq {z:Str}{e:Exp}(h:Wrd z e):eS [.str z]=pr (expW e):=by
 show gd (z.length<=sizeLine) (match exprP z with
  |some e=>pr (expW e)
  |none=>fun h=>.ex "NoRow" h)=_
 rw[ai (sz (by have:=h.c.len;omega)),h.ex]
theorem bn {z:Str}(h:ak z=true):a8 [.str z]=pr (.str z):=by
 have e0:a8 [.str z]=bd (ec [some (.str z)]) finF:=rfl
 rw[e0]
 unfold ec
 simp! only[aa,qD h]
theorem vC {z:Str}(h:numOk z=true):intW [.str z]=pr (.int (dO z)):=by
 have a:=mq h
 show (match PySem.intText? z with
  |some n=>gd (z.length<=640) (pr (W.int n))
  |none=>no)=_
 rw[a.1]
 exact ai a.2
theorem la {z:Str}(h:numOk z=true):cT [.str z]=pr (.int (dO z)):=by
 have e0:cT [.str z]=bd (cR [some (.str z)]) finF:=rfl
 rw[e0]
 unfold cR
 simp! only[aa,sQ h,vC h]
theorem tx0 (a:W)(l:List W):ixW (.tl (a::l)) (.int 0)=pr a:=eF (cJ (by decide) rfl)
theorem tx1 (a b:W)(l:List W):ixW (.tl (a::b::l)) (.int 1)=pr b:=eF (cJ (by decide) rfl)
theorem tx2 (a b c:W)(l:List W):ixW (.tl (a::b::c::l)) (.int 2)=pr c:=eF (cJ (by decide) rfl)
theorem tx3 (a b c d:W)(l:List W):ixW (.tl (a::b::c::d::l)) (.int 3)=pr d:=eF (cJ (by decide) rfl)
theorem tx4 (a b c d e:W)(l:List W):ixW (.tl (a::b::c::d::e::l)) (.int 4)=pr e:=eF (cJ (by decide) rfl)
theorem tx5 (a b c d e f:W)(l:List W):ixW (.tl (a::b::c::d::e::f::l)) (.int 5)=pr f:=eF (cJ (by decide) rfl)
theorem tx6 (a b c d e f g:W)(l:List W):ixW (.tl (a::b::c::d::e::f::g::l)) (.int 6)=pr g:=eF (cJ (by decide) rfl)
theorem py {x:Str}{ss:List Str}{h:List Ob}:inB (.str x) (.tup (ss.map W.str)) h=some (decide (x∈ss)):=by
 show (match vOf (.str x),vsOf (ss.map W.str) with
  |some v,some vs=>some (inV v vs)
  |_,_=>none)=_
 rw[eT (k:=V.str) (fun a=>rfl)]
 show some (inV (.str x) (ss.map V.str))=_
 rw[io]
theorem fJ {x:Str}{ss:List Str}:inW (.str x) (.tup (ss.map W.str))=pr (.bl (decide (x∈ss))):=by
 funext h
 unfold inW
 rw[py];rfl
theorem dj {x:Str}{ss:List Str}:bS (.str x) (.tup (ss.map W.str))=pr (.bl (!decide (x∈ss))):=by
 funext h
 unfold bS
 rw[py];rfl
theorem sh {s:Str}(h:s= "<"\/s= "="):bS (.str s) (.tup ((["<", "="]:List Str).map W.str))=pr (.bl false):=by
 rw[dj,decide_eq_true (by simpa using h)];rfl
theorem hds:(decide (("box":Str)= "block")=false/\decide (("box":Str)= "put")=false/\decide (("box":Str)= "say")=false/\decide (("box":Str)= "ask")=false/\decide (("box":Str)= "go")=false/\decide (("box":Str)= "if")=false/\decide (("box":Str)= "table")=false/\decide (("box":Str)= "stop")=false)/\(decide (("block":Str)= "box")=false/\decide (("block":Str)= "put")=false/\decide (("block":Str)= "say")=false/\decide (("block":Str)= "ask")=false/\decide (("block":Str)= "go")=false/\decide (("block":Str)= "if")=false/\decide (("block":Str)= "table")=false/\decide (("block":Str)= "stop")=false)/\(decide (("put":Str)= "box")=false/\decide (("put":Str)= "block")=false/\decide (("put":Str)= "say")=false/\decide (("put":Str)= "ask")=false/\decide (("put":Str)= "go")=false/\decide (("put":Str)= "if")=false/\decide (("put":Str)= "table")=false/\decide (("put":Str)= "stop")=false)/\(decide (("say":Str)= "box")=false/\decide (("say":Str)= "block")=false/\decide (("say":Str)= "put")=false/\decide (("say":Str)= "ask")=false/\decide (("say":Str)= "go")=false/\decide (("say":Str)= "if")=false/\decide (("say":Str)= "table")=false/\decide (("say":Str)= "stop")=false)/\(decide (("ask":Str)= "box")=false/\decide (("ask":Str)= "block")=false/\decide (("ask":Str)= "put")=false/\decide (("ask":Str)= "say")=false/\decide (("ask":Str)= "go")=false/\decide (("ask":Str)= "if")=false/\decide (("ask":Str)= "table")=false/\decide (("ask":Str)= "stop")=false)/\(decide (("go":Str)= "box")=false/\decide (("go":Str)= "block")=false/\decide (("go":Str)= "put")=false/\decide (("go":Str)= "say")=false/\decide (("go":Str)= "ask")=false/\decide (("go":Str)= "if")=false/\decide (("go":Str)= "table")=false/\decide (("go":Str)= "stop")=false)/\(decide (("if":Str)= "box")=false/\decide (("if":Str)= "block")=false/\decide (("if":Str)= "put")=false/\decide (("if":Str)= "say")=false/\decide (("if":Str)= "ask")=false/\decide (("if":Str)= "go")=false/\decide (("if":Str)= "table")=false/\decide (("if":Str)= "stop")=false)/\(decide (("table":Str)= "box")=false/\decide (("table":Str)= "block")=false/\decide (("table":Str)= "put")=false/\decide (("table":Str)= "say")=false/\decide (("table":Str)= "ask")=false/\decide (("table":Str)= "go")=false/\decide (("table":Str)= "if")=false/\decide (("table":Str)= "stop")=false)/\(decide (("stop":Str)= "box")=false/\decide (("stop":Str)= "block")=false/\decide (("stop":Str)= "put")=false/\decide (("stop":Str)= "say")=false/\decide (("stop":Str)= "ask")=false/\decide (("stop":Str)= "go")=false/\decide (("stop":Str)= "if")=false/\decide (("stop":Str)= "table")=false):=⟨by decide+kernel,by decide+kernel,by decide+kernel,by decide+kernel,by decide+kernel,by decide+kernel,by decide+kernel,by decide+kernel,by decide+kernel⟩
theorem dF:(decide (((0+1:Nat):Int)=1)=true/\decide (((0+1:Nat):Int)=2)=false/\decide (((0+1:Nat):Int)=3)=false)/\(decide (((0+1+1:Nat):Int)=2)=true/\decide (((0+1+1:Nat):Int)=3)=false)/\decide (((0+1+1+1:Nat):Int)=3)=true/\decide (((0+1+1+1+1+1+1+1:Nat):Int)=7)=true:=by decide
theorem vN {s z1 z2 x y:Str}{e1 e2:Exp}(g:(Rr.iff s z1 e1 z2 e2 x y).Ok):bQ [.tl ((Rr.iff s z1 e1 z2 e2 x y).ws.map W.str)]=pr (Rr.iff s z1 e1 z2 e2 x y).form:=by
 obtain⟨g1,g2,g3,g4,g5⟩:=g
 have e0:bQ [.tl ((Rr.iff s z1 e1 z2 e2 x y).ws.map W.str)]=bd (bO [some (.tl [.str "if",.str z1,.str s,.str z2,.str x,.str "else",.str y]),none,none,none]) finF:=rfl
 rw[e0]
 unfold bO
 simp! only[aa,tx1,tx2,tx3,tx4,tx5,tx6,sh g1,iq g2,iq g3,bn g4,bn g5]
 rfl
theorem ot {xs:List Str}{ρ:Env'}(h:∀x∈xs,ak x=true):compM (fun _=>True) (tgN 0) mYes (mCall (arW 1 a8) (mCons (mVar 0) mNil)) 2 (xs.map W.str) ρ=pr (xs.map W.str):=by
 have:=fk (t:=tgN 0) (f:=mYes) (e:=mCall (arW 1 a8) (mCons (mVar 0) mNil)) (n:=2) (ρ:=ρ) (b:=fun _=>true) (v:=id) (l:=xs.map W.str) fun w hw=>by
  obtain⟨x,hx,rfl⟩:=List.mem_map.mp hw
  refine⟨_,rfl,rfl,fun _=>?_⟩
  simp! only[List.replicate,List.cons_append,List.nil_append,aa,bn (h x hx),id]
 rw[this,List.map_id,List.filter_eq_self.mpr fun _ _=>rfl]
theorem pC {r:Rr}(g:r.Ok):cG [.str r.tx]=pr r.form:=by
 have e0:cG [.str r.tx]=bd (eg [some (.str r.tx),none,none,none]) finF:=rfl
 rw[e0]
 unfold eg
 have sp:=uo g
 cases r with
 |box nm v=>
  generalize (Rr.box nm v).tx=T at *
  simp! only[aa,sp,Rr.ws,List.map_cons,List.map_nil,tx0,tx1,tx2,bn g.1,la g.2,eq_self,decide_true,dF]
  rfl
 |block nm=>
  generalize (Rr.block nm).tx=T at *
  simp! only[aa,sp,Rr.ws,List.map_cons,List.map_nil,tx0,tx1,tx2,hds,bn g,eq_self,decide_true,dF]
  rfl
 |put nm z e=>
  generalize (Rr.put nm z e).tx=T at *
  simp! only[aa,sp,Rr.ws,List.map_cons,List.map_nil,tx0,tx1,tx2,hds,bn g.1,iq g.2,eq_self,decide_true,dF]
  rfl
 |say z e=>
  generalize (Rr.say z e).tx=T at *
  simp! only[aa,sp,Rr.ws,List.map_cons,List.map_nil,tx0,tx1,tx2,hds,iq g,eq_self,decide_true,dF]
  rfl
 |ask nm=>
  generalize (Rr.ask nm).tx=T at *
  simp! only[aa,sp,Rr.ws,List.map_cons,List.map_nil,tx0,tx1,tx2,hds,bn g,eq_self,decide_true,dF]
  rfl
 |go nm=>
  generalize (Rr.go nm).tx=T at *
  simp! only[aa,sp,Rr.ws,List.map_cons,List.map_nil,tx0,tx1,tx2,hds,bn g,eq_self,decide_true,dF]
  rfl
 |iff s z1 e1 z2 e2 x y=>
  have ce:=vN g
  generalize (Rr.iff s z1 e1 z2 e2 x y).tx=T at *
  generalize (Rr.iff s z1 e1 z2 e2 x y).form=F at *
  simp only[Rr.ws,List.map_cons,List.map_nil] at sp ce
  simp! only[aa,sp,tx0,tx1,tx2,hds,eq_self,decide_true,dF,ce]
 |table z e xs=>
  obtain⟨g1,g2,g3,g4⟩:=g
  generalize (Rr.table z e xs).tx=T at *
  simp only[Rr.ws,List.map_cons] at sp
  have cu:cutW (W.str "table"::W.str z::xs.map W.str) (some 2) none=xs.map W.str:=by
   unfold cutW
   show List.take _ (xs.map W.str)=_
   rw[List.take_of_length_le]
   show _<=(xs.map W.str).length+1+1 - 2
   omega
  have l0:0<xs.length:=List.length_pos_iff.mpr g2
  have gl: ∀ {α:Type} (q:M α),gd ((xs.map W.str).length<=sizeLine) q=q:=fun q=>ai (by rw[List.length_map];exact sz (by omega))
  have c1:decide ((3:Int)<=(((xs.map W.str).length+1+1:Nat):Int))=true:=decide_eq_true (by rw[List.length_map];omega)
  have c2:decide ((((xs.map W.str).length+1+1:Nat):Int)<=2+6)=true:=decide_eq_true (by rw[List.length_map];omega)
  have nc: ∀ρ,_:=fun ρ=>ot (ρ:=ρ) g4
  simp! only[aa,sp,tx0,tx1,hds,eq_self,decide_true,c1,c2,iq g1,cu,aP,dS,gl,nc,j5]
  rfl
 |stop=>
  generalize Rr.stop.tx=T at *
  simp! only[aa,sp,Rr.ws,List.map_cons,List.map_nil,tx0,hds,eq_self,decide_true,dF]
  rfl
end
section
open Wd
noncomputable def fldN:List Str:=["boxes", "block_names", "ended_blocks", "statements"]
theorem fne:(((("block_names":Str)= "boxes")=False)/\((("ended_blocks":Str)= "boxes")=False)/\((("statements":Str)= "boxes")=False)/\((("ended_blocks":Str)= "block_names")=False)/\((("statements":Str)= "block_names")=False)/\((("statements":Str)= "ended_blocks")=False))/\(((("boxes":Str)= "statements")=False)/\((("block_names":Str)= "statements")=False)/\((("ended_blocks":Str)= "statements")=False))/\((("boxes":Str)= "block_names")=False)/\((("boxes":Str)= "ended_blocks")=False)/\((("block_names":Str)= "ended_blocks")=False):=
 ⟨⟨eq_false (by decide+kernel),eq_false (by decide+kernel),eq_false (by decide+kernel),eq_false (by decide+kernel),eq_false (by decide+kernel),eq_false (by decide+kernel)⟩,⟨eq_false (by decide+kernel),eq_false (by decide+kernel),eq_false (by decide+kernel)⟩,eq_false (by decide+kernel),eq_false (by decide+kernel),eq_false (by decide+kernel)⟩
theorem sK (a b c d:W):lookF fldN [a,b,c,d] "boxes"=some a:=by simp only[fldN,lookF,if_true]
theorem ik (a b c d:W):lookF fldN [a,b,c,d] "block_names"=some b:=by simp only[fldN,lookF,fne,if_true,if_false]
theorem vi (a b c d:W):lookF fldN [a,b,c,d] "ended_blocks"=some c:=by simp only[fldN,lookF,fne,if_true,if_false]
theorem vh (a b c d:W):lookF fldN [a,b,c,d] "statements"=some d:=by simp only[fldN,lookF,fne,if_true,if_false]
theorem zZ (a b c d y:W):putN fldN [a,b,c,d] "statements" y=(fldN,[a,b,c,y]):=by simp only[fldN,putN,fne,if_true,if_false]
theorem mt_no:("in_block":Str) ∉ fldN/\("box_names":Str) ∉ fldN/\("check_place":Str) ∉ fldN/\("check_twice":Str) ∉ fldN/\("check_room":Str) ∉ fldN/\("check_boxes":Str) ∉ fldN/\("put_down":Str) ∉ fldN/\("take":Str) ∉ fldN/\("told_program":Str) ∉ fldN:=by decide+kernel
structure RS where
 bx:List (Str×Int)
 nm:List Str
 dn:List (Str×List W×Rr)
 st:List W
noncomputable def bqW (b:Str×Int):W:=.tup [.str b.1,.int b.2]
def dnW (b:Str×List W×Rr):W:=.tup [.str b.1,.tl b.2.1,b.2.2.form]
structure RdAt (h:List Ob)(o jb jn je js:Nat)(s:RS):Prop where
 ob:h[o]?=some (.ins "Reading" fldN [.loc jb,.loc jn,.loc je,.loc js])
 b:h[jb]?=some (.lst (s.bx.map bqW))
 n:h[jn]?=some (.lst (s.nm.map W.str))
 e:h[je]?=some (.lst (s.dn.map dnW))
 st:s.dn.length<s.nm.length->h[js]?=some (.lst s.st)
 ne:o<jb/\jb<jn/\jn<je/\je<js
 z:s.bx.length<=4/\s.nm.length<=10/\s.dn.length<=s.nm.length/\s.st.length<=8/\s.nm.length<=s.dn.length+1
section
variable {h:List Ob}{o jb jn je js:Nat}{s:RS}
theorem eZ (A:RdAt h o jb jn je js s):Ok (a9 [.loc o]) h fun w h'=>w=.bl (decide (s.dn.length<s.nm.length))/\h'=h:=by
 have e0:a9 [.loc o]=bd (bW [some (.loc o)]) finF:=rfl
 rw[e0]
 unfold bW
 simp!
 refine aZ A.ob (ik ..) ?_
 simp!
 refine (Lw.len (.inr ⟨jn,rfl,A.n⟩)) ?_
 simp!
 refine aZ A.ob (vi ..) ?_
 simp!
 refine (Lw.len (.inr ⟨je,rfl,A.e⟩)) ?_
 simp!
 refine aq ⟨?_,rfl⟩
 rw[List.length_map,List.length_map]
 congr 1
 rw[decide_eq_decide]
 omega
theorem gP (A:RdAt h o jb jn je js s):Ok (bo [.loc o]) h fun w h'=>w=.tl ((s.bx.map (·.1)).map W.str)/\h'=h:=by
 have e0:bo [.loc o]=bd (bM [some (.loc o)]) finF:=rfl
 rw[e0]
 unfold bM
 simp!
 refine aZ A.ob (sK ..) ?_
 refine oo A.b ?_
 have gl: ∀ {α:Type} (q:M α),gd ((s.bx.map bqW).length<=sizeLine) q=q:=fun q=>ai (by rw[List.length_map];exact sz (by have:=A.z.1;omega))
 simp! only[aa,gl]
 refine o8 (I:=fun i a h'=>h'=h/\a=((s.bx.take i).map (·.1)).map W.str) ⟨rfl,rfl⟩ i7 (fun _ _ _ I=>by rw[I.1];exact A.b) (fun i w a h' hw I=>?_) fun a h' I=>?_
 ·obtain⟨rfl,rfl⟩:=I
  rw[List.getElem?_map] at hw
  obtain⟨b,hb,rfl⟩:=Option.map_eq_some_iff.mp hw
  refine⟨_,rfl,?_⟩
  simp! only[List.replicate,List.cons_append,List.nil_append,aa]
  refine aq ⟨rfl,?_⟩
  rw[List.take_succ,hb,List.map_append,List.map_append];rfl
 ·obtain⟨rfl,rfl⟩:=I
  rw[List.length_map,List.take_length]
  simp!
  exact aq ⟨rfl,rfl⟩
theorem rL (A:RdAt h o jb jn je js s)(p:s.nm=[]):Ok (af [.loc o,.str "box"]) h fun _ h'=>h'=h:=by
 have e0:af [.loc o,.str "box"]=bd (aj [some (.loc o),some (.str "box")]) finF:=rfl
 rw[e0]
 unfold aj
 simp!
 refine aZ A.ob (ik ..) ?_
 simp!
 refine (Lw.len (.inr ⟨jn,rfl,A.n⟩)) ?_
 have:decide ((0:Int)<(((s.nm.map W.str).length:Nat):Int))=false:=by rw[p];rfl
 simp! only[aa,this]
 exact aq rfl
theorem mh (A:RdAt h o jb jn je js s)(p:s.dn.length=s.nm.length):Ok (af [.loc o,.str "block"]) h fun _ h'=>h'=h:=by
 have e0:af [.loc o,.str "block"]=bd (aj [some (.loc o),some (.str "block")]) finF:=rfl
 rw[e0]
 unfold aj
 simp! only[aa,hds]
 refine bj A.ob mt_no.1 ?_
 simp!
 refine bJ (eZ A) fun w h' qq_=>?_
 obtain⟨ew,eh⟩:=qq_
 subst ew eh
 simp! only[aa,decide_eq_false (show¬s.dn.length<s.nm.length by omega)]
 exact aq rfl
theorem v4 {z:Str}(A:RdAt h o jb jn je js s)(n1:decide (z= "box")=false)(n2:decide (z= "block")=false)(p:s.dn.length<s.nm.length):Ok (af [.loc o,.str z]) h fun _ h'=>h'=h:=by
 have e0:af [.loc o,.str z]=bd (aj [some (.loc o),some (.str z)]) finF:=rfl
 rw[e0]
 unfold aj
 simp! only[aa,n1,n2]
 refine bj A.ob mt_no.1 ?_
 simp!
 refine bJ (eZ A) fun w h' qq_=>?_
 obtain⟨ew,eh⟩:=qq_
 subst ew eh
 simp! only[aa,decide_eq_true p]
 exact aq rfl
theorem qU {nm:Str}{w:W}(A:RdAt h o jb jn je js s)(p:nm ∉ s.bx.map (·.1)):Ok (ah [.loc o,.tup [.str "box",.str nm,w]]) h fun _ h'=>h'=h:=by
 have e0:ah [.loc o,.tup [.str "box",.str nm,w]]=bd (au [some (.loc o),some (.tup [.str "box",.str nm,w])]) finF:=rfl
 rw[e0]
 unfold au
 simp! only[aa,ix0,ix1]
 refine bj A.ob mt_no.2.1 ?_
 simp!
 refine bJ (gP A) fun w h' qq_=>?_
 obtain⟨ew,eh⟩:=qq_
 subst ew eh
 simp! only[aa,dW,decide_eq_false p,hds]
 exact aq rfl
theorem lV {nm:Str}(A:RdAt h o jb jn je js s)(p:nm ∉ s.nm):Ok (ah [.loc o,.tup [.str "block",.str nm]]) h fun _ h'=>h'=h:=by
 have e0:ah [.loc o,.tup [.str "block",.str nm]]=bd (au [some (.loc o),some (.tup [.str "block",.str nm])]) finF:=rfl
 rw[e0]
 unfold au
 simp! only[aa,ix0,ix1,hds]
 refine aZ A.ob (ik ..) ?_
 simp!
 refine v8 A.n ?_
 simp! only[aa,decide_eq_false p]
 exact aq rfl
theorem vV {z:Str}{l:List W}(n1:decide (z= "box")=false)(n2:decide (z= "block")=false):Ok (ah [.loc o,.tup (.str z::l)]) h fun _ h'=>h'=h:=by
 have e0:ah [.loc o,.tup (.str z::l)]=bd (au [some (.loc o),some (.tup (.str z::l))]) finF:=rfl
 rw[e0]
 unfold au
 simp! only[aa,ix0,n1,n2]
 exact aq rfl
theorem stm_no:decide (("box":Str)∈(["put", "say", "ask"]:List Str))=false/\decide (("block":Str)∈(["put", "say", "ask"]:List Str))=false:=by decide+kernel
theorem wU (A:RdAt h o jb jn je js s)(p:s.bx.length<4):Ok (ag [.loc o,.str "box"]) h fun _ h'=>h'=h:=by
 have e0:ag [.loc o,.str "box"]=bd (am [some (.loc o),some (.str "box")]) finF:=rfl
 rw[e0]
 unfold am
 simp!
 refine aZ A.ob (sK ..) ?_
 simp!
 refine (Lw.len (.inr ⟨jb,rfl,A.b⟩)) ?_
 have:decide ((((s.bx.map bqW).length:Nat):Int)=4)=false:=decide_eq_false (by rw[List.length_map];omega)
 simp! only[aa,this,hds,fJ,stm_no.1]
 exact aq rfl
theorem rD (A:RdAt h o jb jn je js s)(p:s.nm.length<10):Ok (ag [.loc o,.str "block"]) h fun _ h'=>h'=h:=by
 have e0:ag [.loc o,.str "block"]=bd (am [some (.loc o),some (.str "block")]) finF:=rfl
 rw[e0]
 unfold am
 simp! only[aa,hds]
 refine aZ A.ob (ik ..) ?_
 simp!
 refine (Lw.len (.inr ⟨jn,rfl,A.n⟩)) ?_
 have:decide ((((s.nm.map W.str).length:Nat):Int)=10)=false:=decide_eq_false (by rw[List.length_map];omega)
 simp! only[aa,this,hds,fJ,stm_no.2]
 exact aq rfl
theorem vZ {z:Str}(A:RdAt h o jb jn je js s)(n1:decide (z= "box")=false)(n2:decide (z= "block")=false)(p:s.dn.length<s.nm.length)(q:z∈(["put", "say", "ask"]:List Str)->s.st.length<8):Ok (ag [.loc o,.str z]) h fun _ h'=>h'=h:=by
 have e0:ag [.loc o,.str z]=bd (am [some (.loc o),some (.str z)]) finF:=rfl
 rw[e0]
 unfold am
 by_cases c:z∈(["put", "say", "ask"]:List Str)
 ·simp! only[aa,n1,n2,fJ,decide_eq_true c]
  refine aZ A.ob (vh ..) ?_
  simp!
  refine (Lw.len (.inr ⟨js,rfl,A.st p⟩)) ?_
  have q:=q c
  have:decide (((s.st.length:Nat):Int)=8)=false:=decide_eq_false (by omega)
  simp! only[aa,this]
  exact aq rfl
 ·simp! only[aa,n1,n2,fJ,decide_eq_false c]
  exact aq rfl
def Rr.bxs:Rr->List Str
 |.put nm _ e=>nm::exNm e
 |.say _ e=>exNm e
 |.ask nm=>[nm]
 |.iff _ _ e1 _ e2 _ _=>exNm e1++exNm e2
 |.table _ e _=>exNm e
 |_=>[]
theorem hZ {z:Str}{e:Exp}(h:Wrd z e):aU 62 [expW e]=pr (.tl ((exNm e).map W.str)):=jy 62 e (by have:=h.dp;omega) (by have:=h.nm;omega) h.ok
theorem mw {r:Rr}(g:r.Ok):aO [r.form]=pr (.tl (r.bxs.map W.str)):=by
 cases r with
 |box nm v=>
  have e0:aO [(Rr.box nm v).form]=bd (av [some (.tup [.str "box",.str nm,.int (dO v)])]) finF:=rfl
  rw[e0];unfold av
  simp! only[aa,ix0,hds]
  rfl
 |block nm=>
  have e0:aO [(Rr.block nm).form]=bd (av [some (.tup [.str "block",.str nm])]) finF:=rfl
  rw[e0];unfold av
  simp! only[aa,ix0,hds]
  rfl
 |put nm z e=>
  have e0:aO [(Rr.put nm z e).form]=bd (av [some (.tup [.str "put",.str nm,expW e])]) finF:=rfl
  rw[e0];unfold av
  have gl: ∀ {α:Type} (q:M α),gd (0+1+((exNm e).map W.str).length<=sizeLine) q=q:=fun q=>ai (by rw[List.length_map];exact sz (by have:=g.2.nm;omega))
  simp! only[aa,ix0,ix1,ix2,hds,hZ g.2,catL,vf,gl]
  rfl
 |say z e=>
  have e0:aO [(Rr.say z e).form]=bd (av [some (.tup [.str "say",expW e])]) finF:=rfl
  rw[e0];unfold av
  simp! only[aa,ix0,ix1,hds,hZ g]
  rfl
 |ask nm=>
  have e0:aO [(Rr.ask nm).form]=bd (av [some (.tup [.str "ask",.str nm])]) finF:=rfl
  rw[e0];unfold av
  simp! only[aa,ix0,ix1,hds]
  rfl
 |go nm=>
  have e0:aO [(Rr.go nm).form]=bd (av [some (.tup [.str "go",.str nm])]) finF:=rfl
  rw[e0];unfold av
  simp! only[aa,ix0,ix1,hds]
  rfl
 |iff s z1 e1 z2 e2 x y=>
  have e0:aO [(Rr.iff s z1 e1 z2 e2 x y).form]=bd (av [some (.tup [.str "if",.str s,expW e1,expW e2,.str x,.str y])]) finF:=rfl
  rw[e0];unfold av
  have ad:=fX ((exNm e1).map W.str) ((exNm e2).map W.str) (by rw[List.length_map,List.length_map];exact sz (by have:=g.2.1.nm;have:=g.2.2.1.nm;omega))
  simp! only[aa,ix0,ix2,ix3,hds,hZ g.2.1,hZ g.2.2.1,ad]
  show pr _=pr (W.tl ((exNm e1++exNm e2).map W.str))
  rw[List.map_append]
 |table z e xs=>
  have e0:aO [(Rr.table z e xs).form]=bd (av [some (.tup [.str "table",expW e,.tup (xs.map W.str)])]) finF:=rfl
  rw[e0];unfold av
  simp! only[aa,ix0,ix1,hds,hZ g.1]
  rfl
 |stop=>
  have e0:aO [(Rr.stop).form]=bd (av [some (.tup [.str "stop"])]) finF:=rfl
  rw[e0];unfold av
  simp! only[aa,ix0,hds]
  rfl
theorem tV {r:Rr}(g:r.Ok)(A:RdAt h o jb jn je js s)(p:∀x∈r.bxs,x∈s.bx.map (·.1)):Ok (aE [.loc o,r.form]) h fun _ h'=>h'=h:=by
 have e0:aE [.loc o,r.form]=bd (aV [some (.loc o),some r.form,none,none]) finF:=rfl
 rw[e0]
 unfold aV
 have ne:=mw g
 generalize r.form=F at *
 simp!
 refine bj A.ob mt_no.2.1 ?_
 simp!
 refine bJ (gP A) fun w h' qq_=>?_
 obtain⟨ew,eh⟩:=qq_
 subst ew eh
 simp! only[aa,ne,dS]
 refine jv (I:=fun i ρ h1=>h1=h'/\ ∃a,ρ=[some (.loc o),some F,some (.tl ((s.bx.map (·.1)).map W.str)),a]) ⟨rfl,_,rfl⟩ (fun _ _ _ _=>trivial) (fun i w ρ h1 hw I=>?_) fun ρ h1 I=>?_
 ·obtain⟨rfl,a,rfl⟩:=I
  rw[List.getElem?_map] at hw
  obtain⟨x,hx,rfl⟩:=Option.map_eq_some_iff.mp hw
  refine⟨_,rfl,?_⟩
  simp! only[aa,eC,decide_eq_true (p x (List.mem_of_getElem? hx))]
  exact aq ⟨_,rfl,rfl,_,rfl⟩
 ·obtain⟨rfl,a,rfl⟩:=I
  simp!
  exact aq rfl
end
end
section
open Wd
def Rr.stm:Rr->Bool
 |.put _ _ _=>true
 |.say _ _=>true
 |.ask _=>true
 |_=>false
noncomputable def Rr.end':Rr->Bool
 |.go _=>true
 |.iff _ _ _ _ _ _ _=>true
 |.table _ _ _=>true
 |.stop=>true
 |_=>false
def RS.step (s:RS)(r:Rr):RS:=match r with
 |.box nm v=>{s with bx:=s.bx++[(nm,dO v)]}
 |.block nm=>{s with nm:=s.nm++[nm],st:=[]}
 |.put nm z e=>{s with st:=s.st++[(Rr.put nm z e).form]}
 |.say z e=>{s with st:=s.st++[(Rr.say z e).form]}
 |.ask nm=>{s with st:=s.st++[(Rr.ask nm).form]}
 |r=>{s with dn:=s.dn++[(s.nm.getLastD "",s.st,r)]}
theorem gp {s:RS}{r:Rr}(h:r.stm=true):s.step r={s with st:=s.st++[r.form]}:=by
 cases r<;>first|rfl|cases h
theorem gq {s:RS}{r:Rr}(h:r.end'=true):s.step r={s with dn:=s.dn++[(s.nm.getLastD "",s.st,r)]}:=by
 cases r<;>first|rfl|cases h
structure PreIn (s:RS)(r:Rr):Prop where
 i:s.dn.length<s.nm.length
 c:r.stm=true->s.st.length<8
 b: ∀x∈r.bxs,x∈s.bx.map (·.1)
noncomputable def Pre (s:RS)(r:Rr):Prop:=match r with
 |.box nm _=>s.nm=[]/\nm ∉ s.bx.map (·.1)/\s.bx.length<4
 |.block nm=>s.dn.length=s.nm.length/\nm ∉ s.nm/\s.nm.length<10
 |r=>PreIn s r
theorem kS {s:RS}{r:Rr}(p:Pre s r)(h:r.stm=true\/r.end'=true):PreIn s r:=by
 cases r<;>first|exact p|(rcases h with h|h<;>cases h)
structure Fo (o:Nat)(h h':List Ob):Prop where
 eq: ∀i,i<o->h'[i]?=h[i]?
 le:h.length<=h'.length
theorem Fo.refl (o:Nat)(h:List Ob):Fo o h h:=⟨fun _ _=>rfl,Nat.le_refl _⟩
theorem Fo.trans {o:Nat}{a b c:List Ob}(x:Fo o a b)(y:Fo o b c):Fo o a c:=⟨fun i hi=>(y.eq i hi).trans (x.eq i hi),Nat.le_trans x.le y.le⟩
theorem Fo.set {o j:Nat}{h:List Ob}{b:Ob}(hj:o<=j):Fo o h (h.set j b):=⟨fun i hi=>by rw[List.getElem?_set_ne (by omega)],by rw[List.length_set];exact Nat.le_refl _⟩
def Rr.hd:Rr->Str
 |.box _ _=> "box"
 |.block _=> "block"
 |.put _ _ _=> "put"
 |.say _ _=> "say"
 |.ask _=> "ask"
 |.go _=> "go"
 |.iff _ _ _ _ _ _ _=> "if"
 |.table _ _ _=> "table"
 |.stop=> "stop"
theorem gM (r:Rr): ∃l,r.form=.tup (.str r.hd::l):=by cases r<;>exact⟨_,rfl⟩
theorem jE {r:Rr}(h:r.stm=true\/r.end'=true):decide (r.hd= "box")=false/\decide (r.hd= "block")=false:=by
 cases r<;>first|(rcases h with h|h<;>cases h;done)|(unfold Rr.hd;simp only[hds];exact⟨trivial,trivial⟩)|(unfold Rr.hd;simp only[hds,and_self])
theorem stm_yes:("put":Str)∈(["put", "say", "ask"]:List Str)/\("say":Str)∈(["put", "say", "ask"]:List Str)/\("ask":Str)∈(["put", "say", "ask"]:List Str):=by decide+kernel
theorem end_no:("go":Str) ∉ (["put", "say", "ask"]:List Str)/\("if":Str) ∉ (["put", "say", "ask"]:List Str)/\("table":Str) ∉ (["put", "say", "ask"]:List Str)/\("stop":Str) ∉ (["put", "say", "ask"]:List Str):=by decide+kernel
theorem lB {r:Rr}(h:r.stm=true):r.hd∈(["put", "say", "ask"]:List Str):=by
 cases r<;>first|exact absurd h Bool.false_ne_true|exact stm_yes.1|exact stm_yes.2.1|exact stm_yes.2.2
theorem jF {r:Rr}(h:r.end'=true):r.hd ∉ (["put", "say", "ask"]:List Str):=by
 cases r<;>first|exact absurd h Bool.false_ne_true|exact end_no.1|exact end_no.2.1|exact end_no.2.2.1|exact end_no.2.2.2
section
variable {h:List Ob}{o jb jn je js:Nat}{s:RS}
theorem xk {nm v:Str}(A:RdAt h o jb jn je js s)(p:Pre s (.box nm v)):Ok (az [.loc o,(Rr.box nm v).form]) h fun _ h'=>RdAt h' o jb jn je js (s.step (.box nm v))/\Fo o h h':=by
 have e0:az [.loc o,(Rr.box nm v).form]=bd (aD [some (.loc o),some (.tup [.str "box",.str nm,.int (dO v)])]) finF:=rfl
 rw[e0]
 unfold aD
 obtain⟨n1,n2,n3,n4⟩:=A.ne
 have p:s.nm=[]/\nm ∉ s.bx.map (·.1)/\s.bx.length<4:=p
 simp! only[aa,ix0]
 refine aZ A.ob (sK ..) ?_
 refine di A.b ?_
 simp! only[aa,ix1,ix2]
 refine dM A.b (by rw[List.length_map];exact Nat.lt_of_le_of_lt (show _<=10 by omega) (by decide)) ?_
 simp!
 refine aq ⟨⟨?_,?_,?_,?_,?_,A.ne,?_⟩,Fo.set (by omega)⟩
 ·rw[List.getElem?_set_ne (by omega)];exact A.ob
 ·rw[cD A.b];show _=some (Ob.lst ((s.bx++[(nm,dO v)]).map bqW));rw[List.map_append];rfl
 ·rw[List.getElem?_set_ne (by omega)];exact A.n
 ·rw[List.getElem?_set_ne (by omega)];exact A.e
 ·intro q;rw[List.getElem?_set_ne (by omega)];exact A.st q
 ·obtain⟨z1,z2,z3,z4,z5⟩:=A.z
  refine⟨?_,z2,z3,z4,z5⟩
  show (s.bx++[_]).length<=4
  rw[List.length_append,List.length_singleton];omega
theorem rV {nm:Str}(A:RdAt h o jb jn je js s)(p:Pre s (.block nm)):Ok (az [.loc o,(Rr.block nm).form]) h fun _ h'=>(∃js',RdAt h' o jb jn je js' (s.step (.block nm)))/\Fo o h h':=by
 have e0:az [.loc o,(Rr.block nm).form]=bd (aD [some (.loc o),some (.tup [.str "block",.str nm])]) finF:=rfl
 rw[e0]
 unfold aD
 obtain⟨n1,n2,n3,n4⟩:=A.ne
 have p:s.dn.length=s.nm.length/\nm ∉ s.nm/\s.nm.length<10:=p
 simp! only[aa,ix0,hds]
 refine aZ A.ob (ik ..) ?_
 refine di A.n ?_
 simp! only[aa,ix1]
 refine dM A.n (by rw[List.length_map];exact Nat.lt_of_le_of_lt (show _<=10 by omega) (by decide)) ?_
 simp!
 refine cP ?_
 simp!
 have le:=da A.e
 have lo:=da A.ob
 have ln:=da A.n
 have eo:(h.set jn (.lst (s.nm.map W.str++[.str nm]))++[.lst []])[o]?=some (.ins "Reading" fldN [.loc jb,.loc jn,.loc je,.loc js]):=by
  rw[List.getElem?_append_left (by rw[List.length_set];exact lo),List.getElem?_set_ne (by omega)];exact A.ob
 refine se eo (by show 4<1000;decide) (zZ ..) ?_
 simp!
 have hl:(h.set jn (.lst (s.nm.map W.str++[.str nm]))).length=h.length:=List.length_set ..
 refine aq ⟨⟨h.length,⟨?_,?_,?_,?_,?_,?_,?_⟩⟩,⟨fun i hi=>?_,?_⟩⟩
 ·rw[cD eo,hl]
 ·rw[List.getElem?_set_ne (by omega),List.getElem?_append_left (by rw[hl];exact da A.b),List.getElem?_set_ne (by omega)];exact A.b
 ·rw[List.getElem?_set_ne (by omega),List.getElem?_append_left (by rw[hl];exact ln),cD A.n];show _=some (Ob.lst ((s.nm++[nm]).map W.str));rw[List.map_append];rfl
 ·rw[List.getElem?_set_ne (by omega),List.getElem?_append_left (by rw[hl];exact le),List.getElem?_set_ne (by omega)];exact A.e
 ·intro _
  rw[List.getElem?_set_ne (by omega)]
  have:=bC (h:=h.set jn (.lst (s.nm.map W.str++[.str nm]))) (a:=.lst [])
  rw[hl] at this
  exact this
 ·exact⟨n1,n2,n3,le⟩
 ·obtain⟨z1,z2,z3,z4,z5⟩:=A.z
  refine⟨z1,?_,?_,Nat.zero_le _,?_⟩
  ·show (s.nm++[nm]).length<=10
   rw[List.length_append,List.length_singleton];omega
  ·show s.dn.length<=(s.nm++[nm]).length
   rw[List.length_append,List.length_singleton];omega
  ·show (s.nm++[nm]).length<=s.dn.length+1
   rw[List.length_append,List.length_singleton];omega
 ·rw[List.getElem?_set_ne (by omega),List.getElem?_append_left (by rw[hl];omega),List.getElem?_set_ne (by omega)]
 ·rw[List.length_set,List.length_append,hl];omega
theorem xh {r:Rr}(q:r.stm=true)(A:RdAt h o jb jn je js s)(p:PreIn s r):Ok (az [.loc o,r.form]) h fun _ h'=>RdAt h' o jb jn je js (s.step r)/\Fo o h h':=by
 rw[gp q]
 have nh:=jE (r:=r) (.inl q)
 have st:=lB q
 obtain⟨l,e⟩:=gM r
 rw[e]
 have e0:az [.loc o,.tup (.str r.hd::l)]=bd (aD [some (.loc o),some (.tup (.str r.hd::l))]) finF:=rfl
 rw[e0]
 unfold aD
 obtain⟨n1,n2,n3,n4⟩:=A.ne
 have pr':=p.c q
 simp! only[aa,ix0,nh.1,nh.2,fJ,decide_eq_true st]
 refine aZ A.ob (vh ..) ?_
 refine di (A.st p.i) ?_
 simp!
 refine dM (A.st p.i) (Nat.lt_of_le_of_lt (show _<=10 by omega) (by decide)) ?_
 simp!
 refine aq ⟨⟨?_,?_,?_,?_,?_,A.ne,?_⟩,Fo.set (by omega)⟩
 ·rw[List.getElem?_set_ne (by omega)];exact A.ob
 ·rw[List.getElem?_set_ne (by omega)];exact A.b
 ·rw[List.getElem?_set_ne (by omega)];exact A.n
 ·rw[List.getElem?_set_ne (by omega)];exact A.e
 ·intro _;rw[cD (A.st p.i)]
 ·obtain⟨z1,z2,z3,z4,z5⟩:=A.z
  refine⟨z1,z2,z3,?_,z5⟩
  show (s.st++[_]).length<=8
  rw[List.length_append,List.length_singleton];omega
theorem oE {l:List Str}(h:l≠ []):atI (l.map W.str) (-1)=some (.str (l.getLastD "")):=by
 have e:l=l.dropLast++[l.getLast h]:=(List.dropLast_concat_getLast h).symm
 have g:l.getLastD ""=l.getLast h:=by
  cases l with
  |nil=>exact absurd rfl h
  |cons a l=>rw[List.getLastD_cons,List.getLast_eq_getLastD]
 rw[g]
 conv=>lhs;rw[e,List.map_append]
 exact uc _ _
theorem xj {r:Rr}(q:r.end'=true)(A:RdAt h o jb jn je js s)(p:PreIn s r):Ok (az [.loc o,r.form]) h fun _ h'=>RdAt h' o jb jn je js (s.step r)/\Fo o h h':=by
 rw[gq q]
 have nh:=jE (r:=r) (.inr q)
 have st:=jF q
 obtain⟨l,e⟩:=gM r
 have ie: ∀x,W.tup [.str x,.tl s.st,.tup (.str r.hd::l)]=dnW (x,s.st,r):=fun x=>by unfold dnW;rw[<-e]
 rw[e]
 have e0:az [.loc o,.tup (.str r.hd::l)]=bd (aD [some (.loc o),some (.tup (.str r.hd::l))]) finF:=rfl
 rw[e0]
 unfold aD
 obtain⟨n1,n2,n3,n4⟩:=A.ne
 obtain⟨z1,z2,z3,z4,z5⟩:=A.z
 have pi:=p.i
 have nn:s.nm≠ []:=fun z=>by rw[z] at pi;simp at pi
 simp! only[aa,ix0,nh.1,nh.2,fJ,decide_eq_false st]
 refine aZ A.ob (vi ..) ?_
 refine di A.e ?_
 simp!
 refine aZ A.ob (ik ..) ?_
 simp!
 refine v7 A.n (oE nn) ?_
 simp!
 refine aZ A.ob (vh ..) ?_
 refine ju (A.st pi) ?_
 have e2:(h.set js .gone)[je]?=some (.lst (s.dn.map dnW)):=by rw[List.getElem?_set_ne (by omega)];exact A.e
 simp!
 refine dM e2 (by rw[List.length_map];exact Nat.lt_of_le_of_lt (show _<=10 by omega) (by decide)) ?_
 simp!
 refine aq ⟨⟨?_,?_,?_,?_,?_,A.ne,?_⟩,(Fo.set (by omega)).trans (Fo.set (by omega))⟩
 ·rw[List.getElem?_set_ne (by omega),List.getElem?_set_ne (by omega)];exact A.ob
 ·rw[List.getElem?_set_ne (by omega),List.getElem?_set_ne (by omega)];exact A.b
 ·rw[List.getElem?_set_ne (by omega),List.getElem?_set_ne (by omega)];exact A.n
 ·rw[cD e2,ie];show _=some (Ob.lst ((s.dn++[_]).map dnW));rw[List.map_append];rfl
 ·intro q
  have q:(s.dn++[_]).length<s.nm.length:=q
  rw[List.length_append,List.length_singleton] at q
  omega
 ·refine⟨z1,z2,?_,z4,?_⟩
  ·show (s.dn++[_]).length<=s.nm.length
   rw[List.length_append,List.length_singleton];omega
  ·show s.nm.length<=(s.dn++[_]).length+1
   rw[List.length_append,List.length_singleton];omega
theorem gb (r:Rr):(∃nm v,r=.box nm v)\/(∃nm,r=.block nm)\/r.stm=true\/r.end'=true:=by
 cases r<;>first|exact .inl ⟨_,_,rfl⟩|exact .inr (.inl ⟨_,rfl⟩)|exact .inr (.inr (.inl rfl))|exact .inr (.inr (.inr rfl))
theorem oR {r:Rr}(g:r.Ok)(A:RdAt h o jb jn je js s)(p:Pre s r):Ok (br [.loc o,r.form]) h fun w h'=>w=.non/\(∃js',RdAt h' o jb jn je js' (s.step r))/\Fo o h h':=by
 have e0:br [.loc o,r.form]=bd (bP [some (.loc o),some r.form]) finF:=rfl
 rw[e0]
 unfold bP
 obtain⟨m1,m2,m3,m4,m5,m6,m7,m8,m9⟩:=mt_no
 have st:Ok (af [.loc o,.str r.hd]) h (fun _ h'=>h'=h)/\Ok (ah [.loc o,r.form]) h (fun _ h'=>h'=h)/\Ok (ag [.loc o,.str r.hd]) h (fun _ h'=>h'=h)/\Ok (aE [.loc o,r.form]) h (fun _ h'=>h'=h)/\Ok (az [.loc o,r.form]) h fun _ h'=>(∃js',RdAt h' o jb jn je js' (s.step r))/\Fo o h h':=by
  rcases gb r with⟨nm,v,rfl⟩|⟨nm,rfl⟩|q
  ·have p':s.nm=[]/\nm ∉ s.bx.map (·.1)/\s.bx.length<4:=p
   exact⟨rL A p'.1,qU A p'.2.1,wU A p'.2.2,tV g A (fun x hx=>absurd hx List.not_mem_nil),(xk A p).imp fun _ _ ⟨a,b⟩=>⟨⟨_,a⟩,b⟩⟩
  ·have p':s.dn.length=s.nm.length/\nm ∉ s.nm/\s.nm.length<10:=p
   exact⟨mh A p'.1,lV A p'.2.1,rD A p'.2.2,tV g A (fun x hx=>absurd hx List.not_mem_nil),rV A p⟩
  ·have pi:=kS p q
   have nh:=jE q
   obtain⟨l,e⟩:=gM r
   refine⟨v4 A nh.1 nh.2 pi.i,by rw[e];exact vV nh.1 nh.2,vZ A nh.1 nh.2 pi.i fun hm=>?_,tV g A pi.b,?_⟩
   ·rcases q with q|q
    ·exact pi.c q
    ·exact absurd hm (jF q)
   ·rcases q with q|q
    ·exact (xh q A pi).imp fun _ _ ⟨a,b⟩=>⟨⟨_,a⟩,b⟩
    ·exact (xj q A pi).imp fun _ _ ⟨a,b⟩=>⟨⟨_,a⟩,b⟩
 obtain⟨s1,s2,s3,s4,s5⟩:=st
 have ih:ixW r.form (.int 0)=pr (.str r.hd):=by obtain⟨l,e⟩:=gM r;rw[e];exact ix0 ..
 generalize r.form=F at *
 simp!
 refine bj A.ob m3 ?_
 simp! only[aa,ih]
 refine bJ s1 fun _ h1 eh=>?_
 subst eh
 simp!
 refine bj A.ob m4 ?_
 simp!
 refine bJ s2 fun _ h1 eh=>?_
 subst eh
 simp!
 refine bj A.ob m5 ?_
 simp! only[aa,ih]
 refine bJ s3 fun _ h1 eh=>?_
 subst eh
 simp!
 refine bj A.ob m6 ?_
 simp!
 refine bJ s4 fun _ h1 eh=>?_
 subst eh
 simp!
 refine bj A.ob m7 ?_
 simp!
 refine bJ s5 fun _ h1 q=>?_
 simp!
 exact aq ⟨rfl,q⟩
end
end
section
open Wd
noncomputable def ixOf (l:List Str)(x:Str):Nat:=(l.findIdx? (fun m=>decide (m=x))).getD 0
theorem qB {l:List Str}{x:Str}(h:x∈l):l.findIdx? (fun m=>decide (m=x))=some (ixOf l x)/\ixOf l x<l.length:=by
 unfold ixOf
 cases e:l.findIdx? (fun m=>decide (m=x)) with
 |none=>
  rw[List.findIdx?_eq_none_iff] at e
  have:=e x h
  simp at this
 |some i=>
  refine⟨rfl,?_⟩
  rw[List.findIdx?_eq_some_iff_getElem] at e
  exact e.1
def Rr.en (l:List Str):Rr->E17
 |.go nm=>.go (ixOf l nm:Nat)
 |.iff s _ e1 _ e2 x y=>.iff s (expW e1) (expW e2) (ixOf l x:Nat) (ixOf l y:Nat)
 |.table _ e xs=>.table (expW e) (xs.map fun x=>((ixOf l x:Nat):Int))
 |_=>.stop
noncomputable def Rr.tos:Rr->List Str
 |.go nm=>[nm]
 |.iff _ _ _ _ _ x y=>[x,y]
 |.table _ _ xs=>xs
 |_=>[]
section
variable {h:List Ob}{jn:Nat}{ss:List Str}
theorem mo {β:Type}{Q:β->List Ob->Prop}{j:Nat}{x:Str}{ss:List Str}{k:W->M β}(e:h[j]?=some (.lst (ss.map W.str)))(q:Ok (k (.bl (!decide (x∈ss)))) h Q):Ok (bd (bS (.str x) (.loc j)) k) h Q:=by
 refine aY (a:=.bl (!decide (x∈ss))) (h':=h) ?_ q
 unfold bS
 have d:dicOf (.loc j) h=none:=by unfold dicOf;simp only[e]
 have lo:lstOf (.loc j) h=.ok (ss.map W.str) h:=by unfold lstOf;simp only[e]
 have e:inB (.str x) (.loc j) h=some (decide (x∈ss)):=by
  unfold inB
  simp only[d,lo,eT (g:=W.str) (k:=V.str) (fun a=>rfl) ss]
  show some (inV (.str x) (ss.map V.str))=_
  rw[io]
 rw[e]
theorem eE {j:Nat}{l:List W}(e:h[j]?=some (.lst l)):lstO (.loc j) h=.ok l h:=by
 unfold lstO
 simp only[e]
theorem eU {x:Str}(e:h[jn]?=some (.lst (ss.map W.str)))(m:x∈ss):Ok (bY [.str x,.loc jn]) h fun w h'=>w=.int (ixOf ss x:Nat)/\h'=h:=by
 have e0:bY [.str x,.loc jn]=bd (dm [some (.str x),some (.loc jn)]) finF:=rfl
 rw[e0]
 unfold dm
 simp!
 refine mo e ?_
 simp! only[aa,decide_eq_true m,isLO]
 refine aY (eE e) ?_
 simp! only[aa,sidxW]
 refine aY (eE e) ?_
 have o:optL sOf (ss.map W.str)=some ss:=jq (f:=sOf) (g:=W.str) (fun a=>rfl) ss
 rw[o]
 dsimp only
 rw[(qB m).1]
 simp!
 exact aq ⟨rfl,rfl⟩
theorem sl64 (a b c d e f:W):slW (.tup [a,b,c,d,e,f]) none (some 4)=pr (.tup [a,b,c,d]):=by
 show gd (¬(HT.sIx 6 0 none=0/\HT.sIx 6 6 (some 4)=6)) (pr (W.tup (cutW [a,b,c,d,e,f] none (some 4))))=_
 rw[ai (by decide)];rfl
theorem yT (a b c d e f:W):addW (.tup [a,b,c,d]) (.tup [e,f])=pr (.tup [a,b,c,d,e,f]):=by
 show gd _ (pr (W.tup ([a,b,c,d]++[e,f])))=_
 rw[ai ⟨rfl,sz (by show 4+2<=_;omega)⟩];rfl
theorem pL {r:Rr}(q:r.end'=true)(e:h[jn]?=some (.lst (ss.map W.str)))(g:r.Ok)(m:∀x∈r.tos,x∈ss):Ok (aG [r.form,.loc jn]) h fun w h'=>w=(r.en ss).w/\h'=h:=by
 cases r with
 |go nm=>
  have e0:aG [(Rr.go nm).form,.loc jn]=bd (ax [some (.tup [.str "go",.str nm]),some (.loc jn)]) finF:=rfl
  rw[e0];unfold ax
  simp! only[aa,ix0,ix1,hds]
  refine bJ (eU e (m nm List.mem_cons_self)) fun w h' qq_=>?_
  obtain⟨ew,eh⟩:=qq_
  subst ew eh
  simp!
  exact aq ⟨rfl,rfl⟩
 |iff s z1 e1 z2 e2 x y=>
  have e0:aG [(Rr.iff s z1 e1 z2 e2 x y).form,.loc jn]=bd (ax [some (.tup [.str "if",.str s,expW e1,expW e2,.str x,.str y]),some (.loc jn)]) finF:=rfl
  rw[e0];unfold ax
  simp! only[aa,ix0,ix4,ix5,hds,sl64]
  refine bJ (eU e (m x List.mem_cons_self)) fun w h' qq_=>?_
  obtain⟨ew,eh⟩:=qq_
  subst ew eh
  simp! only[aa,ix5]
  refine bJ (eU e (m y (List.mem_cons_of_mem _ List.mem_cons_self))) fun w h' qq_=>?_
  obtain⟨ew,eh⟩:=qq_
  subst ew eh
  simp! only[aa,yT]
  exact aq ⟨rfl,rfl⟩
 |table z e1 xs=>
  have e0:aG [(Rr.table z e1 xs).form,.loc jn]=bd (ax [some (.tup [.str "table",expW e1,.tup (xs.map W.str)]),some (.loc jn)]) finF:=rfl
  rw[e0];unfold ax
  have gl: ∀ {α:Type} (q:M α),gd ((xs.map W.str).length<=sizeLine) q=q:=fun q=>ai (by rw[List.length_map];exact sz (by have:=g.2.2.1;omega))
  simp! only[aa,ix0,ix1,ix2,hds,gl]
  refine o8 (I:=fun i a h'=>h'=h/\a=((xs.take i).map fun x=>((ixOf ss x:Nat):Int)).map W.int) ⟨rfl,rfl⟩ i7 (fun _ _ _ _=>trivial) (fun i w a h' hw I=>?_) fun a h' I=>?_
  ·obtain⟨rfl,rfl⟩:=I
   rw[List.getElem?_map] at hw
   obtain⟨x,hx,rfl⟩:=Option.map_eq_some_iff.mp hw
   refine⟨_,rfl,?_⟩
   simp! only[List.replicate,List.cons_append,List.nil_append,aa]
   refine (eU e (m x (List.mem_of_getElem? hx))).imp fun w h2 qz=>?_
   obtain⟨ew,eh⟩:=qz
   subst ew eh
   refine⟨rfl,?_⟩
   rw[List.take_succ,hx,List.map_append,List.map_append];rfl
  ·obtain⟨rfl,rfl⟩:=I
   rw[List.length_map,List.take_length]
   simp! only[aa,j5]
   exact aq ⟨rfl,rfl⟩
 |stop=>
  have e0:aG [Rr.stop.form,.loc jn]=bd (ax [some (.tup [.str "stop"]),some (.loc jn)]) finF:=rfl
  rw[e0];unfold ax
  simp! only[aa,ix0,hds]
  exact aq ⟨rfl,rfl⟩
 |_=>cases q
end
def bkW (l:List Str)(b:Str×List W×Rr):W:=.tup [.str b.1,.tl b.2.1,(b.2.2.en l).w]
structure EndsOk (s:RS):Prop where
 l:s.dn.length=s.nm.length
 l1:1<=s.nm.length
 e: ∀b∈s.dn,b.2.2.end'=true/\b.2.2.Ok/\ ∀x∈b.2.2.tos,x∈s.nm
theorem uh {h:List Ob}{o jb jn je js:Nat}{s:RS}(A:RdAt h o jb jn je js s)(E:EndsOk s):Ok (aR [.loc o]) h fun w h'=>w=.tup [.tl (s.bx.map bqW),.tl (s.dn.map (bkW s.nm))]/\Fo o h h':=by
 have e0:aR [.loc o]=bd (aQ [some (.loc o),none,none,none,none]) finF:=rfl
 rw[e0]
 unfold aQ
 obtain⟨n1,n2,n3,n4⟩:=A.ne
 obtain⟨z1,z2,z3,z4,z5⟩:=A.z
 have el:=E.l
 have el1:=E.l1
 have lo:=da A.ob
 have lb:=da A.b
 have ln:=da A.n
 have le:=da A.e
 simp!
 refine bj A.ob mt_no.1 ?_
 simp!
 refine bJ (eZ A) fun w h' qq_=>?_
 obtain⟨ew,eh⟩:=qq_
 subst ew eh
 simp! only[aa,decide_eq_false (show¬s.dn.length<s.nm.length by omega)]
 refine aZ A.ob (ik ..) ?_
 simp!
 refine (Lw.len (.inr ⟨jn,rfl,A.n⟩)) ?_
 have d0:decide ((((s.nm.map W.str).length:Nat):Int)=0)=false:=decide_eq_false (by rw[List.length_map];omega)
 simp! only[aa,d0]
 refine cP ?_
 have ap: ∀ {j:Nat}{b:Ob},h'[j]?=some b->(h'++[.lst []])[j]?=some b:=fun e=>pA e
 simp!
 refine aZ (ap A.ob) (vi ..) ?_
 refine oo (ap A.e) ?_
 simp!
 refine jv (I:=fun i ρ h1=> ∃a b c,ρ=[some (.loc o),some (.loc h'.length),a,b,c]/\h1.length=h'.length+1/\(∀j,j<h'.length->h1[j]?=h'[j]?)/\h1[h'.length]?=some (.lst ((s.dn.take i).map (bkW s.nm)))) ⟨_,_,_,rfl,by simp,fun j hj=>by rw[List.getElem?_append_left hj],bC⟩ (fun _ _ _ I=>by obtain⟨a,b,c,_,_,q,_⟩:=I;rw[q _ le];exact A.e) (fun i w ρ h1 hw I=>?_) fun ρ h1 I=>?_
 ·obtain⟨a,b,c,rfl,l1,q1,q2⟩:=I
  rw[List.getElem?_map] at hw
  obtain⟨⟨nm,sts,r⟩,hb,rfl⟩:=Option.map_eq_some_iff.mp hw
  obtain⟨r1,r2,r3⟩:=E.e _ (List.mem_of_getElem? hb)
  have hi:=(List.getElem?_eq_some_iff.mp hb).1
  refine⟨[some (.loc o),some (.loc h'.length),some (.str nm),some (.tl sts),some r.form],rfl,?_⟩
  have en:h1[jn]?=some (.lst (s.nm.map W.str)):=by rw[q1 _ ln];exact A.n
  have eo:h1[o]?=some (.ins "Reading" fldN [.loc jb,.loc jn,.loc je,.loc js]):=by rw[q1 _ lo];exact A.ob
  have eb:=pL r1 en r2 r3
  generalize r.form=F at *
  simp!
  refine di q2 ?_
  simp!
  refine aZ eo (ik ..) ?_
  simp!
  refine bJ eb fun w h2 qq_=>?_
  obtain⟨ew,eh⟩:=qq_
  subst ew eh
  simp!
  refine dM q2 (by rw[List.length_map,List.length_take];exact Nat.lt_of_le_of_lt (show _<=10 by omega) (by decide)) ?_
  simp!
  refine aq ⟨_,rfl,_,_,_,rfl,by rw[List.length_set];exact l1,fun j hj=>by rw[List.getElem?_set_ne (by omega)];exact q1 j hj,?_⟩
  rw[cD q2,List.take_succ,hb,List.map_append];rfl
 ·obtain⟨a,b,c,rfl,l1,q1,q2⟩:=I
  rw[List.length_map,List.take_length] at q2
  have eo:h1[o]?=some (.ins "Reading" fldN [.loc jb,.loc jn,.loc je,.loc js]):=by rw[q1 _ lo];exact A.ob
  have eb:h1[jb]?=some (.lst (s.bx.map bqW)):=by rw[q1 _ lb];exact A.b
  simp!
  refine aZ eo (sK ..) ?_
  refine ju eb ?_
  have q3:(h1.set jb .gone)[h'.length]?=some (.lst (s.dn.map (bkW s.nm))):=by rw[List.getElem?_set_ne (by omega)];exact q2
  simp!
  refine ju q3 ?_
  simp!
  refine aq ⟨rfl,fun i hi=>?_,?_⟩
  ·rw[List.getElem?_set_ne (by omega),List.getElem?_set_ne (by omega)];exact q1 i (by omega)
  ·rw[List.length_set,List.length_set,l1];omega
def OkR:List Rr->RS->Prop
 |[],_=>True
 |r::rs,s=>(r.Ok/\Pre s r)/\OkR rs (s.step r)
def runR (rs:List Rr)(s:RS):RS:=rs.foldl RS.step s
theorem o9: ∀ {a:List Rr}{s:RS},OkR a s-> ∀r∈a,r.Ok
 |[],_,_,r,h=>absurd h List.not_mem_nil
 |x::a,s,g,r,h=>by
  rcases List.mem_cons.mp h with rfl|h
  ·exact g.1.1
  ·exact o9 g.2 r h
noncomputable def RS.nil:RS:=⟨[],[],[],[]⟩
section
variable {β:Type}{h:List Ob}{Q:β->List Ob->Prop}
theorem lf {L:List Ob}{k:W->M β}{l:List W}{n:Nat}(hn:L.length=n)(q:Ok (k (.loc (h.length+n))) (h++(L++[.lst l])) Q):Ok (bd (newW l) k) (h++L) Q:=by
 refine cP ?_
 rw[List.length_append,List.append_assoc,hn]
 exact q
theorem kQ {L:List Ob}{c f:Str}{ns ns':List Str}{ws ws':List W}{y:W}{k:Unit->M β}(z:ns.length<1000)(e2:putN ns ws f y=(ns',ws'))(q:Ok (k ()) (h++.ins c ns' ws'::L) Q):Ok (bd (putG c f (.loc h.length) y) k) (h++.ins c ns ws::L) Q:=by
 refine se (by rw[List.getElem?_append_right (Nat.le_refl _),Nat.sub_self];rfl) z e2 ?_
 rw[List.set_append_right _ _ (Nat.le_refl _),Nat.sub_self]
 exact q
end
theorem pw (h:List Ob):Ok (bZ [.loc h.length]) (h++[.ins "Reading" [] []]) fun w h'=>w=.non/\RdAt h' h.length (h.length+1) (h.length+2) (h.length+3) (h.length+4) RS.nil/\Fo h.length h h':=by
 have e0:bZ [.loc h.length]=bd (bX [some (.loc h.length)]) finF:=rfl
 rw[e0]
 unfold bX
 simp!
 refine lf (n:=1) rfl ?_
 simp! only[List.cons_append,List.nil_append,aa]
 refine kQ (by show 0<1000;decide) (ns':=["boxes"]) (ws':=[.loc (h.length+1)]) rfl ?_
 simp!
 refine lf (n:=2) rfl ?_
 simp! only[List.cons_append,List.nil_append,aa]
 refine kQ (by show 1<1000;decide) (ns':=["boxes", "block_names"]) (ws':=[.loc (h.length+1),.loc (h.length+2)]) (by simp only[putN,fne,if_false]) ?_
 simp!
 refine lf (n:=3) rfl ?_
 simp! only[List.cons_append,List.nil_append,aa]
 refine kQ (by show 2<1000;decide) (ns':=["boxes", "block_names", "ended_blocks"]) (ws':=[.loc (h.length+1),.loc (h.length+2),.loc (h.length+3)]) (by simp only[putN,fne,if_false]) ?_
 simp!
 refine lf (n:=4) rfl ?_
 simp! only[List.cons_append,List.nil_append,aa]
 refine kQ (by show 3<1000;decide) (ns':=fldN) (ws':=[.loc (h.length+1),.loc (h.length+2),.loc (h.length+3),.loc (h.length+4)]) (by simp only[fldN,putN,fne,if_false]) ?_
 simp!
 have at': ∀ (L:List Ob) (k:Nat),(h++L)[h.length+k]?=L[k]?:=fun L k=>by rw[List.getElem?_append_right (by omega)];congr 1;omega
 refine aq ⟨rfl,⟨at' _ 0,at' _ 1,at' _ 2,at' _ 3,fun _=>at' _ 4,⟨by omega,by omega,by omega,by omega⟩,⟨Nat.zero_le _,Nat.zero_le _,Nat.le_refl _,Nat.zero_le _,Nat.zero_le _⟩⟩,⟨fun i hi=>List.getElem?_append_left hi,by rw[List.length_append];omega⟩⟩
def textR (rs:List Rr):Str:=Str.join ⟨#[10]⟩ (rs.map Rr.tx)
theorem ux {h:List Ob}{rs:List Rr}(K:OkR rs RS.nil)(E:EndsOk (runR rs RS.nil))(l1:rs≠ [])(l2:rs.length<=120):Ok (eG [.str (textR rs)]) h fun w h'=>w=.tup [.tl ((runR rs RS.nil).bx.map bqW),.tl ((runR rs RS.nil).dn.map (bkW (runR rs RS.nil).nm))]/\Fo h.length h h':=by
 have e0:eG [.str (textR rs)]=bd (gC [some (.str (textR rs)),none,none,none]) finF:=rfl
 rw[e0]
 unfold gC
 have all:=o9 K
 have hz: ∀z∈rs.map Rr.tx,z.length<=600:=fun z hz=>by
  obtain⟨r,hr,rfl⟩:=List.mem_map.mp hz
  exact (all r hr).len
 have sp:splW (.str (textR rs)) [.str "\n"]=pr (.tl ((rs.map Rr.tx).map W.str)):=by
  rw[pb]
  refine gr (fun z=>l1 (List.map_eq_nil_iff.mp z)) (fun z hz=>?_) (Nat.le_trans (i0 hz) ?_) (sz (by rw[List.length_map];omega))
  ·obtain⟨r,hr,rfl⟩:=List.mem_map.mp hz
   exact (all r hr).nl
  ·rw[List.length_map];exact sz (by omega)
 generalize textR rs=T at *
 have d0:decide ((120:Int)<((((rs.map Rr.tx).map W.str).length:Nat):Int))=false:=decide_eq_false (by rw[List.length_map,List.length_map];omega)
 simp! only[aa,sp,d0,mMake]
 refine o7 (by rfl) (pw h) fun h1 qz=>?_
 obtain⟨A,F1⟩:=qz
 simp! only[aa,dS]
 generalize h.length+1=jb at *
 generalize h.length+2=jn at *
 generalize h.length+3=je at *
 generalize h.length+4=js at *
 generalize ho:h.length=o at *
 have m8:=mt_no.2.2.2.2.2.2.2.1
 have m9:=mt_no.2.2.2.2.2.2.2.2
 refine jv (I:=fun i ρ h2=> ∃a js s,ρ=[some (.str T),some (.tl ((rs.map Rr.tx).map W.str)),some (.loc o),a]/\RdAt h2 o jb jn je js s/\OkR (rs.drop i) s/\runR (rs.drop i) s=runR rs RS.nil/\Fo o h h2) ⟨_,js,RS.nil,rfl,A,K,rfl,F1⟩ (fun _ _ _ _=>trivial) (fun i w ρ h2 hw I=>?_) fun ρ h2 I=>?_
 ·obtain⟨a,js,s,rfl,A,K,er,F2⟩:=I
  rw[List.getElem?_map,List.getElem?_map] at hw
  obtain⟨x,hx,rfl⟩:=Option.map_eq_some_iff.mp hw
  obtain⟨r,hr,rfl⟩:=Option.map_eq_some_iff.mp hx
  have hi:=(List.getElem?_eq_some_iff.mp hr).1
  have ed:rs.drop i=r::rs.drop (i+1):=by
   rw[List.drop_eq_getElem_cons hi]
   congr 1
   exact Option.some.inj ((List.getElem?_eq_getElem hi).symm.trans hr)
  rw[ed] at K er
  obtain⟨⟨g,p⟩,K⟩:=K
  have fe:=pC g
  have tk:=oR g A p
  refine⟨_,rfl,?_⟩
  generalize r.form=F at *
  generalize r.tx=X at *
  simp!
  refine bj A.ob m8 ?_
  simp! only[aa,fe]
  refine bJ tk fun w h3 qq_=>?_
  obtain⟨ew,⟨js',A'⟩,F3⟩:=qq_
  subst ew
  simp!
  exact aq ⟨_,rfl,_,js',_,rfl,A',K,er,F2.trans F3⟩
 ·obtain⟨a,js,s,rfl,A,K,er,F2⟩:=I
  rw[List.length_map,List.length_map,List.drop_length] at er
  have er:s=runR rs RS.nil:=er
  subst er
  simp!
  refine bj A.ob m9 ?_
  simp!
  refine bJ (uh A E) fun w h3 qq_=>?_
  obtain⟨ew,F3⟩:=qq_
  subst ew
  simp!
  exact aq ⟨rfl,F2.trans F3⟩
end
section
open Wd
def Xc {α:Type}(m:M α)(h:List Ob)(c:Str):Prop:= ∃h',m h=.ex c h'
section
variable {α β:Type}{m:M α}{k:α->M β}{h:List Ob}{c:Str}
theorem gE {P:α->List Ob->Prop}(p:Ok m h P)(q:∀a h',P a h'->Xc (k a) h' c):Xc (bd m k) h c:=by
 obtain⟨a,h',e,r⟩:=p
 obtain⟨h2,e2⟩:=q a h' r
 exact⟨h2,by unfold bd;rw[e];exact e2⟩
theorem bK (p:Xc m h c):Xc (bd m k) h c:=by
 obtain⟨h2,e2⟩:=p
 exact⟨h2,by unfold bd;rw[e2]⟩
theorem ub (m:M α):bd m pr=m:=by
 funext h
 unfold bd pr
 cases m h<;>rfl
theorem bu {w:α}{h2:List Ob}(p:Ok (bd m pr) h fun a h'=>a=w/\h'=h2)(q:Xc (k w) h2 c):Xc (bd m k) h c:=by
 rw[ub] at p
 exact gE p fun a h' ⟨e1,e2⟩=>by subst e1 e2;exact q
theorem wr {x:Str}{l:Env'->M (List W)}{ρ:Env'}{ws:List W}(e:l ρ=pr ws)(z:ws.length<=sizeLine):Xc (bE x l ρ) h x:=by
 refine⟨h,?_⟩
 unfold bE
 rw[e,ba,ai z]
theorem bR {x:Str}{l:Env'->M (List W)}{ρ:Env'}{k:Fl->M β}{ws:List W}(e:l ρ=pr ws)(z:ws.length<=sizeLine):Xc (bd (bE x l ρ) k) h x:=bK (wr e z)
end
section
variable {h:List Ob}{o jb jn je js:Nat}{s:RS}
theorem uB (A:RdAt h o jb jn je js s)(p:s.nm≠ []):Xc (af [.loc o,.str "box"]) h "NoPlace":=by
 have e0:af [.loc o,.str "box"]=bd (aj [some (.loc o),some (.str "box")]) finF:=rfl
 rw[e0]
 unfold aj
 simp!
 refine bu (aZ A.ob (ik ..) (aq ⟨rfl,rfl⟩)) ?_
 simp!
 refine bu (Lw.len (.inr ⟨jn,rfl,A.n⟩) (aq ⟨rfl,rfl⟩)) ?_
 have:decide ((0:Int)<(((s.nm.map W.str).length:Nat):Int))=true:=decide_eq_true (by rw[List.length_map];have:=List.length_pos_iff.mpr p;omega)
 simp! only[aa,this]
 exact bR rfl (by decide)
theorem qh (A:RdAt h o jb jn je js s)(p:s.dn.length<s.nm.length):Xc (af [.loc o,.str "block"]) h "NoPlace":=by
 have e0:af [.loc o,.str "block"]=bd (aj [some (.loc o),some (.str "block")]) finF:=rfl
 rw[e0]
 unfold aj
 simp! only[aa,hds]
 refine bu (bj A.ob mt_no.1 (aq ⟨rfl,rfl⟩)) ?_
 simp!
 refine gE (eZ A) fun w h' qz=>?_
 obtain⟨ew,eh⟩:=qz
 subst ew eh
 simp! only[aa,decide_eq_true p]
 exact bR rfl (by decide)
theorem w9 {z:Str}(A:RdAt h o jb jn je js s)(n1:decide (z= "box")=false)(n2:decide (z= "block")=false)(p:¬s.dn.length<s.nm.length):Xc (af [.loc o,.str z]) h "NoPlace":=by
 have e0:af [.loc o,.str z]=bd (aj [some (.loc o),some (.str z)]) finF:=rfl
 rw[e0]
 unfold aj
 simp! only[aa,n1,n2]
 refine bu (bj A.ob mt_no.1 (aq ⟨rfl,rfl⟩)) ?_
 simp!
 refine gE (eZ A) fun w h' qz=>?_
 obtain⟨ew,eh⟩:=qz
 subst ew eh
 simp! only[aa,decide_eq_false p]
 exact bR rfl (by decide)
theorem ug {nm:Str}{w:W}(A:RdAt h o jb jn je js s)(p:nm∈s.bx.map (·.1)):Xc (ah [.loc o,.tup [.str "box",.str nm,w]]) h "Twice":=by
 have e0:ah [.loc o,.tup [.str "box",.str nm,w]]=bd (au [some (.loc o),some (.tup [.str "box",.str nm,w])]) finF:=rfl
 rw[e0]
 unfold au
 simp! only[aa,ix0,ix1]
 refine bu (bj A.ob mt_no.2.1 (aq ⟨rfl,rfl⟩)) ?_
 simp!
 refine gE (gP A) fun w h' qz=>?_
 obtain⟨ew,eh⟩:=qz
 subst ew eh
 simp! only[aa,dW,decide_eq_true p,hds]
 exact bR rfl (by decide)
theorem p4 {nm:Str}(A:RdAt h o jb jn je js s)(p:nm∈s.nm):Xc (ah [.loc o,.tup [.str "block",.str nm]]) h "Twice":=by
 have e0:ah [.loc o,.tup [.str "block",.str nm]]=bd (au [some (.loc o),some (.tup [.str "block",.str nm])]) finF:=rfl
 rw[e0]
 unfold au
 simp! only[aa,ix0,ix1,hds]
 refine bu (aZ A.ob (ik ..) (aq ⟨rfl,rfl⟩)) ?_
 simp!
 refine bu (v8 A.n (aq ⟨rfl,rfl⟩)) ?_
 simp! only[aa,decide_eq_true p]
 exact bR rfl (by decide)
theorem uw (A:RdAt h o jb jn je js s)(p:s.bx.length=4):Xc (ag [.loc o,.str "box"]) h "Full":=by
 have e0:ag [.loc o,.str "box"]=bd (am [some (.loc o),some (.str "box")]) finF:=rfl
 rw[e0]
 unfold am
 simp!
 refine bu (aZ A.ob (sK ..) (aq ⟨rfl,rfl⟩)) ?_
 simp!
 refine bu (Lw.len (.inr ⟨jb,rfl,A.b⟩) (aq ⟨rfl,rfl⟩)) ?_
 have:decide ((((s.bx.map bqW).length:Nat):Int)=4)=true:=decide_eq_true (by rw[List.length_map];omega)
 simp! only[aa,this,hds,fJ,stm_no.1]
 exact bR rfl (by decide)
theorem qd (A:RdAt h o jb jn je js s)(p:s.nm.length=10):Xc (ag [.loc o,.str "block"]) h "Full":=by
 have e0:ag [.loc o,.str "block"]=bd (am [some (.loc o),some (.str "block")]) finF:=rfl
 rw[e0]
 unfold am
 simp! only[aa,hds]
 refine bu (aZ A.ob (ik ..) (aq ⟨rfl,rfl⟩)) ?_
 simp!
 refine bu (Lw.len (.inr ⟨jn,rfl,A.n⟩) (aq ⟨rfl,rfl⟩)) ?_
 have:decide ((((s.nm.map W.str).length:Nat):Int)=10)=true:=decide_eq_true (by rw[List.length_map];omega)
 simp! only[aa,this,hds,fJ,stm_no.2]
 exact bR rfl (by decide)
theorem wT {z:Str}(A:RdAt h o jb jn je js s)(n1:decide (z= "box")=false)(n2:decide (z= "block")=false)(p:s.dn.length<s.nm.length)(c:z∈(["put", "say", "ask"]:List Str))(q:s.st.length=8):Xc (ag [.loc o,.str z]) h "Full":=by
 have e0:ag [.loc o,.str z]=bd (am [some (.loc o),some (.str z)]) finF:=rfl
 rw[e0]
 unfold am
 simp! only[aa,n1,n2,fJ,decide_eq_true c]
 refine bu (aZ A.ob (vh ..) (aq ⟨rfl,rfl⟩)) ?_
 simp!
 refine bu (Lw.len (.inr ⟨js,rfl,A.st p⟩) (aq ⟨rfl,rfl⟩)) ?_
 have:decide (((s.st.length:Nat):Int)=8)=true:=decide_eq_true (by omega)
 simp! only[aa,this]
 exact bR rfl (by decide)
end
theorem tD {G:List Ob->Prop}{t:W->Env'->Option Env'}{g:Env'->M Fl}{c:Str}(I:Nat->Env'->List Ob->Prop)(l:List W)(j:Nat)(hj:j<l.length)(hG: ∀i ρ h,I i ρ h->G h)
  (hs: ∀i w ρ h,i<j->l[i]?=some w->I i ρ h-> ∃r,t w ρ=some r/\Ok (g r) h fun x h'=> ∃r',x=.nx r'/\I (i+1) r' h')
  (hx: ∀w ρ h,l[j]?=some w->I j ρ h-> ∃r,t w ρ=some r/\Xc (g r) h c):
  ∀ (m:List W) (n:Nat) (ρ:Env') (h:List Ob),l.drop n=m->n<=j->I n ρ h->Xc (L2.forM G t g m ρ) h c
 |[],n,ρ,h,e,hn,i=>by
  have:l.length<=n:=List.drop_eq_nil_iff.mp e
  omega
 |w::m,n,ρ,h,e,hn,i=>by
  have hw:l[n]?=some w:=by
   have:=congrArg List.head? e
   rw[List.head?_drop,List.head?_cons] at this
   exact this
  have em:l.drop (n+1)=m:=by rw[<-List.tail_drop,e];rfl
  by_cases q:n=j
  ·subst q
   obtain⟨r,e1,h2,e2⟩:=hx w ρ h hw i
   refine⟨h2,?_⟩
   unfold L2.forM
   rw[bL (hG _ _ _ i),e1]
   dsimp only
   unfold bd
   rw[e2]
  ·obtain⟨r,e1,x,h',e2,r',rfl,i'⟩:=hs n w ρ h (by omega) hw i
   obtain⟨h2,e3⟩:=tD I l j hj hG hs hx m (n+1) r' h' em (by omega) i'
   refine⟨h2,?_⟩
   unfold L2.forM
   rw[bL (hG _ _ _ i),e1]
   dsimp only
   rw[df e2]
   exact e3
theorem yA {β:Type}{G:List Ob->Prop}{t:W->Env'->Option Env'}{g:Env'->M Fl}{l:List W}{ρ:Env'}{h:List Ob}{k:Fl->M β}{c:Str}(I:Nat->Env'->List Ob->Prop)(j:Nat)(hj:j<l.length)(h0:I 0 ρ h)(hG: ∀i ρ h,I i ρ h->G h)
  (hs: ∀i w ρ h,i<j->l[i]?=some w->I i ρ h-> ∃r,t w ρ=some r/\Ok (g r) h fun x h'=> ∃r',x=.nx r'/\I (i+1) r' h')
  (hx: ∀w ρ h,l[j]?=some w->I j ρ h-> ∃r,t w ρ=some r/\Xc (g r) h c):Xc (bd (L2.forM G t g l ρ) k) h c:=
 bK (tD I l j hj hG hs hx l 0 ρ h rfl (Nat.zero_le _) h0)
theorem pW {G:List Ob->Prop}{t:W->Env'->Option Env'}{f:Env'->M Bool}{g:Env'->M W}{b:Nat}{ρ:Env'}{c:Str}(I:Nat->List W->List Ob->Prop)(l:List W)(j:Nat)(hj:j<l.length)(hf: ∀r,f r=pr true)(hG: ∀i a h,I i a h->G h)
  (hs: ∀i w a h,i<j->l[i]?=some w->I i a h-> ∃r,t w (List.replicate b none++ρ)=some r/\Ok (g r) h fun v h'=>I (i+1) (a++[v]) h')
  (hx: ∀w a h,l[j]?=some w->I j a h-> ∃r,t w (List.replicate b none++ρ)=some r/\Xc (g r) h c):
  ∀ (m:List W) (n:Nat) (a:List W) (h:List Ob),l.drop n=m->n<=j->I n a h->Xc (compM G t f g b m ρ) h c
 |[],n,a,h,e,hn,i=>by
  have:l.length<=n:=List.drop_eq_nil_iff.mp e
  omega
 |w::m,n,a,h,e,hn,i=>by
  have hw:l[n]?=some w:=by
   have:=congrArg List.head? e
   rw[List.head?_drop,List.head?_cons] at this
   exact this
  have em:l.drop (n+1)=m:=by rw[<-List.tail_drop,e];rfl
  by_cases q:n=j
  ·subst q
   obtain⟨r,e1,h2,e2⟩:=hx w a h hw i
   refine⟨h2,?_⟩
   unfold compM
   rw[bL (hG _ _ _ i),e1]
   dsimp only
   rw[hf,bd_pr,if_pos rfl]
   unfold bd
   rw[e2]
  ·obtain⟨r,e1,v,h',e2,i'⟩:=hs n w a h (by omega) hw i
   obtain⟨h2,e3⟩:=pW I l j hj hf hG hs hx m (n+1) (a++[v]) h' em (by omega) i'
   refine⟨h2,?_⟩
   unfold compM
   rw[bL (hG _ _ _ i),e1]
   dsimp only
   rw[hf,bd_pr,if_pos rfl,df e2]
   unfold bd
   rw[e3]
theorem pJ {β:Type}{G:List Ob->Prop}{t:W->Env'->Option Env'}{f:Env'->M Bool}{g:Env'->M W}{b:Nat}{l:List W}{ρ:Env'}{h:List Ob}{k:List W->M β}{c:Str}(I:Nat->List W->List Ob->Prop)(j:Nat)(hj:j<l.length)(h0:I 0 [] h)(hf: ∀r,f r=pr true)(hG: ∀i a h,I i a h->G h)
  (hs: ∀i w a h,i<j->l[i]?=some w->I i a h-> ∃r,t w (List.replicate b none++ρ)=some r/\Ok (g r) h fun v h'=>I (i+1) (a++[v]) h')
  (hx: ∀w a h,l[j]?=some w->I j a h-> ∃r,t w (List.replicate b none++ρ)=some r/\Xc (g r) h c):Xc (bd (compM G t f g b l ρ) k) h c:=
 bK (pW I l j hj hf hG hs hx l 0 [] h rfl (Nat.zero_le _) h0)
theorem gO {α:Type}(p:α->Bool): ∀ (l:List α),(∃x∈l,p x=false)-> ∃ (j:Nat) (x:α),l[j]?=some x/\p x=false/\ ∀i y,i<j->l[i]?=some y->p y=true
 |[],h=>by obtain⟨x,hx,_⟩:=h;cases hx
 |a::l,h=>by
  cases q:p a with
  |false=>exact⟨0,a,rfl,q,fun i y hi=>absurd hi (Nat.not_lt_zero _)⟩
  |true=>
   obtain⟨x,hx,e⟩:=h
   rcases List.mem_cons.mp hx with rfl|hx
   ·rw[q] at e;cases e
   ·obtain⟨j,y,e1,e2,e3⟩:=gO p l ⟨x,hx,e⟩
    refine⟨j+1,y,e1,e2,fun i z hi hz=>?_⟩
    cases i with
    |zero=>cases hz;exact q
    |succ i=>exact e3 i z (by omega) hz
section
variable {h:List Ob}{o jb jn je js:Nat}{s:RS}
theorem tu {z x:Str}(h1:z.length<=100)(h2:x.length<=100):fstW z (.str x)=pr (.str (z++x)):=ai ⟨sz (by omega),sz (by omega),by
 have:(z++x).length=z.length+x.length:=Array.size_append ..
 rw[this];exact sz (by omega)⟩
theorem Ah {r:Rr}(g:r.Ok)(gl: ∀x∈r.bxs,x.length<=100)(A:RdAt h o jb jn je js s)(p:∃x∈r.bxs,x ∉ s.bx.map (·.1)):Xc (aE [.loc o,r.form]) h "NoBox":=by
 have e0:aE [.loc o,r.form]=bd (aV [some (.loc o),some r.form,none,none]) finF:=rfl
 rw[e0]
 unfold aV
 have ne:=mw g
 have fb: ∃ (j:Nat) (y:Str),r.bxs[j]?=some y/\decide (y∈s.bx.map (·.1))=false/\ ∀i x,i<j->r.bxs[i]?=some x->decide (x∈s.bx.map (·.1))=true:=gO (fun x:Str=>decide (x∈s.bx.map (·.1))) r.bxs (p.imp fun x hx=>⟨hx.1,decide_eq_false hx.2⟩)
 obtain⟨j,y,y1,y2,y3⟩:=fb
 have gy:=gl y (List.mem_of_getElem? y1)
 have lj:=(List.getElem?_eq_some_iff.mp y1).1
 generalize r.form=F at *
 simp!
 refine bu (bj A.ob mt_no.2.1 (aq ⟨rfl,rfl⟩)) ?_
 simp!
 refine gE (gP A) fun w h' qz=>?_
 obtain⟨ew,eh⟩:=qz
 subst ew eh
 simp! only[aa,ne,dS]
 refine yA (I:=fun i ρ h1=>h1=h'/\ ∃a,ρ=[some (.loc o),some F,some (.tl ((s.bx.map (·.1)).map W.str)),a]) j (by rw[List.length_map];exact lj) ⟨rfl,_,rfl⟩ (fun _ _ _ _=>trivial) (fun i w ρ h1 hi hw I=>?_) fun w ρ h1 hw I=>?_
 ·obtain⟨rfl,a,rfl⟩:=I
  rw[List.getElem?_map] at hw
  obtain⟨x,hx,rfl⟩:=Option.map_eq_some_iff.mp hw
  refine⟨_,rfl,?_⟩
  simp! only[aa,eC,y3 i x hi hx]
  exact aq ⟨_,rfl,rfl,_,rfl⟩
 ·obtain⟨rfl,a,rfl⟩:=I
  rw[List.getElem?_map,y1] at hw
  cases hw
  refine⟨_,rfl,?_⟩
  simp! only[aa,eC,y2]
  refine wr (ws:=[.str ("there is no box "++y)]) ?_ (show 1<=sizeLine from by decide)
  simp! only[aa,tu (z:= "there is no box ") (by decide) gy]
end
end
section
open Wd
theorem pG {G:List Ob->Prop}{t:W->Env'->Option Env'}{g:Env'->M Fl}{β:Type}{k:Fl->M β}{c:Str}(I:Nat->Env'->List Ob->Prop)(l:List W)(hG: ∀i ρ h,I i ρ h->G h)
  (hs: ∀i w ρ h,l[i]?=some w->I i ρ h-> ∃r,t w ρ=some r/\(Xc (g r) h c\/Ok (g r) h fun x h'=> ∃r',x=.nx r'/\I (i+1) r' h'))
  (hd: ∀ρ h,I l.length ρ h->Xc (k (.nx ρ)) h c):
  ∀ (m:List W) (n:Nat) (ρ:Env') (h:List Ob),l.drop n=m->n<=l.length->I n ρ h->Xc (bd (L2.forM G t g m ρ) k) h c
 |[],n,ρ,h,e,hn,i=>by
  have:l.length<=n:=List.drop_eq_nil_iff.mp e
  have hn:n=l.length:=by omega
  subst hn
  obtain⟨h2,e2⟩:=hd ρ h i
  refine⟨h2,?_⟩
  unfold L2.forM bd
  rw[bL (hG _ _ _ i)]
  exact e2
 |w::m,n,ρ,h,e,hn,i=>by
  have hw:l[n]?=some w:=by
   have:=congrArg List.head? e
   rw[List.head?_drop,List.head?_cons] at this
   exact this
  have hl:n<l.length:=(List.getElem?_eq_some_iff.mp hw).1
  have em:l.drop (n+1)=m:=by rw[<-List.tail_drop,e];rfl
  obtain⟨r,e1,q⟩:=hs n w ρ h hw i
  rcases q with⟨h2,e2⟩|⟨x,h',e2,r',rfl,i'⟩
  ·refine⟨h2,?_⟩
   unfold L2.forM bd
   rw[bL (hG _ _ _ i),e1]
   dsimp only
   rw[e2]
  ·obtain⟨h2,e3⟩:=pG I l hG hs hd m (n+1) r' h' em hl i'
   refine⟨h2,?_⟩
   rw[<-e3]
   conv=>lhs;unfold bd L2.forM
   rw[bL (hG _ _ _ i),e1]
   dsimp only
   rw[df e2]
   rfl
theorem pI {G:List Ob->Prop}{t:W->Env'->Option Env'}{g:Env'->M Fl}{β:Type}{k:Fl->M β}{c:Str}{l:List W}{ρ:Env'}{h:List Ob}(I:Nat->Env'->List Ob->Prop)(h0:I 0 ρ h)(hG: ∀i ρ h,I i ρ h->G h)
 (hs: ∀i w ρ h,l[i]?=some w->I i ρ h-> ∃r,t w ρ=some r/\(Xc (g r) h c\/Ok (g r) h fun x h'=> ∃r',x=.nx r'/\I (i+1) r' h'))
 (hd: ∀ρ h,I l.length ρ h->Xc (k (.nx ρ)) h c):Xc (bd (L2.forM G t g l ρ) k) h c:=pG I l hG hs hd l 0 ρ h rfl (Nat.zero_le _) h0
def dueIn (s:RS)(r:Rr):Option Str:=if s.dn.length<s.nm.length then (if r.stm=true/\s.st.length=8 then some "Full" else if∀x∈r.bxs,x∈s.bx.map (·.1) then none else some "NoBox") else some "NoPlace"
def dueR (s:RS)(r:Rr):Option Str:=match r with
 |.box nm _=>if s.nm=[] then (if nm∈s.bx.map (·.1) then some "Twice" else if s.bx.length=4 then some "Full" else none) else some "NoPlace"
 |.block nm=>if s.dn.length<s.nm.length then some "NoPlace" else if nm∈s.nm then some "Twice" else if s.nm.length=10 then some "Full" else none
 |r=>dueIn s r
theorem lF {s:RS}{r:Rr}(h:r.stm=true\/r.end'=true):dueR s r=dueIn s r:=by
 cases r<;>first|rfl|(rcases h with h|h<;>cases h)
structure RSz (s:RS):Prop where
 z:s.bx.length<=4/\s.nm.length<=10/\s.dn.length<=s.nm.length/\s.st.length<=8/\s.nm.length<=s.dn.length+1
theorem oi {s:RS}{r:Rr}(Z:s.bx.length<=4/\s.nm.length<=10/\s.dn.length<=s.nm.length/\s.st.length<=8)(d:dueR s r=none):Pre s r:=by
 obtain⟨z1,z2,z3,z4⟩:=Z
 rcases gb r with⟨nm,v,rfl⟩|⟨nm,rfl⟩|q
 ·have d:(if s.nm=[] then (if nm∈s.bx.map (·.1) then some ("Twice":Str) else if s.bx.length=4 then some "Full" else none) else some "NoPlace")=none:=d
  split at d
  ·split at d
   ·cases d
   ·split at d
    ·cases d
    ·exact⟨by assumption,by assumption,by omega⟩
  ·cases d
 ·have d:(if s.dn.length<s.nm.length then some ("NoPlace":Str) else if nm∈s.nm then some "Twice" else if s.nm.length=10 then some "Full" else none)=none:=d
  split at d
  ·cases d
  ·split at d
   ·cases d
   ·split at d
    ·cases d
    ·exact⟨by omega,by assumption,by omega⟩
 ·rw[lF q] at d
  unfold dueIn at d
  split at d
  ·split at d
   ·cases d
   ·rename_i a b
    split at d
    ·rename_i c
     have pi:PreIn s r:=⟨a,fun hs=>by
      have: ¬s.st.length=8:=fun e=>b ⟨hs,e⟩
      omega,c⟩
     cases r<;>first|exact pi|(rcases q with q|q<;>cases q)
    ·cases d
  ·cases d
section
variable {h:List Ob}{o jb jn je js:Nat}{s:RS}{c:Str}
theorem qZ {r:Rr}(A:RdAt h o jb jn je js s)
  (H:Xc (af [.loc o,.str r.hd]) h c\/(Ok (af [.loc o,.str r.hd]) h (fun _ h'=>h'=h)/\
    (Xc (ah [.loc o,r.form]) h c\/(Ok (ah [.loc o,r.form]) h (fun _ h'=>h'=h)/\
     (Xc (ag [.loc o,.str r.hd]) h c\/(Ok (ag [.loc o,.str r.hd]) h (fun _ h'=>h'=h)/\Xc (aE [.loc o,r.form]) h c)))))):Xc (br [.loc o,r.form]) h c:=by
 have e0:br [.loc o,r.form]=bd (bP [some (.loc o),some r.form]) finF:=rfl
 rw[e0]
 unfold bP
 obtain⟨m1,m2,m3,m4,m5,m6,m7,m8,m9⟩:=mt_no
 have ih:ixW r.form (.int 0)=pr (.str r.hd):=by obtain⟨l,e⟩:=gM r;rw[e];exact ix0 ..
 generalize r.form=F at *
 simp!
 refine bu (bj A.ob m3 (aq ⟨rfl,rfl⟩)) ?_
 simp! only[aa,ih]
 rcases H with H|⟨s1,H⟩
 ·exact bK H
 refine gE s1 fun _ h1 eh=>?_
 subst eh
 simp!
 refine bu (bj A.ob m4 (aq ⟨rfl,rfl⟩)) ?_
 simp!
 rcases H with H|⟨s1,H⟩
 ·exact bK H
 refine gE s1 fun _ h1 eh=>?_
 subst eh
 simp!
 refine bu (bj A.ob m5 (aq ⟨rfl,rfl⟩)) ?_
 simp! only[aa,ih]
 rcases H with H|⟨s1,H⟩
 ·exact bK H
 refine gE s1 fun _ h1 eh=>?_
 subst eh
 simp!
 refine bu (bj A.ob m6 (aq ⟨rfl,rfl⟩)) ?_
 simp!
 exact bK H
theorem uk {r:Rr}(g:r.Ok)(gl: ∀x∈r.bxs,x.length<=100)(A:RdAt h o jb jn je js s)(d:dueR s r=some c):Xc (br [.loc o,r.form]) h c:=by
 obtain⟨z1,z2,z3,z4,z5⟩:=A.z
 refine qZ A ?_
 rcases gb r with⟨nm,v,rfl⟩|⟨nm,rfl⟩|q
 ·have d:(if s.nm=[] then (if nm∈s.bx.map (·.1) then some ("Twice":Str) else if s.bx.length=4 then some "Full" else none) else some "NoPlace")=some c:=d
  split at d
  ·rename_i p
   refine .inr ⟨rL A p,?_⟩
   split at d
   ·cases d;exact .inl (ug A (by assumption))
   ·refine .inr ⟨qU A (by assumption),?_⟩
    split at d
    ·cases d;exact .inl (uw A (by assumption))
    ·cases d
  ·cases d;exact .inl (uB A (by assumption))
 ·have d:(if s.dn.length<s.nm.length then some ("NoPlace":Str) else if nm∈s.nm then some "Twice" else if s.nm.length=10 then some "Full" else none)=some c:=d
  split at d
  ·cases d;exact .inl (qh A (by assumption))
  ·refine .inr ⟨mh A (by omega),?_⟩
   split at d
   ·cases d;exact .inl (p4 A (by assumption))
   ·refine .inr ⟨lV A (by assumption),?_⟩
    split at d
    ·cases d;exact .inl (qd A (by assumption))
    ·cases d
 ·have nh:=jE q
  rw[lF q] at d
  unfold dueIn at d
  split at d
  ·rename_i i
   refine .inr ⟨v4 A nh.1 nh.2 i,?_⟩
   obtain⟨l,e⟩:=gM r
   refine .inr ⟨by rw[e];exact vV nh.1 nh.2,?_⟩
   split at d
   ·rename_i b
    cases d;exact .inl (wT A nh.1 nh.2 i (lB b.1) b.2)
   ·rename_i b
    refine .inr ⟨vZ A nh.1 nh.2 i fun hm=>?_,?_⟩
    ·have:r.stm=true:=by
      rcases q with q|q
      ·exact q
      ·exact absurd hm (jF q)
     have: ¬s.st.length=8:=fun e=>b ⟨this,e⟩
     omega
    ·split at d
     ·cases d
     ·rename_i n
      cases d
      refine Ah g gl A ?_
      refine Classical.byContradiction fun k=>n fun x hx=>?_
      exact Classical.byContradiction fun k2=>k ⟨x,hx,k2⟩
  ·cases d;exact .inl (w9 A nh.1 nh.2 (by assumption))
end
section
variable {h:List Ob}{jn:Nat}{ss:List Str}
theorem iZ {x:Str}(e:h[jn]?=some (.lst (ss.map W.str)))(m:x ∉ ss)(gx:x.length<=100):Xc (bY [.str x,.loc jn]) h "NoBlock":=by
 have e0:bY [.str x,.loc jn]=bd (dm [some (.str x),some (.loc jn)]) finF:=rfl
 rw[e0]
 unfold dm
 simp!
 refine bu (mo e (aq ⟨rfl,rfl⟩)) ?_
 simp! only[aa,decide_eq_false m]
 refine bR (ws:=[.str ("there is no block "++x)]) ?_ (show 1<=sizeLine from by decide)
 simp! only[aa,tu (z:= "there is no block ") (by decide) gx]
theorem yC {r:Rr}(q:r.end'=true)(e:h[jn]?=some (.lst (ss.map W.str)))(g:r.Ok)(gl: ∀x∈r.tos,x.length<=100)(m:∃x∈r.tos,x ∉ ss):Xc (aG [r.form,.loc jn]) h "NoBlock":=by
 cases r with
 |go nm=>
  have e0:aG [(Rr.go nm).form,.loc jn]=bd (ax [some (.tup [.str "go",.str nm]),some (.loc jn)]) finF:=rfl
  rw[e0];unfold ax
  simp! only[aa,ix0,ix1,hds]
  obtain⟨x,hx,m⟩:=m
  rcases List.mem_cons.mp hx with rfl|hx
  ·exact bK (iZ e m (gl _ List.mem_cons_self))
  ·cases hx
 |iff s z1 e1 z2 e2 x y=>
  have e0:aG [(Rr.iff s z1 e1 z2 e2 x y).form,.loc jn]=bd (ax [some (.tup [.str "if",.str s,expW e1,expW e2,.str x,.str y]),some (.loc jn)]) finF:=rfl
  rw[e0];unfold ax
  simp! only[aa,ix0,ix4,ix5,hds,sl64]
  by_cases mx:x∈ss
  ·refine gE (eU e mx) fun w h' qz=>?_
   obtain⟨ew,eh⟩:=qz
   subst ew eh
   simp! only[aa,ix5]
   refine bK (iZ e (fun my=>?_) (gl _ (List.mem_cons_of_mem _ List.mem_cons_self)))
   obtain⟨z,hz,m⟩:=m
   rcases List.mem_cons.mp hz with rfl|hz
   ·exact m mx
   ·rcases List.mem_cons.mp hz with rfl|hz
    ·exact m my
    ·cases hz
  ·exact bK (iZ e mx (gl _ List.mem_cons_self))
 |table z e1 xs=>
  have e0:aG [(Rr.table z e1 xs).form,.loc jn]=bd (ax [some (.tup [.str "table",expW e1,.tup (xs.map W.str)]),some (.loc jn)]) finF:=rfl
  rw[e0];unfold ax
  have gw: ∀ {α:Type} (q:M α),gd ((xs.map W.str).length<=sizeLine) q=q:=fun q=>ai (by rw[List.length_map];exact sz (by have:=g.2.2.1;omega))
  have fb: ∃ (j:Nat) (y:Str),xs[j]?=some y/\decide (y∈ss)=false/\ ∀i x,i<j->xs[i]?=some x->decide (x∈ss)=true:=gO (fun x:Str=>decide (x∈ss)) xs (m.imp fun x hx=>⟨hx.1,decide_eq_false hx.2⟩)
  obtain⟨j,y,y1,y2,y3⟩:=fb
  have gy:=gl y (List.mem_of_getElem? y1)
  simp! only[aa,ix0,ix1,ix2,hds,gw]
  refine pJ (I:=fun i a h'=>h'=h) j (by rw[List.length_map];exact (List.getElem?_eq_some_iff.mp y1).1) rfl i7 (fun _ _ _ _=>trivial) (fun i w a h' hi hw I=>?_) fun w a h' hw I=>?_
  ·subst I
   rw[List.getElem?_map] at hw
   obtain⟨x,hx,rfl⟩:=Option.map_eq_some_iff.mp hw
   refine⟨_,rfl,?_⟩
   simp! only[List.replicate,List.cons_append,List.nil_append,aa]
   exact (eU e (of_decide_eq_true (y3 i x hi hx))).imp fun w h2 ⟨ew,eh⟩=>eh
  ·subst I
   rw[List.getElem?_map,y1] at hw
   cases hw
   refine⟨_,rfl,?_⟩
   simp! only[List.replicate,List.cons_append,List.nil_append,aa]
   exact iZ e (of_decide_eq_false y2) gy
 |stop=>obtain⟨x,hx,_⟩:=m;cases hx
 |_=>cases q
end
def judE (s:RS):Option Str:=if s.dn.length<s.nm.length\/s.nm=[] then some "Open" else if∀b∈s.dn,∀x∈b.2.2.tos,x∈s.nm then none else some "NoBlock"
structure DnOk (s:RS):Prop where
 e: ∀b∈s.dn,b.2.2.end'=true/\b.2.2.Ok/\ ∀x∈b.2.2.tos,x.length<=100
theorem wx {h:List Ob}{o jb jn je js:Nat}{s:RS}{c:Str}(A:RdAt h o jb jn je js s)(D:DnOk s)(d:judE s=some c):Xc (aR [.loc o]) h c:=by
 have e0:aR [.loc o]=bd (aQ [some (.loc o),none,none,none,none]) finF:=rfl
 rw[e0]
 unfold aQ
 obtain⟨n1,n2,n3,n4⟩:=A.ne
 obtain⟨z1,z2,z3,z4,z5⟩:=A.z
 have lo:=da A.ob
 have lb:=da A.b
 have ln:=da A.n
 have le:=da A.e
 simp!
 refine bu (bj A.ob mt_no.1 (aq ⟨rfl,rfl⟩)) ?_
 simp!
 refine gE (eZ A) fun w h' qz=>?_
 obtain⟨ew,eh⟩:=qz
 subst ew eh
 unfold judE at d
 by_cases i:s.dn.length<s.nm.length
 ·rw[if_pos (.inl i)] at d
  cases d
  simp! only[aa,decide_eq_true i]
  exact bR rfl (by decide)
 simp! only[aa,decide_eq_false i]
 refine bu (aZ A.ob (ik ..) (aq ⟨rfl,rfl⟩)) ?_
 simp!
 refine bu (Lw.len (.inr ⟨jn,rfl,A.n⟩) (aq ⟨rfl,rfl⟩)) ?_
 by_cases n0:s.nm=[]
 ·rw[if_pos (.inr n0)] at d
  cases d
  have d0:decide ((((s.nm.map W.str).length:Nat):Int)=0)=true:=by rw[n0];rfl
  simp! only[aa,d0]
  exact bR rfl (by decide)
 rw[if_neg (fun q=>by rcases q with q|q;exact i q;exact n0 q)] at d
 have l1:=List.length_pos_iff.mpr n0
 have d0:decide ((((s.nm.map W.str).length:Nat):Int)=0)=false:=decide_eq_false (by rw[List.length_map];omega)
 split at d
 ·cases d
 rename_i nb
 cases d
 have nb: ∃b∈s.dn,∃x∈b.2.2.tos,x ∉ s.nm:=Classical.byContradiction fun k=>nb fun b hb x hx=>Classical.byContradiction fun k2=>k ⟨b,hb,x,hx,k2⟩
 simp! only[aa,d0]
 refine bu (cP (aq ⟨rfl,rfl⟩)) ?_
 have ap: ∀ {j:Nat}{b:Ob},h'[j]?=some b->(h'++[.lst []])[j]?=some b:=fun e=>pA e
 simp!
 refine bu (aZ (ap A.ob) (vi ..) (aq ⟨rfl,rfl⟩)) ?_
 refine bu (oo (ap A.e) (aq ⟨rfl,rfl⟩)) ?_
 simp!
 refine pI (I:=fun i ρ h1=> ∃a b c,ρ=[some (.loc o),some (.loc h'.length),a,b,c]/\h1.length=h'.length+1/\(∀j,j<h'.length->h1[j]?=h'[j]?)/\(∃l,h1[h'.length]?=some (.lst l)/\l.length<=i/\i<=s.dn.length)/\ ∃b∈s.dn.drop i,∃x∈b.2.2.tos,x ∉ s.nm) ⟨_,_,_,rfl,by simp,fun j hj=>by rw[List.getElem?_append_left hj],⟨[],bC,Nat.le_refl _,Nat.zero_le _⟩,nb⟩ (fun i ρ h1 ⟨a,b,c,e1,e2,e3,e4⟩=>by rw[e3 _ le];exact A.e) (fun i w ρ h1 hw I=>?_) fun ρ h1 I=>?_
 ·obtain⟨a,b,c,rfl,l1,q1,⟨l,q2,q3,q4⟩,B⟩:=I
  rw[List.getElem?_map] at hw
  obtain⟨⟨nm,sts,r⟩,hb,rfl⟩:=Option.map_eq_some_iff.mp hw
  obtain⟨r1,r2,r3⟩:=D.e _ (List.mem_of_getElem? hb)
  have hi:=(List.getElem?_eq_some_iff.mp hb).1
  refine⟨[some (.loc o),some (.loc h'.length),some (.str nm),some (.tl sts),some r.form],rfl,?_⟩
  have en:h1[jn]?=some (.lst (s.nm.map W.str)):=by rw[q1 _ ln];exact A.n
  have eo:h1[o]?=some (.ins "Reading" fldN [.loc jb,.loc jn,.loc je,.loc js]):=by rw[q1 _ lo];exact A.ob
  by_cases mm: ∀x∈r.tos,x∈s.nm
  ·right
   have eb:=pL r1 en r2 mm
   have B': ∃b∈s.dn.drop (i+1),∃x∈b.2.2.tos,x ∉ s.nm:=by
    obtain⟨b,hb2,x,hx,k⟩:=B
    rw[List.drop_eq_getElem_cons hi] at hb2
    rcases List.mem_cons.mp hb2 with rfl|hb2
    ·rw[(List.getElem?_eq_some_iff.mp hb).2] at hx
     exact absurd (mm x hx) k
    ·exact⟨b,hb2,x,hx,k⟩
   generalize r.form=F at *
   simp!
   refine di q2 ?_
   simp!
   refine aZ eo (ik ..) ?_
   simp!
   refine bJ eb fun w h2 qq_=>?_
   obtain⟨ew,eh⟩:=qq_
   subst ew eh
   simp!
   refine dM q2 (Nat.lt_of_le_of_lt (show _<=10 by omega) (by decide)) ?_
   simp!
   exact aq ⟨_,rfl,_,_,_,rfl,by rw[List.length_set];exact l1,fun j hj=>by rw[List.getElem?_set_ne (by omega)];exact q1 j hj,⟨_,cD q2,by rw[List.length_append];exact Nat.succ_le_succ q3,hi⟩,B'⟩
  ·left
   have eb:=yC r1 en r2 r3 (Classical.byContradiction fun k=>mm fun x hx=>Classical.byContradiction fun k2=>k ⟨x,hx,k2⟩)
   generalize r.form=F at *
   simp!
   refine bu (di q2 (aq ⟨rfl,rfl⟩)) ?_
   simp!
   refine bu (aZ eo (ik ..) (aq ⟨rfl,rfl⟩)) ?_
   simp!
   exact bK eb
 ·obtain⟨a,b,c,rfl,l1,q1,q2,B⟩:=I
  rw[List.length_map,List.drop_length] at B
  obtain⟨b,hb,_⟩:=B
  cases hb
def judR:List Rr->RS->Option Str
 |[],s=>judE s
 |r::rs,s=>match dueR s r with
  |some c=>some c
  |none=>judR rs (s.step r)
theorem DnOk.step {s:RS}{r:Rr}(D:DnOk s)(g:r.Ok)(gl: ∀x∈r.tos,x.length<=100):DnOk (s.step r):=by
 rcases gb r with⟨nm,v,rfl⟩|⟨nm,rfl⟩|q|q
 ·exact⟨D.e⟩
 ·exact⟨D.e⟩
 ·rw[gp q];exact⟨D.e⟩
 ·rw[gq q]
  refine⟨fun b hb=>?_⟩
  rcases List.mem_append.mp hb with hb|hb
  ·exact D.e b hb
  ·rcases List.mem_cons.mp hb with rfl|hb
   ·exact⟨q,g,gl⟩
   ·cases hb
structure RrG (r:Rr):Prop where
 g:r.Ok
 b: ∀x∈r.bxs,x.length<=100
 t: ∀x∈r.tos,x.length<=100
theorem rm {s:RS}{r:Rr}(Z:RSz s)(p:Pre s r):RSz (s.step r):=by
 obtain⟨z1,z2,z3,z4,z5⟩:=Z.z
 rcases gb r with⟨nm,v,rfl⟩|⟨nm,rfl⟩|q|q
 ·have p':s.nm=[]/\nm ∉ s.bx.map (·.1)/\s.bx.length<4:=p
  exact⟨by show (s.bx++[(nm,dO v)]).length<=4/\_;rw[List.length_append];exact⟨by have:=p'.2.2;show s.bx.length+1<=4;omega,z2,z3,z4,z5⟩⟩
 ·have p':s.dn.length=s.nm.length/\nm ∉ s.nm/\s.nm.length<10:=p
  refine⟨?_⟩
  show s.bx.length<=4/\(s.nm++[nm]).length<=10/\s.dn.length<=(s.nm++[nm]).length/\0<=8/\(s.nm++[nm]).length<=s.dn.length+1
  rw[List.length_append]
  show s.bx.length<=4/\s.nm.length+1<=10/\s.dn.length<=s.nm.length+1/\0<=8/\s.nm.length+1<=s.dn.length+1
  omega
 ·have pi:=kS p (.inl q)
  rw[gp q]
  have:=pi.c q
  refine⟨z1,z2,z3,?_,z5⟩
  show (s.st++[r.form]).length<=8
  rw[List.length_append];show s.st.length+1<=8;omega
 ·have pi:=kS p (.inr q)
  rw[gq q]
  have:=pi.i
  refine⟨z1,z2,?_,z4,?_⟩
  ·show (s.dn++[_]).length<=s.nm.length
   rw[List.length_append];show s.dn.length+1<=s.nm.length;omega
  ·show s.nm.length<=(s.dn++[_]).length+1
   rw[List.length_append];show s.nm.length<=s.dn.length+1+1;omega
theorem mO: ∀ {rs:List Rr}{s:RS},RSz s->DnOk s->(∀r∈rs,RrG r)->judR rs s=none->OkR rs s/\EndsOk (runR rs s)
 |[],s,Z,D,_,d=>by
  obtain⟨z1,z2,z3,z4,z5⟩:=Z.z
  refine⟨trivial,?_⟩
  have d:judE s=none:=d
  unfold judE at d
  split at d
  ·cases d
  ·rename_i n
   split at d
   ·rename_i k
    have n1: ¬s.dn.length<s.nm.length:=fun q=>n (.inl q)
    have n2:s.nm≠ []:=fun q=>n (.inr q)
    have:=List.length_pos_iff.mpr n2
    exact⟨show s.dn.length=s.nm.length by omega,show 1<=s.nm.length by omega,fun b hb=>⟨(D.e b hb).1,(D.e b hb).2.1,k b hb⟩⟩
   ·cases d
 |r::rs,s,Z,D,G,d=>by
  unfold judR at d
  have g:=G r List.mem_cons_self
  cases e:dueR s r with
  |some c=>rw[e] at d;cases d
  |none=>
   rw[e] at d
   have p:=oi ⟨Z.z.1,Z.z.2.1,Z.z.2.2.1,Z.z.2.2.2.1⟩ e
   have q:=mO (rm Z p) (D.step g.g g.t) (fun x hx=>G x (List.mem_cons_of_mem _ hx)) d
   exact⟨⟨⟨g.g,p⟩,q.1⟩,q.2⟩
end
section
open Wd
section
variable {h:List Ob}{z:Str}
theorem vt (l:z.length<=10000)(k:ak z=false):eO [.str z]=pr (.bl false):=by
 show gd (z.length<=sizeLine) (pr (W.bl (ak z)))=_
 rw[ai (sz (by omega)),k]
theorem vq (l:z.length<=10000)(k:numOk z=false):gD [.str z]=pr (.bl false):=by
 show gd (z.length<=sizeLine) (pr (W.bl (numOk z)))=_
 rw[ai (sz (by omega)),k]
theorem gA (l:z.length<=10000)(k:ak z=false):Xc (a8 [.str z]) h "NoRow":=by
 have e0:a8 [.str z]=bd (ec [some (.str z)]) finF:=rfl
 rw[e0]
 unfold ec
 simp! only[aa,vt l k]
 exact bR rfl (by decide)
theorem sf (l:z.length<=10000)(k:numOk z=false):Xc (cT [.str z]) h "NoRow":=by
 have e0:cT [.str z]=bd (cR [some (.str z)]) finF:=rfl
 rw[e0]
 unfold cR
 simp! only[aa,vq l k]
 exact bR rfl (by decide)
theorem jI (l:z.length<=10000)(k:exprP z=none):Xc (eS [.str z]) h "NoRow":=by
 refine⟨h,?_⟩
 show gd (z.length<=sizeLine) (match exprP z with
  |some e=>pr (expW e)
  |none=>fun h=>.ex "NoRow" h) h=_
 rw[ai (sz (by omega)),k]
theorem iK {e:Exp}(l:z.length<=10000)(k:exprP z=some e):eS [.str z]=pr (expW e):=by
 show gd (z.length<=sizeLine) (match exprP z with
  |some e=>pr (expW e)
  |none=>fun h=>.ex "NoRow" h)=_
 rw[ai (sz (by omega)),k]
end
def exB (z:Str):Bool:=(exprP z).isSome
theorem mY {z:Str}(h:exB z=false):exprP z=none:=by
 unfold exB at h
 cases e:exprP z with
 |none=>rfl
 |some x=>rw[e] at h;cases h
theorem tK {z:Str}(h:exB z=true): ∃e,exprP z=some e:=Option.isSome_iff_exists.mp h
def iffB (z1 s z2 x w y:Str):Bool:=(decide (s∈(["<", "="]:List Str)) && decide (w= "else")) && (exB z1 && (exB z2 && (ak x && ak y)))
def formB (hd:Str)(r:List Str):Bool:=
 if hd= "box" then (match r with
  |[a,b]=>ak a && numOk b
  |_=>false)
 else if hd= "block" then (match r with
  |[a]=>ak a
  |_=>false)
 else if hd= "put" then (match r with
  |[a,b]=>ak a && exB b
  |_=>false)
 else if hd= "say" then (match r with
  |[a]=>exB a
  |_=>false)
 else if hd= "ask" then (match r with
  |[a]=>ak a
  |_=>false)
 else if hd= "go" then (match r with
  |[a]=>ak a
  |_=>false)
 else if hd= "if" then (match r with
  |[a,s,b,x,w,y]=>iffB a s b x w y
  |_=>false)
 else if hd= "table" then (match r with
  |a::x::l=>decide (l.length<=5) && (exB a && (x::l).all ak)
  |_=>false)
 else if hd= "stop" then r.isEmpty else false
theorem yF {h:List Ob}{hd z1 s z2 x w y:Str}(hl: ∀z∈[z1,s,z2,x,w,y],z.length<=10000)(k:iffB z1 s z2 x w y=false):Xc (bQ [.tl [.str hd,.str z1,.str s,.str z2,.str x,.str w,.str y]]) h "NoRow":=by
 have e0:bQ [.tl [.str hd,.str z1,.str s,.str z2,.str x,.str w,.str y]]=bd (bO [some (.tl [.str hd,.str z1,.str s,.str z2,.str x,.str w,.str y]),none,none,none]) finF:=rfl
 rw[e0]
 unfold bO
 have n1:=hl z1 (by simp)
 have n2:=hl z2 (by simp)
 have n3:=hl x (by simp)
 have n4:=hl y (by simp)
 unfold iffB at k
 cases c1:decide (s∈(["<", "="]:List Str)) with
 |false=>
  simp! only[aa,tx1,tx2,tx3,tx4,tx5,tx6,dj,c1]
  exact bR rfl (by decide)
 |true=>
  cases c2:decide (w= "else") with
  |false=>
   simp! only[aa,tx1,tx2,tx3,tx4,tx5,tx6,dj,c1,c2]
   exact bR rfl (by decide)
  |true=>
   rw[c1,c2] at k
   have k:(exB z1 && (exB z2 && (ak x && ak y)))=false:=k
   cases c3:exB z1 with
   |false=>
    simp! only[aa,tx1,tx2,tx3,tx4,tx5,tx6,dj,c1,c2]
    exact bK (jI n1 (mY c3))
   |true=>
    obtain⟨e1,h1⟩:=tK c3
    cases c4:exB z2 with
    |false=>
     simp! only[aa,tx1,tx2,tx3,tx4,tx5,tx6,dj,c1,c2,iK n1 h1]
     exact bK (jI n2 (mY c4))
    |true=>
     obtain⟨e2,h2⟩:=tK c4
     cases c5:ak x with
     |false=>
      simp! only[aa,tx1,tx2,tx3,tx4,tx5,tx6,dj,c1,c2,iK n1 h1,iK n2 h2]
      exact bK (gA n3 c5)
     |true=>
      have c6:ak y=false:=by rw[c3,c4,c5] at k;exact k
      simp! only[aa,tx1,tx2,tx3,tx4,tx5,tx6,dj,c1,c2,iK n1 h1,iK n2 h2,bn c5]
      exact bK (gA n4 c6)
theorem eM {r:List Str}{n:Nat}{m:Int}(hm:m=((n:Nat):Int))(h:r.length+1≠n):decide ((((r.map W.str).length+1:Nat):Int)=m)=false:=decide_eq_false (by rw[List.length_map];omega)
theorem pk {c:Nat}: ∀ {l:List Str}{z:Str},z∈l->z.length<=(Str.join ⟨#[c]⟩ l).length
 |[x],z,h=>by rw[List.mem_singleton.mp h];exact Nat.le_refl _
 |x::y::l,z,h=>by
  have e:=congrArg List.length (b8 c x y l)
  rw[List.length_append,List.length_cons] at e
  have e:(Str.join ⟨#[c]⟩ (x::y::l)).length=x.length+((Str.join ⟨#[c]⟩ (y::l)).length+1):=e
  rcases List.mem_cons.mp h with rfl|h
  ·omega
  ·have:=pk (c:=c) h
   omega
theorem yy {h:List Ob}{hd:Str}{r:List Str}(fr: ∀z∈hd::r,32 ∉ z.cps.toList)(jl:(Str.join ⟨#[32]⟩ (hd::r)).length<=10000)(rl:r.length<=1000)(k:formB hd r=false):Xc (cG [.str (Str.join ⟨#[32]⟩ (hd::r))]) h "NoRow":=by
 have e0:cG [.str (Str.join ⟨#[32]⟩ (hd::r))]=bd (eg [some (.str (Str.join ⟨#[32]⟩ (hd::r))),none,none,none]) finF:=rfl
 rw[e0]
 unfold eg
 have sp:splW (.str (Str.join ⟨#[32]⟩ (hd::r))) [.str " "]=pr (.tl (.str hd::r.map W.str)):=by
  rw[ka]
  exact gr (by simp) fr (sz (by omega)) (sz (by rw[List.length_cons];omega))
 have rz: ∀z∈r,z.length<=10000:=fun z hz=>Nat.le_trans (pk (List.mem_cons_of_mem _ hz)) jl
 generalize Str.join ⟨#[32]⟩ (hd::r)=T at *
 unfold formB at k
 by_cases h1:hd= "box"
 ·subst h1
  rw[if_pos rfl] at k
  by_cases c:r.length+1=3
  ·obtain⟨a,b,rfl⟩: ∃a b,r=[a,b]:=by
    match r,c with
    |[a,b],_=>exact⟨a,b,rfl⟩
   have k:(ak a && numOk b)=false:=k
   cases c1:ak a with
   |false=>
    simp! only[aa,sp,List.map_cons,List.map_nil,tx0,tx1,tx2,eq_self,decide_true,dF]
    exact bK (gA (rz a (by simp)) c1)
   |true=>
    have c2:numOk b=false:=by rw[c1] at k;exact k
    simp! only[aa,sp,List.map_cons,List.map_nil,tx0,tx1,tx2,eq_self,decide_true,dF,bn c1]
    exact bK (sf (rz b (by simp)) c2)
  ·simp! only[aa,sp,tx0,eM (n:=3) (m:=3) rfl c,hds]
   exact bR rfl (by decide)
 rw[if_neg h1] at k
 have d1:=decide_eq_false h1
 by_cases h2:hd= "block"
 ·subst h2
  rw[if_pos rfl] at k
  by_cases c:r.length+1=2
  ·obtain⟨a,rfl⟩: ∃a,r=[a]:=by
    match r,c with
    |[a],_=>exact⟨a,rfl⟩
   have k:ak a=false:=k
   simp! only[aa,sp,List.map_cons,List.map_nil,tx0,tx1,tx2,hds,eq_self,decide_true,dF]
   exact bK (gA (rz a (by simp)) k)
  ·simp! only[aa,sp,tx0,eM (n:=2) (m:=2) rfl c,hds]
   exact bR rfl (by decide)
 rw[if_neg h2] at k
 have d2:=decide_eq_false h2
 by_cases h3:hd= "put"
 ·subst h3
  rw[if_pos rfl] at k
  by_cases c:r.length+1=3
  ·obtain⟨a,b,rfl⟩: ∃a b,r=[a,b]:=by
    match r,c with
    |[a,b],_=>exact⟨a,b,rfl⟩
   have k:(ak a && exB b)=false:=k
   cases c1:ak a with
   |false=>
    simp! only[aa,sp,List.map_cons,List.map_nil,tx0,tx1,tx2,hds,eq_self,decide_true,dF]
    exact bK (gA (rz a (by simp)) c1)
   |true=>
    have c2:exB b=false:=by rw[c1] at k;exact k
    simp! only[aa,sp,List.map_cons,List.map_nil,tx0,tx1,tx2,hds,eq_self,decide_true,dF,bn c1]
    exact bK (jI (rz b (by simp)) (mY c2))
  ·simp! only[aa,sp,tx0,eM (n:=3) (m:=3) rfl c,hds]
   exact bR rfl (by decide)
 rw[if_neg h3] at k
 have d3:=decide_eq_false h3
 by_cases h4:hd= "say"
 ·subst h4
  rw[if_pos rfl] at k
  by_cases c:r.length+1=2
  ·obtain⟨a,rfl⟩: ∃a,r=[a]:=by
    match r,c with
    |[a],_=>exact⟨a,rfl⟩
   have k:exB a=false:=k
   simp! only[aa,sp,List.map_cons,List.map_nil,tx0,tx1,tx2,hds,eq_self,decide_true,dF]
   exact bK (jI (rz a (by simp)) (mY k))
  ·simp! only[aa,sp,tx0,eM (n:=2) (m:=2) rfl c,hds]
   exact bR rfl (by decide)
 rw[if_neg h4] at k
 have d4:=decide_eq_false h4
 by_cases h5:hd= "ask"
 ·subst h5
  rw[if_pos rfl] at k
  by_cases c:r.length+1=2
  ·obtain⟨a,rfl⟩: ∃a,r=[a]:=by
    match r,c with
    |[a],_=>exact⟨a,rfl⟩
   have k:ak a=false:=k
   simp! only[aa,sp,List.map_cons,List.map_nil,tx0,tx1,tx2,hds,eq_self,decide_true,dF]
   exact bK (gA (rz a (by simp)) k)
  ·simp! only[aa,sp,tx0,eM (n:=2) (m:=2) rfl c,hds]
   exact bR rfl (by decide)
 rw[if_neg h5] at k
 have d5:=decide_eq_false h5
 by_cases h6:hd= "go"
 ·subst h6
  rw[if_pos rfl] at k
  by_cases c:r.length+1=2
  ·obtain⟨a,rfl⟩: ∃a,r=[a]:=by
    match r,c with
    |[a],_=>exact⟨a,rfl⟩
   have k:ak a=false:=k
   simp! only[aa,sp,List.map_cons,List.map_nil,tx0,tx1,tx2,hds,eq_self,decide_true,dF]
   exact bK (gA (rz a (by simp)) k)
  ·simp! only[aa,sp,tx0,eM (n:=2) (m:=2) rfl c,hds]
   exact bR rfl (by decide)
 rw[if_neg h6] at k
 have d6:=decide_eq_false h6
 by_cases h7:hd= "if"
 ·subst h7
  rw[if_pos rfl] at k
  by_cases c:r.length+1=7
  ·obtain⟨a,s,b,x,w,y,rfl⟩: ∃a s b x w y,r=[a,s,b,x,w,y]:=by
    match r,c with
    |[a,s,b,x,w,y],_=>exact⟨a,s,b,x,w,y,rfl⟩
   have k:iffB a s b x w y=false:=k
   simp! only[aa,sp,List.map_cons,List.map_nil,tx0,tx1,tx2,hds,eq_self,decide_true,dF]
   exact bK (yF rz k)
  ·simp! only[aa,sp,tx0,eM (n:=7) (m:=7) rfl c,hds]
   exact bR rfl (by decide)
 rw[if_neg h7] at k
 have d7:=decide_eq_false h7
 by_cases h8:hd= "table"
 ·subst h8
  rw[if_pos rfl] at k
  by_cases c:3<=r.length+1
  ·have c1:decide ((3:Int)<=(((r.map W.str).length+1:Nat):Int))=true:=decide_eq_true (by rw[List.length_map];omega)
   by_cases c':r.length+1<=8
   ·have c2:decide ((((r.map W.str).length+1:Nat):Int)<=2+6)=true:=decide_eq_true (by rw[List.length_map];omega)
    obtain⟨a,x,l,rfl⟩: ∃a x l,r=a::x::l:=by
     match r,c with
     |a::x::l,_=>exact⟨a,x,l,rfl⟩
    have k:(decide (l.length<=5) && (exB a && (x::l).all ak))=false:=k
    rw[List.length_cons,List.length_cons] at c'
    rw[decide_eq_true (show l.length<=5 by omega)] at k
    have k:(exB a && (x::l).all ak)=false:=k
    rw[List.map_cons] at sp c1 c2
    rw[List.length_cons] at c1 c2
    have cu:cutW (W.str "table"::W.str a::(x::l).map W.str) (some 2) none=(x::l).map W.str:=by
     unfold cutW
     show List.take _ ((x::l).map W.str)=_
     rw[List.take_of_length_le]
     show _<=((x::l).map W.str).length+1+1 - 2
     omega
    have gl: ∀ {α:Type} (q:M α),gd (((x::l).map W.str).length<=sizeLine) q=q:=fun q=>ai (by rw[List.length_map,List.length_cons];exact sz (by omega))
    have xz: ∀z∈x::l,z.length<=10000:=fun z hz=>rz z (List.mem_cons_of_mem _ hz)
    cases c3:exB a with
    |false=>
     generalize (x::l).map W.str=XL at *
     simp! only[aa,sp,tx0,tx1,hds,eq_self,decide_true,List.length_cons,c1,c2]
     exact bK (jI (rz a (by simp)) (mY c3))
    |true=>
     obtain⟨e1,he⟩:=tK c3
     have k:(x::l).all ak=false:=by rw[c3] at k;exact k
     obtain⟨j,y,y1,y2,y3⟩:=gO ak (x::l) (List.all_eq_false.mp k|>.imp fun z hz=>⟨hz.1,by simpa using hz.2⟩)
     generalize x::l=xs at *
     simp! only[aa,sp,tx0,tx1,hds,eq_self,decide_true,List.length_cons,c1,c2,iK (rz a (by simp)) he,cu,aP,dS,gl]
     refine pJ (I:=fun i a h'=>h'=h) j (by rw[List.length_map];exact (List.getElem?_eq_some_iff.mp y1).1) rfl i7 (fun _ _ _ _=>trivial) (fun i w a h' hi hw I=>?_) fun w a h' hw I=>?_
     ·subst I
      rw[List.getElem?_map] at hw
      obtain⟨u,hu,rfl⟩:=Option.map_eq_some_iff.mp hw
      refine⟨_,rfl,?_⟩
      simp! only[List.replicate,List.cons_append,List.nil_append,aa,bn (y3 i u hi hu)]
      exact aq rfl
     ·subst I
      rw[List.getElem?_map,y1] at hw
      cases hw
      refine⟨_,rfl,?_⟩
      simp! only[List.replicate,List.cons_append,List.nil_append,aa]
      exact gA (xz y (List.mem_of_getElem? y1)) y2
   ·have c2:decide ((((r.map W.str).length+1:Nat):Int)<=2+6)=false:=decide_eq_false (by rw[List.length_map];omega)
    simp! only[aa,sp,tx0,c1,c2,hds]
    exact bR rfl (by decide)
  ·have c1:decide ((3:Int)<=(((r.map W.str).length+1:Nat):Int))=false:=decide_eq_false (by rw[List.length_map];omega)
   simp! only[aa,sp,tx0,c1,hds]
   exact bR rfl (by decide)
 rw[if_neg h8] at k
 have d8:=decide_eq_false h8
 by_cases h9:hd= "stop"
 ·subst h9
  rw[if_pos rfl] at k
  have c:r.length+1≠1:=fun e=>by
   cases r with
   |nil=>cases k
   |cons a l=>rw[List.length_cons] at e;omega
  simp! only[aa,sp,tx0,eM (n:=1) (m:=1) rfl c,hds]
  exact bR rfl (by decide)
 have d9:=decide_eq_false h9
 simp! only[aa,sp,tx0,d1,d2,d3,d4,d5,d6,d7,d8,d9]
 exact bR rfl (by decide)
end
section
open Wd
noncomputable def stir (cell k:Int):Int:=
 if 10 ^ (18:Int).toNat<=cell then (cell - 10 ^ (18:Int).toNat) / 2 ^ (28 * k).toNat % 2 ^ (28:Int).toNat
 else ((cell+1013 * k+1) * 16807 % 2147483647) * ((cell+1013 * k+1) * 16807 % 2147483647) % 2147483629 * 39373 % 2147483587 / 8
theorem cp10:CPow 10 18:=⟨by decide,by decide,by decide⟩
theorem cp2:CPow 2 28:=⟨by decide,by decide,by decide⟩
theorem rk (c k:Int)(hk:0<=k)(h:List Ob):ao [.int c,.int k] h=.ok (.int (stir c k)) h:=by
 have e0:ao [.int c,.int k] h=bd (fL [some (.int c),some (.int k),none]) finF h:=rfl
 rw[e0]
 have m1:CMulA 28 k:=ou (by decide) (by decide)
 have m2':CMulA 1013 k:=ou (by decide) (by decide)
 have m3:CMulA (c+1013 * k+1) 16807:=su (by decide) (by decide)
 have m4:CMulA ((c+1013 * k+1) * 16807 % 2147483647) ((c+1013 * k+1) * 16807 % 2147483647):=ou (by omega) (by omega)
 have m5: ∀x:Int,CMulA x 39373:=fun x=>su (by decide) (by decide)
 unfold fL stir
 by_cases hc:10 ^ (18:Int).toNat<=c
 ·simp! only[jm cp10,jm cp2,gB m1,rp (show (0:Int)<=28 * k by omega),aw (show (0:Int)<2 ^ (28:Int).toNat by decide),decide_eq_true hc,if_pos hc]
  rfl
 ·simp! only[jm cp10,gB m2',gB m3,gB m4,gB (m5 _),aw (show (0:Int)<2147483647 by decide),aw (show (0:Int)<2147483629 by decide),aw (show (0:Int)<2147483587 by decide),aA (show (0:Int)<8 by decide) (by decide),decide_eq_false hc,if_neg hc]
  rfl
theorem cU {c k:Int}(hk:0<=k):ao [.int c,.int k]=pr (.int (stir c k)):=funext fun h=>rk c k hk h
theorem sapp (a b c:Str):(a++b)++c=a++(b++c):=iT (by rw[gQ,gQ,gQ,gQ,List.append_assoc])
theorem slen (a b:Str):(a++b).length=a.length+b.length:=Array.size_append
theorem adS {a b:Str}(h:a.length+b.length<=100000):addW (.str a) (.str b)=pr (.str (a++b)):=uf (sz h)
theorem zn {v:Int}(h0:0<=v)(h9:v<=999):numOk (toString v:Str)=true/\strW [.int v]=pr (.str (toString v)):=by
 obtain⟨k,rfl⟩: ∃k:Nat,v=(k:Int):=⟨v.toNat,by omega⟩
 have h: ∀n:Nat,n<1000->numOk (Str.ofString (toString ((n:Nat):Int)))=true:=by decide+kernel
 refine⟨h k (by omega),rj ?_⟩
 by_cases z:k=0
 ·subst z;decide
 ·refine (Nat.log2_lt (by omega)).mpr (Nat.lt_of_lt_of_le (show ((k:Int)).natAbs<2 ^ 10 by omega) (Nat.pow_le_pow_right (by omega) (show 10<=1920 by omega)))
theorem lE {l:List W}(p:∀x∈l,Pd 49 x)(h:List Ob):eqB (.tl l) (.tl []) h=some l.isEmpty:=by
 obtain⟨ds,e,c⟩:=jt (h:=h) l fun x hx=>(p x hx).data
 have d1:dataH h 50 (.tl l)=some (.list ds):=by
  show (optL (dataH h 49) l).map PyData.list=_
  rw[e];rfl
 have d2:dataH h 50 (.tl [])=some (.list []):=rfl
 unfold eqB
 rw[show vOf (.tl l)=none from rfl]
 dsimp only
 rw[d1,d2]
 dsimp only
 rw[if_pos ⟨by rw[PyData.canLay0];exact c,by rw[PyData.canLay0];rfl⟩,PyData.eqv]
 cases l with
 |nil=>
  cases e
  rw[PyData.eqvAll];rfl
 |cons x l=>
  cases ds with
  |nil=>
   unfold optL at e
   split at e
   ·cases e
   ·cases e
  |cons d ds=>rw[PyData.eqvAll]<;>simp
theorem lg {l:List W}(p:∀x∈l,Pd 49 x):neW (.tl l) (.tl [])=pr (.bl (!l.isEmpty)):=xO (lE p)
theorem vF {l:List W}(p:∀x∈l,Pd 49 x):eqW (.tl l) (.tl [])=pr (.bl l.isEmpty):=tO (lE p)
noncomputable def Sk (z:Str):Prop:= ∀c∈z.cps.toList,c<1114112
theorem Sk.ok {z:Str}(h:Sk z):PyData.strOk z=true:=by
 unfold PyData.strOk
 rw[<-Array.all_toList,List.all_eq_true]
 exact fun c hc=>decide_eq_true (h c hc)
theorem cc {z:Str}(h:ak z=true):Sk z:=by
 unfold ak at h
 simp only[Bool.and_eq_true,List.all_eq_true] at h
 exact fun c hc=>by have:=(isLet_iff.mp (h.2.1 c hc)).2;omega
theorem xK {z:Str}(h:numOk z=true):Sk z:=by
 unfold numOk at h
 simp only[Bool.and_eq_true,List.all_eq_true] at h
 exact fun c hc=>by have:=(isFig_iff.mp (h.2.2 c hc)).2;omega
noncomputable def skB (z:Str):Bool:=z.cps.toList.all fun c=>decide (c<1114112)
theorem Sk.of {z:Str}(h:skB z=true):Sk z:=fun c hc=>of_decide_eq_true (List.all_eq_true.mp h c hc)
theorem sk_k:Sk "box"/\Sk "block"/\Sk "put"/\Sk "say"/\Sk "ask"/\Sk "go"/\Sk "if"/\Sk "else"/\Sk "table"/\Sk "stop"/\Sk "<"/\Sk "="/\Sk "":=⟨.of (by decide+kernel),.of (by decide+kernel),.of (by decide+kernel),.of (by decide+kernel),.of (by decide+kernel),.of (by decide+kernel),.of (by decide+kernel),.of (by decide+kernel),.of (by decide+kernel),.of (by decide+kernel),.of (by decide+kernel),.of (by decide+kernel),.of (by decide+kernel)⟩
theorem vm {l:List Str}(h:∀z∈l,Sk z):Sk (Str.join ⟨#[32]⟩ l):=by
 induction l with
 |nil=>exact fun c hc=>by cases hc
 |cons x l ih=>
  cases l with
  |nil=>exact h x List.mem_cons_self
  |cons y l=>
   intro c hc
   rw[b8,List.mem_append,List.mem_cons] at hc
   rcases hc with hc|rfl|hc
   ·exact h x List.mem_cons_self c hc
   ·decide
   ·exact ih (fun z hz=>h z (List.mem_cons_of_mem _ hz)) c hc
theorem eK {r:Rr}(h:∀z∈r.ws,Sk z):Sk r.tx:=vm h
theorem yZ {ns:List Str}{n:Nat}(h:∀x∈ns,Sk x): ∀x∈ns.map W.str,Pd (n+1) x:=fun x hx=>by
 obtain⟨z,hz,rfl⟩:=List.mem_map.mp hx
 exact .str (h z hz).ok
theorem eV {ns:List Str}{n:Nat}(h:∀x∈ns,ak x=true): ∀x∈ns.map W.str,Pd (n+1) x:=yZ fun x hx=>cc (h x hx)
noncomputable def N1:List Str:=["a", "ab", "b", "c", "zz"]
noncomputable def N2:List Str:=["b", "a", "ab", "abc", "d"]
noncomputable def M12:List Str:=["m", "mm", "a", "n", "loop", "lo", "b", "x", "y", "z", "p", "q"]
structure Nm4 (x:Str):Prop where
 n:ak x=true
 l:x.length<=4
theorem z7 {i:Nat}(h:i<5):Nm4 (N1.getD i ""):=by
 have: ∀i,i<5->ak (N1.getD i "")=true/\(N1.getD i "").length<=4:=by decide+kernel
 exact⟨(this i h).1,(this i h).2⟩
theorem z6 {i:Nat}(h:i<5):Nm4 (N2.getD i ""):=by
 have: ∀i,i<5->ak (N2.getD i "")=true/\(N2.getD i "").length<=4:=by decide+kernel
 exact⟨(this i h).1,(this i h).2⟩
theorem zH {i:Nat}(h:i<12):Nm4 (M12.getD i ""):=by
 have: ∀i,i<12->ak (M12.getD i "")=true/\(M12.getD i "").length<=4:=by decide+kernel
 exact⟨(this i h).1,(this i h).2⟩
def wB (z:Str)(L:List Str):Bool:=match exprP z with
 |none=>false
 |some e=>clnB z && (exOk e && (decide (exDp e<=60) && (decide (exNm e=L) && skB z)))
theorem dB {z:Str}{L:List Str}(h:wB z L=true)(l:L.length<=60): ∃e,Wrd z e/\exNm e=L/\Sk z:=by
 unfold wB at h
 cases e:exprP z with
 |none=>rw[e] at h;cases h
 |some x=>
  rw[e] at h
  simp only[Bool.and_eq_true,decide_eq_true_eq] at h
  obtain⟨h1,h2,h3,h4,h5⟩:=h
  exact⟨x,⟨e,.of h1,h2,h3,by rw[h4];exact l⟩,h4,.of h5⟩
structure Ws (x y:Str):Prop where
 a:wB ("2*("++y++ "-1)") [y]=true
 b:wB (y++ "+1+"++x++ "*2") [y,x]=true
 c:wB x [x]=true
 d:wB ("1+"++y) [y]=true
 e:wB ("3*"++y) [y]=true
 f:wB ("("++x++ ")") [x]=true
theorem zW {i j:Nat}(hi:i<5)(hj:j<5):Ws (N1.getD i "") (N2.getD j ""):=by
 have: ∀i,i<5-> ∀j,j<5->(wB ("2*("++N2.getD j ""++ "-1)") [N2.getD j ""]=true/\wB (N2.getD j ""++ "+1+"++N1.getD i ""++ "*2") [N2.getD j "",N1.getD i ""]=true/\wB (N1.getD i "") [N1.getD i ""]=true)/\wB ("1+"++N2.getD j "") [N2.getD j ""]=true/\wB ("3*"++N2.getD j "") [N2.getD j ""]=true/\wB ("("++N1.getD i ""++ ")") [N1.getD i ""]=true:=by decide+kernel
 obtain⟨⟨a,b,c⟩,d,e,f⟩:=this i hi j hj
 exact⟨a,b,c,d,e,f⟩
theorem wk_g:(wB "7" []=true/\wB "5" []=true/\wB "3" []=true)/\wB "1" []=true/\wB "2" []=true/\wB "0" []=true:=by decide+kernel
theorem kw_len:(("2*(":Str).length=3/\("-1)":Str).length=3/\("+1+":Str).length=3/\("*2":Str).length=2/\("1+":Str).length=2/\("3*":Str).length=2/\("(":Str).length=1/\(")":Str).length=1)/\("say ":Str).length=4/\("ask ":Str).length=4/\("put ":Str).length=4/\(" ":Str).length=1/\("go ":Str).length=3/\("box ":Str).length=4/\("block ":Str).length=6/\("if":Str).length=2/\("else":Str).length=4/\("table":Str).length=5:=by decide+kernel
theorem kw_sp:(("say ":Str)= "say"++⟨#[32]⟩/\("ask ":Str)= "ask"++⟨#[32]⟩/\("put ":Str)= "put"++⟨#[32]⟩/\("go ":Str)= "go"++⟨#[32]⟩)/\("block ":Str)= "block"++⟨#[32]⟩/\("box ":Str)= "box"++⟨#[32]⟩/\("say 5":Str)= "say"++⟨#[32]⟩++ "5":=by decide+kernel
theorem nM (z:Str)(e:Exp):(Rr.say z e).tx= "say "++z:=by rw[kw_sp.1.1];rfl
theorem yR (z:Str):(Rr.ask z).tx= "ask "++z:=by rw[kw_sp.1.2.1];rfl
theorem nZ (x z:Str)(e:Exp):(Rr.put x z e).tx= "put "++x++ " "++z:=by
 rw[kw_sp.1.2.2.1,ka]
 show "put"++⟨#[32]⟩++(x++⟨#[32]⟩++z)=_
 simp only[sapp]
theorem yL (x z:Str):(Rr.box x z).tx= "box "++x++ " "++z:=by
 rw[kw_sp.2.2.1,ka]
 show "box"++⟨#[32]⟩++(x++⟨#[32]⟩++z)=_
 simp only[sapp]
theorem wn (z:Str):(Rr.go z).tx= "go "++z:=by rw[kw_sp.1.2.2.2];rfl
theorem nD (z:Str):(Rr.block z).tx= "block "++z:=by rw[kw_sp.2.1];rfl
theorem nJ (z:Str)(e:Exp)(xs:List Str):(Rr.table z e xs).tx=Str.join " " ("table"::z::xs):=by rw[ka];rfl
theorem if_tx' (s z1 z2 x y:Str)(e1 e2:Exp):(Rr.iff s z1 e1 z2 e2 x y).tx=Str.join " " ["if",z1,s,z2,x, "else",y]:=by rw[ka];rfl
theorem sgn2' {v:Int}(h0:0<=v)(h1:v<2): ∃s:Str,ixW (.str "<=") (.int v)=pr (.str s)/\(s= "<"\/s= "=")/\s.length=1:=by
 have:v=0\/v=1:=by omega
 have l3:("<=":Str).length<=sizeLine:=sz (show 2<=_ by omega)
 have a:("<":Str)=⟨#[60]⟩/\("=":Str)=⟨#[61]⟩:=by decide+kernel
 rcases this with rfl|rfl
 ·exact⟨"<",by rw[a.1];exact pq l3 (by decide+kernel),.inl rfl,by decide+kernel⟩
 ·exact⟨"=",by rw[a.2];exact pq l3 (by decide+kernel),.inr rfl,by decide+kernel⟩
structure Lr where
 r:Rr
 ns:List Str
noncomputable def Rr.own:Rr->Str
 |.box nm _=>nm
 |.block nm=>nm
 |_=> ""
def Lr.w (a:Lr):W:=.tl [.str a.r.tx,.str a.r.hd,.str a.r.own,.tl (a.ns.map W.str),.tl (a.r.tos.map W.str)]
structure LrG (a:Lr):Prop where
 g:RrG a.r
 n: ∀x,x∈a.ns↔x∈a.r.bxs
 z:a.ns.length<=2
 t:a.r.tos.length<=3
 k:Sk a.r.tx
 kn: ∀x∈a.ns,ak x=true
theorem nin {α:Type}{P:α->Prop}: ∀x∈([]:List α),P x:=fun _ h=>absurd h List.not_mem_nil
theorem nic {α:Type}{P:α->Prop}{a:α}{l:List α}(h:P a)(t:∀x∈l,P x): ∀x∈a::l,P x:=fun x hx=>by
 rcases List.mem_cons.mp hx with rfl|hx
 ·exact h
 ·exact t x hx
def g3 (f:Int)(d:Int):Str:=M12.getD (f / 25 / d % 12).toNat ""
theorem yx (f d:Int):Nm4 (g3 f d):=zH (by have:=Int.emod_nonneg (f / 25 / d) (show (12:Int)≠0 by decide);have:=Int.emod_lt_of_pos (f / 25 / d) (show (0:Int)<12 by decide);omega)
theorem ti (f d:Int):ixW (.tl [.str "m",.str "mm",.str "a",.str "n",.str "loop",.str "lo",.str "b",.str "x",.str "y",.str "z",.str "p",.str "q"]) (.int (f / 25 / d % 12))=pr (.str (g3 f d)):=
 eF (eX W.str M12 "" (Int.emod_nonneg (f / 25 / d) (by decide)) (Int.emod_lt_of_pos (f / 25 / d) (show (0:Int)<12 by decide)))
theorem sZ {c n f:Int}{x y:Str}{a b d e g k:Option W}:compM (fun _=>True) (tgN 0) mYes (m2 ixW (mVar 7) (m2 modW (m2 fdivW (m2 fdivW (mVar 4) (mC (.int 25))) (m2 ixW (mTl (lenG (mCons (mC (.int 1)) (mCons (mC (.int 12)) (mCons (mC (.int 144)) mNil))))) (mVar 0))) (mC (.int 12)))) 2 [.int 0,.int 1,.int 2] [some (.int c),some (.int n),some (.int f),some (.str x),some (.str y),some (.tl [.str "m",.str "mm",.str "a",.str "n",.str "loop",.str "lo",.str "b",.str "x",.str "y",.str "z",.str "p",.str "q"]),a,b,d,e,g,k]=pr [.str (g3 f 1),.str (g3 f 12),.str (g3 f 144)]:=by
 have:=fk (t:=tgN 0) (f:=mYes) (e:=m2 ixW (mVar 7) (m2 modW (m2 fdivW (m2 fdivW (mVar 4) (mC (.int 25))) (m2 ixW (mTl (lenG (mCons (mC (.int 1)) (mCons (mC (.int 12)) (mCons (mC (.int 144)) mNil))))) (mVar 0))) (mC (.int 12)))) (n:=2) (ρ:=[some (.int c),some (.int n),some (.int f),some (.str x),some (.str y),some (.tl [.str "m",.str "mm",.str "a",.str "n",.str "loop",.str "lo",.str "b",.str "x",.str "y",.str "z",.str "p",.str "q"]),a,b,d,e,g,k]) (b:=fun _=>true) (v:=fun w=>match w with|.int 0=>.str (g3 f 1)|.int 1=>.str (g3 f 12)|_=>.str (g3 f 144)) (l:=[.int 0,.int 1,.int 2]) ?_
 ·rw[this];rfl
 ·intro w hw
  simp only[List.mem_cons,List.not_mem_nil,or_false] at hw
  rcases hw with rfl|rfl|rfl
  ·refine⟨_,rfl,rfl,fun _=>?_⟩
   simp! only[List.replicate,List.cons_append,List.nil_append,aa,tx0,tx1,tx2,aA (show (0:Int)<25 by decide) (by decide),aA (show (0:Int)<1 by decide) (by decide),aw (show (0:Int)<12 by decide),ti]
  ·refine⟨_,rfl,rfl,fun _=>?_⟩
   simp! only[List.replicate,List.cons_append,List.nil_append,aa,tx0,tx1,tx2,aA (show (0:Int)<25 by decide) (by decide),aA (show (0:Int)<12 by decide) (by decide),aw (show (0:Int)<12 by decide),ti]
  ·refine⟨_,rfl,rfl,fun _=>?_⟩
   simp! only[List.replicate,List.cons_append,List.nil_append,aa,tx0,tx1,tx2,aA (show (0:Int)<25 by decide) (by decide),aA (show (0:Int)<144 by decide) (by decide),aw (show (0:Int)<12 by decide),ti]
theorem rng3:rng1 [.int 3]=pr ⟨[.int 0,.int 1,.int 2],fun _=>True⟩:=jj (by decide) (by decide)
theorem lstO_tl' (l:List W):lstO (.tl l)=pr l:=rfl
theorem say5:("say "++ "5":Str)= "say 5":=by decide+kernel
theorem mod3 (f:Int):f % 3=0\/f % 3=1\/f % 3=2:=by omega
theorem mod4 (f:Int):f % 4=0\/f % 4=1\/f % 4=2\/f % 4=3:=by omega
theorem oB {z a b c:Str}(h:z.length<=60)(h1:a.length<=4)(h2:b.length<=4)(h3:c.length<=4):joinW (.str " ") [.tl [.str "table",.str z,.str a,.str b,.str c]]=pr (.str (Str.join " " ["table",z,a,b,c])):=by
 refine jD (ts:=["table",z,a,b,c]) (sz ?_)
 obtain⟨_,_,_,_,k,_,_,_,_,_,k5⟩:=kw_len
 simp only[List.map_cons,List.map_nil,List.sum_cons,List.sum_nil,List.length_cons,List.length_nil]
 rw[k]
 omega
theorem pp {s z u a b:Str}(h0:s.length=1)(h:z.length<=60)(h1:u.length<=60)(h2:a.length<=4)(h3:b.length<=4):joinW (.str " ") [.tl [.str "if",.str z,.str s,.str u,.str a,.str "else",.str b]]=pr (.str (Str.join " " ["if",z,s,u,a, "else",b])):=by
 refine jD (ts:=["if",z,s,u,a, "else",b]) (sz ?_)
 obtain⟨_,_,_,_,k,_,_,_,k2,k3,_⟩:=kw_len
 simp only[List.map_cons,List.map_nil,List.sum_cons,List.sum_nil,List.length_cons,List.length_nil]
 rw[k]
 omega
theorem wS (c:Int): ∃a:Lr,cM [.int c]=pr a.w/\LrG a:=by
 have e0:cM [.int c]=bd (dA [some (.int c),none,none,none,none,none,none,none,none,none,none,none]) finF:=rfl
 rw[e0]
 unfold dA
 have s80:ao [.int c,.int 80]=pr (.int (stir c 80)):=cU (by decide)
 have s81:ao [.int c,.int 81]=pr (.int (stir c 81)):=cU (by decide)
 generalize stir c 80=n at *
 generalize stir c 81=f at *
 have u0:=Int.emod_nonneg f (show (5:Int)≠0 by decide)
 have u1:=Int.emod_lt_of_pos f (show (0:Int)<5 by decide)
 have v0:=Int.emod_nonneg (f / 5) (show (5:Int)≠0 by decide)
 have v1:=Int.emod_lt_of_pos (f / 5) (show (0:Int)<5 by decide)
 have p1:ixW (.tl [.str "a",.str "ab",.str "b",.str "c",.str "zz"]) (.int (f % 5))=pr (.str (N1.getD (f % 5).toNat "")):=eF (eX W.str N1 "" u0 u1)
 have p2:ixW (.tl [.str "b",.str "a",.str "ab",.str "abc",.str "d"]) (.int (f / 5 % 5))=pr (.str (N2.getD (f / 5 % 5).toNat "")):=eF (eX W.str N2 "" v0 v1)
 have x1:=z7 (i:=(f % 5).toNat) (by omega)
 have y1:=z6 (i:=(f / 5 % 5).toNat) (by omega)
 obtain⟨wa,wb,wc,wd,we,wf⟩:=zW (i:=(f % 5).toNat) (j:=(f / 5 % 5).toNat) (by omega) (by omega)
 generalize N1.getD (f % 5).toNat ""=x at *
 generalize N2.getD (f / 5 % 5).toNat ""=y at *
 obtain⟨xn,xl⟩:=x1
 obtain⟨yn,yl⟩:=y1
 have k0:=Int.emod_nonneg n (show (16:Int)≠0 by decide)
 have k1:=Int.emod_lt_of_pos n (show (0:Int)<16 by decide)
 simp! only[aa,s80,s81,aA (show (0:Int)<5 by decide) (by decide),aw (show (0:Int)<5 by decide),aw (show (0:Int)<16 by decide),p1,p2,rng3,sZ]
 have G0:=yx f 1
 have G1:=yx f 12
 have G2:=yx f 144
 generalize g3 f 1=t0 at *
 generalize g3 f 12=t1 at *
 generalize g3 f 144=t2 at *
 obtain⟨t0n,t0l⟩:=G0
 obtain⟨t1n,t1l⟩:=G1
 obtain⟨t2n,t2l⟩:=G2
 obtain⟨s1,s2,s3,s4,s5,s6,s7,s8,s9,s10,s11,s12,_⟩:=sk_k
 obtain⟨⟨l1,l2,l3,l4,l5,l6,l7,l8⟩,l9,l10,l11,l12,l13,l14,l15,l16,l17,l18⟩:=kw_len
 clear p1 p2 s80 s81
 have n3:=mod3 (f / 250)
 by_cases c1:n % 16<3
 ·have q0:=Int.emod_nonneg (f / 25) (show (1000:Int)≠0 by decide)
  have q1:=Int.emod_lt_of_pos (f / 25) (show (0:Int)<1000 by decide)
  obtain⟨a1,a2⟩:=zn q0 (by omega)
  have al:=(lc a1).len
  refine⟨⟨.box x (toString (f / 25 % 1000)),[]⟩,?_,⟨⟨xn,a1⟩,nin,nin⟩,fun _=>Iff.rfl,Nat.zero_le _,Nat.zero_le _,eK (nic s1 (nic (cc xn) (nic (xK a1) nin))),nin⟩
  unfold Lr.w
  rw[yL]
  generalize (toString (f / 25 % 1000):Str)=V at *
  simp! only[aa,decide_eq_true c1,aA (show (0:Int)<25 by decide) (by decide),aw (show (0:Int)<1000 by decide),a2,adS (a:= "box ") (b:=x) (by omega),adS (a:= "box "++x) (b:= " ") (by rw[slen];omega),adS (a:= "box "++x++ " ") (b:=V) (by rw[slen,slen];omega)]
  rfl
 by_cases c2:n % 16<6
 ·refine⟨⟨.block t0,[]⟩,?_,⟨t0n,nin,nin⟩,fun _=>Iff.rfl,Nat.zero_le _,Nat.zero_le _,eK (nic s2 (nic (cc t0n) nin)),nin⟩
  unfold Lr.w
  rw[nD]
  simp! only[aa,decide_eq_false c1,decide_eq_true c2,tx0,adS (a:= "block ") (b:=t0) (by omega)]
  rfl
 by_cases c3:n % 16=6
 ·refine⟨⟨.ask x,[x]⟩,?_,⟨xn,nic (by omega) nin,nin⟩,fun _=>Iff.rfl,(by show 1<=2;decide),Nat.zero_le _,eK (nic s5 (nic (cc xn) nin)),nic xn nin⟩
  unfold Lr.w
  rw[yR]
  simp! only[aa,decide_eq_false c1,decide_eq_false c2,decide_eq_true c3,adS (a:= "ask ") (b:=x) (by omega)]
  rfl
 by_cases c4:n % 16<9
 ·have ad: ∀z:Str,z.length<=60->addW (.str ("put "++x++ " ")) (.str z)=pr (.str ("put "++x++ " "++z)):=fun z hz=>adS (by rw[slen,slen];omega)
  have i1: ∀ {α:Type} (a b:α) (l:List α),[a,b]=a::[b]:=fun _ _ _=>rfl
  have st: ∀ (z:Str) (e:Exp) (L ns:List Str),Wrd z e->Sk z->exNm e=L->(∀u∈L,u.length<=100)->(∀u,u∈ns↔u∈x::L)->ns.length<=2->(∀u∈ns,ak u=true)->LrG ⟨.put x z e,ns⟩:=fun z e L ns w zs el lh im nl kn=>⟨⟨⟨xn,w⟩,by
   show∀u∈x::exNm e,_
   rw[el];exact nic (by omega) lh,nin⟩,fun u=>by
   show _↔u∈x::exNm e
   rw[el];exact im u,nl,Nat.zero_le _,eK (nic s3 (nic (cc xn) (nic zs nin))),kn⟩
  have b1:=adS (a:= "2*(") (b:=y) (by omega)
  have b2:=adS (a:= "2*("++y) (b:= "-1)") (by rw[slen];omega)
  have b3:=adS (a:=y) (b:= "+1+") (by omega)
  have b4:=adS (a:=y++ "+1+") (b:=x) (by rw[slen];omega)
  have b5:=adS (a:=y++ "+1+"++x) (b:= "*2") (by rw[slen,slen];omega)
  have b6:=adS (a:= "put ") (b:=x) (by omega)
  have b7:=adS (a:= "put "++x) (b:= " ") (by rw[slen];omega)
  rcases n3 with m|m|m
  ·obtain⟨e,w,el,sz⟩:=dB wa (by simp)
   refine⟨⟨.put x ("2*("++y++ "-1)") e,[x,y]⟩,?_,st _ _ _ _ w sz el (nic (by omega) nin) (fun _=>Iff.rfl) (by simp) (nic xn (nic yn nin))⟩
   unfold Lr.w
   rw[nZ]
   simp! only[aa,decide_eq_false c1,decide_eq_false c2,decide_eq_false c3,decide_eq_true c4,aA (show (0:Int)<250 by decide) (by decide),aw (show (0:Int)<3 by decide),m,tx0,b1,b2,b3,b4,b5,b6,b7,ad _ w.c.len]
   rfl
  ·obtain⟨e,w,el,sz⟩:=dB wk_g.1.1 (by decide)
   refine⟨⟨.put x "7" e,[x]⟩,?_,st _ _ _ _ w sz el nin (fun _=>Iff.rfl) (by simp) (nic xn nin)⟩
   unfold Lr.w
   rw[nZ]
   simp! only[aa,decide_eq_false c1,decide_eq_false c2,decide_eq_false c3,decide_eq_true c4,aA (show (0:Int)<250 by decide) (by decide),aw (show (0:Int)<3 by decide),m,tx1,b1,b2,b3,b4,b5,b6,b7,ad _ w.c.len]
   rfl
  ·obtain⟨e,w,el,sz⟩:=dB wb (by simp)
   refine⟨⟨.put x (y++ "+1+"++x++ "*2") e,[x,y]⟩,?_,st _ _ _ _ w sz el (nic (by omega) (nic (by omega) nin)) (fun u=>by simp only[List.mem_cons,List.not_mem_nil,or_false];exact⟨fun h=>h.elim .inl fun h=>.inr (.inl h),fun h=>h.elim .inl fun h=>h.elim .inr .inl⟩) (by simp) (nic xn (nic yn nin))⟩
   unfold Lr.w
   rw[nZ]
   simp! only[aa,decide_eq_false c1,decide_eq_false c2,decide_eq_false c3,decide_eq_true c4,aA (show (0:Int)<250 by decide) (by decide),aw (show (0:Int)<3 by decide),m,tx2,b1,b2,b3,b4,b5,b6,b7,ad _ w.c.len]
   rfl
 by_cases c5:n % 16=9
 ·have b1:=adS (a:= "say ") (b:=x) (by omega)
  have m2:f / 250 % 2=0\/f / 250 % 2=1:=by omega
  rcases m2 with m|m
  ·obtain⟨e,w,el,sz⟩:=dB wk_g.1.2.1 (by decide)
   refine⟨⟨.say "5" e,[]⟩,?_,⟨w,by show∀u∈exNm e,_;rw[el];exact nin,nin⟩,fun u=>by show _↔u∈exNm e;rw[el],Nat.zero_le _,Nat.zero_le _,eK (nic s4 (nic sz nin)),nin⟩
   unfold Lr.w
   rw[nM,say5]
   simp! only[aa,decide_eq_false c1,decide_eq_false c2,decide_eq_false c3,decide_eq_false c4,decide_eq_true c5,aA (show (0:Int)<250 by decide) (by decide),aw (show (0:Int)<2 by decide),m,tx0,b1]
   rfl
  ·obtain⟨e,w,el,sz⟩:=dB wc (by simp)
   refine⟨⟨.say x e,[x]⟩,?_,⟨w,by show∀u∈exNm e,_;rw[el];exact nic (by omega) nin,nin⟩,fun u=>by show _↔u∈exNm e;rw[el],(by show 1<=2;decide),Nat.zero_le _,eK (nic s4 (nic sz nin)),nic xn nin⟩
   unfold Lr.w
   rw[nM]
   simp! only[aa,decide_eq_false c1,decide_eq_false c2,decide_eq_false c3,decide_eq_false c4,decide_eq_true c5,aA (show (0:Int)<250 by decide) (by decide),aw (show (0:Int)<2 by decide),m,tx1,b1]
   rfl
 by_cases c6:n % 16<12
 ·refine⟨⟨.go t0,[]⟩,?_,⟨t0n,nin,nic (by omega) nin⟩,fun _=>Iff.rfl,Nat.zero_le _,(by show 1<=3;decide),eK (nic s6 (nic (cc t0n) nin)),nin⟩
  unfold Lr.w
  rw[wn]
  simp! only[aa,decide_eq_false c1,decide_eq_false c2,decide_eq_false c3,decide_eq_false c4,decide_eq_false c5,decide_eq_true c6,tx0,adS (a:= "go ") (b:=t0) (by omega)]
  rfl
 by_cases c7:n % 16=12
 ·refine⟨⟨.stop,[]⟩,?_,⟨trivial,nin,nin⟩,fun _=>Iff.rfl,Nat.zero_le _,Nat.zero_le _,eK (nic s10 nin),nin⟩
  simp! only[aa,decide_eq_false c1,decide_eq_false c2,decide_eq_false c3,decide_eq_false c4,decide_eq_false c5,decide_eq_false c6,decide_eq_true c7]
  rfl
 by_cases c8:n % 16=13
 ·have tos: ∀u∈[t0,t1,t2],u.length<=100:=nic (by omega) (nic (by omega) (nic (by omega) nin))
  have st: ∀ (z:Str) (e:Exp) (L:List Str),Wrd z e->Sk z->exNm e=L->(∀u∈L,u.length<=100)->L.length<=2->(∀u∈L,ak u=true)->LrG ⟨.table z e [t0,t1,t2],L⟩:=fun z e L w zs el lh nl kn=>⟨⟨⟨w,by simp,by simp,nic t0n (nic t1n (nic t2n nin))⟩,by
   show∀u∈exNm e,_
   rw[el];exact lh,tos⟩,fun u=>by
   show _↔u∈exNm e
   rw[el],nl,(by show 3<=3;decide),eK (nic s9 (nic zs (nic (cc t0n) (nic (cc t1n) (nic (cc t2n) nin))))),kn⟩
  have b1:=adS (a:= "1+") (b:=y) (by omega)
  rcases n3 with m|m|m
  ·obtain⟨e,w,el,sz⟩:=dB wk_g.1.2.2 (by decide)
   refine⟨⟨.table "3" e [t0,t1,t2],[]⟩,?_,st _ _ _ w sz el nin (by simp) nin⟩
   unfold Lr.w
   rw[nJ]
   simp! only[aa,decide_eq_false c1,decide_eq_false c2,decide_eq_false c3,decide_eq_false c4,decide_eq_false c5,decide_eq_false c6,decide_eq_false c7,decide_eq_true c8,aA (show (0:Int)<250 by decide) (by decide),aw (show (0:Int)<3 by decide),m,tx0,b1,catL,lstO_tl',List.cons_append,List.nil_append,oB w.c.len t0l t1l t2l]
   rfl
  ·obtain⟨e,w,el,sz⟩:=dB wc (by simp)
   refine⟨⟨.table x e [t0,t1,t2],[x]⟩,?_,st _ _ _ w sz el (nic (by omega) nin) (by simp) (nic xn nin)⟩
   unfold Lr.w
   rw[nJ]
   simp! only[aa,decide_eq_false c1,decide_eq_false c2,decide_eq_false c3,decide_eq_false c4,decide_eq_false c5,decide_eq_false c6,decide_eq_false c7,decide_eq_true c8,aA (show (0:Int)<250 by decide) (by decide),aw (show (0:Int)<3 by decide),m,tx1,b1,catL,lstO_tl',List.cons_append,List.nil_append,oB w.c.len t0l t1l t2l]
   rfl
  ·obtain⟨e,w,el,sz⟩:=dB wd (by simp)
   refine⟨⟨.table ("1+"++y) e [t0,t1,t2],[y]⟩,?_,st _ _ _ w sz el (nic (by omega) nin) (by simp) (nic yn nin)⟩
   unfold Lr.w
   rw[nJ]
   simp! only[aa,decide_eq_false c1,decide_eq_false c2,decide_eq_false c3,decide_eq_false c4,decide_eq_false c5,decide_eq_false c6,decide_eq_false c7,decide_eq_true c8,aA (show (0:Int)<250 by decide) (by decide),aw (show (0:Int)<3 by decide),m,tx2,b1,catL,lstO_tl',List.cons_append,List.nil_append,oB w.c.len t0l t1l t2l]
   rfl
 have v0:=Int.emod_nonneg (n / 16) (show (2:Int)≠0 by decide)
 have v1:=Int.emod_lt_of_pos (n / 16) (show (0:Int)<2 by decide)
 obtain⟨s,es,hs,ls⟩:=sgn2' v0 v1
 have tos: ∀u∈[t0,t1],u.length<=100:=nic (by omega) (nic (by omega) nin)
 have hss:Sk s:=by rcases hs with rfl|rfl;exact s11;exact s12
 have st: ∀ (z u:Str) (e1 e2:Exp) (L M:List Str),Wrd z e1->Wrd u e2->Sk z->Sk u->exNm e1=L->exNm e2=M->(∀v∈L++M,v.length<=100)->(L++M).length<=2->(∀v∈L++M,ak v=true)->LrG ⟨.iff s z e1 u e2 t0 t1,L++M⟩:=fun z u e1 e2 L M w1 w2 k1 k2 el em lh nl kn=>⟨⟨⟨hs,w1,w2,t0n,t1n⟩,by
  show∀u∈exNm e1++exNm e2,_
  rw[el,em];exact lh,tos⟩,fun u=>by
  show _↔u∈exNm e1++exNm e2
  rw[el,em],nl,(by show 2<=3;decide),eK (nic s7 (nic k1 (nic hss (nic k2 (nic (cc t0n) (nic s8 (nic (cc t1n) nin))))))),kn⟩
 have b1:=adS (a:= "1+") (b:=y) (by omega)
 have b2:=adS (a:= "3*") (b:=y) (by omega)
 have b3:=adS (a:= "(") (b:=x) (by omega)
 have b4:=adS (a:= "("++x) (b:= ")") (by rw[slen];omega)
 rcases mod4 (f / 250) with m|m|m|m
 ·obtain⟨e1,w1,el,sz1⟩:=dB wc (by simp)
  obtain⟨e2,w2,em,sz2⟩:=dB wd (by simp)
  refine⟨⟨.iff s x e1 ("1+"++y) e2 t0 t1,[x,y]⟩,?_,st _ _ _ _ _ _ w1 w2 sz1 sz2 el em (nic (by omega) (nic (by omega) nin)) (by simp) (nic xn (nic yn nin))⟩
  unfold Lr.w
  rw[if_tx']
  simp! only[aa,decide_eq_false c1,decide_eq_false c2,decide_eq_false c3,decide_eq_false c4,decide_eq_false c5,decide_eq_false c6,decide_eq_false c7,decide_eq_false c8,aA (show (0:Int)<250 by decide) (by decide),aA (show (0:Int)<16 by decide) (by decide),aw (show (0:Int)<4 by decide),aw (show (0:Int)<2 by decide),m,es,tx0,tx1,b1,b2,b3,b4,pp ls w1.c.len w2.c.len t0l t1l]
  rfl
 ·obtain⟨e1,w1,el,sz1⟩:=dB wk_g.2.1 (by simp)
  obtain⟨e2,w2,em,sz2⟩:=dB wk_g.2.2.1 (by simp)
  refine⟨⟨.iff s "1" e1 "2" e2 t0 t1,[]⟩,?_,st _ _ _ _ _ _ w1 w2 sz1 sz2 el em nin (by simp) nin⟩
  unfold Lr.w
  rw[if_tx']
  simp! only[aa,decide_eq_false c1,decide_eq_false c2,decide_eq_false c3,decide_eq_false c4,decide_eq_false c5,decide_eq_false c6,decide_eq_false c7,decide_eq_false c8,aA (show (0:Int)<250 by decide) (by decide),aA (show (0:Int)<16 by decide) (by decide),aw (show (0:Int)<4 by decide),aw (show (0:Int)<2 by decide),m,es,tx0,tx1,b1,b2,b3,b4,pp ls w1.c.len w2.c.len t0l t1l]
  rfl
 ·obtain⟨e1,w1,el,sz1⟩:=dB we (by simp)
  obtain⟨e2,w2,em,sz2⟩:=dB wk_g.2.2.2 (by simp)
  refine⟨⟨.iff s ("3*"++y) e1 "0" e2 t0 t1,[y]⟩,?_,st _ _ _ _ _ _ w1 w2 sz1 sz2 el em (nic (by omega) nin) (by simp) (nic yn nin)⟩
  unfold Lr.w
  rw[if_tx']
  simp! only[aa,decide_eq_false c1,decide_eq_false c2,decide_eq_false c3,decide_eq_false c4,decide_eq_false c5,decide_eq_false c6,decide_eq_false c7,decide_eq_false c8,aA (show (0:Int)<250 by decide) (by decide),aA (show (0:Int)<16 by decide) (by decide),aw (show (0:Int)<4 by decide),aw (show (0:Int)<2 by decide),m,es,tx0,tx1,tx2,b1,b2,b3,b4,pp ls w1.c.len w2.c.len t0l t1l]
  rfl
 ·obtain⟨e1,w1,el,sz1⟩:=dB wk_g.2.2.2 (by simp)
  obtain⟨e2,w2,em,sz2⟩:=dB wf (by simp)
  refine⟨⟨.iff s "0" e1 ("("++x++ ")") e2 t0 t1,[x]⟩,?_,st _ _ _ _ _ _ w1 w2 sz1 sz2 el em (nic (by omega) nin) (by simp) (nic xn nin)⟩
  unfold Lr.w
  rw[if_tx']
  simp! only[aa,decide_eq_false c1,decide_eq_false c2,decide_eq_false c3,decide_eq_false c4,decide_eq_false c5,decide_eq_false c6,decide_eq_false c7,decide_eq_false c8,aA (show (0:Int)<250 by decide) (by decide),aA (show (0:Int)<16 by decide) (by decide),aw (show (0:Int)<4 by decide),aw (show (0:Int)<2 by decide),m,es,tx0,tx1,tx3,b1,b2,b3,b4,pp ls w1.c.len w2.c.len t0l t1l]
  rfl
end
section
open Wd
structure S8 where
 bx:List Str
 bl:List Str
 i:Bool
 m:Nat
noncomputable def S8.w (s:S8):W:=.tl [.tl (s.bx.map W.str),.tl (s.bl.map W.str),.bl s.i,.int (s.m:Int)]
structure S8G (s:S8):Prop where
 x: ∀x∈s.bx,ak x=true
 l: ∀x∈s.bl,ak x=true
 zx:s.bx.length<=4
 zl:s.bl.length<=10
 zm:s.m<=8
def due8 (s:S8)(a:Lr):Int:=match a.r with
 |.box nm _=>if s.bl=[] then (if nm∈s.bx then 3 else if s.bx.length=4 then 4 else -1) else 2
 |.block nm=>if s.i=true then 2 else if nm∈s.bl then 3 else if s.bl.length=10 then 4 else -1
 |r=>if s.i=true then (if r.stm=true/\s.m=8 then 4 else if∀x∈r.bxs,x∈s.bx then -1 else 5) else 2
def beh8 (s:S8)(a:Lr):S8:=match a.r with
 |.box nm _=>{s with bx:=s.bx++[nm]}
 |.block nm=>⟨s.bx,s.bl++[nm],true,0⟩
 |r=>if r.stm=true then{s with m:=s.m+1} else⟨s.bx,s.bl,false,0⟩
theorem fH (b:Bool):intW [.bl b]=pr (.int (if b=true then 1 else 0)):=by cases b<;>rfl
theorem fm (a b:W)(c:Bool):ixW (.tl [a,b]) (.int (if c=true then 1 else 0))=pr (if c=true then b else a):=by
 cases c
 ·exact tx0 ..
 ·exact tx1 ..
theorem dE {α β:Type}(f:α->β)(l:List α):(l.map f).isEmpty=l.isEmpty:=by cases l<;>rfl
theorem in3 {z:Str}:inW (.str z) (.tl [.str "put",.str "say",.str "ask"])=pr (.bl (decide (z∈(["put", "say", "ask"]:List Str)))):=dW (ss:=["put", "say", "ask"])
theorem pH {ns ss:List Str}:(ns.filter fun x=>!decide (x∈ss)).isEmpty=decide (∀x∈ns,x∈ss):=by
 rw[Bool.eq_iff_iff,List.isEmpty_iff,List.filter_eq_nil_iff,decide_eq_true_eq]
 constructor
 ·intro h x hx
  exact Classical.byContradiction fun n=>h x hx (by rw[decide_eq_false n];rfl)
 ·intro h x hx
  rw[decide_eq_true (h x hx)]
  simp
theorem oq {ns ss:List Str}{ρ:Env'}{k:Nat}(hk:ρ[k]?=some (some (.tl (ss.map W.str)))):compM (fun _=>True) (tgN 0) (mB (m2 bS (mVar 0) (mVar (k+2)))) (mVar 0) 2 (ns.map W.str) ρ=pr ((ns.filter fun x=>!decide (x∈ss)).map W.str):=by
 have:=fk (t:=tgN 0) (f:=mB (m2 bS (mVar 0) (mVar (k+2)))) (e:=mVar 0) (n:=2) (ρ:=ρ) (b:=fun w=>match w with|.str x=>!decide (x∈ss)|_=>false) (v:=id) (l:=ns.map W.str) fun w hw=>by
  obtain⟨x,hx,rfl⟩:=List.mem_map.mp hw
  refine⟨_,rfl,?_,fun _=>?_⟩
  ·simp! only[List.replicate,List.cons_append,List.nil_append,aa,hk,eC]
  ·simp! only[List.replicate,List.cons_append,List.nil_append,aa,id]
 rw[this,List.map_id,List.filter_map]
 rfl
theorem vK {s:S8}{nm v z:Str}{a b:W}(g:S8G s):cF [.tl [.str z,.str "box",.str nm,a,b],s.w]=pr (.int (if s.bl=[] then (if nm∈s.bx then 3 else if s.bx.length=4 then 4 else -1) else 2)):=by
 have e0:cF [.tl [.str z,.str "box",.str nm,a,b],s.w]=bd (cS [some (.tl [.str z,.str "box",.str nm,a,b]),some (.tl [.tl (s.bx.map W.str),.tl (s.bl.map W.str),.bl s.i,.int (s.m:Int)]),none,none,none,none,none,none,none,none,none]) finF:=rfl
 rw[e0]
 unfold cS
 have ne:=lg (l:=s.bl.map W.str) (eV g.l)
 rw[dE] at ne
 by_cases c1:s.bl=[]
 ·have c1':s.bl.isEmpty=true:=by rw[c1];rfl
  rw[if_pos c1]
  by_cases c2:nm∈s.bx
  ·rw[if_pos c2]
   simp! only[aa,tgL,ne,c1',dW,decide_eq_true c2]
  ·rw[if_neg c2]
   by_cases c3:s.bx.length=4
   ·rw[if_pos c3]
    have d:decide ((((s.bx.map W.str).length:Nat):Int)=4)=true:=decide_eq_true (by rw[List.length_map];omega)
    simp! only[aa,tgL,ne,c1',dW,decide_eq_false c2,d,fH,fm,tx0,tx1]
   ·rw[if_neg c3]
    have d:decide ((((s.bx.map W.str).length:Nat):Int)=4)=false:=decide_eq_false (by rw[List.length_map];omega)
    simp! only[aa,tgL,ne,c1',dW,decide_eq_false c2,d,fH,fm,tx0,tx1]
 ·have c1':s.bl.isEmpty=false:=by rw[List.isEmpty_eq_false_iff];exact c1
  rw[if_neg c1]
  simp! only[aa,tgL,ne,c1']
theorem qN {s:S8}{nm z:Str}{a b:W}(g:S8G s):cF [.tl [.str z,.str "block",.str nm,a,b],s.w]=pr (.int (if s.i=true then 2 else if nm∈s.bl then 3 else if s.bl.length=10 then 4 else -1)):=by
 have e0:cF [.tl [.str z,.str "block",.str nm,a,b],s.w]=bd (cS [some (.tl [.str z,.str "block",.str nm,a,b]),some (.tl [.tl (s.bx.map W.str),.tl (s.bl.map W.str),.bl s.i,.int (s.m:Int)]),none,none,none,none,none,none,none,none,none]) finF:=rfl
 rw[e0]
 unfold cS
 by_cases c1:s.i=true
 ·rw[if_pos c1]
  simp! only[aa,tgL,hds,c1]
 ·have c1':s.i=false:=by simpa using c1
  rw[if_neg c1]
  by_cases c2:nm∈s.bl
  ·rw[if_pos c2]
   simp! only[aa,tgL,hds,c1',dW,decide_eq_true c2]
  ·rw[if_neg c2]
   by_cases c3:s.bl.length=10
   ·rw[if_pos c3]
    have d:decide ((((s.bl.map W.str).length:Nat):Int)=10)=true:=decide_eq_true (by rw[List.length_map];omega)
    simp! only[aa,tgL,hds,c1',dW,decide_eq_false c2,d,fH,fm,tx0,tx1]
   ·rw[if_neg c3]
    have d:decide ((((s.bl.map W.str).length:Nat):Int)=10)=false:=decide_eq_false (by rw[List.length_map];omega)
    simp! only[aa,tgL,hds,c1',dW,decide_eq_false c2,d,fH,fm,tx0,tx1]
theorem vJ {s:S8}{ns:List Str}{z hd nm:Str}{b:W}(g:S8G s)(n1:decide (hd= "box")=false)(n2:decide (hd= "block")=false)(kn: ∀x∈ns,ak x=true)(l2:ns.length<=2):cF [.tl [.str z,.str hd,.str nm,.tl (ns.map W.str),b],s.w]=pr (.int (if s.i=true then (if hd∈(["put", "say", "ask"]:List Str)/\s.m=8 then 4 else if∀x∈ns,x∈s.bx then -1 else 5) else 2)):=by
 have e0:cF [.tl [.str z,.str hd,.str nm,.tl (ns.map W.str),b],s.w]=bd (cS [some (.tl [.str z,.str hd,.str nm,.tl (ns.map W.str),b]),some (.tl [.tl (s.bx.map W.str),.tl (s.bl.map W.str),.bl s.i,.int (s.m:Int)]),none,none,none,none,none,none,none,none,none]) finF:=rfl
 rw[e0]
 unfold cS
 by_cases c1:s.i=true
 ·rw[if_pos c1]
  have ne:=lg (l:=(ns.filter fun x=>!decide (x∈s.bx)).map W.str) (eV fun x hx=>kn x (List.mem_filter.mp hx).1)
  rw[dE,pH] at ne
  have gl: ∀ {α:Type} (q:M α),gd ((ns.map W.str).length<=sizeLine) q=q:=fun q=>ai (by rw[List.length_map];exact sz (by omega))
  have nc:=oq (ns:=ns) (ss:=s.bx) (k:=7) (ρ:=[some (.tl [.str z,.str hd,.str nm,.tl (ns.map W.str),b]),some (.tl [.tl (s.bx.map W.str),.tl (s.bl.map W.str),.bl s.i,.int (s.m:Int)]),some (.str z),some (.str hd),some (.str nm),some (.tl (ns.map W.str)),some b,some (.tl (s.bx.map W.str)),some (.tl (s.bl.map W.str)),some (.bl s.i),some (.int (s.m:Int))]) rfl
  rw[c1] at nc ⊢
  have fin:(if (!decide (∀x∈ns,x∈s.bx))=true then W.int 5 else W.int (-1))=.int (if∀x∈ns,x∈s.bx then -1 else 5):=by
   by_cases c: ∀x∈ns,x∈s.bx
   ·rw[decide_eq_true c,if_pos c];rfl
   ·rw[decide_eq_false c,if_neg c];rfl
  by_cases c2:hd∈(["put", "say", "ask"]:List Str)
  ·by_cases c3:s.m=8
   ·rw[if_pos ⟨c2,c3⟩]
    have d:decide ((s.m:Int)=8)=true:=decide_eq_true (by omega)
    simp! only[aa,tgL,n1,n2,in3,decide_eq_true c2,d]
   ·rw[if_neg fun h=>c3 h.2,<-fin]
    have d:decide ((s.m:Int)=8)=false:=decide_eq_false (by omega)
    simp! only[aa,tgL,n1,n2,in3,decide_eq_true c2,d,dS,gl,nc,ne,fH,fm,tx0,tx1]
  ·rw[if_neg fun h=>c2 h.1,<-fin]
   simp! only[aa,tgL,n1,n2,in3,decide_eq_false c2,dS,gl,nc,ne,fH,fm,tx0,tx1]
 ·have c1':s.i=false:=by simpa using c1
  rw[if_neg c1,c1']
  simp! only[aa,tgL,n1,n2]
theorem wM {r:Rr}(q:r.stm=true\/r.end'=true):(r.hd∈(["put", "say", "ask"]:List Str))↔r.stm=true:=by
 constructor
 ·intro h
  rcases q with q|q
  ·exact q
  ·exact absurd h (jF q)
 ·exact lB
theorem lG {s:S8}{a:Lr}(q:a.r.stm=true\/a.r.end'=true):due8 s a=if s.i=true then (if a.r.stm=true/\s.m=8 then 4 else if∀x∈a.r.bxs,x∈s.bx then -1 else 5) else 2:=by
 obtain⟨r,ns⟩:=a
 cases r<;>first|rfl|(rcases q with q|q<;>cases q)
theorem yD {s:S8}{a:Lr}(g:S8G s)(ga:LrG a):cF [a.w,s.w]=pr (.int (due8 s a)):=by
 rcases gb a.r with⟨nm,v,e⟩|⟨nm,e⟩|q
 ·obtain⟨r,ns⟩:=a
  cases e
  exact vK (v:=v) g
 ·obtain⟨r,ns⟩:=a
  cases e
  exact qN g
 ·have nh:=jE q
  rw[lG q]
  have d:=vJ (z:=a.r.tx) (hd:=a.r.hd) (nm:=a.r.own) (b:=.tl (a.r.tos.map W.str)) g nh.1 nh.2 ga.kn ga.z
  have e1:(∀x∈a.ns,x∈s.bx)↔ ∀x∈a.r.bxs,x∈s.bx:=⟨fun h x hx=>h x ((ga.n x).mpr hx),fun h x hx=>h x ((ga.n x).mp hx)⟩
  simp only[wM q,e1] at d
  exact d
theorem jQ {s:S8}{a:Lr}(q:a.r.stm=true):beh8 s a={s with m:=s.m+1}:=by
 obtain⟨r,ns⟩:=a
 cases r<;>first|rfl|cases q
theorem jR {s:S8}{a:Lr}(q:a.r.end'=true):beh8 s a=⟨s.bx,s.bl,false,0⟩:=by
 obtain⟨r,ns⟩:=a
 cases r<;>first|rfl|cases q
theorem yN {s:S8}{a:Lr}(g:S8G s):dZ [a.w,s.w]=pr (beh8 s a).w:=by
 have e0:dZ [a.w,s.w]=bd (dY [some (.tl [.str a.r.tx,.str a.r.hd,.str a.r.own,.tl (a.ns.map W.str),.tl (a.r.tos.map W.str)]),some (.tl [.tl (s.bx.map W.str),.tl (s.bl.map W.str),.bl s.i,.int (s.m:Int)]),none,none,none,none]) finF:=rfl
 rw[e0]
 unfold dY
 have a1:addW (.tl (s.bx.map W.str)) (.tl [.str a.r.own])=pr (.tl ((s.bx++[a.r.own]).map W.str)):=by
  rw[fX _ _ (by rw[List.length_map];exact sz (show _+1<=_ by have:=g.zx;omega)),List.map_append];rfl
 have a2:addW (.tl (s.bl.map W.str)) (.tl [.str a.r.own])=pr (.tl ((s.bl++[a.r.own]).map W.str)):=by
  rw[fX _ _ (by rw[List.length_map];exact sz (show _+1<=_ by have:=g.zl;omega)),List.map_append];rfl
 rcases gb a.r with⟨nm,v,e⟩|⟨nm,e⟩|q|q
 ·obtain⟨r,ns⟩:=a
  cases e
  have eh:(Rr.box nm v).hd= "box":=rfl
  have eo:(Rr.box nm v).own=nm:=rfl
  dsimp only at a1 a2 ⊢
  rw[eo] at a1 a2 ⊢
  rw[eh]
  generalize (Rr.box nm v).tx=T
  simp! only[aa,tgL,tx1,tx2,a1]
  rfl
 ·obtain⟨r,ns⟩:=a
  cases e
  have eh:(Rr.block nm).hd= "block":=rfl
  have eo:(Rr.block nm).own=nm:=rfl
  dsimp only at a1 a2 ⊢
  rw[eo] at a1 a2 ⊢
  rw[eh]
  generalize (Rr.block nm).tx=T
  simp! only[aa,tgL,tx1,tx2,hds,a2]
  rfl
 ·have nh:=jE (r:=a.r) (.inl q)
  have st:=lB q
  rw[jQ q]
  generalize a.r.tx=T at *
  generalize a.r.own=O at *
  generalize a.r.hd=H at *
  simp! only[aa,tgL,tx1,tx2,nh,in3,decide_eq_true st]
  rfl
 ·have nh:=jE (r:=a.r) (.inr q)
  have st:=jF q
  rw[jR q]
  generalize a.r.tx=T at *
  generalize a.r.own=O at *
  generalize a.r.hd=H at *
  simp! only[aa,tgL,tx1,tx2,nh,in3,decide_eq_false st]
  rfl
theorem xp {r:Rr}(g:r.Ok):r.own= ""\/ak r.own=true:=by
 cases r<;>first|exact .inl rfl|exact .inr g.1|exact .inr g
theorem vI {s:S8}{a:Lr}(g:S8G s)(ga:LrG a)(d:due8 s a<0):S8G (beh8 s a):=by
 obtain⟨g1,g2,g3,g4,g5⟩:=g
 rcases gb a.r with⟨nm,v,e⟩|⟨nm,e⟩|q|q
 ·obtain⟨r,ns⟩:=a
  cases e
  have d:(if s.bl=[] then (if nm∈s.bx then (3:Int) else if s.bx.length=4 then 4 else -1) else 2)<0:=d
  split at d
  ·split at d
   ·omega
   ·split at d
    ·omega
    ·refine⟨fun x hx=>?_,g2,?_,g4,g5⟩
     ·rcases List.mem_append.mp hx with hx|hx
      ·exact g1 x hx
      ·rw[List.mem_singleton.mp hx];exact ga.g.g.1
     ·show (s.bx++[nm]).length<=4
      rw[List.length_append];show s.bx.length+1<=4;omega
  ·omega
 ·obtain⟨r,ns⟩:=a
  cases e
  have d:(if s.i=true then (2:Int) else if nm∈s.bl then 3 else if s.bl.length=10 then 4 else -1)<0:=d
  split at d
  ·omega
  ·split at d
   ·omega
   ·split at d
    ·omega
    ·refine⟨g1,fun x hx=>?_,g3,?_,Nat.zero_le _⟩
     ·rcases List.mem_append.mp hx with hx|hx
      ·exact g2 x hx
      ·rw[List.mem_singleton.mp hx];exact ga.g.g
     ·show (s.bl++[nm]).length<=10
      rw[List.length_append];show s.bl.length+1<=10;omega
 ·rw[jQ q]
  rw[lG (.inl q)] at d
  split at d
  ·split at d
   ·omega
   ·rename_i n
    refine⟨g1,g2,g3,g4,?_⟩
    show s.m+1<=8
    have: ¬s.m=8:=fun h=>n ⟨q,h⟩
    omega
  ·omega
 ·rw[jR q]
  exact⟨g1,g2,g3,g4,Nat.zero_le _⟩
noncomputable def cdI (c:Option Str):Int:=match c with
 |none=> -1
 |some c=>if c= "NoPlace" then 2 else if c= "Twice" then 3 else if c= "Full" then 4 else if c= "NoBox" then 5 else if c= "Open" then 6 else if c= "NoBlock" then 7 else if c= "NoRow" then 1 else 0
theorem zT:(cdI (some "NoPlace")=2/\cdI (some "Twice")=3/\cdI (some "Full")=4)/\cdI (some "NoBox")=5/\cdI (some "Open")=6/\cdI (some "NoBlock")=7:=by decide+kernel
structure Sim (s:S8)(t:RS):Prop where
 bx:s.bx=t.bx.map (·.1)
 bl:s.bl=t.nm
 i:s.i=decide (t.dn.length<t.nm.length)
 m:s.i=true->s.m=t.st.length
theorem vH {s:S8}{t:RS}{a:Lr}(S:Sim s t):due8 s a=cdI (dueR t a.r):=by
 obtain⟨e1,e2,e3,e4⟩:=S
 obtain⟨⟨k2,k3,k4⟩,k5,k6,k7⟩:=zT
 rcases gb a.r with⟨nm,v,e⟩|⟨nm,e⟩|q
 ·obtain⟨r,ns⟩:=a
  cases e
  show (if s.bl=[] then (if nm∈s.bx then (3:Int) else if s.bx.length=4 then 4 else -1) else 2)=cdI (if t.nm=[] then (if nm∈t.bx.map (·.1) then some "Twice" else if t.bx.length=4 then some "Full" else none) else some "NoPlace")
  rw[e1,e2,List.length_map]
  split
  ·split
   ·exact k3.symm
   ·split
    ·exact k4.symm
    ·rfl
  ·exact k2.symm
 ·obtain⟨r,ns⟩:=a
  cases e
  show (if s.i=true then (2:Int) else if nm∈s.bl then 3 else if s.bl.length=10 then 4 else -1)=cdI (if t.dn.length<t.nm.length then some "NoPlace" else if nm∈t.nm then some "Twice" else if t.nm.length=10 then some "Full" else none)
  rw[e2,e3]
  simp only[decide_eq_true_eq]
  split
  ·exact k2.symm
  ·split
   ·exact k3.symm
   ·split
    ·exact k4.symm
    ·rfl
 ·rw[lG q,lF q]
  unfold dueIn
  by_cases c:t.dn.length<t.nm.length
  ·have si:s.i=true:=by rw[e3];exact decide_eq_true c
   rw[if_pos si,if_pos c,e4 si,e1]
   split
   ·exact k4.symm
   ·split
    ·rfl
    ·exact k5.symm
  ·have si: ¬s.i=true:=by rw[e3];simpa using c
   rw[if_neg si,if_neg c]
   exact k2.symm
theorem cd_neg {c:Option Str}:cdI c<0↔c=none:=by
 constructor
 ·intro h
  cases c with
  |none=>rfl
  |some c=>
   exfalso
   unfold cdI at h
   dsimp only at h
   split at h
   ·omega
   ·split at h
    ·omega
    ·split at h
     ·omega
     ·split at h
      ·omega
      ·split at h
       ·omega
       ·split at h
        ·omega
        ·split at h<;>omega
 ·rintro rfl;decide
theorem vR {s:S8}{t:RS}{a:Lr}(S:Sim s t)(p:Pre t a.r)(Z:RSz t):Sim (beh8 s a) (t.step a.r):=by
 obtain⟨e1,e2,e3,e4⟩:=S
 obtain⟨z1,z2,z3,z4,z5⟩:=Z.z
 rcases gb a.r with⟨nm,v,e⟩|⟨nm,e⟩|q|q
 ·obtain⟨r,ns⟩:=a
  cases e
  refine⟨?_,e2,e3,e4⟩
  show s.bx++[nm]=(t.bx++[(nm,dO v)]).map (·.1)
  rw[List.map_append,e1];rfl
 ·obtain⟨r,ns⟩:=a
  cases e
  have p':t.dn.length=t.nm.length/\nm ∉ t.nm/\t.nm.length<10:=p
  refine⟨e1,?_,?_,fun _=>rfl⟩
  ·show s.bl++[nm]=t.nm++[nm]
   rw[e2]
  ·show true=decide (t.dn.length<(t.nm++[nm]).length)
   rw[List.length_append]
   exact (decide_eq_true (show t.dn.length<t.nm.length+1 by omega)).symm
 ·rw[jQ q,gp q]
  refine⟨e1,e2,e3,fun h=>?_⟩
  show s.m+1=(t.st++[a.r.form]).length
  rw[List.length_append,e4 h];rfl
 ·rw[jR q,gq q]
  have pi:=(kS p (.inr q)).i
  refine⟨e1,e2,?_,fun h=>by cases h⟩
  show false=decide ((t.dn++[_]).length<t.nm.length)
  rw[List.length_append]
  exact (decide_eq_false (show¬t.dn.length+1<t.nm.length by omega)).symm
end
section
open Wd
theorem pE {G:List Ob->Prop}{t:W->Env'->Option Env'}{g:Env'->M Fl}(I:Nat->Env'->List Ob->Prop)(P:W->List Ob->Prop)(l:List W)(hG: ∀i ρ h,I i ρ h->G h)
  (hs: ∀i w ρ h,l[i]?=some w->I i ρ h-> ∃r,t w ρ=some r/\Ok (g r) h fun x h'=>(∃r',x=.nx r'/\I (i+1) r' h')\/ ∃v,x=.rt v/\P v h'):
  ∀ (m:List W) (n:Nat) (ρ:Env') (h:List Ob),l.drop n=m->n<=l.length->I n ρ h->Ok (L2.forM G t g m ρ) h fun x h'=>(∃r',x=.nx r'/\I l.length r' h')\/ ∃v,x=.rt v/\P v h'
 |[],n,ρ,h,e,hn,i=>by
  have:l.length<=n:=List.drop_eq_nil_iff.mp e
  have hn:n=l.length:=by omega
  subst hn
  refine⟨.nx ρ,h,?_,.inl ⟨ρ,rfl,i⟩⟩
  unfold L2.forM
  rw[bL (hG _ _ _ i)];rfl
 |w::m,n,ρ,h,e,hn,i=>by
  have hw:l[n]?=some w:=by
   have:=congrArg List.head? e
   rw[List.head?_drop,List.head?_cons] at this
   exact this
  have hl:n<l.length:=(List.getElem?_eq_some_iff.mp hw).1
  have em:l.drop (n+1)=m:=by rw[<-List.tail_drop,e];rfl
  obtain⟨r,e1,x,h',e2,q⟩:=hs n w ρ h hw i
  rcases q with⟨r',rfl,i'⟩|⟨v,rfl,p⟩
  ·obtain⟨y,h2,e3,q⟩:=pE I P l hG hs m (n+1) r' h' em hl i'
   refine⟨y,h2,?_,q⟩
   unfold L2.forM
   rw[bL (hG _ _ _ i),e1]
   dsimp only
   rw[df e2]
   exact e3
  ·refine⟨.rt v,h',?_,.inr ⟨v,rfl,p⟩⟩
   unfold L2.forM
   rw[bL (hG _ _ _ i),e1]
   dsimp only
   rw[df e2];rfl
theorem uN {β:Type}{G:List Ob->Prop}{t:W->Env'->Option Env'}{g:Env'->M Fl}{l:List W}{ρ:Env'}{h:List Ob}{k:Fl->M β}{Q:β->List Ob->Prop}(I:Nat->Env'->List Ob->Prop)(P:W->List Ob->Prop)(h0:I 0 ρ h)(hG: ∀i ρ h,I i ρ h->G h)
  (hs: ∀i w ρ h,l[i]?=some w->I i ρ h-> ∃r,t w ρ=some r/\Ok (g r) h fun x h'=>(∃r',x=.nx r'/\I (i+1) r' h')\/ ∃v,x=.rt v/\P v h')(hd: ∀ρ h,I l.length ρ h->Ok (k (.nx ρ)) h Q)(hr: ∀v h,P v h->Ok (k (.rt v)) h Q):Ok (bd (L2.forM G t g l ρ) k) h Q:=
 bJ (pE I P l hG hs l 0 ρ h rfl (Nat.zero_le _) h0) fun x h' q=>by
  rcases q with⟨r',e,i⟩|⟨v,e,p⟩
  ·subst e;exact hd r' h' i
  ·subst e;exact hr v h' p
inductive Lz where
 |ok (a:Lr)
 |bad (z:Str)
def Lz.tx:Lz->Str
 |.ok a=>a.r.tx
 |.bad z=>z
def Lz.hd:Lz->Str
 |.ok a=>a.r.hd
 |.bad _=> "bad"
def Lz.own:Lz->Str
 |.ok a=>a.r.own
 |.bad _=> ""
noncomputable def Lz.ns:Lz->List Str
 |.ok a=>a.ns
 |.bad _=>[]
def Lz.tos:Lz->List Str
 |.ok a=>a.r.tos
 |.bad _=>[]
def Lz.w (a:Lz):W:=.tl [.str a.tx,.str a.hd,.str a.own,.tl (a.ns.map W.str),.tl (a.tos.map W.str)]
structure BadR (z:Str):Prop where
 x: ∀h,Xc (cG [.str z]) h "NoRow"
 nl:10 ∉ z.cps.toList
 len:z.length<=600
 sk:Sk z
noncomputable def LzG:Lz->Prop
 |.ok a=>LrG a
 |.bad z=>BadR z
theorem wl {h:List Ob}{x:W}{l:List W}(p:Lw h x l): ∃G:List Ob->Prop,srcL x h=.ok ⟨l,G⟩ h/\G h:=by
 rcases p with rfl|⟨j,rfl,e⟩
 ·exact⟨fun _=>True,rfl,trivial⟩
 ·refine⟨fun h=>h[j]?=some (.lst l),?_,e⟩
  unfold srcL
  dsimp only
  rw[e]
def judZ:List Lz->RS->Option Str
 |[],s=>judE s
 |.bad _::_,_=>some "NoRow"
 |.ok a::rs,s=>match dueR s a.r with
  |some c=>some c
  |none=>judZ rs (s.step a.r)
theorem xM:(decide (("box":Str)= "bad")=false/\decide (("block":Str)= "bad")=false/\decide (("put":Str)= "bad")=false/\decide (("say":Str)= "bad")=false/\decide (("ask":Str)= "bad")=false)/\decide (("go":Str)= "bad")=false/\decide (("if":Str)= "bad")=false/\decide (("table":Str)= "bad")=false/\decide (("stop":Str)= "bad")=false:=by decide+kernel
theorem yw (r:Rr):decide (r.hd= "bad")=false:=by
 obtain⟨⟨a,b,c,d,e⟩,f,g,h,i⟩:=xM
 cases r<;>first|exact a|exact b|exact c|exact d|exact e|exact f|exact g|exact h|exact i
theorem qW {r:Rr}(g:r.Ok): ∀x∈r.tos,ak x=true:=by
 cases r with
 |go nm=>exact nic g nin
 |iff s z1 e1 z2 e2 x y=>exact nic g.2.2.2.1 (nic g.2.2.2.2 nin)
 |table z e xs=>exact g.2.2.2
 |_=>exact nin
theorem ww {r:Rr}(h:r.end'=true->False):r.tos=[]:=by
 cases r<;>first|rfl|exact (h rfl).elim
structure Ask (l:List Str)(t:RS):Prop where
 e: ∀x,x∈l↔ ∃b∈t.dn,x∈b.2.2.tos
 k: ∀x∈l,ak x=true
theorem Ask.step {l:List Str}{t:RS}{a:Lr}(A:Ask l t)(g:LrG a):Ask (l++a.r.tos) (t.step a.r):=by
 refine⟨fun x=>?_,fun x hx=>?_⟩
 ·rw[List.mem_append,A.e]
  rcases gb a.r with⟨nm,v,e⟩|⟨nm,e⟩|q|q
  ·rw[e];exact⟨fun h=>h.elim id fun h=>(by cases h),.inl⟩
  ·rw[e];exact⟨fun h=>h.elim id fun h=>(by cases h),.inl⟩
  ·rw[gp q,ww fun h=>by cases e:a.r<;>rw[e] at q h<;>first|(cases h;done)|(cases q;done)]
   exact⟨fun h=>h.elim id fun h=>(by cases h),.inl⟩
  ·rw[gq q]
   constructor
   ·rintro (⟨b,hb,hx⟩|hx)
    ·exact⟨b,List.mem_append_left _ hb,hx⟩
    ·exact⟨_,List.mem_append_right _ List.mem_cons_self,hx⟩
   ·rintro⟨b,hb,hx⟩
    rcases List.mem_append.mp hb with hb|hb
    ·exact .inl ⟨b,hb,hx⟩
    ·rw[List.mem_singleton.mp hb] at hx;exact .inr hx
 ·rcases List.mem_append.mp hx with hx|hx
  ·exact A.k x hx
  ·exact qW g.g.g x hx
theorem vk {s:S8}{t:RS}{l:List Str}(S:Sim s t)(A:Ask l t):cdI (judE t)=if s.i=true\/s.bl=[] then 6 else if∀x∈l,x∈s.bl then -1 else 7:=by
 obtain⟨_,k5,k6,k7⟩:=zT
 have e1:(s.i=true\/s.bl=[])↔ (t.dn.length<t.nm.length\/t.nm=[]):=by rw[S.i,S.bl,decide_eq_true_eq]
 have e2:(∀x∈l,x∈s.bl)↔ ∀b∈t.dn,∀x∈b.2.2.tos,x∈t.nm:=by
  rw[S.bl]
  exact⟨fun h b hb x hx=>h x ((A.e x).mpr ⟨b,hb,hx⟩),fun h x hx=>let ⟨b,hb,hx⟩:=(A.e x).mp hx;h b hb x hx⟩
 unfold judE
 by_cases c:t.dn.length<t.nm.length\/t.nm=[]
 ·rw[if_pos c,if_pos (e1.mpr c)];exact k6
 ·rw[if_neg c,if_neg fun h=>c (e1.mp h)]
  by_cases c2: ∀b∈t.dn,∀x∈b.2.2.tos,x∈t.nm
  ·rw[if_pos c2,if_pos (e2.mpr c2)];rfl
  ·rw[if_neg c2,if_neg fun h=>c2 (e2.mp h)];exact k7
theorem mr {ns ss:List Str}{ρ:Env'}{k:Nat}{a b c:W}(hk:ρ[k]?=some (some (.tl [a,.tl (ss.map W.str),b,c]))):compM (fun _=>True) (tgN 0) (mB (m2 bS (mVar 0) (m2 ixW (mVar (k+2)) (mC (.int 1))))) (mVar 0) 2 (ns.map W.str) ρ=pr ((ns.filter fun x=>!decide (x∈ss)).map W.str):=by
 have:=fk (t:=tgN 0) (f:=mB (m2 bS (mVar 0) (m2 ixW (mVar (k+2)) (mC (.int 1))))) (e:=mVar 0) (n:=2) (ρ:=ρ) (b:=fun w=>match w with|.str x=>!decide (x∈ss)|_=>false) (v:=id) (l:=ns.map W.str) fun w hw=>by
  obtain⟨x,hx,rfl⟩:=List.mem_map.mp hw
  refine⟨_,rfl,?_,fun _=>?_⟩
  ·simp! only[List.replicate,List.cons_append,List.nil_append,aa,hk,tx1,eC]
  ·simp! only[List.replicate,List.cons_append,List.nil_append,aa,id]
 rw[this,List.map_id,List.filter_map]
 rfl
theorem yo (a:Lr):a.w=(Lz.ok a).w:=rfl
theorem yJ:cdI (some "NoRow")=1:=by decide+kernel
theorem qy {h:List Ob}{rows:List Lz}{R:W}(LR:Lw h R (rows.map Lz.w))(G:∀a∈rows,LzG a)(l4:rows.length<=500):Ok (db [R]) h fun w h'=>w=.int (cdI (judZ rows RS.nil))/\h'=h:=by
 have e0:db [R]=bd (dX [some R,none,none,none,none]) finF:=rfl
 rw[e0]
 unfold dX
 obtain⟨SR,hS⟩: ∃SR,SR=srcL:=⟨_,rfl⟩
 rw[<-hS]
 have st: ∀l,SR (.tl l)=pr ⟨l,fun _=>True⟩:=fun l=>by rw[hS];rfl
 obtain⟨G1,sx,g1⟩:=wl LR
 rw[<-hS] at sx
 simp!
 refine aY sx ?_
 simp!
 refine uN (I:=fun i ρ h'=>h'=h/\ ∃s t l x y,ρ=[some R,some (S8.w s),some (.tl (l.map W.str)),x,y]/\S8G s/\Sim s t/\RSz t/\Ask l t/\l.length<=3 * i/\judZ rows RS.nil=judZ (rows.drop i) t) (P:=fun v h'=>v=.int (cdI (judZ rows RS.nil))/\h'=h)
  ⟨rfl,⟨[],[],false,0⟩,RS.nil,[],_,_,rfl,⟨nin,nin,by decide,by decide,by decide⟩,⟨rfl,rfl,rfl,fun h=>(by cases h)⟩,⟨by decide⟩,⟨fun x=>⟨fun h=>(by cases h),fun⟨b,hb,_⟩=>(by cases hb)⟩,nin⟩,Nat.zero_le _,rfl⟩ (fun _ _ _ I=>by rw[I.1];exact g1) (fun i w ρ h1 hw I=>?_) (fun ρ h1 I=>?_) fun v h1 I=>?_
 ·obtain⟨rfl,s,t,l,x,y,rfl,gs,S,Z,A,ll,J⟩:=I
  rw[List.getElem?_map] at hw
  obtain⟨a,ha,rfl⟩:=Option.map_eq_some_iff.mp hw
  have hi:=(List.getElem?_eq_some_iff.mp ha).1
  have ed:rows.drop i=a::rows.drop (i+1):=by
   rw[List.drop_eq_getElem_cons hi]
   congr 1
   exact Option.some.inj ((List.getElem?_eq_getElem hi).symm.trans ha)
  rw[ed] at J
  have ga:=G a (List.mem_of_getElem? ha)
  refine⟨[some R,some (S8.w s),some (.tl (l.map W.str)),some a.w,y],rfl,?_⟩
  cases a with
  |bad z=>
   have J:judZ rows RS.nil=some ("NoRow":Str):=J
   have ew:(Lz.bad z).w=.tl [.str z,.str "bad",.str "",.tl [],.tl []]:=rfl
   rw[ew,J,yJ]
   simp! only[aa,tx1]
   exact aq (.inr ⟨_,rfl,rfl,rfl⟩)
  |ok a=>
   have ga:LrG a:=ga
   have J:judZ rows RS.nil=match dueR t a.r with
    |some c=>some c
    |none=>judZ (rows.drop (i+1)) (t.step a.r):=J
   have de:=yD gs ga
   have be:=yN (a:=a) gs
   have ds:=vH (a:=a) S
   have i1:ixW a.w (.int 1)=pr (.str a.r.hd):=tx1 ..
   have i4:ixW a.w (.int 4)=pr (.tl (a.r.tos.map W.str)):=tx4 ..
   have nb:=yw a.r
   rw[<-yo]
   have hA: ∀x:W,∀y:W,addW (.tl (l.map W.str)) (.tl (a.r.tos.map W.str))=pr (.tl ((l++a.r.tos).map W.str)):=fun _ _=>by
    rw[fX _ _ (by rw[List.length_map,List.length_map];exact sz (show _<=_ by have:=ga.t;omega)),List.map_append]
   have hA:=hA .non .non
   have tl3:=ga.t
   cases e:dueR t a.r with
   |some c=>
    rw[e] at J ds
    have J:judZ rows RS.nil=some c:=J
    have nn:decide ((0:Int)<=due8 s a)=true:=decide_eq_true (by
     have: ¬due8 s a<0:=fun h=>by rw[ds] at h;cases cd_neg.mp h
     omega)
    rw[J,<-ds]
    generalize S8.w s=SW at *
    generalize a.w=AW at *
    simp! only[aa,i1,nb,de,nn]
    exact aq (.inr ⟨_,rfl,rfl,rfl⟩)
   |none=>
    rw[e] at J ds
    have J:judZ rows RS.nil=judZ (rows.drop (i+1)) (t.step a.r):=J
    have d0:due8 s a<0:=by rw[ds];decide
    have nn:decide ((0:Int)<=due8 s a)=false:=decide_eq_false (by omega)
    have gs':=vI gs ga d0
    have p:=oi (r:=a.r) ⟨Z.z.1,Z.z.2.1,Z.z.2.2.1,Z.z.2.2.2.1⟩ e
    have S':=vR S p Z
    have Z':=rm Z p
    have A':=A.step ga
    generalize beh8 s a=s' at *
    generalize S8.w s=SW at *
    generalize a.w=AW at *
    simp! only[aa,i1,nb,de,nn,be,i4,hA]
    exact aq (.inl ⟨_,rfl,rfl,s',t.step a.r,l++a.r.tos,_,_,rfl,gs',S',Z',A',by rw[List.length_append];omega,J⟩)
 ·obtain⟨rfl,s,t,l,x,y,rfl,gs,S,Z,A,ll,J⟩:=I
  rw[List.length_map] at ll J
  rw[List.drop_length] at J
  have J:judZ rows RS.nil=judE t:=J
  rw[J,vk S A]
  have i1:ixW (S8.w s) (.int 1)=pr (.tl (s.bl.map W.str)):=tx1 ..
  have i2:ixW (S8.w s) (.int 2)=pr (.bl s.i):=tx2 ..
  have en:=vF (l:=s.bl.map W.str) (eV gs.l)
  rw[dE] at en
  have gl: ∀ {α:Type} (q:M α),gd ((l.map W.str).length<=sizeLine) q=q:=fun q=>ai (by rw[List.length_map];exact sz (by omega))
  have nc:=mr (ns:=l) (ss:=s.bl) (k:=1) (ρ:=[some R,some (S8.w s),some (.tl (l.map W.str)),x,y]) rfl
  have ne:=lg (l:=(l.filter fun x=>!decide (x∈s.bl)).map W.str) (eV fun x hx=>A.k x (List.mem_filter.mp hx).1)
  rw[dE,pH] at ne
  have ib:(s.bl.isEmpty=true)↔s.bl=[]:=List.isEmpty_iff
  have fin:(if (!decide (∀x∈l,x∈s.bl))=true then W.int 7 else W.int (-1))=.int (if∀x∈l,x∈s.bl then -1 else 7):=by
   by_cases c: ∀x∈l,x∈s.bl
   ·rw[decide_eq_true c,if_pos c];rfl
   ·rw[decide_eq_false c,if_neg c];rfl
  by_cases c1:s.i=true
  ·rw[if_pos (.inl c1)]
   rw[c1] at i2
   generalize S8.w s=SW at *
   simp! only[aa,i2]
   exact aq ⟨rfl,rfl⟩
  ·have c1':s.i=false:=by simpa using c1
   rw[c1'] at i2
   by_cases c2:s.bl=[]
   ·rw[if_pos (.inr c2)]
    rw[ib.mpr c2] at en
    generalize S8.w s=SW at *
    simp! only[aa,i2,i1,en]
    exact aq ⟨rfl,rfl⟩
   ·rw[if_neg (fun h=>by rcases h with h|h;exact c1 h;exact c2 h)]
    have b0:s.bl.isEmpty=false:=by rw[List.isEmpty_eq_false_iff];exact c2
    rw[b0] at en
    generalize S8.w s=SW at *
    simp! only[aa,i2,i1,en,st,gl,nc,ne,fH,fm]
    exact aq ⟨fin,rfl⟩
 ·obtain⟨rfl,rfl⟩:=I
  simp!
  exact aq ⟨rfl,rfl⟩
theorem isx {raised:List Str}{c d:Str}(hc:c∈raised)(hd:d∈cls12):isxW raised [.exc c,.cls d]=pr (.bl (decide (c=d))):=ai ⟨hc,hd⟩
theorem isxv {raised:List Str}{c:Str}(hc:c∈raised):isxW raised [.exc c,.ty "ValueError"]=pr (.bl true):=ai hc
theorem vS {α β:Type}{m m':M α}{k:α->M β}{h h':List Ob}(e:m h=m' h'):bd m k h=bd m' k h':=by unfold bd;rw[e]
theorem uJ {β:Type}{i m:Nat}{raised:List Str}{fn:List W->M W}{l:Env'->M (List W)}{g:Env'->M Fl}{ρ:Env'}{ws:List W}{c:Str}{h:List Ob}{k:Fl->M β}{Q:β->List Ob->Prop}(e:l ρ=pr ws)(hm:ws.length=m)(x:Xc (fn ws) h c)(hc:c∈raised)(q:∀h1,Ok (bd (bd (g (ρ.set i (some (.exc c)))) fun x=>pr (clr i x)) k) h1 Q):Ok (bd (sTry i raised m fn l g ρ) k) h Q:=by
 obtain⟨h1,x⟩:=x
 obtain⟨b,h2,e2,r⟩:=q h1
 refine⟨b,h2,?_,r⟩
 rw[<-e2]
 refine vS ?_
 unfold sTry
 rw[e,ba,if_pos hm,x]
 dsimp only
 rw[if_pos hc]
theorem uK {β:Type}{i m:Nat}{raised:List Str}{fn:List W->M W}{l:Env'->M (List W)}{g:Env'->M Fl}{ρ:Env'}{ws:List W}{h:List Ob}{k:Fl->M β}{P:W->List Ob->Prop}{Q:β->List Ob->Prop}(e:l ρ=pr ws)(hm:ws.length=m)(x:Ok (fn ws) h P)(q:∀w h1,P w h1->Ok (k (.nx ρ)) h1 Q):Ok (bd (sTry i raised m fn l g ρ) k) h Q:=by
 obtain⟨w,h1,x,p⟩:=x
 refine aY (a:=.nx ρ) (h':=h1) ?_ (q w h1 p)
 unfold sTry
 rw[e,ba,if_pos hm,x]
noncomputable def toldX (c:Str):List W:=[.bl (decide (c= "TooLong")),.bl (decide (c= "NoRow")),.bl (decide (c= "NoPlace")),.bl (decide (c= "Twice")),.bl (decide (c= "Full")),.bl (decide (c= "NoBox")),.bl (decide (c= "Open")),.bl (decide (c= "NoBlock")),.bl (decide (c= "NoForm")),.bl (decide (c= "NoneYet")),.bl (decide (c= "NoOrder")),.bl (decide (c= "NoWay")),.bl false]
theorem c12:((("TooLong":Str)∈cls12/\("NoRow":Str)∈cls12/\("NoPlace":Str)∈cls12/\("Twice":Str)∈cls12)/\("Full":Str)∈cls12/\("NoBox":Str)∈cls12/\("Open":Str)∈cls12/\("NoBlock":Str)∈cls12)/\("NoForm":Str)∈cls12/\("NoneYet":Str)∈cls12/\("NoOrder":Str)∈cls12/\("NoWay":Str)∈cls12:=by decide+kernel
theorem qe {h:List Ob}{T c:Str}(hc:c∈(["TooLong", "NoRow", "NoPlace", "Twice", "Full", "NoBox", "Open", "NoBlock"]:List Str))(x:∀h,Xc (eG [.str T]) h c):Ok (bq [.str T]) h fun w _=>w=.tl (toldX c):=by
 have e0:bq [.str T]=bd (b9 [some (.str T),none,none]) finF:=rfl
 rw[e0]
 unfold b9 toldX
 obtain⟨⟨⟨d1,d2,d3,d4⟩,d5,d6,d7,d8⟩,d9,d10,d11,d12⟩:=c12
 simp!
 refine cP ?_
 simp!
 refine uJ (ws:=[.str T]) rfl rfl (x _) hc fun h1=>?_
 simp! only[aa,isx hc d1,isx hc d2,isx hc d3,isx hc d4]
 refine cP ?_
 simp! only[aa,catL,isx hc d5,isx hc d6,isx hc d7,isx hc d8,lstO_tl']
 refine aY (eE bC) ?_
 simp! only[aa,List.cons_append,List.nil_append]
 refine cP ?_
 simp! only[aa,catL,isx hc d9,isx hc d10,isx hc d11,isx hc d12,lstO_tl']
 refine aY (eE bC) ?_
 simp! only[aa,List.cons_append,List.nil_append]
 refine cP ?_
 simp!
 refine di bC ?_
 simp! only[aa,isxv hc]
 refine dM bC (show 12<_ by decide) ?_
 simp! only[aa,clr]
 refine ju (cD bC) ?_
 simp!
 exact aq rfl
theorem nX {h:List Ob}{T:Str}{P:W->List Ob->Prop}(x:∀h,Ok (eG [.str T]) h fun w h'=>Fo h.length h h'):Ok (bq [.str T]) h fun w _=>w=.tl []:=by
 have e0:bq [.str T]=bd (b9 [some (.str T),none,none]) finF:=rfl
 rw[e0]
 unfold b9
 simp!
 refine cP ?_
 simp!
 refine uK (ws:=[.str T]) rfl rfl (x _) fun w h1 F=>?_
 have e1:h1[h.length]?=some (.lst []):=by rw[F.eq _ (by simp)];exact bC
 simp!
 refine ju e1 ?_
 simp!
 exact aq rfl
end
section
open Wd
theorem szM {n:Nat}(h:n<=10000000):n<=sizeLine:=Nat.le_trans h (by decide)
def textZ (rs:List Lz):Str:=Str.join ⟨#[10]⟩ (rs.map Lz.tx)
theorem oA {a:Lz}(g:LzG a):a.tx.length<=600:=by
 cases a with
 |ok a=>exact (show LrG a from g).g.g.len
 |bad z=>exact (show BadR z from g).len
theorem wk {a:Lz}(g:LzG a):10 ∉ a.tx.cps.toList:=by
 cases a with
 |ok a=>exact (show LrG a from g).g.g.nl
 |bad z=>exact (show BadR z from g).nl
theorem wV {h:List Ob}{rs:List Lz}{c:Str}(G:∀r∈rs,LzG r)(d:judZ rs RS.nil=some c)(l1:rs≠ [])(l2:rs.length<=120):Xc (eG [.str (textZ rs)]) h c:=by
 have e0:eG [.str (textZ rs)]=bd (gC [some (.str (textZ rs)),none,none,none]) finF:=rfl
 rw[e0]
 unfold gC
 have hz: ∀z∈rs.map Lz.tx,z.length<=600:=fun z hz=>by
  obtain⟨r,hr,rfl⟩:=List.mem_map.mp hz
  exact oA (G r hr)
 have sp:splW (.str (textZ rs)) [.str "\n"]=pr (.tl ((rs.map Lz.tx).map W.str)):=by
  rw[pb]
  refine gr (fun z=>l1 (List.map_eq_nil_iff.mp z)) (fun z hz=>?_) (Nat.le_trans (i0 hz) ?_) (sz (by rw[List.length_map];omega))
  ·obtain⟨r,hr,rfl⟩:=List.mem_map.mp hz
   exact wk (G r hr)
  ·rw[List.length_map];exact sz (by omega)
 generalize textZ rs=T at *
 have d0:decide ((120:Int)<((((rs.map Lz.tx).map W.str).length:Nat):Int))=false:=decide_eq_false (by rw[List.length_map,List.length_map];omega)
 simp! only[aa,sp,d0,mMake]
 have mk:=o7 (k:=pr) (Q:=fun w h1=>w=.loc h.length/\RdAt h1 h.length (h.length+1) (h.length+2) (h.length+3) (h.length+4) RS.nil) (by rfl) (pw h) fun h1 ⟨A,F1⟩=>aq ⟨rfl,A⟩
 rw[ub] at mk
 refine gE mk fun w h1 qz=>?_
 obtain⟨ew,A⟩:=qz
 subst ew
 simp! only[aa,dS]
 generalize h.length+1=jb at *
 generalize h.length+2=jn at *
 generalize h.length+3=je at *
 generalize h.length+4=js at *
 generalize ho:h.length=o at *
 have m8:=mt_no.2.2.2.2.2.2.2.1
 have m9:=mt_no.2.2.2.2.2.2.2.2
 refine pI (I:=fun i ρ h2=> ∃a js s,ρ=[some (.str T),some (.tl ((rs.map Lz.tx).map W.str)),some (.loc o),a]/\RdAt h2 o jb jn je js s/\DnOk s/\judZ (rs.drop i) s=some c) ⟨_,js,RS.nil,rfl,A,⟨fun b hb=>by cases hb⟩,d⟩ (fun _ _ _ _=>trivial) (fun i w ρ h2 hw I=>?_) fun ρ h2 I=>?_
 ·obtain⟨a,js,s,rfl,A,D,er⟩:=I
  rw[List.getElem?_map,List.getElem?_map] at hw
  obtain⟨x,hx,rfl⟩:=Option.map_eq_some_iff.mp hw
  obtain⟨r,hr,rfl⟩:=Option.map_eq_some_iff.mp hx
  have hi:=(List.getElem?_eq_some_iff.mp hr).1
  have ed:rs.drop i=r::rs.drop (i+1):=by
   rw[List.drop_eq_getElem_cons hi]
   congr 1
   exact Option.some.inj ((List.getElem?_eq_getElem hi).symm.trans hr)
  rw[ed] at er
  have g0:=G r (List.mem_of_getElem? hr)
  refine⟨_,rfl,?_⟩
  cases r with
  |bad z=>
   have er:some ("NoRow":Str)=some c:=er
   cases er
   have bx:=g0.x
   left
   have ez:(Lz.bad z).tx=z:=rfl
   rw[ez]
   simp!
   refine bu (bj A.ob m8 (aq ⟨rfl,rfl⟩)) ?_
   simp!
   exact bK (bx _)
  |ok r=>
   have g:RrG r.r:=g0.g
   have fe:cG [.str (Lz.ok r).tx]=pr r.r.form:=pC g.g
   have er:(match dueR s r.r with
    |some c=>some c
    |none=>judZ (rs.drop (i+1)) (s.step r.r))=some c:=er
   cases e:dueR s r.r with
   |some c'=>
    rw[e] at er
    cases er
    have tk:=uk g.g g.b A e
    left
    generalize r.r.form=F at *
    generalize (Lz.ok r).tx=X at *
    simp!
    refine bu (bj A.ob m8 (aq ⟨rfl,rfl⟩)) ?_
    simp! only[aa,fe]
    exact bK tk
   |none=>
    rw[e] at er
    have tk:=oR g.g A (oi ⟨A.z.1,A.z.2.1,A.z.2.2.1,A.z.2.2.2.1⟩ e)
    have D':=D.step g.g g.t
    right
    generalize r.r.form=F at *
    generalize (Lz.ok r).tx=X at *
    simp!
    refine bj A.ob m8 ?_
    simp! only[aa,fe]
    refine bJ tk fun w h3 qq_=>?_
    obtain⟨ew,⟨js',A'⟩,F3⟩:=qq_
    subst ew
    simp!
    exact aq ⟨_,rfl,_,js',_,rfl,A',D',er⟩
 ·obtain⟨a,js,s,rfl,A,D,er⟩:=I
  rw[List.length_map,List.length_map,List.drop_length] at er
  simp!
  refine bu (bj A.ob m9 (aq ⟨rfl,rfl⟩)) ?_
  simp!
  exact bK (wx A D er)
theorem wW {h:List Ob}{rs:List Lz}(G:∀r∈rs,LzG r)(l1:120<rs.length)(l2:rs.length<=500):Xc (eG [.str (textZ rs)]) h "TooLong":=by
 have e0:eG [.str (textZ rs)]=bd (gC [some (.str (textZ rs)),none,none,none]) finF:=rfl
 rw[e0]
 unfold gC
 have hz: ∀z∈rs.map Lz.tx,z.length<=600:=fun z hz=>by
  obtain⟨r,hr,rfl⟩:=List.mem_map.mp hz
  exact oA (G r hr)
 have sp:splW (.str (textZ rs)) [.str "\n"]=pr (.tl ((rs.map Lz.tx).map W.str)):=by
  rw[pb]
  refine gr (fun z=>by rw[List.map_eq_nil_iff.mp z] at l1;cases l1) (fun z hz=>?_) (Nat.le_trans (i0 hz) ?_) (sz (by rw[List.length_map];omega))
  ·obtain⟨r,hr,rfl⟩:=List.mem_map.mp hz
   exact wk (G r hr)
  ·rw[List.length_map];exact szM (by omega)
 generalize textZ rs=T at *
 have d0:decide ((120:Int)<((((rs.map Lz.tx).map W.str).length:Nat):Int))=true:=decide_eq_true (by rw[List.length_map,List.length_map];omega)
 simp! only[aa,sp,d0]
 exact bR rfl (by decide)
theorem kq: ∀ {l:List Lz}{s:RS},(∀a∈l,LzG a)->judZ l s=none-> ∃m:List Lr,l=m.map Lz.ok/\(∀a∈m,LrG a)/\judR (m.map Lr.r) s=none
 |[],s,_,d=>⟨[],rfl,nin,d⟩
 |.bad z::l,s,_,d=>by
  have d:some ("NoRow":Str)=none:=d
  cases d
 |.ok a::l,s,G,d=>by
  have d:(match dueR s a.r with
   |some c=>some c
   |none=>judZ l (s.step a.r))=none:=d
  cases e:dueR s a.r with
  |some c=>rw[e] at d;cases d
  |none=>
   rw[e] at d
   obtain⟨m,e1,e2,e3⟩:=kq (fun b hb=>G b (List.mem_cons_of_mem _ hb)) d
   refine⟨a::m,by rw[e1];rfl,nic (show LrG a from G _ List.mem_cons_self) e2,?_⟩
   show (match dueR s a.r with
    |some c=>some c
    |none=>judR (m.map Lr.r) (s.step a.r))=none
   rw[e];exact e3
end
section
open Wd
noncomputable def spC:List Nat->List Nat×List (List Nat)
 |[]=>([],[])
 |c::l=>if c=32 then ([],(spC l).1::(spC l).2) else (c::(spC l).1,(spC l).2)
noncomputable def ofC (l:List Nat):Str:=⟨l.toArray⟩
theorem ro: ∀l:List Nat,(Str.join ⟨#[32]⟩ (ofC (spC l).1::(spC l).2.map ofC)).cps.toList=l/\(32 ∉ (spC l).1/\ ∀w∈(spC l).2,32 ∉ w)/\(spC l).2.length<=l.length
 |[]=>⟨rfl,⟨by simp [spC],by simp [spC]⟩,Nat.le_refl _⟩
 |c::l=>by
  obtain⟨e,⟨f1,f2⟩,z⟩:=ro l
  unfold spC
  split
  ·rename_i h
   refine⟨?_,⟨by simp,fun w hw=>?_⟩,by show (spC l).2.length+1<=l.length+1;omega⟩
   ·show (Str.join ⟨#[32]⟩ (ofC []::ofC (spC l).1::(spC l).2.map ofC)).cps.toList=_
    rw[b8,e,h];rfl
   ·rcases List.mem_cons.mp hw with rfl|hw
    ·exact f1
    ·exact f2 w hw
  ·rename_i h
   refine⟨?_,⟨fun hm=>?_,f2⟩,by show (spC l).2.length<=l.length+1;omega⟩
   ·show (Str.join ⟨#[32]⟩ (ofC (c::(spC l).1)::(spC l).2.map ofC)).cps.toList=_
    cases q:(spC l).2 with
    |nil=>
     rw[q] at e
     have e:(spC l).1=l:=e
     show c::(spC l).1=_
     rw[e]
    |cons y r=>
     rw[q,List.map_cons,b8] at e
     rw[List.map_cons,b8]
     show c::((spC l).1++_)=_
     rw[show (spC l).1++32::(Str.join ⟨#[32]⟩ (ofC y::r.map ofC)).cps.toList=l from e]
   ·rcases List.mem_cons.mp hm with rfl|hm
    ·exact h rfl
    ·exact f1 hm
def badB (z:Str):Bool:=!formB (ofC (spC z.cps.toList).1) ((spC z.cps.toList).2.map ofC) && (decide (z.length<=600) && (decide (10 ∉ z.cps.toList) && skB z))
theorem yX {h:List Ob}{z:Str}(l:z.length<=600)(k:formB (ofC (spC z.cps.toList).1) ((spC z.cps.toList).2.map ofC)=false):Xc (cG [.str z]) h "NoRow":=by
 obtain⟨e,⟨f1,f2⟩,n⟩:=ro z.cps.toList
 have ez:Str.join ⟨#[32]⟩ (ofC (spC z.cps.toList).1::(spC z.cps.toList).2.map ofC)=z:=iT e
 have zl:(spC z.cps.toList).2.length<=z.length:=n
 have:=yy (h:=h) (hd:=ofC (spC z.cps.toList).1) (r:=(spC z.cps.toList).2.map ofC) (fun w hw=>by
  rcases List.mem_cons.mp hw with rfl|hw
  ·exact f1
  ·obtain⟨u,hu,rfl⟩:=List.mem_map.mp hw
   exact f2 u hu) (by rw[ez];omega) (by rw[List.length_map];omega) k
 rw[ez] at this
 exact this
theorem yP {z:Str}(k:badB z=true):BadR z:=by
 unfold badB at k
 simp only[Bool.and_eq_true,decide_eq_true_eq,Bool.not_eq_true'] at k
 obtain⟨k1,k2,k3,k4⟩:=k
 exact⟨fun h=>yX k2 k1,k3,k2,.of k4⟩
theorem lM {l:List Str}(k:l.all badB=true): ∀z∈l,BadR z:=fun z hz=>yP (List.all_eq_true.mp k z hz)
theorem yM:(" 0":Str).length=2/\(" 1":Str).length=2/\(" < 1 a else b":Str).length=13/\(" a":Str).length=2/\(" else b":Str).length=7/\("(":Str).length=1/\(")":Str).length=1/\("+1 a else b":Str).length=11/\("1":Str).length=1/\("1 = 2 a else b":Str).length=14/\("1 a":Str).length=3/\("1+":Str).length=2/\("a":Str).length=1/\("ask ":Str).length=4/\("block ":Str).length=6/\("box ":Str).length=4/\("go ":Str).length=3/\("if ":Str).length=3/\("if 1 < ":Str).length=7/\("if 1 < 2 ":Str).length=9/\("if 1 < 2 a else ":Str).length=16/\("put ":Str).length=4/\("put a ":Str).length=6/\("say ":Str).length=4/\("table ":Str).length=6/\("table 1 a ":Str).length=10/\(Txt.mul "1+" 30).length=60/\(Txt.mul "(" 6).length=6/\(Txt.mul ")" 6).length=6:=by decide+kernel
theorem mulS {z:Str}{n:Int}(h:0<=n/\n<=10000/\z.length<=30000/\z.length * n.toNat<=1000000):mulW (.str z) (.int n)=pr (.str (Txt.mul z n)):=ai h
theorem bad0:(["", " ", "box", "box a", "box a 0 5", "box a x", "box A 0", "box a -1", "box a 00", "box a 05"]:List Str).all badB=true:=by decide+kernel
theorem bad1:(["box a +5", "box a 1_0", "box a 1000", "box a 5.0", "box  a 0", "box a 0 ", "Box a 0"]:List Str).all badB=true:=by decide+kernel
theorem bad2:(["boxes a 0", "box abcdefghi 0", "box a1 0", "box 0 a", "box a a", "box a 1+1", "block"]:List Str).all badB=true:=by decide+kernel
theorem bad3:(["block A", "block a b", "block a1", "block abcdefghi", "blocks a", "Block a", "block "]:List Str).all badB=true:=by decide+kernel
theorem bad4:([" block a", "block 1", "block -a", "put", "put a", "put a 1 2", "put A 1", "put a -1"]:List Str).all badB=true:=by decide+kernel
theorem bad5:(["put a (1", "put a 1)", "put a 1+", "put a a1", "put a 01", "put a 1000", "put a 1 + 1"]:List Str).all badB=true:=by decide+kernel
theorem bad6 : (["put 1 a", "put a = 1", "put zz 1+", "put a +1", "put a 1--1", "put a *1", "put a ()"] : List Str).all badB = true :=by decide +kernel
theorem bad7:(["put a a(b)", "put a 2a", "put a 1_0", "put a ", "put a a/1", "say", "say 1 2", "say A"]:List Str).all badB=true:=by decide+kernel
theorem bad8:(["say -1", "say 1+", "say ", "Say 1", "says 1", "say (1", "say \"a\"", "say zz 1", "ask"]:List Str).all badB=true:=by decide+kernel
theorem bad9:(["ask a b", "ask A", "ask 1", "asks a", "ask  a", "ask a ", "ask (a)", "go", "go A", "go a b"]:List Str).all badB=true:=by decide+kernel
theorem bad10:(["go 1", "goto a", "go  a", "go a ", "go abcdefghi", "Go a", "if", "if a < 1", "if a < 1 a"]:List Str).all badB=true:=by decide+kernel
theorem bad11:(["if a < 1 a else", "if a < 1 a b", "if a < 1 a else b c", "if a < 1 a else 1"]:List Str).all badB=true:=by decide+kernel
theorem bad12:(["if a < 1 1 else b", "if a > 1 a else b", "if a <= 1 a else b", "if a == 1 a else b"]:List Str).all badB=true:=by decide+kernel
theorem bad13:(["if < a 1 a else b", "if a<1 a else b", "if a < 1 a Else b", "if a < 1 a then b"]:List Str).all badB=true:=by decide+kernel
theorem bad14:(["if a < 1 else a b", "if a < 1  a else b", "if 1) = 2 a else b", "if a1 < 2 a else b"]:List Str).all badB=true:=by decide+kernel
theorem bad15:(["if 1+ < 2 a else b", "if a < (1 a else b", "if a < a else b", "if A < 1 a else b"]:List Str).all badB=true:=by decide+kernel
theorem bad16:(["if zz < 1+ a else b", "if -1 < a a else b", "if a = -1 a else b", "ifs a < 1 a else b"]:List Str).all badB=true:=by decide+kernel
theorem bad17:(["if a < 1 go a", "table", "table a", "table 1", "table a b c d e f g h", "table A a"]:List Str).all badB=true:=by decide+kernel
theorem bad18:(["table 1+ a", "table a A", "table a b 1", "table a  b", "table a b ", "tables a b"]:List Str).all badB=true:=by decide+kernel
theorem bad19:(["Table a b", "table -1 a", "table a b else", "table (a b", "stop 1", "stops", " stop"]:List Str).all badB=true:=by decide+kernel
theorem bad20:(["stop ", "Stop", "stop stop", "end", "else", "else a", "a", "1", "let a 1", "while a < 1"]:List Str).all badB=true:=by decide+kernel
theorem bad21:(["go~a", "# a"]:List Str).all badB=true:=by decide+kernel
theorem badw0: ∀x∈taken,(["box "++x++ " 0", "block "++x, "ask "++x, "put "++x++ " 1"]:List Str).all badB=true:=by decide+kernel
theorem badw1: ∀x∈taken,(["put a "++x]:List Str).all badB=true:=by decide+kernel
theorem badw2: ∀x∈taken,(["go "++x, "say "++x, "if "++x++ " < 1 a else b"]:List Str).all badB=true:=by decide+kernel
theorem badw3: ∀x∈taken,(["if 1 < "++x++ "+1 a else b"]:List Str).all badB=true:=by decide+kernel
theorem badw4: ∀x∈taken,(["if 1 < 2 "++x++ " else b", "if 1 < 2 a else "++x, "table 1 a "++x]:List Str).all badB=true:=by decide+kernel
theorem badw5: ∀x∈taken,(["table "++x++ " a"]:List Str).all badB=true:=by decide+kernel
theorem badw6: ∀x∈taken,(["put a "++(Txt.mul "1+" 30)++ "1", "say "++(Txt.mul "(" 6)++ "a"++(Txt.mul ")" 6), "if "++(Txt.mul "1+" 30)++ "1 = 2 a else b"]:List Str).all badB=true:=by decide+kernel
theorem badw7: ∀x∈taken,(["table "++(Txt.mul "1+" 30)++ "1 a"]:List Str).all badB=true:=by decide+kernel
theorem wy: ∀x∈taken,x.length<=5:=by decide+kernel
noncomputable def BadAt (h0 h:List Ob)(j n:Nat):Prop:=(Fo h0.length h0 h/\h0.length<=j)/\ ∃l:List Str,h[j]?=some (.lst (l.map W.str))/\(∀z∈l,BadR z)/\l≠ []/\l.length<=n
theorem Fo.app {h0 h:List Ob}{b:Ob}(F:Fo h0.length h0 h):Fo h0.length h0 (h++[b])/\h0.length<=h.length:=⟨⟨fun i hi=>by rw[List.getElem?_append_left (Nat.lt_of_lt_of_le hi F.le)];exact F.eq i hi,by rw[List.length_append];have:=F.le;omega⟩,F.le⟩
section
variable {h0:List Ob}{rest:Env'->M Fl}{new:List Str}{c:W}{tl:Env'}{n:Nat}{Q:W->List Ob->Prop}
theorem sj {E:Env'->M (List W)}(hE:E (some c::none::tl)=pr (new.map W.str))(hn:new.all badB=true)(ne:new≠ [])(ln:new.length<=20)(H:∀j h,BadAt h0 h j 20->Ok (bd (rest (some c::some (.loc j)::tl)) finF) h Q):Ok (bd (sSeq (sSet 1 (mNew E)) rest (some c::none::tl)) finF) h0 Q:=by
 simp! only[aa,hE]
 refine cP ?_
 simp!
 exact H _ _ ⟨(Fo.refl _ _).app,new,bC,lM hn,ne,ln⟩
theorem aH {E:Env'->M W}(hE: ∀j,E (some c::some (.loc j)::tl)=pr (.tl (new.map W.str)))(hn:new.all badB=true)(ln:new.length<=20)(z:n<=10000)(H:∀j h,BadAt h0 h j (n+20)->Ok (bd (rest (some c::some (.loc j)::tl)) finF) h Q): ∀j h,BadAt h0 h j n->Ok (bd (sSeq (sSet 1 (mNew (catL (mVar 1) E))) rest (some c::some (.loc j)::tl)) finF) h Q:=by
 rintro j h ⟨⟨F,hj⟩,l,e,b,ne,lz⟩
 have gl: ∀ {α:Type} (q:M α),gd ((l.map W.str).length+(new.map W.str).length<=sizeLine) q=q:=fun q=>ai (by rw[List.length_map,List.length_map];exact sz (by omega))
 simp! only[aa,catL,hE,lstO_tl']
 refine aY (eE e) ?_
 simp! only[aa,gl]
 refine cP ?_
 simp!
 refine H _ _ ⟨F.app,l++new,by rw[bC,List.map_append],fun z hz=>?_,by simp [ne],by rw[List.length_append];omega⟩
 rcases List.mem_append.mp hz with hz|hz
 ·exact b z hz
 ·exact lM hn z hz
theorem ix {E:Env'->M W}{x:Str}(hE: ∀j,E (some c::some (.loc j)::tl)=pr (.str x))(hn:[x].all badB=true)(z:n<=10000)(H:∀j h,BadAt h0 h j (n+20)->Ok (bd (rest (some c::some (.loc j)::tl)) finF) h Q): ∀j h,BadAt h0 h j n->Ok (bd (sSeq (sEx (mMeth isL bf (mVar 1) (mCons E mNil))) rest (some c::some (.loc j)::tl)) finF) h Q:=by
 rintro j h ⟨⟨F,hj⟩,l,e,b,ne,lz⟩
 simp!
 refine di e ?_
 simp! only[aa,hE]
 refine dM e (by rw[List.length_map];exact Nat.lt_of_le_of_lt (show _<=10000 by omega) (by decide)) ?_
 simp!
 refine H _ _ ⟨⟨F.trans (Fo.set hj),hj⟩,l++[x],by rw[cD e,List.map_append];rfl,fun z hz=>?_,by simp,by rw[List.length_append];show l.length+1<=_;omega⟩
 rcases List.mem_append.mp hz with hz|hz
 ·exact b z hz
 ·exact lM hn z hz
end
theorem yO {h:List Ob}(c:Int):Ok (fg [.int c]) h fun w h'=>(∃z,w=.str z/\BadR z)/\Fo h.length h h':=by
 have e0:fg [.int c]=bd (gL [some (.int c),none,none,none]) finF:=rfl
 rw[e0]
 unfold gL
 have s75:ao [.int c,.int 75]=pr (.int (stir c 75)):=cU (by decide)
 have s70:ao [.int c,.int 70]=pr (.int (stir c 70)):=cU (by decide)
 refine sj (new:=["", " ", "box", "box a", "box a 0 5", "box a x", "box A 0", "box a -1", "box a 00", "box a 05"]) (by simp! only[List.map_cons,List.map_nil]) bad0 (by simp) (by decide) fun j h1 A=>?_
 refine aH (n:=20) (new:=["box a +5", "box a 1_0", "box a 1000", "box a 5.0", "box  a 0", "box a 0 ", "Box a 0"]) (fun j=>by simp! only[List.map_cons,List.map_nil]) bad1 (by decide) (by decide) (fun j h1 A=>?_) j h1 A
 refine aH (n:=40) (new:=["boxes a 0", "box abcdefghi 0", "box a1 0", "box 0 a", "box a a", "box a 1+1", "block"]) (fun j=>by simp! only[List.map_cons,List.map_nil]) bad2 (by decide) (by decide) (fun j h1 A=>?_) j h1 A
 refine aH (n:=60) (new:=["block A", "block a b", "block a1", "block abcdefghi", "blocks a", "Block a", "block "]) (fun j=>by simp! only[List.map_cons,List.map_nil]) bad3 (by decide) (by decide) (fun j h1 A=>?_) j h1 A
 refine aH (n:=80) (new:=[" block a", "block 1", "block -a", "put", "put a", "put a 1 2", "put A 1", "put a -1"]) (fun j=>by simp! only[List.map_cons,List.map_nil]) bad4 (by decide) (by decide) (fun j h1 A=>?_) j h1 A
 refine aH (n:=100) (new:=["put a (1", "put a 1)", "put a 1+", "put a a1", "put a 01", "put a 1000", "put a 1 + 1"]) (fun j=>by simp! only[List.map_cons,List.map_nil]) bad5 (by decide) (by decide) (fun j h1 A=>?_) j h1 A
 refine aH (n := 120) (new := ["put 1 a", "put a = 1", "put zz 1+", "put a +1", "put a 1--1", "put a *1", "put a ()"]) (fun j => by simp! only [List.map_cons,List.map_nil]) bad6 (by decide) (by decide) (fun j h1 A => ?_) j h1 A
 refine aH (n:=140) (new:=["put a a(b)", "put a 2a", "put a 1_0", "put a ", "put a a/1", "say", "say 1 2", "say A"]) (fun j=>by simp! only[List.map_cons,List.map_nil]) bad7 (by decide) (by decide) (fun j h1 A=>?_) j h1 A
 refine aH (n:=160) (new:=["say -1", "say 1+", "say ", "Say 1", "says 1", "say (1", "say \"a\"", "say zz 1", "ask"]) (fun j=>by simp! only[List.map_cons,List.map_nil]) bad8 (by decide) (by decide) (fun j h1 A=>?_) j h1 A
 refine aH (n:=180) (new:=["ask a b", "ask A", "ask 1", "asks a", "ask  a", "ask a ", "ask (a)", "go", "go A", "go a b"]) (fun j=>by simp! only[List.map_cons,List.map_nil]) bad9 (by decide) (by decide) (fun j h1 A=>?_) j h1 A
 refine aH (n:=200) (new:=["go 1", "goto a", "go  a", "go a ", "go abcdefghi", "Go a", "if", "if a < 1", "if a < 1 a"]) (fun j=>by simp! only[List.map_cons,List.map_nil]) bad10 (by decide) (by decide) (fun j h1 A=>?_) j h1 A
 refine aH (n:=220) (new:=["if a < 1 a else", "if a < 1 a b", "if a < 1 a else b c", "if a < 1 a else 1"]) (fun j=>by simp! only[List.map_cons,List.map_nil]) bad11 (by decide) (by decide) (fun j h1 A=>?_) j h1 A
 refine aH (n:=240) (new:=["if a < 1 1 else b", "if a > 1 a else b", "if a <= 1 a else b", "if a == 1 a else b"]) (fun j=>by simp! only[List.map_cons,List.map_nil]) bad12 (by decide) (by decide) (fun j h1 A=>?_) j h1 A
 refine aH (n:=260) (new:=["if < a 1 a else b", "if a<1 a else b", "if a < 1 a Else b", "if a < 1 a then b"]) (fun j=>by simp! only[List.map_cons,List.map_nil]) bad13 (by decide) (by decide) (fun j h1 A=>?_) j h1 A
 refine aH (n:=280) (new:=["if a < 1 else a b", "if a < 1  a else b", "if 1) = 2 a else b", "if a1 < 2 a else b"]) (fun j=>by simp! only[List.map_cons,List.map_nil]) bad14 (by decide) (by decide) (fun j h1 A=>?_) j h1 A
 refine aH (n:=300) (new:=["if 1+ < 2 a else b", "if a < (1 a else b", "if a < a else b", "if A < 1 a else b"]) (fun j=>by simp! only[List.map_cons,List.map_nil]) bad15 (by decide) (by decide) (fun j h1 A=>?_) j h1 A
 refine aH (n:=320) (new:=["if zz < 1+ a else b", "if -1 < a a else b", "if a = -1 a else b", "ifs a < 1 a else b"]) (fun j=>by simp! only[List.map_cons,List.map_nil]) bad16 (by decide) (by decide) (fun j h1 A=>?_) j h1 A
 refine aH (n:=340) (new:=["if a < 1 go a", "table", "table a", "table 1", "table a b c d e f g h", "table A a"]) (fun j=>by simp! only[List.map_cons,List.map_nil]) bad17 (by decide) (by decide) (fun j h1 A=>?_) j h1 A
 refine aH (n:=360) (new:=["table 1+ a", "table a A", "table a b 1", "table a  b", "table a b ", "tables a b"]) (fun j=>by simp! only[List.map_cons,List.map_nil]) bad18 (by decide) (by decide) (fun j h1 A=>?_) j h1 A
 refine aH (n:=380) (new:=["Table a b", "table -1 a", "table a b else", "table (a b", "stop 1", "stops", " stop"]) (fun j=>by simp! only[List.map_cons,List.map_nil]) bad19 (by decide) (by decide) (fun j h1 A=>?_) j h1 A
 refine aH (n:=400) (new:=["stop ", "Stop", "stop stop", "end", "else", "else a", "a", "1", "let a 1", "while a < 1"]) (fun j=>by simp! only[List.map_cons,List.map_nil]) bad20 (by decide) (by decide) (fun j h1 A=>?_) j h1 A
 refine aH (n:=420) (new:=["go~a", "# a"]) (fun j=>by simp! only[List.map_cons,List.map_nil]) bad21 (by decide) (by decide) (fun j h1 A=>?_) j h1 A
 have v0:=Int.emod_nonneg (stir c 75) (show (10:Int)≠0 by decide)
 have v1:=Int.emod_lt_of_pos (stir c 75) (show (0:Int)<10 by decide)
 have px:ixW (.tl [.str "box",.str "block",.str "put",.str "say",.str "ask",.str "go",.str "if",.str "else",.str "table",.str "stop"]) (.int (stir c 75 % 10))=pr (.str (taken.getD (stir c 75 % 10).toNat "")):=eF (eX W.str taken "" v0 v1)
 have xm:taken.getD (stir c 75 % 10).toNat ""∈taken:=by
  have:(stir c 75 % 10).toNat<taken.length:=by show _<10;omega
  rw[List.getD_eq_getElem?_getD,List.getElem?_eq_getElem this]
  exact List.getElem_mem this
 generalize taken.getD (stir c 75 % 10).toNat ""=x at *
 have xl:=wy x xm
 have st: ∀ {rest:Env'->M Fl}{Q:W->List Ob->Prop},Ok (bd (rest [some (.int c),some (.loc j),some (.tl [.str "box",.str "block",.str "put",.str "say",.str "ask",.str "go",.str "if",.str "else",.str "table",.str "stop"]),some (.str x)]) finF) h1 Q->Ok (bd (sSeq (sSet 2 (mTl (lenG (mCons (mC (.str "box")) (mCons (mC (.str "block")) (mCons (mC (.str "put")) (mCons (mC (.str "say")) (mCons (mC (.str "ask")) (mCons (mC (.str "go")) (mCons (mC (.str "if")) (mCons (mC (.str "else")) (mCons (mC (.str "table")) (mCons (mC (.str "stop")) mNil))))))))))))) (sSeq (sSet 3 (m2 ixW (mVar 2) (m2 modW (mCall (arW 2 ao) (mCons (mVar 0) (mCons (mC (.int 75)) mNil))) (mC (.int 10))))) rest) [some (.int c),some (.loc j),none,none]) finF) h1 Q:=fun H=>by
  simp! only[aa,s75,aw (show (0:Int)<10 by decide),px]
  exact H
 refine st ?_
 obtain⟨q0,q1,q2,q3,q4,q5,q6,q7,q8,q9,q10,q11,q12,q13,q14,q15,q16,q17,q18,q19,q20,q21,q22,q23,q24,q25,q26,q27,q28⟩:=yM
 refine aH (n:=440) (new:=["box "++x++ " 0", "block "++x, "ask "++x, "put "++x++ " 1"]) (fun j=>by simp! only[List.map_cons,List.map_nil,adS (a:= "box ") (b:=x) (by (try simp only[slen]);omega),adS (a:= "box "++x) (b:= " 0") (by (try simp only[slen]);omega),adS (a:= "block ") (b:=x) (by (try simp only[slen]);omega),adS (a:= "ask ") (b:=x) (by (try simp only[slen]);omega),adS (a:= "put ") (b:=x) (by (try simp only[slen]);omega),adS (a:= "put "++x) (b:= " 1") (by (try simp only[slen]);omega)]) (badw0 x xm) (by simp) (by decide) (fun j h1 A=>?_) j h1 A
 refine ix (n:=460) (x:= "put a "++x) (fun j=>by simp! only[adS (a:= "put a ") (b:=x) (by (try simp only[slen]);omega)]) (badw1 x xm) (by decide) (fun j h1 A=>?_) j h1 A
 refine aH (n:=480) (new:=["go "++x, "say "++x, "if "++x++ " < 1 a else b"]) (fun j=>by simp! only[List.map_cons,List.map_nil,adS (a:= "go ") (b:=x) (by (try simp only[slen]);omega),adS (a:= "say ") (b:=x) (by (try simp only[slen]);omega),adS (a:= "if ") (b:=x) (by (try simp only[slen]);omega),adS (a:= "if "++x) (b:= " < 1 a else b") (by (try simp only[slen]);omega)]) (badw2 x xm) (by simp) (by decide) (fun j h1 A=>?_) j h1 A
 refine ix (n:=500) (x:= "if 1 < "++x++ "+1 a else b") (fun j=>by simp! only[adS (a:= "if 1 < ") (b:=x) (by (try simp only[slen]);omega),adS (a:= "if 1 < "++x) (b:= "+1 a else b") (by (try simp only[slen]);omega)]) (badw3 x xm) (by decide) (fun j h1 A=>?_) j h1 A
 refine aH (n:=520) (new:=["if 1 < 2 "++x++ " else b", "if 1 < 2 a else "++x, "table 1 a "++x]) (fun j=>by simp! only[List.map_cons,List.map_nil,adS (a:= "if 1 < 2 ") (b:=x) (by (try simp only[slen]);omega),adS (a:= "if 1 < 2 "++x) (b:= " else b") (by (try simp only[slen]);omega),adS (a:= "if 1 < 2 a else ") (b:=x) (by (try simp only[slen]);omega),adS (a:= "table 1 a ") (b:=x) (by (try simp only[slen]);omega)]) (badw4 x xm) (by simp) (by decide) (fun j h1 A=>?_) j h1 A
 refine ix (n:=540) (x:= "table "++x++ " a") (fun j=>by simp! only[adS (a:= "table ") (b:=x) (by (try simp only[slen]);omega),adS (a:= "table "++x) (b:= " a") (by (try simp only[slen]);omega)]) (badw5 x xm) (by decide) (fun j h1 A=>?_) j h1 A
 refine aH (n:=560) (new:=["put a "++(Txt.mul "1+" 30)++ "1", "say "++(Txt.mul "(" 6)++ "a"++(Txt.mul ")" 6), "if "++(Txt.mul "1+" 30)++ "1 = 2 a else b"]) (fun j=>by simp! only[List.map_cons,List.map_nil,mulS (z:= "1+") (n:=30) (by decide),adS (a:= "put a ") (b:=(Txt.mul "1+" 30)) (by (try simp only[slen]);omega),adS (a:= "put a "++(Txt.mul "1+" 30)) (b:= "1") (by (try simp only[slen]);omega),mulS (z:= "(") (n:=6) (by decide),adS (a:= "say ") (b:=(Txt.mul "(" 6)) (by (try simp only[slen]);omega),adS (a:= "say "++(Txt.mul "(" 6)) (b:= "a") (by (try simp only[slen]);omega),mulS (z:= ")") (n:=6) (by decide),adS (a:= "say "++(Txt.mul "(" 6)++ "a") (b:=(Txt.mul ")" 6)) (by (try simp only[slen]);omega),mulS (z:= "1+") (n:=30) (by decide),adS (a:= "if ") (b:=(Txt.mul "1+" 30)) (by (try simp only[slen]);omega),adS (a:= "if "++(Txt.mul "1+" 30)) (b:= "1 = 2 a else b") (by (try simp only[slen]);omega)]) (badw6 x xm) (by simp) (by decide) (fun j h1 A=>?_) j h1 A
 refine ix (n:=580) (x:= "table "++(Txt.mul "1+" 30)++ "1 a") (fun j=>by simp! only[mulS (z:= "1+") (n:=30) (by decide),adS (a:= "table ") (b:=(Txt.mul "1+" 30)) (by (try simp only[slen]);omega),adS (a:= "table "++(Txt.mul "1+" 30)) (b:= "1 a") (by (try simp only[slen]);omega)]) (badw7 x xm) (by decide) (fun j h1 A=>?_) j h1 A
 obtain⟨⟨F,_⟩,l,e,b,ne,lz⟩:=A
 obtain⟨N,hN⟩: ∃N:Int,N=((l.map W.str).length:Int):=⟨_,rfl⟩
 have hN':N=(l.length:Int):=by rw[hN,List.length_map]
 have lp:=List.length_pos_iff.mpr ne
 have N0:0<N:=by rw[hN,List.length_map];omega
 have u0:=Int.emod_nonneg (stir c 70) (show N≠0 by omega)
 have u1:=Int.emod_lt_of_pos (stir c 70) N0
 have at_:=eX W.str l "" u0 (by rw[<-hN'];exact u1)
 have zm:l.getD (stir c 70 % N).toNat ""∈l:=by
  have:(stir c 70 % N).toNat<l.length:=by omega
  rw[List.getD_eq_getElem?_getD,List.getElem?_eq_getElem this]
  exact List.getElem_mem this
 generalize l.getD (stir c 70 % N).toNat ""=z at *
 simp! only[aa,s70]
 refine Lw.len_eq (.inr ⟨j,rfl,e⟩) hN ?_
 simp! only[aa,aw N0]
 refine v7 e at_ ?_
 simp!
 exact aq ⟨⟨z,rfl,b z zm⟩,F⟩
end
section
open Wd
theorem cut_take' {α:Type}(l:List α){v:Int}(h0:0<=v):cutW l none (some v)=l.take v.toNat:=by
 unfold cutW
 show List.take ((if v<0 then (v+(l.length:Int)).toNat else min v.toNat l.length) - 0) (l.drop 0)=_
 rw[if_neg (by omega),List.drop_zero,Nat.sub_zero]
 by_cases h:v.toNat<=l.length
 ·rw[Nat.min_eq_left h]
 ·rw[Nat.min_eq_right (by omega),List.take_length,List.take_of_length_le (by omega)]
theorem oS {n:Nat}: ∀ {l:List Str},(∀z∈l,z.length<=n)->(l.map (·.length)).sum<=n * l.length
 |[],_=>by simp
 |z::l,h=>by
  have a:=h z List.mem_cons_self
  have b:=oS (l:=l) fun z hz=>h z (List.mem_cons_of_mem _ hz)
  rw[List.map_cons,List.sum_cons,List.length_cons,Nat.mul_succ]
  omega
theorem yu {l:List W}{i:Int}{w:W}(h:atI l i=some w):ixW (.cl l) (.int i)=pr w:=by
 funext hh
 unfold ixW
 have:ixO (.cl l) (.int i) hh=some w:=h
 rw[this];rfl
theorem vP (ns:List Int)(i:Int)(h0:0<=i): ∃c:Int,cL [.cl (ns.map W.int),.int i]=pr (.int c):=by
 have e0:cL [.cl (ns.map W.int),.int i]=bd (dz [some (.cl (ns.map W.int)),some (.int i)]) finF:=rfl
 rw[e0]
 unfold dz
 by_cases hc:i<((ns.map W.int).length:Int)
 ·have q:=eX W.int ns 0 h0 (by rw[List.length_map] at hc;exact hc)
  refine⟨ns.getD i.toNat 0,?_⟩
  simp! only[aa,pf,decide_eq_true hc,yu q]
 ·refine⟨0,?_⟩
  simp! only[aa,pf,decide_eq_false hc]
theorem iJ {G:List Ob->Prop}{h:List Ob}{ρ:Env'}{k:Int}{f:Lz->Str}(hG:G h)(hf: ∀a,ixW (Lz.w a) (.int k)=pr (.str (f a))): ∀l:List Lz,compM G (tgN 0) mYes (m2 ixW (mVar 0) (mC (.int k))) 2 (l.map Lz.w) ρ h=.ok ((l.map f).map W.str) h
 |[]=>by unfold compM;rw[List.map_nil];dsimp only;rw[bL hG];rfl
 |a::l=>by
  have ih:=iJ (ρ:=ρ) hG hf l
  rw[List.map_cons]
  unfold compM
  rw[bL hG]
  have e1:tgN 0 (Lz.w a) (List.replicate 2 none++ρ)=some (some (Lz.w a)::none::ρ):=rfl
  have e2:m2 ixW (mVar 0) (mC (.int k)) (some (Lz.w a)::none::ρ)=bd (pr (Lz.w a)) fun x=>bd (pr (.int k)) fun y=>ixW x y:=rfl
  rw[e1]
  dsimp only
  rw[i7,ba,if_pos rfl,e2,ba,ba,hf,ba,df ih];rfl
theorem wj (a:Lz):ixW (Lz.w a) (.int 0)=pr (.str a.tx):=tx0 ..
theorem ym (l:List Lr):l.map Lr.w=(l.map Lz.ok).map Lz.w:=by rw[List.map_map];rfl
theorem qA {l:List Str}(h:∀z∈l,z.length<=600)(l4:l.length<=500):joinW (.str "\n") [.tl (l.map W.str)]=pr (.str (Str.join ⟨#[10]⟩ l)):=by
 have k:("\n":Str).length=1:=by decide+kernel
 rw[jD (szM (by have:=oS h;rw[k];omega)),pb]
theorem pK: ∀bs:List Bool,PyData.eqvAll (bs.map PyData.bool) (bs.map PyData.bool)=true
 |[]=>by simp [PyData.eqvAll]
 |a::b=>by
  have ih:=pK b
  simp [PyData.eqvAll,PyData.eqv,ih]
theorem tN (bs:List Bool):eqW (.tl (bs.map W.bl)) (.tl (bs.map W.bl))=pr (.bl true):=tO fun h=>by
 have c:PyData.canLayAll0 (bs.map PyData.bool)=true:=tW bs fun p hp=>by rw[PyData.canLay0]
 have o:optL (dataH h 49) (bs.map W.bl)=some (bs.map PyData.bool):=ki (f:=dataH h 49) (g:=W.bl) (k:=PyData.bool) (fun a=>rfl) bs
 rw[qM o o c c,pK]
noncomputable def tolB (c:Str):List Bool:=[decide (c= "TooLong"),decide (c= "NoRow"),decide (c= "NoPlace"),decide (c= "Twice"),decide (c= "Full"),decide (c= "NoBox"),decide (c= "Open"),decide (c= "NoBlock"),decide (c= "NoForm"),decide (c= "NoneYet"),decide (c= "NoOrder"),decide (c= "NoWay"),false]
noncomputable def dueB (d:Int):Int->Nat->List Bool
 |_,0=>[]
 |k,n+1=>decide (d=k)::dueB d (k+1) n
theorem mR {w:W}: ∀ {n:Nat}{k:Int},w∈intsW k n-> ∃i,w=.int i
 |0,_,h=>by cases h
 |n+1,k,h=>by
  rcases List.mem_cons.mp h with rfl|h
  ·exact⟨k,rfl⟩
  ·exact mR h
def dueW (d:Int)(w:W):W:=match w with
 |.int k=>.bl (decide (d=k))
 |_=>.non
theorem pO (d:Int): ∀ (n:Nat) (k:Int),(intsW k n).map (dueW d)=(dueB d k n).map W.bl
 |0,_=>rfl
 |n+1,k=>by show _::_=_::_;rw[pO d n];rfl
theorem tolX (c:Str):toldX c=(tolB c).map W.bl:=rfl
theorem mZ {ρ:Env'}{i n:Nat}{d:Int}(hi:ρ[i]?=some (some (.int d))):compM (fun _=>True) (tgN 0) mYes (m2 eqW (mVar (i+2)) (mVar 0)) 2 (intsW 0 n) ρ=pr ((dueB d 0 n).map W.bl):=by
 have:=fk (t:=tgN 0) (f:=mYes) (e:=m2 eqW (mVar (i+2)) (mVar 0)) (n:=2) (ρ:=ρ) (b:=fun _=>true) (v:=dueW d) (l:=intsW 0 n) fun w hw=>by
  obtain⟨k,rfl⟩:=mR hw
  refine⟨_,rfl,rfl,fun _=>?_⟩
  simp! only[List.replicate,List.cons_append,List.nil_append,aa,hi,dueW]
 rw[this,List.filter_eq_self.mpr fun _ _=>rfl,pO]
theorem ui: ∀c∈(["TooLong", "NoRow", "NoPlace", "Twice", "Full", "NoBox", "Open", "NoBlock"]:List Str),tolB c=dueB (cdI (some c)) 0 13:=by decide+kernel
noncomputable def six:List Str:=["NoPlace", "Twice", "Full", "NoBox", "Open", "NoBlock"]
theorem vX:(("NoPlace":Str)∈six/\("Twice":Str)∈six/\("Full":Str)∈six)/\("NoBox":Str)∈six/\("Open":Str)∈six/\("NoBlock":Str)∈six:=by decide+kernel
theorem pN {s:RS}{r:Rr}{c:Str}(h:dueR s r=some c):c∈six:=by
 obtain⟨⟨k1,k2,k3⟩,k4,k5,k6⟩:=vX
 rcases gb r with⟨nm,v,rfl⟩|⟨nm,rfl⟩|q
 ·have h:(if s.nm=[] then (if nm∈s.bx.map (·.1) then some ("Twice":Str) else if s.bx.length=4 then some "Full" else none) else some "NoPlace")=some c:=h
  split at h
  ·split at h
   ·cases h;exact k2
   ·split at h
    ·cases h;exact k3
    ·cases h
  ·cases h;exact k1
 ·have h:(if s.dn.length<s.nm.length then some ("NoPlace":Str) else if nm∈s.nm then some "Twice" else if s.nm.length=10 then some "Full" else none)=some c:=h
  split at h
  ·cases h;exact k1
  ·split at h
   ·cases h;exact k2
   ·split at h
    ·cases h;exact k3
    ·cases h
 ·rw[lF q] at h
  unfold dueIn at h
  split at h
  ·split at h
   ·cases h;exact k3
   ·split at h
    ·cases h
    ·cases h;exact k4
  ·cases h;exact k1
theorem pj: ∀ {rs:List Rr}{s:RS}{c:Str},judR rs s=some c->c∈six
 |[],s,c,h=>by
  obtain⟨_,k4,k5,k6⟩:=vX
  have h:judE s=some c:=h
  unfold judE at h
  split at h
  ·cases h;exact k5
  ·split at h
   ·cases h
   ·cases h;exact k6
 |r::rs,s,c,h=>by
  unfold judR at h
  cases e:dueR s r with
  |some d=>rw[e] at h;cases h;exact pN e
  |none=>rw[e] at h;exact pj h
theorem six8: ∀c∈six,c∈(["TooLong", "NoRow", "NoPlace", "Twice", "Full", "NoBox", "Open", "NoBlock"]:List Str):=by decide+kernel
theorem ko: ∀ {rs:List Lz}{s:RS}{c:Str},judZ rs s=some c->c∈(["TooLong", "NoRow", "NoPlace", "Twice", "Full", "NoBox", "Open", "NoBlock"]:List Str)
 |[],s,c,h=>six8 _ (pj (rs:=[]) (s:=s) h)
 |.bad z::rs,s,c,h=>by
  have h:some ("NoRow":Str)=some c:=h
  cases h;decide+kernel
 |.ok a::rs,s,c,h=>by
  have h:(match dueR s a.r with
   |some c=>some c
   |none=>judZ rs (s.step a.r))=some c:=h
  cases e:dueR s a.r with
  |some d=>rw[e] at h;cases h;exact six8 _ (pN e)
  |none=>rw[e] at h;exact ko h
theorem xi {a:Lr}(g:LrG a):Pd 49 a.w:=by
 have k:=sk_k
 have h1:Pd 48 (.str a.r.hd):=.str (by
  obtain⟨s1,s2,s3,s4,s5,s6,s7,s8,s9,s10,_⟩:=k
  cases a.r<;>first|exact s1.ok|exact s2.ok|exact s3.ok|exact s4.ok|exact s5.ok|exact s6.ok|exact s7.ok|exact s9.ok|exact s10.ok)
 have h2:Pd 48 (.str a.r.own):=.str (by
  rcases xp g.g.g with e|e
  ·rw[e];exact k.2.2.2.2.2.2.2.2.2.2.2.2.ok
  ·exact (cc e).ok)
 exact .lst (by show 5<=1000;decide) (du (.str g.k.ok) (du h1 (du h2 (du (.lst (by rw[List.length_map];have:=g.z;omega) (eV g.kn)) (du (.lst (by rw[List.length_map];have:=g.t;omega) (eV (qW g.g.g))) kX)))))
theorem y4 {a:Lz}(g:LzG a):Pd 49 a.w:=by
 cases a with
 |ok a=>exact xi (show LrG a from g)
 |bad z=>
  have kb:Sk "bad":=.of (by decide+kernel)
  exact .lst (by show 5<=1000;decide) (du (.str (show BadR z from g).sk.ok) (du (.str kb.ok) (du (.str sk_k.2.2.2.2.2.2.2.2.2.2.2.2.ok) (du (.lst (Nat.zero_le _) kX) (du (.lst (Nat.zero_le _) kX) kX)))))
theorem vG {h:List Ob}{j:Nat}{l:List W}{β:Type}{k:W->M β}{Q:β->List Ob->Prop}(L:h[j]?=some (.lst l))(p:∀x∈l,Pd 49 x)(q:Ok (k (.bl l.isEmpty)) h Q):Ok (bd (eqW (.loc j) (.tl [])) k) h Q:=by
 refine aY (a:=.bl l.isEmpty) (h':=h) ?_ q
 have e:eqB (.loc j) (.tl []) h=eqB (.tl l) (.tl []) h:=by
  have x1:dataH h 50 (.loc j)=dataH h 50 (.tl l):=by
   show (match h[j]? with
    |some (.lst l)=>(optL (dataH h 49) l).map PyData.list
    |_=>none)=_
   simp only[L];rfl
  show (match dataH h 50 (.loc j),dataH h 50 (.tl []) with
   |some d,some e=>if d.canLay0=true/\e.canLay0=true then some (PyData.eqv d e) else none
   |_,_=>none)=_
  rw[x1];rfl
 unfold eqW
 rw[e,lE p]
theorem xQ {h:List Ob}{x:W}{l:List W}{n:Int}{β:Type}{k:W->M β}{Q:β->List Ob->Prop}(L:Lw h x l)(g:0<=n/\n<=1000000/\l.length * n.toNat<=sizeLine)(q:Ok (k (.tl (List.replicate n.toNat l).flatten)) h Q):Ok (bd (mulW x (.int n)) k) h Q:=by
 refine aY (a:=.tl (List.replicate n.toNat l).flatten) (h':=h) ?_ q
 rcases L with rfl|⟨j,rfl,e⟩
 ·show bd (lstO (.tl l)) (fun l=>gd (0<=n/\n<=1000000/\l.length * n.toNat<=sizeLine) (pr (W.tl (List.replicate n.toNat l).flatten))) h=_
  rw[lstO_tl',ba,ai g];rfl
 ·show bd (lstO (.loc j)) (fun l=>gd (0<=n/\n<=1000000/\l.length * n.toNat<=sizeLine) (pr (W.tl (List.replicate n.toNat l).flatten))) h=_
  rw[df (eE e),ai g];rfl
theorem cut_drop' {α:Type}(l:List α){v:Int}(h0:0<=v):cutW l (some v) none=l.drop v.toNat:=by
 unfold cutW
 show List.take (l.length - (if v<0 then (v+(l.length:Int)).toNat else min v.toNat l.length)) (l.drop (if v<0 then (v+(l.length:Int)).toNat else min v.toNat l.length))=_
 rw[if_neg (by omega)]
 by_cases h:v.toNat<=l.length
 ·rw[Nat.min_eq_left h,List.take_of_length_le (by rw[List.length_drop];exact Nat.le_refl _)]
 ·rw[Nat.min_eq_right (by omega),Nat.sub_self,List.take_zero,List.drop_of_length_le (by omega)]
noncomputable def eJ (x:Str):Lr:=⟨.block x,[]⟩
theorem ua {x:Str}(n:ak x=true)(l:x.length<=100):LrG (eJ x):=⟨⟨n,nin,nin⟩,fun _=>Iff.rfl,Nat.zero_le _,Nat.zero_le _,eK (nic sk_k.2.1 (nic (cc n) nin)),nin⟩
theorem tZ (x:Str):(eJ x).w=.tl [.str ("block "++x),.str "block",.str x,.tl [],.tl []]:=by rw[<-nD];rfl
theorem sayE: ∃e,Wrd "5" e/\exNm e=[]/\Sk "5":=dB wk_g.1.2.1 (by decide)
noncomputable def stopL:Lr:=⟨.stop,[]⟩
theorem stopG:LrG stopL:=⟨⟨trivial,nin,nin⟩,fun _=>Iff.rfl,Nat.zero_le _,Nat.zero_le _,eK (nic sk_k.2.2.2.2.2.2.2.2.2.1 nin),nin⟩
theorem sayL: ∃a:Lr,LrG a/\a.w=.tl [.str "say 5",.str "say",.str "",.tl [],.tl []]:=by
 obtain⟨e,w,el,sz⟩:=sayE
 refine⟨⟨.say "5" e,[]⟩,⟨⟨w,by show∀u∈exNm e,_;rw[el];exact nin,nin⟩,fun u=>by show _↔u∈exNm e;rw[el],Nat.zero_le _,Nat.zero_le _,eK (nic sk_k.2.2.2.1 (nic sz nin)),nin⟩,?_⟩
 rw[<-say5,<-nM "5" e];rfl
theorem mm_k:ak "mm"=true/\("mm":Str).length<=100/\("go "++ "mm":Str)= "go mm"/\ak "p"=true/\("p":Str).length<=100/\("block "++ "p":Str)= "block p":=by decide+kernel
theorem goL: ∃a:Lr,LrG a/\a.w=.tl [.str "go mm",.str "go",.str "",.tl [],.tl [.str "mm"]]:=by
 obtain⟨m1,m2,m3,_⟩:=mm_k
 refine⟨⟨.go "mm",[]⟩,⟨⟨m1,nin,nic m2 nin⟩,fun _=>Iff.rfl,Nat.zero_le _,(by show 1<=3;decide),eK (nic sk_k.2.2.2.2.2.1 (nic (cc m1) nin)),nin⟩,?_⟩
 rw[<-m3,<-wn "mm"];rfl
noncomputable def M10:List Str:=["m", "mm", "a", "n", "loop", "lo", "b", "x", "y", "z"]
theorem zI: ∀x∈M10,ak x=true/\x.length<=100:=by decide+kernel
theorem vE {h:List Ob}(c:Int):Ok (eH [.int c]) h fun w _=> ∃m:List Lr,w=.tl (m.map Lr.w)/\(∀a∈m,LrG a)/\m≠ []/\m.length<=210:=by
 have e0:eH [.int c]=bd (fO [some (.int c),none,none,none,none]) finF:=rfl
 rw[e0]
 unfold fO
 obtain⟨sa,sG,sW⟩:=sayL
 obtain⟨go,gG,gW⟩:=goL
 have s95:ao [.int c,.int 95]=pr (.int (stir c 95)):=cU (by decide)
 have s96:ao [.int c,.int 96]=pr (.int (stir c 96)):=cU (by decide)
 have l10:([.str "m",.str "mm",.str "a",.str "n",.str "loop",.str "lo",.str "b",.str "x",.str "y",.str "z"]:List W)=M10.map W.str:=rfl
 simp!
 refine cP ?_
 simp! only[aa,dS]
 rw[l10]
 refine jv (I:=fun i ρ h'=> ∃ (j:Nat) (m:List Lr) (x:Option W),ρ=[some (.int c),some (.loc j),x,none,none]/\h'[j]?=some (.lst (m.map Lr.w))/\(∀a∈m,LrG a)/\m.length=10 * i/\i<=10) ⟨_,[],_,rfl,bC,nin,rfl,Nat.zero_le _⟩ (fun _ _ _ _=>trivial) (fun i w ρ h1 hw I=>?_) fun ρ h1 I=>?_
 ·obtain⟨j,m,x,rfl,q1,mG,ml,hi⟩:=I
  rw[List.getElem?_map] at hw
  obtain⟨nm,hx,rfl⟩:=Option.map_eq_some_iff.mp hw
  obtain⟨n1,n2⟩:=zI nm (List.mem_of_getElem? hx)
  have hi':i<10:=(List.getElem?_eq_some_iff.mp hx).1
  have bl:("block ":Str).length=6:=kw_len.2.2.2.2.2.2.2.1
  refine⟨_,rfl,?_⟩
  simp!
  refine di q1 ?_
  simp! only[aa,adS (a:= "block ") (b:=nm) (by omega)]
  refine dM q1 (by rw[List.length_map];exact Nat.lt_of_le_of_lt (show _<=100 by omega) (by decide)) ?_
  have q2:(h1.set j (.lst (m.map Lr.w++[(eJ nm).w])))[j]?=some (.lst ((m++[eJ nm]).map Lr.w)):=by rw[cD q1,List.map_append];rfl
  rw[<-tZ]
  have g8: ∀ {α:Type} (q:M α),gd ((0:Int)<=8/\(8:Int)<=1000000/\(0+1) * (8:Int).toNat<=sizeLine) q=q:=fun q=>ai (by decide)
  simp! only[aa,catL,mulL,lstO_tl',g8]
  rw[<-sW,<-gW]
  refine aY (eE q2) ?_
  have e8:(List.replicate (8:Int).toNat [sa.w]).flatten=(List.replicate 8 sa).map Lr.w:=rfl
  have gl: ∀ {α:Type} (q:M α),gd (((m++[eJ nm]).map Lr.w).length+((List.replicate 8 sa).map Lr.w).length<=sizeLine) q=q:=fun q=>ai (by rw[List.length_map,List.length_map,List.length_append,List.length_replicate];exact sz (by show m.length+1+8<=_;omega))
  rw[e8]
  simp! only[aa,gl]
  refine cP ?_
  simp!
  refine di bC ?_
  simp!
  refine dM bC (by rw[List.length_append,List.length_map,List.length_map,List.length_append,List.length_replicate];exact Nat.lt_of_le_of_lt (show _<=200 by show m.length+1+8<=_;omega) (by decide)) ?_
  simp!
  refine aq ⟨_,rfl,_,m++[eJ nm]++List.replicate 8 sa++[go],_,rfl,?_,fun a ha=>?_,?_,hi'⟩
  ·rw[cD bC];simp only[List.map_append];rfl
  ·rcases List.mem_append.mp ha with ha|ha
   ·rcases List.mem_append.mp ha with ha|ha
    ·rcases List.mem_append.mp ha with ha|ha
     ·exact mG a ha
     ·rw[List.mem_singleton.mp ha];exact ua n1 n2
    ·rw[(List.mem_replicate.mp ha).2];exact sG
   ·rw[List.mem_singleton.mp ha];exact gG
  ·rw[List.length_append,List.length_append,List.length_append,List.length_replicate]
   show m.length+1+8+1=_
   omega
 ·obtain⟨j,m,x,rfl,q1,mG,ml,hi⟩:=I
  have ml:m.length=100:=ml
  have bp:=ua mm_k.2.2.2.1 mm_k.2.2.2.2.1
  have bw:=tZ "p"
  rw[mm_k.2.2.2.2.2] at bw
  have sw:stopL.w=.tl [.str "stop",.str "stop",.str "",.tl [],.tl []]:=rfl
  have v0:=Int.emod_nonneg (stir c 95) (show (101:Int)≠0 by decide)
  have v1:=Int.emod_lt_of_pos (stir c 95) (show (0:Int)<101 by decide)
  have u0:=Int.emod_nonneg (stir c 96) (show (3:Int)≠0 by decide)
  have u1:=Int.emod_lt_of_pos (stir c 96) (show (0:Int)<3 by decide)
  have c1:cutW (m.map Lr.w) none (some (stir c 95 % 101))=(m.take (stir c 95 % 101).toNat).map Lr.w:=by rw[cut_take' _ v0,List.map_take]
  have c2:cutW (m.map Lr.w) (some (stir c 95 % 101)) none=(m.drop (stir c 95 % 101).toNat).map Lr.w:=by rw[cut_drop' _ v0,List.map_drop]
  have c3:cutW [(eJ "p").w,sa.w,stopL.w] none (some (stir c 96 % 3))=(([eJ "p",sa,stopL]:List Lr).take (stir c 96 % 3).toNat).map Lr.w:=by rw[cut_take' _ u0,List.map_take];rfl
  have l1:(m.take (stir c 95 % 101).toNat).length+(m.drop (stir c 95 % 101).toNat).length=100:=by rw[List.length_take,List.length_drop];omega
  have l3:(([eJ "p",sa,stopL]:List Lr).take (stir c 96 % 3).toNat).length<=3:=by rw[List.length_take];exact Nat.min_le_right _ _
  have m1: ∀a∈m.take (stir c 95 % 101).toNat,LrG a:=fun a ha=>mG a (List.mem_of_mem_take ha)
  have m2: ∀a∈m.drop (stir c 95 % 101).toNat,LrG a:=fun a ha=>mG a (List.mem_of_mem_drop ha)
  have m3: ∀a∈([eJ "p",sa,stopL]:List Lr).take (stir c 96 % 3).toNat,LrG a:=fun a ha=>nic bp (nic sG (nic stopG nin)) a (List.mem_of_mem_take ha)
  simp! only[aa,s95,s96,aw (show (0:Int)<101 by decide),aw (show (0:Int)<3 by decide)]
  rw[<-bw,<-sW,<-sw]
  generalize stir c 95 % 101=p at *
  generalize stir c 96 % 3=u at *
  generalize m.take p.toNat=A at *
  generalize m.drop p.toNat=B at *
  generalize ([eJ "p",sa,stopL]:List Lr).take u.toNat=C at *
  refine Lw.sl (.inr ⟨j,rfl,q1⟩) ?_
  have a1:addW (.tl (A.map Lr.w)) (.tl (C.map Lr.w))=pr (.tl ((A++C).map Lr.w)):=by
   rw[fX _ _ (by rw[List.length_map,List.length_map];exact sz (by omega)),List.map_append]
  have a2:addW (.tl ((A++C).map Lr.w)) (.tl (B.map Lr.w))=pr (.tl ((A++C++B).map Lr.w)):=by
   rw[fX _ _ (by rw[List.length_map,List.length_map,List.length_append];exact sz (by omega)),List.map_append (l₂:=B)]
  simp! only[aa,c1,c3,a1]
  refine Lw.sl (.inr ⟨j,rfl,q1⟩) ?_
  simp! only[aa,c2,a2]
  refine aq ⟨A++C++B,rfl,fun a ha=>?_,fun z=>?_,by rw[List.length_append,List.length_append];omega⟩
  ·rcases List.mem_append.mp ha with ha|ha
   ·rcases List.mem_append.mp ha with ha|ha
    ·exact m1 a ha
    ·exact m3 a ha
   ·exact m2 a ha
  ·have:=congrArg List.length z
   rw[List.length_append,List.length_append] at this
   have:A.length+C.length+B.length=0:=this
   omega
end
section
open Wd
def P3:Env'->M Fl:=(sIf (mB (m2 eqW (mVar 1) (mTl (lenG mNil)))) (sSet 1 (mNew (lenG (mCons (mTl (lenG (mCons (mC (.str "say 5")) (mCons (mC (.str "say")) (mCons (mC (.str "")) (mCons (mTl (lenG mNil)) (mCons (mTl (lenG mNil)) mNil))))))) mNil)))) sNil)
def BL:Env'->M Fl:=(sIf (mB (m2 eqW (m2 modW (mCall (arW 2 ao) (mCons (mVar 2) (mCons (mC (.int 82)) mNil))) (mC (.int 8))) (mC (.int 0)))) (sEx (mMeth isL bf (mVar 1) (mCons (mTl (lenG (mCons (mCall (arW 1 fg) (mCons (mVar 2) mNil)) (mCons (mC (.str "bad")) (mCons (mC (.str "")) (mCons (mTl (lenG mNil)) (mCons (mTl (lenG mNil)) mNil))))))) mNil))) (sEx (mMeth isL bf (mVar 1) (mCons (mCall (arW 1 cM) (mCons (mVar 2) mNil)) mNil))))
def P4:Env'->M Fl:=(sIf (mB (m2 eqW (m2 modW (mCall (arW 2 ao) (mCons (mVar 3) (mCons (mC (.int 91)) mNil))) (mC (.int 3))) (mC (.int 0)))) (sSeq (sSet 4 (m2 ixW (mTl (lenG (mCons (mC (.int 119)) (mCons (mC (.int 120)) (mCons (mC (.int 121)) (mCons (mC (.int 122)) (mCons (m2 addW (mC (.int 121)) (m2 modW (mCall (arW 2 ao) (mCons (mVar 3) (mCons (mC (.int 92)) mNil))) (mC (.int 280)))) mNil))))))) (m2 modW (mCall (arW 2 ao) (mCons (mVar 3) (mCons (mC (.int 93)) mNil))) (mC (.int 5))))) (sSeq (sSet 1 (m3 slW (m2 mulW (mVar 1) (mVar 4)) aI (mPart (mVar 4)))) (sIf (mB (m2 eqW (m2 modW (mCall (arW 2 ao) (mCons (mVar 3) (mCons (mC (.int 94)) mNil))) (mC (.int 2))) (mC (.int 1)))) (sSet 1 (mCall (arW 1 eH) (mCons (mVar 3) mNil))) sNil))) sNil)
theorem qj:pB=(sSeq (sSet 1 (mNew (lenG mNil))) (sSeq (sFor (mSrc (m3 slW (mVar 0) aI (mPart (mC (.int 63)))) srcL) (tgN 2) BL) (sSeq (sSet 3 (mCall (arW 2 cL) (mCons (mVar 0) (mCons (mC (.int 0)) mNil)))) (sSeq P3 (sSeq P4 (sSeq (sSet 5 (mCall (arW 1 db) (mCons (mVar 1) mNil))) (sSeq (sIf (mB (m2 gtW (mCall lenW (mCons (mVar 1) mNil)) (mC (.int 120)))) (sSet 5 (mC (.int 0))) sNil) (sSeq (sSet 6 (mMeth isS joinW (mC (.str "\n")) (mCons (mTl (mComp [] (mSrc (mVar 1) srcL) (tgN 0) mYes (m2 ixW (mVar 0) (mC (.int 0))) 2)) mNil))) (sRet (m2 eqW (mCall (arW 1 bq) (mCons (mVar 6) mNil)) (mTl (mComp [] (mSrcA (mCons (m2 ixW (mTl (lenG (mCons (mC (.int 13)) (mCons (mC (.int 0)) mNil)))) (mCall intW (mCons (m2 ltW (mVar 5) (mC (.int 0))) mNil))) mNil) rng1) (tgN 0) mYes (m2 eqW (mVar 7) (mVar 0)) 2)))))))))))):=rfl
def env9 (S R:W)(b c:Option W):Env':=[some S,some R,b,c,none,none,none]
theorem vg {h:List Ob}{S:W}{j i:Nat}{c:Int}{m:List Lz}(e:h[j]?=some (.lst (m.map Lz.w)))(G:∀a∈m,LzG a)(hl:m.length<=i)(hi:i<=63):Ok (BL (env9 S (.loc j) (some (.int c)) none)) h fun x h'=> ∃r',x=.nx r'/\ ∃ (m:List Lz) (y:Option W),r'=env9 S (.loc j) y none/\h'[j]?=some (.lst (m.map Lz.w))/\(∀a∈m,LzG a)/\m.length<=i+1:=by
 unfold BL env9
 have s82:ao [.int c,.int 82]=pr (.int (stir c 82)):=cU (by decide)
 have z:(m.map Lz.w).length<sizeLine:=by rw[List.length_map];exact Nat.lt_of_le_of_lt (show _<=63 by omega) (by decide)
 have app: ∀a:Lz,LzG a-> ∀b∈m++[a],LzG b:=fun a ga b hb=>by
  rcases List.mem_append.mp hb with hb|hb
  ·exact G b hb
  ·rw[List.mem_singleton.mp hb];exact ga
 by_cases c1:stir c 82 % 8=0
 ·simp! only[aa,s82,aw (show (0:Int)<8 by decide),decide_eq_true c1]
  refine di e ?_
  simp!
  refine bJ (yO c) fun w h1 qq_=>?_
  obtain⟨⟨t,ew,tb⟩,F⟩:=qq_
  subst ew
  have e1:h1[j]?=some (.lst (m.map Lz.w)):=by rw[F.eq _ (da e)];exact e
  have ew:(Lz.bad t).w=.tl [.str t,.str "bad",.str "",.tl [],.tl []]:=rfl
  simp!
  refine dM e1 z ?_
  simp!
  exact aq ⟨_,rfl,m++[.bad t],_,rfl,by rw[cD e1,List.map_append];rfl,app (.bad t) tb,by rw[List.length_append];show m.length+1<=_;omega⟩
 ·obtain⟨a,ea,ga⟩:=wS c
  simp! only[aa,s82,aw (show (0:Int)<8 by decide),decide_eq_false c1]
  refine di e ?_
  simp! only[aa,ea]
  refine dM e z ?_
  simp!
  exact aq ⟨_,rfl,m++[.ok a],_,rfl,by rw[cD e,List.map_append];rfl,app (.ok a) ga,by rw[List.length_append];show m.length+1<=_;omega⟩
theorem y7 {h:List Ob}{S:W}{b c:Option W}{j:Nat}{m:List Lz}(e:h[j]?=some (.lst (m.map Lz.w)))(G:∀a∈m,LzG a)(hl:m.length<=63):Ok (P3 (env9 S (.loc j) b c)) h fun x h'=> ∃ (j:Nat) (m:List Lz),x=.nx (env9 S (.loc j) b c)/\h'[j]?=some (.lst (m.map Lz.w))/\(∀a∈m,LzG a)/\m≠ []/\m.length<=63:=by
 unfold P3 env9
 have pd: ∀x∈m.map Lz.w,Pd 49 x:=fun x hx=>by
  obtain⟨a,ha,rfl⟩:=List.mem_map.mp hx
  exact y4 (G a ha)
 simp!
 refine vG e pd ?_
 rw[dE]
 cases m with
 |nil=>
  obtain⟨sa,sG,sW⟩:=sayL
  simp! only[aa,List.isEmpty_nil]
  rw[<-sW]
  refine cP ?_
  simp!
  exact aq ⟨_,[.ok sa],rfl,bC,nic sG nin,by simp,by show 1<=63;decide⟩
 |cons a m=>
  simp! only[aa,List.isEmpty_cons]
  exact aq ⟨j,a::m,rfl,e,G,by simp,hl⟩
theorem five {v:Int}{a b c d e:Int}(h0:0<=v)(h1:v<5): ∃x:Int,ixW (.tl [.int a,.int b,.int c,.int d,.int e]) (.int v)=pr (.int x)/\(x=a\/x=b\/x=c\/x=d\/x=e):=by
 have:v=0\/v=1\/v=2\/v=3\/v=4:=by omega
 rcases this with rfl|rfl|rfl|rfl|rfl
 ·exact⟨a,tx0 ..,.inl rfl⟩
 ·exact⟨b,tx1 ..,.inr (.inl rfl)⟩
 ·exact⟨c,tx2 ..,.inr (.inr (.inl rfl))⟩
 ·exact⟨d,tx3 ..,.inr (.inr (.inr (.inl rfl)))⟩
 ·exact⟨e,tx4 ..,.inr (.inr (.inr (.inr rfl)))⟩
theorem y6 {h:List Ob}{S:W}{b:Option W}{c:Int}{j:Nat}{m:List Lz}(e:h[j]?=some (.lst (m.map Lz.w)))(G:∀a∈m,LzG a)(ne:m≠ [])(hl:m.length<=63):Ok (P4 (env9 S (.loc j) b (some (.int c)))) h fun x h'=> ∃ (R:W) (m:List Lz) (d:Option W),x=.nx [some S,some R,b,some (.int c),d,none,none]/\Lw h' R (m.map Lz.w)/\(∀a∈m,LzG a)/\m≠ []/\m.length<=500:=by
 unfold P4 env9
 have s91:ao [.int c,.int 91]=pr (.int (stir c 91)):=cU (by decide)
 have s92:ao [.int c,.int 92]=pr (.int (stir c 92)):=cU (by decide)
 have s93:ao [.int c,.int 93]=pr (.int (stir c 93)):=cU (by decide)
 have s94:ao [.int c,.int 94]=pr (.int (stir c 94)):=cU (by decide)
 by_cases c1:stir c 91 % 3=0
 ·have v0:=Int.emod_nonneg (stir c 93) (show (5:Int)≠0 by decide)
  have v1:=Int.emod_lt_of_pos (stir c 93) (show (0:Int)<5 by decide)
  have u0:=Int.emod_nonneg (stir c 92) (show (280:Int)≠0 by decide)
  have u1:=Int.emod_lt_of_pos (stir c 92) (show (0:Int)<280 by decide)
  obtain⟨N,eN,hN⟩:=five (a:=119) (b:=120) (c:=121) (d:=122) (e:=121+stir c 92 % 280) v0 v1
  have N1:119<=N/\N<=401:=by omega
  have mul:m.length * N.toNat<=30000:=by
   have:=Nat.mul_le_mul hl (show N.toNat<=401 by omega)
   omega
  simp! only[aa,s91,s92,s93,aw (show (0:Int)<3 by decide),aw (show (0:Int)<280 by decide),aw (show (0:Int)<5 by decide),decide_eq_true c1,eN]
  refine xQ (.inr ⟨j,rfl,e⟩) ⟨by omega,by omega,by rw[List.length_map];exact sz (by omega)⟩ ?_
  have er:(List.replicate N.toNat (m.map Lz.w)).flatten=(List.replicate N.toNat m).flatten.map Lz.w:=by rw[List.map_flatten,List.map_replicate]
  have ct:cutW ((List.replicate N.toNat m).flatten.map Lz.w) none (some N)=((List.replicate N.toNat m).flatten.take N.toNat).map Lz.w:=by rw[cut_take' _ (by omega),List.map_take]
  have tG: ∀a∈(List.replicate N.toNat m).flatten.take N.toNat,LzG a:=fun a ha=>by
   obtain⟨l,hl,hx⟩:=List.mem_flatten.mp (List.mem_of_mem_take ha)
   rw[(List.mem_replicate.mp hl).2] at hx
   exact G a hx
  have tl:((List.replicate N.toNat m).flatten.take N.toNat).length<=500:=by rw[List.length_take];omega
  have tn:(List.replicate N.toNat m).flatten.take N.toNat≠ []:=fun z=>by
   obtain⟨k,hk⟩: ∃k,N.toNat=k+1:=⟨N.toNat - 1,by omega⟩
   rw[hk,List.replicate_succ,List.flatten_cons] at z
   cases m with
   |nil=>exact ne rfl
   |cons a m=>cases z
  rw[er]
  simp! only[aa,s94,aw (show (0:Int)<2 by decide),ct]
  by_cases c2:stir c 94 % 2=1
  ·simp! only[aa,decide_eq_true c2]
   refine bJ (vE c) fun w h1 qq_=>?_
   obtain⟨q,ew,qG,qn,ql⟩:=qq_
   subst ew
   simp!
   refine aq ⟨_,q.map Lz.ok,_,rfl,.inl (by rw[ym]),fun a ha=>?_,fun z=>qn (List.map_eq_nil_iff.mp z),by rw[List.length_map];omega⟩
   obtain⟨b,hb,rfl⟩:=List.mem_map.mp ha
   exact qG b hb
  ·simp! only[aa,decide_eq_false c2]
   exact aq ⟨_,_,_,rfl,.inl rfl,tG,tn,tl⟩
 ·simp! only[aa,s91,aw (show (0:Int)<3 by decide),decide_eq_false c1]
  exact aq ⟨_,m,_,rfl,.inr ⟨j,rfl,e⟩,G,ne,by omega⟩
theorem cut63 (ns:List Int){v:Int}(h0:0<=v):cutW (ns.map W.int) none (some v)=(ns.take v.toNat).map W.int:=by rw[cut_take' _ h0,List.map_take]
theorem law_true (ns:List Int)(h:List Ob): ∃h',mX [.cl (ns.map W.int)] h=.ok (.bl true) h':=by
 suffices H:Ok (mX [.cl (ns.map W.int)]) h fun w _=>w=.bl true by
  obtain⟨a,h',e,rfl⟩:=H
  exact⟨h',e⟩
 have e0:mX [.cl (ns.map W.int)]=bd (pB [some (.cl (ns.map W.int)),none,none,none,none,none,none]) finF:=rfl
 rw[e0,qj]
 obtain⟨c0,e1⟩:=vP ns 0 (by decide)
 have c63:cutW (ns.map W.int) none (some 63)=(ns.take 63).map W.int:=cut63 ns (by decide)
 obtain⟨SR,hS⟩: ∃SR,SR=srcL:=⟨_,rfl⟩
 rw[<-hS]
 have st: ∀l,SR (.tl l)=pr ⟨l,fun _=>True⟩:=fun l=>by rw[hS];rfl
 simp!
 refine cP ?_
 simp! only[aa,c63,st]
 generalize hSC:W.cl (ns.map W.int)=S at *
 refine jv (I:=fun i ρ h'=> ∃ (m:List Lz) (y:Option W),ρ=env9 S (.loc h.length) y none/\h'[h.length]?=some (.lst (m.map Lz.w))/\(∀a∈m,LzG a)/\m.length<=i) ⟨[],_,rfl,bC,nin,Nat.zero_le _⟩ (fun _ _ _ _=>trivial) (fun i w ρ h1 hw I=>?_) fun ρ h1 I=>?_
 ·obtain⟨m,y,rfl,q1,mG,ml⟩:=I
  rw[List.getElem?_map] at hw
  obtain⟨c,hc,rfl⟩:=Option.map_eq_some_iff.mp hw
  have hi:=(List.getElem?_eq_some_iff.mp hc).1
  rw[List.length_take] at hi
  exact⟨_,rfl,vg q1 mG ml (by omega)⟩
 obtain⟨m,y,rfl,q1,mG,ml⟩:=I
 rw[List.length_map,List.length_take] at ml
 unfold env9
 simp! only[aa,e1]
 refine bJ (y7 (S:=S) (b:=y) (c:=some (.int c0)) q1 mG (by omega)) fun x h2 qq_=>?_
 obtain⟨j,mb,ex,q2,G2,n2,l2⟩:=qq_
 subst ex
 unfold env9
 simp!
 refine bJ (y6 (S:=S) (b:=y) q2 G2 n2 l2) fun x h3 qq_=>?_
 obtain⟨R,rs,d,ex,L3,G3,n3,l3⟩:=qq_
 subst ex
 simp!
 refine bJ (qy L3 G3 l3) fun w h4 qq_=>?_
 obtain⟨ew,eh⟩:=qq_
 subst ew eh
 obtain⟨N,hN⟩: ∃N:Int,N=((rs.map Lz.w).length:Int):=⟨_,rfl⟩
 have hN':N=(rs.length:Int):=by rw[hN,List.length_map]
 obtain⟨G4,sx,g4⟩:=wl L3
 rw[<-hS] at sx
 have glz: ∀ {α:Type} (q:M α),gd ((rs.map Lz.w).length<=sizeLine) q=q:=fun q=>ai (by rw[List.length_map];exact sz (by omega))
 have jn:joinW (.str "\n") [.tl ((rs.map Lz.tx).map W.str)]=pr (.str (textZ rs)):=qA (fun z hz=>by
  obtain⟨a,ha,rfl⟩:=List.mem_map.mp hz
  exact oA (G3 a ha)) (by rw[List.length_map];omega)
 have fin: ∀ (D:Int) (c:Str),c∈(["TooLong", "NoRow", "NoPlace", "Twice", "Full", "NoBox", "Open", "NoBlock"]:List Str)->D=cdI (some c)->(∀h,Xc (eG [.str (textZ rs)]) h c)->Ok (bd (ctS (sSeq (sSet 6 (mMeth isS joinW (mC (.str "\n")) (mCons (mTl (mComp [] (mSrc (mVar 1) SR) (tgN 0) mYes (m2 ixW (mVar 0) (mC (.int 0))) 2)) mNil))) (sRet (m2 eqW (mCall (arW 1 bq) (mCons (mVar 6) mNil)) (mTl (mComp [] (mSrcA (mCons (m2 ixW (mTl (lenG (mCons (mC (.int 13)) (mCons (mC (.int 0)) mNil)))) (mCall intW (mCons (m2 ltW (mVar 5) (mC (.int 0))) mNil))) mNil) rng1) (tgN 0) mYes (m2 eqW (mVar 7) (mVar 0)) 2))))) (.nx [some S,some R,y,some (.int c0),d,some (.int D),none])) finF) h4 fun w _=>w=.bl true:=fun D c hc hD hx=>by
  have ic:=iJ (G:=G4) (h:=h4) (ρ:=[some S,some R,y,some (.int c0),d,some (.int D),none]) g4 wj rs
  have rx:=fun h=>qe (h:=h) (T:=textZ rs) hc hx
  have nn:decide (D<0)=false:=decide_eq_false (fun h=>by rw[hD] at h;cases cd_neg.mp h)
  have td:=ui c hc
  rw[<-hD] at td
  have r13:rng1 [.int 13]=pr ⟨intsW 0 13,fun _=>True⟩:=jj (by decide) (by decide)
  have g13: ∀ {α:Type} (q:M α),gd ((intsW 0 13).length<=sizeLine) q=q:=fun q=>ai (by rw[il];exact sz (by omega))
  have dc:=mZ (i:=5) (n:=13) (d:=D) (ρ:=[some S,some R,y,some (.int c0),d,some (.int D),some (.str (textZ rs))]) rfl
  generalize textZ rs=T at *
  simp!
  refine aY sx ?_
  simp! only[aa,glz]
  refine aY ic ?_
  simp! only[aa,jn]
  refine bJ (rx _) fun w h5 ew=>?_
  subst ew
  simp! only[aa,nn,fH,fm,tx0,r13,g13,dc]
  rw[tolX,<-td,tN]
  simp!
  exact aq rfl
 simp!
 refine Lw.len_eq L3 hN ?_
 by_cases c1:120<N
 ·simp! only[aa,decide_eq_true c1]
  have f1:=fin 0 "TooLong" (by decide+kernel) (by decide+kernel) fun h=>wW G3 (by omega) l3
  try simp only[finF,bv,cz,cy,cB,cA,cj,dH,dI,sFor,mMet,aP,sAug,sAugW,sFldW,tupW,sRet,sSet,sNil,sEx,sPass,ck,sCont,sUnp,ci,mB,L2.m2,L2.m1,L2.m3,mVar,mC,mCall,mCons,mNil,mTup,mTl,mNew,lenG,listL,mPart,aI,mAnd,mOr,mNot,mAndV,mOrV,mNotV,mIf,bG,mMeth,isS,mSrc,mSrcA,srcL,srcT,srcS,tgN,tgT,setW,mYes,ba,bd_no,asB_bl,addW_int,subW_int,ltW_int,leW_int,gtW_int,geW_int,eqW_int,eqW_str,neW_int,neW_str,neW_bl,slW_tl,slW_cl,lenW_tl,lenW_tup,negW,List.set_cons_zero,List.set_cons_succ,List.getElem?_cons_zero,List.getElem?_cons_succ,List.length_cons,List.length_nil,arW,if_true,if_false,Bool.false_eq_true,ite_true,ite_false,reduceIte,decide_true,decide_false,Bool.not_true,Bool.not_false,dG,gdn0,gdn1,gdn2,gdn3,gdn4,gdn5,gdn6,gdn7,gdn8,gdn9,gdn10,gdn11,gdn12,gdn13,gdn14,gdn15,gdn16,gdn17,gdn18,gdn19,gdn20,gdn21,gdn22,gdn23,gdn24,aa] at f1
  exact f1
 simp! only[aa,decide_eq_false c1]
 have l120:rs.length<=120:=by omega
 cases J:judZ rs RS.nil with
 |some c=>
  have f1:=fin _ c (ko J) rfl fun h=>wV G3 J n3 l120
  try simp only[finF,bv,cz,cy,cB,cA,cj,dH,dI,sFor,mMet,aP,sAug,sAugW,sFldW,tupW,sRet,sSet,sNil,sEx,sPass,ck,sCont,sUnp,ci,mB,L2.m2,L2.m1,L2.m3,mVar,mC,mCall,mCons,mNil,mTup,mTl,mNew,lenG,listL,mPart,aI,mAnd,mOr,mNot,mAndV,mOrV,mNotV,mIf,bG,mMeth,isS,mSrc,mSrcA,srcL,srcT,srcS,tgN,tgT,setW,mYes,ba,bd_no,asB_bl,addW_int,subW_int,ltW_int,leW_int,gtW_int,geW_int,eqW_int,eqW_str,neW_int,neW_str,neW_bl,slW_tl,slW_cl,lenW_tl,lenW_tup,negW,List.set_cons_zero,List.set_cons_succ,List.getElem?_cons_zero,List.getElem?_cons_succ,List.length_cons,List.length_nil,arW,if_true,if_false,Bool.false_eq_true,ite_true,ite_false,reduceIte,decide_true,decide_false,Bool.not_true,Bool.not_false,dG,gdn0,gdn1,gdn2,gdn3,gdn4,gdn5,gdn6,gdn7,gdn8,gdn9,gdn10,gdn11,gdn12,gdn13,gdn14,gdn15,gdn16,gdn17,gdn18,gdn19,gdn20,gdn21,gdn22,gdn23,gdn24,aa] at f1
  exact f1
 |none=>
  obtain⟨q,eq,qG,qJ⟩:=kq G3 J
  have tq:textZ rs=textR (q.map Lr.r):=by
   rw[eq]
   show Str.join _ ((q.map Lz.ok).map Lz.tx)=Str.join _ ((q.map Lr.r).map Rr.tx)
   rw[List.map_map,List.map_map];rfl
  have rG: ∀r∈q.map Lr.r,RrG r:=fun r hr=>by
   obtain⟨a,ha,rfl⟩:=List.mem_map.mp hr
   exact (qG a ha).g
  obtain⟨k1,k2⟩:=mO ⟨by decide⟩ ⟨fun b hb=>by cases hb⟩ rG qJ
  have rne:q.map Lr.r≠ []:=fun z=>n3 (by rw[eq,List.map_eq_nil_iff.mp z];rfl)
  have rl:(q.map Lr.r).length<=120:=by rw[eq,List.length_map] at l120;rw[List.length_map];exact l120
  have rx:=fun h=>nX (h:=h) (P:=fun _ _=>True) (T:=textR (q.map Lr.r)) fun h=>(ux (h:=h) k1 k2 rne rl).imp fun w h' p=>p.2
  rw[<-tq] at rx
  have ic:=iJ (G:=G4) (h:=h4) (ρ:=[some S,some R,y,some (.int c0),d,some (.int (cdI none)),none]) g4 wj rs
  have nn:decide (cdI none<0)=true:=by decide
  have r0:rng1 [.int 0]=pr ⟨intsW 0 0,fun _=>True⟩:=jj (by decide) (by decide)
  have g0: ∀ {α:Type} (q:M α),gd ((intsW 0 0).length<=sizeLine) q=q:=fun q=>ai (by rw[il];exact sz (by omega))
  have dc:=mZ (i:=5) (n:=0) (d:=cdI none) (ρ:=[some S,some R,y,some (.int c0),d,some (.int (cdI none)),some (.str (textZ rs))]) rfl
  generalize textZ rs=T at *
  refine aY sx ?_
  simp! only[aa,glz]
  refine aY ic ?_
  simp! only[aa,jn]
  refine bJ (rx _) fun w h5 ew=>?_
  subst ew
  simp! only[aa,nn,fH,fm,tx1,r0,g0,dc]
  have eb:=tN []
  have eb:eqW (.tl []) (.tl [])=pr (.bl true):=eb
  have d0:(dueB (cdI none) 0 0).map W.bl=[]:=rfl
  rw[d0,eb]
  simp!
  exact aq rfl
end
end Q
namespace Q
open PySem L2 Wd
set_option hygiene false in
local macro_rules | `(tactic| and_intros) => `(tactic| repeat' first
 |(apply gNm;first|exact bU _|(apply zB<;>first|assumption|rfl)|(apply zA<;>first|assumption|rfl)|(apply zz<;>first|assumption|rfl))
 |(apply gCo;first|exact yg|exact x6|exact zG)
 |(apply gJA;first|exact bN|apply Ad)
 |(apply gJZ;first|exact uY|apply eW|apply li)
 |(apply gJS;first|apply sB|apply jz hN|apply zr|apply pc|apply zt|apply zp|apply zu|apply zq hX)
 |(apply gJT;first|apply z9|apply xS|apply zo|refine wm (sr ?_ ?_)|refine wm (v9 ?_ ?_)|apply xR)
 |(apply gJW;first|apply sr|apply uU|apply v9|apply xP)
 |(apply gCl;first|apply mH|apply g6|apply lm|apply yf|apply Ab|apply km|apply vc|apply sE|apply u8|apply sD|apply vd|apply u7|apply zF|apply zw|apply ye|exact yd hP (by assumption) (by assumption) (by assumption) (by assumption) (by assumption) (hr.mono (by omega)))
 |(apply gBi;first|apply mH|apply g6|apply lm|apply yk|apply yc|apply ve|apply x5|apply yb|apply x9|apply x8)
 |(apply gSu;first|apply Aa|apply zv)
 |(apply gJE;first|apply mH|apply g6|apply lm|apply x0|apply Ac|apply sF|apply ya|apply zD|apply yh)
 |(apply gJF;first|apply jA|apply ox|apply xZ)
 |(apply gJI;first|apply u5|apply xY|apply qr)
 |(apply gJO;first|apply uZ|exact u2)
 |apply ol
 |apply uE
 |apply jo
 |apply u3
 |exact o4
 |exact u4
 |exact p8 rfl
 |exact uR rfl
 |exact hu
 |exact hu6
 |assumption
 |exact eD _
 |rfl
 |exact zR hu6
 |exact zL hu6
 |exact zM
 |exact zN
 |exact zP
 |exact zQ
 |exact zO hu
 |exact zK hu
 |exact cr (by assumption) (hr.mono (by omega))
 |exact cs (by assumption) (by assumption) (by assumption) (hr.mono (by omega))
 |exact⟨_,by assumption,by assumption,by assumption⟩
 |exact⟨99,_,eL 99 _ (by decide),cE hN rfl (by first|exact Or.inl rfl|exact Or.inr rfl)⟩
 |exact⟨99,_,qY 99 _ (by decide),by and_intros⟩
 |exact crx hP (by assumption) (hr.mono (by omega))
 |exact crx on (by assumption) (hr.mono (by omega))
 |exact crx xo (by assumption) (hr.mono (by omega))
 |exact csx hP (by assumption) (by assumption) (by assumption) (hr.mono (by omega))
 |exact⟨99,_,uj 99 _ (by decide),by and_intros⟩
 |exact cE hN rfl (by first|exact Or.inl rfl|exact Or.inr rfl)
 |exact PassesOwn.never
 |exact PassesOwn.leaving
 |exact PyProof.Rows.boot_int
 |exact PyProof.Rows.boot_bool
 |exact Or.inl rfl
 |exact Or.inr rfl
 |exact fun _=>rfl
 |exact⟨rfl,rfl,rfl,rfl⟩
 |with_unfolding_all rfl
 |decide)
set_option hygiene false in
local macro_rules | `(tactic| ac_rfl) => `(tactic| (intro _ _ _ _ _ _ _ hr hu hu6 hN; and_intros))
theorem wo {P:Prop} [Decidable P] {w:W}(h:List Ob)(y:Str)(h':List Ob):gd P (pr w) h≠.ex y h':=by
 unfold gd pr;split<;>(intro e;cases e)
theorem oH (ws:List W)(h:List Ob)(y:Str)(h':List Ob):eO ws h≠.ex y h':=by
 unfold eO;split
 ·exact wo h y h'
 ·intro e;cases e
theorem qL (ws:List W)(h:List Ob)(y:Str)(h':List Ob):gD ws h≠.ex y h':=by
 unfold gD;split
 ·exact wo h y h'
 ·intro e;cases e
def spLaw (K:PySem.W.Frag):Sp:=fun vs H Q _=> ∃ (a:Addr) (ns:List Int),vs=[.ref a]/\SqL K H a (ns.map V.int)/\ns.length<=63/\ ∀H',Q (.bl true) H'
theorem ma {K:PySem.W.Frag}{o:Wo}: ∀ns:List Int,Rvs K o (ns.map W.int) (ns.map V.int)
 |[]=>Rvs.nil
 |n::r=>Rvs.cons (rv_int.mpr rfl) (ma r)
theorem law_ok {P:Program}{w:World}{K:PySem.W.Frag}{mg:Str->Option Value}{base:Heap}{f:Addr}{fd:FuncData}(C:CG P w K mg base 69 "law" f fd ["script"] 1 mX):FnOk P w K mg base CX0 69 f fd ["script"] (spLaw K):=
 C.ok.imp fun vs H Q E h=>by
  obtain⟨a,ns,rfl,sq,hn,q⟩:=h
  have nl: ¬Lv ⟨fun _=>0,[],H⟩ a:=fun⟨k,b,hk,_⟩=>by simp at hk
  refine⟨⟨fun _=>0,[],H⟩,[.cl (ns.map W.int)],rfl,rfl,⟨fun k b hk=>by simp at hk,fun j k b c hj=>by simp at hj⟩,Rvs.cons ?_ Rvs.nil,?_⟩
  ·unfold Rv
   exact⟨a,_,rfl,sq.imp (fun r=>⟨r,nl⟩) id,ma ns⟩
  ·obtain⟨h',e⟩:=law_true ns []
   show Ps _ _ _ (mX [.cl (ns.map W.int)] []) Q
   rw[e]
   intro p b _ _ _ rb
   rw[rv_bl.mp rb]
   exact q _
structure Fa (K:PySem.W.Frag)(mg:Str->Option Value)(CS CN c_Reading:Addr):Prop where
 n_Reading:nsIn K mainGlobals "Reading"=some (some (.ref c_Reading))
 D_names_in:Dq K mg "names_in" nO
 D_name_of:Dq K mg "name_of" qa
 D_number_of:Dq K mg "number_of" lZ
 D_condition_of:Dq K mg "condition_of" jg
 D_form_of:Dq K mg "form_of" ke
 D_boxes_named:Dq K mg "boxes_named" jV
 D_place_of:Dq K mg "place_of" nN
 D_end_by_places:Dq K mg "end_by_places" fZ
 D_Reading___init__:Dqm K "__init__" c_Reading "Reading.__init__" gZ
 D_Reading_in_block:Dqm K "in_block" c_Reading "Reading.in_block" gY
 D_Reading_box_names:Dqm K "box_names" c_Reading "Reading.box_names" dQ
 D_Reading_check_place:Dqm K "check_place" c_Reading "Reading.check_place" gf
 D_Reading_check_twice:Dqm K "check_twice" c_Reading "Reading.check_twice" gc
 D_Reading_check_room:Dqm K "check_room" c_Reading "Reading.check_room" gu
 D_Reading_check_boxes:Dqm K "check_boxes" c_Reading "Reading.check_boxes" gg
 D_Reading_put_down:Dqm K "put_down" c_Reading "Reading.put_down" gX
 D_Reading_take:Dqm K "take" c_Reading "Reading.take" jh
 D_Reading_told_program:Dqm K "told_program" c_Reading "Reading.told_program" fq
 D_read:Dq K mg "read" wQ
 D_law_cell_at:Dq K mg "_law_cell_at" jU
 D_law_stir:Dq K mg "_law_stir" nQ
 D_law_bad:Dq K mg "_law_bad" qb
 D_law_any_row:Dq K mg "_law_any_row" gS
 D_law_due:Dq K mg "_law_due" kd
 D_law_behind:Dq K mg "_law_behind" kM
 D_law_judged:Dq K mg "_law_judged" hV
 D_law_refused:Dq K mg "_law_refused" jT
 D_law_full:Dq K mg "_law_full" nR
 D_law:Dq K mg "law" rB
 cl_Reading:Cls K c_Reading
 mk_Reading:makesIn K c_Reading=true
 kc_Reading:keepIn K (.ref c_Reading)=true
 na_Reading_block_names:PySem.W.findIn K (.ref c_Reading) "block_names"=some none
 na_Reading_boxes:PySem.W.findIn K (.ref c_Reading) "boxes"=some none
 na_Reading_ended_blocks:PySem.W.findIn K (.ref c_Reading) "ended_blocks"=some none
 na_Reading_statements:PySem.W.findIn K (.ref c_Reading) "statements"=some none
 g_CONDITION_SIGNS:Gt K mg "CONDITION_SIGNS" ["<", "="]
 g_STATEMENTS:Gt K mg "STATEMENTS" ["put", "say", "ask"]
 x_Full:Gx K mg "Full"
 x_NoBlock:Gx K mg "NoBlock"
 x_NoBox:Gx K mg "NoBox"
 x_NoPlace:Gx K mg "NoPlace"
 x_NoRow:Gx K mg "NoRow"
 x_Open:Gx K mg "Open"
 x_TooLong:Gx K mg "TooLong"
 x_Twice:Gx K mg "Twice"
 k_Full:Gc K mg "Full"
 k_NoBlock:Gc K mg "NoBlock"
 k_NoBox:Gc K mg "NoBox"
 k_NoForm:Gc K mg "NoForm"
 k_NoOrder:Gc K mg "NoOrder"
 k_NoPlace:Gc K mg "NoPlace"
 k_NoRow:Gc K mg "NoRow"
 k_NoWay:Gc K mg "NoWay"
 k_NoneYet:Gc K mg "NoneYet"
 k_Open:Gc K mg "Open"
 k_TooLong:Gc K mg "TooLong"
 k_Twice:Gc K mg "Twice"
 e_FallError:Ge K mg "FallError" ["TooLong", "NoRow", "NoPlace", "Twice", "Full", "NoBox", "Open", "NoBlock"]
 h_MOST_BLOCKS:Gi mg "MOST_BLOCKS" 10
 h_MOST_BOXES:Gi mg "MOST_BOXES" 4
 h_MOST_IN_TABLE:Gi mg "MOST_IN_TABLE" 6
 h_MOST_ROWS:Gi mg "MOST_ROWS" 120
 h_MOST_STATEMENTS:Gi mg "MOST_STATEMENTS" 8
 aS:nsIn K mainGlobals "Signs"=some (some (.ref CS))
 aN:nsIn K mainGlobals "NoRow"=some (some (.ref CN))
 xN:excIn K CN bmVal "ValueError.__new__"=true
 aL:Gs mg "LETTERS" "abcdefghijklmnopqrstuvwxyz"
 aF:Gs mg "FIGURES" "0123456789"
 aW:Gt K mg "TAKEN_WORDS" ["box", "block", "put", "say", "ask", "go", "if", "else", "table", "stop"]
 n0:Gi mg "LONGEST_NAME" 8
 n1:Gi mg "LONGEST_NUMBER" 3
 n2:Gi mg "LONGEST_EXPRESSION" 60
 n3:Gi mg "DEEPEST_BRACKET" 5
 W_Sinit:Dqm K "__init__" CS "Signs.__init__" nT
 W_Sis_done:Dqm K "is_done" CS "Signs.is_done" nU
 W_Sstands_one_of:Dqm K "stands_one_of" CS "Signs.stands_one_of" ji
 W_Stake_sign:Dqm K "take_sign" CS "Signs.take_sign" nS
 W_Srun_of:Dqm K "run_of" CS "Signs.run_of" sSRun
 W_is_name:Dq K mg "is_name" iU
 W_is_number:Dq K mg "is_number" kO
 W_expression:Dq K mg "expression" sExpr
 W_read_terms:Dq K mg "read_terms" kN
 W_read_factors:Dq K mg "read_factors" hW
 W_read_factor:Dq K mg "read_factor" iV
 W_read_bracket:Dq K mg "read_bracket" gv
 wc:Cls K CS
 wmk:makesIn K CS=true
 wkc:keepIn K (.ref CS)=true
 nW:PySem.W.findIn K (.ref CS) "word"=some none
 nP:PySem.W.findIn K (.ref CS) "place"=some none
 y_ValueError:mg "ValueError"=none
 y_all:mg "all"=none
 y_int:mg "int"=none
 y_isinstance:mg "isinstance"=none
 y_len:mg "len"=none
 y_range:mg "range"=none
 y_str:mg "str"=none
 y_tuple:mg "tuple"=none
 m_Reading:mg "Reading"=some (.ref c_Reading)
structure Wf (P:Program)(w:World)(K:PySem.W.Frag)(mg:Str->Option Value)(base:Heap):Prop where
 w1:Cq P w K mg base 1 "is_name" 1 eO
 w2:Cq P w K mg base 1 "is_number" 1 gD
 w3:Cq P w K mg base 28 "expression" 1 tJ
 w4:Cqx P w K mg base 1 "is_name" 1 eO
 w5:Cqx P w K mg base 1 "is_number" 1 gD
 w6:Cqx P w K mg base 28 "expression" 1 eS
section
variable {P:Program}{w:World}{K:PySem.W.Frag}{mg:Str->Option Value}{base:Heap}{CS CN c_Reading:Addr}(S:Fa K mg CS CN c_Reading)(V:Wf P w K mg base)
include S V
theorem jN: ∀n:Nat,Cqx P w K mg base (1+n) "names_in" 1 (aU n)
 |0=>okqzx ["e"] 1 S.D_names_in fun _ _=>rfl
 |n+1=>by
  have:=jN n
  cases S;cases V
  exact okqx (k:=1+n) (g:=cx (aU n)) ["e"] 1 (by assumption) (by intro _ _ _ _ _ _ _ hr hu hu6 hN hB;obtain⟨hP,hX,hT,hst⟩:=hB;have hr:Room (1+n) _:=hr;and_intros)
theorem kC:Cqx P w K mg base 2 "name_of" 1 a8:=by
 cases S;cases V
 exact okqx (g:=ec) ["word"] 1 (by assumption) (by intro _ _ _ _ _ _ _ hr hu hu6 hN hB;obtain⟨hP,hX,hT,hst⟩:=hB;and_intros)
theorem nA:Cqx P w K mg base 2 "number_of" 1 cT:=by
 cases S;cases V
 exact okqx (g:=cR) ["word"] 1 (by assumption) (by intro _ _ _ _ _ _ _ hr hu hu6 hN hB;obtain⟨hP,hX,hT,hst⟩:=hB;and_intros)
theorem jO:Cqx P w K mg base 29 "condition_of" 1 bQ:=by
 have:=kC S V;cases S;cases V
 exact okqx (g:=bO) ["words", "sign", "left", "right"] 1 (by assumption) (by intro _ _ _ _ _ _ _ hr hu hu6 hN hB;obtain⟨hP,hX,hT,hst⟩:=hB;and_intros)
theorem qR:Cqx P w K mg base 30 "form_of" 1 cG:=by
 have:=nA S V;have:=kC S V;have:=jO S V;cases S;cases V
 exact okqx (g:=eg) ["row", "words", "head", "many"] 1 (by assumption) (by intro _ _ _ _ _ _ _ hr hu hu6 hN hB;obtain⟨hP,hX,hT,hst⟩:=hB;and_intros;(have nd:((["word", ".0"]:List Str)++(["row", "words", "head", "many"]:List Str).map (hid ["word", ".0"])).Nodup:=by decide+kernel);exact mE rfl (ls:=["word", ".0"]) (.of (ae ke)) (by and_intros) (fun _ _ _ _=>(cE (i:=0) nd rfl (Or.inl rfl) (.inr rfl))) (eL 2 0 (by decide)) (fun _ _ _ _=>by and_intros) (fun _ _ _ _ _=>by and_intros) hT hst)
theorem j1:Cqx P w K mg base 64 "boxes_named" 1 aO:=by
 have:=jN S V 62;cases S;cases V
 exact okqx (g:=av) ["form"] 1 (by assumption) (by intro _ _ _ _ _ _ _ hr hu hu6 hN hB;obtain⟨hP,hX,hT,hst⟩:=hB;and_intros)
theorem oM:Cqx P w K mg base 1 "place_of" 2 bY:=by
 cases S;cases V
 exact okqx (g:=dm) ["name", "block_names"] 2 (by assumption) (by intro _ _ _ _ _ _ _ hr hu hu6 hN hB;obtain⟨hP,hX,hT,hst⟩:=hB;and_intros)
theorem iS:Cqx P w K mg base 2 "end_by_places" 2 aG:=by
 have:=oM S V;cases S;cases V
 exact okqx (g:=ax) ["end", "block_names"] 2 (by assumption) (by intro _ _ _ _ _ _ _ hr hu hu6 hN hB;obtain⟨hP,hX,hT,hst⟩:=hB;and_intros;(have nd:((["name", ".0"]:List Str)++(["end", "block_names"]:List Str).map (hid ["name", ".0"])).Nodup:=by decide+kernel);exact mE rfl (ls:=["name", ".0"]) (.of (ae fZ)) (by and_intros) (fun _ _ _ _=>(cE (i:=0) nd rfl (Or.inl rfl) (.inr rfl))) (eL 2 0 (by decide)) (fun _ _ _ _=>by and_intros) (fun _ _ _ _ _=>by and_intros) hT hst)
theorem hJ:Cqmx P w K mg base 1 c_Reading "__init__" 1 bZ:=by
 cases S;cases V
 exact okqmx (g:=bX) ["self"] 1 (by assumption) (by intro _ _ _ _ _ _ _ hr hu hu6 hN hB;obtain⟨hP,hX,hT,hst⟩:=hB;and_intros)
theorem eI:Cqmx P w K mg base 1 c_Reading "in_block" 1 a9:=by
 cases S;cases V
 exact okqmx (g:=bW) ["self"] 1 (by assumption) (by intro _ _ _ _ _ _ _ hr hu hu6 hN hB;obtain⟨hP,hX,hT,hst⟩:=hB;and_intros)
theorem dR:Cqmx P w K mg base 1 c_Reading "box_names" 1 bo:=by
 cases S;cases V
 exact okqmx (g:=bM) ["self"] 1 (by assumption) (by intro _ _ _ _ _ _ _ hr hu hu6 hN hB;obtain⟨hP,hX,hT,hst⟩:=hB;and_intros;(have nd:((["name", "first", ".0"]:List Str)++(["self"]:List Str).map (hid ["name", "first", ".0"])).Nodup:=by decide+kernel);exact ig rfl (ls:=["name", "first", ".0"]) (.of (ae dQ)) (by and_intros) (fun _ _ _ _=>(ol rfl (jo (cE (i:=0) nd rfl (Or.inl rfl) (.inr rfl)) (jo (cE (i:=1) nd rfl (Or.inl rfl) (.inr rfl)) o4)))) (qY 3 [0,1] (by decide)) (fun _ _ _ _=>by and_intros) (fun _ _ _ _=>by and_intros) trivial)
theorem gj:Cqmx P w K mg base 2 c_Reading "check_place" 2 af:=by
 have:=eI S V;cases S;cases V
 exact okqmx (g:=aj) ["self", "head"] 2 (by assumption) (by intro _ _ _ _ _ _ _ hr hu hu6 hN hB;obtain⟨hP,hX,hT,hst⟩:=hB;and_intros)
theorem gh:Cqmx P w K mg base 2 c_Reading "check_twice" 2 ah:=by
 have:=dR S V;cases S;cases V
 exact okqmx (g:=au) ["self", "form"] 2 (by assumption) (by intro _ _ _ _ _ _ _ hr hu hu6 hN hB;obtain⟨hP,hX,hT,hst⟩:=hB;and_intros)
theorem gF:Cqmx P w K mg base 1 c_Reading "check_room" 2 ag:=by
 cases S;cases V
 exact okqmx (g:=am) ["self", "head"] 2 (by assumption) (by intro _ _ _ _ _ _ _ hr hu hu6 hN hB;obtain⟨hP,hX,hT,hst⟩:=hB;and_intros)
theorem gk:Cqmx P w K mg base 65 c_Reading "check_boxes" 2 aE:=by
 have:=dR S V;have:=j1 S V;cases S;cases V
 exact okqmx (g:=aV) ["self", "form", "known", "name"] 2 (by assumption) (by intro _ _ _ _ _ _ _ hr hu hu6 hN hB;obtain⟨hP,hX,hT,hst⟩:=hB;and_intros)
theorem g9:Cqmx P w K mg base 1 c_Reading "put_down" 2 az:=by
 cases S;cases V
 exact okqmx (g:=aD) ["self", "form"] 2 (by assumption) (by intro _ _ _ _ _ _ _ hr hu hu6 hN hB;obtain⟨hP,hX,hT,hst⟩:=hB;and_intros)
theorem jP:Cqmx P w K mg base 66 c_Reading "take" 2 br:=by
 have:=gj S V;have:=gh S V;have:=gF S V;have:=gk S V;have:=g9 S V;cases S;cases V
 exact okqmx (g:=bP) ["self", "form"] 2 (by assumption) (by intro _ _ _ _ _ _ _ hr hu hu6 hN hB;obtain⟨hP,hX,hT,hst⟩:=hB;and_intros)
theorem fV:Cqmx P w K mg base 3 c_Reading "told_program" 1 aR:=by
 have:=eI S V;have:=iS S V;cases S;cases V
 exact okqmx (g:=aQ) ["self", "blocks", "name", "statements", "end"] 1 (by assumption) (by intro _ _ _ _ _ _ _ hr hu hu6 hN hB;obtain⟨hP,hX,hT,hst⟩:=hB;and_intros)
theorem yK:Cqx P w K mg base 67 "read" 1 eG:=by
 have:=jP S V;have:=qR S V;have:=fV S V;have:=hJ S V;cases S;cases V
 exact okqx (g:=gC) ["text", "rows", "reading", "row"] 1 (by assumption) (by intro _ _ _ _ _ _ _ hr hu hu6 hN hB;obtain⟨hP,hX,hT,hst⟩:=hB;and_intros)
theorem jZ:Cq P w K mg base 1 "_law_cell_at" 2 cL:=by
 cases S;cases V
 exact okq (g:=dz) ["script", "k"] 2 (by assumption) (by ac_rfl)
theorem fU:Cq P w K mg base 1 "_law_stir" 2 ao:=by
 cases S;cases V
 exact okq (g:=fL) ["cell", "k", "number"] 2 (by assumption) (by ac_rfl)
theorem qQ:Cq P w K mg base 2 "_law_bad" 1 fg:=by
 have:=fU S V;cases S;cases V
 exact okq (g:=gL) ["cell", "some", "barred", "word"] 1 (by assumption) (by ac_rfl)
theorem j0:Cq P w K mg base 2 "_law_any_row" 1 cM:=by
 have:=fU S V;cases S;cases V
 exact okq (g:=dA) ["cell", "number", "far", "one", "other", "menu", "goals", "kind", "text", "sides", "some", "words"] 1 (by assumption) (by ac_rfl;(have nd:((["k", ".0"]:List Str)++(["cell", "number", "far", "one", "other", "menu", "goals", "kind", "text", "sides", "some", "words"]:List Str).map (hid ["k", ".0"])).Nodup:=by decide+kernel);exact sA (i:=6) hN rfl rfl rfl (ls:=["k", ".0"]) (.of (ae gS)) (by and_intros) (fun _ _ _ _=>(cE (i:=0) nd rfl (Or.inl rfl) (.inr rfl))) (eL 2 0 (by decide)) (fun _ _ _ _=>by and_intros) (fun _ _ _ _=>by and_intros) trivial)
theorem qP:Cq P w K mg base 1 "_law_due" 2 cF:=by
 cases S;cases V
 exact okq (g:=cS) ["row", "state", "text", "word", "name", "names", "goals", "boxes", "blocks", "inner", "many"] 2 (by assumption) (by ac_rfl;(have nd:((["one", ".0"]:List Str)++(["row", "state", "text", "word", "name", "names", "goals", "boxes", "blocks", "inner", "many"]:List Str).map (hid ["one", ".0"])).Nodup:=by decide+kernel);exact ig rfl (ls:=["one", ".0"]) (.of (ae kd)) (by and_intros) (fun _ _ _ _=>(cE (i:=0) nd rfl (Or.inl rfl) (.inr rfl))) (eL 2 0 (by decide)) (fun _ _ _ _=>by and_intros) (fun _ _ _ _=>by and_intros) trivial)
theorem lL:Cq P w K mg base 1 "_law_behind" 2 dZ:=by
 cases S;cases V
 exact okq (g:=dY) ["row", "state", "boxes", "blocks", "inner", "many"] 2 (by assumption) (by ac_rfl)
theorem lK:Cq P w K mg base 2 "_law_judged" 1 db:=by
 have:=qP S V;have:=lL S V;cases S;cases V
 exact okq (g:=dX) ["rows", "state", "asked", "row", "due"] 1 (by assumption) (by ac_rfl;(have nd:((["goal", ".0"]:List Str)++(["rows", "state", "asked", "row", "due"]:List Str).map (hid ["goal", ".0"])).Nodup:=by decide+kernel);exact ig rfl (ls:=["goal", ".0"]) (.of (ae hV)) (by and_intros) (fun _ _ _ _=>(cE (i:=0) nd rfl (Or.inl rfl) (.inr rfl))) (eL 2 0 (by decide)) (fun _ _ _ _=>by and_intros) (fun _ _ _ _=>by and_intros) trivial)
theorem jY:Cq P w K mg base 68 "_law_refused" 1 bq:=by
 obtain⟨c_FallError,m_FallError,EF⟩:=S.e_FallError;obtain⟨_,_,_,C_read⟩:=yK S V;obtain⟨_,n_Full,m_Full⟩:=S.k_Full;obtain⟨_,n_NoBlock,m_NoBlock⟩:=S.k_NoBlock;obtain⟨_,n_NoBox,m_NoBox⟩:=S.k_NoBox;obtain⟨_,n_NoForm,m_NoForm⟩:=S.k_NoForm;obtain⟨_,n_NoOrder,m_NoOrder⟩:=S.k_NoOrder;obtain⟨_,n_NoPlace,m_NoPlace⟩:=S.k_NoPlace;obtain⟨_,n_NoRow,m_NoRow⟩:=S.k_NoRow;obtain⟨_,n_NoWay,m_NoWay⟩:=S.k_NoWay;obtain⟨_,n_NoneYet,m_NoneYet⟩:=S.k_NoneYet;obtain⟨_,n_Open,m_Open⟩:=S.k_Open;obtain⟨_,n_TooLong,m_TooLong⟩:=S.k_TooLong;obtain⟨_,n_Twice,m_Twice⟩:=S.k_Twice;have y_ValueError:=S.y_ValueError;have y_isinstance:=S.y_isinstance
 exact okq (g:=b9) ["text", "told", "e"] 1 S.D_law_refused (by intro _ _ _ _ _ _ _ hr hu hu6 hN;exact (eW (jz (i:=1) hN rfl (Or.inl rfl) (g6 (jA bN)))
  (eW (xV (i:=2) (raised:=["TooLong", "NoRow", "NoPlace", "Twice", "Full", "NoBox", "Open", "NoBlock"]) ⟨rfl,rfl,rfl⟩ EF C_read (hr.mono (by omega)) m_FallError hN rfl rfl (fun _ _=>(ay (bU 0) bN bg)) (fun _=>(eW (jz (i:=1) hN rfl (Or.inl rfl) (g6 (jA (ay (dk (raised:=["TooLong", "NoRow", "NoPlace", "Twice", "Full", "NoBox", "Open", "NoBlock"]) EF y_isinstance (ay (bU 2) (ay (dP n_TooLong m_TooLong) bN bg) bg) (he:=bg) (hpl:=(cb bg cZ))) (ay (dk (raised:=["TooLong", "NoRow", "NoPlace", "Twice", "Full", "NoBox", "Open", "NoBlock"]) EF y_isinstance (ay (bU 2) (ay (dP n_NoRow m_NoRow) bN bg) bg) (he:=bg) (hpl:=(cb bg cZ))) (ay (dk (raised:=["TooLong", "NoRow", "NoPlace", "Twice", "Full", "NoBox", "Open", "NoBlock"]) EF y_isinstance (ay (bU 2) (ay (dP n_NoPlace m_NoPlace) bN bg) bg) (he:=bg) (hpl:=(cb bg cZ))) (ay (dk (raised:=["TooLong", "NoRow", "NoPlace", "Twice", "Full", "NoBox", "Open", "NoBlock"]) EF y_isinstance (ay (bU 2) (ay (dP n_Twice m_Twice) bN bg) bg) (he:=bg) (hpl:=(cb bg cZ))) bN iP) iP) iP) iP))))
  (eW (jz (i:=1) hN rfl (Or.inl rfl) (g6 (ox (bU 1) (mH (jA (ay (dk (raised:=["TooLong", "NoRow", "NoPlace", "Twice", "Full", "NoBox", "Open", "NoBlock"]) EF y_isinstance (ay (bU 2) (ay (dP n_Full m_Full) bN bg) bg) (he:=bg) (hpl:=(cb bg cZ))) (ay (dk (raised:=["TooLong", "NoRow", "NoPlace", "Twice", "Full", "NoBox", "Open", "NoBlock"]) EF y_isinstance (ay (bU 2) (ay (dP n_NoBox m_NoBox) bN bg) bg) (he:=bg) (hpl:=(cb bg cZ))) (ay (dk (raised:=["TooLong", "NoRow", "NoPlace", "Twice", "Full", "NoBox", "Open", "NoBlock"]) EF y_isinstance (ay (bU 2) (ay (dP n_Open m_Open) bN bg) bg) (he:=bg) (hpl:=(cb bg cZ))) (ay (dk (raised:=["TooLong", "NoRow", "NoPlace", "Twice", "Full", "NoBox", "Open", "NoBlock"]) EF y_isinstance (ay (bU 2) (ay (dP n_NoBlock m_NoBlock) bN bg) bg) (he:=bg) (hpl:=(cb bg cZ))) bN iP) iP) iP) iP))))))
  (eW (jz (i:=1) hN rfl (Or.inl rfl) (g6 (ox (bU 1) (mH (jA (ay (dk (raised:=["TooLong", "NoRow", "NoPlace", "Twice", "Full", "NoBox", "Open", "NoBlock"]) EF y_isinstance (ay (bU 2) (ay (dP n_NoForm m_NoForm) bN bg) bg) (he:=bg) (hpl:=(cb bg cZ))) (ay (dk (raised:=["TooLong", "NoRow", "NoPlace", "Twice", "Full", "NoBox", "Open", "NoBlock"]) EF y_isinstance (ay (bU 2) (ay (dP n_NoneYet m_NoneYet) bN bg) bg) (he:=bg) (hpl:=(cb bg cZ))) (ay (dk (raised:=["TooLong", "NoRow", "NoPlace", "Twice", "Full", "NoBox", "Open", "NoBlock"]) EF y_isinstance (ay (bU 2) (ay (dP n_NoOrder m_NoOrder) bN bg) bg) (he:=bg) (hpl:=(cb bg cZ))) (ay (dk (raised:=["TooLong", "NoRow", "NoPlace", "Twice", "Full", "NoBox", "Open", "NoBlock"]) EF y_isinstance (ay (bU 2) (ay (dP n_NoWay m_NoWay) bN bg) bg) (he:=bg) (hpl:=(cb bg cZ))) bN iP) iP) iP) iP))))))
  (li (pc (km (bU 1) (ay (sF (dk (raised:=["TooLong", "NoRow", "NoPlace", "Twice", "Full", "NoBox", "Open", "NoBlock"]) EF y_isinstance (ay (bU 2) (ay (u6 y_ValueError) bN bg) bg) (he:=bg) (hpl:=(cb bg cZ)))) bN zX)))))))))
  (li (sB (lm (bU 1)))))))
theorem oN:Cq P w K mg base 2 "_law_full" 1 eH:=by
 have:=fU S V;cases S;cases V
 exact okq (g:=fO) ["head", "rows", "name", "more", "at"] 1 (by assumption) (by ac_rfl)
end
theorem all_mk {l:PySem.W.OpenLaw}{w:World}{K:PySem.W.Frag}{h:Heap}{mg:Str->Option Value}{fa CS CN c_Reading:Addr}(X:K.In h)(G:h.Ns mainGlobals mg)(hfa:mg "law"=some (.ref fa))(S:Fa K mg CS CN c_Reading):
  ∃fd:FuncData,(∀ (s:Shared) (v:Value),BindsTo s fd ⟨[v],[]⟩ [("script",v)])/\ ∀base:Heap,K.In base->base.Ns mainGlobals mg->FnOk l.prog w K mg base CX0 69 fa fd ["script"] (spLaw K):=by
 obtain⟨_,d,FL,ML⟩:=S.D_law
 cases hfa.symm.trans ML
 have T:Txt K mg CS CN:=⟨S.wc,S.nW,S.nP,mg_of X G S.aS,mg_of X G S.aN,S.xN,S.y_len,S.y_all,S.y_int,S.aL,S.aF,S.aW,S.n0,S.n1,S.n2,S.n3⟩
 obtain⟨_,_,F_Sinit,M_Sinit⟩:=S.W_Sinit
 have B_Sinit:=F_Sinit.binds (ps:=["self", "word"]) fun _ _ _ _ _ _ us hl=>by obtain⟨_,_,rfl⟩:=ln2 hl;rfl
 obtain⟨_,_,F_Sis_done,M_Sis_done⟩:=S.W_Sis_done
 have B_Sis_done:=F_Sis_done.binds (ps:=["self"]) fun _ _ _ _ _ _ us hl=>by obtain⟨_,rfl⟩:=ln1 hl;rfl
 obtain⟨_,_,F_Sstands_one_of,M_Sstands_one_of⟩:=S.W_Sstands_one_of
 have B_Sstands_one_of:=F_Sstands_one_of.binds (ps:=["self", "wanted"]) fun _ _ _ _ _ _ us hl=>by obtain⟨_,_,rfl⟩:=ln2 hl;rfl
 obtain⟨_,_,F_Stake_sign,M_Stake_sign⟩:=S.W_Stake_sign
 have B_Stake_sign:=F_Stake_sign.binds (ps:=["self"]) fun _ _ _ _ _ _ us hl=>by obtain⟨_,rfl⟩:=ln1 hl;rfl
 obtain⟨_,_,F_Srun_of,M_Srun_of⟩:=S.W_Srun_of
 have B_Srun_of:=F_Srun_of.binds (ps:=["self", "wanted"]) fun _ _ _ _ _ _ us hl=>by obtain⟨_,_,rfl⟩:=ln2 hl;rfl
 obtain⟨_,_,F_is_name,M_is_name⟩:=S.W_is_name
 have B_is_name:=F_is_name.binds (ps:=["word"]) fun _ _ _ _ _ _ us hl=>by obtain⟨_,rfl⟩:=ln1 hl;rfl
 obtain⟨_,_,F_is_number,M_is_number⟩:=S.W_is_number
 have B_is_number:=F_is_number.binds (ps:=["word"]) fun _ _ _ _ _ _ us hl=>by obtain⟨_,rfl⟩:=ln1 hl;rfl
 obtain⟨_,_,F_expression,M_expression⟩:=S.W_expression
 have B_expression:=F_expression.binds (ps:=["word"]) fun _ _ _ _ _ _ us hl=>by obtain⟨_,rfl⟩:=ln1 hl;rfl
 obtain⟨_,_,F_read_terms,M_read_terms⟩:=S.W_read_terms
 have B_read_terms:=F_read_terms.binds (ps:=["signs", "depth"]) fun _ _ _ _ _ _ us hl=>by obtain⟨_,_,rfl⟩:=ln2 hl;rfl
 obtain⟨_,_,F_read_factors,M_read_factors⟩:=S.W_read_factors
 have B_read_factors:=F_read_factors.binds (ps:=["signs", "depth"]) fun _ _ _ _ _ _ us hl=>by obtain⟨_,_,rfl⟩:=ln2 hl;rfl
 obtain⟨_,_,F_read_factor,M_read_factor⟩:=S.W_read_factor
 have B_read_factor:=F_read_factor.binds (ps:=["signs", "depth"]) fun _ _ _ _ _ _ us hl=>by obtain⟨_,_,rfl⟩:=ln2 hl;rfl
 obtain⟨_,_,F_read_bracket,M_read_bracket⟩:=S.W_read_bracket
 have B_read_bracket:=F_read_bracket.binds (ps:=["signs", "depth"]) fun _ _ _ _ _ _ us hl=>by obtain⟨_,_,rfl⟩:=ln2 hl;rfl
 obtain⟨oc,od,kV,doc,pm,an,cdv,ct,osl,ed,lk,hcd⟩:=FL.ex
 refine⟨d,fun s v=>by rw[ed];exact .of_eq rfl,fun base _ _=>?_⟩
 have MD:CM l.prog w K mg base CX0 1 CS "is_done" _ _ ["self"] (kK CS):=⟨uP F_Sis_done T,B_Sis_done,M_Sis_done⟩
 have MS:CM l.prog w K mg base CX0 2 CS "stands_one_of" _ _ ["self", "wanted"] (dC CS):=⟨qo F_Sstands_one_of T MD,B_Sstands_one_of,M_Sstands_one_of⟩
 have MT:CM l.prog w K mg base CX0 1 CS "take_sign" _ _ ["self"] (iB CS):=⟨uL F_Stake_sign T,B_Stake_sign,M_Stake_sign⟩
 have MR:CM l.prog w K mg base CX0 3 CS "run_of" _ _ ["self", "wanted"] (spRun CS):=⟨xH F_Srun_of T MS,B_Srun_of,M_Srun_of⟩
 have CNm:CF l.prog w K mg base CX0 1 "is_name" _ _ ["word"] jc:=⟨uM F_is_name T,B_is_name,F_is_name.kp,M_is_name⟩
 have CNu:CF l.prog w K mg base CX0 1 "is_number" _ _ ["word"] spNum:=⟨xI F_is_number T,B_is_number,F_is_number.kp,M_is_number⟩
 have RT:=oW T F_read_terms B_read_terms M_read_terms F_read_factors B_read_factors M_read_factors F_read_factor B_read_factor M_read_factor F_read_bracket B_read_bracket M_read_bracket MS MT MR CNm CNu 5 (by decide)
 have CE:CF l.prog w K mg base (CXx l.prog w) 28 "expression" _ _ ["word"] (kJ CN):=⟨uO (by decide) F_expression T RT ⟨S.wmk,M_Sinit.at_,M_Sinit.fn,S.wkc⟩ (sd F_Sinit T) B_Sinit MD,B_expression,F_expression.kp,M_expression⟩
 have V:Wf l.prog w K mg base:=⟨⟨_,_,_,kB CNm⟩,⟨_,_,_,nu CNu⟩,⟨_,_,_,vO CE⟩,oJ ⟨_,_,_,kB CNm⟩ oH,oJ ⟨_,_,_,nu CNu⟩ qL,⟨_,_,_,vM (mg_of X G S.aN) CE⟩⟩
 clear T MD MS MT MR CNm CNu RT CE
 have:=fU S V;have:=qQ S V;have:=j0 S V;have:=jZ S V;have:=oN S V;have:=lK S V;have:=jY S V;cases S;cases V
 exact law_ok (okf (g:=pB) ["script", "rows", "cell", "head", "many", "due", "text"] 1 FL ML (by intro _ _ _ _ _ _ hr hu hu6 hN;and_intros;(have nd:((["row", ".0"]:List Str)++(["script", "rows", "cell", "head", "many", "due", "text"]:List Str).map (hid ["row", ".0"])).Nodup:=by decide+kernel);exact ig rfl (ls:=["row", ".0"]) (.of (ae rB)) (by and_intros) (fun _ _ _ _=>(cE (i:=0) nd rfl (Or.inl rfl) (.inr rfl))) (eL 2 0 (by decide)) (fun _ _ _ _=>by and_intros) (fun _ _ _ _=>by and_intros) trivial;(have nd:((["k", ".0"]:List Str)++(["script", "rows", "cell", "head", "many", "due", "text"]:List Str).map (hid ["k", ".0"])).Nodup:=by decide+kernel);exact ig rfl (ls:=["k", ".0"]) (.of (ae rB)) (by and_intros) (fun _ _ _ _=>(cE (i:=0) nd rfl (Or.inl rfl) (.inr rfl))) (eL 2 0 (by decide)) (fun _ _ _ _=>by and_intros) (fun _ _ _ _=>by and_intros) trivial))
theorem walk {l:PySem.W.OpenLaw}{q:Program}{loose:List Str}{XP:(Str->Option Value)->Heap->Prop}{YP:World->Heap->Prop}{d:DefRec}{K:Params->PySem.W.Frag}(hn:l.most=some 63)(hdf:d.params.defaults=[])
  (hY: ∀ (w:World) (h:Heap),YP w h->(K w.params).In h)
  (F:∀ (w:World) (mg:Str->Option Value) (fa:Addr) (h:Heap),(K w.params).In h->h.Ns mainGlobals mg->mg d.name=some (.ref fa)->
    ∃fd:FuncData,(∀ (s:Shared) (u:Value),BindsTo s fd ⟨[u],[]⟩ [("script",u)])/\ ∀base:Heap,(K w.params).In base->base.Ns mainGlobals mg->FnOk l.prog w (K w.params) mg base CX0 69 fa fd ["script"] (spLaw (K w.params))):
  PySem.W.WalkO q loose XP YP l.row.toRowW d [] (fun f vs=>PySem.call f vs):=
 L2.walk_of (n:=63) (k:=69) (x:= "script") (CX:=fun _=>CX0) (sp:=fun w=>spLaw (K w.params)) hn (by decide) hdf ⟨rfl,by decide,by decide⟩ hY F (fun _ _ a ns hl _ hS=>⟨a,ns,rfl,hS,hl,fun _=>rfl⟩) fun _ _ _ _ _ z=>z
theorem walk_x {q:Program}{loose:List Str}{XP:(Str->Option Value)->Heap->Prop}{K:Params->PySem.W.Frag}{as:List Addr}{n t:Nat}{r:PySem.W.RowW}{d:DefRec}{kwd:List (Str×Expr)}{run:Value->List Value->Sem Value}(e:∀P,as=(K P).map (·.1))
  (W:PySem.W.WalkO q loose XP (fun w h=>(K w.params).In h) r d kwd run):PySem.W.WalkX q loose XP (PySem.W.X.obsZ as) (PySem.W.X.valZ K n t) r d kwd run:=
 fun w s₀ s₁ mg mb G y a o pm cd doc dV kV ho hd hcd hD hmg hg args vals bs L hpre hlay hrd hwl hlo=>
  W w s₀ s₁ mg mb G (PySem.W.InK.keeps w _ _ (PySem.W.X.z_facts e y).2.1 L.keeps) a o pm cd doc dV kV ho hd hcd hD hmg hg args vals bs hpre hlay hrd hwl hlo
end Q
def PySem.W.Fast.tw6716849453058041392:=0
def PySem.W.Fast.tw4801218879018344123:=0
def PySem.W.Fast.tw1889692202869499826:=0
def PySem.W.Fast.tw11563369580735979125:=0
def PySem.W.Fast.tw10274629452495498326:=0
def PySem.W.Fast.tw1553652565123945053:=0
def PySem.W.Fast.tw9572486709505931287:=0
def PySem.W.Fast.tw4383019426993434044:=0
def PySem.W.Fast.tw3935640705207108838:=0
def PySem.W.Fast.tw13108085998983014562:=0
def PySem.W.Fast.tw10404138114608908717:=0
def PySem.W.Fast.tw5444349065425360285:=0
def PySem.W.Fast.tw9055927955828678792:=0
def PySem.W.Fast.tw5268231658733636850:=0
def PySem.W.Fast.tw17966629050566301045:=0
def PySem.W.Fast.tw9457377865737453582:=0
def PySem.W.Fast.tw714581892096768776:=0
def PySem.W.Fast.tw10770880778093905112:=0
def PySem.W.Fast.tw10112130653415442961:=0
def PySem.W.Fast.tw5530715549447307566:=0
def PySem.W.Fast.tw12542227638812176429:=0
def PySem.W.Fast.tw2027802717382853235:=0
def PySem.W.Fast.tw7761921170416953363:=0
def PySem.W.Fast.tw12312274567132867375:=0
def PySem.W.Fast.tw4061656137125677064:=0
def PySem.W.Fast.tw10827295460393848539:=0
def PySem.W.Fast.tw12627399114659079897:=0
def PySem.W.Fast.tw13873229009682019370:=0
def PySem.W.Fast.tw7337082682886989550:=0
def PySem.W.Fast.tw17778522863001840956:=0
def PySem.W.Fast.tw6092835392432571045:=0
def PySem.W.Fast.tw11957083020229136425:=0
def PySem.W.Fast.tw7495575004258610612:=0
def PySem.W.Fast.tw7021928932036082294:=0
def PySem.W.Fast.tw3036005374258677753:=0
def PySem.W.Fast.tw2038151591278319812:=0
def PySem.W.Fast.tw13650593933077851194:=0
def PySem.W.Fast.tw2981123700193955248:=0
def PySem.W.Fast.tw7604416571625001202:=0
def PySem.W.Fast.tw2431931060775804158:=0
def PySem.W.Fast.tw5424150009049500193:=0
def PySem.W.Fast.tw3595366138302590181:=0
def PySem.W.Fast.tw12447311417204575091:=0
def PySem.W.Fast.tw17116477085453267274:=0
def PySem.W.Fast.tw15640428527080901452:=0
def PySem.W.Fast.tw8839906475893671184:=0
def PySem.W.Fast.tw12775351373142170650:=0
def PySem.W.Fast.tw11849355217074799448:=0
def PySem.W.Fast.tw16622300967486265212:=0
def PySem.W.Fast.tw12604991393100149970:=0
def PySem.W.Fast.tw4056241829180214532:=0
def PySem.W.Fast.tw2829784419981111269:=0
def PySem.W.Fast.tw16588003397996248614:=0
def PySem.W.Fast.tw8904057287466907612:=0
def PySem.W.Fast.tw7447571266448845597:=0
def PySem.W.Fast.tw9240998360047921917:=0
def PySem.W.Fast.tw12399888866521530605:=0
def PySem.W.Fast.tw9499393372701508117:=0
def PySem.W.Fast.tw8837668853704557030:=0
def PySem.W.Fast.tw17285188716269142503:=0
def PySem.W.Fast.tw10851704005750557777:=0
def PySem.W.Fast.tw8078475545751330378:=0
def PySem.W.Fast.tw5137913922940255706:=0
def PySem.W.Fast.tw16660319337804138551:=0
def PySem.W.Fast.tw5011479702629912491:=0
def PySem.W.Fast.tw2148760292644631077:=0
def PySem.W.Fast.tw16969129307115698716:=0
def PySem.W.Fast.tw12116579177309089295:=0
def PySem.W.Fast.tw14610539337141706562:=0
def PySem.W.Fast.tw4430899188319577255:=0
def PySem.W.Fast.tw1316982679141301643:=0
def PySem.W.Fast.tw5958881275008314841:=0
def PySem.W.Fast.tw16088281332725931079:=0
def PySem.W.Fast.tw17190463798541079411:=0
def PySem.W.Fast.tw12844670565384989964:=0
def PySem.W.Fast.tw7602239979920000726:=0
def PySem.W.Fast.tw16586090297643990260:=0
def PySem.W.Fast.tw3448723741985333454:=0
def PySem.W.Fast.tw5742782718876588643:=0
def PySem.W.Fast.tw15966258077598256993:=0
def PySem.W.Fast.tw13253143648777538798:=0
def PySem.W.Fast.tw11732684635210887354:=0
def PySem.W.Fast.tw13262590630854952739:=0
def PySem.W.Fast.tw3902355442966874260:=0
def PySem.W.Fast.tw16777393248377307671:=0
def PySem.W.Fast.tw3358847139680356620:=0
def PySem.W.Fast.tw5281343482010219593:=0
def PySem.W.Fast.tw14985859297106373728:=0
def PySem.W.Fast.tw1882486307679683544:=0
def PySem.W.Fast.tw7218145920884210660:=0
def PySem.W.Fast.tw7246239659950831192:=0
def PySem.W.Fast.tw15605388436472184042:=0
def PySem.W.Fast.tw17745148711357145191:=0
def PySem.W.Fast.tw5034491964823251017:=0
def PySem.W.Fast.tw5738859992839371072:=0
def PySem.W.Fast.tw9215624819981432027:=0
def PySem.W.Fast.tw17588560251774564019:=0
def PySem.W.Fast.tw12892823750917497566:=0
def PySem.W.Fast.tw16217202206590598561:=0
def PySem.W.Fast.tw27384162425888937:=0
def PySem.W.Fast.tw15373889122094944351:=0
def PySem.W.Fast.tw11062011504023949998:=0
def PySem.W.Fast.tw13064510781819408084:=0
def PySem.W.Fast.tw11533248165457180065:=0
def PySem.W.Fast.tw12152104815591186143:=0
def PySem.W.Fast.tw1210419754776673782:=0
def PySem.W.Fast.tw4512570909445361293:=0
def PySem.W.Fast.tw15993822229786343286:=0
def PySem.W.Fast.tw3465942615993038190:=0
def PySem.W.Fast.tw11172349227334970507:=0
def PySem.W.Fast.tw5659867023788055027:=0
def PySem.W.Fast.tw5065969303068950172:=0
def PySem.W.Fast.tw14230781857686900674:=0
def PySem.W.Fast.tw1252136686218109508:=0
def PySem.W.Fast.tw1795381666480455038:=0
def PySem.W.Fast.tw7376761257390654520:=0
def PySem.W.Fast.tw9132620021659010362:=0
def PySem.W.Fast.tw7608651385379429595:=0
def PySem.W.Fast.tw17850654087219241188:=0
def PySem.W.Fast.tw2437578112906009574:=0
def PySem.W.Fast.tw14457552190211547375:=0
def PySem.W.Fast.tw6401612097928103682:=0
def PySem.W.Fast.tw17451262936335833717:=0
def PySem.W.Fast.tw848867185417956132:=0
def PySem.W.Fast.tw7090239082763645174:=0
def PySem.W.Fast.tw1158919209828253480:=0
def PySem.W.Fast.tw16948612165287910978:=0
def PySem.W.Fast.tw716149180185427164:=0
def PySem.W.Fast.tw14965523747092153684:=0
def PySem.W.Fast.tw10842261619737122264:=0
def PySem.W.Fast.tw13124442666873008056:=0
def PySem.W.Fast.tw12583270696726709306:=0
def PySem.W.Fast.tw18168884737183185038:=0
def PySem.W.Fast.tw8193092007456970951:=0
def PySem.W.Fast.tw12702876136200799397:=0
def PySem.W.Fast.tw7856297785188863877:=0
def PySem.W.Fast.tw9579045448821485737:=0
def PySem.W.Fast.tw8106621979720417290:=0
def PySem.W.Fast.tw5649554369287500964:=0
def PySem.W.Fast.tw18318298799989872821:=0
def PySem.W.Fast.tw11228334551734978180:=0
def PySem.W.Fast.tw6844586569125177080:=0
def PySem.W.Fast.tw595442418372081829:=0
def PySem.W.Fast.tw4377618087044135013:=0
def PySem.W.Fast.tw430406349226025243:=0
def PySem.W.Fast.tw4158115048202312034:=0
def PySem.W.Fast.tw14664022425011882874:=0
def PySem.W.Fast.tw413350847342017517:=0
def PySem.W.Fast.tw18398639311448752751:=0
def PySem.W.Fast.tw5163679780226109773:=0
def PySem.W.Fast.tw11343226725683775689:=0
def PySem.W.Fast.tw1582253244330839371:=0
def PySem.W.Fast.tw16125017774383167080:=0
def PySem.W.Fast.tw7651956192597774825:=0
def PySem.W.Fast.tw17030066179663688212:=0
def PySem.W.Fast.tw17733609642202468258:=0
def PySem.W.Fast.tw10447644895184428878:=0
def PySem.W.Fast.tw5525004631460069856:=0
def PySem.W.Fast.tw5212253646848260134:=0
def PySem.W.Fast.tw14707099891907063694:=0
def PySem.W.Fast.tw12055157667186146250:=0
def PySem.W.Fast.tw17645325649393302466:=0
def PySem.W.Fast.tw13544737113189019716:=0
def PySem.W.Fast.tw9283955402254310746:=0
def PySem.W.Fast.tw8417882261682904400:=0
def PySem.W.Fast.tw11948462341889887455:=0
def PySem.W.Fast.tw6560249225712785018:=0
def PySem.W.Fast.tw7981710345167915644:=0
def PySem.W.Fast.tw14821244851566651856:=0
def PySem.W.Fast.tw1647056007621627599:=0
def PySem.W.Fast.tw9018542903592357845:=0
def PySem.W.Fast.tw9052675086670710919:=0
def PySem.W.Fast.tw10979228740902288935:=0
def PySem.W.Fast.tw7879963662143800134:=0
def PySem.W.Fast.tw8920476764703426385:=0
def PySem.W.Fast.tw17313575383551198575:=0
def PySem.W.Fast.tw15137680718116805013:=0
def PySem.W.Fast.tw16707036430941199269:=0
def PySem.W.Fast.tw4488393337311305711:=0
def PySem.W.Fast.tw13364761107120639439:=0
def PySem.W.Fast.tw17884658453661539903:=0
def PySem.W.Fast.tw10810106192647886996:=0
def PySem.W.Fast.tw16767510921552576604:=0
def PySem.W.Fast.tw5237997691046648721:=0
def PySem.W.Fast.tw12140285244296829476:=0
def PySem.W.Fast.tw15800159927461210131:=0
def PySem.W.Fast.tw11707327079815103680:=0
def PySem.W.Fast.tw15376103836095289774:=0
def PySem.W.Fast.tw16888422004549270635:=0
def PySem.W.Fast.tw8943894943816610230:=0
def PySem.W.Fast.tw5341655255258725701:=0
def PySem.W.Fast.tw10431491320027441261:=0
def PySem.W.Fast.tw6882075109340637693:=0
def PySem.W.Fast.tw16768464834319934043:=0
def PySem.W.Fast.tw16827193104005373865:=0
def PySem.W.Fast.tw8298597007580393599:=0
def PySem.W.Fast.tw15963728873968144800:=0
def PySem.W.Fast.tw822642294023410994:=0
def PySem.W.Fast.tw13901751807323023711:=0
def PySem.W.Fast.tw14843135152710635054:=0
def PySem.W.Fast.tw1752346100134628362:=0
def PySem.W.Fast.tw7831825599362624040:=0
def PySem.W.Fast.tw4443600795718720327:=0
def PySem.W.Fast.tw11046185228150279292:=0
def PySem.W.Fast.tw3379004371999637366:=0
def PySem.W.Fast.tw4368658075792146182:=0
def PySem.W.Fast.tw16843518886892444754:=0
def PySem.W.Fast.tw14482996218900001895:=0
def PySem.W.Fast.tw7443858092674470606:=0
def PySem.W.Fast.tw9780212079277871820:=0
def PySem.W.Fast.tw10424578759676089341:=0
def PySem.W.Fast.tw3703222501024927398:=0
def PySem.W.Fast.tw17079158352271141943:=0
def PySem.W.Fast.tw3565436039932978489:=0
def PySem.W.Fast.tw3795090946743131800:=0
def PySem.W.Fast.tw8838852722448311063:=0
def PySem.W.Fast.tw16445973044004225635:=0
def PySem.W.Fast.tw13381654109104369438:=0
def PySem.W.Fast.tw12755537562526408934:=0
def PySem.W.Fast.tw5327575630469754320:=0
def PySem.W.Fast.tw5133441893135172877:=0
def PySem.W.Fast.tw517452433276590953:=0
def PySem.W.Fast.tw7767657354231099296:=0
def PySem.W.Fast.tw18259652384681950684:=0
def PySem.W.Fast.tw13772622005156801155:=0
def PySem.W.Fast.tw17552425822220425343:=0
def PySem.W.Fast.tw16236995994345062026:=0
def PySem.W.Fast.tw1977867257018518207:=0
def PySem.W.Fast.tw13422581158264824148:=0
def PySem.W.Fast.tw8526210139284938565:=0
def PySem.W.Fast.tw4151554570412806852:=0
def PySem.W.Fast.tw7309479446939556091:=0
def PySem.W.Fast.tw10870908292739546424:=0
def PySem.W.Fast.tw5990688114623475598:=0
def PySem.W.Fast.tw2104543285306577978:=0
def PySem.W.Fast.tw9549928005351183928:=0
def PySem.W.Fast.tw4900399117229384670:=0
def PySem.W.Fast.tw15238642743922559100:=0
def PySem.W.Fast.tw13317702004852749163:=0
def PySem.W.Fast.tw10640690877589443377:=0
def PySem.W.Fast.tw7149588294481328430:=0
def PySem.W.Fast.tw15321629387763451441:=0
def PySem.W.Fast.tw10714454309045017751:=0
def PySem.W.Fast.tw16425138578675271839:=0
def PySem.W.Fast.tw426149090409861902:=0
def PySem.W.Fast.tw10364710639877546996:=0
def PySem.W.Fast.tw2607696091437389507:=0
def PySem.W.Fast.tw14000455519966187698:=0
def PySem.W.Fast.tw9175267094675597894:=0
def PySem.W.Fast.tw11415403224765971875:=0
def PySem.W.Fast.tw6323044233529742595:=0
def PySem.W.Fast.tw3342503611396253462:=0
def PySem.W.Fast.tw6415568952607862165:=0
def PySem.W.Fast.tw17174847188033201918:=0
def PySem.W.Fast.tw17734329691443729423:=0
def PySem.W.Fast.tw8688792946371724977:=0
def PySem.W.Fast.tw8684248346582599032:=0
def PySem.W.Fast.tw9457666478212507474:=0
def PySem.W.Fast.tw14535668575911009111:=0
def PySem.W.Fast.tw4469112662981767555:=0
def PySem.W.Fast.tw4609178582167642899:=0
def PySem.W.Fast.tw17685486039969348676:=0
def PySem.W.Fast.tw3193650875316704761:=0
def PySem.W.Fast.tw12802023623040157035:=0
def PySem.W.Fast.tw3660003186860524239:=0
def PySem.W.Fast.tw14511063860910279253:=0
def PySem.W.Fast.tw5849770013841692764:=0
def PySem.W.Fast.tw15463157489341400772:=0
def PySem.W.Fast.tw1619019811377965198:=0
def PySem.W.Fast.tw15140888567964743909:=0
def PySem.W.Fast.tw3372285656499322518:=0
def PySem.W.Fast.tw12616501325057322171:=0
def PySem.W.Fast.tw8347752493783564141:=0
def PySem.W.Fast.tw4167652841542121124:=0
def PySem.W.Fast.tw11329374989026363351:=0
def PySem.W.Fast.tw10025313972464515505:=0
def PySem.W.Fast.tw5162044809637196757:=0
def PySem.W.Fast.tw18328403486006012551:=0
def PySem.W.Fast.tw16639472355793692090:=0
def PySem.W.Fast.tw4190237126201442425:=0
def PySem.W.Fast.tw163901065103793424:=0
def PySem.W.Fast.tw10126513360425084452:=0
def PySem.W.Fast.tw3770453048905244268:=0
def PySem.W.Fast.tw15702762193078361682:=0
def PySem.W.Fast.tw3746052269328088861:=0
def PySem.W.Fast.tw6879621722428849565:=0
def PySem.W.Fast.tw4086798957313098510:=0
def PySem.W.Fast.tw10447303346493290801:=0
def PySem.W.Fast.tw1552254791615451227:=0
def PySem.W.Fast.tw549946609153782439:=0
def PySem.W.Fast.tw2877230000748406980:=0
def PySem.W.Fast.tw2903730820423198643:=0
def PySem.W.Fast.tw17790787975944138122:=0
def PySem.W.Fast.tw16974093746327652544:=0
def PySem.W.Fast.tw13103614815668526476:=0
def PySem.W.Fast.tw13415219306908013145:=0
def PySem.W.Fast.tw7331713843500006345:=0
def PySem.W.Fast.tw2329525466190945036:=0
def PySem.W.Fast.tw9284557121202219083:=0
def PySem.W.Fast.tw5507153950381431586:=0
open PySem PySem.W PyProof.Rows
set_option maxRecDepth 100000 in
set_option maxHeartbeats 0 in
theorem PySem.Challenge.cw_blockfall_k09_faults_together_holds : PySem.Challenge.rw_blockfall_k09_faults_together.Holds := by
 w_on;o_law;z_head;(case hw=>w_witness2)
 k_fill
 refine Q.walk_x (fun _=>by kernel_rfl) (Q.walk (l:=PySem.Challenge.rw_blockfall_k09_faults_together) rfl rfl (fun w h Y=>Y) ?F)
 case F=>
  intro w mg fa h KX G hmg
  apply Q.all_mk KX G hmg
  constructor
  all_goals try first|(apply L2.dq KX G<;>k_is)|(apply L2.dqm<;>k_is)|(apply L2.gi KX G;k_is)|(apply L2.gs KX G;k_is)|(apply L2.gn KX G;k_is)|(apply L2.gx KX G<;>first|k_is|k_exc)|(apply L2.gcl KX G;k_is)|(apply L2.ge KX G;k_is;(repeat' (first|exact L2.fm_nil|refine L2.fm_cons ?_ ?_));all_goals (apply L2.exf KX G<;>first|k_is|kts_exm|kit_is|(show kitOne _ _ _=some false;kit_is)|(show kitOne _ _ _=some true;kit_is)|exact rfl|kernel_rfl|decide+kernel))|(apply L2.gt KX G<;>first|k_is|exact⟨rfl,rfl,by decide⟩)|(apply L2.Cls.mk<;>k_is)|(apply mg_of KX G;k_is)|k_is|k_exc|rfl|kernel_rfl|decide+kernel
#print axioms PySem.Challenge.cw_blockfall_k09_faults_together_holds
