import PyProof.Rows.All
import Wide.All
import OpenK.AllK
import Wide.FinOn
import Lean
import PyProof.EqAt
import PyProof.EqKinds
import PyProof.TupleCall
import PyProof.ZipIter
import PySem.Challenge.RW_blockfall_k22_whole_jumps_by_counts
set_option bootstrap.genMatcherCode false
set_option genSizeOf false
set_option genSizeOfSpec false
set_option Elab.async false
set_option linter.all false
set_option maxRecDepth 100000
set_option maxHeartbeats 4000000
set_option maxHeartbeats 1000000
noncomputable section
open PySem.W (instObj plainGet findIn isFn emptyDict keepIn kitOne kia_one fnOf codeIn nsIn mg_of mg_none_of)
namespace L2
open PySem
noncomputable abbrev PKy:=Int×List Int
noncomputable def zy (b:Bool)(v u:Value):List Value:=match b with
 |false=>[v,u]
 |true=>[u,v]
noncomputable def rY (ks:List Int):Int:=reduceHash (Builtin.Tuple.tupleHashOf (ks.map hashInt))
def xE (b:Bool)(k:PKy):Int:=match b with
 |false=>reduceHash (Builtin.Tuple.tupleHashOf [hashInt k.1,rY k.2])
 |true=>reduceHash (Builtin.Tuple.tupleHashOf [rY k.2,hashInt k.1])
section
variable {prog:Program}{w:World}
variable {A:Around}{E:Value->Shared->Prop}{s:Shared}
end
end L2
namespace L2
open PySem PySem.Spec PyProof.Rows
noncomputable abbrev Key:=Sum Int Str
def keyIs:Key->Value->Bool
 |.inl k,v=>Value.isInt k v
 |.inr x,v=>Value.isStrOf x v
def keyH (w:World):Key->Int
 |.inl k=>hashInt k
 |.inr x=>hashStr w x
theorem cu: ∀ {k:Key}{v:Value},keyIs k v=true->(∃i t,k=Sum.inl i/\v=Value.int i t)\/(∃x t,k=Sum.inr x/\v=Value.str x t)
 |.inl i,v,h=>by
  obtain⟨t,e⟩:=Value.isInt_shape (k:=i) (v:=v) h
  exact .inl ⟨i,t,rfl,e⟩
 |.inr x,v,h=>by
  obtain⟨t,e⟩:=Value.isStrOf_shape (x:=x) (v:=v) h
  exact .inr ⟨x,t,rfl,e⟩
theorem qZ (i:Int)(t:Tok):keyIs (.inl i) (.int i t)=true:=by simp [keyIs,Value.isInt]
theorem qY (x:Str)(t:Tok):keyIs (.inr x) (.str x t)=true:=by simp [keyIs,Value.isStrOf]
theorem yw (a b:Int):decide ((Sum.inl a:Key)=Sum.inl b)=(a==b):=by
 by_cases e:a=b
 ·subst e;simp
 ·have h: ¬(Sum.inl a:Key)=Sum.inl b:=fun q=>e (Sum.inl.inj q)
  rw[decide_eq_false h]
  exact (beq_eq_false_iff_ne.mpr e).symm
theorem yt (a b:Str):decide ((Sum.inr a:Key)=Sum.inr b)=decide (a=b):=by
 by_cases e:a=b
 ·subst e;simp
 ·have h: ¬(Sum.inr a:Key)=Sum.inr b:=fun q=>e (Sum.inr.inj q)
  rw[decide_eq_false h,decide_eq_false e]
theorem yv (a:Int)(b:Str):decide ((Sum.inl a:Key)=Sum.inr b)=false:=decide_eq_false (fun q=>nomatch q)
theorem yu (a:Str)(b:Int):decide ((Sum.inr a:Key)=Sum.inl b)=false:=decide_eq_false (fun q=>nomatch q)
def cF (prog:Program)(w:World):PySem.KeyKind prog w Key where
 is:=keyIs
 hash:=keyH w
 inj:=fun v a b ha hb=>by
  rcases cu ha with⟨i,t,rfl,rfl⟩|⟨x,t,rfl,rfl⟩
  ·rcases cu hb with⟨j,u,rfl,e⟩|⟨y,u,rfl,e⟩
   ·injection e with e1 _;rw[e1]
   ·exact nomatch e
  ·rcases cu hb with⟨j,u,rfl,e⟩|⟨y,u,rfl,e⟩
   ·exact nomatch e
   ·injection e with e1 _;rw[e1]
 byValue:=fun k v h=>by
  rcases cu h with⟨i,t,rfl,rfl⟩|⟨x,t,rfl,rfl⟩<;>rfl
 pyHash:=fun hv h=>by
  rcases cu hv with⟨i,t,rfl,rfl⟩|⟨x,t,rfl,rfl⟩
  ·exact wpAny_pyHash_int h
  ·exact wpAny_pyHash_str h
 eqBool:=fun hu hv h=>by
  rcases cu hu with⟨i,t,rfl,rfl⟩|⟨x,t,rfl,rfl⟩
  ·rcases cu hv with⟨j,u,rfl,rfl⟩|⟨y,u,rfl,rfl⟩
   ·rw[yw] at h;exact wpAny_eqBool_int h
   ·rw[yv] at h;exact SeqAt.EqAt.int_str i t y u _ _ _ _ h
  ·rcases cu hv with⟨j,u,rfl,rfl⟩|⟨y,u,rfl,rfl⟩
   ·rw[yu] at h;exact SeqAt.EqAt.str_int x t j u _ _ _ _ h
   ·rw[yt] at h;exact wpAny_eqBool_str h
 «strs»:=fun k x t v h=>by
  rcases cu h with⟨i,u,rfl,e⟩|⟨y,u,rfl,e⟩
  ·exact nomatch e
  ·injection e with e1 _
   subst e1
   cases v<;>rfl
theorem nX (prog:Program)(w:World)(i:Int)(t:Tok):(cF prog w).is (.inl i) (.int i t)=true:=qZ i t
theorem nW (prog:Program)(w:World)(x:Str)(t:Tok):(cF prog w).is (.inr x) (.str x t)=true:=qY x t
end L2
namespace L2
open PySem PySem.Spec PyProof.Rows
inductive V where
 |non|bl (b:Bool)|int (i:Int)|str (x:Str)|byt (b:Array UInt8)|flt (b:UInt64)|ref (a:Addr)|ty (n:String)
 deriving DecidableEq
noncomputable def RelV:V->Value->Prop
 |.non,u=>u=Value.none
 |.bl b,u=>u=Value.bool b
 |.int i,u=> ∃t,u=Value.int i t
 |.str x,u=> ∃t,u=Value.str x t
 |.byt b,u=> ∃t,u=Value.bytes b t
 |.flt b,u=> ∃t,u=Value.float b t
 |.ref a,u=>u=Value.ref a
 |.ty n,u=>u=Value.type n
noncomputable abbrev Vals:List V->List Value->Prop:=Paired RelV
theorem Vals.length {xs:List V}{us:List Value}(r:Vals xs us):xs.length=us.length:=Paired.length r
theorem Vals.get: ∀ {xs:List V}{us:List Value}{i:Nat}{x:V},Vals xs us->xs[i]?=some x-> ∃u,us[i]?=some u/\RelV x u
 |_,_,_,_,.nil,e=>by simp at e
 |_,_,0,_,.cons r _,e=>by simp at e;subst e;exact⟨_,rfl,r⟩
 |_,_,i+1,x,.cons _ t,e=>by
  obtain⟨u,h1,h2⟩:=Vals.get (i:=i) (x:=x) t (by simpa using e)
  exact⟨u,by simpa using h1,h2⟩
theorem Vals.set {x:V}{u:Value}(r:RelV x u): ∀ {xs:List V}{us:List Value} (i:Nat),Vals xs us->Vals (xs.set i x) (us.set i u)
 |_,_,_,.nil=>.nil
 |_,_,0,.cons _ t=>.cons r t
 |_,_,i+1,.cons q t=>.cons q (Vals.set r i t)
theorem Vals.append: ∀ {xs ys:List V}{us ws:List Value},Vals xs us->Vals ys ws->Vals (xs++ys) (us++ws)
 |_,_,_,_,.nil,s=>s
 |_,_,_,_,.cons r t,s=>.cons r (Vals.append t s)
theorem Vals.take: ∀ {xs:List V}{us:List Value} (n:Nat),Vals xs us->Vals (xs.take n) (us.take n)
 |_,_,0,_=>.nil
 |_,_,_+1,.nil=>.nil
 |_,_,n+1,.cons r t=>.cons r (Vals.take n t)
theorem Vals.drop: ∀ {xs:List V}{us:List Value} (n:Nat),Vals xs us->Vals (xs.drop n) (us.drop n)
 |_,_,0,r=>r
 |_,_,_+1,.nil=>.nil
 |_,_,n+1,.cons _ t=>Vals.drop n t
def RelO:Option V->Option Value->Prop
 |some v,some u=>RelV v u
 |none,none=>True
 |_,_=>False
def KV {κ:Type}:List (κ×V)->List (κ×Value)->Prop:=Paired fun (p:κ×V) (q:κ×Value)=>p.1=q.1/\RelV p.2 q.2
def kV:Key->V
 |.inl i=>.int i
 |.inr x=>.str x
inductive HO where
 |lst (xs:List V)
 |tup (xs:List V)
 |dK (kvs:List (Key×V))|dT (kvs:List (List Key×V))|dN (b:Bool)(xs:List (PKy×Addr×V))
 |set (S:Int->Bool)(n:Nat)
 |ins (C dx:Addr)(fs:List (Str×V))
 |own (x:Addr)
 |xd (fs:List (Str×V))
 |met (f x:Addr)
 |rng (lo hi:Int)
 |frz (o:Obj)(u:HO)
 |tbl (ps:Array Value)
 |ext (φ:Heap->Prop)
noncomputable abbrev Hp:=Addr->Option HO
def upd (H:Hp)(a:Addr)(o:HO):Hp:=fun b=>if b=a then some o else H b
theorem bF {H:Hp}{a:Addr}{o:HO}:upd H a o a=some o:=by unfold upd;rw[if_pos rfl]
theorem aF {H:Hp}{a b:Addr}{o:HO}(h:b≠a):upd H a o b=H b:=by unfold upd;rw[if_neg h]
theorem zm {H:Hp}{a b:Addr}{o u:HO}(h:H a=some o)(h':H b=some u)(d:o≠u):a≠b:=by
 intro e;subst e;rw[h] at h';exact d (Option.some.inj h')
theorem da {H:Hp}{a b:Addr}{o:HO}(h:H a=some o)(h':H b=none):a≠b:=by
 intro e;subst e;rw[h] at h';cases h'
noncomputable def IsTupD (h:Heap)(a:Addr)(its:Array Value):Prop:=IsTup h a its/\ ∃o,h.get? a=some o/\o.dict=none
theorem IsTupD.new (h:Heap)(its:Array Value):IsTupD (h.push {cls:=.type "tuple",data:=.seq its}) h.objs.size its:=⟨IsTup.new _ _,_,Heap.get?_push_size _ rfl,rfl⟩
section
variable (P:Program)(w:World)
def ObjOk (H:Hp)(h:Heap)(a:Addr):HO->Prop
 |.lst xs=>xs.length<=sizeLine/\ ∃ (its:List Value) (n:Nat),Vals xs its/\h.get? a=some {cls:=.type "list",data:=.seq its.toArray n}
 |.tup xs=>xs.length<=sizeLine/\ ∃its:List Value,Vals xs its/\IsTupD h a its.toArray
 |.dK kvs=>kvs.length<=sizeLine/\(a==sysModules)=false/\ ∃vs,KV kvs vs/\h.DictOf (cF P w) a vs
 |.dT kvs=>kvs.length<=sizeLine/\(a==sysModules)=false/\ ∃xs:List (List Key×Addr×Value),
  Paired (fun (p:List Key×V) (q:List Key×Addr×Value)=>p.1=q.1/\H q.2.1=some (.tup (p.1.map kV))/\RelV p.2 q.2.2) kvs xs/\
  ∃o es ep,h.get? a=some o/\o.ExactDict/\o.data=.dict es ep/\es.toList=xs.map (entryOfKey (tupleKind (cF P w)))/\(xs.map (·.1)).Nodup
 |.dN b xs=>xs.length<=sizeLine/\(a==sysModules)=false/\ ∃ys:List (PKy×Addr×Value),Paired (fun (p:PKy×Addr×V) (q:PKy×Addr×Value)=>p.1=q.1/\p.2.1=q.2.1/\RelV p.2.2 q.2.2) xs ys/\
  ∃o es ep,h.get? a=some o/\o.ExactDict/\o.data=.dict es ep/\es.toList=ys.map (fun y=>(⟨xE b y.1,.ref y.2.1,y.2.2⟩:DictEntry))/\(ys.map (·.1)).Nodup
 |.set S n=>h.SetOf (intKind P w) a S n
 |.ins C dx fs=>H dx=some (.own a)/\fs.length<=1000/\dx≠a/\h.get? a=some (instObj C dx)/\
  ∃mA,h.Ns1 dx mA/\(∀f,RelO (fs.lookup f) (mA f))/\PySem.Within mA (fs.map (·.1))
 |.own _=> ∃o,h.get? a=some o
 |.xd fs=> ∃mA,h.Ns1 a mA/\ ∀f,RelO (fs.lookup f) (mA f)
 |.rng lo hi=> ∃t u v,h.get? a=some {cls:=.type "range",data:=.fields #[.int lo t,.int hi u,.int 1 v]}
 |.frz o u=>h.get? a=some o/\ObjOk H h a u
 |.tbl ps=>h.get? a=some {cls:=.none,data:=.fields ps}
 |.met f x=>h.get? a=some (PySem.W.methodObj (.ref f) (.ref x))
 |.ext φ=>φ h/\(∃o,h.get? a=some o)/\ ∀h1 h2:Heap,φ h1->(∀o,h1.get? a=some o->h2.get? a=some o)->φ h2
def HOk (H:Hp)(h:Heap):Prop:= ∀a o,H a=some o->ObjOk P w H h a o
end
section
variable {P:Program}{w:World}{H H':Hp}{h h':Heap}{a:Addr}{o:HO}
theorem ObjOk.lt (x:ObjOk P w H h a o):a<h.objs.size:=by
 cases o with
 |lst xs=>obtain⟨_,_,_,_,e⟩:=x;exact Heap.lt_size e
 |tup xs=>obtain⟨_,_,_,p⟩:=x;exact p.1.lt
 |dK kvs=>obtain⟨_,_,_,_,o,_,_,e,_⟩:=x;exact Heap.lt_size e
 |dT kvs=>obtain⟨_,_,_,_,o,_,_,e,_⟩:=x;exact Heap.lt_size e
 |dN b xs=>obtain⟨_,_,_,_,o,_,_,e,_⟩:=x;exact Heap.lt_size e
 |set S n=>obtain⟨o,_,_,_,e,_⟩:=x;exact Heap.lt_size e
 |ins C dx fs=>obtain⟨_,_,_,e,_⟩:=x;exact Heap.lt_size e
 |own y=>obtain⟨_,e⟩:=x;exact Heap.lt_size e
 |xd fs=>obtain⟨_,⟨_,_,_,e,_⟩,_⟩:=x;exact Heap.lt_size e
 |rng lo hi=>obtain⟨_,_,_,e⟩:=x;exact Heap.lt_size e
 |frz ob u=>obtain⟨e,_⟩:=x;exact Heap.lt_size e
 |tbl ps=>exact Heap.lt_size (show h.get? a=some _ from x)
 |met f y=>exact Heap.lt_size (show h.get? a=some _ from x)
 |ext φ=>obtain⟨_,⟨_,e⟩,_⟩:=x;exact Heap.lt_size e
theorem Paired.mapP {α β:Type}{F G:α->β->Prop}: ∀ {l₁:List α}{l₂:List β},Paired F l₁ l₂->(∀a b,F a b->G a b)->Paired G l₁ l₂
 |_,_,.nil,_=>.nil
 |_,_,.cons r t,f=>.cons (f _ _ r) (Paired.mapP t f)
theorem ObjOk.stay (x:ObjOk P w H h a o)(k:∀b u,(b=a\/H b=some (.own a))->h.get? b=some u->h'.get? b=some u)
  (ho: ∀b,H b=some (.own a)->H' b=some (.own a))(ht: ∀b xs,H b=some (.tup xs)->H' b=some (.tup xs)):ObjOk P w H' h' a o:=by
 induction o with
 |lst xs=>obtain⟨z,its,n,r,e⟩:=x;exact⟨z,its,n,r,k _ _ (.inl rfl) e⟩
 |tup xs=>obtain⟨z,its,r,⟨ob,e,c⟩,o2,e2,c2⟩:=x;exact⟨z,its,r,⟨ob,k _ _ (.inl rfl) e,c⟩,o2,k _ _ (.inl rfl) e2,c2⟩
 |dK kvs=>obtain⟨z,y,vs,r,ob,es,ep,e,c⟩:=x;exact⟨z,y,vs,r,ob,es,ep,k _ _ (.inl rfl) e,c⟩
 |dT kvs=>
  obtain⟨z,y,xs,r,ob,es,ep,e,c⟩:=x
  exact⟨z,y,xs,Paired.mapP r fun p q z=>⟨z.1,ht _ _ z.2.1,z.2.2⟩,ob,es,ep,k _ _ (.inl rfl) e,c⟩
 |dN b xs=>obtain⟨z,y,ys,r,ob,es,ep,e,c⟩:=x;exact⟨z,y,ys,r,ob,es,ep,k _ _ (.inl rfl) e,c⟩
 |set S n=>obtain⟨ob,es,ep,t,e,c⟩:=x;exact⟨ob,es,ep,t,k _ _ (.inl rfl) e,c⟩
 |ins C dx fs=>
  obtain⟨d,z,ne,e,mA,⟨od,es,ep,e2,c⟩,r⟩:=x
  exact⟨ho _ d,z,ne,k _ _ (.inl rfl) e,mA,⟨od,es,ep,k _ _ (.inr d) e2,c⟩,r⟩
 |own y=>obtain⟨ob,e⟩:=x;exact⟨ob,k _ _ (.inl rfl) e⟩
 |xd fs=>obtain⟨mA,⟨od,es,ep,e,c⟩,r⟩:=x;exact⟨mA,⟨od,es,ep,k _ _ (.inl rfl) e,c⟩,r⟩
 |rng lo hi=>obtain⟨t,u,v,e⟩:=x;exact⟨t,u,v,k _ _ (.inl rfl) e⟩
 |frz ob u ih=>obtain⟨e,q⟩:=x;exact⟨k _ _ (.inl rfl) e,ih q⟩
 |tbl ps=>
  have e:h.get? a=some {cls:=.none,data:=.fields ps}:=x
  show h'.get? a=some {cls:=.none,data:=.fields ps}
  exact k a _ (.inl rfl) e
 |met f y=>
  have e:h.get? a=some (PySem.W.methodObj (.ref f) (.ref y)):=x
  show h'.get? a=some (PySem.W.methodObj (.ref f) (.ref y))
  exact k a _ (.inl rfl) e
 |ext φ=>obtain⟨p,⟨o,e⟩,st⟩:=x;exact⟨st _ _ p fun o q=>k _ _ (.inl rfl) q,⟨o,k _ _ (.inl rfl) e⟩,st⟩
theorem HOk.lt (x:HOk P w H h)(e:H a=some o):a<h.objs.size:=(x a o e).lt
theorem HOk.fresh (x:HOk P w H h)(e:h.objs.size<=a):H a=none:=by
 cases q:H a with
 |none=>rfl
 |some u=>exact absurd (Nat.lt_of_lt_of_le (x.lt q) e) (Nat.lt_irrefl _)
theorem HOk.kept (x:HOk P w H h)(k:∀b u,h.get? b=some u->h'.get? b=some u):HOk P w H h':=fun a o e=>
 (x a o e).stay (fun b u _ q=>k b u q) (fun _ q=>q) fun _ _ q=>q
theorem HOk.laid (x:HOk P w H h)(k:∀b u,h.get? b=some u->h'.get? b=some u)(hp:h.objs.size<=a)(new:ObjOk P w (upd H a o) h' a o):HOk P w (upd H a o) h':=fun b u e=>by
 have hn:=x.fresh hp
 by_cases hb:b=a
 ·subst hb;rw[bF] at e;cases e;exact new
 ·rw[aF hb] at e
  exact (x b u e).stay (fun c v _ q=>k c v q) (fun c q=>by rw[aF (da q hn)];exact q) fun c xs q=>by rw[aF (da q hn)];exact q
end
def Rd (H:Hp)(a:Addr)(u:HO):Prop:=H a=some u\/ ∃o,H a=some (.frz o u)
theorem Rd.ok {P:Program}{w:World}{H:Hp}{h:Heap}{a:Addr}{u:HO}(r:Rd H a u)(x:HOk P w H h):ObjOk P w H h a u:=by
 rcases r with r|⟨o,r⟩
 ·exact x a u r
 ·obtain⟨_,q⟩:=x a _ r
  exact q
noncomputable def Mut:Option HO->Prop
 |some (.lst _)=>True
 |some (.dK _)=>True
 |some (.dT _)=>True
 |some (.dN _ _)=>True
 |some (.set _ _)=>True
 |some (.ins _ _ _)=>True
 |some (.ext _)=>True
 |_=>False
section
variable {P:Program}{w:World}{H:Hp}{h h':Heap}{x e:Addr}{o':HO}
theorem HOk.write (ok:HOk P w H h)(mu:Mut (H x))(he:e=x\/H e=some (.own x))(k:∀b u,b≠e->h.get? b=some u->h'.get? b=some u)(heo: ∃u,h'.get? e=some u)
  (new:ObjOk P w (upd H x o') h' x o'):HOk P w (upd H x o') h':=fun b u q=>by
 have nown: ∀c y,H c=some (.own y)->c≠x:=fun c y r z=>by subst z;rw[r] at mu;exact mu
 have ntup: ∀c xs,H c=some (.tup xs)->c≠x:=fun c xs r z=>by subst z;rw[r] at mu;exact mu
 by_cases hb:b=x
 ·subst hb;rw[bF] at q;cases q;exact new
 ·rw[aF hb] at q
  by_cases hbe:b=e
  ·have q':H b=some (.own x):=by
    rcases he with z|z
    ·exact absurd (hbe.trans z) hb
    ·rw[hbe];exact z
   rw[q] at q';cases q'
   obtain⟨v,hv⟩:=heo
   exact⟨v,by rw[hbe];exact hv⟩
  ·refine (ok b u q).stay (fun c v hc r=>k c v ?_ r) (fun c r=>by rw[aF (nown c b r)];exact r) fun c xs r=>by rw[aF (ntup c xs r)];exact r
   rcases hc with rfl|hc
   ·exact hbe
   ·rintro rfl
    rcases he with z|z
    ·exact nown c b hc z
    ·rw[hc] at z;cases z;exact hb rfl
end
structure Un (fs ex:List Addr)(H H':Hp)(h h':Heap):Prop where
 keep: ∀b o,h.get? b=some o->H b=none->b ∉ fs->b ∉ ex->h'.get? b=some o
 slot: ∀b o,h.get? b=some o->H b=none->b∈fs->b ∉ ex-> ∃sl,h'.get? b=some {o with slots:=sl}
 free: ∀b o,h.get? b=some o->H b=none->b ∉ ex->H' b=none
 there: ∀b o,h.get? b=some o->b ∉ ex-> ∃o',h'.get? b=some o'
 tups: ∀b xs,H b=some (.tup xs)->H' b=some (.tup xs)
 frzs: ∀b o u,H b=some (.frz o u)->H' b=some (.frz o u)
 tbls: ∀b ps,H b=some (.tbl ps)-> ∃more,H' b=some (.tbl (ps++more))
section
variable {fs fs' ex ex':List Addr}{H H1 H2:Hp}{h h1 h2 h':Heap}{a x e:Addr}{o:HO}
theorem Un.any (u:Un fs ex H H1 h h1){b:Addr}{ob:Obj}(q:h.get? b=some ob)(n:H b=none)(hx:b ∉ ex): ∃sl,h1.get? b=some {ob with slots:=sl}:=by
 by_cases hb:b∈fs
 ·exact u.slot b ob q n hb hx
 ·exact⟨ob.slots,u.keep b ob q n hb hx⟩
theorem Un.kept (k:∀b u,h.get? b=some u->h'.get? b=some u):Un fs ex H H h h':=
 ⟨fun b ob q _ _ _=>k b ob q,fun b ob q _ _ _=>⟨ob.slots,k b ob q⟩,fun _ _ _ n _=>n,fun b ob q _=>⟨ob,k b ob q⟩,fun _ _ q=>q,fun _ _ _ q=>q,fun _ ps q=>⟨#[],by rw[q];simp⟩⟩
theorem Un.refl:Un fs ex H H h h:=Un.kept fun _ _ q=>q
theorem Un.laid (k:∀b u,h.get? b=some u->h'.get? b=some u)(hp:h.objs.size<=a)(hn:H a=none):Un fs ex H (upd H a o) h h' where
 keep:=fun b u q _ _ _=>k b u q
 slot:=fun b u q _ _ _=>⟨u.slots,k b u q⟩
 free:=fun b u q n _=>by rw[aF (Nat.ne_of_lt (Nat.lt_of_lt_of_le (Heap.lt_size q) hp))];exact n
 there:=fun b u q _=>⟨u,k b u q⟩
 tups:=fun b xs q=>by rw[aF (da q hn)];exact q
 frzs:=fun b u xs q=>by rw[aF (da q hn)];exact q
 tbls:=fun b ps q=>⟨#[],by rw[aF (da q hn),q];simp⟩
theorem Un.write (mu:Mut (H x))(he:e=x\/H e=some (.own x))(k:∀b u,b≠e->h.get? b=some u->h'.get? b=some u)(heo: ∃u,h'.get? e=some u):Un fs ex H (upd H x o) h h':=by
 have hx: ∀b,H b=none->b≠x:=fun b n z=>by subst z;rw[n] at mu;exact mu
 have hb: ∀b,H b=none->b≠e:=fun b n z=>by
  subst z
  rcases he with r|r
  ·exact hx b n r
  ·rw[n] at r;cases r
 have hm: ∀b u,H b=some u-> ¬Mut (some u)->b≠x:=fun b u q nm z=>by subst z;rw[q] at mu;exact nm mu
 refine⟨fun b u q n _ _=>k b u (hb b n) q,fun b u q n _ _=>⟨u.slots,k b u (hb b n) q⟩,fun b u q n _=>by rw[aF (hx b n)];exact n,fun b u q _=>?_,
  fun b xs q=>by rw[aF (hm b _ q fun z=>z)];exact q,fun b u xs q=>by rw[aF (hm b _ q fun z=>z)];exact q,fun b ps q=>⟨#[],by rw[aF (hm b _ q fun z=>z),q];simp⟩⟩
 by_cases hbe:b=e
 ·subst hbe;exact heo
 ·exact⟨u,k b u hbe q⟩
end
def trk (h:Heap)(H:Hp):List Addr:=(List.range h.objs.size).filter fun a=>(H a).isSome
def hidT (h:Heap)(H:Hp):Heap:=PySem.W.hideAll h (trk h H)
theorem rA (h:Heap)(H:Hp):(hidT h H).objs.size=h.objs.size:=PySem.W.hideAll_size _ _
theorem uo {h:Heap}{H:Hp}{b:Addr}{o:Obj}(e:h.get? b=some o)(n:H b=none):(hidT h H).get? b=some o:=
 PySem.W.hideAll_get _ e fun hm=>by
  have q:(H b).isSome=true:=(List.mem_filter.mp hm).2
  rw[n] at q;simp at q
theorem vR {h:Heap}{H:Hp}{b:Addr}{o:Obj}(e:(hidT h H).get? b=some o):h.get? b=some o/\H b=none:=by
 have e':h.get? b=some o:=PySem.W.of_hideAll (trk h H) e
 refine⟨e',?_⟩
 cases q:H b with
 |none=>rfl
 |some x=>
  have hm:b∈trk h H:=List.mem_filter.mpr ⟨List.mem_range.mpr (Heap.lt_size e'),by simp [q]⟩
  have z:(hidT h H).get? b=none:=PySem.W.hideAll_none (trk h H) hm
  rw[z] at e;cases e
noncomputable def wH (g h:Heap)(L:Addr):List (Addr×Obj):=(List.range h.objs.size).filterMap fun a=>if a=L\/(g.get? a).isSome=true then none else (h.get? a).map fun o=>(a,o)
def rest (g h:Heap)(L d:Addr):List (Addr×Obj):=(wH g h L).filter fun p=>decide (p.1≠d)
end L2
namespace L2
open PySem PySem.Spec PyProof.Rows
structure Mod (K:PySem.W.Frag)(mg:Str->Option Value)(base:Heap):Prop where
 kin:K.In base
 glob:base.Ns mainGlobals mg
 blt: ∃mb,base.Ns builtinsNs mb/\ ∀x:Str,x≠ "__name__"->mb x=bootBuiltins x
 nolimit:base.NoLimit
structure Cx where
 prog:Program
 w:World
 K:PySem.W.Frag
 mg:Str->Option Value
 base:Heap
 A:Around
 N:List Str
 s₀:Shared
 H₀:Hp
 env:Env
 outer:List Env
 stack:List Env
 ex:List Addr
 fn:Str->Bool
 calm:Bool
 pn:List (Addr×Obj)
 xe:Value->Shared->Prop
noncomputable def frs (l:List Env):List Addr:=l.filterMap (·.frame)
noncomputable abbrev Cx.fs (X:Cx):List Addr:=frs X.outer
noncomputable def Vis (sc:Scope)(x:Str):Prop:=sc.names.lookup x=some .local \/sc.names.lookup x=some .cell\/sc.names.lookup x=some .free
noncomputable def Loc (sc:Scope)(x:Str):Prop:=sc.names.lookup x=some .local \/sc.names.lookup x=some .cell
noncomputable def Look (env:Env)(h:Heap)(m:Str->Option Value)(x:Str)(u:Value):Prop:=
 (env.kindOf x=some .local /\m x=some u)\/((env.kindOf x=some .cell\/env.kindOf x=some .free)/\ ∃c,env.cells.lookup x=some c/\h.IsCell c (some u))
structure Cx.Ok (X:Cx):Prop where
 mod:Mod X.K X.mg X.base
 kind:X.env.scope.kind=.function
 glob:X.env.globals=mainGlobals
 blt:X.env.builtins=builtinsNs
 above:X.s₀.heap.objs.size<=X.env.locals
 inj: ∀x y c,X.env.cells.lookup x=some c->X.env.cells.lookup y=some c->x=y
 has: ∀x,(X.env.kindOf x=some .cell\/X.env.kindOf x=some .free)-> ∃c,X.env.cells.lookup x=some c
 cab: ∀x c,X.fn x=true->X.env.cells.lookup x=some c->X.s₀.heap.objs.size<=c
 hd:X.calm=true->X.A.handled=none
 frames:X.A.frames=some X.stack
 stk:X.stack=X.outer\/(X.stack=X.env::X.outer/\X.env.frame=some X.env.locals)
 exf: ∀b∈X.ex,b≠X.env.locals/\ ∀x c,X.env.cells.lookup x=some c->c≠b
 bs: ∀b o,X.base.get? b=some o->X.s₀.heap.get? b=some o/\X.H₀ b=none
 bsz:X.base.objs.size<=X.s₀.heap.objs.size
 noex: ∀b o,X.base.get? b=some o->b ∉ X.ex
 exfs: ∀b∈X.ex,b ∉ X.fs
 funs:X.s₀.heap.FunFrames X.base X.outer
 frf: ∀b∈X.fs,X.H₀ b=none
structure Inv (X:Cx)(pins:List (Addr×Obj))(σ:List (Option V))(H:Hp)(s:Shared):Prop where
 ok:X.Ok
 os:s.os=X.s₀.os
 bare:AllBare s.gens
 base:Un X.fs X.ex X.H₀ H X.s₀.heap s.heap
 loc: ∃m,s.heap.Ns X.env.locals m/\ ∀ (i:Nat) (x:Str) (v:V),X.N[i]?=some x->σ[i]?=some (some v)->Vis X.env.scope x-> ∃u,RelV v u/\Look X.env s.heap m x u
 cell: ∀x c,X.env.cells.lookup x=some c-> ∃v,s.heap.IsCell c v
 free:H X.env.locals=none
 freeC: ∀x c,X.env.cells.lookup x=some c->H c=none
 pin: ∀p∈X.pn++pins,s.heap.get? p.1=some p.2/\H p.1=none/\p.1≠X.env.locals/\p.1 ∉ X.fs/\ ∀v,p.2.data≠.cell v
 hok:HOk X.prog X.w H s.heap
 len:σ.length=X.N.length
section
variable {X:Cx}{pins:List (Addr×Obj)}{σ:List (Option V)}{H H':Hp}{s:Shared}{h':Heap}
theorem Cx.Ok.nofr (ok:X.Ok){b:Addr}{o:Obj}(e:X.base.get? b=some o):b ∉ X.fs:=fun hb=>by
 have:=(ok.funs.mem hb).1
 rw[e] at this;cases this
theorem Inv.bs (I:Inv X pins σ H s): ∀b o,X.base.get? b=some o->s.heap.get? b=some o/\H b=none:=fun b o e=>
 ⟨I.base.keep b o (I.ok.bs b o e).1 (I.ok.bs b o e).2 (I.ok.nofr e) (I.ok.noex b o e),I.base.free b o (I.ok.bs b o e).1 (I.ok.bs b o e).2 (I.ok.noex b o e)⟩
theorem Inv.bk (I:Inv X pins σ H s): ∀b o,X.base.get? b=some o->s.heap.get? b=some o:=fun b o e=>(I.bs b o e).1
theorem Inv.mod (I:Inv X pins σ H s):Mod X.K X.mg X.base:=I.ok.mod
theorem Inv.kIn (I:Inv X pins σ H s):X.K.In s.heap:=I.ok.mod.kin.keeps I.bk
theorem Inv.fr (I:Inv X pins σ H s): ∃m,Fr X.base X.env.locals s.heap m:=
 let ⟨m,hn,_⟩:=I.loc
 ⟨m,hn,I.bk,Nat.le_trans I.ok.bsz I.ok.above⟩
theorem Inv.lt (I:Inv X pins σ H s):X.env.locals<s.heap.objs.size:=let ⟨_,hn,_⟩:=I.loc;hn.lt
theorem Inv.sz (I:Inv X pins σ H s):X.s₀.heap.objs.size<=s.heap.objs.size:=Nat.le_trans I.ok.above (Nat.le_of_lt I.lt)
theorem Inv.nofs (I:Inv X pins σ H s){a:Addr}(h:s.heap.objs.size<=a):a ∉ X.fs:=fun hb=>by
 obtain⟨_,o,ho,_⟩:=I.ok.funs.mem hb
 exact absurd (Nat.lt_of_lt_of_le (Heap.lt_size ho) (Nat.le_trans I.sz h)) (Nat.lt_irrefl _)
theorem Inv.cne (I:Inv X pins σ H s): ∀x c,X.env.cells.lookup x=some c->c≠X.env.locals:=fun x c e z=>by
 obtain⟨v,o,ho,hd⟩:=I.cell x c e
 obtain⟨m,⟨o',es,ep,ho',hd',_⟩,_⟩:=I.loc
 rw[z,ho'] at ho;cases ho;rw[hd'] at hd;cases hd
theorem Inv.funs (I:Inv X pins σ H s):s.heap.FunFrames X.base X.outer:=by
 have all: ∀ (l:List Env),(∀b∈frs l,b∈X.fs)->X.s₀.heap.FunFrames X.base l->s.heap.FunFrames X.base l:=by
  intro l
  induction l with
  |nil=>intro _ _;trivial
  |cons env r ih=>
   intro hs hl
   obtain⟨hk,⟨L,o,hf,hn,ho,hd⟩,hr⟩:=hl
   have hL:L∈X.fs:=hs L (by unfold frs;rw[List.filterMap_cons,hf];exact List.mem_cons_self)
   obtain⟨sl,e⟩:=I.base.slot L o ho (I.ok.frf L hL) hL fun z=>I.ok.exfs L z hL
   exact⟨hk,⟨L,_,hf,hn,e,hd⟩,ih (fun b hb=>hs b (by unfold frs;rw[List.filterMap_cons,hf];exact List.mem_cons_of_mem _ hb)) hr⟩
 exact all X.outer (fun _ hb=>hb) I.ok.funs
theorem Inv.stack (I:Inv X pins σ H s):s.heap.FunFrames X.base X.stack:=by
 rcases I.ok.stk with e|⟨e,hf⟩
 ·rw[e];exact I.funs
 ·rw[e]
  obtain⟨m,hn,_⟩:=I.loc
  refine .cons (by rw[I.ok.kind];decide) hf hn ?_ I.funs
  exact Heap.get?_none_of_le (Nat.le_trans I.ok.bsz I.ok.above)
theorem Inv.stkSub (I:Inv X pins σ H s): ∀b∈frs X.stack,b∈X.env.locals::X.fs:=fun b hb=>by
 rcases I.ok.stk with e|⟨e,hf⟩
 ·rw[e] at hb;exact List.mem_cons_of_mem _ hb
 ·rw[e] at hb
  unfold frs at hb
  rw[List.filterMap_cons,hf] at hb
  exact hb
theorem Inv.stkFree (I:Inv X pins σ H s): ∀b∈frs X.stack,H b=none:=fun b hb=>by
 rcases List.mem_cons.mp (I.stkSub b hb) with e|hb
 ·rw[e];exact I.free
 ·obtain⟨_,o,ho,_⟩:=I.ok.funs.mem hb
  exact I.base.free b o ho (I.ok.frf b hb) fun z=>I.ok.exfs b z hb
theorem Inv.step {g':Array GenState}{t':Nat}{d':Drawn}{ch:List Addr}(I:Inv X pins σ H s)
  (hch: ∀b∈ch,(b∈X.ex\/X.s₀.heap.objs.size<=b)/\b≠X.env.locals/\(∀x c,X.env.cells.lookup x=some c->c≠b)/\ ∀p∈X.pn++pins,p.1≠b)
  (keep: ∀b o,b≠X.env.locals->b ∉ X.fs->b ∉ ch->s.heap.get? b=some o->H b=none->h'.get? b=some o)
  (slot: ∀b o,b≠X.env.locals->b∈X.fs->b ∉ ch->s.heap.get? b=some o->H b=none-> ∃sl,h'.get? b=some {o with slots:=sl})(free: ∀b o,b ∉ ch->s.heap.get? b=some o->H b=none->H' b=none)
  (there: ∀b o,b ∉ ch->s.heap.get? b=some o-> ∃o',h'.get? b=some o')
  (tups: ∀b xs,H b=some (.tup xs)->H' b=some (.tup xs))(frzs: ∀b o u,H b=some (.frz o u)->H' b=some (.frz o u))(tbls: ∀b ps,H b=some (.tbl ps)-> ∃more,H' b=some (.tbl (ps++more)))
  (ns: ∀m,s.heap.Ns X.env.locals m->h'.Ns X.env.locals m)(hok:HOk X.prog X.w H' h')(hg:AllBare g'):
  Inv X pins σ H' {s with heap:=h',gens:=g',drawn:=d',toks:=t'}:=by
 have neL: ∀b o,X.s₀.heap.get? b=some o->b≠X.env.locals:=fun b o e=>Nat.ne_of_lt (Nat.lt_of_lt_of_le (Heap.lt_size e) I.ok.above)
 have neC: ∀b o,X.s₀.heap.get? b=some o->b ∉ X.ex->b ∉ ch:=fun b o e hx hb=>by
  rcases (hch b hb).1 with z|z
  ·exact hx z
  ·exact absurd (Nat.lt_of_lt_of_le (Heap.lt_size e) z) (Nat.lt_irrefl _)
 have cellK: ∀x c,X.env.cells.lookup x=some c-> ∀v,s.heap.IsCell c v->h'.IsCell c v:=fun x c e v ⟨o,ho,hd⟩=>by
  have nch:c ∉ ch:=fun z=>(hch c z).2.2.1 x c e rfl
  by_cases hc:c∈X.fs
  ·obtain⟨sl,q⟩:=slot c o (I.cne x c e) hc nch ho (I.freeC x c e)
   exact⟨_,q,hd⟩
  ·exact⟨o,keep c o (I.cne x c e) hc nch ho (I.freeC x c e),hd⟩
 refine⟨I.ok,I.os,hg,⟨fun b o e n hb hx=>?_,fun b o e n hb hx=>?_,fun b o e n hx=>?_,fun b o e hx=>?_,fun b xs e=>tups b xs (I.base.tups b xs e),fun b o xs e=>frzs b o xs (I.base.frzs b o xs e),fun b ps e=>?_⟩,?_,fun x c e=>?_,?_,fun x c e=>?_,fun p hp=>?_,hok,I.len⟩
 ·exact keep b o (neL b o e) hb (neC b o e hx) (I.base.keep b o e n hb hx) (I.base.free b o e n hx)
 ·obtain⟨sl,e1⟩:=I.base.slot b o e n hb hx
  obtain⟨sl',e2⟩:=slot b _ (neL b o e) hb (neC b o e hx) e1 (I.base.free b o e n hx)
  exact⟨sl',e2⟩
 ·obtain⟨o',e1⟩:=I.base.there b o e hx
  exact free b o' (neC b o e hx) e1 (I.base.free b o e n hx)
 ·obtain⟨o',e1⟩:=I.base.there b o e hx
  exact there b o' (neC b o e hx) e1
 ·obtain⟨m1,e1⟩:=I.base.tbls b ps e
  obtain⟨m2,e2⟩:=tbls b _ e1
  exact⟨m1++m2,by rw[e2,Array.append_assoc]⟩
 ·obtain⟨m,hn,hl⟩:=I.loc
  refine⟨m,ns m hn,fun i x v e1 e2 e3=>?_⟩
  obtain⟨u,r,l⟩:=hl i x v e1 e2 e3
  refine⟨u,r,?_⟩
  rcases l with l|⟨k,c,e,z⟩
  ·exact .inl l
  ·exact .inr ⟨k,c,e,cellK x c e _ z⟩
 ·obtain⟨v,z⟩:=I.cell x c e
  exact⟨v,cellK x c e v z⟩
 ·obtain⟨m,⟨o,_,_,ho,_⟩,_⟩:=I.loc
  exact free _ o (fun z=>(hch _ z).2.1 rfl) ho I.free
 ·obtain⟨v,o,ho,hd⟩:=I.cell x c e
  exact free c o (fun z=>(hch c z).2.2.1 x c e rfl) ho (I.freeC x c e)
 ·obtain⟨e,n,ne,nf,d⟩:=I.pin p hp
  have nch:p.1 ∉ ch:=fun z=>(hch p.1 z).2.2.2 p hp rfl
  exact⟨keep p.1 p.2 ne nf nch e n,free p.1 p.2 nch e n,ne,nf,d⟩
theorem Inv.un {t':Nat}(I:Inv X pins σ H s)(u:Un X.fs [] H H' s.heap h')(hok:HOk X.prog X.w H' h'):Inv X pins σ H' {s with heap:=h',toks:=t'}:=by
 obtain⟨m,⟨o,es,ep,ho,r⟩,_⟩:=id I.loc
 obtain⟨sl,hL⟩:=u.any ho I.free (by simp)
 exact I.step (g':=s.gens) (d':=s.drawn) (ch:=[]) (fun _ z=>nomatch z) (fun b o _ hb _ e n=>u.keep b o e n hb (by simp)) (fun b o _ hb _ e n=>u.slot b o e n hb (by simp)) (fun b o _ e n=>u.free b o e n (by simp)) (fun b o _ e=>u.there b o e (by simp)) u.tups u.frzs u.tbls (fun m' hm=>by
  obtain⟨o',es',ep',ho',r'⟩:=hm
  rw[ho] at ho';cases ho'
  exact⟨_,es',ep',hL,r'⟩) hok I.bare
theorem Inv.call {g':Array GenState}{t':Nat}{d':Drawn}{ch:List Addr}(I:Inv X pins σ H s)(u:Un (frs X.stack) ch H H' s.heap h')(hok:HOk X.prog X.w H' h')(hg:AllBare g')
  (hch: ∀b∈ch,(b∈X.ex\/X.s₀.heap.objs.size<=b)/\b≠X.env.locals/\(∀x c,X.env.cells.lookup x=some c->c≠b)/\ ∀p∈X.pn++pins,p.1≠b):
  Inv X pins σ H' {s with heap:=h',gens:=g',drawn:=d',toks:=t'}:=by
 obtain⟨m,⟨o,es,ep,ho,r⟩,_⟩:=id I.loc
 obtain⟨sl,hL⟩:=u.any ho I.free fun z=>(hch _ z).2.1 rfl
 exact I.step (ch:=ch) hch (fun b o hL hb hc e n=>u.keep b o e n (fun z=>(List.mem_cons.mp (I.stkSub b z)).elim hL hb) hc) (fun b o _ _ hc e n=>u.any e n hc) (fun b o hc e n=>u.free b o e n hc) (fun b o hc e=>u.there b o e hc) u.tups u.frzs u.tbls (fun m' hm=>by
  obtain⟨o',es',ep',ho',r'⟩:=hm
  rw[ho] at ho';cases ho'
  exact⟨_,es',ep',hL,r'⟩) hok hg
theorem Inv.turned {t':Nat}{it:Addr}(I:Inv X pins σ H s)(k:∀b o,b≠it->s.heap.get? b=some o->h'.get? b=some o)(hn:H it=none)(hL:it≠X.env.locals)
  (h1:it∈X.ex\/X.s₀.heap.objs.size<=it)(h2: ∀x c,X.env.cells.lookup x=some c->c≠it)(h3: ∀p∈X.pn++pins,p.1≠it):Inv X pins σ H {s with heap:=h',toks:=t'}:=by
 have nit: ∀b u,H b=some u->b≠it:=fun b u e z=>by rw[z,hn] at e;cases e
 refine I.step (g':=s.gens) (d':=s.drawn) (ch:=[it]) (fun b hb=>?_) (fun b o _ _ hc e _=>k b o (fun z=>hc (by simp [z])) e) (fun b o _ _ hc e _=>⟨o.slots,k b o (fun z=>hc (by simp [z])) e⟩) (fun _ _ _ _ n=>n)
  (fun b o hc e=>⟨o,k b o (fun z=>hc (by simp [z])) e⟩) (fun _ _ e=>e) (fun _ _ _ e=>e) (fun b ps e=>⟨#[],by rw[e];simp⟩) (fun m hm=>?_) (fun b u e=>?_) I.bare
 ·have e:b=it:=by simpa using hb
  subst e
  exact⟨h1,hL,h2,h3⟩
 ·obtain⟨o,es,ep,ho,r⟩:=hm
  exact⟨o,es,ep,k _ o (Ne.symm hL) ho,r⟩
 ·refine (I.hok b u e).stay (fun c v hc q=>k c v ?_ q) (fun _ q=>q) fun _ _ q=>q
  rcases hc with z|z
  ·rw[z];exact nit b u e
  ·exact nit c _ z
theorem Inv.tok (I:Inv X pins σ H s)(t:Nat):Inv X pins σ H {s with toks:=t}:=I.un (h':=s.heap) (t':=t) Un.refl I.hok
theorem Inv.kept {t':Nat}(I:Inv X pins σ H s)(k:∀b u,s.heap.get? b=some u->h'.get? b=some u):Inv X pins σ H {s with heap:=h',toks:=t'}:=I.un (Un.kept k) (I.hok.kept k)
theorem Inv.laid {a:Addr}{o:HO}{t':Nat}(I:Inv X pins σ H s)(k:∀b u,s.heap.get? b=some u->h'.get? b=some u)(hp:s.heap.objs.size<=a)(new:ObjOk X.prog X.w (upd H a o) h' a o):
 Inv X pins σ (upd H a o) {s with heap:=h',toks:=t'}:=I.un (Un.laid k hp (I.hok.fresh hp)) (I.hok.laid k hp new)
theorem Inv.write {x e:Addr}{o:HO}{t':Nat}(I:Inv X pins σ H s)(mu:Mut (H x))(he:e=x\/H e=some (.own x))(k:∀b u,b≠e->s.heap.get? b=some u->h'.get? b=some u)(heo: ∃u,h'.get? e=some u)
 (new:ObjOk X.prog X.w (upd H x o) h' x o):Inv X pins σ (upd H x o) {s with heap:=h',toks:=t'}:=I.un (Un.write mu he k heo) (I.hok.write mu he k heo new)
theorem Inv.weak {σ':List (Option V)}(I:Inv X pins σ H s)(hl:σ'.length=σ.length)(w:∀ (i:Nat) v,σ'[i]?=some (some v)->σ[i]?=some (some v)):Inv X pins σ' H s:=
 ⟨I.ok,I.os,I.bare,I.base,let ⟨m,hn,hl'⟩:=I.loc;⟨m,hn,fun i x v e1 e2 e3=>hl' i x v e1 (w i v e2) e3⟩,I.cell,I.free,I.freeC,I.pin,I.hok,hl.trans I.len⟩
theorem Inv.pins_of {pins':List (Addr×Obj)}(I:Inv X pins σ H s)(h:∀p∈pins',s.heap.get? p.1=some p.2/\H p.1=none/\p.1≠X.env.locals/\p.1 ∉ X.fs/\ ∀v,p.2.data≠.cell v):Inv X pins' σ H s:=
 ⟨I.ok,I.os,I.bare,I.base,I.loc,I.cell,I.free,I.freeC,fun p hp=>(List.mem_append.mp hp).elim (fun z=>I.pin p (List.mem_append_left _ z)) (h p),I.hok,I.len⟩
theorem nV {N:List Str}(hN:N.Nodup){i j:Nat}{x:Str}(a:N[i]?=some x)(b:N[j]?=some x):i=j:=by
 obtain⟨h1,e1⟩:=List.getElem?_eq_some_iff.mp a
 obtain⟨h2,e2⟩:=List.getElem?_eq_some_iff.mp b
 exact (List.getElem_inj hN).mp (e1.trans e2.symm)
theorem lj {M:Model}{A:Around}{E:Value->Shared->Prop}{i:Nat}{x:Str}{v:V}{u:Value}{Q:Unit->Shared->Prop}(I:Inv X pins σ H s)(hN:X.N.Nodup)(hi:X.N[i]?=some x)(hx:Loc X.env.scope x)(r:RelV v u)
  (h:∀s',Inv X pins (σ.set i (some v)) H s'->(∃a,Heap.SameBut a s.heap s'.heap/\(a=X.env.locals\/X.env.cells.lookup x=some a))->Q () s')(hf:X.fn x=true\/X.env.scope.names.lookup x=some .local :=by first|exact .inl rfl|exact .inr rfl|assumption):wpAny M A (storeName X.env x u) Q E s:=by
 obtain⟨m,hn,hl⟩:=id I.loc
 have hcls:(X.env.scope.kind==.class||(X.env.scope.kind==.module && X.env.locals !=X.env.globals))=false:=by rw[I.ok.kind];rfl
 have hiσ:i<σ.length:=by rw[I.len];exact (List.getElem?_eq_some_iff.mp hi).1
 have cne:=I.cne
 have tracked: ∀ {a:Addr}{h':Heap},(∃o,s.heap.get? a=some o/\H a=none)->Heap.SameBut a s.heap h'->HOk X.prog X.w H h':=fun{a h'} ha hs b ob e=>by
  obtain⟨_,_,hfree⟩:=ha
  refine (I.hok b ob e).stay (fun c w' hc q=>(hs.2 c ?_).trans q) (fun _ q=>q) fun _ _ q=>q
  rintro rfl
  rcases hc with rfl|hc
  ·rw[hfree] at e;cases e
  ·rw[hfree] at hc;cases hc
 rcases hx with hk|hk
 ·refine wpAny_storeName_local hk hn (fun h' hn' hs=>?_) hcls
  obtain⟨oL,_,_,hoL,_⟩:=id hn
  refine h _ ⟨I.ok,I.os,I.bare,⟨fun b o e n hb hx=>?_,fun b o e n hb hx=>?_,I.base.free,fun b o e hx=>?_,I.base.tups,I.base.frzs,I.base.tbls⟩,⟨_,hn',fun j y v' e1 e2 e3=>?_⟩,fun y c e=>?_,I.free,I.freeC,fun p hp=>?_,tracked ⟨oL,hoL,I.free⟩ hs,by simpa using I.len⟩ ⟨_,hs,.inl rfl⟩
  ·exact (hs.2 b (Nat.ne_of_lt (Nat.lt_of_lt_of_le (Heap.lt_size e) I.ok.above))).trans (I.base.keep b o e n hb hx)
  ·obtain⟨sl,e1⟩:=I.base.slot b o e n hb hx
   exact⟨sl,(hs.2 b (Nat.ne_of_lt (Nat.lt_of_lt_of_le (Heap.lt_size e) I.ok.above))).trans e1⟩
  ·obtain⟨o',e1⟩:=I.base.there b o e hx
   exact⟨o',(hs.2 b (Nat.ne_of_lt (Nat.lt_of_lt_of_le (Heap.lt_size e) I.ok.above))).trans e1⟩
  ·by_cases hj:j=i
   ·subst hj
    rw[hi] at e1;cases e1
    rw[List.getElem?_set_self hiσ] at e2
    cases e2
    exact⟨u,r,.inl ⟨hk,by simp⟩⟩
   ·rw[List.getElem?_set_ne (Ne.symm hj)] at e2
    obtain⟨u',r',q⟩:=hl j y v' e1 e2 e3
    refine⟨u',r',?_⟩
    rcases q with⟨k,e⟩|⟨k,c,e,z⟩
    ·refine .inl ⟨k,?_⟩
     have:y≠x:=fun e=>hj (nV hN e1 (e▸hi))
     simp [this,e]
    ·exact .inr ⟨k,c,e,z.sameBut hs (cne y c e)⟩
  ·obtain⟨w',z⟩:=I.cell y c e
   exact⟨w',z.sameBut hs (cne y c e)⟩
  ·obtain⟨e,n,ne,nf,d⟩:=I.pin p hp
   exact⟨(hs.2 p.1 ne).trans e,n,ne,nf,d⟩
 ·have hfn:X.fn x=true:=by
   rcases hf with z|z
   ·exact z
   ·rw[z] at hk;cases hk
  obtain⟨c,hc⟩:=I.ok.has x (.inl hk)
  obtain⟨w',z⟩:=I.cell x c hc
  refine wpAny_storeName_cell I.ok.kind hk hc z (fun h' hc' hs=>?_)
  obtain⟨oc,hoc,hocd⟩:=id z
  refine h {s with heap:=h'} ⟨I.ok,I.os,I.bare,⟨fun b o e n hb hx=>?_,fun b o e n hb hx=>?_,I.base.free,fun b o e hx=>?_,I.base.tups,I.base.frzs,I.base.tbls⟩,⟨m,hn.sameBut hs (Ne.symm (cne x c hc)),fun j y v' e1 e2 e3=>?_⟩,fun y c' e=>?_,I.free,I.freeC,fun p hp=>?_,tracked ⟨oc,hoc,I.freeC x c hc⟩ hs,by simpa using I.len⟩ ⟨c,hs,.inr hc⟩
  ·exact (hs.2 b (Nat.ne_of_lt (Nat.lt_of_lt_of_le (Heap.lt_size e) (I.ok.cab x c hfn hc)))).trans (I.base.keep b o e n hb hx)
  ·obtain⟨sl,e1⟩:=I.base.slot b o e n hb hx
   exact⟨sl,(hs.2 b (Nat.ne_of_lt (Nat.lt_of_lt_of_le (Heap.lt_size e) (I.ok.cab x c hfn hc)))).trans e1⟩
  ·obtain⟨o',e1⟩:=I.base.there b o e hx
   exact⟨o',(hs.2 b (Nat.ne_of_lt (Nat.lt_of_lt_of_le (Heap.lt_size e) (I.ok.cab x c hfn hc)))).trans e1⟩
  ·by_cases hj:j=i
   ·subst hj
    rw[hi] at e1;cases e1
    rw[List.getElem?_set_self hiσ] at e2
    cases e2
    exact⟨u,r,.inr ⟨.inl hk,c,hc,hc'⟩⟩
   ·rw[List.getElem?_set_ne (Ne.symm hj)] at e2
    obtain⟨u',r',q⟩:=hl j y v' e1 e2 e3
    refine⟨u',r',?_⟩
    rcases q with q|⟨k,c',e,z'⟩
    ·exact .inl q
    ·refine .inr ⟨k,c',e,z'.sameBut hs ?_⟩
     rintro rfl
     exact hj (nV hN e1 (I.ok.inj _ _ _ e hc▸hi))
  ·by_cases hcc:c'=c
   ·subst hcc;exact⟨_,hc'⟩
   ·obtain⟨w2,z2⟩:=I.cell y c' e
    exact⟨w2,z2.sameBut hs hcc⟩
  ·obtain⟨e,n,ne,nf,d⟩:=I.pin p hp
   refine⟨(hs.2 p.1 ?_).trans e,n,ne,nf,d⟩
   intro q
   rw[q,hoc] at e
   have q':oc=p.2:=Option.some.inj e
   exact d w' (by rw[<-q'];exact hocd)
theorem jJ {M:Model}{A:Around}{E:Value->Shared->Prop}{i:Nat}{x:Str}{v:V}{u:Value}{Q:Unit->Shared->Prop}(I:Inv X pins σ H s)(hN:X.N.Nodup)(hi:X.N[i]?=some x)(hx:Loc X.env.scope x)(r:RelV v u)
  (h:∀s',Inv X pins (σ.set i (some v)) H s'->Q () s')(hf:X.fn x=true\/X.env.scope.names.lookup x=some .local :=by first|exact .inl rfl|exact .inr rfl|assumption):wpAny M A (storeName X.env x u) Q E s:=
 lj I hN hi hx r (fun s' I' _=>h s' I') hf
theorem Inv.call' {s':Shared}{ch:List Addr}(I:Inv X pins σ H s)(ho:s'.os=s.os)(u:Un (frs X.stack) ch H H' s.heap s'.heap)(hok:HOk X.prog X.w H' s'.heap)(hg:AllBare s'.gens)
  (hch: ∀b∈ch,(b∈X.ex\/X.s₀.heap.objs.size<=b)/\b≠X.env.locals/\(∀x c,X.env.cells.lookup x=some c->c≠b)/\ ∀p∈X.pn++pins,p.1≠b):Inv X pins σ H' s':=by
 obtain⟨h',g',d',t',o'⟩:=s'
 have e:o'=s.os:=ho
 subst e
 exact I.call (g':=g') (t':=t') (d':=d') u hok hg hch
end
noncomputable abbrev XK:=Value->Option Addr->Hp->Prop
noncomputable abbrev St:=List (Option V)
noncomputable abbrev VK:=V->Hp->Prop
noncomputable abbrev TE:=St->Hp->VK->Prop
noncomputable abbrev TT:=St->Hp->(Bool->Hp->Prop)->Prop
noncomputable abbrev TA:=St->Hp->(List V->Hp->Prop)->Prop
structure Ends where
 nx:St->Hp->Prop
 rt:VK
 bk:St->Hp->Prop:=fun _ _=>False
 ct:St->Hp->Prop:=fun _ _=>False
noncomputable abbrev TS:=Ends->St->Hp->Prop
def EP (X:Cx)(pins:List (Addr×Obj))(σ:St)(Q:VK)(u:Value)(s':Shared):Prop:= ∃v H',Inv X pins σ H' s'/\RelV v u/\Q v H'
def TP (X:Cx)(pins:List (Addr×Obj))(σ:St)(Q:Bool->Hp->Prop)(b:Bool)(s':Shared):Prop:= ∃H',Inv X pins σ H' s'/\Q b H'
def AP (X:Cx)(pins:List (Addr×Obj))(σ:St)(Q:List V->Hp->Prop)(us:List Value)(s':Shared):Prop:= ∃vs H',Inv X pins σ H' s'/\Vals vs us/\Q vs H'
def SP (X:Cx)(pins:List (Addr×Obj))(D:Ends)(f:Flow)(s':Shared):Prop:=
 match f with
 |.next=> ∃σ' H',Inv X pins σ' H' s'/\D.nx σ' H'
 |.brk=> ∃σ' H',Inv X pins σ' H' s'/\D.bk σ' H'
 |.cont=> ∃σ' H',Inv X pins σ' H' s'/\D.ct σ' H'
 |.ret u=> ∃v σ' H',Inv X pins σ' H' s'/\RelV v u/\D.rt v H'
def PE (X:Cx)(e:Expr)(t:TE):Prop:=
 ∀ (pins:List (Addr×Obj)) (s:Shared) (σ:St) (H:Hp) (Q:VK),Inv X pins σ H s->t σ H Q->wpAny (model X.prog X.w) X.A (eval e X.env) (EP X pins σ Q) X.xe s
def PT (X:Cx)(e:Expr)(t:TT):Prop:=
 ∀ (pins:List (Addr×Obj)) (s:Shared) (σ:St) (H:Hp) (Q:Bool->Hp->Prop),Inv X pins σ H s->t σ H Q->wpAny (model X.prog X.w) X.A (isTrue e X.env (eval e X.env)) (TP X pins σ Q) X.xe s
def PW (X:Cx)(e:Expr)(t:TT):Prop:=
 ∀ (whole:Sem Value) (pins:List (Addr×Obj)) (s:Shared) (σ:St) (H:Hp) (Q:Bool->Hp->Prop),Inv X pins σ H s->t σ H Q->wpAny (model X.prog X.w) X.A (isTrue e X.env whole) (TP X pins σ Q) X.xe s
theorem PW.pt {X:Cx}{e:Expr}{t:TT}(h:PW X e t):PT X e t:=h _
def PA (X:Cx)(es:List Expr)(t:TA):Prop:=
 ∀ (pos:Pos) (pins:List (Addr×Obj)) (s:Shared) (σ:St) (H:Hp) (Q:List V->Hp->Prop),Inv X pins σ H s->t σ H Q->wpAny (model X.prog X.w) X.A (spliced (backTo pos (starEach es X.env))) (AP X pins σ Q) X.xe s
def PS (X:Cx)(st:Stmt)(t:TS):Prop:=
 ∀ (pins:List (Addr×Obj)) (s:Shared) (σ:St) (H:Hp) (D:Ends),Inv X pins σ H s->t D σ H->wpAny (model X.prog X.w) X.A (exec st X.env) (SP X pins D) X.xe s
def PSs (X:Cx)(st:List Stmt)(t:TS):Prop:=
 ∀ (pins:List (Addr×Obj)) (s:Shared) (σ:St) (H:Hp) (D:Ends),Inv X pins σ H s->t D σ H->wpAny (model X.prog X.w) X.A (execs st X.env) (SP X pins D) X.xe s
theorem thn {α:Type}{t:Sem α}{Q Q':α->Shared->Prop}{M:Model}{A:Around}{E:Value->Shared->Prop}{s:Shared}(h:wpAny M A t Q E s)(hQ: ∀a s,Q a s->Q' a s):wpAny M A t Q' E s:=wpAny_mono h hQ fun _ _ x=>x
end L2
namespace L2
open PySem PySem.Spec PyProof.Rows
section
variable {X:Cx}
theorem bin {a b:Expr}{ta tb:TE}(ha:PE X a ta)(hb:PE X b tb){pins:List (Addr×Obj)}{s:Shared}{σ:St}{H:Hp}{R:V->V->Hp->Prop}(I:Inv X pins σ H s)(h:ta σ H fun x H1=>tb σ H1 fun y H2=>R x y H2)
  {α:Type}{Q:α->Shared->Prop}{f:Value->Value->Sem α}
  (hf: ∀v u s2 x y H2,Inv X pins σ H2 s2->RelV x v->RelV y u->R x y H2->wpAny (model X.prog X.w) X.A (f v u) Q X.xe s2):
  wpAny (model X.prog X.w) X.A (eval a X.env) (fun v s₁=>wpAny (model X.prog X.w) X.A (eval b X.env) (fun u s₂=>wpAny (model X.prog X.w) X.A (f v u) Q X.xe s₂) X.xe s₁) X.xe s:=by
 refine thn (ha pins s σ H _ I h) fun v s1 qz=>?_
 obtain⟨x,H1,I1,r1,q1⟩:=qz
 refine thn (hb pins s1 σ H1 _ I1 q1) fun u s2 qz=>?_
 obtain⟨y,H2,I2,r2,q2⟩:=qz
 exact hf v u s2 x y H2 I2 r1 r2 q2
def tVar (i:Nat):TE:=fun σ H Q=> ∃v,σ[i]?=some (some v)/\Q v H
def tC (v:V):TE:=fun _ H Q=>Q v H
theorem xI {i:Nat}{x:Str}{pos:Pos}(hN:X.N[i]?=some x)(hv:Vis X.env.scope x)(hd:(x==("__debug__":Str))=false:=by decide)(hcd:(x==("__classdict__":Str))=false:=by decide):PE X (.Name x pos) (tVar i):=by
 intro pins s σ H Q I h
 obtain⟨v,e,h⟩:=h
 obtain⟨m,hn,hl⟩:=I.loc
 obtain⟨u,r,l⟩:=hl i x v hN e hv
 have fin:EP X pins σ Q u s:=⟨v,H,I,r,h⟩
 rcases l with⟨hk,hm⟩|⟨hk,c,hc,hcell⟩
 ·exact wpAny_Name (wpAny_loadName_local I.ok.kind hk hn hm fin) hd
 ·rcases hk with hk|hk
  ·exact wpAny_Name (wpAny_loadName_cell I.ok.kind hk hc hcell fin) hd
  ·exact wpAny_Name (wpAny_loadName_free I.ok.kind hk hc hcell fin hcd) hd
theorem pe_int {i j pos}:PE X (.Constant (.int i) j pos) (tC (.int i)):=fun _ _ _ H _ I h=>wpAny_Constant_int ⟨.int i,H,I.tok _,⟨_,rfl⟩,h⟩
theorem pe_bl {b j pos}:PE X (.Constant (.bool b) j pos) (tC (.bl b)):=fun _ _ _ H _ I h=>Constant_bool ⟨.bl b,H,I,rfl,h⟩
theorem pe_non {j pos}:PE X (.Constant .none j pos) (tC .non):=fun _ _ _ H _ I h=>Constant_none ⟨.non,H,I,rfl,h⟩
theorem pe_str {x j pos}:PE X (.Constant (.str x) j pos) (tC (.str x)):=fun _ _ _ H _ I h=>Calls.Constant_str ⟨.str x,H,I.tok _,⟨_,rfl⟩,h⟩
noncomputable def Gl (X:Cx)(x:Str):Prop:=X.env.kindOf x=some .globalImplicit
theorem mE {E:Value->Shared->Prop}{pins:List (Addr×Obj)}{s:Shared}{σ:St}{H:Hp}{x:Str}{u:Value}{pos:Pos}{Q:Value->Shared->Prop}(I:Inv X pins σ H s)(hg:Gl X x)(hm:X.mg x=some u)(h:Q u s)
  (hd:(x==("__debug__":Str))=false:=by decide):wpAny (model X.prog X.w) X.A (eval (.Name x pos) X.env) Q E s:=
 Calls.Name_function_global I.ok.kind hg (Calls.loadGlobal_global (by rw[I.ok.glob];exact I.mod.glob.keeps I.bk) hm h) hd
theorem gg {E:Value->Shared->Prop}{pins:List (Addr×Obj)}{s:Shared}{σ:St}{H:Hp}{x:Str}{u:Value}{pos:Pos}{Q:Value->Shared->Prop}(I:Inv X pins σ H s)(hg:Gl X x)(hm:X.mg x=none)(hv:bootBuiltins x=some u)(h:Q u s)
  (hn:x≠ "__name__":=by decide)(hd:(x==("__debug__":Str))=false:=by decide):wpAny (model X.prog X.w) X.A (eval (.Name x pos) X.env) Q E s:=by
 obtain⟨mb,h1,h2⟩:=I.mod.blt
 exact Calls.Name_function_global I.ok.kind hg (Calls.loadGlobal_builtin (by rw[I.ok.glob];exact I.mod.glob.keeps I.bk) hm (by rw[I.ok.blt];exact h1.keeps I.bk) ((h2 x hn).trans hv) h) hd
theorem vD {x:Str}{v:V}{u:Value}{pos:Pos}(hg:Gl X x)(hm:X.mg x=some u)(r:RelV v u)(hd:(x==("__debug__":Str))=false:=by decide):PE X (.Name x pos) (tC v):=
 fun _ _ _ H _ I h=>mE I hg hm ⟨v,H,I,r,h⟩ hd
theorem vH {x:Str}{v:V}{u:Value}{pos:Pos}(hg:Gl X x)(hm:X.mg x=none)(hv:bootBuiltins x=some u)(r:RelV v u)(hn:x≠ "__name__":=by decide)(hd:(x==("__debug__":Str))=false:=by decide):PE X (.Name x pos) (tC v):=
 fun _ _ _ H _ I h=>gg I hg hm hv ⟨v,H,I,r,h⟩ hn hd
variable {a b:Expr}{ta tb:TE}{pos:Pos}
def PC (X:Cx)(op:CmpOp)(a b:Expr)(t:TE):Prop:=
 ∀ (pins:List (Addr×Obj)) (s:Shared) (σ:St) (H:Hp) (Q:VK),Inv X pins σ H s->t σ H Q->
   wpAny (model X.prog X.w) X.A (eval a X.env) (fun v s₁=>wpAny (model X.prog X.w) X.A (eval b X.env) (fun u s₂=>wpAny (model X.prog X.w) X.A (compareOp op v u) (EP X pins σ Q) X.xe s₂) X.xe s₁) X.xe s
def tB (t:TE):TT:=fun σ H Q=>t σ H fun x H1=> ∃c,x=.bl c/\Q c H1
theorem zU {op:CmpOp}{t:TE}(h:PC X op a b t)(h1:behindInMarks op b=false:=by first|exact nobehind _ (by decide) (by decide)|rfl):PT X (.Compare a [op] [b] pos) (tB t):=by
 intro pins s σ H Q I hw
 refine wpAny_isTrue_Compare1 (thn (h pins s σ H _ I hw) fun v s1 h1=>thn h1 fun u s2 h2=>thn h2 fun c s3 qz=>?_) h1
 obtain⟨x,H1,I1,r1,q1⟩:=qz
 obtain⟨d,rfl,q⟩:=q1
 cases r1
 exact wpAny_truthy_bool ⟨H1,I1,q⟩
theorem xw {e:Expr}{t:TE}(h:PE X e t)(he: ∀whole,isTrue e X.env whole=(do let v<-whole;standAt e.pos;holding [v] (truthy v)):=by intro _;rfl):PT X e (tB t):=by
 intro pins s σ H Q I hw
 refine isTrue_plain (thn (h pins s σ H _ I hw) fun v s1 qz=>?_) (he _)
 obtain⟨x,H1,I1,r1,q1⟩:=qz
 obtain⟨d,rfl,q⟩:=q1
 cases r1
 exact wpAny_truthy_bool ⟨H1,I1,q⟩
variable {tA tB':TT}{rest:List Expr}
def tAnd (t u:TT):TT:=fun σ H Q=>t σ H fun c H1=>if c=true then u σ H1 Q else Q false H1
def tOr (t u:TT):TT:=fun σ H Q=>t σ H fun c H1=>if c=true then Q true H1 else u σ H1 Q
def tNot (t:TT):TT:=fun σ H Q=>t σ H fun c H1=>Q (!c) H1
theorem vg (ha:PT X a tA):PW X (.BoolOp .And [a] pos) tA:=by
 intro wh pins s σ H Q I h
 refine isTrue_and (thn (ha pins s σ H Q I h) fun c s1 e=>?_)
 cases c with
 |true=>exact isTrue_and_nil e
 |false=>exact e
theorem xu (ha:PT X a tA):PW X (.BoolOp .Or [a] pos) tA:=by
 intro wh pins s σ H Q I h
 refine isTrue_or (thn (ha pins s σ H Q I h) fun c s1 e=>?_)
 cases c with
 |false=>exact isTrue_or_nil e
 |true=>exact e
theorem xv (ha:PT X a tA)(hb:PW X (.BoolOp .And (b::rest) pos) tB'):PW X (.BoolOp .And (a::b::rest) pos) (tAnd tA tB'):=by
 intro wh pins s σ H Q I h
 refine isTrue_and (thn (ha pins s σ H _ I h) fun c s1 qz=>?_)
 obtain⟨H1,I1,q1⟩:=qz
 cases c with
 |true=>exact hb wh pins s1 σ H1 Q I1 q1
 |false=>exact⟨H1,I1,q1⟩
theorem y9 (ha:PT X a tA)(hb:PW X (.BoolOp .Or (b::rest) pos) tB'):PW X (.BoolOp .Or (a::b::rest) pos) (tOr tA tB'):=by
 intro wh pins s σ H Q I h
 refine isTrue_or (thn (ha pins s σ H _ I h) fun c s1 qz=>?_)
 obtain⟨H1,I1,q1⟩:=qz
 cases c with
 |true=>exact⟨H1,I1,q1⟩
 |false=>exact hb wh pins s1 σ H1 Q I1 q1
theorem xx (ha:PT X a tA):PT X (.UnaryOp .Not a pos) (tNot tA):=by
 intro pins s σ H Q I h
 exact isTrue_not (ha pins s σ H (fun c H1=>Q (!c) H1) I h)
def tAndV (ta tb:TE):TE:=fun σ H Q=>ta σ H fun x H1=> ∃c,x=.bl c/\if c=true then tb σ H1 Q else Q (.bl false) H1
def tNotV (ta:TE):TE:=fun σ H Q=>ta σ H fun x H1=> ∃c,x=.bl c/\Q (.bl (!c)) H1
theorem xJ {op}{t:TE}(h:PE X a t):PE X (.BoolOp op [a] pos) t:=fun pins s σ H Q I hw=>BoolOp_one (h pins s σ H Q I hw)
theorem xN (ha:PE X a ta)(hb:PE X (.BoolOp .And (b::rest) pos) tb):PE X (.BoolOp .And (a::b::rest) pos) (tAndV ta tb):=by
 intro pins s σ H Q I h
 refine BoolOp_and (thn (ha pins s σ H _ I h) fun v s1 qz=>?_)
 obtain⟨x,H1,I1,r1,q1⟩:=qz
 obtain⟨c,rfl,q1⟩:=q1
 cases r1
 refine wpAny_truthy_bool ?_
 cases c with
 |true=>exact hb pins s1 σ H1 Q I1 q1
 |false=>exact⟨.bl false,H1,I1,rfl,q1⟩
theorem xK (ha:PE X a ta):PE X (.UnaryOp .Not a pos) (tNotV ta):=by
 intro pins s σ H Q I h
 refine UnaryOp_ (thn (ha pins s σ H _ I h) fun v s1 qz=>?_)
 obtain⟨x,H1,I1,r1,q1⟩:=qz
 obtain⟨c,rfl,q1⟩:=q1
 cases r1
 exact not_of (wpAny_truthy_bool ⟨.bl (!c),H1,I1,rfl,q1⟩)
def tIf (t:TT)(ta tb:TE):TE:=fun σ H Q=>t σ H fun c H1=>if c=true then ta σ H1 Q else tb σ H1 Q
theorem sT {c:Expr}(hc:PT X c tA)(ha:PE X a ta)(hb:PE X b tb):PE X (.IfExp c a b pos) (tIf tA ta tb):=by
 intro pins s σ H Q I h
 refine wpAny_IfExp (thn (hc pins s σ H _ I h) fun d s1 qz=>?_)
 obtain⟨H1,I1,q1⟩:=qz
 cases d with
 |true=>exact ha pins s1 σ H1 Q I1 q1
 |false=>exact hb pins s1 σ H1 Q I1 q1
end
end L2
namespace L2
open PySem PySem.Spec PyProof.Rows
def SqL (K:PySem.W.Frag)(H:Hp)(a:Addr)(xs:List V):Prop:=
 Rd H a (.lst xs)\/
  ∃ (o:Obj) (its:Array Value) (n:Nat),K.lookup a=some o/\o.cls=.type "list"/\o.dict=none/\o.data=.seq its n/\its.size<=sizeLine/\Vals xs its.toList
def SqT (K:PySem.W.Frag)(H:Hp)(a:Addr)(xs:List V):Prop:=
 Rd H a (.tup xs)\/
  ∃ (o:Obj) (its:Array Value) (n:Nat),K.lookup a=some o/\o.cls=.type "tuple"/\o.data=.seq its n/\its.size<=sizeLine/\Vals xs its.toList
noncomputable def absV:Value->Option V
 |.none=>some .non
 |.bool b=>some (.bl b)
 |.int i _=>some (.int i)
 |.str x _=>some (.str x)
 |.bytes b _=>some (.byt b)
 |.float b _=>some (.flt b)
 |.ref a=>some (.ref a)
 |.type n=>some (.ty n)
 |_=>none
theorem RelV.abs {x:V}{u:Value}(r:RelV x u):absV u=some x:=by
 cases x with
 |non=>cases r;rfl
 |bl _=>cases r;rfl
 |int _=>obtain⟨t,rfl⟩:=r;rfl
 |str _=>obtain⟨t,rfl⟩:=r;rfl
 |byt _=>obtain⟨t,rfl⟩:=r;rfl
 |flt _=>obtain⟨t,rfl⟩:=r;rfl
 |ref _=>cases r;rfl
 |ty _=>cases r;rfl
theorem RelV.inj {x y:V}{u:Value}(r:RelV x u)(q:RelV y u):x=y:=Option.some.inj (r.abs.symm.trans q.abs)
theorem Vals.inj: ∀ {xs ys:List V}{us:List Value},Vals xs us->Vals ys us->xs=ys
 :=by
 intro xs ys us h
 induction h generalizing ys with
 |nil=>intro g;cases g;rfl
 |cons r t ih=>
  intro g
  cases g with
  |cons r' t'=>rw[r.inj r',ih t']
section
variable {X:Cx}{pins:List (Addr×Obj)}{σ:St}{H:Hp}{s:Shared}{a:Addr}{xs ys:List V}
theorem SqL.of {K:PySem.W.Frag}(h:H a=some (.lst xs)):SqL K H a xs:=.inl (.inl h)
theorem SqT.of {K:PySem.W.Frag}(h:H a=some (.tup xs)):SqT K H a xs:=.inl (.inl h)
theorem Inv.list (I:Inv X pins σ H s)(h:SqL X.K H a xs): ∃its:List Value,Vals xs its/\PlainL s.heap a its.toArray/\xs.length<=sizeLine:=by
 rcases h with h|⟨o,its,n,hk,hc,hd,hs,hz,r⟩
 ·obtain⟨z,its,n,r,e⟩:=h.ok I.hok
  exact⟨its,r,⟨_,n,e,rfl,rfl,rfl⟩,z⟩
 ·refine⟨its.toList,r,⟨o,n,I.kIn a o hk,hc,hd,by simpa using hs⟩,?_⟩
  have e:=r.length
  simp only[Array.length_toList] at e
  omega
theorem Inv.tuple (I:Inv X pins σ H s)(h:SqT X.K H a xs): ∃its:List Value,Vals xs its/\IsTup s.heap a its.toArray/\xs.length<=sizeLine:=by
 rcases h with h|⟨o,its,n,hk,hc,hs,hz,r⟩
 ·obtain⟨z,its,r,p⟩:=h.ok I.hok
  exact⟨its,r,p.1,z⟩
 ·refine⟨its.toList,r,⟨o,I.kIn a o hk,hc,n,by simpa using hs⟩,?_⟩
  have e:=r.length
  simp only[Array.length_toList] at e
  omega
theorem Inv.list_inj (I:Inv X pins σ H s)(h:SqL X.K H a xs)(h':SqL X.K H a ys):xs=ys:=by
 obtain⟨its,r,⟨o,n,e,_,_,d⟩,_⟩:=I.list h
 obtain⟨its',r',⟨o',n',e',_,_,d'⟩,_⟩:=I.list h'
 rw[e] at e';cases e'
 rw[d] at d'
 injection d' with d1 _
 have:its=its':=by simpa using congrArg Array.toList d1
 subst this
 exact r.inj r'
theorem Inv.tuple_inj (I:Inv X pins σ H s)(h:SqT X.K H a xs)(h':SqT X.K H a ys):xs=ys:=by
 obtain⟨its,r,⟨o,e,_,n,d⟩,_⟩:=I.tuple h
 obtain⟨its',r',⟨o',e',_,n',d'⟩,_⟩:=I.tuple h'
 rw[e] at e';cases e'
 rw[d] at d'
 injection d' with d1 _
 have:its=its':=by simpa using congrArg Array.toList d1
 subst this
 exact r.inj r'
end
noncomputable abbrev Cx.wish (X:Cx)(E:Value->Shared->Prop):Cx:={X with xe:=E}
noncomputable abbrev Cx.nox (X:Cx):Cx:=X.wish fun _ _=>False
theorem Cx.Ok.wish {X:Cx}(ok:X.Ok)(E:Value->Shared->Prop):(X.wish E).Ok:=
 ⟨ok.mod,ok.kind,ok.glob,ok.blt,ok.above,ok.inj,ok.has,ok.cab,ok.hd,ok.frames,ok.stk,ok.exf,ok.bs,ok.bsz,ok.noex,ok.exfs,ok.funs,ok.frf⟩
theorem Cx.Ok.unwish {X:Cx}{E:Value->Shared->Prop}(ok:(X.wish E).Ok):X.Ok:=
 ⟨ok.mod,ok.kind,ok.glob,ok.blt,ok.above,ok.inj,ok.has,ok.cab,ok.hd,ok.frames,ok.stk,ok.exf,ok.bs,ok.bsz,ok.noex,ok.exfs,ok.funs,ok.frf⟩
section
variable {X:Cx}{pins:List (Addr×Obj)}{σ:St}{H:Hp}{s:Shared}{E:Value->Shared->Prop}
theorem Inv.wish (I:Inv X pins σ H s)(E:Value->Shared->Prop):Inv (X.wish E) pins σ H s:=⟨I.ok.wish E,I.os,I.bare,I.base,I.loc,I.cell,I.free,I.freeC,I.pin,I.hok,I.len⟩
theorem Inv.unwish (I:Inv (X.wish E) pins σ H s):Inv X pins σ H s:=⟨I.ok.unwish,I.os,I.bare,I.base,I.loc,I.cell,I.free,I.freeC,I.pin,I.hok,I.len⟩
theorem SP.unwish {D:Ends}{f:Flow}{s':Shared}(h:SP (X.wish E) pins D f s'):SP X pins D f s':=by
 cases f with
 |next=>obtain⟨σ',H',I,q⟩:=h;exact⟨σ',H',I.unwish,q⟩
 |brk=>obtain⟨σ',H',I,q⟩:=h;exact⟨σ',H',I.unwish,q⟩
 |cont=>obtain⟨σ',H',I,q⟩:=h;exact⟨σ',H',I.unwish,q⟩
 |ret u=>obtain⟨v,σ',H',I,r,q⟩:=h;exact⟨v,σ',H',I.unwish,r,q⟩
theorem PSs.nox {st:List Stmt}{t:TS}(h:PSs X.nox st t):PSs X st t:=fun pins s σ H D I hw=>
 wpAny_mono (h pins s σ H D (I.wish _) hw) (fun _ _ q=>q.unwish) fun _ _ z=>False.elim z
end
section
variable {X:Cx}{st:Stmt}{rest:List Stmt}{t u:TS}{e:Expr}{te:TE}{pos:Pos}
def tNext:TS:=fun D σ H=>D.nx σ H
def tSeq (t u:TS):TS:=fun D σ H=>t {D with nx:=u D} σ H
theorem pss_nil:PSs X [] tNext:=fun _ _ σ H _ I h=>wpAny_execs_nil ⟨σ,H,I,h⟩
theorem sJ (h1:PS X st t)(h2:PSs X rest u):PSs X (st::rest) (tSeq t u):=by
 intro pins s σ H D I h
 refine wpAny_execs_cons (thn (h1 pins s σ H {D with nx:=u D} I h) fun f s1 q=>?_)
 cases f with
 |next=>
  obtain⟨σ',H',I',q⟩:=q
  exact h2 pins s1 σ' H' D I' q
 |ret v=>exact q
 |brk=>exact q
 |cont=>exact q
theorem vk (h1:PS X st t):PSs X [st] t:=by
 intro pins s σ H D I h
 refine wpAny_execs_cons (thn (h1 pins s σ H D I h) fun f s1 q=>?_)
 cases f with
 |next=>exact wpAny_execs_nil q
 |ret v=>exact q
 |brk=>exact q
 |cont=>exact q
theorem Inv.quiet {pins:List (Addr×Obj)}{σ:St}{H:Hp}{s:Shared}(I:Inv X pins σ H s):interactive X.env=false:=by simp [interactive,I.ok.kind]
def tDrop (te:TE):TS:=fun D σ H=>te σ H fun _ H1=>D.nx σ H1
theorem vm (he:PE X e te)(hs:swapsWith e none pos.line X.env=pure false:=by rfl):PS X (.Expr e pos) (tDrop te):=by
 intro pins s σ H D I h
 exact wpAny_Expr_any (thn (he pins s σ H _ I h) fun v s1 ⟨x,H1,I1,r1,q1⟩=>⟨σ,H1,I1,q1⟩) I.quiet hs
def tRet (te:TE):TS:=fun D σ H=>te σ H D.rt
theorem xz (he:PE X e te):PS X (.Return (some e) pos) (tRet te):=by
 intro pins s σ H D I h
 exact wpAny_Return_some (thn (he pins s σ H _ I h) fun v s1 ⟨x,H1,I1,r1,q1⟩=>⟨x,σ,H1,I1,r1,q1⟩)
def tIfS (c:TT)(t u:TS):TS:=fun D σ H=>c σ H fun b H1=>if b=true then t D σ H1 else u D σ H1
theorem za {c:Expr}{a b:List Stmt}{tc:TT}(hc:PT X c tc)(ha:PSs X a t)(hb:PSs X b u):PS X (.If c a b pos) (tIfS tc t u):=by
 intro pins s σ H D I h
 refine wpAny_If (thn (hc pins s σ H _ I h) fun d s1 qz=>?_)
 obtain⟨H1,I1,q1⟩:=qz
 cases d with
 |true=>exact ha pins s1 σ H1 D I1 q1
 |false=>exact hb pins s1 σ H1 D I1 q1
end
noncomputable abbrev TG:=V->St->Hp->(St->Hp->Prop)->Prop
noncomputable abbrev TGs:=List V->St->Hp->(St->Hp->Prop)->Prop
def PG (X:Cx)(target:Expr)(t:TG):Prop:=
 ∀ (pins:List (Addr×Obj)) (s:Shared) (σ:St) (H:Hp) (v:V) (u:Value) (Q:St->Hp->Prop),Inv X pins σ H s->RelV v u->t v σ H Q->
   wpAny (model X.prog X.w) X.A (assign target X.env u) (fun _ s'=> ∃σ' H',Inv X pins σ' H' s'/\Q σ' H') X.xe s
def PGs (X:Cx)(ts:List Expr)(t:TGs):Prop:=
 ∀ (pins:List (Addr×Obj)) (s:Shared) (σ:St) (H:Hp) (vs:List V) (us:List Value) (Q:St->Hp->Prop),Inv X pins σ H s->Vals vs us->t vs σ H Q->
   wpAny (model X.prog X.w) X.A (assignInOrder ((assignEach ts X.env).map (·.2)) us) (fun _ s'=> ∃σ' H',Inv X pins σ' H' s'/\Q σ' H') X.xe s
noncomputable abbrev TSet:=V->V->V->Hp->(Hp->Prop)->Prop
def PSet (X:Cx)(t:TSet):Prop:=
 ∀ (pins:List (Addr×Obj)) (s:Shared) (σ:St) (H:Hp) (o i v:V) (ov iv u:Value) (Q:Hp->Prop),Inv X pins σ H s->RelV o ov->RelV i iv->RelV v u->t o i v H Q->
   wpAny (model X.prog X.w) X.A (setItem ov iv u) (fun _ s'=> ∃H',Inv X pins σ H' s'/\Q H') X.xe s
noncomputable abbrev TIp:=V->V->Hp->VK->Prop
def PIp (X:Cx)(op:Operator)(t:TIp):Prop:=
 ∀ (pins:List (Addr×Obj)) (s:Shared) (σ:St) (H:Hp) (x y:V) (v u:Value) (Q:VK),Inv X pins σ H s->RelV x v->RelV y u->t x y H Q->
   wpAny (model X.prog X.w) X.A (inplaceOp op v u) (EP X pins σ Q) X.xe s
section
variable {X:Cx}{pos:Pos}
def gName (i:Nat):TG:=fun v σ H Q=>Q (σ.set i (some v)) H
theorem aO {i:Nat}{x:Str}(hN:X.N.Nodup)(hi:X.N[i]?=some x)(hx:Loc X.env.scope x)(hf:X.fn x=true\/X.env.scope.names.lookup x=some .local :=by first|exact .inl rfl|exact .inr rfl|assumption):PG X (.Name x pos) (gName i):=by
 intro pins s σ H v u Q I r h
 exact wpAny_assign_Name (jJ I hN hi hx r (fun s' I'=>⟨_,H,I',h⟩) hf)
def gNil:TGs:=fun vs σ H Q=>vs=[]/\Q σ H
def gCons (t:TG)(u:TGs):TGs:=fun vs σ H Q=> ∃v r,vs=v::r/\t v σ H fun σ' H'=>u r σ' H' Q
theorem fV:PGs X [] gNil:=by
 intro pins s σ H vs us Q I r h
 obtain⟨e,h⟩:=h
 subst e
 cases r
 exact assignInOrder_nil ⟨σ,H,I,h⟩
theorem bL {e:Expr}{es:List Expr}{t:TG}{u:TGs}(h1:PG X e t)(h2:PGs X es u)
  (hs:(assignEach (e::es) X.env).map (·.2)=assign e X.env::(assignEach es X.env).map (·.2):=by rfl):PGs X (e::es) (gCons t u):=by
 intro pins s σ H vs us Q I r h
 obtain⟨v,vr,e1,h⟩:=h
 subst e1
 cases r with
 |cons r rr=>
  rw[hs]
  refine assignInOrder_cons (thn (h1 pins s σ H _ _ _ I r h) fun _ s1 qz=>?_)
  obtain⟨σ1,H1,I1,q1⟩:=qz
  exact h2 pins s1 σ1 H1 _ _ Q I1 rr q1
def gTup (K:PySem.W.Frag)(n:Nat)(t:TGs):TG:=fun v σ H Q=> ∃a xs,v=.ref a/\SqT K H a xs/\xs.length=n/\t xs σ H Q
theorem hV {es:List Expr}{k:Nat}{t:TGs}{n:Nat}(hc:X.calm=true)(h:PGs X es t)
  (hn:(assignEach es X.env).length=n:=by rfl)(hst:(assignEach es X.env).findIdx? (·.1)=none:=by rfl):PG X (.Tuple es k pos) (gTup X.K n t):=by
 intro pins s σ H v u Q I r hw
 obtain⟨a,xs,e1,hq,hl,hw⟩:=hw
 subst e1
 cases r
 obtain⟨its,rv,ht,hz⟩:=I.tuple hq
 refine assign_Tuple_tuple (I.ok.hd hc) ht (by simp [hn,<-hl,rv.length]) hst fun h' hx=>?_
 have I1:Inv X pins σ H {s with heap:=h'}:=I.kept (t':=s.toks) fun b o e=>hx b o (Nat.ne_of_lt (Heap.lt_size e)) e
 exact h pins _ σ H xs _ Q I1 (by simpa using rv) hw
def gSub (to ti:TE)(t:TSet):TG:=fun v σ H Q=>to σ H fun o H1=>ti σ H1 fun i H2=>t o i v H2 fun H3=>Q σ H3
theorem xH {o i:Expr}{to ti:TE}{t:TSet}(ho:PE X o to)(hi:PE X i ti)(hs:PSet X t)
  (ha: ∀v,assign (.Subscript o i pos) X.env v=(do
   let ov<-holding [v] (eval o X.env)
   let iv<-holding [v,ov] (eval i X.env)
   standAt pos
   holding [v,ov,iv] (setItem ov iv v)
   release [v,ov,iv] []):=by intro _;rfl):PG X (.Subscript o i pos) (gSub to ti t):=by
 intro pins s σ H v u Q I r h
 rw[ha]
 refine wpAny_bind (wpAny_holding (thn (ho pins s σ H _ I h) fun ov s1 qz=>?_))
 obtain⟨x,H1,I1,r1,q1⟩:=qz
 refine wpAny_bind (wpAny_holding (thn (hi pins s1 σ H1 _ I1 q1) fun iv s2 qz=>?_))
 obtain⟨y,H2,I2,r2,q2⟩:=qz
 refine wpAny_bind (wpAny_standAt (wpAny_bind (wpAny_holding (thn (hs pins s2 σ H2 x y v ov iv u _ I2 r1 r2 r q2) fun _ s3 qz=>?_))))
 obtain⟨H3,I3,q3⟩:=qz
 exact wpAny_release ⟨σ,H3,I3,q3⟩
def tAsg (te:TE)(g:TG):TS:=fun D σ H=>te σ H fun x H1=>g x σ H1 D.nx
theorem sL {tg e:Expr}{te:TE}{g:TG}(he:PE X e te)(hg:PG X tg g)(hs:swapsWithSole [tg] e pos.line X.env=pure false:=by rfl)(hw:swappedStores [tg] e X.env=pure none:=by rfl)
  (h1:(assignEach [tg] X.env).map (·.2)=[assign tg X.env]:=by rfl):PS X (.Assign [tg] e pos) (tAsg te g):=by
 intro pins s σ H D I h
 refine wpAny_Assign_stores (thn (he pins s σ H _ I h) fun v s1 qz=>?_) hs hw
 obtain⟨x,H1,I1,r1,q1⟩:=qz
 rw[h1]
 exact thn (hg pins s1 σ H1 x v _ I1 r1 q1) fun _ s2 q=>q
theorem xy {i:Nat}{x:Str}{e:Expr}{te:TE}{pos':Pos}(hN:X.N.Nodup)(hi:X.N[i]?=some x)(hx:Loc X.env.scope x)(he:PE X e te)(hs:swapsWith e (some (.Name x pos')) pos.line X.env=pure false:=by rfl)(hf:X.fn x=true\/X.env.scope.names.lookup x=some .local :=by first|exact .inl rfl|exact .inr rfl|assumption):
  PS X (.Assign [.Name x pos'] e pos) (tAsg te (gName i)):=by
 intro pins s σ H D I h
 refine wpAny_Assign_Name (thn (he pins s σ H _ I h) fun v s1 qz=>?_) hs
 obtain⟨y,H1,I1,r1,q1⟩:=qz
 exact jJ I1 hN hi hx r1 (fun s2 I2=>⟨_,H1,I2,q1⟩) hf
def tAug (i:Nat)(te:TE)(ti:TIp):TS:=fun D σ H=> ∃x,σ[i]?=some (some x)/\te σ H fun y H1=>ti x y H1 fun z H2=>D.nx (σ.set i (some z)) H2
theorem xC {i:Nat}{x:Str}{e:Expr}{te:TE}{op:Operator}{ti:TIp}{pos':Pos}(hN:X.N.Nodup)(hi:X.N[i]?=some x)(hx:Loc X.env.scope x)(he:PE X e te)(ho:PIp X op ti)(hf:X.fn x=true\/X.env.scope.names.lookup x=some .local :=by first|exact .inl rfl|exact .inr rfl|assumption):
  PS X (.AugAssign (.Name x pos') op e pos) (tAug i te ti):=by
 intro pins s σ H D I h
 obtain⟨v,e1,h⟩:=h
 obtain⟨m,hn,hl⟩:=I.loc
 have vis:Vis X.env.scope x:=by rcases hx with k|k;exact .inl k;exact .inr (.inl k)
 obtain⟨u,r,l⟩:=hl i x v hi e1 vis
 refine wpAny_AugAssign_Name ?_
 have go:wpAny (model X.prog X.w) X.A (eval e X.env) (fun w s₂=>wpAny (model X.prog X.w) X.A (inplaceOp op u w) (fun r s₃=>wpAny (model X.prog X.w) X.A (storeName X.env x r) (fun _=>SP X pins D .next) X.xe s₃) X.xe s₂) X.xe s:=by
  refine thn (he pins s σ H _ I h) fun w s1 qz=>?_
  obtain⟨y,H1,I1,r1,q1⟩:=qz
  refine thn (ho pins s1 σ H1 v y u w _ I1 r r1 q1) fun z s2 qz=>?_
  obtain⟨zv,H2,I2,r2,q2⟩:=qz
  exact jJ I2 hN hi hx r2 (fun s3 I3=>⟨_,H2,I3,q2⟩) hf
 rcases l with⟨hk,hm⟩|⟨hk,c,hc,hcell⟩
 ·exact wpAny_loadName_local I.ok.kind hk hn hm go
 ·rcases hk with hk|hk
  ·exact wpAny_loadName_cell I.ok.kind hk hc hcell go
  ·rcases hx with k|k
   ·have:X.env.scope.names.lookup x=some .free:=hk
    rw[k] at this;cases this
   ·have:X.env.scope.names.lookup x=some .free:=hk
    rw[k] at this;cases this
def tAugS (to ti te:TE)(tget:V->V->Hp->VK->Prop)(tip:TIp)(tset:TSet):TS:=fun D σ H=>to σ H fun o H1=>ti σ H1 fun i H2=>tget o i H2 fun x H3=>te σ H3 fun y H4=>tip x y H4 fun z H5=>tset o i z H5 fun H6=>D.nx σ H6
def PGet (X:Cx)(t:V->V->Hp->VK->Prop):Prop:=
 ∀ (pins:List (Addr×Obj)) (s:Shared) (σ:St) (H:Hp) (o i:V) (ov iv:Value) (Q:VK),Inv X pins σ H s->RelV o ov->RelV i iv->t o i H Q->
   wpAny (model X.prog X.w) X.A (getItem ov iv) (EP X pins σ Q) X.xe s
theorem vn {o i e:Expr}{to ti te:TE}{tget:V->V->Hp->VK->Prop}{tip:TIp}{tset:TSet}{op:Operator}{tpos:Pos}(ho:PE X o to)(hi:PE X i ti)(hg:PGet X tget)(he:PE X e te)(hp:PIp X op tip)(hs:PSet X tset)
  (ha: ∀ov iv new,augStore i ov iv new=(do holding [new,ov,iv] (setItem ov iv new);release [new,ov,iv] [];pure .next):=by intros;rfl):PS X (.AugAssign (.Subscript o i tpos) op e pos) (tAugS to ti te tget tip tset):=by
 intro pins s σ H D I h
 refine wpAny_AugAssign_SubscriptAny (thn (ho pins s σ H _ I h) fun ov s1 qz=>?_) ha
 obtain⟨x1,H1,I1,r1,q1⟩:=qz
 refine thn (hi pins s1 σ H1 _ I1 q1) fun iv s2 qz=>?_
 obtain⟨x2,H2,I2,r2,q2⟩:=qz
 refine thn (hg pins s2 σ H2 x1 x2 ov iv _ I2 r1 r2 q2) fun old s3 qz=>?_
 obtain⟨x3,H3,I3,r3,q3⟩:=qz
 refine thn (he pins s3 σ H3 _ I3 q3) fun v s4 qz=>?_
 obtain⟨x4,H4,I4,r4,q4⟩:=qz
 refine thn (hp pins s4 σ H4 x3 x4 old v _ I4 r3 r4 q4) fun new s5 qz=>?_
 obtain⟨x5,H5,I5,r5,q5⟩:=qz
 exact thn (hs pins s5 σ H5 x1 x2 x5 ov iv new _ I5 r1 r2 r5 q5) fun _ s6 ⟨H6,I6,q6⟩=>⟨σ,H6,I6,q6⟩
end
section
variable {X:Cx}{pos:Pos}
def xg (c:TT)(tb:TS):TS:=fun D σ H=> ∃W:Nat->St->Hp->Prop,(∃m,W m σ H)/\ ∀m σ H,W m σ H->
 c σ H fun b H1=>if b=true then∃N:St->Hp->Prop,(∀σ' H',N σ' H'-> ∃m',m'<m/\W m' σ' H')/\tb {D with nx:=N,ct:=N,bk:=D.nx} σ H1 else D.nx σ H1
theorem sK {c:Expr}{body:List Stmt}{tc:TT}{tb:TS}(hp:PassesOwn (model X.prog X.w) X.A X.env X.xe)(hc:PT X c tc)(hb:PSs X body tb):PS X (.While c body [] pos) (xg tc tb):=by
 intro pins s σ H D I h
 obtain⟨W,⟨m0,w0⟩,turn⟩:=h
 refine wpAny_While (codeAny_whileLoop (fun n s'=> ∃σ' H',Inv X pins σ' H' s'/\W n σ' H') ?_ m0 ⟨σ,H,I,w0⟩)
 rintro n s1 ⟨σ1,H1,I1,w1⟩
 refine wpAny_passesOwn hp (thn (hc pins s1 σ1 H1 _ I1 (turn n σ1 H1 w1)) fun b s2 qz=>?_)
 obtain⟨H2,I2,q2⟩:=qz
 cases b with
 |true=>
  obtain⟨N,hN,q2⟩:=q2
  rw[if_pos rfl]
  refine wpAny_passesOwn hp (thn (hb pins s2 σ1 H2 _ I2 q2) fun f s3 q3=>?_)
  cases f with
  |next=>
   obtain⟨σ3,H3,I3,n3⟩:=q3
   obtain⟨m',hm,w3⟩:=hN σ3 H3 n3
   exact⟨m',hm,σ3,H3,I3,w3⟩
  |cont=>
   obtain⟨σ3,H3,I3,n3⟩:=q3
   obtain⟨m',hm,w3⟩:=hN σ3 H3 n3
   exact⟨m',hm,σ3,H3,I3,w3⟩
  |brk=>exact q3
  |ret v=>exact q3
 |false=>
  rw[if_neg Bool.false_ne_true]
  exact wpAny_execs_nil ⟨σ1,H2,I2,q2⟩
end
structure It where
 go:Nat->Hp->Prop
 yld:Nat->Hp->V->Hp->Prop
 stop:Nat->Hp->Prop
def FpOk (X:Cx)(pins:List (Addr×Obj))(H:Hp)(b:Addr):Prop:=
 H b=none/\b≠X.env.locals/\b ∉ X.fs/\(b∈X.ex\/X.s₀.heap.objs.size<=b)/\(∀x c,X.env.cells.lookup x=some c->c≠b)/\ ∀p∈X.pn++pins,p.1≠b
theorem Inv.fpOk {X:Cx}{pins:List (Addr×Obj)}{σ:St}{H H':Hp}{s:Shared}{b:Addr}(I:Inv X pins σ H s)(hb:s.heap.objs.size<=b)(hn:H' b=none):FpOk X pins H' b:=by
 refine⟨hn,Nat.ne_of_gt (Nat.lt_of_lt_of_le I.lt hb),I.nofs hb,.inr (Nat.le_trans I.sz hb),fun x c e z=>?_,fun p hp z=>?_⟩
 ·obtain⟨v,q⟩:=I.cell x c e
  exact absurd (Nat.lt_of_lt_of_le q.lt (by rw[z];exact hb)) (Nat.lt_irrefl _)
 ·exact absurd (Nat.lt_of_lt_of_le (Heap.lt_size (I.pin p hp).1) (by rw[z];exact hb)) (Nat.lt_irrefl _)
structure Turn (P:Program)(w:World)(K:PySem.W.Frag)(tg:Expr)(J:It)(fp:List Addr)(it:Addr)(tn:Nat->Heap->Prop):Prop where
 mem:it∈fp
 obj: ∀i h,tn i h-> ∀b∈fp,∃o,h.get? b=some o/\ ∀v,o.data≠.cell v
 keep: ∀i h h',tn i h->(∀b∈fp,∀o,h.get? b=some o->h'.get? b=some o)->tn i h'
 item: ∀ (X:Cx),X.prog=P->X.w=w->X.K=K->X.calm=true-> ∀ (i:Nat) (pins:List (Addr×Obj)) (s:Shared) (σ:St) (H:Hp) (E:Value->Shared->Prop),Inv X pins σ H s->(∀b∈fp,FpOk X pins H b)->tn i s.heap->J.go i H->
  wpAny (model P w) X.A (pyNext (.ref it)) (fun r s1=> ∃u,r=some u/\
   wpAny (model P w) X.A (letOwnedTupleGo tg (.ref it) u) (fun _ s2=> ∃x H',Inv X pins σ H' s2/\RelV x u/\J.yld i H x H'/\tn (i+1) s2.heap/\ ∀b∈fp,H' b=none) E s1) E s
 done: ∀ (X:Cx),X.prog=P->X.w=w->X.K=K->X.calm=true-> ∀ (i:Nat) (pins:List (Addr×Obj)) (s:Shared) (σ:St) (H:Hp) (E:Value->Shared->Prop),Inv X pins σ H s->(∀b∈fp,FpOk X pins H b)->tn i s.heap->J.stop i H->
  wpAny (model P w) X.A (pyNext (.ref it)) (fun r s1=>r=none/\Inv X pins σ H s1) E s
 self: ∀ (A:Around) (i:Nat) (s:Shared) (Q:Value->Shared->Prop) (E:Value->Shared->Prop),tn i s.heap->Q (.ref it) s->wpAny (model P w) A (pyIter (.ref it)) Q E s
noncomputable abbrev TI:=St->Hp->(It->Hp->Prop)->Prop
def PIE (X:Cx)(pins:List (Addr×Obj))(σ:St)(tg:Expr)(R:It->Hp->Prop)(itv:Value)(s2:Shared):Prop:=
 ∃ (it:Addr) (fp:List Addr) (tn:Nat->Heap->Prop) (J:It) (H':Hp),itv=.ref it/\Inv X pins σ H' s2/\Turn X.prog X.w X.K tg J fp it tn/\tn 0 s2.heap/\(∀b∈fp,FpOk X pins H' b)/\R J H'
def PI (X:Cx)(tg iter:Expr)(wi:TI):Prop:=
 ∀ (pins:List (Addr×Obj)) (s:Shared) (σ:St) (H:Hp) (R:It->Hp->Prop),Inv X pins σ H s->wi σ H R->
   wpAny (model X.prog X.w) X.A (eval iter X.env) (fun v s1=>wpAny (model X.prog X.w) X.A (pyIter v) (PIE X pins σ tg R) X.xe s1) X.xe s
theorem ut {M:Model}{A:Around}{E:Value->Shared->Prop}{s:Shared}{tg:Expr}{it:Addr}{u:Value}{o:Obj}{n:String}{vs:Array Value}{Q:Unit->Shared->Prop}(ho:s.heap.get? it=some o)(hc:o.cls=.type n)(hd:o.data=.fields vs)
  (hn:["enumerate", "zip", "dict_itemiterator", "dict_reverseitemiterator", "odict_iterator", "itertools.zip_longest", "itertools.pairwise"].contains n=false)(hQ:Q () s):wpAny M A (letOwnedTupleGo tg (.ref it) u) Q E s:=by
 unfold letOwnedTupleGo
 cases tg<;>first
  |exact wpAny_pure hQ
  |(cases u<;>first
   |exact wpAny_pure hQ
   |(refine wpAny_bind (wpAny_load ho ?_)
     rw[hc,hd]
     show wpAny M A (if (["enumerate", "zip", "dict_itemiterator", "dict_reverseitemiterator", "odict_iterator", "itertools.zip_longest", "itertools.pairwise"].contains n && vs[0]?==some (rawInt _))=true then _ else _) Q E s
     rw[if_neg (by intro h;rw[hn,Bool.false_and] at h;cases h)]
     exact wpAny_pure hQ))
def Itl (K:PySem.W.Frag)(a:Addr):It:=
 ⟨fun i H=> ∃xs x,SqL K H a xs/\xs[i]?=some x,fun i H x H'=>H'=H/\ ∀xs,SqL K H a xs->xs[i]?=some x,fun i H=> ∃xs,SqL K H a xs/\xs.length<=i⟩
def Itt (K:PySem.W.Frag)(a:Addr):It:=
 ⟨fun i H=> ∃xs x,SqT K H a xs/\xs[i]?=some x,fun i H x H'=>H'=H/\ ∀xs,SqT K H a xs->xs[i]?=some x,fun i H=> ∃xs,SqT K H a xs/\xs.length<=i⟩
noncomputable def Itr (lo:Int)(n:Nat):It:=⟨fun i _=>i<n,fun i H x H'=>H'=H/\x=.int (lo+i),fun i _=>n<=i⟩
theorem qt {P:Program}{w:World}{K:PySem.W.Frag}{tg:Expr}(a it:Addr):Turn P w K tg (Itl K a) [it] it (fun i h=>h.IsListIter it a i) where
 mem:=by simp
 obj:=fun i h st b hb=>by
  have e:b=it:=by simpa using hb
  subst e
  obtain⟨o,e,c,d⟩:=st
  exact⟨o,e,fun v z=>by rw[d] at z;cases z⟩
 keep:=fun i h h' st k=>st.at fun o e=>k it (by simp) o e
 item:=by
  intro X hP hw hK hc i pins s σ H E I hf st hg
  subst hP hw hK
  obtain⟨xs,x,hq,hx⟩:=hg
  obtain⟨its,rv,p,hz⟩:=I.list hq
  obtain⟨u,hu,ru⟩:=rv.get hx
  obtain⟨f0,f1,f2,f3,f4,f5⟩:=hf it (by simp)
  refine wpAny_pyNext_list_item st p.isList (x:=u) (by simpa using hu) fun h' st' sb=>?_
  have I1:Inv X pins σ H {s with heap:=h'}:=I.turned (t':=s.toks) (fun b o hb e=>(sb.2 b hb).trans e) f0 f1 f3 f4 f5
  obtain⟨o,e,c,d⟩:=id st'
  exact⟨u,rfl,ut (s:={s with heap:=h'}) e c d (by decide) ⟨x,H,I1,ru,⟨rfl,fun ys hy=>by rw[I.list_inj hy hq];exact hx⟩,st',fun b hb=>(hf b hb).1⟩⟩
 done:=by
  intro X hP hw hK hc i pins s σ H E I hf st hg
  subst hP hw hK
  obtain⟨xs,hq,hx⟩:=hg
  obtain⟨its,rv,p,hz⟩:=I.list hq
  obtain⟨f0,f1,f2,f3,f4,f5⟩:=hf it (by simp)
  have hl:=rv.length
  exact wpAny_pyNext_list_end (I.ok.hd hc) st p.isList (by simp;omega) fun h' eb=>⟨rfl,I.turned (t':=s.toks) (fun b o hb e=>eb b o hb e) f0 f1 f3 f4 f5⟩
 self:=fun _ _ _ _ _ st h=>wpAny_pyIter_listiter st h
theorem oF {P:Program}{w:World}{K:PySem.W.Frag}{tg:Expr}(a it:Addr):Turn P w K tg (Itt K a) [it] it (fun i h=>h.IsTupleIter it a i) where
 mem:=by simp
 obj:=fun i h st b hb=>by
  have e:b=it:=by simpa using hb
  subst e
  obtain⟨o,e,c,d⟩:=st
  exact⟨o,e,fun v z=>by rw[d] at z;cases z⟩
 keep:=fun i h h' st k=>st.at fun o e=>k it (by simp) o e
 item:=by
  intro X hP hw hK hc i pins s σ H E I hf st hg
  subst hP hw hK
  obtain⟨xs,x,hq,hx⟩:=hg
  obtain⟨its,rv,p,hz⟩:=I.tuple hq
  obtain⟨u,hu,ru⟩:=rv.get hx
  obtain⟨f0,f1,f2,f3,f4,f5⟩:=hf it (by simp)
  refine wpAny_pyNext_tuple_item st (show s.heap.IsTuple a its.toArray from p) (x:=u) (by simpa using hu) fun h' st' sb=>?_
  have I1:Inv X pins σ H {s with heap:=h'}:=I.turned (t':=s.toks) (fun b o hb e=>(sb.2 b hb).trans e) f0 f1 f3 f4 f5
  obtain⟨o,e,c,d⟩:=id st'
  exact⟨u,rfl,ut (s:={s with heap:=h'}) e c d (by decide) ⟨x,H,I1,ru,⟨rfl,fun ys hy=>by rw[I.tuple_inj hy hq];exact hx⟩,st',fun b hb=>(hf b hb).1⟩⟩
 done:=by
  intro X hP hw hK hc i pins s σ H E I hf st hg
  subst hP hw hK
  obtain⟨xs,hq,hx⟩:=hg
  obtain⟨its,rv,p,hz⟩:=I.tuple hq
  obtain⟨f0,f1,f2,f3,f4,f5⟩:=hf it (by simp)
  have hl:=rv.length
  exact wpAny_pyNext_tuple_end (I.ok.hd hc) st (show s.heap.IsTuple a its.toArray from p) (by simp;omega) fun h' eb=>⟨rfl,I.turned (t':=s.toks) (fun b o hb e=>eb b o hb e) f0 f1 f3 f4 f5⟩
 self:=fun _ _ _ _ _ st h=>wpAny_pyIter_tupleiter st h
theorem oG {P:Program}{w:World}{K:PySem.W.Frag}{tg:Expr}(it:Addr)(lo:Int)(n:Nat):Turn P w K tg (Itr lo n) [it] it (fun i h=>IsRangeIter h it (lo+(i:Nat) * 1) ((n:Int) - (i:Nat)) 1) where
 mem:=by simp
 obj:=fun i h st b hb=>by
  have e:b=it:=by simpa using hb
  subst e
  exact⟨_,st,fun v z=>by
   have z':Data.fields _=Data.cell v:=z
   cases z'⟩
 keep:=fun i h h' st k=>k it (by simp) _ st
 item:=by
  intro X hP hw hK hc i pins s σ H E I hf st hg
  subst hP hw hK
  obtain⟨f0,f1,f2,f3,f4,f5⟩:=hf it (by simp)
  have W:=Walks.range (prog:=X.prog) (w:=X.w) (I.ok.hd hc) it lo 1 n
  refine W.item i s _ _ hg st fun v h' tk hv st' kk=>?_
  obtain⟨t,rfl⟩:=hv
  have I1:Inv X pins σ H {s with heap:=h',toks:=tk}:=I.turned (fun b o hb e=>kk b o (by simpa using hb) e) f0 f1 f3 f4 f5
  refine⟨_,rfl,ut (s:={s with heap:=h',toks:=tk}) (n:= "range_iterator") st' rfl rfl (by decide) ⟨.int (lo+i),H,I1,⟨t,?_⟩,⟨rfl,rfl⟩,st',fun b hb=>(hf b hb).1⟩⟩
  rw[Int.mul_one]
 done:=by
  intro X hP hw hK hc i pins s σ H E I hf st hg
  subst hP hw hK
  obtain⟨f0,f1,f2,f3,f4,f5⟩:=hf it (by simp)
  exact wpAny_pyNext_range_end (I.ok.hd hc) st (by have:n<=i:=hg;omega) fun h' eb=>⟨rfl,I.turned (t':=s.toks) (fun b o hb e=>eb b o hb e) f0 f1 f3 f4 f5⟩
 self:=fun _ _ _ _ _ st h=>wpAny_pyIter_rangeiter st h
end L2
namespace L2
open PySem PySem.Spec PyProof.Rows
section
variable {X:Cx}{tg:Expr}
def iList (K:PySem.W.Frag)(tl:TE):TI:=fun σ H R=>tl σ H fun x H1=> ∃a,x=.ref a/\(∃xs,SqL K H1 a xs)/\R (Itl K a) H1
def iTup (K:PySem.W.Frag)(tl:TE):TI:=fun σ H R=>tl σ H fun x H1=> ∃a,x=.ref a/\(∃xs,SqT K H1 a xs)/\R (Itt K a) H1
theorem vt {l:Expr}{tl:TE}(hl:PE X l tl):PI X tg l (iList X.K tl):=by
 intro pins s σ H R I h
 refine thn (hl pins s σ H _ I h) fun v s1 qz=>?_
 obtain⟨x,H1,I1,r1,q1⟩:=qz
 obtain⟨a,e,⟨xs,hq⟩,q⟩:=q1
 subst e
 cases r1
 obtain⟨its,rv,p,hz⟩:=I1.list hq
 refine wpAny_pyIter_list p.isList ?_
 refine⟨s1.heap.objs.size,[s1.heap.objs.size],_,_,H1,rfl,I1.kept (t':=s1.toks) fun b o e=>Heap.get?_push_of_some _ e,qt a _,⟨_,Heap.get?_push_size _ rfl,rfl,rfl⟩,fun b hb=>?_,q⟩
 have e:b=s1.heap.objs.size:=by simpa using hb
 subst e
 exact I1.fpOk (Nat.le_refl _) (I1.hok.fresh (Nat.le_refl _))
theorem xG {l:Expr}{tl:TE}(hl:PE X l tl):PI X tg l (iTup X.K tl):=by
 intro pins s σ H R I h
 refine thn (hl pins s σ H _ I h) fun v s1 qz=>?_
 obtain⟨x,H1,I1,r1,q1⟩:=qz
 obtain⟨a,e,⟨xs,hq⟩,q⟩:=q1
 subst e
 cases r1
 obtain⟨its,rv,p,hz⟩:=I1.tuple hq
 refine wpAny_pyIter_tuple (show s1.heap.IsTuple a its.toArray from p) ?_
 refine⟨s1.heap.objs.size,[s1.heap.objs.size],_,_,H1,rfl,I1.kept (t':=s1.toks) fun b o e=>Heap.get?_push_of_some _ e,oF a _,⟨_,Heap.get?_push_size _ rfl,rfl,rfl⟩,fun b hb=>?_,q⟩
 have e:b=s1.heap.objs.size:=by simpa using hb
 subst e
 exact I1.fpOk (Nat.le_refl _) (I1.hok.fresh (Nat.le_refl _))
theorem nH {pins:List (Addr×Obj)}{σ:St}{H:Hp}{s:Shared}{R:It->Hp->Prop}{E:Value->Shared->Prop}{lo hi:Int}{t u v:Tok}{tk:Nat}(I:Inv X pins σ H s)(h1: -(2 ^ 62)<=lo)(h2:lo<2 ^ 62)(h3: -(2 ^ 62)<=hi)(h4:hi<2 ^ 62)
  (q:R (Itr lo (hi - lo).toNat) H):wpAny (model X.prog X.w) X.A (pyIter (.ref s.heap.objs.size)) (PIE X pins σ tg R) E {s with heap:=s.heap.push {cls:=.type "range",data:=.fields #[.int lo t,.int hi u,.int 1 v]},toks:=tk}:=by
 refine wpAny_pyIter_range (IsRange.new ..) (small_one h1 h2 h3 h4) ?_
 have I1:Inv X pins σ H {s with heap:=s.heap.push {cls:=.type "range",data:=.fields #[.int lo t,.int hi u,.int 1 v]},toks:=tk}:=I.kept fun b o e=>Heap.get?_push_of_some _ e
 refine⟨(s.heap.push {cls:=.type "range",data:=.fields #[.int lo t,.int hi u,.int 1 v]}).objs.size,[(s.heap.push {cls:=.type "range",data:=.fields #[.int lo t,.int hi u,.int 1 v]}).objs.size],_,_,H,rfl,
  I1.kept (t':=tk) fun b o e=>Heap.get?_push_of_some _ e,oG _ lo (hi - lo).toNat,?_,fun b hb=>?_,q⟩
 ·have e1:lo+((0:Nat):Int) * 1=lo:=by simp
  have e2:(((hi - lo).toNat:Nat):Int) - ((0:Nat):Int)=Builtin.Range.rangeSize lo hi 1:=by rw[rangeSize_one];split<;>omega
  show IsRangeIter _ _ (lo+((0:Nat):Int) * 1) ((((hi - lo).toNat:Nat):Int) - ((0:Nat):Int)) 1
  rw[e1,e2]
  exact Heap.get?_push_size _ rfl
 ·have e:b=(s.heap.push {cls:=.type "range",data:=.fields #[.int lo t,.int hi u,.int 1 v]}).objs.size:=by simpa using hb
  subst e
  exact I1.fpOk (Nat.le_refl _) (I1.hok.fresh (Nat.le_refl _))
def iRng1 (ta:TA):TI:=fun σ H R=>ta σ H fun vs H1=> ∃j:Int,vs=[.int j]/\ -(2 ^ 62)<=j/\j<2 ^ 62/\R (Itr 0 j.toNat) H1
def iRng2 (ta:TA):TI:=fun σ H R=>ta σ H fun vs H1=> ∃i j:Int,vs=[.int i,.int j]/\(-(2 ^ 62)<=i/\i<2 ^ 62/\ -(2 ^ 62)<=j/\j<2 ^ 62)/\R (Itr i (j - i).toNat) H1
theorem qI {a:Expr}{ta:TA}{p pos:Pos}(hg:Gl X "range")(hm:X.mg "range"=none)(ha:PA X [a] ta)(hs:starEach [a] X.env=[(false,eval a X.env)]:=by rfl):PI X tg (.Call (.Name "range" p) [a] [] pos) (iRng1 ta):=by
 intro pins s σ H R I h
 refine Call_ (gg I hg hm boot_range (PyProof.Rows.callWith_type1 (thn (ha pos pins s σ H _ I h) fun us s1 qz=>?_) hs rfl))
 obtain⟨vs,H1,I1,r1,q1⟩:=qz
 obtain⟨j,e,q1,q2,q⟩:=q1
 subst e
 cases r1 with
 |cons r rr=>
  cases rr
  obtain⟨t,rfl⟩:=r
  exact call_range_1 (nH I1 (by omega) (by omega) q1 q2 (by simpa using q))
theorem qH {a b:Expr}{ta:TA}{p pos:Pos}(hg:Gl X "range")(hm:X.mg "range"=none)(ha:PA X [a,b] ta)(hs:starEach [a,b] X.env=[(false,eval a X.env),(false,eval b X.env)]:=by rfl)(hs2:starEach [b] X.env=[(false,eval b X.env)]:=by rfl):
  PI X tg (.Call (.Name "range" p) [a,b] [] pos) (iRng2 ta):=by
 intro pins s σ H R I h
 refine Call_ (gg I hg hm boot_range (PyProof.Rows.callWith_type1 (thn (ha pos pins s σ H _ I h) fun us s1 qz=>?_) (by rw[hs,hs2]) (by rw[hs2];rfl)))
 obtain⟨vs,H1,I1,r1,q1⟩:=qz
 obtain⟨i,j,e,⟨q1,q2,q3,q4⟩,q⟩:=q1
 subst e
 cases r1 with
 |cons r rr=>
  cases rr with
  |cons r' rr=>
   cases rr
   obtain⟨t,rfl⟩:=r
   obtain⟨t',rfl⟩:=r'
   exact call_range_2 (nH I1 q1 q2 q3 q4 q)
def tFor (wi:TI)(g:TG)(tb:TS):TS:=fun D σ H=>wi σ H fun J H1=> ∃W:Nat->Nat->St->Hp->Prop,(∃m,W 0 m σ H1)/\ ∀i m σ H,W i m σ H->
 (J.stop i H/\D.nx σ H)\/(J.go i H/\ ∃N:St->Hp->Prop,(∀σ' H',N σ' H'-> ∃m',m'<m/\W (i+1) m' σ' H')/\ ∀x H',J.yld i H x H'->g x σ H' fun σ2 H2=>tb {D with nx:=N,ct:=N,bk:=D.nx} σ2 H2)
noncomputable def jY (fp:List Addr)(h:Heap):List (Addr×Obj):=fp.filterMap fun b=>(h.get? b).map fun o=>(b,o)
theorem ig {fp:List Addr}{h:Heap}{b:Addr}{o:Obj}(hb:b∈fp)(e:h.get? b=some o):(b,o)∈jY fp h:=List.mem_filterMap.mpr ⟨b,hb,by rw[e];rfl⟩
theorem qN {fp:List Addr}{h:Heap}{p:Addr×Obj}(hp:p∈jY fp h):p.1∈fp/\h.get? p.1=some p.2:=by
 obtain⟨b,hb,e⟩:=List.mem_filterMap.mp hp
 cases q:h.get? b with
 |none=>rw[q] at e;cases e
 |some o=>
  rw[q] at e
  have e':(b,o)=p:=Option.some.inj e
  subst e'
  exact⟨hb,q⟩
theorem Inv.pinned {pins:List (Addr×Obj)}{σ:St}{H:Hp}{s:Shared}{fp:List Addr}(I:Inv X pins σ H s)(hf: ∀b∈fp,FpOk X pins H b)(ho: ∀b∈fp,∃o,s.heap.get? b=some o/\ ∀v,o.data≠.cell v):Inv X (pins++jY fp s.heap) σ H s:=
 I.pins_of fun p hp=>(List.mem_append.mp hp).elim (fun z=>I.pin p (List.mem_append_right _ z)) fun z=>by
  obtain⟨hb,e⟩:=qN z
  obtain⟨f0,f1,f2,_⟩:=hf p.1 hb
  obtain⟨o,e',d⟩:=ho p.1 hb
  rw[e] at e';cases e'
  exact⟨e,f0,f1,f2,d⟩
theorem Inv.unpinned {pins pl:List (Addr×Obj)}{σ:St}{H:Hp}{s:Shared}(I:Inv X (pins++pl) σ H s):Inv X pins σ H s:=I.pins_of fun p hp=>I.pin p (List.mem_append_right _ (List.mem_append_left _ hp))
theorem xA {iter:Expr}{body:List Stmt}{wi:TI}{g:TG}{tb:TS}{pos:Pos}(hp:PassesOwn (model X.prog X.w) X.A X.env X.xe)(hc:X.calm=true)(hi:PI X tg iter wi)(hg:PG X tg g)(hb:PSs X body tb)
  (hs: ∀x,foldedSetIterable iter X.env x=pure x:=by intro _;rfl):PS X (.For tg iter body [] pos) (tFor wi g tb):=by
 intro pins s σ H D I h
 refine wpAny_For (thn (hi pins s σ H _ I h) fun v s1 h1=>thn h1 fun itv s2 h2=>?_) hs
 obtain⟨it,fp,tn,J,H2,e,I2,T,st2,f2,W,⟨m0,w0⟩,turn⟩:=h2
 subst e
 have stat: ∀ {H':Hp},(∀b∈fp,H' b=none)-> ∀b∈fp,FpOk X pins H' b:=fun hn b hb=>⟨hn b hb,(f2 b hb).2⟩
 refine codeAny_forLoop_any (fun n s'=> ∃i σ' H',Inv X pins σ' H' s'/\tn i s'.heap/\(∀b∈fp,H' b=none)/\W i n σ' H') ?_ m0 ⟨0,σ,H2,I2,st2,fun b hb=>(f2 b hb).1,w0⟩
 rintro n s3 ⟨i,σ3,H3,I3,st3,fr3,w3⟩
 rcases turn i n σ3 H3 w3 with⟨stop,qn⟩|⟨go,N,hN,step⟩
 ·refine wpAny_passesOwn hp (thn (T.done X rfl rfl rfl hc i pins s3 σ3 H3 X.xe I3 (stat fr3) st3 stop) fun r s4 qz=>?_)
  obtain⟨hr,I4⟩:=qz
  subst hr
  exact wpAny_execs_nil ⟨σ3,H3,I4,qn⟩
 ·refine wpAny_passesOwn hp (thn (T.item X rfl rfl rfl hc i pins s3 σ3 H3 X.xe I3 (stat fr3) st3 go) fun r s4 qz=>?_)
  obtain⟨u,hr,h4⟩:=qz
  subst hr
  refine wpAny_passesOwn hp (thn h4 fun _ s5 qz=>?_)
  obtain⟨x,H5,I5,r5,y5,st5,fr5⟩:=qz
  have I5':=I5.pinned (stat fr5) (T.obj _ _ st5)
  refine wpAny_passesOwn hp (thn (hg _ s5 σ3 H5 x u _ I5' r5 (step x H5 y5)) fun _ s6 qz=>?_)
  obtain⟨σ6,H6,I6,q6⟩:=qz
  refine wpAny_passesOwn hp (thn (hb _ s6 σ6 H6 _ I6 q6) fun f s7 q7=>?_)
  have again: ∀ {σ7:St}{H7:Hp},Inv X (pins++jY fp s5.heap) σ7 H7 s7->N σ7 H7-> ∃m,m<n/\ ∃i σ' H',Inv X pins σ' H' s7/\tn i s7.heap/\(∀b∈fp,H' b=none)/\W i m σ' H':=fun{σ7 H7} I7 n7=>by
   obtain⟨m',hm,w7⟩:=hN σ7 H7 n7
   refine⟨m',hm,i+1,σ7,H7,I7.unpinned,T.keep _ _ _ st5 fun b hb o e=>(I7.pin (b,o) (List.mem_append_right _ (List.mem_append_right _ (ig hb e)))).1,fun b hb=>?_,w7⟩
   obtain⟨o,e,d⟩:=T.obj _ _ st5 b hb
   exact (I7.pin (b,o) (List.mem_append_right _ (List.mem_append_right _ (ig hb e)))).2.1
  cases f with
  |next=>obtain⟨σ7,H7,I7,n7⟩:=q7;exact again I7 n7
  |cont=>obtain⟨σ7,H7,I7,n7⟩:=q7;exact again I7 n7
  |brk=>obtain⟨σ7,H7,I7,q7⟩:=q7;exact⟨σ7,H7,I7.unpinned,q7⟩
  |ret v=>obtain⟨x7,σ7,H7,I7,r7,q7⟩:=q7;exact⟨x7,σ7,H7,I7.unpinned,r7,q7⟩
end
end L2
namespace L2
open PySem PySem.Spec PyProof.Rows
noncomputable abbrev R2:=V->V->Hp->VK->Prop
def OpR (X:Cx)(f:Value->Value->Sem Value)(r:R2):Prop:=
 ∀ (pins:List (Addr×Obj)) (s:Shared) (σ:St) (H:Hp) (x y:V) (v u:Value) (Q:VK),Inv X pins σ H s->RelV x v->RelV y u->r x y H Q->
   wpAny (model X.prog X.w) X.A (f v u) (EP X pins σ Q) X.xe s
def UnR (X:Cx)(f:Value->Sem Value)(r:V->Hp->VK->Prop):Prop:=
 ∀ (pins:List (Addr×Obj)) (s:Shared) (σ:St) (H:Hp) (x:V) (v:Value) (Q:VK),Inv X pins σ H s->RelV x v->r x H Q->
   wpAny (model X.prog X.w) X.A (f v) (EP X pins σ Q) X.xe s
def CallR (X:Cx)(f:Value)(r:List V->Hp->VK->Prop):Prop:=
 ∀ (pins:List (Addr×Obj)) (s:Shared) (σ:St) (H:Hp) (xs:List V) (us:List Value) (Q:VK),Inv X pins σ H s->Vals xs us->r xs H Q->
   wpAny (model X.prog X.w) X.A (call f us) (EP X pins σ Q) X.xe s
def tOp (r:R2)(ta tb:TE):TE:=fun σ H Q=>ta σ H fun x H1=>tb σ H1 fun y H2=>r x y H2 Q
def tUn (r:V->Hp->VK->Prop)(ta:TE):TE:=fun σ H Q=>ta σ H fun x H1=>r x H1 Q
def rI (C:Int->Int->Prop)(g:Int->Int->V):R2:=fun x y H Q=> ∃i j,x=.int i/\y=.int j/\C i j/\Q (g i j) H
def rI0 (g:Int->Int->V):R2:=fun x y H Q=> ∃i j,x=.int i/\y=.int j/\Q (g i j) H
def rU (g:Int->V):V->Hp->VK->Prop:=fun x H Q=> ∃i,x=.int i/\Q (g i) H
section
variable {X:Cx}{a b c:Expr}{ta tb tc:TE}{pos:Pos}
theorem binT (ha:PE X a ta)(hb:PE X b tb){pins:List (Addr×Obj)}{s:Shared}{σ:St}{H:Hp}{R:V->V->Hp->Prop}(I:Inv X pins σ H s)
  (h:ta σ H fun x H1=>tb σ H1 fun y H2=>R x y H2){Q:Value->Shared->Prop}{f:Value->Value->Sem Value}
  (hf: ∀v u s2 x y H2,Inv X pins σ H2 s2->RelV x v->RelV y u->R x y H2->wpAny (model X.prog X.w) X.A (f v u) Q X.xe s2):
  wpAny (model X.prog X.w) X.A (eval a X.env) (fun v s₁=>wpAny (model X.prog X.w) X.A (eval b X.env) (fun u s₂=>wpAny (model X.prog X.w) X.A (f v u) Q X.xe s₂) X.xe s₁) X.xe s:=by
 refine thn (ha pins s σ H _ I h) fun v s1 qz=>?_
 obtain⟨x,H1,I1,r1,q1⟩:=qz
 refine thn (hb pins s1 σ H1 _ I1 q1) fun u s2 qz=>?_
 obtain⟨y,H2,I2,r2,q2⟩:=qz
 exact hf v u s2 x y H2 I2 r1 r2 q2
theorem wO {op:Operator}{r:R2}(ho:OpR X (binaryOp op) r)(ha:PE X a ta)(hb:PE X b tb):PE X (.BinOp a op b pos) (tOp r ta tb):=by
 intro pins s σ H Q I h
 exact wpAny_BinOp (binT ha hb I h fun v u s2 x y H2 I2 rx ry q=>ho pins s2 σ H2 x y v u Q I2 rx ry q)
theorem zb {op:UnaryOp}{r:V->Hp->VK->Prop}(ho:UnR X (unaryOp op) r)(ha:PE X a ta):PE X (.UnaryOp op a pos) (tUn r ta):=by
 intro pins s σ H Q I h
 exact UnaryOp_ (thn (ha pins s σ H _ I h) fun v s1 ⟨x,H1,I1,r1,q1⟩=>ho pins s1 σ H1 x v Q I1 r1 q1)
theorem opI {f:Value->Value->Sem Value}{C:Int->Int->Prop}{g:Int->Int->Int}
  (rule: ∀ (i j:Int) (t u:Tok) (s:Shared) (Q:Value->Shared->Prop) (E:Value->Shared->Prop),C i j->Q (.int (g i j) s.toks) {s with toks:=s.toks+1}->wpAny (model X.prog X.w) X.A (f (.int i t) (.int j u)) Q E s):
  OpR X f (rI C fun i j=>.int (g i j)):=by
 intro pins s σ H x y v u Q I rx ry h
 obtain⟨i,j,rfl,rfl,hc,q⟩:=h
 obtain⟨t,rfl⟩:=rx
 obtain⟨t',rfl⟩:=ry
 exact rule i j t t' s _ _ hc ⟨.int (g i j),H,I.tok _,⟨_,rfl⟩,q⟩
theorem opI0 {f:Value->Value->Sem Value}{g:Int->Int->Int}
  (rule: ∀ (i j:Int) (t u:Tok) (s:Shared) (Q:Value->Shared->Prop) (E:Value->Shared->Prop),Q (.int (g i j) s.toks) {s with toks:=s.toks+1}->wpAny (model X.prog X.w) X.A (f (.int i t) (.int j u)) Q E s):
  OpR X f (rI0 fun i j=>.int (g i j)):=by
 intro pins s σ H x y v u Q I rx ry h
 obtain⟨i,j,rfl,rfl,q⟩:=h
 obtain⟨t,rfl⟩:=rx
 obtain⟨t',rfl⟩:=ry
 exact rule i j t t' s _ _ ⟨.int (g i j),H,I.tok _,⟨_,rfl⟩,q⟩
theorem opB0 {f:Value->Value->Sem Value}{g:Int->Int->Bool}
  (rule: ∀ (i j:Int) (t u:Tok) (s:Shared) (Q:Value->Shared->Prop) (E:Value->Shared->Prop),Q (.bool (g i j)) s->wpAny (model X.prog X.w) X.A (f (.int i t) (.int j u)) Q E s):
  OpR X f (rI0 fun i j=>.bl (g i j)):=by
 intro pins s σ H x y v u Q I rx ry h
 obtain⟨i,j,rfl,rfl,q⟩:=h
 obtain⟨t,rfl⟩:=rx
 obtain⟨t',rfl⟩:=ry
 exact rule i j t t' s _ _ ⟨.bl (g i j),H,I,rfl,q⟩
noncomputable def CPow (i j:Int):Prop:=0<=j/\j<=1000000/\i.natAbs<2 ^ 64
noncomputable def CMul (i j:Int):Prop:=(-(2 ^ 64)<i/\i<2 ^ 64)\/(-(2 ^ 64)<j/\j<2 ^ 64)
theorem CMul.ok {i j:Int}(h:CMul i j):IntMulOk i j:=by
 rcases h with⟨h1,h2⟩|⟨h1,h2⟩
 ·exact .of_left (intBits_le_64 h1 h2)
 ·exact .of_right (intBits_le_64 h1 h2)
theorem op_add:OpR X (binaryOp .Add) (rI0 fun i j=>.int (i+j)):=opI0 fun _ _ _ _ _ _ _ q=>add_int q
theorem xQ:OpR X (binaryOp .Sub) (rI0 fun i j=>.int (i - j)):=opI0 fun _ _ _ _ _ _ _ q=>sub_int q
theorem xU:OpR X (binaryOp .Mod) (rI (fun _ j=>0<j) fun i j=>.int (i % j)):=opI fun i j _ _ _ _ _ hc q=>by
 have h1:(0:Int)<j:=hc
 exact mod_int' (by omega) (by rw[Int.fmod_eq_emod_of_nonneg i (by omega)];exact q)
theorem xS:OpR X (binaryOp .Pow) (rI CPow fun i j=>.int (i ^ j.toNat)):=opI fun _ _ _ _ _ _ _ hc q=>pow_int_small hc.1 hc.2.1 hc.2.2 q
theorem unI {f:Value->Sem Value}{g:Int->Int}
  (rule: ∀ (i:Int) (t:Tok) (s:Shared) (Q:Value->Shared->Prop) (E:Value->Shared->Prop),Q (.int (g i) s.toks) {s with toks:=s.toks+1}->wpAny (model X.prog X.w) X.A (f (.int i t)) Q E s):
  UnR X f (rU fun i=>.int (g i)):=by
 intro pins s σ H x v Q I rx h
 obtain⟨i,rfl,q⟩:=h
 obtain⟨t,rfl⟩:=rx
 exact rule i t s _ _ ⟨.int (g i),H,I.tok _,⟨_,rfl⟩,q⟩
theorem xa:UnR X (unaryOp .USub) (rU fun i=>.int (-i)):=unI fun _ _ _ _ _ q=>neg_int q
end
noncomputable def scal:V->V->Bool
 |.non,.non=>true|.non,.int _=>true|.int _,.non=>true|.non,.bl _=>true|.bl _,.non=>true|.non,.str _=>true|.str _,.non=>true
 |.int _,.int _=>true|.bl _,.bl _=>true|.str _,.str _=>true|.byt _,.byt _=>true
 |.int _,.str _=>true|.str _,.int _=>true|.bl _,.str _=>true|.str _,.bl _=>true
 |_,_=>false
def rEq:R2:=fun x y H Q=>scal x y=true/\Q (.bl (decide (x=y))) H
def rNe:R2:=fun x y H Q=>scal x y=true/\Q (.bl (!decide (x=y))) H
theorem qf {i j:Int}:decide (V.int i=V.int j)=(i==j):=by
 rw[Bool.eq_iff_iff]
 simp
theorem uI {i j:Bool}:decide (V.bl i=V.bl j)=(i==j):=by
 rw[Bool.eq_iff_iff]
 simp
theorem qe {i j:Str}:decide (V.str i=V.str j)=(i==j):=by
 rw[Bool.eq_iff_iff]
 simp
theorem qg {i j:Array UInt8}:decide (V.byt i=V.byt j)=(i.toList==j.toList):=by
 rw[Bool.eq_iff_iff]
 cases i
 cases j
 simp
section
variable {X:Cx}{a b c:Expr}{ta tb tc:TE}{pos:Pos}
theorem bg {pins:List (Addr×Obj)}{σ:St}{H:Hp}{s:Shared}{Q:VK}{k k':Bool}(I:Inv X pins σ H s)(q:Q (.bl k) H)(e:k=k'):EP X pins σ Q (.bool k') s:=by
 subst e
 exact⟨.bl k,H,I,rfl,q⟩
theorem op_eq:OpR X (compareOp .Eq) rEq:=by
 intro pins s σ H x y v u Q I rx ry h
 obtain⟨hs,q⟩:=h
 cases x with
 |non=>
  cases rx
  cases y with
  |non=>cases ry;exact PySem.EqNone.eq_none_none (bg I q (by simp))
  |bl j=>cases ry;exact PySem.EqNone.eq_none_bool (bg I q (by simp))
  |int j=>obtain⟨t',rfl⟩:=ry;exact PySem.EqNone.eq_none_int (bg I q (by simp))
  |str j=>obtain⟨t',rfl⟩:=ry;exact PySem.EqNone.eq_none_str (bg I q (by simp))
  |_=>exact absurd (show false=true from hs) Bool.false_ne_true
 |bl i=>
  cases rx
  cases y with
  |non=>cases ry;exact PySem.EqNone.eq_bool_none (bg I q (by simp))
  |bl j=>cases ry;exact eq_bool (bg I q uI)
  |str j=>obtain⟨t',rfl⟩:=ry;exact PySem.EqMixed.eq_bool_str (bg I q (by simp))
  |_=>exact absurd (show false=true from hs) Bool.false_ne_true
 |int i=>
  obtain⟨t,rfl⟩:=rx
  cases y with
  |non=>cases ry;exact PySem.EqNone.eq_int_none (bg I q (by simp))
  |int j=>obtain⟨t',rfl⟩:=ry;exact eq_int (bg I q qf)
  |str j=>obtain⟨t',rfl⟩:=ry;exact PySem.EqMixed.eq_int_str (bg I q (by simp))
  |_=>exact absurd (show false=true from hs) Bool.false_ne_true
 |str i=>
  obtain⟨t,rfl⟩:=rx
  cases y with
  |non=>cases ry;exact PySem.EqNone.eq_str_none (bg I q (by simp))
  |bl j=>cases ry;exact PySem.EqMixed.eq_str_bool (bg I q (by simp))
  |int j=>obtain⟨t',rfl⟩:=ry;exact PySem.EqMixed.eq_str_int (bg I q (by simp))
  |str j=>obtain⟨t',rfl⟩:=ry;exact eq_str (bg I q qe)
  |_=>exact absurd (show false=true from hs) Bool.false_ne_true
 |byt i=>
  obtain⟨t,rfl⟩:=rx
  cases y with
  |byt j=>obtain⟨t',rfl⟩:=ry;exact PySem.W.eq_bytes (bg I q qg)
  |_=>exact absurd (show false=true from hs) Bool.false_ne_true
 |_=>cases y<;>exact absurd (show false=true from hs) Bool.false_ne_true
theorem op_ne:OpR X (compareOp .NotEq) rNe:=by
 intro pins s σ H x y v u Q I rx ry h
 obtain⟨hs,q⟩:=h
 cases x with
 |non=>
  cases rx
  cases y with
  |non=>cases ry;exact PySem.EqNone.ne_none_none (bg I q (by simp))
  |bl j=>cases ry;exact PySem.EqNone.ne_none_bool (bg I q (by simp))
  |int j=>obtain⟨t',rfl⟩:=ry;exact PySem.EqNone.ne_none_int (bg I q (by simp))
  |str j=>obtain⟨t',rfl⟩:=ry;exact PySem.EqNone.ne_none_str (bg I q (by simp))
  |_=>exact absurd (show false=true from hs) Bool.false_ne_true
 |bl i=>
  cases rx
  cases y with
  |non=>cases ry;exact PySem.EqNone.ne_bool_none (bg I q (by simp))
  |bl j=>cases ry;exact ne_bool (bg I q (congrArg not uI))
  |str j=>obtain⟨t',rfl⟩:=ry;exact PySem.EqMixed.ne_bool_str (bg I q (by simp))
  |_=>exact absurd (show false=true from hs) Bool.false_ne_true
 |int i=>
  obtain⟨t,rfl⟩:=rx
  cases y with
  |non=>cases ry;exact PySem.EqNone.ne_int_none (bg I q (by simp))
  |int j=>obtain⟨t',rfl⟩:=ry;exact ne_int (bg I q (congrArg not qf))
  |str j=>obtain⟨t',rfl⟩:=ry;exact PySem.EqMixed.ne_int_str (bg I q (by simp))
  |_=>exact absurd (show false=true from hs) Bool.false_ne_true
 |str i=>
  obtain⟨t,rfl⟩:=rx
  cases y with
  |non=>cases ry;exact PySem.EqNone.ne_str_none (bg I q (by simp))
  |bl j=>cases ry;exact PySem.EqMixed.ne_str_bool (bg I q (by simp))
  |int j=>obtain⟨t',rfl⟩:=ry;exact PySem.EqMixed.ne_str_int (bg I q (by simp))
  |str j=>obtain⟨t',rfl⟩:=ry;exact ne_str (bg I q (congrArg not qe))
  |_=>exact absurd (show false=true from hs) Bool.false_ne_true
 |byt i=>
  obtain⟨t,rfl⟩:=rx
  cases y with
  |byt j=>obtain⟨t',rfl⟩:=ry;exact PySem.W.ne_bytes (bg I q (congrArg not qg))
  |_=>exact absurd (show false=true from hs) Bool.false_ne_true
 |_=>cases y<;>exact absurd (show false=true from hs) Bool.false_ne_true
theorem zf:OpR X (compareOp .Lt) (rI0 fun i j=>.bl (decide (i<j))):=opB0 fun _ _ _ _ _ _ _ q=>lt_int q
theorem zg:OpR X (compareOp .Gt) (rI0 fun i j=>.bl (decide (j<i))):=opB0 fun _ _ _ _ _ _ _ q=>gt_int q
theorem zh:OpR X (compareOp .GtE) (rI0 fun i j=>.bl (decide (j<=i))):=opB0 fun _ _ _ _ _ _ _ q=>ge_int q
theorem op_in_str:OpR X (compareOp .In) (fun x y H Q=> ∃i j,x=.str i/\y=.str j/\Q (.bl (!(Builtin.Str.occurrences j i 0 j.length 1).isEmpty)) H):=by
 intro pins s σ H x y v u Q I rx ry h
 obtain⟨i,j,rfl,rfl,q⟩:=h
 obtain⟨t,rfl⟩:=rx
 obtain⟨t',rfl⟩:=ry
 exact in_str (bg I q rfl)
theorem xV:OpR X (compareOp .Is) (fun x y H Q=>y=.non/\Q (.bl (decide (x=.non))) H):=by
 intro pins s σ H x y v u Q I rx ry h
 obtain⟨rfl,q⟩:=h
 cases ry
 refine is_none_gen (bg I q ?_)
 cases x<;>first
  |(cases rx;rfl)
  |(obtain⟨t,rfl⟩:=rx;rfl)
theorem OpR.or {f:Value->Value->Sem Value}{r r':R2}(h:OpR X f r)(h':OpR X f r'):OpR X f (fun x y H Q=>r x y H Q\/r' x y H Q):=by
 intro pins s σ H x y v u Q I rx ry q
 rcases q with q|q
 ·exact h pins s σ H x y v u Q I rx ry q
 ·exact h' pins s σ H x y v u Q I rx ry q
theorem aB (b:Expr){op:CmpOp}(h:op≠.In:=by decide)(h2:op≠.NotIn:=by decide):behindInMarks op b=false:=by
 have e1:(op==CmpOp.In)=false:=by cases op<;>first|rfl|exact absurd rfl h
 have e2:(op==CmpOp.NotIn)=false:=by cases op<;>first|rfl|exact absurd rfl h2
 cases b<;>simp [behindInMarks,e1,e2]
theorem vF {op:CmpOp}{r:R2}(ho:OpR X (compareOp op) r)(ha:PE X a ta)(hb:PE X b tb)(hm:behindInMarks op b=false):PE X (.Compare a [op] [b] pos) (tOp r ta tb):=by
 intro pins s σ H Q I h
 exact wpAny_Compare1 (binT ha hb I h fun v u s2 x y H2 I2 rx ry q=>ho pins s2 σ H2 x y v u Q I2 rx ry q) hm
def tTest (t:TE):TT:=fun σ H Q=>t σ H fun x H'=> ∃k,x=.bl k/\Q k H'
theorem vj {op:CmpOp}{r:R2}(ho:OpR X (compareOp op) r)(ha:PE X a ta)(hb:PE X b tb)(hm:behindInMarks op b=false):PT X (.Compare a [op] [b] pos) (tTest (tOp r ta tb)):=by
 intro pins s σ H Q I h
 refine wpAny_isTrue_Compare1 (thn (ha pins s σ H _ I h) fun v s1 ⟨x,H1,I1,r1,q1⟩=>thn (hb pins s1 σ H1 _ I1 q1) fun u s2 ⟨y,H2,I2,r2,q2⟩=>
  thn (ho pins s2 σ H2 x y v u _ I2 r1 r2 q2) fun c s3 ⟨z,H3,I3,r3,k,e,q3⟩=>?_) hm
 subst e
 cases r3
 exact wpAny_truthy_bool ⟨H3,I3,q3⟩
theorem i8:(sizeLine:Nat)<2 ^ 63:=by rw[sizeLine_eq];decide
theorem op_add_str:OpR X (binaryOp .Add) (fun x y H Q=> ∃i j,x=.str i/\y=.str j/\i.length+j.length<=sizeLine/\Q (.str (i++j)) H):=by
 intro pins s σ H x y v u Q I rx ry h
 obtain⟨i,j,rfl,rfl,hz,q⟩:=h
 obtain⟨t,rfl⟩:=rx
 obtain⟨t',rfl⟩:=ry
 exact add_str (fun t' tk=>⟨.str (i++j),H,I.tok _,⟨_,rfl⟩,q⟩) hz
theorem vals1 {x:V}{us:List Value}(r:Vals [x] us): ∃u,us=[u]/\RelV x u:=by
 cases r with
 |cons r1 r2=>cases r2;exact⟨_,rfl,r1⟩
theorem vals2 {x y:V}{us:List Value}(r:Vals [x,y] us): ∃u w',us=[u,w']/\RelV x u/\RelV y w':=by
 cases r with
 |cons r1 r2=>
  cases r2 with
  |cons r3 r4=>cases r4;exact⟨_,_,rfl,r1,r3⟩
theorem uJ:CallR X (.builtin "abs") (fun xs H Q=> ∃i,xs=[.int i]/\Q (.int (if i<0 then -i else i)) H):=by
 intro pins s σ H xs us Q I r h
 obtain⟨i,rfl,q⟩:=h
 obtain⟨u,rfl,t,rfl⟩:=vals1 r
 exact call_abs_int fun u tk=>⟨.int (if i<0 then -i else i),H,I.tok _,⟨_,rfl⟩,q⟩
theorem rL (hc:X.calm=true):CallR X (.builtin "max") (fun xs H Q=> ∃i j,xs=[.int i,.int j]/\Q (.int (if j>i then j else i)) H):=by
 intro pins s σ H xs us Q I r h
 obtain⟨i,j,rfl,q⟩:=h
 obtain⟨u,w',rfl,⟨t,rfl⟩,⟨t',rfl⟩⟩:=vals2 r
 refine max_two_ints (I.ok.hd hc) fun h' tk k=>⟨_,H,I.kept k,?_,q⟩
 by_cases hj:j>i
 ·rw[if_pos hj,if_pos hj];exact⟨_,rfl⟩
 ·rw[if_neg hj,if_neg hj];exact⟨_,rfl⟩
theorem rK (hc:X.calm=true):CallR X (.builtin "min") (fun xs H Q=> ∃i j,xs=[.int i,.int j]/\Q (.int (if j<i then j else i)) H):=by
 intro pins s σ H xs us Q I r h
 obtain⟨i,j,rfl,q⟩:=h
 obtain⟨u,w',rfl,⟨t,rfl⟩,⟨t',rfl⟩⟩:=vals2 r
 refine min_two_ints (I.ok.hd hc) fun h' tk k=>⟨_,H,I.kept k,?_,q⟩
 by_cases hj:j<i
 ·rw[if_pos hj,if_pos hj];exact⟨_,rfl⟩
 ·rw[if_neg hj,if_neg hj];exact⟨_,rfl⟩
theorem call_int1:CallR X (.type "int") (fun xs H Q=>(∃i,xs=[.int i]/\Q (.int i) H)\/ ∃k,xs=[.bl k]/\Q (.int (if k then 1 else 0)) H):=by
 intro pins s σ H xs us Q I r h
 rcases h with⟨i,rfl,q⟩|⟨k,rfl,q⟩
 ·obtain⟨u,rfl,t,rfl⟩:=vals1 r
  exact call_int_int ⟨.int i,H,I,⟨_,rfl⟩,q⟩
 ·obtain⟨u,rfl,r1⟩:=vals1 r
  cases r1
  exact call_int_bool ⟨.int (if k then 1 else 0),H,I.tok _,⟨_,rfl⟩,q⟩
end
end L2
namespace L2
open PySem PySem.Spec PyProof.Rows
structure ObjM (h:Heap)(x dx C:Addr)(mA:Str->Option Value):Prop where
 obj:h.get? x=some (instObj C dx)
 ns:h.Ns1 dx mA
 ne:dx≠x
theorem qW {h:Heap}{dx:Addr}{mA:Str->Option Value}(n:h.Ns1 dx mA): ∃od,h.get? dx=some od/\ ∀name,PySem.W.lookIn name od=some (mA name):=by
 obtain⟨o,es,ep,ho,hd,hk,_,hm⟩:=n
 refine⟨o,ho,fun name=>?_⟩
 have e:=hm name
 unfold nsFind findBy at e
 rw[<-Array.find?_toList] at e
 unfold PySem.W.lookIn
 rw[hd]
 dsimp only
 split
 ·rename_i y q
  rw[q] at e
  exact congrArg some e
 ·rename_i q
  rw[q] at e
  have a:es.toList.any (·.refKey)=false:=by
   rw[List.any_eq_false]
   intro y hy
   obtain⟨z,t,hkey⟩:=hk y (Array.mem_toList_iff.mp hy)
   simp [DictEntry.refKey,hkey]
  have a': ¬es.toList.any (·.refKey)=true:=by rw[a];exact Bool.false_ne_true
  rw[if_neg a']
  exact congrArg some e
theorem ObjM.look {h:Heap}{x dx C:Addr}{mA:Str->Option Value}(I:ObjM h x dx C mA): ∃od,PySem.W.InstAt h x (instObj C dx) C (some od)/\ ∀name,PySem.W.lookIn name od=some (mA name):=
 let ⟨od,ho,hl⟩:=qW I.ns
 ⟨od,⟨I.obj,rfl,rfl,ho⟩,hl⟩
section
variable {prog:Program}{w:World}{A:Around}{E:Value->Shared->Prop}{s:Shared}{K:PySem.W.Frag}{x dx C f:Addr}{mA:Str->Option Value}{name:Str}{v:Value}
theorem wA {expr:Bool}{Q:Value->Shared->Prop}(X:K.In s.heap)(I:ObjM s.heap x dx C mA)(hg:plainGet K C name=true)(hh:PySem.W.hasDictIn K C=true)
  (ha:findIn K (.ref C) name=some none)(hv:mA name=some v)(hv':PySem.W.handedIn v=true)(h:Q v {s with toks:=s.toks+1}):
  wpAny (model prog w) A (getAttr (.ref x) name expr) Q E s:=by
 obtain⟨od,J,hl⟩:=I.look
 exact PySem.W.get_value X J (PySem.W.plainGet_of hg).1 (PySem.W.findObj_own hh ha rfl (by rw[hl,hv])) hv' h
theorem uv {pl:Sem Bool}{Q:Value×List Value->Shared->Prop}(X:K.In s.heap)(I:ObjM s.heap x dx C mA)(hg:plainGet K C name=true)
  (hf:findIn K (.ref C) name=some (some (.ref f)))(ht:isFn K (.ref f)=true)(hv:mA name=none)(h:Q (.ref f,[.ref x]) s):
  wpAny (model prog w) A (getMethod (.ref x) name pl) Q E s:=by
 obtain⟨od,J,hl⟩:=I.look
 exact PySem.W.method_fn X J (PySem.W.plainGet_of hg).1 (PySem.W.plainGet_of hg).2 hf (beq_iff_eq.mp ht) (by show (PySem.W.lookIn name od).map (·.isSome)=some false;rw[hl,hv];rfl) h
theorem u8 {ns:List Str}{Q:Unit->Shared->Prop}(X:K.In s.heap)(I:ObjM s.heap x dx C mA)
  (hs:findIn K (.ref C) "__setattr__"=some (some (.builtin "object.__setattr__")))(hp:PySem.W.plainOver K C=true)(ht:PySem.W.takerIn K C name=some none)(hh:PySem.W.hasDictIn K C=true)
  (hw:PySem.Within mA ns)(hsz:ns.length<=sizeLine)
  (h:∀h',ObjM h' x dx C (fun y=>if y=name then some v else mA y)->Heap.SameBut dx s.heap h'->Q () {s with heap:=h',toks:=s.toks+2}):
  wpAny (model prog w) A (setAttr (.ref x) name v) Q E s:=by
 obtain⟨od,J,hl⟩:=I.look
 refine PySem.W.set_plain X J hs (PySem.W.osa_open (s:={s with toks:=s.toks+1}) (r:=none) X J hp ht fun b=>?_)
 obtain⟨cd,hc,hd'⟩:=PySem.W.any_some hh
 have hx:s.heap.get? x=some ⟨.ref C,some dx,.plain,#[]⟩:=I.obj
 refine wpAny_bind (wpAny_pure (wpAny_bind (wpAny_bind (wpAny_loadPart hx (wpAny_bind (PySem.W.Looks.here (s:={s with toks:=s.toks+1}) (PySem.W.looks_clsIn X hc) ?_))))))
 rw[hd']
 refine wpAny_pure (a:=some dx) (wpAny_bind (wpAny_pure (wpAny_bind ?_)))
 refine wpAny_nsSet1 (s:={s with toks:=s.toks+1}) I.ns fun h' hn2 hs2=>?_
 obtain⟨oD,esD,epD,hoD,hdD,hcD⟩:=hn2.count (PySem.Within.cons name v hw)
 refine wpAny_bind (wpAny_lookBehind hoD (by rw[hdD];exact pastItsLine_dict (Nat.le_trans hcD (by rw[List.length_cons];omega))) ?_)
 exact wpAny_pure (h _ ⟨(hs2.2 _ (Ne.symm I.ne)).trans I.obj,hn2,I.ne⟩ hs2)
theorem t7 {R:Result->Shared->Prop}{vs:List Value}{kw:List (Str×Value)}(X:K.In s.heap)(hm:PySem.W.makesIn K C=true)
  (hi:findIn K (.ref C) "__init__"=some (some (.ref f)))(hf:PySem.W.typeIn K (.ref f)=some (.type "function"))
  (h:codeAny (model prog w) (A.under (.builtin "type.__call__" ⟨.ref C::vs,kw⟩)) (.call (.ref f) ⟨.ref (s.heap.objs.size+1)::vs,kw⟩) (PySem.W.InitBack (s.heap.objs.size+1) R)
    {s with heap:=(s.heap.push emptyDict).push (instObj C s.heap.objs.size)}):
  codeAny (model prog w) A (.call (.ref C) ⟨vs,kw⟩) R s:=by
 obtain⟨hh,g,d,t,os⟩:=s
 exact PySem.W.make_core (PySem.W.makes_of X hm) (PySem.W.looks_findIn X hi) (fun self=>PySem.W.bind_fn X self hf) (.inl rfl) h
end
noncomputable def putF (f:Str)(v:V):List (Str×V)->List (Str×V)
 |[]=>[(f,v)]
 |(g,x)::r=>if g=f then (g,v)::r else (g,x)::putF f v r
theorem jk (f g:Str)(v:V): ∀fs:List (Str×V),(putF f v fs).lookup g=if g=f then some v else fs.lookup g
 |[]=>by
  show List.lookup g [(f,v)]=_
  by_cases h:g=f
  ·have hb:(g==f)=true:=beq_iff_eq.mpr h
   simp only[List.lookup,hb,if_pos h]
  ·have hb:(g==f)=false:=beq_eq_false_iff_ne.mpr h
   simp only[List.lookup,hb,if_neg h]
 |(k,x)::r=>by
  have ih:=jk f g v r
  rw[show putF f v ((k,x)::r)=(if k=f then (k,v)::r else (k,x)::putF f v r) from rfl]
  by_cases hk:k=f
  ·rw[if_pos hk]
   by_cases h:g=k
   ·have hb:(g==k)=true:=beq_iff_eq.mpr h
    simp only[List.lookup,hb,if_pos (h.trans hk)]
   ·have hb:(g==k)=false:=beq_eq_false_iff_ne.mpr h
    simp only[List.lookup,hb,if_neg (fun e:g=f=>h (e.trans hk.symm))]
  ·rw[if_neg hk]
   by_cases h:g=k
   ·have hb:(g==k)=true:=beq_iff_eq.mpr h
    simp only[List.lookup,hb,if_neg (fun e:g=f=>hk (h.symm.trans e))]
   ·have hb:(g==k)=false:=beq_eq_false_iff_ne.mpr h
    simp only[List.lookup,hb]
    exact ih
theorem i9 (f:Str)(v:V): ∀fs:List (Str×V),f∈(putF f v fs).map (·.1)/\ ∀g,g∈fs.map (·.1)->g∈(putF f v fs).map (·.1)
 |[]=>⟨by simp [putF],fun g h=>by simp at h⟩
 |(k,x)::r=>by
  obtain⟨i1,i2⟩:=i9 f v r
  rw[show putF f v ((k,x)::r)=(if k=f then (k,v)::r else (k,x)::putF f v r) from rfl]
  by_cases hk:k=f
  ·rw[if_pos hk]
   subst hk
   exact⟨by simp,fun g h=>by simpa using h⟩
  ·rw[if_neg hk]
   refine⟨?_,fun g h=>?_⟩
   ·rw[List.map_cons]
    exact List.mem_cons_of_mem _ i1
   ·rw[List.map_cons] at h ⊢
    rcases List.mem_cons.mp h with e|e
    ·exact List.mem_cons.mpr (.inl e)
    ·exact List.mem_cons_of_mem _ (i2 g e)
theorem jm (f:Str)(v:V): ∀fs:List (Str×V),(putF f v fs).length<=fs.length+1
 |[]=>by simp [putF]
 |(k,x)::r=>by
  have ih:=jm f v r
  rw[show putF f v ((k,x)::r)=(if k=f then (k,v)::r else (k,x)::putF f v r) from rfl]
  by_cases hk:k=f
  ·rw[if_pos hk,List.length_cons,List.length_cons];omega
  ·rw[if_neg hk,List.length_cons,List.length_cons];omega
theorem RelO.some_of {v:V}{o:Option Value}(r:RelO (some v) o): ∃u,o=some u/\RelV v u:=by
 cases o with
 |none=>exact (show False from r).elim
 |some u=>exact⟨u,rfl,r⟩
theorem RelO.none_of {o:Option Value}(r:RelO none o):o=none:=by
 cases o with
 |none=>rfl
 |some u=>exact (show False from r).elim
theorem rB {v:V}{u:Value}(r:RelV v u):PySem.W.handedIn u=true:=by
 cases v with
 |non=>cases (show u=Value.none from r);rfl
 |bl b=>cases (show u=Value.bool b from r);rfl
 |int i=>obtain⟨t,e⟩:=(show∃t,u=Value.int i t from r);cases e;rfl
 |str x=>obtain⟨t,e⟩:=(show∃t,u=Value.str x t from r);cases e;rfl
 |byt b=>obtain⟨t,e⟩:=(show∃t,u=Value.bytes b t from r);cases e;rfl
 |flt b=>obtain⟨t,e⟩:=(show∃t,u=Value.float b t from r);cases e;rfl
 |ref a=>cases (show u=Value.ref a from r);rfl
 |ty n=>cases (show u=Value.type n from r);rfl
section
variable {P:Program}{w:World}{H H':Hp}{h h':Heap}{a C dx:Addr}{fs fs':List (Str×V)}
theorem jA (hok:HOk P w H h)(e:H a=some (.ins C dx fs)): ∃mA,ObjM h a dx C mA/\(∀f,RelO (fs.lookup f) (mA f))/\PySem.Within mA (fs.map (·.1))/\fs.length<=1000/\H dx=some (.own a):=by
 obtain⟨d,z,ne,ob,mA,n,r,q⟩:=(show ObjOk P w H h a (.ins C dx fs) from hok a _ e)
 exact⟨mA,⟨ob,n,ne⟩,r,q,z,d⟩
end
structure Cls (K:PySem.W.Frag)(C:Addr):Prop where
 pg:plainGet K C Str.empty=true
 hd:PySem.W.hasDictIn K C=true
 po:PySem.W.plainOver K C=true
 sa:findIn K (.ref C) "__setattr__"=some (some (.builtin "object.__setattr__"))
theorem Cls.get {K:PySem.W.Frag}{C:Addr}(c:Cls K C)(f:Str):plainGet K C f=true:=c.pg
noncomputable def NoAttr (K:PySem.W.Frag)(C:Addr)(f:Str):Prop:=findIn K (.ref C) f=some none
theorem NoAttr.taker {K:PySem.W.Frag}{C:Addr}{f:Str}(n:NoAttr K C f):PySem.W.takerIn K C f=some none:=by
 unfold PySem.W.takerIn
 rw[show findIn K (.ref C) f=some none from n]
 rfl
structure Meth (K:PySem.W.Frag)(C:Addr)(m:Str)(f:Addr):Prop where
 at_:findIn K (.ref C) m=some (some (.ref f))
 fn:isFn K (.ref f)=true
 kp:keepIn K (.ref f)=true
section
variable {X:Cx}{pins:List (Addr×Obj)}{σ:St}{H:Hp}{s:Shared}{a C dx:Addr}{fs:List (Str×V)}{f:Str}{v:V}{A:Around}{E:Value->Shared->Prop}
theorem kH {b:Bool}{Q:Value->Shared->Prop}(I:Inv X pins σ H s)(e:H a=some (.ins C dx fs))(c:Cls X.K C)(n:NoAttr X.K C f)(l:fs.lookup f=some v)
  (h:∀u s',Inv X pins σ H s'->RelV v u->Q u s'):wpAny (model X.prog X.w) A (getAttr (.ref a) f b) Q E s:=by
 obtain⟨mA,O,r,_,_,_⟩:=jA I.hok e
 obtain⟨u,hu,ru⟩:=RelO.some_of (v:=v) (o:=mA f) (by rw[<-l];exact r f)
 exact wA I.kIn O (c.get f) c.hd n hu (rB ru) (h u _ (I.tok _) ru)
theorem kG {m:Str}{g:Addr}{pl:Sem Bool}{Q:Value×List Value->Shared->Prop}(I:Inv X pins σ H s)(e:H a=some (.ins C dx fs))(c:Cls X.K C)(k:Meth X.K C m g)(l:fs.lookup m=none)
  (h:Q (.ref g,[.ref a]) s):wpAny (model X.prog X.w) A (getMethod (.ref a) m pl) Q E s:=by
 obtain⟨mA,O,r,_,_,_⟩:=jA I.hok e
 have hn:mA m=none:=RelO.none_of (by rw[<-l];exact r m)
 exact uv I.kIn O (c.get m) k.at_ k.fn hn h
theorem jN {y:V}{u:Value}{Q:Unit->Shared->Prop}(I:Inv X pins σ H s)(e:H a=some (.ins C dx fs))(c:Cls X.K C)(n:NoAttr X.K C f)(hl:fs.length<1000)(ry:RelV y u)
  (h:∀s',Inv X pins σ (upd H a (.ins C dx (putF f y fs))) s'->Q () s'):wpAny (model X.prog X.w) A (setAttr (.ref a) f u) Q E s:=by
 obtain⟨mA,O,r,wi,_,ho⟩:=jA I.hok e
 have hz:(fs.map (·.1)).length<=sizeLine:=by rw[List.length_map,sizeLine_eq];omega
 refine u8 I.kIn O c.sa c.po n.taker c.hd wi hz fun h' O' sb=>h _ ?_
 have hd: ∃o,h'.get? dx=some o:=let ⟨o,_,_,e',_⟩:=O'.ns;⟨o,e'⟩
 refine I.write (x:=a) (e:=dx) (by rw[e];exact True.intro) (.inr ho) (fun b q hb z=>(sb.2 b hb).trans z) hd ?_
 refine⟨by rw[aF O.ne];exact ho,?_,O.ne,O'.obj,_,O'.ns,fun g=>?_,fun g hg=>?_⟩
 ·have:=jm f y fs;omega
 ·show RelO ((putF f y fs).lookup g) (if g=f then some u else mA g)
  rw[jk]
  by_cases q:g=f
  ·rw[if_pos q,if_pos q];exact ry
  ·rw[if_neg q,if_neg q];exact r g
 ·by_cases q:g=f
  ·rw[q];exact (i9 f y fs).1
  ·refine (i9 f y fs).2 g (wi g fun z=>hg ?_)
   show (if g=f then some u else mA g)=none
   rw[if_neg q];exact z
theorem Inv.made (I:Inv X pins σ H s):Inv X pins σ (upd (upd H s.heap.objs.size (.own (s.heap.objs.size+1))) (s.heap.objs.size+1) (.ins C s.heap.objs.size []))
  {s with heap:=(s.heap.push emptyDict).push (instObj C s.heap.objs.size)}:=by
 have e1:(s.heap.push emptyDict).get? s.heap.objs.size=some emptyDict:=Heap.get?_push_size s.heap rfl
 have e2:((s.heap.push emptyDict).push (instObj C s.heap.objs.size)).get? (s.heap.objs.size+1)=some (instObj C s.heap.objs.size):=by
  have:=Heap.get?_push_size (s.heap.push emptyDict) (o:=instObj C s.heap.objs.size) rfl
  rwa[Heap.size_push] at this
 have e3:(s.heap.push emptyDict).Ns s.heap.objs.size (fun _=>none):=⟨emptyDict,#[],_,e1,rfl,(fun e he=>absurd he (by simp)),fun _=>rfl⟩
 have I1:=I.laid (a:=s.heap.objs.size) (o:=.own (s.heap.objs.size+1)) (h':=s.heap.push emptyDict) (t':=s.toks) (fun b u q=>Heap.get?_push_of_some _ q) (Nat.le_refl _) ⟨_,e1⟩
 refine I1.laid (a:=s.heap.objs.size+1) (o:=.ins C s.heap.objs.size []) (t':=s.toks) (fun b u q=>Heap.get?_push_of_some _ q) (Nat.le_of_eq (Heap.size_push _ _)) ?_
 have ne:s.heap.objs.size≠s.heap.objs.size+1:=Nat.ne_of_lt (Nat.lt_succ_self _)
 refine⟨by rw[aF ne,bF],Nat.zero_le _,ne,e2,fun _=>none,(Heap.Ns1.of_empty e3).at fun o q=>Heap.get?_push_of_some _ q,fun _=>True.intro,fun y hy=>absurd rfl hy⟩
theorem wG {prog:Program}{w:World}{env:Env}{e:Expr}{f:Str}{pos:Pos}{s:Shared}{Q:Value->Shared->Prop}(hb:attributeBase e f env (eval e env)=eval e env)
  (h:wpAny (model prog w) A (eval e env) (fun o s₁=>wpAny (model prog w) A (getAttr o f true) Q E s₁) E s):wpAny (model prog w) A (eval (.Attribute e f pos) env) Q E s:=
 Attribute_any_ h (by rw[arm_eval_Attribute,hb])
end
def tFld (K:PySem.W.Frag)(ta:TE)(f:Str):TE:=fun σ H Q=>ta σ H fun x H1=> ∃a C dx fs v,x=.ref a/\H1 a=some (.ins C dx fs)/\Cls K C/\NoAttr K C f/\fs.lookup f=some v/\Q v H1
def sFld (K:PySem.W.Frag)(ta tv:TE)(f:Str):TS:=fun D σ H=>tv σ H fun y H1=>ta σ H1 fun x H2=> ∃a C dx fs,x=.ref a/\H2 a=some (.ins C dx fs)/\Cls K C/\NoAttr K C f/\fs.length<1000/\
 D.nx σ (upd H2 a (.ins C dx (putF f y fs)))
def InOp (X:Cx)(op:Operator)(rd:V->V->Hp->VK->Prop):Prop:=
 ∀ (pins:List (Addr×Obj)) (s:Shared) (σ:St) (H:Hp) (x y:V) (u v:Value) (Q:VK),Inv X pins σ H s->RelV x u->RelV y v->rd x y H Q->wpAny (model X.prog X.w) X.A (inplaceOp op u v) (EP X pins σ Q) X.xe s
def vc (K:PySem.W.Frag)(ta tv:TE)(rd:V->V->Hp->VK->Prop)(f:Str):TS:=fun D σ H=>ta σ H fun x H1=> ∃a C dx fs v,x=.ref a/\H1 a=some (.ins C dx fs)/\Cls K C/\NoAttr K C f/\fs.lookup f=some v/\
 tv σ H1 fun y H2=>rd v y H2 fun z H3=> ∃dx' fs',H3 a=some (.ins C dx' fs')/\fs'.length<1000/\D.nx σ (upd H3 a (.ins C dx' (putF f z fs')))
section
variable {X:Cx}{o e value:Expr}{f:Str}{pos pos' tpos:Pos}{ta tv:TE}
theorem xM (he:PE X e ta)(hb:attributeBase e f X.env (eval e X.env)=eval e X.env):PE X (.Attribute e f pos) (tFld X.K ta f):=by
 intro pins s σ H Q I h
 refine wG hb (thn (he pins s σ H _ I h) fun u s1 qz=>?_)
 obtain⟨x,H1,I1,rx,a,C,dx,fs,v,ex,ea,c,n,l,q⟩:=qz
 subst ex
 obtain rfl:u=Value.ref a:=rx
 exact kH I1 ea c n l fun u' s2 I2 ru=>⟨v,H1,I2,ru,q⟩
theorem xB (ha:PE X o ta)(hv:PE X value tv)(hs:swapsWith value (some (.Attribute o f pos')) pos.line X.env=pure false):PS X (.Assign [.Attribute o f pos'] value pos) (sFld X.K ta tv f):=by
 intro pins s σ H D I h
 refine plainObj_wpAny_Assign_Attribute (thn (hv pins s σ H _ I h) fun u s1 ⟨y,H1,I1,ry,q⟩=>thn (ha pins s1 σ H1 _ I1 q) fun ov s2 qz=>?_) hs
 obtain⟨x,H2,I2,rx,a,C,dx,fs,ex,ea,c,n,l,q2⟩:=qz
 subst ex
 obtain rfl:ov=Value.ref a:=rx
 exact jN I2 ea c n l ry fun s3 I3=>⟨σ,_,I3,q2⟩
theorem qF {op:Operator}{rd:V->V->Hp->VK->Prop}(ha:PE X o ta)(hv:PE X value tv)(hop:InOp X op rd):PS X (.AugAssign (.Attribute o f tpos) op value pos) (vc X.K ta tv rd f):=by
 intro pins s σ H D I h
 refine wpAny_AugAssign_AttributeAny (thn (ha pins s σ H _ I h) fun ov s1 qz=>?_)
 obtain⟨x,H1,I1,rx,a,C,dx,fs,v,ex,ea,c,n,l,q⟩:=qz
 subst ex
 obtain rfl:ov=Value.ref a:=rx
 refine kH I1 ea c n l fun u s2 I2 ru=>thn (hv pins s2 σ H1 _ I2 q) fun w3 s3 ⟨y,H2,I3,ry,q3⟩=>thn (hop pins s3 σ H2 v y u w3 _ I3 ru ry q3) fun w4 s4 qz=>?_
 obtain⟨z,H3,I4,rz,dx',fs',ea',l',q4⟩:=qz
 exact jN I4 ea' c n l' rz fun s5 I5=>⟨σ,_,I5,q4⟩
def rAdd:V->V->Hp->VK->Prop:=fun x y H Q=> ∃i j,x=.int i/\y=.int j/\Q (.int (i+j)) H
theorem ul:InOp X .Add rAdd:=by
 rintro pins s σ H x y u v Q I rx ry ⟨i,j,rfl,rfl,q⟩
 obtain⟨t,rfl⟩:=(show∃t,u=Value.int i t from rx)
 obtain⟨t',rfl⟩:=(show∃t',v=Value.int j t' from ry)
 exact PyProof.Rows.iadd_int ⟨.int (i+j),H,I.tok _,⟨_,rfl⟩,q⟩
theorem wR {pl:Sem Bool}{m:Str}{apos:Pos}{args:List Expr}{pins:List (Addr×Obj)}{s:Shared}{σ:St}{H:Hp}{Q:Value->Shared->Prop}{te:TE}(he:PE X e te)(I:Inv X pins σ H s)
  (h:te σ H fun x H1=> ∃a C dx fs g,x=.ref a/\H1 a=some (.ins C dx fs)/\Cls X.K C/\Meth X.K C m g/\fs.lookup m=none/\
    ∀s1,Inv X pins σ H1 s1->wpAny (model X.prog X.w) X.A (callWith pos (.ref g) [.ref a] (backTo pos (starEach args X.env)) (backToKw pos (keywordEach [] X.env))) Q X.xe s1)
  (ht:eval (.Call (.Attribute e m apos) args [] pos) X.env=(do
   let ov<-eval e X.env
   standAt apos.atName
   let (f,first)<-holding [ov] (getMethod ov m pl)
   callWith pos f first (backTo pos (starEach args X.env)) (backToKw pos (keywordEach [] X.env)))):
  wpAny (model X.prog X.w) X.A (eval (.Call (.Attribute e m apos) args [] pos) X.env) Q X.xe s:=by
 refine PySem.W.methodCall_KW (pl:=pl) (thn (he pins s σ H _ I h) fun u s1 qz=>?_) ht
 obtain⟨x,H1,I1,rx,a,C,dx,fs,g,ex,ea,c,k,l,q⟩:=qz
 subst ex
 obtain rfl:u=Value.ref a:=rx
 exact kG I1 ea c k l (q s1 I1)
end
section
variable {X:Cx}{pins:List (Addr×Obj)}{σ:St}{H:Hp}{s:Shared}{A:Around}{E:Value->Shared->Prop}{Q:Value->Shared->Prop}{c:Value}{b:Bool}
inductive TyOf (K:PySem.W.Frag)(H:Hp):V->Value->Prop where
 |non:TyOf K H .non (.type "NoneType")
 |bl (x:Bool):TyOf K H (.bl x) (.type "bool")
 |int (i:Int):TyOf K H (.int i) (.type "int")
 |str (x:Str):TyOf K H (.str x) (.type "str")
 |flt (x:UInt64):TyOf K H (.flt x) (.type "float")
 |lst {a:Addr}{xs:List V} (e:H a=some (.lst xs)):TyOf K H (.ref a) (.type "list")
 |frz {a:Addr}{o:Obj}{xs:List V} (e:H a=some (.frz o (.lst xs))):TyOf K H (.ref a) (.type "list")
 |tup {a:Addr}{xs:List V} (e:H a=some (.tup xs)):TyOf K H (.ref a) (.type "tuple")
 |dK {a:Addr}{kvs:List (Key×V)} (e:H a=some (.dK kvs)):TyOf K H (.ref a) (.type "dict")
 |dT {a:Addr}{kvs:List (List Key×V)} (e:H a=some (.dT kvs)):TyOf K H (.ref a) (.type "dict")
 |ins {a C dx:Addr}{fs:List (Str×V)} (e:H a=some (.ins C dx fs)) (cl:Cls K C) (ha:findIn K (.ref C) "__class__"=some (some (.builtin "object.__class__")))
  (hn:PySem.W.specialIn K (.builtin "object.__class__") "__get__"=some (some (.builtin "getset_descriptor.__get__"))) (htk:PySem.W.takesIn K (.builtin "object.__class__")=some true)
  (hm:PySem.W.mroIn K C (.type "object")=some true):TyOf K H (.ref a) (.ref C)
theorem rg {x:V}{u t:Value}(I:Inv X pins σ H s)(rx:RelV x u)(ty:TyOf X.K H x t)(e:kitOne X.K t c=some b)(h:∀tk,Q (.bool b) {s with toks:=tk}):
  wpAny (model X.prog X.w) A (call (.builtin "isinstance") [u,c]) Q E s:=by
 cases ty with
 |non=>cases (show u=Value.none from rx);exact kia_one PySem.W.kitx_none I.kIn True.intro e (fun z=>nomatch z) h
 |bl y=>cases (show u=Value.bool y from rx);exact kia_one PySem.W.kitx_bool I.kIn True.intro e (fun z=>nomatch z) h
 |int i=>obtain⟨t,q⟩:=(show∃t,u=Value.int i t from rx);cases q;exact kia_one PySem.W.kitx_int I.kIn True.intro e (fun z=>nomatch z) h
 |str y=>obtain⟨t,q⟩:=(show∃t,u=Value.str y t from rx);cases q;exact kia_one PySem.W.kitx_str I.kIn True.intro e (fun z=>nomatch z) h
 |flt y=>obtain⟨t,q⟩:=(show∃t,u=Value.float y t from rx);cases q;exact kia_one PySem.W.kitx_float I.kIn True.intro e (fun z=>nomatch z) h
 | @lst a xs ea=>
   cases (show u=Value.ref a from rx)
   obtain⟨_,_,n,_,h1⟩:=(show ObjOk X.prog X.w H s.heap a (.lst xs) from I.hok a _ ea)
   exact kia_one PySem.W.kitx_list I.kIn ⟨_,h1,rfl⟩ e (fun z=>nomatch z) h
 | @frz a ob xs ea=>
   cases (show u=Value.ref a from rx)
   obtain⟨_,_,_,n,_,h1⟩:=(show ObjOk X.prog X.w H s.heap a (.frz ob (.lst xs)) from I.hok a _ ea)
   exact kia_one PySem.W.kitx_list I.kIn ⟨_,h1,rfl⟩ e (fun z=>nomatch z) h
 | @tup a xs ea=>
   cases (show u=Value.ref a from rx)
   obtain⟨_,_,_,p⟩:=(show ObjOk X.prog X.w H s.heap a (.tup xs) from I.hok a _ ea)
   obtain⟨o,h1,h2,_⟩:=p.1
   exact kia_one PySem.W.kitx_tuple I.kIn ⟨o,h1,h2⟩ e (fun z=>nomatch z) h
 | @dK a kvs ea=>
   cases (show u=Value.ref a from rx)
   obtain⟨_,_,vs,_,p⟩:=(show ObjOk X.prog X.w H s.heap a (.dK kvs) from I.hok a _ ea)
   obtain⟨o,es,ep,h1,h2,_⟩:=p
   exact kia_one PySem.W.kitx_dict I.kIn ⟨o,h1,h2.1⟩ e (fun z=>nomatch z) h
 | @dT a kvs ea=>
   cases (show u=Value.ref a from rx)
   obtain⟨_,_,xs,_,o,es,ep,h1,h2,_⟩:=(show ObjOk X.prog X.w H s.heap a (.dT kvs) from I.hok a _ ea)
   exact kia_one PySem.W.kitx_dict I.kIn ⟨o,h1,h2.1⟩ e (fun z=>nomatch z) h
 | @ins a C dx fs ea cl ha hn htk hm=>
   cases (show u=Value.ref a from rx)
   obtain⟨mA,O,_⟩:=jA I.hok ea
   obtain⟨od,J,_⟩:=O.look
   exact kia_one (PySem.W.kitx_own (cl.get _) cl.hd ha hn htk hm) I.kIn J e (fun z=>nomatch z) h
end
end L2
namespace L2
open PySem PySem.Spec PyProof.Rows
structure Room (k:Nat)(A:Around):Prop where
 hd:A.handled=none
 dp:A.depth+3 * k+5<recursionLimit
 un:A.units+16 * k+200<cLine
theorem Room.mono {j k:Nat}{A:Around}(r:Room k A)(h:j<=k):Room j A:=⟨r.hd,by have:=r.dp;omega,by have:=r.un;omega⟩
theorem Room.deeper {k:Nat}{A:Around}(r:Room (k+1) A)(env:Env):Room k (A.deeper env):=
 ⟨r.hd,by have:=r.dp;show A.depth+1+3 * k+5<_;omega,by have:=r.un;show A.units+3+16 * k+200<_;omega⟩
theorem o8 {A:Around}{C:Addr}{us:List Value}{kw:List (Str×Value)}:(A.under (.builtin "type.__call__" ⟨.ref C::us,kw⟩)).depth=A.depth+1:=by
 first|rfl|simp [Around.under,Code.weight,Code.isCreation,Code.isGuard,Code.isCaller,Code.frames,Code.isFrame,guardIds]
theorem o7 {A:Around}{C:Addr}{us:List Value}{kw:List (Str×Value)}:(A.under (.builtin "type.__call__" ⟨.ref C::us,kw⟩)).units=A.units+1:=by
 first|rfl|simp [Around.under,Code.cUnits,Code.frames,Code.isFrame]
theorem Room.make {k:Nat}{A:Around}(r:Room (k+1) A)(C:Addr)(us:List Value)(kw:List (Str×Value)):Room k (A.under (.builtin "type.__call__" ⟨.ref C::us,kw⟩)):=
 ⟨r.hd,by have:=r.dp;rw[o8];omega,by have:=r.un;rw[o7];omega⟩
theorem Room.depth {k:Nat}{A:Around}(r:Room k A):A.depth<recursionLimit:=by have:=r.dp;omega
theorem Room.units {k:Nat}{A:Around}(r:Room k A):A.units+64<cLine:=by have:=r.un;omega
def tNil:TA:=fun _ H Q=>Q [] H
def tCons (ta:TE)(tr:TA):TA:=fun σ H Q=>ta σ H fun x H1=>tr σ H1 fun xs H2=>Q (x::xs) H2
section
variable {X:Cx}{e:Expr}{es:List Expr}{te:TE}{t:TA}{pos:Pos}
theorem pa_nil:PA X [] tNil:=fun _ _ _ _ H Q I h=>Calls.spliced_nil ⟨[],H,I,.nil,h⟩
theorem vI (ha:PE X e te)(hr:PA X es t)(hs:starEach (e::es) X.env=(false,eval e X.env)::starEach es X.env:=by rfl):PA X (e::es) (tCons te t):=by
 intro pos pins s σ H Q I h
 rw[hs]
 show wpAny _ _ (spliced ((false,eval e X.env)::backTo pos (starEach es X.env))) _ _ s
 refine Calls.spliced_cons (thn (ha pins s σ H _ I h) fun u s1 qz=>?_)
 obtain⟨x,H1,I1,r1,q1⟩:=qz
 exact thn (hr pos pins s1 σ H1 _ I1 q1) fun us s2 ⟨xs,H2,I2,r2,q2⟩=>⟨x::xs,H2,I2,.cons r1 r2,q2⟩
def tTup (t:TA):TE:=fun σ H Q=>t σ H fun xs H1=>xs.length<=sizeLine/\ ∀p,H1 p=none->Q (.ref p) (upd H1 p (.tup xs))
def tLst (t:TA):TE:=fun σ H Q=>t σ H fun xs H1=>xs.length<=sizeLine/\ ∀p,H1 p=none->Q (.ref p) (upd H1 p (.lst xs))
theorem sR {x1}(h:PA X es t):PE X (.Tuple es x1 pos) (tTup t):=by
 intro pins s σ H Q I hq
 refine wpAny_Tuple_spliced (thn (h pos pins s σ H _ I hq) fun us s1 ⟨xs,H1,I1,r,z,q⟩=>⟨by rw[<-r.length];exact z,?_⟩)
 have hf:H1 s1.heap.objs.size=none:=I1.hok.fresh (Nat.le_refl _)
 refine⟨.ref s1.heap.objs.size,upd H1 s1.heap.objs.size (.tup xs),I1.laid (t':=s1.toks) (fun b u e=>Heap.get?_push_of_some _ e) (Nat.le_refl _) ?_,rfl,q _ hf⟩
 exact⟨z,us,r,IsTupD.new _ _⟩
theorem xL (h:PA X es t):PE X (.List es pos) (tLst t):=by
 intro pins s σ H Q I hq
 refine wpAny_List_spliced (thn (h pos pins s σ H _ I hq) fun us s1 ⟨xs,H1,I1,r,z,q⟩=>⟨by rw[<-r.length];exact z,?_⟩)
 have hf:H1 s1.heap.objs.size=none:=I1.hok.fresh (Nat.le_refl _)
 refine⟨.ref s1.heap.objs.size,upd H1 s1.heap.objs.size (.lst xs),I1.laid (t':=s1.toks) (fun b u e=>Heap.get?_push_of_some _ e) (Nat.le_refl _) ?_,rfl,q _ hf⟩
 exact⟨z,us,0,r,Heap.get?_push_size _ rfl⟩
end
noncomputable abbrev Sp:=List V->Hp->VK->XK->Prop
noncomputable abbrev CXT:=List Env->Hp->Shared->XK->Value->Shared->Prop
structure Env0 (P:Program)(w:World)(K:PySem.W.Frag)(mg:Str->Option Value)(base:Heap)(A:Around)(outer:List Env)(s:Shared)(H:Hp):Prop where
 frames:A.frames=some outer
 mod:Mod K mg base
 bs: ∀b o,base.get? b=some o->s.heap.get? b=some o/\H b=none
 bsz:base.objs.size<=s.heap.objs.size
 funs:s.heap.FunFrames base outer
 frf: ∀b∈frs outer,H b=none
 hok:HOk P w H s.heap
 bare:AllBare s.gens
def CE (outer:List Env)(P:Program)(w:World)(H:Hp)(s:Shared)(Q:VK)(u:Value)(s':Shared):Prop:=
 ∃v H',s'.os=s.os/\AllBare s'.gens/\Un (frs outer) [] H H' s.heap s'.heap/\HOk P w H' s'.heap/\RelV v u/\Q v H'
def CR (CX:CXT)(outer:List Env)(P:Program)(w:World)(H:Hp)(s:Shared)(Q:VK)(E:XK)(r:Result)(s':Shared):Prop:=
 match r with
 |.ok (.ret u)=>CE outer P w H s Q u s'
 |.ok _=>False
 |.error e=>CX outer H s E e s'
structure FnOk (P:Program)(w:World)(K:PySem.W.Frag)(mg:Str->Option Value)(base:Heap)(CX:CXT)(k:Nat)(f:Addr)(fd:FuncData)(ps:List Str)(sp:Sp):Prop where
 len: ∀vs H Q E,sp vs H Q E->vs.length=ps.length
 run: ∀ (A:Around) (outer:List Env) (s:Shared) (H:Hp) (args:Args) (us:List Value) (vs:List V) (Q:VK) (E:XK),Room k A->Env0 P w K mg base A outer s H->BindsTo s fd args (ps.zip us)->Vals vs us->sp vs H Q E->
  codeAny (model P w) A (.call (.ref f) args) (CR CX outer P w H s Q E) s
theorem FnOk.imp {P:Program}{w:World}{K:PySem.W.Frag}{mg:Str->Option Value}{base:Heap}{CX:CXT}{k:Nat}{f:Addr}{fd:FuncData}{ps:List Str}{sp sp':Sp}(F:FnOk P w K mg base CX k f fd ps sp)
  (h:∀vs H Q E,sp' vs H Q E->sp vs H Q E):FnOk P w K mg base CX k f fd ps sp':=
 ⟨fun vs H Q E q=>F.len vs H Q E (h _ _ _ _ q),fun A outer s H args us vs Q E hr he hb hv hs=>F.run A outer s H args us vs Q E hr he hb hv (h _ _ _ _ hs)⟩
theorem Env0.make {P:Program}{w:World}{K:PySem.W.Frag}{mg:Str->Option Value}{base:Heap}{A:Around}{outer:List Env}{s:Shared}{H:Hp}(e:Env0 P w K mg base A outer s H)(C:Addr)(us:List Value)(kw:List (Str×Value)):
 Env0 P w K mg base (A.under (.builtin "type.__call__" ⟨.ref C::us,kw⟩)) outer s H:=⟨by first|exact e.frames|(simpa [Around.under,Code.envs,Code.isFrame,pushEnvs] using e.frames),e.mod,e.bs,e.bsz,e.funs,e.frf,e.hok,e.bare⟩
section
variable {X:Cx}{pins:List (Addr×Obj)}{σ:St}{H:Hp}{s s':Shared}
theorem Inv.env0 (I:Inv X pins σ H s):Env0 X.prog X.w X.K X.mg X.base X.A X.stack s H:=
 ⟨I.ok.frames,I.ok.mod,I.bs,Nat.le_trans I.ok.bsz I.sz,I.stack,I.stkFree,I.hok,I.bare⟩
theorem Inv.after {Q:VK}{u:Value}(I:Inv X pins σ H s)(h:CE X.stack X.prog X.w H s Q u s'):EP X pins σ Q u s':=by
 obtain⟨v,H',os,bare,un,hok,r,q⟩:=h
 obtain⟨hh,g,d,t,os'⟩:=s'
 obtain rfl:os'=s.os:=os
 exact⟨v,H',I.call (h':=hh) (g':=g) (d':=d) (t':=t) (ch:=[]) un hok bare (fun b z=>absurd z (by simp)),r,q⟩
end
def tCall (sp:Sp)(dvs:List V)(E:XK)(t:TA):TE:=fun σ H Q=>t σ H fun vs H1=>sp (vs++dvs) H1 Q E
def tMeth (C:Addr)(m:Str)(sp:Sp)(dvs:List V)(E:XK)(ta:TE)(t:TA):TE:=fun σ H Q=>ta σ H fun x H1=> ∃a dx fs,x=.ref a/\H1 a=some (.ins C dx fs)/\fs.lookup m=none/\
 t σ H1 fun vs H2=>sp (x::(vs++dvs)) H2 Q E
def tMake (C:Addr)(sp:Sp)(dvs:List V)(E:XK)(t:TA):TE:=fun σ H Q=>t σ H fun vs H1=> ∀x dx,H1 x=none->H1 dx=none->dx≠x->
 sp (.ref x::(vs++dvs)) (upd (upd H1 dx (.own x)) x (.ins C dx [])) (fun v H2=>v=.non/\Q (.ref x) H2) E
noncomputable def Binds (K:PySem.W.Frag)(fd:FuncData)(ps:List Str)(ds:List Value):Prop:=
 ∀ (s:Shared) (us:List Value),K.In s.heap->(us++ds).length=ps.length->BindsTo s fd ⟨us,[]⟩ (ps.zip (us++ds))
theorem Binds.all {K:PySem.W.Frag}{fd:FuncData}{ps:List Str}(h:∀us:List Value,us.length=ps.length->bindArgs fd ⟨us,[]⟩=pure (ps.zip us)):Binds K fd ps []:=fun s us _ hl=>by
 rw[List.append_nil] at hl ⊢
 exact .of_eq (h us hl)
def jg (CX:CXT)(X:Cx)(E:XK):Prop:= ∀ (pins:List (Addr×Obj)) (σ:St) (H:Hp) (s:Shared) (e:Value) (s':Shared),Inv X pins σ H s->CX X.stack H s E e s'->X.xe e s'
section
variable {X:Cx}{CX:CXT}{k:Nat}{f C:Addr}{fd:FuncData}{ps:List Str}{sp:Sp}{dvs:List V}{ds:List Value}{E:XK}{x m:Str}{p pos apos:Pos}{e o:Expr}{es:List Expr}{ta:TE}{t:TA}
theorem sA {pins:List (Addr×Obj)}{σ:St}{H:Hp}{s:Shared}{Q:VK}{us:List Value}{vs:List V}(F:FnOk X.prog X.w X.K X.mg X.base CX k f fd ps sp)(hr:Room k X.A)(hb:Binds X.K fd ps ds)(hd:Vals dvs ds)(hx:jg CX X E)
  (I:Inv X pins σ H s)(r:Vals vs us)(h:sp (vs++dvs) H Q E):wpAny (model X.prog X.w) X.A (call (.ref f) us) (EP X pins σ Q) X.xe s:=by
 have r2:Vals (vs++dvs) (us++ds):=r.append hd
 have hl:(us++ds).length=ps.length:=by rw[<-r2.length];exact F.len _ _ _ _ h
 refine wpAny_call (codeAny_mono (F.run X.A X.stack s H ⟨us,[]⟩ (us++ds) (vs++dvs) Q E hr I.env0 (hb s us I.kIn hl) r2 h) fun r s' hq=>?_)
 cases r with
 |error e=>exact hx pins σ H s e s' I hq
 |ok fl=>
  cases fl with
  |ret u=>exact I.after hq
  |next=>exact False.elim hq
  |brk=>exact False.elim hq
  |cont=>exact False.elim hq
theorem vG (F:FnOk X.prog X.w X.K X.mg X.base CX k f fd ps sp)(hr:Room k X.A)(hg:Gl X x)(hm:X.mg x=some (.ref f))(hk:keepIn X.K (.ref f)=true)(hb:Binds X.K fd ps ds)(hd:Vals dvs ds)(hx:jg CX X E)
  (ha:PA X (e::es) t)(hdb:(x==("__debug__":Str))=false:=by decide)(he:starEach (e::es) X.env=(false,eval e X.env)::starEach es X.env:=by rfl)(hpl:(backTo pos (starEach es X.env)).any (·.1)=false:=by rfl):
  PE X (.Call (.Name x p) (e::es) [] pos) (tCall sp dvs E t):=by
 intro pins s σ H Q I h
 refine wpAny_Call_Name_kw (mE I hg hm ?_ hdb)
 refine PySem.W.callWith_K (h₀:=X.base) I.ok.mod.kin hk (thn (ha pos pins s σ H _ I h) fun us s1 ⟨vs,H1,I1,r,q⟩=>⟨I1.kIn,?_⟩) he hpl
 exact sA F hr hb hd hx I1 r q
theorem vA {pl:Sem Bool}(he:PE X o ta)(c:Cls X.K C)(hm:Meth X.K C m f)(F:FnOk X.prog X.w X.K X.mg X.base CX k f fd ps sp)(hr:Room k X.A)(hb:Binds X.K fd ps ds)(hd:Vals dvs ds)(hx:jg CX X E)(ha:PA X (e::es) t)
  (hst:starEach (e::es) X.env=(false,eval e X.env)::starEach es X.env:=by rfl)(hpl:(backTo pos (starEach es X.env)).any (·.1)=false:=by rfl)
  (ht:eval (.Call (.Attribute o m apos) (e::es) [] pos) X.env=(do
   let ov<-eval o X.env
   standAt apos.atName
   let (f,first)<-holding [ov] (getMethod ov m pl)
   callWith pos f first (backTo pos (starEach (e::es) X.env)) (backToKw pos (keywordEach [] X.env))):=by rfl):
  PE X (.Call (.Attribute o m apos) (e::es) [] pos) (tMeth C m sp dvs E ta t):=by
 intro pins s σ H Q I h
 refine PySem.W.methodCall_KW (pl:=pl) (thn (he pins s σ H _ I h) fun u s1 qz=>?_) ht
 obtain⟨x,H1,I1,rx,a,dx,fs,ex,ea,l,q⟩:=qz
 subst ex
 obtain rfl:u=Value.ref a:=rx
 refine kG I1 ea c hm l ?_
 refine PySem.W.callWith_K (first:=[.ref a]) (h₀:=X.base) I.ok.mod.kin hm.kp (thn (ha pos pins s1 σ H1 _ I1 q) fun us s2 ⟨vs,H2,I2,r,q2⟩=>⟨I2.kIn,?_⟩) hst hpl
 exact sA (us:=.ref a::us) (vs:=.ref a::vs) F hr hb hd hx I2 (.cons rfl r) q2
structure Mk (K:PySem.W.Frag)(C f:Addr):Prop where
 makes:PySem.W.makesIn K C=true
 init:findIn K (.ref C) "__init__"=some (some (.ref f))
 fn:isFn K (.ref f)=true
 kp:keepIn K (.ref C)=true
theorem sy {pins:List (Addr×Obj)}{σ:St}{H:Hp}{s:Shared}{Q:VK}{us:List Value}{vs:List V}(M:Mk X.K C f)(F:FnOk X.prog X.w X.K X.mg X.base CX k f fd ps sp)(hr:Room (k+1) X.A)(hb:Binds X.K fd ps ds)(hd:Vals dvs ds)
  (hx:jg CX X E)(I:Inv X pins σ H s)(r:Vals vs us)
  (h:∀x dx,H x=none->H dx=none->dx≠x->sp (.ref x::(vs++dvs)) (upd (upd H dx (.own x)) x (.ins C dx [])) (fun v H2=>v=.non/\Q (.ref x) H2) E):
  wpAny (model X.prog X.w) X.A (call (.ref C) us) (EP X pins σ Q) X.xe s:=by
 have hq:=h (s.heap.objs.size+1) s.heap.objs.size (I.hok.fresh (Nat.le_succ _)) (I.hok.fresh (Nat.le_refl _)) (Nat.ne_of_lt (Nat.lt_succ_self _))
 have I2:=Inv.made (C:=C) I
 have r2:Vals (V.ref (s.heap.objs.size+1)::(vs++dvs)) (Value.ref (s.heap.objs.size+1)::(us++ds)):=.cons rfl (r.append hd)
 have hl:(Value.ref (s.heap.objs.size+1)::us++ds).length=ps.length:=by
  have e:=r2.length
  rw[F.len _ _ _ _ hq] at e
  exact e.symm
 refine wpAny_call (t7 (f:=f) I.kIn M.makes M.init (beq_iff_eq.mp M.fn) (codeAny_mono (F.run _ X.stack _ _ ⟨Value.ref (s.heap.objs.size+1)::us,[]⟩ (Value.ref (s.heap.objs.size+1)::(us++ds)) _ _ E (hr.make C us [])
  (I2.env0.make C us []) (hb _ (Value.ref (s.heap.objs.size+1)::us) I2.kIn hl) r2 hq) fun r s' hq'=>?_))
 cases r with
 |error e=>exact hx pins σ _ _ e s' I2 hq'
 |ok fl=>
  cases fl with
  |ret u=>
   obtain⟨v,H',I3,rv,ev,q3⟩:=I2.after hq'
   subst ev
   exact⟨rv,⟨V.ref (s.heap.objs.size+1),H',I3,rfl,q3⟩⟩
  |next=>exact False.elim hq'
  |brk=>exact False.elim hq'
  |cont=>exact False.elim hq'
theorem vB (M:Mk X.K C f)(F:FnOk X.prog X.w X.K X.mg X.base CX k f fd ps sp)(hr:Room (k+1) X.A)(hg:Gl X x)(hm:X.mg x=some (.ref C))(hb:Binds X.K fd ps ds)(hd:Vals dvs ds)(hx:jg CX X E)
  (ha:PA X (e::es) t)(hdb:(x==("__debug__":Str))=false:=by decide)(he:starEach (e::es) X.env=(false,eval e X.env)::starEach es X.env:=by rfl)(hpl:(backTo pos (starEach es X.env)).any (·.1)=false:=by rfl):
  PE X (.Call (.Name x p) (e::es) [] pos) (tMake C sp dvs E t):=by
 intro pins s σ H Q I h
 refine wpAny_Call_Name_kw (mE I hg hm ?_ hdb)
 refine PySem.W.callWith_K (h₀:=X.base) I.ok.mod.kin M.kp (thn (ha pos pins s σ H _ I h) fun us s1 ⟨vs,H1,I1,r,q⟩=>⟨I1.kIn,?_⟩) he hpl
 exact sy M F hr hb hd hx I1 r q
end
section
variable {X:Cx}{CX:CXT}{k:Nat}{f C:Addr}{fd:FuncData}{ps ks:List Str}{sp:Sp}{E:XK}{x m:Str}{p pos apos kpos:Pos}{e o:Expr}{es:List Expr}{kws:List Keyword}{te ta:TE}{t tk:TA}{nm:Option Str}
variable {g:List Value->List Value->List Value}{gV:List V->List V->List V}
end
structure FnScope (N P:List Str)(sc:Scope):Prop where
 kind:sc.kind=.function
 co:sc.isCoroutine=false
 gen:sc.isGenerator=false
 nd:N.Nodup
 pre:N.take P.length=P
 par: ∀x∈P,sc.names.lookup x=some .local \/sc.names.lookup x=some .cell
 nofree: ∀y∈sc.names,y.2≠.free
theorem lP {kindOf:Str->Option NameKind}{x:Str}: ∀ {binds:List (Str×Value)}{m:Str->Option Value},(∀v,(x,v) ∉ binds)->bindL kindOf binds m x=m x
 |[],_,_=>rfl
 |(n,v)::r,m,h=>by
  unfold bindL
  rw[lP fun w hw=>h w (List.mem_cons_of_mem _ hw)]
  split
  ·have:x≠n:=by rintro rfl;exact h v List.mem_cons_self
   simp [this]
  ·rfl
theorem lR {kindOf:Str->Option NameKind}{x:Str}: ∀ {binds:List (Str×Value)}{m:Str->Option Value},(∀v,(x,v) ∉ binds)->bindC kindOf binds m x=m x
 |[],_,_=>rfl
 |(n,v)::r,m,h=>by
  unfold bindC
  rw[lR fun w hw=>h w (List.mem_cons_of_mem _ hw)]
  split
  ·rfl
  ·have:x≠n:=by rintro rfl;exact h v List.mem_cons_self
   simp [this]
theorem lQ {kindOf:Str->Option NameKind}{x:Str}{v:Value}: ∀ {P:List Str}{vs:List Value}{i:Nat}{m:Str->Option Value},P.Nodup->P[i]?=some x->vs[i]?=some v->kindOf x=some .local ->
  bindL kindOf (P.zip vs) m x=some v
 |[],_,_,_,_,h,_,_=>by simp at h
 |_::_,[],_,_,_,_,h,_=>by simp at h
 |p::P,w::vs,0,m,nd,h1,h2,hk=>by
  simp at h1 h2;subst h1;subst h2
  show bindL kindOf ((p,w)::P.zip vs) m p=_
  unfold bindL
  rw[lP fun v hv=>(List.nodup_cons.mp nd).1 (List.of_mem_zip hv).1,if_pos hk]
  simp
 |p::P,w::vs,i+1,m,nd,h1,h2,hk=>by
  show bindL kindOf ((p,w)::P.zip vs) m x=_
  unfold bindL
  exact lQ (i:=i) (List.nodup_cons.mp nd).2 (by simpa using h1) (by simpa using h2) hk
theorem lS {kindOf:Str->Option NameKind}{x:Str}{v:Value}: ∀ {P:List Str}{vs:List Value}{i:Nat}{m:Str->Option Value},P.Nodup->P[i]?=some x->vs[i]?=some v->kindOf x≠some .local ->
  bindC kindOf (P.zip vs) m x=some v
 |[],_,_,_,_,h,_,_=>by simp at h
 |_::_,[],_,_,_,_,h,_=>by simp at h
 |p::P,w::vs,0,m,nd,h1,h2,hk=>by
  simp at h1 h2;subst h1;subst h2
  show bindC kindOf ((p,w)::P.zip vs) m p=_
  unfold bindC
  rw[lR fun v hv=>(List.nodup_cons.mp nd).1 (List.of_mem_zip hv).1,if_neg hk]
  simp
 |p::P,w::vs,i+1,m,nd,h1,h2,hk=>by
  show bindC kindOf ((p,w)::P.zip vs) m x=_
  unfold bindC
  exact lS (i:=i) (List.nodup_cons.mp nd).2 (by simpa using h1) (by simpa using h2) hk
def start (N:List Str)(vs:List V):St:=vs.map some++List.replicate (N.length - vs.length) none
def cxOf (CX:CXT)(P:Program)(w:World)(K:PySem.W.Frag)(mg:Str->Option Value)(base:Heap)(N:List Str)(qual:Str)(scope:Scope)(f:Addr)(cd:Value)(A:Around)(outer:List Env)(s:Shared)(H:Hp)(E:XK):Cx where
 prog:=P
 w:=w
 K:=K
 mg:=mg
 base:=base
 A:=A.deeper (envOfC qual scope s.heap.objs.size f cd)
 N:=N
 s₀:=s
 H₀:=H
 env:=envOfC qual scope s.heap.objs.size f cd
 outer:=outer
 stack:=envOfC qual scope s.heap.objs.size f cd::outer
 ex:=[]
 calm:=true
 fn:=fun _=>true
 pn:=[]
 xe:=fun e s'=>wpAny (model P w) (A.deeper (envOfC qual scope s.heap.objs.size f cd)) (leaving (envOfC qual scope s.heap.objs.size f cd) e) (fun _ s''=>CX outer H s E e s'') (fun e' s''=>CX outer H s E e' s'') s'
theorem oA {sc:Scope}{n:Nat}{x:Str}(h:sc.names.lookup x=some .cell): ∃c,(cellsFrom n sc.names []).lookup x=some c:=by
 have q:=PySem.W.cellsFrom_some sc.names n [] (.inl h)
 exact Option.isSome_iff_exists.mp q
theorem rh {CX:CXT}{P:Program}{w:World}{K:PySem.W.Frag}{mg:Str->Option Value}{base:Heap}{N ps:List Str}{qual:Str}{scope:Scope}{f:Addr}{cd:Value}{A:Around}{outer:List Env}{s s1:Shared}{H:Hp}{E:XK}{us:List Value}{vs:List V}
  (S:FnScope N ps scope)(hd:A.handled=none)(e0:Env0 P w K mg base A outer s H)(hl:vs.length=ps.length)(r:Vals vs us)
  (x:InCallC s s.heap.objs.size (bindL (envOfC qual scope s.heap.objs.size f cd).kindOf (ps.zip us) fun _=>none) (cellsFrom (s.heap.objs.size+1) scope.names []) (bindC (envOfC qual scope s.heap.objs.size f cd).kindOf (ps.zip us) fun _=>none) s1):
  Inv (cxOf CX P w K mg base N qual scope f cd A outer s H E) [] (start N vs) H s1:=by
 have hpl:ps.length<=N.length:=by have:=congrArg List.length S.pre;rw[List.length_take] at this;omega
 obtain⟨h1,tk,rfl,hk⟩:=x.done
 have noA: ∀b:Addr,b ∉ (cxOf CX P w K mg base N qual scope f cd A outer s H E).ex:=fun b z=>absurd (show b∈([]:List Addr) from z) (by simp)
 refine⟨⟨e0.mod,S.kind,rfl,rfl,Nat.le_refl _,fun y z c h1 h2=>?_,fun y hy=>?_,fun y c _ h=>?_,fun _=>hd,Around.frames_deeper e0.frames,.inr ⟨rfl,rfl⟩,fun b z=>absurd z (noA b),e0.bs,e0.bsz,fun b _ _=>noA b,fun b z=>absurd z (noA b),e0.funs,e0.frf⟩,
  rfl,e0.bare,Un.kept hk,⟨_,x.toInCall.ns,fun i y v h1 h2 h3=>?_⟩,fun y c h=>⟨_,x.cell y c h⟩,e0.hok.fresh (Nat.le_refl _),fun y c h=>?_,fun p hp=>absurd (show p∈([]:List (Addr×Obj)) from hp) (by simp),e0.hok.kept hk,?_⟩
 ·exact name_of_addr x.apart (PySem.mem_of_lookup h1) (PySem.mem_of_lookup h2)
 ·have hy:scope.names.lookup y=some .cell\/scope.names.lookup y=some .free:=hy
  rcases hy with hy|hy
  ·exact oA hy
  ·exact absurd rfl (S.nofree _ (PySem.mem_of_lookup hy))
 ·exact Nat.le_of_lt (x.above y c (PySem.mem_of_lookup h))
 ·have hi:i<vs.length:=by
   unfold start at h2
   by_cases hi:i<vs.length
   ·exact hi
   ·rw[List.getElem?_append_right (by simpa using hi)] at h2
    rw[List.getElem?_replicate] at h2
    split at h2<;>cases h2
  have ha:vs[i]?=some v:=by
   unfold start at h2
   rw[List.getElem?_append_left (by simpa using hi),List.getElem?_map] at h2
   cases e:vs[i]? with
   |none=>rw[e] at h2;cases h2
   |some a=>rw[e] at h2;cases h2;rfl
  obtain⟨u,hu,rv⟩:=r.get ha
  have hp:ps[i]?=some y:=by
   rw[<-S.pre,List.getElem?_take_of_lt (by omega)];exact h1
  have ndP:ps.Nodup:=by rw[<-S.pre];exact S.nd.sublist (List.take_sublist _ _)
  refine⟨u,rv,?_⟩
  rcases S.par y (List.mem_of_getElem? hp) with k|k
  ·exact .inl ⟨k,lQ ndP hp hu k⟩
  ·obtain⟨c,e⟩:=oA (n:=s.heap.objs.size+1) k
   refine .inr ⟨.inl k,c,e,?_⟩
   have q:=x.cell y c e
   rw[lS ndP hp hu (by show scope.names.lookup y≠_;rw[k];decide)] at q
   exact q
 ·exact e0.hok.fresh (Nat.le_of_lt (x.above y c (PySem.mem_of_lookup h)))
 ·unfold start
  show _=N.length
  rw[List.length_append,List.length_map,List.length_replicate]
  omega
theorem zq {CX:CXT}{P:Program}{w:World}{K:PySem.W.Frag}{mg:Str->Option Value}{base:Heap}{k:Nat}{f:Addr}{name qual:Str}{params:Arguments}{body:List Stmt}{scope:Scope}{dV kV doc pm cdv ct oc:Value}{an od:Option Addr}
  {osl:Array (Option Value)}{N ps:List Str}{sp:Sp}(lk:K.lookup f=some ⟨oc,od,.func (fnOf name qual params body scope dV kV doc pm an cdv ct),osl⟩)(hcd:codeIn K cdv qual=true)(S:FnScope N ps scope)
  (len: ∀vs H Q E,sp vs H Q E->vs.length=ps.length)
  (hbody: ∀ (A:Around) (outer:List Env) (s:Shared) (H:Hp) (vs:List V) (Q:VK) (E:XK),Room k (A.deeper (envOfC qual scope s.heap.objs.size f cdv))->sp vs H Q E->
   ∃t,PSs (cxOf CX P w K mg base N qual scope f cdv A outer s H E) body t/\t {nx:=fun _ H'=>Q .non H',rt:=Q} (start N vs) H):
  FnOk P w K mg base CX (k+1) f (fnOf name qual params body scope dV kV doc pm an cdv ct) ps sp:=by
 refine⟨len,fun A outer s H args us vs Q E hr e0 hb r hsp=>?_⟩
 have hl:=len _ _ _ _ hsp
 have KX:K.In s.heap:=e0.mod.kin.keeps fun b o e=>(e0.bs b o e).1
 have lim:s.heap.NoLimit:=e0.mod.nolimit.keeps fun b o e=>(e0.bs b o e).1
 have hkind: ∀y∈ps.zip us,scope.names.lookup y.1=some .local \/(scope.names.lookup y.1=some .cell/\((cellsFrom (s.heap.objs.size+1) scope.names []).lookup y.1).isSome=true):=fun⟨n,v⟩ hy=>by
  rcases S.par n (List.of_mem_zip hy).1 with q|q
  ·exact .inl q
  ·exact .inr ⟨q,PySem.W.cellsFrom_some _ _ _ (.inl q)⟩
 refine codeAny_call_function hr.depth (KX _ _ lk) rfl S.co S.gen rfl (PySem.W.codeRec_of KX hcd) (hb _ _ _ _ ?_)
 refine wpAny_newFunctionEnv_cells S.kind hkind fun env he s1 x=>?_
 subst he
 refine⟨lim.keeps x.toInCall.keep,codeAny_func ?_⟩
 obtain⟨t,ht,hq⟩:=hbody A outer s H vs Q E (hr.deeper _) hsp
 have I:Inv (cxOf CX P w K mg base N qual scope f cdv A outer s H E) [] (start N vs) H s1:=rh S hr.hd e0 hl r x
 refine wpAny_mono (ht [] s1 (start N vs) H _ I hq) (fun fl s' hs=>?_) fun e s' hs=>hs
 have fin: ∀ {σ':St}{H':Hp}{v:V}{u:Value},Inv (cxOf CX P w K mg base N qual scope f cdv A outer s H E) [] σ' H' s'->RelV v u->Q v H'->CE outer P w H s Q u s':=
  fun{σ' H' v u} J rv q=>⟨v,H',J.os,J.bare,J.base,J.hok,rv,q⟩
 cases fl with
 |ret u=>
  obtain⟨v,σ',H',J,rv,q⟩:=hs
  exact fin J rv q
 |next=>
  obtain⟨σ',H',J,q⟩:=hs
  exact fin (v:=V.non) (u:=Value.none) J rfl q
 |brk=>
  obtain⟨_,_,_,q⟩:=hs
  exact False.elim q
 |cont=>
  obtain⟨_,_,_,q⟩:=hs
  exact False.elim q
end L2
namespace L2
open PySem PySem.Spec PyProof.Rows
section
variable {X:Cx}{x:Str}{p pos:Pos}{e:Expr}{es:List Expr}{t:TA}{id T:String}{r:List V->Hp->VK->Prop}
def tCB (r:List V->Hp->VK->Prop)(t:TA):TE:=fun σ H Q=>t σ H fun vs H1=>r vs H1 Q
theorem sU (hc:CallR X (.builtin id) r)(hg:Gl X x)(hm:X.mg x=none)(hv:bootBuiltins x=some (.builtin id))(ha:PA X (e::es) t)(hn:x≠ "__name__":=by decide)(hdb:(x==("__debug__":Str))=false:=by decide)
  (he:starEach (e::es) X.env=(false,eval e X.env)::starEach es X.env:=by rfl)(hpl:(backTo pos (starEach es X.env)).any (·.1)=false:=by rfl):PE X (.Call (.Name x p) (e::es) [] pos) (tCB r t):=by
 intro pins s σ H Q I h
 refine wpAny_Call_Name_kw (gg I hg hm hv ?_ hn hdb)
 exact PyProof.Rows.callWith_builtin1 (thn (ha pos pins s σ H _ I h) fun us s1 ⟨vs,H1,I1,r1,q1⟩=>hc pins s1 σ H1 vs us Q I1 r1 q1) he hpl
theorem iQ (hc:CallR X (.type T) r)(hg:Gl X x)(hm:X.mg x=none)(hv:bootBuiltins x=some (.type T))(ha:PA X (e::es) t)(hn:x≠ "__name__":=by decide)(hdb:(x==("__debug__":Str))=false:=by decide)
  (he:starEach (e::es) X.env=(false,eval e X.env)::starEach es X.env:=by rfl)(hpl:(backTo pos (starEach es X.env)).any (·.1)=false:=by rfl):PE X (.Call (.Name x p) (e::es) [] pos) (tCB r t):=by
 intro pins s σ H Q I h
 refine wpAny_Call_Name_kw (gg I hg hm hv ?_ hn hdb)
 exact PyProof.Rows.callWith_type1 (thn (ha pos pins s σ H _ I h) fun us s1 ⟨vs,H1,I1,r1,q1⟩=>hc pins s1 σ H1 vs us Q I1 r1 q1) he hpl
end
end L2
namespace HT
open PySem PyProof.Rows
section
open PySem.SeqAt
open PySem.AutoSeq1 (wpAny_loadPart')
open PySem.MeetsSeq PySem.MeetsSeq2 PySem.MeetsSeq3
end
section
variable {prog:Program}{w:World}{A:Around}{E:Value->Shared->Prop}{s:Shared}
theorem cat_tup {t b:Addr}{vs ws:List Value}{Q:Value->Shared->Prop}(ht:IsTup s.heap t vs.toArray)(hb:IsTup s.heap b ws.toArray)(hv:vs≠ [])
  (h1:ws=[]->Q (.ref t) s)(h2:ws≠ []->Q (.ref s.heap.objs.size) {s with heap:=s.heap.push {cls:=.type "tuple",data:=.seq (vs++ws).toArray}})
  (hsz:vs.length+ws.length<=sizeLine):wpAny (model prog w) A (binaryOp .Add (.ref t) (.ref b)) Q E s:=by
 obtain⟨⟨cls,dd,data,sl⟩,ho,hc,n,hd⟩:=id ht
 obtain⟨⟨cls2,dd2,data2,sl2⟩,ho2,hc2,n2,hd2⟩:=id hb
 simp only at hc hd hc2 hd2
 subst hc hd hc2 hd2
 have e:vs.toArray++ws.toArray=(vs++ws).toArray:=by simp
 by_cases hw:ws=[]
 ·exact concat_meets ⟨_,ho,rfl⟩ ⟨_,ho2,rfl⟩ noFill_tuple_add seq_tuple_add PySem.F.slot_tuple_add PySem.F.entry_tuple_add (PySem.F.args_tuple_add_2 _ _)
   (tuple_addW1 t b vs.toArray ws.toArray n n2 dd dd2 sl sl2 (by simpa using hv) (by simp [hw])) ⟨ho,ho2,h1 hw⟩
 ·refine concat_meets ⟨_,ho,rfl⟩ ⟨_,ho2,rfl⟩ noFill_tuple_add seq_tuple_add PySem.F.slot_tuple_add PySem.F.entry_tuple_add (PySem.F.args_tuple_add_2 _ _)
   (tuple_addW2 t b vs.toArray ws.toArray n n2 dd dd2 sl sl2 (by simpa using hv) (by simpa using hw) (by rw[List.size_toArray,List.size_toArray];exact hsz)) ⟨ho,ho2,?_⟩
  rw[e]
  exact h2 hw
noncomputable def sIx (n d:Nat):Option Int->Nat
 |none=>d
 |some v=>if v<0 then (v+(n:Int)).toNat else min v.toNat n
theorem xq (n d:Nat)(hd:d<=n)(o:Option Int):sIx n d o<=n:=by
 cases o with
 |none=>exact hd
 |some v=>
  show (if v<0 then (v+(n:Int)).toNat else min v.toNat n)<=n
  by_cases hv:v<0
  ·rw[if_pos hv];omega
  ·rw[if_neg hv];exact Nat.min_le_right _ _
theorem ql (v:Int)(n d:Nat):(if v<0 then max (v+(n:Int)) 0 else min v (n:Int))=((sIx n d (some v):Nat):Int):=by
 show (if v<0 then max (v+(n:Int)) 0 else min v (n:Int))=(((if v<0 then (v+(n:Int)).toNat else min v.toNat n):Nat):Int)
 by_cases hv:v<0
 ·simp only[if_pos hv];omega
 ·simp only[if_neg hv];omega
theorem pj (lo hi:Option Int)(n:Nat):Builtin.Slice.sliceAdjust lo hi 1 (n:Int)=(((sIx n 0 lo:Nat):Int),((sIx n n hi:Nat):Int)):=by
 have h1: ¬((1:Int)<0):=by omega
 unfold Builtin.Slice.sliceAdjust
 simp only[h1,if_false]
 refine Prod.ext ?_ ?_
 ·cases lo with
  |none=>rfl
  |some v=>exact ql v n 0
 ·cases hi with
  |none=>rfl
  |some v=>exact ql v n n
theorem oP (i j:Nat):Builtin.Slice.slicePlaces (i:Int) (j:Int) 1=j - i:=by
 unfold Builtin.Slice.slicePlaces
 have h1:(1:Int)>0:=by omega
 simp only[h1,if_true,Int.ediv_one]
 split<;>omega
theorem jL {v:Value}{o:Option Int}{Q:Option Int->Shared->Prop}(p:IsPart v o)(h:Q o s):wpAny (model prog w) A (Builtin.Slice.slicePartIndex v) Q E s:=by
 cases p with
 |none=>exact slicePart_none h
 |int i t=>exact slicePart_int h
theorem iM {sl:Addr}{vl vu:Value}{lo hi:Option Int}{n:Nat}{Q:Int×Int×Nat->Shared->Prop}(hs:s.heap.IsSliceOf sl vl vu .none)(pl:IsPart vl lo)(pu:IsPart vu hi)
  (h:Q (((sIx n 0 lo:Nat):Int),1,sIx n n hi - sIx n 0 lo) s):wpAny (model prog w) A (Builtin.Slice.sliceApplied (.ref sl) (pure (n:Int))) Q E s:=by
 obtain⟨os,hos,hcs,hds⟩:=id hs
 unfold Builtin.Slice.sliceApplied Builtin.Slice.sliceFields
 refine wpAny_bind (wpAny_bind (wpAny_field hos hds (x:=vl) rfl (wpAny_bind (wpAny_field hos hds (x:=vu) rfl (wpAny_bind (wpAny_field hos hds (x:=.none) rfl (wpAny_pure ?_)))))))
 refine wpAny_bind (slicePart_none ?_)
 show wpAny _ _ (if ((1:Int)==0)=true then _ else _) _ _ s
 rw[if_neg (by decide)]
 refine wpAny_bind (jL pl (wpAny_bind (jL pu (wpAny_bind (wpAny_pure ?_)))))
 show wpAny _ _ (match Builtin.Slice.sliceAdjust lo hi 1 (n:Int) with|(lo,hi)=>pure (lo,(1:Int),Builtin.Slice.slicePlaces lo hi 1)) _ _ s
 rw[pj lo hi n]
 show wpAny _ _ (pure (((sIx n 0 lo:Nat):Int),(1:Int),Builtin.Slice.slicePlaces ((sIx n 0 lo:Nat):Int) ((sIx n n hi:Nat):Int) 1)) _ _ s
 rw[oP]
 exact wpAny_pure h
theorem sP (xs:Array Value)(i k:Nat):((List.range k).filterMap fun (m:Nat)=>xs[((i:Int)+(m:Int) * 1).toNat]?).toArray=((xs.toList.drop i).take k).toArray:=by
 have e:(fun (m:Nat)=>xs[((i:Int)+(m:Int) * 1).toNat]?)=fun m=>xs[i+m]?:=by
  funext m
  have:((i:Int)+(m:Int) * 1).toNat=i+m:=by omega
  rw[this]
 rw[e]
 have:=pick_run xs i k
 rw[List.filterMap_map] at this
 have e2:((fun x=>xs[x]?)∘fun x=>i+x)=fun m=>xs[i+m]?:=rfl
 rw[e2] at this
 rw[this]
theorem getItem_tuple_cut {t sl:Addr}{items:Array Value}{vl vu:Value}{lo hi:Option Int}{Q:Value->Shared->Prop}(ht:IsTup s.heap t items)(hs:s.heap.IsSliceOf sl vl vu .none)(pl:IsPart vl lo)(pu:IsPart vu hi)
  (hw: ¬(sIx items.size 0 lo=0/\sIx items.size items.size hi=items.size))
  (h:Q (.ref s.heap.objs.size) {s with heap:=s.heap.push {cls:=.type "tuple",data:=.seq ((items.toList.drop (sIx items.size 0 lo)).take (sIx items.size items.size hi - sIx items.size 0 lo)).toArray}})
  (hsz:items.size<=sizeLine):wpAny (model prog w) A (getItem (.ref t) (.ref sl)) Q E s:=by
 have htake:sizeOk (.seq ((items.toList.drop (sIx items.size 0 lo)).take (sIx items.size items.size hi - sIx items.size 0 lo)).toArray):=by
  show ((items.toList.drop (sIx items.size 0 lo)).take (sIx items.size items.size hi - sIx items.size 0 lo)).toArray.size<=sizeLine
  rw[List.size_toArray,List.length_take,List.length_drop,Array.length_toList]
  omega
 have hj:sIx items.size items.size hi<=items.size:=xq _ _ (Nat.le_refl _) hi
 obtain⟨os,hos,hcs,hds⟩:=id hs
 have hTs:s.TypeIs (.ref sl) "slice":=⟨os,hos,hcs⟩
 unfold getItem
 try with_reducible refine wpAny_holding ?_
 first|refine wpAny_bind (wpAny_pure ?_)|skip
 refine wpAny_bind (wpAny_sequenceKey ht.typeIs (by decide) ?_)
 refine wpAny_bind (wpAny_callSpecial?_slot (name:=Str.ofString "__getitem__") ht.typeIs PyProof.Rows.slot_tuple_getitem
  (wpAny_call_entry PyProof.Rows.slot_tuple_getitem ht.typeIs entry_tuple_getitem ?_ (args_tuple_getitem _ _)))
 show wpAny _ _ (Builtin.Tuple.tupleItemsOf (.ref t)>>=_) _ _ s
 refine wpAny_bind (tupleItemsOf_ ht ?_)
 refine wpAny_bind (wpAny_typeOf hTs ?_)
 rw[if_pos (by decide)]
 refine wpAny_bind (iM hs pl pu ?_)
 have hno: ¬((((sIx items.size 0 lo:Nat):Int)==0 && (1:Int)==1 && (sIx items.size items.size hi - sIx items.size 0 lo)==items.size)=true):=by
  intro q
  rw[Bool.and_eq_true,Bool.and_eq_true] at q
  have q1:((sIx items.size 0 lo:Nat):Int)=0:=eq_of_beq q.1.1
  have q2:sIx items.size items.size hi - sIx items.size 0 lo=items.size:=eq_of_beq q.2
  exact hw ⟨by omega,by omega⟩
 show wpAny _ _ (if (((sIx items.size 0 lo:Nat):Int)==0 && (1:Int)==1 && (sIx items.size items.size hi - sIx items.size 0 lo)==items.size)=true then _ else _) _ _ s
 rw[if_neg hno,sP]
 first
  |exact wpAny_bind (m:=Builtin.Tuple.tupleExact _) (wpAny_newObj_type (wpAny_pure ⟨_,rfl,wpAny_pure h⟩) htake)
  |exact wpAny_bind (m:=Builtin.Tuple.tupleExact _) (wpAny_newObj_type (wpAny_bind (wpAny_pure (wpAny_pure ⟨_,rfl,wpAny_pure h⟩))) htake)
  |exact wpAny_bind (wpAny_bind (m:=Builtin.Tuple.tupleExact _) (wpAny_newObj_type (wpAny_pure (wpAny_pure ⟨_,rfl,wpAny_pure h⟩)) htake))
  |exact wpAny_bind (wpAny_bind (m:=Builtin.Tuple.tupleExact _) (wpAny_newObj_type (wpAny_pure ⟨_,rfl,wpAny_pure h⟩) htake))
end
end HT
namespace L2
open PySem PySem.Spec PyProof.Rows
noncomputable abbrev TO:=St->Hp->(Option Int->Hp->Prop)->Prop
def PO (X:Cx)(e:Option Expr)(t:TO):Prop:=
 ∀ (pins:List (Addr×Obj)) (s:Shared) (σ:St) (H:Hp) (Q:Option Int->Hp->Prop),Inv X pins σ H s->t σ H Q->
   wpAny (model X.prog X.w) X.A (evalPart e X.env) (fun u s'=> ∃o H',Inv X pins σ H' s'/\IsPart u o/\Q o H') X.xe s
def uY:TO:=fun _ H Q=>Q none H
def tPart (t:TE):TO:=fun σ H Q=>t σ H fun x H1=> ∃i,x=.int i/\Q (some i) H1
section
variable {X:Cx}{e:Expr}{te:TE}{lo hi:Option Expr}{tl th:TO}{pos p2:Pos}
theorem po_none:PO X none uY:=by
 intro pins s σ H Q I h
 rw[evalPart_none]
 exact wpAny_pure ⟨none,H,I,.none,h⟩
theorem vp (h:PE X e te):PO X (some e) (tPart te):=by
 intro pins s σ H Q I hw
 rw[evalPart_some]
 refine thn (h pins s σ H _ I hw) fun u s1 qz=>?_
 obtain⟨x,H1,I1,r1,q1⟩:=qz
 obtain⟨i,rfl,q⟩:=q1
 obtain⟨t,rfl⟩:=r1
 exact⟨some i,H1,I1,.int i t,q⟩
def SlR (X:Cx)(r:V->Option Int->Option Int->Hp->VK->Prop):Prop:=
 ∀ (pins:List (Addr×Obj)) (s:Shared) (σ:St) (H:Hp) (x:V) (v vl vu:Value) (lo hi:Option Int) (sl:Addr) (Q:VK),Inv X pins σ H s->RelV x v->s.heap.IsSliceOf sl vl vu .none->IsPart vl lo->IsPart vu hi->r x lo hi H Q->
   ∃T id,typeLookup (.type T) "__getitem__"=pure (some (.builtin id))/\s.TypeIs v T/\wpAny (model X.prog X.w) X.A (getItem v (.ref sl)) (EP X pins σ Q) X.xe s
theorem SlR.or {r r':V->Option Int->Option Int->Hp->VK->Prop}(h:SlR X r)(h':SlR X r'):SlR X (fun x lo hi H Q=>r x lo hi H Q\/r' x lo hi H Q):=by
 intro pins s σ H x v vl vu lo hi sl Q I rx hs pl pu q
 rcases q with q|q
 ·exact h pins s σ H x v vl vu lo hi sl Q I rx hs pl pu q
 ·exact h' pins s σ H x v vl vu lo hi sl Q I rx hs pl pu q
def tSl (r:V->Option Int->Option Int->Hp->VK->Prop)(te:TE)(tl th:TO):TE:=fun σ H Q=>te σ H fun x H1=>tl σ H1 fun l H2=>th σ H2 fun u H3=>r x l u H3 Q
theorem sS {r:V->Option Int->Option Int->Hp->VK->Prop}(hr:SlR X r)(he:PE X e te)(hl:PO X lo tl)(hu:PO X hi th):PE X (.Subscript e (.Slice lo hi none p2) pos) (tSl r te tl th):=by
 intro pins s σ H Q I h
 refine Subscript_ (thn (he pins s σ H _ I h) fun v s1 qz=>?_)
 obtain⟨x,H1,I1,r1,q1⟩:=qz
 refine wpAny_Slice (thn (hl pins s1 σ H1 _ I1 q1) fun vl s2 ⟨l,H2,I2,pl,q2⟩=>thn (hu pins s2 σ H2 _ I2 q2) fun vu s3 qz=>?_)
 obtain⟨u,H3,I3,pu,q3⟩:=qz
 rw[evalPart_none]
 refine wpAny_pure ?_
 have I4:Inv X pins σ H3 {s3 with heap:=s3.heap.push {cls:=.type "slice",data:=.fields #[vl,vu,.none]}}:=I3.kept (t':=s3.toks) fun b ob q=>Heap.get?_push_of_some _ q
 obtain⟨T,id,hT,ht,hg⟩:=hr pins {s3 with heap:=s3.heap.push {cls:=.type "slice",data:=.fields #[vl,vu,.none]}} σ H3 x v vl vu l u s3.heap.objs.size Q I4 r1 (Heap.IsSliceOf.new ..) pl pu q3
 show wpAny (model X.prog X.w) X.A (subscriptTail e (.Slice lo hi none p2) v (.ref s3.heap.objs.size)) (EP X pins σ Q) X.xe {s3 with heap:=s3.heap.push {cls:=.type "slice",data:=.fields #[vl,vu,.none]}}
 exact tail_any (ops:=[.ref s3.heap.objs.size,v]) ht hT hg (by with_unfolding_all rfl)
def cutV (xs:List V)(lo hi:Option Int):List V:=(xs.drop (HT.sIx xs.length 0 lo)).take (HT.sIx xs.length xs.length hi - HT.sIx xs.length 0 lo)
theorem jn (xs:List V)(lo hi:Option Int):(cutV xs lo hi).length<=xs.length:=by
 unfold cutV
 rw[List.length_take,List.length_drop]
 omega
def rSlT (K:PySem.W.Frag):V->Option Int->Option Int->Hp->VK->Prop:=fun x lo hi H Q=> ∃a xs,x=.ref a/\SqT K H a xs/\
 ¬(HT.sIx xs.length 0 lo=0/\HT.sIx xs.length xs.length hi=xs.length)/\ ∀p,H p=none->Q (.ref p) (upd H p (.tup (cutV xs lo hi)))
theorem sl_tup:SlR X (rSlT X.K):=by
 intro pins s σ H x v vl vu lo hi sl Q I rx hs pl pu h
 obtain⟨a,xs,rfl,hx,hw,q⟩:=h
 cases rx
 obtain⟨its,r,ht,hz⟩:=I.tuple hx
 have hlen:its.toArray.size=xs.length:=by rw[List.size_toArray];exact r.length.symm
 refine⟨"tuple",_,PyProof.Rows.slot_tuple_getitem.lookup,ht.typeIs,?_⟩
 refine HT.getItem_tuple_cut ht hs pl pu (by rw[hlen];exact hw) ?_ (by rw[hlen];exact hz)
 rw[hlen]
 refine⟨.ref s.heap.objs.size,_,I.laid (t':=s.toks) (o:=.tup (cutV xs lo hi)) (fun b ob q=>Heap.get?_push_of_some _ q) (Nat.le_refl _) ?_,rfl,q _ (I.hok.fresh (Nat.le_refl _))⟩
 exact⟨Nat.le_trans (jn xs lo hi) hz,_,(r.drop (HT.sIx xs.length 0 lo)).take (HT.sIx xs.length xs.length hi - HT.sIx xs.length 0 lo),IsTupD.new _ _⟩
def rCatT (K:PySem.W.Frag):R2:=fun x y H Q=> ∃a b xs ys,x=.ref a/\y=.ref b/\SqT K H a xs/\SqT K H b ys/\xs≠ []/\xs.length+ys.length<=sizeLine/\
 (ys=[]->Q (.ref a) H)/\(ys≠ []-> ∀p,H p=none->Q (.ref p) (upd H p (.tup (xs++ys))))
theorem Vals.nil_iff {xs:List V}{us:List Value}(r:Vals xs us):us=[]↔xs=[]:=by
 cases r with
 |nil=>simp
 |cons _ _=>simp
theorem op_catT:OpR X (binaryOp .Add) (rCatT X.K):=by
 intro pins s σ H x y v u Q I rx ry h
 obtain⟨a,b,xs,ys,rfl,rfl,ha,hb,hx,hz,q1,q2⟩:=h
 cases rx
 cases ry
 obtain⟨its,r1,p1,_⟩:=I.tuple ha
 obtain⟨its2,r2,p2,_⟩:=I.tuple hb
 refine HT.cat_tup p1 p2 (fun z=>hx (r1.nil_iff.mp z)) (fun z=>⟨.ref a,H,I,rfl,q1 (r2.nil_iff.mp z)⟩) (fun z=>?_) (by rw[<-r1.length,<-r2.length];exact hz)
 refine⟨.ref s.heap.objs.size,_,I.laid (t':=s.toks) (o:=.tup (xs++ys)) (fun b ob q=>Heap.get?_push_of_some _ q) (Nat.le_refl _) ?_,rfl,q2 (fun w=>z (r2.nil_iff.mpr w)) _ (I.hok.fresh (Nat.le_refl _))⟩
 exact⟨by rw[List.length_append];exact hz,_,r1.append r2,IsTupD.new _ _⟩
end
end L2
namespace L2
open PySem PySem.Spec PyProof.Rows
noncomputable def ixN (n:Nat)(i:Int):Option Nat:=if 0<=i then (if i<n then some i.toNat else none) else if -(n:Int)<=i then some (i+n).toNat else none
def atI {α:Type}(xs:List α)(i:Int):Option α:=(ixN xs.length i).bind fun j=>xs[j]?
theorem mI {n:Nat}{i:Int}{j:Nat}(h:ixN n i=some j):seqIndex? i n=some j/\j<n/\ -(n:Int)<=i/\i<n:=by
 unfold ixN at h
 by_cases h0:0<=i
 ·rw[if_pos h0] at h
  by_cases h1:i<n
  ·rw[if_pos h1] at h
   have e:i.toNat=j:=Option.some.inj h
   exact⟨by rw[seqIndex_of h0 h1,e],by omega,by omega,h1⟩
  ·rw[if_neg h1] at h;cases h
 ·rw[if_neg h0] at h
  by_cases h1: -(n:Int)<=i
  ·rw[if_pos h1] at h
   have e:(i+n).toNat=j:=Option.some.inj h
   exact⟨by rw[seqIndex_neg (by omega) h1,e],by omega,h1,by omega⟩
  ·rw[if_neg h1] at h;cases h
theorem m4 {α:Type}{xs:List α}{i:Int}{v:α}(h:atI xs i=some v): ∃j,seqIndex? i xs.length=some j/\xs[j]?=some v/\j<xs.length/\ -(xs.length:Int)<=i/\i<xs.length:=by
 unfold atI at h
 cases e:ixN xs.length i with
 |none=>rw[e] at h;cases h
 |some j=>
  rw[e] at h
  obtain⟨h1,h2,h3,h4⟩:=mI e
  exact⟨j,h1,h,h2,h3,h4⟩
theorem cX {α:Type}{xs:List α}{j:Nat}{v:α}(h:xs[j]?=some v):atI xs (j:Int)=some v:=by
 have hj:j<xs.length:=(List.getElem?_eq_some_iff.mp h).1
 have e:ixN xs.length (j:Int)=some j:=by
  unfold ixN
  rw[if_pos (by omega),if_pos (by omega)];simp
 unfold atI;rw[e];exact h
theorem iJ {α:Type}(xs:List α)(v:α):atI (xs++[v]) (-1)=some v:=by
 have hl:(xs++[v]).length=xs.length+1:=by simp
 have e:ixN (xs++[v]).length (-1)=some xs.length:=by
  unfold ixN
  rw[hl,if_neg (by decide),if_pos (by omega)]
  congr 1
  omega
 unfold atI
 rw[e]
 show (xs++[v])[xs.length]?=some v
 simp
noncomputable def qr (b:Expr):Prop:= ∀o i,subscripted b false o i=operate [o,i] (getItem o i)
def IxR (X:Cx)(r:R2):Prop:=
 ∀ (value slice:Expr) (pins:List (Addr×Obj)) (s:Shared) (σ:St) (H:Hp) (x y:V) (v u:Value) (Q:VK),Inv X pins σ H s->RelV x v->RelV y u->r x y H Q->
   subscripted slice false v u=operate [v,u] (getItem v u)->wpAny (model X.prog X.w) X.A (subscriptTail value slice v u) (EP X pins σ Q) X.xe s
def MtR (X:Cx)(id:String)(r:V->List V->Hp->VK->Prop):Prop:=
 ∀ (pins:List (Addr×Obj)) (s:Shared) (σ:St) (H:Hp) (x:V) (xs:List V) (v:Value) (us:List Value) (Q:VK),Inv X pins σ H s->RelV x v->Vals xs us->r x xs H Q->
   wpAny (model X.prog X.w) X.A (call (.builtin id) (v::us)) (EP X pins σ Q) X.xe s
section
variable {X:Cx}{a b:Expr}{ta tb:TE}{pos:Pos}
theorem IxR.or {r r':R2}(h:IxR X r)(h':IxR X r'):IxR X (fun x y H Q=>r x y H Q\/r' x y H Q):=by
 intro value slice pins s σ H x y v u Q I rx ry q hs
 rcases q with q|q
 ·exact h value slice pins s σ H x y v u Q I rx ry q hs
 ·exact h' value slice pins s σ H x y v u Q I rx ry q hs
theorem zd {r:R2}(hr:IxR X r)(ha:PE X a ta)(hb:PE X b tb)(hs:qr b):PE X (.Subscript a b pos) (tOp r ta tb):=by
 intro pins s σ H Q I h
 exact Subscript_ (binT ha hb I h fun v u s2 x y H2 I2 rx ry q=>hr a b pins s2 σ H2 x y v u Q I2 rx ry q (hs _ _))
def rIxL (K:PySem.W.Frag):R2:=fun x y H Q=> ∃p xs i v,x=.ref p/\y=.int i/\SqL K H p xs/\atI xs i=some v/\Q v H
def rIxT (K:PySem.W.Frag):R2:=fun x y H Q=> ∃p xs i v,x=.ref p/\y=.int i/\SqT K H p xs/\atI xs i=some v/\Q v H
def rIxS:R2:=fun x y H Q=> ∃z i c,x=.str z/\y=.int i/\z.length<=sizeLine/\atI z.cps.toList i=some c/\Q (.str ⟨#[c]⟩) H
theorem ix_list:IxR X (rIxL X.K):=by
 intro value slice pins s σ H x y v u Q I rx ry h hs
 obtain⟨p,xs,i,z,rfl,rfl,hq,he,q⟩:=h
 cases rx
 obtain⟨t,rfl⟩:=ry
 obtain⟨its,r,pl,hz⟩:=I.list hq
 obtain⟨j,h1,h2,h3,h4,h5⟩:=m4 he
 obtain⟨w,ew,rw'⟩:=r.get h2
 have hl:=r.length
 have hn:=i8
 have fin:EP X pins σ Q w s:=⟨z,H,I,rw',q⟩
 by_cases h0:0<=i
 ·have hj:i.toNat=j:=by
   rw[seqIndex_of h0 h5] at h1
   exact Option.some.inj h1
  exact item_listR pl.isList h0 (by omega) (by rw[hj];simpa using ew) fin hs
 ·have hj:(i+(its.toArray.size:Int)).toNat=j:=by
   rw[seqIndex_neg (by omega) h4] at h1
   rw[List.size_toArray,<-hl]
   exact Option.some.inj h1
  exact subscriptTail_builtinR (x:=w) pl.isList.typeIs slot_list_getitem.lookup
   (wpAny_getItem_list_neg (Q:=fun r s'=>r=w/\EP X pins σ Q r s') pl.isList (by omega) (by rw[List.size_toArray]<;>omega) (by omega) (by rw[hj];simpa using ew) ⟨rfl,fin⟩) hs
theorem ix_tup:IxR X (rIxT X.K):=by
 intro value slice pins s σ H x y v u Q I rx ry h hs
 obtain⟨p,xs,i,z,rfl,rfl,hq,he,q⟩:=h
 cases rx
 obtain⟨t,rfl⟩:=ry
 obtain⟨its,r,pl,hz⟩:=I.tuple hq
 obtain⟨j,h1,h2,h3,h4,h5⟩:=m4 he
 obtain⟨w,ew,rw'⟩:=r.get h2
 have hl:=r.length
 have hn:=i8
 have fin:EP X pins σ Q w s:=⟨z,H,I,rw',q⟩
 exact subscriptTail_builtinR (x:=w) pl.typeIs slot_tuple_getitem.lookup
  (getItem_tuple (j:=j) (Q:=fun r s'=>r=w/\EP X pins σ Q r s') pl (by omega) (by omega) (by rw[List.size_toArray,<-hl];exact h1) (by simpa using ew) ⟨rfl,fin⟩) hs
theorem yC:IxR X rIxS:=by
 intro value slice pins s σ H x y v u Q I rx ry h hs
 obtain⟨z,i,c,rfl,rfl,hz,he,q⟩:=h
 obtain⟨t,rfl⟩:=rx
 obtain⟨t',rfl⟩:=ry
 obtain⟨j,h1,h2,h3,h4,h5⟩:=m4 he
 have hl:z.cps.toList.length=z.length:=by simp [Str.length]
 rw[hl] at h1 h4 h5
 have hn:=i8
 exact tail_any (typeIs_str s z t) slot_str_getitem.lookup (getItem_str (c:=c) (by
  have e1:decide (i< -(2 ^ 63:Int))=false:=decide_eq_false (by omega)
  have e2:decide (i≥2 ^ 63)=false:=decide_eq_false (by omega)
  rw[e1,e2,Bool.or_false]) (by rw[h1];simpa using h2) ⟨.str ⟨#[c]⟩,H,I.tok _,⟨_,rfl⟩,q⟩) hs
def rIx (K:PySem.W.Frag):R2:=fun x y H Q=>rIxL K x y H Q\/rIxT K x y H Q\/rIxS x y H Q
theorem ix_seq:IxR X (rIx X.K):=ix_list.or (ix_tup.or yC)
theorem o6 (its:List Value)(n j:Nat)(u:Value):Obj.mapSeq (·.setIfInBounds j u) {cls:=.type "list",data:=.seq its.toArray n}={cls:=.type "list",data:=.seq (its.set j u).toArray n}:=by
 simp [Obj.mapSeq]
theorem Inv.lst {pins:List (Addr×Obj)}{σ:St}{H:Hp}{s:Shared}{p:Addr}{xs:List V}(I:Inv X pins σ H s)(h:H p=some (.lst xs)):
  ∃ (its:List Value) (n:Nat),Vals xs its/\s.heap.get? p=some {cls:=.type "list",data:=.seq its.toArray n}/\xs.length<=sizeLine:=by
 obtain⟨z,its,n,r,e⟩:=I.hok p _ h
 exact⟨its,n,r,e,z⟩
theorem Inv.lstUpd {pins:List (Addr×Obj)}{σ:St}{H:Hp}{s:Shared}{p:Addr}{xs ys:List V}{its its':List Value}{n n':Nat}{f:Obj->Obj}(I:Inv X pins σ H s)(h:H p=some (.lst xs))
  (ho:s.heap.get? p=some {cls:=.type "list",data:=.seq its.toArray n})(hf:f {cls:=.type "list",data:=.seq its.toArray n}={cls:=.type "list",data:=.seq its'.toArray n'})(r:Vals ys its')(hz:ys.length<=sizeLine)(t:Nat):
  Inv X pins σ (upd H p (.lst ys)) {s with heap:=s.heap.update p f,toks:=t}:=by
 have e:(s.heap.update p f).get? p=some {cls:=.type "list",data:=.seq its'.toArray n'}:=by
  rw[Heap.get?_update_self f ho (by rw[hf]<;>rfl),hf]
 refine I.write (x:=p) (e:=p) (by rw[h];trivial) (.inl rfl) (fun b u hb q=>(Heap.get?_update_other _ _ (Ne.symm hb)).trans q) ⟨_,e⟩ ?_
 exact⟨hz,its',n',r,e⟩
def rSetL:V->V->V->Hp->(Hp->Prop)->Prop:=fun o i v H Q=> ∃p xs k j,o=.ref p/\i=.int k/\H p=some (.lst xs)/\ixN xs.length k=some j/\Q (upd H p (.lst (xs.set j v)))
theorem set_list:PSet X rSetL:=by
 intro pins s σ H o i v ov iv u Q I ro ri rv h
 obtain⟨p,xs,k,j,rfl,rfl,hp,hj,q⟩:=h
 cases ro
 obtain⟨t,rfl⟩:=ri
 obtain⟨its,n,r,ho,hz⟩:=I.lst hp
 obtain⟨h1,h2,h3,h4⟩:=mI hj
 have hl:=r.length
 have hn:=i8
 have I':Inv X pins σ (upd H p (.lst (xs.set j v))) {s with heap:=s.heap.update p (Obj.mapSeq (·.setIfInBounds j u))}:=
  I.lstUpd hp ho (o6 its n j u) (r.set rv j) (by rw[List.length_set];exact hz) s.toks
 by_cases h0:0<=k
 ·have hk:k.toNat=j:=by
   rw[seqIndex_of h0 h4] at h1
   exact Option.some.inj h1
  exact PySem.W.ki_setAt ho h0 (by omega) (by rw[List.size_toArray,<-hl];exact h4) (by rw[hk];exact⟨_,I',q⟩)
 ·have hk:(k+(its.toArray.size:Int)).toNat=j:=by
   rw[seqIndex_neg (by omega) h3] at h1
   rw[List.size_toArray,<-hl]
   exact Option.some.inj h1
  exact PySem.W.ki_setBack ho (by omega) (by rw[List.size_toArray,<-hl];exact h3) (by omega) (by rw[hk];exact⟨_,I',q⟩)
theorem lV (lo hi:Option Int)(n:Nat):(sliceBounds lo hi none n).1=((HT.sIx n 0 lo:Nat):Int)/\(sliceBounds lo hi none n).2.1=((HT.sIx n n hi:Nat):Int)/\(sliceBounds lo hi none n).2.2=1:=by
 refine⟨?_,?_,rfl⟩
 ·cases lo with
  |none=>simp [sliceBounds,HT.sIx]
  |some i=>
   simp only[sliceBounds,HT.sIx,Option.getD_none,show (1:Int)>0 by decide,if_true]
   by_cases h:i<0
   ·simp only[h,if_true]<;>omega
   ·simp only[h,if_false]<;>omega
 ·cases hi with
  |none=>simp [sliceBounds,HT.sIx]
  |some i=>
   simp only[sliceBounds,HT.sIx,Option.getD_none,show (1:Int)>0 by decide,if_true]
   by_cases h:i<0
   ·simp only[h,if_true]<;>omega
   ·simp only[h,if_false]<;>omega
theorem kO (its:List Value)(lo hi:Option Int):slicePick its.toArray lo hi none=((its.drop (HT.sIx its.length 0 lo)).take (HT.sIx its.length its.length hi - HT.sIx its.length 0 lo)).toArray:=by
 obtain⟨h1,h2,h3⟩:=lV lo hi its.toArray.size
 unfold slicePick
 rw[h1,h2,h3]
 simp only[sliceRange_one,pick_run,List.size_toArray]<;>rfl
def rSlL (K:PySem.W.Frag):V->Option Int->Option Int->Hp->VK->Prop:=fun x lo hi H Q=> ∃a xs,x=.ref a/\SqL K H a xs/\ ∀p,H p=none->Q (.ref p) (upd H p (.lst (cutV xs lo hi)))
theorem u6:SlR X (rSlL X.K):=by
 intro pins s σ H x v vl vu lo hi sl Q I rx hs pl pu h
 obtain⟨a,xs,rfl,hx,q⟩:=h
 cases rx
 obtain⟨its,r,ht,hz⟩:=I.list hx
 have hlen:=r.length
 refine⟨"list",_,slot_list_getitem.lookup,ht.isList.typeIs,?_⟩
 refine wpAny_getItem_list_slice ht.isList hs pl pu .none (by simp) ?_ (by rw[List.size_toArray]<;>omega)
 rw[kO,<-hlen]
 refine⟨.ref s.heap.objs.size,_,I.laid (t':=s.toks) (o:=.lst (cutV xs lo hi)) (fun b ob q=>Heap.get?_push_of_some _ q) (Nat.le_refl _) ?_,rfl,q _ (I.hok.fresh (Nat.le_refl _))⟩
 exact⟨Nat.le_trans (jn xs lo hi) hz,_,0,(r.drop (HT.sIx xs.length 0 lo)).take (HT.sIx xs.length xs.length hi - HT.sIx xs.length 0 lo),Heap.get?_push_size _ rfl⟩
noncomputable def flatV:V->Bool
 |.non=>true
 |.bl _=>true
 |.int _=>true
 |.str _=>true
 |_=>false
noncomputable def eqV:V->V->Bool
 |.non,.non=>true
 |.bl a,.bl b=>a==b
 |.bl a,.int b=>(if a then 1 else 0)==b
 |.int a,.bl b=>a==(if b then 1 else 0)
 |.int a,.int b=>a==b
 |.str a,.str b=>a==b
 |_,_=>false
theorem yL {A:Around}{s:Shared}{y x:V}{u v:Value}(ry:RelV y u)(rx:RelV x v)(fy:flatV y=true)(fx:flatV x=true):SeqAt.EqAt A s u v (eqV y x):=by
 cases y with
 |non=>
  cases ry
  cases x with
  |non=>cases rx;exact SeqAt.EqAt.same _
  |bl b=>cases rx;exact SeqAt.EqAt.none_bool b
  |int b=>obtain⟨t,rfl⟩:=rx;exact SeqAt.EqAt.none_int b t
  |str b=>obtain⟨t,rfl⟩:=rx;exact SeqAt.EqAt.none_str b t
  |_=>exact absurd (show false=true from fx) Bool.false_ne_true
 |bl a=>
  cases ry
  cases x with
  |non=>cases rx;exact SeqAt.EqAt.bool_none a
  |bl b=>cases rx;exact SeqAt.EqAt.bool_bool a b
  |int b=>obtain⟨t,rfl⟩:=rx;exact SeqAt.EqAt.bool_int a b t
  |str b=>obtain⟨t,rfl⟩:=rx;exact SeqAt.EqAt.bool_str a b t
  |_=>exact absurd (show false=true from fx) Bool.false_ne_true
 |int a=>
  obtain⟨t',rfl⟩:=ry
  cases x with
  |non=>cases rx;exact SeqAt.EqAt.int_none a t'
  |bl b=>cases rx;exact SeqAt.EqAt.int_bool a t' b
  |int b=>obtain⟨t,rfl⟩:=rx;exact SeqAt.EqAt.int_int a t' b t
  |str b=>obtain⟨t,rfl⟩:=rx;exact SeqAt.EqAt.int_str a t' b t
  |_=>exact absurd (show false=true from fx) Bool.false_ne_true
 |str a=>
  obtain⟨t',rfl⟩:=ry
  cases x with
  |non=>cases rx;exact SeqAt.EqAt.str_none a t'
  |bl b=>cases rx;exact SeqAt.EqAt.str_bool a t' b
  |int b=>obtain⟨t,rfl⟩:=rx;exact SeqAt.EqAt.str_int a t' b t
  |str b=>obtain⟨t,rfl⟩:=rx;exact SeqAt.EqAt.str_str a t' b t
  |_=>exact absurd (show false=true from fx) Bool.false_ne_true
 |_=>exact absurd (show false=true from fy) Bool.false_ne_true
def eqU (x:V)(u:Value):Bool:=match u with
 |.none=>eqV .non x
 |.bool b=>eqV (.bl b) x
 |.int i _=>eqV (.int i) x
 |.str z _=>eqV (.str z) x
 |_=>false
theorem uy {x y:V}{u:Value}(r:RelV y u)(f:flatV y=true):eqU x u=eqV y x:=by
 cases y with
 |non=>cases r;rfl
 |bl b=>cases r;rfl
 |int i=>obtain⟨t,rfl⟩:=r;rfl
 |str z=>obtain⟨t,rfl⟩:=r;rfl
 |_=>exact absurd (show false=true from f) Bool.false_ne_true
theorem m5 {x:V}: ∀ {xs:List V}{us:List Value},Vals xs us->xs.all flatV=true->us.any (eqU x)=xs.any fun y=>eqV y x
 |_,_,.nil,_=>rfl
 |y::xs,u::us,.cons r t,f=>by
  rw[List.all_cons,Bool.and_eq_true] at f
  rw[List.any_cons,List.any_cons,uy r f.1,m5 t f.2]
theorem kq {A:Around}{s:Shared}{x:V}{v:Value}(rx:RelV x v)(fx:flatV x=true): ∀ {xs:List V}{us:List Value},Vals xs us->xs.all flatV=true-> ∀u∈us,SeqAt.EqAt A s u v (eqU x u)
 |_,_,.nil,_=>fun u hu=>by cases hu
 |y::xs,u::us,.cons r t,f=>fun u' hu=>by
  rw[List.all_cons,Bool.and_eq_true] at f
  rcases List.mem_cons.mp hu with rfl|hu
  ·rw[uy r f.1];exact yL r rx f.1 fx
  ·exact kq rx fx t f.2 u' hu
def inV (x:V)(xs:List V):Bool:=xs.any fun y=>eqV y x
def rIn (K:PySem.W.Frag)(neg:Bool):R2:=fun x y H Q=> ∃p xs,y=.ref p/\(SqL K H p xs\/SqT K H p xs)/\flatV x=true/\xs.all flatV=true/\Q (.bl (if neg then !inV x xs else inV x xs)) H
theorem op_in_seq:OpR X (compareOp .In) (rIn X.K false):=by
 intro pins s σ H x y v u Q I rx ry h
 obtain⟨p,xs,rfl,hq,fx,fs,q⟩:=h
 cases ry
 rcases hq with hq|hq
 ·obtain⟨its,r,pl,hz⟩:=I.list hq
  refine SeqAt.in_listAt (eqU x) pl.isList (fun w hw=>kq rx fx r fs w (by simpa using hw)) ⟨.bl _,H,I,rfl,?_⟩
  rw[show its.toArray.any (eqU x)=its.any (eqU x) by simp,m5 r fs]
  exact q
 ·obtain⟨its,r,pl,hz⟩:=I.tuple hq
  refine SeqAt.in_tupleAt (eqU x) pl (fun w hw=>kq rx fx r fs w (by simpa using hw)) ⟨.bl _,H,I,rfl,?_⟩
  rw[show its.toArray.any (eqU x)=its.any (eqU x) by simp,m5 r fs]
  exact q
theorem mV:CallR X (.builtin "len") (fun xs H Q=> ∃p ys,xs=[.ref p]/\(SqL X.K H p ys\/SqT X.K H p ys)/\Q (.int ys.length) H):=by
 intro pins s σ H xs us Q I r h
 obtain⟨p,ys,rfl,hq,q⟩:=h
 obtain⟨u,rfl,rx⟩:=vals1 r
 cases rx
 have hn:=i8
 rcases hq with hq|hq
 ·obtain⟨its,r',pl,hz⟩:=I.list hq
  have hlen:=r'.length
  exact Calls.call_len_list pl.isList (by simp only[List.size_toArray]<;>omega) ⟨.int ys.length,H,I.tok _,⟨s.toks+1,by rw[List.size_toArray,hlen]⟩,q⟩
 ·obtain⟨its,r',pl,hz⟩:=I.tuple hq
  have hlen:=r'.length
  exact len_tuple pl (by simp only[List.size_toArray]<;>omega) ⟨.int ys.length,H,I.tok _,⟨s.toks+1,by rw[List.size_toArray,hlen]⟩,q⟩
theorem call_len_str:CallR X (.builtin "len") (fun xs H Q=> ∃z,xs=[.str z]/\z.length<=sizeLine/\Q (.int z.length) H):=by
 intro pins s σ H xs us Q I r h
 obtain⟨z,rfl,hz,q⟩:=h
 obtain⟨u,rfl,t,rfl⟩:=vals1 r
 have hn:=i8
 exact len_str (by omega) ⟨.int z.length,H,I.tok _,⟨_,rfl⟩,q⟩
theorem CallR.or {f:Value}{r r':List V->Hp->VK->Prop}(h:CallR X f r)(h':CallR X f r'):CallR X f (fun xs H Q=>r xs H Q\/r' xs H Q):=by
 intro pins s σ H xs us Q I rs q
 rcases q with q|q
 ·exact h pins s σ H xs us Q I rs q
 ·exact h' pins s σ H xs us Q I rs q
theorem mU:CallR X (.type "list") (fun xs H Q=> ∃p ys,xs=[.ref p]/\(SqL X.K H p ys\/SqT X.K H p ys)/\ ∀l,H l=none->Q (.ref l) (upd H l (.lst ys))):=by
 intro pins s σ H xs us Q I r h
 obtain⟨p,ys,rfl,hq,q⟩:=h
 obtain⟨u,rfl,rx⟩:=vals1 r
 cases rx
 have fin: ∀ (its:List Value),Vals ys its->ys.length<=sizeLine-> ∀ (h':Heap) (c':Nat),(∀b o',s.heap.get? b=some o'->h'.get? b=some o')->
   h'.get? s.heap.objs.size=some {cls:=.type "list",dict:=none,data:=.seq its.toArray c',slots:= #[]}->EP X pins σ Q (.ref s.heap.objs.size) {s with heap:=h'}:=fun its r' hz h' c' kp e=>
  ⟨.ref s.heap.objs.size,_,I.laid (t':=s.toks) kp (Nat.le_refl _) (show ObjOk X.prog X.w _ h' _ (.lst ys) from⟨hz,its,c',r',e⟩),rfl,q _ (I.hok.fresh (Nat.le_refl _))⟩
 rcases hq with hq|hq
 ·obtain⟨its,r',pl,hz⟩:=I.list hq
  have hlen:=r'.length
  obtain⟨o,ho,hc,n,hd⟩:=pl.isList
  exact call_list_seq p (.inl rfl) ho hc hd (fun h' c' kp e=>fin its r' hz h' c' kp e) (by simp only[List.size_toArray]<;>omega)
 ·obtain⟨its,r',pl,hz⟩:=I.tuple hq
  have hlen:=r'.length
  obtain⟨o,ho,hc,n,hd⟩:=pl
  exact call_list_seq p (.inr rfl) ho hc hd (fun h' c' kp e=>fin its r' hz h' c' kp e) (by simp only[List.size_toArray]<;>omega)
theorem kX:CallR X (.type "tuple") (fun xs H Q=> ∃p ys,xs=[.ref p]/\((SqL X.K H p ys/\ ∀l,H l=none->Q (.ref l) (upd H l (.tup ys)))\/(SqT X.K H p ys/\Q (.ref p) H))):=by
 intro pins s σ H xs us Q I r h
 obtain⟨p,ys,rfl,h⟩:=h
 obtain⟨u,rfl,rx⟩:=vals1 r
 cases rx
 rcases h with⟨hq,q⟩|⟨hq,q⟩
 ·obtain⟨its,r',pl,hz⟩:=I.list hq
  have hlen:=r'.length
  refine call_tuple_list pl.isList (fun h' kp=>?_) (by simp only[List.size_toArray]<;>omega)
  have I1:Inv X pins σ H {s with heap:=h'}:=I.kept (t':=s.toks) kp
  have I2:Inv X pins σ (upd H h'.objs.size (.tup ys)) {s with heap:=h'.push {cls:=.type "tuple",data:=.seq its.toArray}}:=
   I1.laid (t':=s.toks) (fun b o e=>Heap.get?_push_of_some _ e) (Nat.le_refl _) (show ObjOk X.prog X.w _ _ _ (.tup ys) from⟨hz,its,r',IsTupD.new _ _⟩)
  exact⟨.ref h'.objs.size,_,I2,rfl,q _ (I1.hok.fresh (Nat.le_refl _))⟩
 ·obtain⟨its,r',pl,hz⟩:=I.tuple hq
  exact call_tuple_same pl ⟨.ref p,H,I,rfl,q⟩
def tyV (K:PySem.W.Frag)(T:String)(x:V)(H:Hp):Prop:=match x with
 |.str _=>T= "str"
 |.int _=>T= "int"
 |.ref p=>(T= "list"/\ ∃xs,SqL K H p xs)\/(T= "tuple"/\ ∃o,K.lookup p=some o/\o.cls=.type "tuple"/\o.dict=none)\/
  (T= "dict"/\((∃kvs,H p=some (.dK kvs))\/ ∃kvs,H p=some (.dT kvs)))\/(T= "set"/\ ∃S n,H p=some (.set S n))
 |_=>False
theorem xb {pins:List (Addr×Obj)}{σ:St}{H:Hp}{s:Shared}{T:String}{x:V}{v:Value}(I:Inv X pins σ H s)(r:RelV x v)(ty:tyV X.K T x H):
  s.TypeIs v T/\ ∀a,v=.ref a-> ∃ob,s.heap.get? a=some ob/\ob.dict=none:=by
 cases x with
 |str z=>
  obtain⟨t,rfl⟩:=r
  cases (show T= "str" from ty)
  exact⟨typeIs_str s z t,fun _ e=>nomatch e⟩
 |int i=>
  obtain⟨t,rfl⟩:=r
  cases (show T= "int" from ty)
  exact⟨typeIs_int s i t,fun _ e=>nomatch e⟩
 |ref p=>
  cases r
  rcases ty with⟨rfl,xs,hq⟩|⟨rfl,o,hk,hc,hd⟩|⟨rfl,hk⟩|⟨rfl,S,n,hk⟩
  ·obtain⟨its,_,pl,_⟩:=I.list hq
   refine⟨pl.isList.typeIs,fun a e=>?_⟩
   cases e
   obtain⟨o,n,e,c,hd,_⟩:=pl
   exact⟨o,e,hd⟩
  ·refine⟨⟨o,I.kIn p o hk,hc⟩,fun a e=>?_⟩
   cases e
   exact⟨o,I.kIn _ o hk,hd⟩
  ·have z: ∃o,s.heap.get? p=some o/\o.ExactDict:=by
    rcases hk with⟨kvs,hk⟩|⟨kvs,hk⟩
    ·obtain⟨_,_,_,_,o,_,_,e,ex,_⟩:=I.hok p _ hk
     exact⟨o,e,ex⟩
    ·obtain⟨_,_,_,_,o,_,_,e,ex,_⟩:=I.hok p _ hk
     exact⟨o,e,ex⟩
   obtain⟨o,e,ex⟩:=z
   refine⟨⟨o,e,ex.1⟩,fun a e2=>?_⟩
   cases e2
   exact⟨o,e,ex.2.1⟩
  ·obtain⟨o,_,_,_,e,ex,_⟩:=I.hok p _ hk
   refine⟨⟨o,e,ex.1⟩,fun a e2=>?_⟩
   cases e2
   exact⟨o,e,ex.2.1⟩
 |_=>exact False.elim ty
def tBM (K:PySem.W.Frag)(T:String)(r:V->List V->Hp->VK->Prop)(to:TE)(t:TA):TE:=fun σ H Q=>to σ H fun x H1=>tyV K T x H1/\t σ H1 fun xs H2=>r x xs H2 Q
variable {o e:Expr}{es:List Expr}{to:TE}{t:TA}{name:Str}{apos cpos:Pos}{T id:String}{r:V->List V->Hp->VK->Prop}
theorem nJ (pa:PlainAttrs T)(slot:Slot T name id)(hty:typeOf (.builtin id)=pure (.type "method_descriptor"))(hm:MtR X id r)(ho:PE X o to)(ha:PA X (e::es) t)
  (hbase:attributeBase o name X.env (eval o X.env)=eval o X.env:=by rfl)
  (hfew:((backTo cpos (starEach (e::es) X.env)).all (fun x=>!x.1) && (backToKw cpos (keywordEach [] X.env)).all (fun x=>x.1.isSome)
   && decide ((e::es).length+([]:List Keyword).length+(if ([]:List Keyword).isEmpty then 0 else 1)<30))=true:=by rfl)
  (hline:(apos.endLine==cpos.line)=true:=by rfl)(hs:starEach (e::es) X.env=(false,eval e X.env)::starEach es X.env:=by rfl)(hplain:(backTo cpos (starEach es X.env)).any (·.1)=false:=by rfl):
  PE X (.Call (.Attribute o name apos) (e::es) [] cpos) (tBM X.K T r to t):=by
 intro pins s σ H Q I h
 refine wpAny_Call_method_late hbase hfew hline rfl (thn (ho pins s σ H _ I h) fun v s1 qz=>?_)
 obtain⟨x,H1,I1,r1,ty,q1⟩:=qz
 obtain⟨h1,h2⟩:=xb I1 r1 ty
 refine⟨T,id,pa,slot,hty,h1,h2,?_⟩
 have hA:=ha cpos pins s1 σ H1 _ I1 q1
 rw[hs] at hA ⊢
 refine Calls.callWith_builtin (by show (false||(backTo cpos (starEach es X.env)).any (·.1))=false;rw[hplain]<;>rfl) (Calls.evalArgs_plain ?_)
 exact thn hA fun us s2 ⟨vs,H2,I2,r2,q2⟩=>hm pins s2 σ H2 x vs v us Q I2 r1 r2 q2
end
end L2
namespace L2
open PySem PySem.Spec PyProof.Rows
def MtM (X:Cx)(id:String)(r:V->List V->Hp->VK->Prop):Prop:=
 ∀ (pins:List (Addr×Obj)) (s:Shared) (σ:St) (H:Hp) (x:V) (xs:List V) (v:Value) (us:List Value) (Q:VK),Inv X pins σ H s->RelV x v->Vals xs us->r x xs H Q->
   wpAny (model X.prog X.w) X.A (call (.builtin id) (v::us)) (EP X pins σ Q) X.xe s
theorem Vals.one: ∀ {x:V}{us:List Value},Vals [x] us-> ∃u,us=[u]/\RelV x u
 :=by
 intro x us h
 cases h with
 |cons r q=>cases q;exact⟨_,rfl,r⟩
theorem Vals.two: ∀ {x y:V}{us:List Value},Vals [x,y] us-> ∃u v,us=[u,v]/\RelV x u/\RelV y v
 :=by
 intro x y us h
 cases h with
 |cons r q=>
  cases q with
  |cons q z=>cases z;exact⟨_,_,rfl,r,q⟩
theorem Vals.eraseIdx: ∀ {xs:List V}{us:List Value} (i:Nat),Vals xs us->Vals (xs.eraseIdx i) (us.eraseIdx i)
 |_,_,_,.nil=>.nil
 |_,_,0,.cons _ t=>t
 |_,_,i+1,.cons r t=>.cons r (Vals.eraseIdx i t)
theorem Vals.rep {xs:List V}{us:List Value}(h:Vals xs us): ∀k:Nat,Vals (List.replicate k xs).flatten (List.replicate k us).flatten
 |0=>.nil
 |k+1=>by
  rw[List.replicate_succ,List.replicate_succ,List.flatten_cons,List.flatten_cons]
  exact Vals.append h (Vals.rep h k)
theorem lF {α:Type}: ∀ (l:List α) (i:Nat),(l.eraseIdx i).length<=l.length
 |[],_=>Nat.le_refl _
 |_::_,0=>Nat.le_succ _
 |_::r,i+1=>Nat.succ_le_succ (lF r i)
theorem lJ (its:List Value): ∀ (k:Nat) (acc:List Value),
  List.foldl (fun x1 x2=>x1++x2) acc.toArray (List.replicate k its.toArray)=(acc++(List.replicate k its).flatten).toArray
 |0,acc=>by simp
 |k+1,acc=>by
  have e:acc.toArray++its.toArray=(acc++its).toArray:=by simp
  have e2:(acc++its)++(List.replicate k its).flatten=acc++(List.replicate (k+1) its).flatten:=by
   rw[List.replicate_succ,List.flatten_cons,List.append_assoc]
  rw[<-e2,<-lJ its k (acc++its),<-e,List.replicate_succ,List.foldl_cons]
section
variable {X:Cx}{pins:List (Addr×Obj)}{σ:St}{H:Hp}{s:Shared}{l b:Addr}{xs ys zs:List V}
theorem Inv.lset {its its':List Value}{n:Nat}{f:Array Value->Array Value}{t':Nat}(I:Inv X pins σ H s)(hH:H l=some (.lst xs))
  (e:s.heap.get? l=some {cls:=.type "list",data:=.seq its.toArray n})(hf:f its.toArray=its'.toArray)(hv:Vals ys its')(hz:ys.length<=sizeLine):
  Inv X pins σ (upd H l (.lst ys)) {s with heap:=s.heap.update l (Obj.mapSeq f),toks:=t'}:=by
 have q:=PySem.IsL.update e f
 rw[hf] at q
 refine I.write (x:=l) (e:=l) (by rw[hH];exact trivial) (.inl rfl) (fun b' u hb hu=>(Heap.get?_update_other s.heap (Obj.mapSeq f) (Ne.symm hb)).trans hu) ⟨_,q⟩ ?_
 exact⟨hz,its',_,hv,q⟩
theorem Inv.lnew {its:List Value}{t':Nat}(I:Inv X pins σ H s)(hv:Vals ys its)(hz:ys.length<=sizeLine):
  Inv X pins σ (upd H s.heap.objs.size (.lst ys)) {s with heap:=s.heap.push {cls:=.type "list",data:=.seq its.toArray},toks:=t'}:=
 I.laid (fun _ _ q=>Heap.get?_push_of_some _ q) (Nat.le_refl _) ⟨hz,its,0,hv,Heap.get?_push_size _ rfl⟩
theorem Inv.fresh (I:Inv X pins σ H s):H s.heap.objs.size=none:=I.hok.fresh (Nat.le_refl _)
theorem Inv.lstM (I:Inv X pins σ H s)(hH:H l=some (.lst xs)):xs.length<=sizeLine/\ ∃ (its:List Value) (n:Nat),Vals xs its/\xs.length=its.length/\s.heap.get? l=some {cls:=.type "list",data:=.seq its.toArray n}:=by
 obtain⟨z,its,n,r,e⟩:=I.hok l _ hH
 exact⟨z,its,n,r,r.length,e⟩
theorem nU {n:Nat}(h:n<=sizeLine):Builtin.List.listTooLong n=false:=by
 unfold Builtin.List.listTooLong
 exact decide_eq_false (by omega)
end
section
variable {X:Cx}
def vf:V->List V->Hp->VK->Prop:=fun x vs H Q=> ∃l xs y,x=.ref l/\vs=[y]/\H l=some (.lst xs)/\xs.length<sizeLine/\Q .non (upd H l (.lst (xs++[y])))
theorem qS:MtM X "list.append" vf:=by
 intro pins s σ H x vs v us Q I rx rv h
 obtain⟨l,xs,y,rfl,rfl,hH,hz,q⟩:=h
 cases rx
 obtain⟨u,rfl,ru⟩:=rv.one
 obtain⟨z,its,n,r,hl,e⟩:=I.lstM hH
 refine call_meets F.slot_list_append ⟨_,e,rfl⟩ F.entry_list_append (F.args_list_append_2 _ _) (PySem.list_append l its.toArray n u (by rw[List.size_toArray];omega)) ⟨e,?_⟩
 refine⟨.non,_,I.lset (its':=its++[u]) hH e (by simp) (r.append (.cons ru .nil)) ?_,rfl,q⟩
 rw[List.length_append,List.length_singleton]
 omega
def ve:V->List V->Hp->VK->Prop:=fun x vs H Q=> ∃l b xs zs,x=.ref l/\vs=[.ref b]/\H l=some (.lst xs)/\H b=some (.lst zs)/\xs.length+zs.length<=sizeLine/\Q .non (upd H l (.lst (xs++zs)))
theorem qR:MtM X "list.extend" ve:=by
 intro pins s σ H x vs v us Q I rx rv h
 obtain⟨l,b,xs,zs,rfl,rfl,hH,hB,hz,q⟩:=h
 cases rx
 obtain⟨u,rfl,ru⟩:=rv.one
 cases ru
 obtain⟨z,its,n,r,hl,e⟩:=I.lstM hH
 obtain⟨z2,its2,n2,r2,hl2,e2⟩:=I.lstM hB
 have hsz:its.toArray.size+its2.toArray.size<=sizeLine:=by rw[List.size_toArray,List.size_toArray];omega
 have hlong: ¬(!its.toArray.isEmpty && Builtin.List.listTooLong (its.toArray.size+its2.toArray.size))=true:=by
  rw[nU hsz,Bool.and_false]
  exact Bool.false_ne_true
 refine call_meets F.slot_list_extend ⟨_,e,rfl⟩ F.entry_list_extend (F.args_list_extend_2 _ _)
  (AutoSeq1.list_extend_list_list_0 l its.toArray n b its2.toArray n2 hlong (by rw[List.size_toArray];omega) (by omega)) ⟨e,e2,?_⟩
 refine⟨.non,_,I.lset (its':=its++its2) hH e (by simp) (r.append r2) ?_,rfl,q⟩
 rw[List.length_append]
 omega
def xt:V->List V->Hp->VK->Prop:=fun x vs H Q=> ∃l xs i k y,x=.ref l/\vs=[.int i]/\H l=some (.lst xs)/\ -(2 ^ 63)<=i/\i<2 ^ 63/\seqIndex? i xs.length=some k/\xs[k]?=some y/\Q y (upd H l (.lst (xs.eraseIdx k)))
theorem tQ:MtM X "list.pop" xt:=by
 intro pins s σ H x vs v us Q I rx rv h
 obtain⟨l,xs,i,k,y,rfl,rfl,hH,h1,h2,hk,hy,q⟩:=h
 cases rx
 obtain⟨u,rfl,ru⟩:=rv.one
 obtain⟨t,rfl⟩:=ru
 obtain⟨z,its,n,r,hl,e⟩:=I.lstM hH
 obtain⟨w,hw,rw'⟩:=r.get hy
 refine call_meets F.slot_list_pop ⟨_,e,rfl⟩ F.entry_list_pop (F.args_list_pop_2 _ _)
  (MeetsSeq.list_pop_at l its.toArray n i t k w (fitsIndex_both h1 h2) (by rw[List.size_toArray,<-hl];exact hk) (by rw[<-Array.getElem?_toList];exact hw) (by rw[List.size_toArray];omega)) ⟨e,?_⟩
 refine⟨y,_,I.lset (its':=its.eraseIdx k) hH e ?_ (r.eraseIdx k) ?_,rw',q⟩
 ·show its.toArray.eraseIdxIfInBounds k=(its.eraseIdx k).toArray
  rw[List.eraseIdxIfInBounds_toArray]
 ·have:=lF xs k
  omega
def rCat:R2:=fun x y H Q=> ∃l b xs zs,x=.ref l/\y=.ref b/\H l=some (.lst xs)/\H b=some (.lst zs)/\xs.length+zs.length<=sizeLine/\ ∀p,H p=none->Q (.ref p) (upd H p (.lst (xs++zs)))
theorem s9:OpR X (binaryOp .Add) rCat:=by
 intro pins s σ H x y v u Q I rx ry h
 obtain⟨l,b,xs,zs,rfl,rfl,hH,hB,hz,q⟩:=h
 cases rx
 cases ry
 obtain⟨z,its,n,r,hl,e⟩:=I.lstM hH
 obtain⟨z2,its2,n2,r2,hl2,e2⟩:=I.lstM hB
 refine PySem.P.add_list e e2 ?_ (by rw[List.size_toArray,List.size_toArray];omega)
 have ea:its.toArray++its2.toArray=(its++its2).toArray:=by simp
 rw[ea]
 exact⟨.ref _,_,I.lnew (t':=s.toks) (r.append r2) (by rw[List.length_append];omega),rfl,q _ I.fresh⟩
def rRep:R2:=fun x y H Q=> ∃l k xs,x=.ref l/\y=.int k/\H l=some (.lst xs)/\ -(2 ^ 63)<=k/\k<2 ^ 63/\xs.length * k.toNat<=sizeLine/\
 ∀p,H p=none->Q (.ref p) (upd H p (.lst (List.replicate k.toNat xs).flatten))
theorem wd {α:Type}(xs:List α)(k:Nat):(List.replicate k xs).flatten.length=k * xs.length:=by
 induction k with
 |zero=>simp
 |succ k ih=>rw[List.replicate_succ,List.flatten_cons,List.length_append,ih,Nat.succ_mul,Nat.add_comm]
theorem xR:OpR X (binaryOp .Mult) rRep:=by
 intro pins s σ H x y v u Q I rx ry h
 obtain⟨l,k,xs,rfl,rfl,hH,h1,h2,hz,q⟩:=h
 cases rx
 obtain⟨t,rfl⟩:=ry
 obtain⟨z,its,n,r,hl,e⟩:=I.lstM hH
 have hlen:its.toArray.size * k.toNat<=sizeLine:=by rw[List.size_toArray,<-hl];exact hz
 have hcap: ¬its.toArray.size * k.toNat>(2 ^ 63 - 1) / 8:=by
  have:(sizeLine:Nat)<=(2 ^ 63 - 1) / 8:=by decide
  omega
 have hfit: ¬(!Builtin.List.listFitsIndex k)=true:=by
  rw[fitsIndex_both h1 h2]
  exact Bool.false_ne_true
 have hlong: ¬Builtin.List.listTooLong (its.toArray.size * k.toNat)=true:=by
  rw[nU hlen]
  exact Bool.false_ne_true
 have hnew:List.foldl (fun x1 x2=>x1++x2) #[] (List.replicate (if its.toArray.isEmpty=true then 0 else k.toNat) its.toArray)=(List.replicate k.toNat its).flatten.toArray:=by
  have f0: ∀m:Nat,List.foldl (fun x1 x2=>x1++x2) #[] (List.replicate m its.toArray)=(List.replicate m its).flatten.toArray:=fun m=>by
   have:=lJ its m []
   rw[List.nil_append] at this
   exact this
  rw[f0]
  cases its with
  |nil=>simp
  |cons a r'=>rw[if_neg (by simp)]
 refine wpAny_binaryOp_repeat_ref (T:= "list") (U:= "int") (by decide) ⟨_,e,rfl⟩ (fun s'=>typeIs_int s' k t) noFill_list_mul F.fills_int_mul F.slot_int_rmul repeat_list F.slot_int_index.lookup
  (call_meets F.slot_int_rmul (typeIs_int s k t) F.entry_int_rmul (F.args_int_rmul_2 _ _) (int___rmul___int_list k t l its.toArray n)
   ⟨e,rfl,⟨_,e,rfl⟩,call_meets F.slot_list_mul ⟨_,e,rfl⟩ F.entry_list_mul (F.args_list_mul_2 _ _) (AutoListH.list___mul___list_int_3 l its.toArray n k t hfit hcap hlong) ⟨e,?_⟩⟩)
 rw[hnew]
 exact⟨.ref _,_,I.lnew (t':=s.toks) (r.rep k.toNat) (by rw[wd,Nat.mul_comm];exact hz),rfl,q _ I.fresh⟩
end
section
variable {prog:Program}{w:World}{A:Around}{E:Value->Shared->Prop}{s:Shared}
end
section
variable {X:Cx}
end
end L2
namespace L2
open PySem PySem.Spec PyProof.Rows
section
variable {κ:Type} [DecidableEq κ]
noncomputable def valV (kvs:List (κ×V))(k:κ):Option V:=(kvs.find? fun kv=>decide (kv.1=k)).map (·.2)
noncomputable def putK (kvs:List (κ×V))(k:κ)(v:V):List (κ×V):=
 if (kvs.any fun kv=>decide (kv.1=k))=true then kvs.map (fun kv=>if kv.1=k then (kv.1,v) else kv) else kvs++[(k,v)]
theorem jH {p:κ×V}{r:List (κ×V)}{k:κ}(e:p.1=k):valV (p::r) k=some p.2:=by simp [valV,List.find?_cons,e]
theorem jI {p:κ×V}{r:List (κ×V)}{k:κ}(e:¬p.1=k):valV (p::r) k=valV r k:=by simp [valV,List.find?_cons,e]
theorem nc (k:κ): ∀kvs:List (κ×V),(kvs.any fun kv=>decide (kv.1=k))=(valV kvs k).isSome
 |[]=>rfl
 |p::r=>by
  rw[List.any_cons]
  by_cases e:p.1=k
  ·simp only[jH e,decide_eq_true e,Bool.true_or,Option.isSome_some]
  ·rw[jI e,decide_eq_false e,Bool.false_or];exact nc k r
theorem gN (kvs:List (κ×V))(k:κ)(v:V):(putK kvs k v).length<=kvs.length+1:=by
 unfold putK
 split
 ·rw[List.length_map];omega
 ·rw[List.length_append,List.length_cons,List.length_nil];omega
theorem RelO.isSome_eq {o:Option V}{u:Option Value}(r:RelO o u):o.isSome=u.isSome:=by
 cases o with
 |none=>cases u with
  |none=>rfl
  |some _=>exact (show False from r).elim
 |some _=>cases u with
  |none=>exact (show False from r).elim
  |some _=>rfl
theorem KV.val {kvs:List (κ×V)}{vs:List (κ×Value)}(r:KV kvs vs)(k:κ):RelO (valV kvs k) (valueAt vs k):=by
 unfold KV at r
 induction r with
 |nil=>exact True.intro
 | @cons p q ps qs h t ih=>
   obtain⟨h1,h2⟩:=h
   by_cases e:p.1=k
   ·have e':q.1=k:=h1.symm.trans e
    have b:valueAt (q::qs) k=some q.2:=by simp [valueAt,List.find?_cons,e']
    rw[jH e,b];exact h2
   ·have e': ¬q.1=k:=fun z=>e (h1.trans z)
    have b:valueAt (q::qs) k=valueAt qs k:=by simp [valueAt,List.find?_cons,e']
    rw[jI e,b];exact ih
theorem KV.any {kvs:List (κ×V)}{vs:List (κ×Value)}(r:KV kvs vs)(k:κ):(kvs.any fun kv=>decide (kv.1=k))=vs.any fun kv=>decide (kv.1=k):=by
 unfold KV at r
 induction r with
 |nil=>rfl
 |cons h t ih=>rw[List.any_cons,List.any_cons,ih,h.1]
theorem KV.repl {kvs:List (κ×V)}{vs:List (κ×Value)}(r:KV kvs vs)(k:κ){y:V}{u:Value}(ry:RelV y u):
  KV (kvs.map fun kv=>if kv.1=k then (kv.1,y) else kv) (vs.map fun kv=>if kv.1=k then (kv.1,u) else kv):=by
 unfold KV at r ⊢
 induction r with
 |nil=>exact .nil
 | @cons p q ps qs h t ih=>
   rw[List.map_cons,List.map_cons]
   refine .cons ?_ ih
   obtain⟨h1,h2⟩:=h
   by_cases e:p.1=k
   ·rw[if_pos e,if_pos (h1.symm.trans e)];exact⟨h1,ry⟩
   ·rw[if_neg e,if_neg (fun z=>e (h1.trans z))];exact⟨h1,h2⟩
theorem KV.put {kvs:List (κ×V)}{vs:List (κ×Value)}(r:KV kvs vs)(k:κ){y:V}{u:Value}(ry:RelV y u):KV (putK kvs k y) (stored vs k u):=by
 unfold putK stored
 rw[r.any k]
 by_cases e:(vs.any fun kv=>decide (kv.1=k))=true
 ·rw[if_pos e,if_pos e];exact r.repl k ry
 ·rw[if_neg e,if_neg e];exact Paired.snoc r ⟨rfl,ry⟩
theorem KV.length {kvs:List (κ×V)}{vs:List (κ×Value)}(r:KV kvs vs):kvs.length=vs.length:=Paired.length r
end
theorem on {P:Program}{w:World}{k:Key}{u:Value}(r:RelV (kV k) u):(cF P w).is k u=true:=by
 cases k with
 |inl i=>obtain⟨t,e⟩:=(show∃t,u=Value.int i t from r);subst e;exact nX P w i t
 |inr x=>obtain⟨t,e⟩:=(show∃t,u=Value.str x t from r);subst e;exact nW P w x t
theorem jb {P:Program}{w:World}: ∀ {ks:List Key}{us:List Value},Vals (ks.map kV) us->ItemsAre (cF P w) ks us
 |[],_,r=>by rw[List.map_nil] at r;cases r;exact .nil
 |k::ks,_,r=>by
  rw[List.map_cons] at r
  cases r with
  |cons h t=>exact .cons (on h) (jb t)
noncomputable abbrev KT (H:Hp):List (List Key×V)->List (List Key×Addr×Value)->Prop:=Paired fun p q=>p.1=q.1/\H q.2.1=some (.tup (p.1.map kV))/\RelV p.2 q.2.2
theorem KT.val {H:Hp}{kvs:List (List Key×V)}{xs:List (List Key×Addr×Value)}(r:KT H kvs xs)(k:List Key):RelO (valV kvs k) ((atKey xs k).map (·.2)):=by
 induction r with
 |nil=>exact True.intro
 | @cons p q ps qs h t ih=>
   obtain⟨h1,_,h2⟩:=h
   by_cases e:p.1=k
   ·have e':q.1=k:=h1.symm.trans e
    have b:atKey (q::qs) k=some q.2:=by simp [atKey,List.find?_cons,e']
    rw[jH e,b];exact h2
   ·have e': ¬q.1=k:=fun z=>e (h1.trans z)
    have b:atKey (q::qs) k=atKey qs k:=by simp [atKey,List.find?_cons,e']
    rw[jI e,b];exact ih
theorem KT.repl {H:Hp}{kvs:List (List Key×V)}{xs:List (List Key×Addr×Value)}(r:KT H kvs xs)(k:List Key){y:V}{u:Value}(ry:RelV y u):
  KT H (kvs.map fun kv=>if kv.1=k then (kv.1,y) else kv) (xs.map (putAt k u)):=by
 induction r with
 |nil=>exact .nil
 | @cons p q ps qs h t ih=>
   rw[List.map_cons,List.map_cons]
   refine .cons ?_ ih
   obtain⟨h1,h2,h3⟩:=h
   unfold putAt
   by_cases e:p.1=k
   ·rw[if_pos e,if_pos (h1.symm.trans e)];exact⟨h1,h2,ry⟩
   ·rw[if_neg e,if_neg (fun z=>e (h1.trans z))];exact⟨h1,h2,h3⟩
theorem KT.put {H:Hp}{kvs:List (List Key×V)}{xs:List (List Key×Addr×Value)}(r:KT H kvs xs)(k:List Key){b:Addr}{y:V}{u:Value}(hb:H b=some (.tup (k.map kV)))(ry:RelV y u):
  KT H (putK kvs k y) (storedH xs k b u):=by
 have e:(kvs.any fun kv=>decide (kv.1=k))=(atKey xs k).isSome:=by
  rw[nc,(r.val k).isSome_eq,Option.isSome_map]
 unfold putK storedH
 rw[e]
 by_cases q:(atKey xs k).isSome=true
 ·rw[if_pos q,if_pos q];exact r.repl k ry
 ·rw[if_neg q,if_neg q];exact Paired.snoc r ⟨rfl,hb,ry⟩
theorem KT.keeps {H H':Hp}{kvs:List (List Key×V)}{xs:List (List Key×Addr×Value)}(r:KT H kvs xs)(ht: ∀b ys,H b=some (.tup ys)->H' b=some (.tup ys)):KT H' kvs xs:=
 Paired.mapP r fun _ _ z=>⟨z.1,ht _ _ z.2.1,z.2.2⟩
section
variable {P:Program}{w:World}{H:Hp}{h:Heap}{a:Addr}
theorem sE {u:HO}(ok:HOk P w H h)(e:Rd H a u):ObjOk P w H h a u:=e.ok ok
theorem ot {kvs:List (Key×V)}(ok:HOk P w H h)(e:Rd H a (.dK kvs)):kvs.length<=sizeLine/\(a==sysModules)=false/\ ∃vs,KV kvs vs/\h.DictOf (cF P w) a vs:=
 show ObjOk P w H h a (.dK kvs) from sE ok e
theorem zt {kvs:List (Key×V)}(ok:HOk P w H h)(e:H a=some (.dK kvs)):kvs.length<=sizeLine/\(a==sysModules)=false/\ ∃vs,KV kvs vs/\h.DictOf (cF P w) a vs:=ot ok (.inl e)
theorem mG {ks:List Key}(ok:HOk P w H h)(e:H a=some (.tup (ks.map kV))):(tupleKind (cF P w)).is h ks a:=by
 obtain⟨_,its,r,⟨o,h1,h2,n,h3⟩,_⟩:=(show ObjOk P w H h a (.tup (ks.map kV)) from ok a _ e)
 exact⟨o,its.toArray,n,h1,h2,h3,by simpa using jb r⟩
theorem kM {kvs:List (List Key×V)}(ok:HOk P w H h)(e:Rd H a (.dT kvs)):kvs.length<=sizeLine/\(a==sysModules)=false/\
  ∃xs,KT H kvs xs/\h.DictOfH (tupleKind (cF P w)) a xs:=by
 obtain⟨z,y,xs,r,o,es,ep,h1,h2,h3,h4,h5⟩:=(show ObjOk P w H h a (.dT kvs) from sE ok e)
 refine⟨z,y,xs,r,o,es,ep,h1,h2,h3,h4,fun x hx=>?_,h5⟩
 have all: ∀ {l:List (List Key×V)}{m:List (List Key×Addr×Value)},KT H l m-> ∀x∈m,(tupleKind (cF P w)).is h x.1 x.2.1:=by
  intro l m q
  induction q with
  |nil=>intro x hx;exact nomatch hx
  | @cons p q ps qs hq t ih=>
    intro x hx
    rcases List.mem_cons.mp hx with e|hx
    ·subst e
     exact mG ok (by rw[<-hq.1];exact hq.2.1)
    ·exact ih x hx
 exact all r x hx
theorem zr {kvs:List (List Key×V)}(ok:HOk P w H h)(e:H a=some (.dT kvs)):kvs.length<=sizeLine/\(a==sysModules)=false/\
 ∃xs,KT H kvs xs/\h.DictOfH (tupleKind (cF P w)) a xs:=kM ok (.inl e)
end
def DGet (H:Hp)(a:Addr)(y:V)(r:Option V):Prop:=
 (∃kvs k,Rd H a (.dK kvs)/\y=kV k/\r=valV kvs k)\/ ∃kvs k b,Rd H a (.dT kvs)/\y=.ref b/\H b=some (.tup (k.map kV))/\r=valV kvs k
def DPut (H:Hp)(a:Addr)(y v:V)(H':Hp):Prop:=
 (∃kvs k,H a=some (.dK kvs)/\y=kV k/\kvs.length<sizeLine/\H'=upd H a (.dK (putK kvs k v)))\/
 ∃kvs k b,H a=some (.dT kvs)/\y=.ref b/\H b=some (.tup (k.map kV))/\kvs.length<sizeLine/\H'=upd H a (.dT (putK kvs k v))
section
variable {X:Cx}{pins:List (Addr×Obj)}{σ:St}{H:Hp}{s:Shared}{a:Addr}{y v:V}{u r:Value}{o:Option V}{A:Around}{E:Value->Shared->Prop}
theorem Inv.big (I:Inv X pins σ H s):sysModules<s.heap.objs.size:=by
 have h:mainGlobals<s.heap.objs.size:=(I.mod.glob.keeps I.bk).lt
 exact Nat.lt_trans (by decide) h
theorem rH {Q:Value->Shared->Prop}(hu:A.units+1<cLine)(I:Inv X pins σ H s)(g:DGet H a y (some v))(ry:RelV y u)(h:∀w' s',Inv X pins σ H s'->RelV v w'->Q w' s'):
  wpAny (model X.prog X.w) A (getItem (.ref a) u) Q E s:=by
 rcases g with⟨kvs,k,e,ey,l⟩|⟨kvs,k,b,e,ey,eb,l⟩
 ·subst ey
  obtain⟨z,hd,vs,rel,dd⟩:=ot I.hok e
  obtain⟨w',hw,rw'⟩:=RelO.some_of (v:=v) (o:=valueAt vs k) (by rw[l];exact rel.val k)
  exact wpAny_getItem_of (on ry) dd.mapOf hw (h w' _ (I.tok _) rw')
 ·subst ey
  cases (show u=Value.ref b from ry)
  obtain⟨z,hd,xs,rel,dd⟩:=kM I.hok e
  obtain⟨w',hw,rw'⟩:=RelO.some_of (v:=v) (o:=(atKey xs k).map (·.2)) (by rw[l];exact rel.val k)
  obtain⟨p,hp,hp2⟩:=Option.map_eq_some_iff.mp hw
  refine wpAny_getItem_heap (tupleKind_room_in1 hu) (mG I.hok eb) dd hp ?_
  rw[hp2]
  exact h w' _ (I.tok _) rw'
theorem zW {Q:Value->Shared->Prop}(hu:A.units+1<cLine)(I:Inv X pins σ H s)(g:DGet H a y o)(ry:RelV y u)(h:∀s',Inv X pins σ H s'->Q (.bool o.isSome) s'):
  wpAny (model X.prog X.w) A (compareOp .In u (.ref a)) Q E s:=by
 rcases g with⟨kvs,k,e,ey,l⟩|⟨kvs,k,b,e,ey,eb,l⟩
 ·subst ey
  obtain⟨z,hd,vs,rel,dd⟩:=ot I.hok e
  refine wpAny_in_of (on ry) hd dd.mapOf ?_
  rw[<-(rel.val k).isSome_eq,<-l]
  exact h _ (I.tok _)
 ·subst ey
  cases (show u=Value.ref b from ry)
  obtain⟨z,hd,xs,rel,dd⟩:=kM I.hok e
  refine wpAny_in_heap (tupleKind_room_in1 hu) (mG I.hok eb) hd dd ?_
  have q:=(rel.val k).isSome_eq
  rw[Option.isSome_map] at q
  rw[<-q,<-l]
  exact h _ (I.tok _)
theorem qh {h':Heap}{t':Nat}{ob:HO}(I:Inv X pins σ H s)(mu:Mut (H a))(hs:Heap.SameBut a s.heap h')(he: ∃q,h'.get? a=some q)(new:ObjOk X.prog X.w (upd H a ob) h' a ob):
  Inv X pins σ (upd H a ob) {s with heap:=h',toks:=t'}:=
 I.write (x:=a) (e:=a) mu (.inl rfl) (fun b q hb z=>(hs.2 b hb).trans z) he new
theorem uF {P:Program}{w:World}{H':Hp}{h':Heap}{kvs:List (Key×V)}{vs:List (Key×Value)}(z:kvs.length<=sizeLine)(hd:(a==sysModules)=false)(rel:KV kvs vs)(dd:h'.DictOf (cF P w) a vs):
 ObjOk P w H' h' a (.dK kvs):=⟨z,hd,vs,rel,dd⟩
theorem rG {H':Hp}{Q:Unit->Shared->Prop}(hu:A.units+1<cLine)(I:Inv X pins σ H s)(g:DPut H a y v H')(ry:RelV y u)(rv:RelV v r)(h:∀s',Inv X pins σ H' s'->Q () s'):
  wpAny (model X.prog X.w) A (setItem (.ref a) u r) Q E s:=by
 rcases g with⟨kvs,k,e,ey,l,eH⟩|⟨kvs,k,b,e,ey,eb,l,eH⟩
 ·subst ey eH
  obtain⟨z,hd,vs,rel,dd⟩:=zt I.hok e
  have hz:vs.length<=sizeLine:=by rw[<-rel.length];exact z
  have hl:(putK kvs k v).length<=sizeLine:=by have:=gN kvs k v;omega
  refine wpAny_setItem_pairs (hsz:=hz) (on ry) dd fun h' dd' hs=>h _ ?_
  have he: ∃q,h'.get? a=some q:=let ⟨q,_,_,hq,_⟩:=dd';⟨q,hq⟩
  exact qh I (by rw[e];exact True.intro) hs he (uF hl hd (rel.put k rv) dd')
 ·subst ey eH
  cases (show u=Value.ref b from ry)
  obtain⟨z,hd,xs,rel,dd⟩:=zr I.hok e
  have hz:xs.length<=sizeLine:=by rw[<-Paired.length rel];exact z
  have hl:(putK kvs k v).length<=sizeLine:=by have:=gN kvs k v;omega
  refine wpAny_setItem_heap (hsz:=hz) (tupleKind_room_in1 hu) (mG I.hok eb) dd fun h' dd' hs=>h _ ?_
  obtain⟨q,es,ep,hq,h2,h3,h4,_,h5⟩:=dd'
  refine qh I (by rw[e];exact True.intro) hs ⟨q,hq⟩ ⟨hl,hd,_,(rel.put k eb rv).keeps fun c ys ec=>?_,q,es,ep,hq,h2,h3,h4,h5⟩
  rw[aF (zm ec e (fun z=>nomatch z))]
  exact ec
end
section
variable {X:Cx}{pins:List (Addr×Obj)}{σ:St}{H:Hp}{s:Shared}{a:Addr}{kvs:List (Key×V)}{k:Key}{u:Value}{A:Around}{E:Value->Shared->Prop}
end
theorem ox {X:Cx}{pins:List (Addr×Obj)}{σ:St}{H:Hp}{s:Shared}{a:Addr}{y:V}{o:Option V}(I:Inv X pins σ H s)(g:DGet H a y o):s.TypeIs (.ref a) "dict":=by
 rcases g with⟨kvs,k,e,_,_⟩|⟨kvs,k,b,e,_,_,_⟩
 ·obtain⟨_,_,vs,_,dd⟩:=ot I.hok e
  exact dd.typeIs
 ·obtain⟨_,_,xs,_,dd⟩:=kM I.hok e
  exact dd.typeIs
section
variable {X:Cx}{o i e value:Expr}{pos pos' tpos:Pos}{td ty tv:TE}
end
theorem uG {P:Program}{w:World}{H:Hp}(h:Heap)(hb:sysModules<h.objs.size):ObjOk P w H (h.push {cls:=.type "dict",data:=.dict #[]}) h.objs.size (.dK []):=
 ⟨Nat.zero_le _,beq_eq_false_iff_ne.mpr (Ne.symm (Nat.ne_of_lt hb)),[],.nil,Heap.DictOf.new h⟩
theorem uD {P:Program}{w:World}{H:Hp}(h:Heap)(hb:sysModules<h.objs.size):ObjOk P w H (h.push {cls:=.type "dict",data:=.dict #[]}) h.objs.size (.dT []):=
 ⟨Nat.zero_le _,beq_eq_false_iff_ne.mpr (Ne.symm (Nat.ne_of_lt hb)),[],.nil,_,#[],0,Heap.get?_push_size _ rfl,⟨rfl,rfl,rfl⟩,rfl,rfl,List.nodup_nil⟩
def xo:TE:=fun _ H Q=> ∀p,H p=none->Q (.ref p) (upd H p (.dK []))
def xn:TE:=fun _ H Q=> ∀p,H p=none->Q (.ref p) (upd H p (.dT []))
section
variable {X:Cx}{pos:Pos}
theorem pe_dnewK:PE X (.Dict [] [] pos) xo:=fun pins s σ H Q I h=>
 wpAny_Dict_empty ⟨.ref s.heap.objs.size,_,I.laid (a:=s.heap.objs.size) (o:=.dK []) (t':=s.toks) (fun _ _ q=>Heap.get?_push_of_some _ q) (Nat.le_refl _) (uG s.heap I.big),rfl,h _ (I.hok.fresh (Nat.le_refl _))⟩
theorem pe_dnewT:PE X (.Dict [] [] pos) xn:=fun pins s σ H Q I h=>
 wpAny_Dict_empty ⟨.ref s.heap.objs.size,_,I.laid (a:=s.heap.objs.size) (o:=.dT []) (t':=s.toks) (fun _ _ q=>Heap.get?_push_of_some _ q) (Nat.le_refl _) (uD s.heap I.big),rfl,h _ (I.hok.fresh (Nat.le_refl _))⟩
end
def fY (kvs more:List (Key×V)):List (Key×V):=more.foldl (fun acc kv=>putK acc kv.1 kv.2) kvs
structure M1 (X:Cx)(o:Expr)(m:Str)(apos:Pos)(e:Expr)(cpos:Pos):Prop where
 base:attributeBase o m X.env (eval o X.env)=eval o X.env
 few:((backTo cpos (starEach [e] X.env)).all (fun x=>!x.1) && (backToKw cpos (keywordEach [] X.env)).all (fun x=>x.1.isSome)
  && decide (([e]:List Expr).length+([]:List Keyword).length+(if ([]:List Keyword).isEmpty then 0 else 1)<30))=true
 line:(apos.endLine==cpos.line)=true
 trees:backTo cpos (starEach [e] X.env)=[(false,eval e X.env)]
def IsD (H:Hp)(a:Addr):Prop:=(∃kvs,Rd H a (.dK kvs))\/ ∃kvs,Rd H a (.dT kvs)
theorem yG {X:Cx}{pins:List (Addr×Obj)}{σ:St}{H:Hp}{s:Shared}{a:Addr}(I:Inv X pins σ H s)(d:IsD H a):
  s.TypeIs (.ref a) "dict"/\(∀b,Value.ref a=.ref b-> ∃ob,s.heap.get? b=some ob/\ob.dict=none)/\(a==sysModules)=false:=by
 rcases d with⟨kvs,e⟩|⟨kvs,e⟩
 ·obtain⟨_,hd,vs,_,dd⟩:=ot I.hok e
  refine⟨dd.typeIs,fun b q=>?_,hd⟩
  cases q
  obtain⟨ob,_,_,h1,h2,_⟩:=dd
  exact⟨ob,h1,h2.2.1⟩
 ·obtain⟨_,hd,xs,_,dd⟩:=kM I.hok e
  refine⟨dd.typeIs,fun b q=>?_,hd⟩
  cases q
  obtain⟨ob,_,_,h1,h2,_⟩:=dd
  exact⟨ob,h1,h2.2.1⟩
section
variable {X:Cx}{pins:List (Addr×Obj)}{σ:St}{H:Hp}{s:Shared}{a:Addr}{y d:V}{u r:Value}{o:Option V}{A:Around}{E:Value->Shared->Prop}
end
section
variable {X:Cx}{o e f:Expr}{apos cpos:Pos}{td ty tx:TE}
end
section
variable {X:Cx}{pins:List (Addr×Obj)}{σ:St}{H:Hp}{s:Shared}{a:Addr}{kvs:List (Key×V)}{A:Around}{E:Value->Shared->Prop}
end
section
variable {X:Cx}{pins:List (Addr×Obj)}{σ:St}{H:Hp}{s:Shared}{a:Addr}{y:V}{u:Value}{A:Around}{E:Value->Shared->Prop}
end
end L2
namespace Att
open PySem PySem.W PySem.Calls PyProof.Rows
theorem jv {P:Params}{h:Heap}: ∀ (ns:List Int) (vs:List Value),WellAll P h vs (ns.map WData.int)->IntsAre vs ns:=by
 intro ns
 induction ns with
 |nil=>
  intro vs w
  rw[List.map_nil] at w
  cases w
  exact .nil
 |cons n ns ih=>
  intro vs w
  rw[List.map_cons] at w
  cases w with
  |cons a b=>
   cases a
   exact .cons _ _ (ih _ b)
theorem qC {l:OpenLaw}{n:Nat}(hn:l.most=some n){P:Params}{h:Heap}{args:List WData}{vals:List Value}
  (hpre:l.row.toRowW.claim.pre args=true)(hwl:WellAll P h vals args):
  ∃a vs ns,vals=[Value.ref a]/\args=[WData.list (ns.map WData.int)]/\h.get? a=some {cls:=.type "list",data:=.seq vs.toArray}/\IntsAre vs ns/\ns.length<=n:=by
 have hsh:WShape.hasAll [] args [.list .int]=true:=(pre_splitW hpre).1
 have hc:l.pre.holds [] {args:=args}=true:=(pre_splitW hpre).2
 obtain⟨d,r,rfl,h1,h2⟩:=hasAllW_cons hsh
 obtain rfl:=hasAllW_nil h2
 obtain⟨xs,rfl,h3⟩:=hasW_list h1
 obtain⟨ns,rfl⟩:=items_int h3
 have hlen:ns.length<=n:=by
  unfold OpenLaw.pre at hc
  have h4:(WTm.not (.lt (.lit (.int (n:Int))) (.len (.arg 0)))).holds [] {args:=[.list (ns.map .int)]}=true:=by
   have h4:=(holds_andW hc).1
   rw[hn] at h4
   exact h4
  have h5:=condW_of h4 (w_not (w_lt w_lit (w_len_list (w_arg rfl))))
  rw[List.length_map] at h5
  refine Nat.le_of_not_lt fun q=>?_
  have q':(n:Int)<((ns.length:Nat):Int):=by omega
  first
   |(rw[decide_eq_true q'] at h5;exact absurd h5 (by decide))
   |(simp at h5;omega)
 cases hwl with
 |cons w1 w2=>
  cases w2
  cases w1 with
  |list ho hall=>exact⟨_,_,ns,rfl,rfl,ho,jv ns _ hall,hlen⟩
theorem qG (l:OpenLaw)(args:List WData):l.row.toRowW.claim.post args (.bool true) args=true:=
 postW_of (r:=l.row.toRowW) (X:=(true==true))
  (show WShape.has [] (.bool true) .bool=true by first|rfl|decide|simp [WShape.has,WShape.arms,WShape.armsAll])
  (show (WTm.eq .res (.lit (.bool true))).value [] {args:=args,res:=some (.bool true),after:=args}=some (.bool (true==true)) from w_eq_bool (w_res rfl) w_lit) rfl
theorem attach_call {l:OpenLaw}{n:Nat}{q:Program}{loose:List Str}{XP:(Str->Option Value)->Heap->Prop}{YP:World->Heap->Prop}{d:DefRec}
  (hn:l.most=some n)(hdf:d.params.defaults=[])
  (call: ∀ (w:World) (s₀ s₁:Shared) (mg mb:Str->Option Value) (fa:Addr) (o:Obj) (pm cd doc:Value) (a:Addr) (vs:List Value) (ns:List Int),
   Ground q loose [] XP w s₀ mg mb s₁.heap->YP w s₁.heap->
   s₁.heap.get? fa=some o->o.data=.func (docDef d.name d.params d.body d.scope pm cd doc)->s₁.heap.CodeRec cd d.name->mg d.name=some (.ref fa)->
   s₁.heap.get? a=some {cls:=.type "list",data:=.seq vs.toArray}->IntsAre vs ns->ns.length<=n->s₁.gens= #[]->
   codeAny (model l.prog w) callerA (.call (.ref fa) ⟨[.ref a],[]⟩) (fun r s'=>r=.ok (.ret (.bool true))/\OldK s₁.heap s'.heap/\s'.os=s₁.os/\AllBare s'.gens) s₁):
  WalkO q loose XP YP l.row.toRowW d [] (fun f vs=>PySem.call f vs):=by
 intro w s₀ s₁ mg mb G Y fa o pm cd doc dV kV ho hd hcd hD hmg hg args vals as hpre hlay hrd hwl hlo
 obtain rfl:dV=.none:=Dflts.none hD hdf
 obtain rfl:kV=.none:=Dflts.noKw hD
 obtain⟨a,vs,ns,rfl,rfl,hobj,hints,hlen⟩:=qC hn hpre hwl
 refine enter_call (codeAny_mono (call w s₀ s₁ mg mb fa o pm cd doc a vs ns G Y ho (fd_plain hd) hcd hmg hobj hints hlen hg) fun r s' hq=>?_)
 obtain⟨rfl,h2,h3,h4⟩:=hq
 exact⟨.inl ⟨.bool true,.bool true,[],rfl,fun _=>rfl,.bool true,qG l _,fun _=>⟨List.Pairwise.nil,fun _ hm=>(nomatch hm)⟩⟩,h2,h3,h4⟩
section
variable {prog:Program}{w:World}{A:Around}{E:Value->Shared->Prop}{s:Shared}{K:Frag}
noncomputable def zV (h:Heap)(L d:Addr):List (Addr×Obj):=(List.range h.objs.size).filterMap fun a=>if a=L\/a=d then none else (h.get? a).map fun o=>(a,o)
end
end Att
namespace L2
open PySem PySem.Spec PyProof.Rows
theorem lg: ∀ {vs:List Value}{ns:List Int},IntsAre vs ns->Vals (ns.map V.int) vs
 |_,_,.nil=>.nil
 |_,_,.cons n t h=>.cons ⟨t,rfl⟩ (lg h)
def Only (H:Hp):Prop:= ∀b,H b=none\/ ∃o xs,H b=some (.frz o (.lst xs))
theorem ub {P:Program}{w:World}{K:PySem.W.Frag}{mg mb:Str->Option Value}{CX:CXT}{k:Nat}{fa a:Addr}{fd:FuncData}{x:Str}{sp:Sp}{s₁:Shared}{vs:List Value}{ns:List Int}
  (KX:K.In s₁.heap)(hns:s₁.heap.Ns mainGlobals mg)(hb:s₁.heap.Ns builtinsNs mb)(hbb: ∀x:Str,x≠ "__name__"->mb x=bootBuiltins x)(hlim:s₁.heap.NoLimit)(hg:s₁.gens= #[])
  (ha:s₁.heap.get? a=some {cls:=.type "list",data:=.seq vs.toArray})(hi:IntsAre vs ns)(hl:ns.length<=sizeLine)(hr:Room k callerA)
  (F:∀base:Heap,K.In base->base.Ns mainGlobals mg->FnOk P w K mg base CX k fa fd [x] sp)(hbind: ∀ (s:Shared) (u:Value),BindsTo s fd ⟨[u],[]⟩ [(x,u)])
  (hsp: ∀H:Hp,Only H->SqL K H a (ns.map V.int)->sp [.ref a] H (fun v _=>v=.bl true) fun _ _ _=>False)
  (hCX: ∀H e s',CX [] H s₁ (fun _ _ _=>False) e s'->False):
  codeAny (model P w) callerA (.call (.ref fa) ⟨[.ref a],[]⟩) (fun r s'=>r=.ok (.ret (.bool true))/\OldK s₁.heap s'.heap/\s'.os=s₁.os/\AllBare s'.gens) s₁:=by
 have rv:=lg hi
 have lenV:=hi.length
 have core: ∀H:Hp,Only H->SqL K H a (ns.map V.int)->HOk P w H s₁.heap->(∀b,H b≠none->b=a)->(H a≠none->K.lookup a=none)->
   codeAny (model P w) callerA (.call (.ref fa) ⟨[.ref a],[]⟩) (fun r s'=>r=.ok (.ret (.bool true))/\OldK s₁.heap s'.heap/\s'.os=s₁.os/\AllBare s'.gens) s₁:=by
  intro H hO hS hok hA hK
  have base_of: ∀ {b:Addr}{o:Obj},s₁.heap.get? b=some o->H b=none->(hidT s₁.heap H).get? b=some o:=fun e n=>uo e n
  have noA: ∀ {b:Addr}{o:Obj}{es:Array DictEntry}{ep:Nat},s₁.heap.get? b=some o->o.data=.dict es ep->H b=none:=fun{b o es ep} e d=>by
   cases q:H b with
   |none=>rfl
   |some u=>
    have e':b=a:=hA b (by rw[q];simp)
    subst e'
    rw[ha] at e;cases e
    have d':Data.seq vs.toArray _=Data.dict es ep:=d
    cases d'
  have nsK: ∀ {b:Addr}{m:Str->Option Value},s₁.heap.Ns b m->(hidT s₁.heap H).Ns b m:=fun{b m} ⟨o,es,ep,e,d,r⟩=>⟨o,es,ep,base_of e (noA e d),d,r⟩
  have hKb:K.In (hidT s₁.heap H):=fun b o e=>base_of (KX b o e) (by
   cases q:H b with
   |none=>rfl
   |some u=>
    have e':b=a:=hA b (by rw[q];simp)
    subst e'
    rw[hK (by rw[q];simp)] at e;cases e)
  have hM:Mod K mg (hidT s₁.heap H):=⟨hKb,nsK hns,⟨mb,nsK hb,hbb⟩,let ⟨mc,h1,h2⟩:=hlim;⟨mc,nsK h1,h2⟩⟩
  have e0:Env0 P w K mg (hidT s₁.heap H) callerA [] s₁ H:=⟨rfl,hM,fun b o e=>vR e,Nat.le_of_eq (rA _ _),trivial,fun b hb=>absurd (show b∈([]:List Addr) from hb) (by simp),hok,.of_eq hg⟩
  refine codeAny_mono ((F _ hKb (nsK hns)).run callerA [] s₁ H ⟨[.ref a],[]⟩ [.ref a] [.ref a] _ _ hr e0 (hbind s₁ (.ref a)) (.cons rfl .nil) (hsp H hO hS)) fun r s' h=>?_
  cases r with
  |error e=>exact (hCX H e s' h).elim
  |ok fl=>
   cases fl with
   |next=>exact False.elim h
   |brk=>exact False.elim h
   |cont=>exact False.elim h
   |ret u=>
    obtain⟨v,H',os,bare,un,hok',r',q⟩:=h
    have q':v=.bl true:=q
    subst q'
    obtain rfl:u=Value.bool true:=r'
    refine⟨rfl,OldK.of_keep fun b o e=>?_,os,bare⟩
    cases q:H b with
    |none=>exact un.keep b o e q (by intro z;exact absurd (show b∈([]:List Addr) from z) (by simp)) (by simp)
    |some u=>
     rcases hO b with z|⟨ob,xs,z⟩
     ·rw[q] at z;cases z
     ·have z2:=un.frzs b ob _ z
      obtain⟨e1,_⟩:=hok b _ z
      obtain⟨e2,_⟩:=hok' b _ z2
      rw[e] at e1;cases e1
      exact e2
 cases hk:K.lookup a with
 |some o=>
  have e:=KX a o hk
  rw[ha] at e
  cases e
  refine core (fun _=>none) (fun _=>.inl rfl) (.inr ⟨_,vs.toArray,_,hk,rfl,rfl,rfl,by rw[List.size_toArray,lenV];exact hl,by simpa using rv⟩) (fun b u z=>by have z':(none:Option HO)=some u:=z;cases z') (fun b z=>absurd rfl z) fun z=>absurd rfl z
 |none=>
  refine core (fun b=>if b=a then some (.frz {cls:=.type "list",data:=.seq vs.toArray} (.lst (ns.map V.int))) else none) (fun b=>?_) (.inl (.inr ⟨{cls:=.type "list",data:=.seq vs.toArray},if_pos rfl⟩)) (fun b u z=>?_) (fun b z=>?_) fun _=>hk
  ·by_cases hb:b=a
   ·exact .inr ⟨_,_,if_pos hb⟩
   ·exact .inl (if_neg hb)
  ·by_cases hb:b=a
   ·have z':=(if_pos hb).symm.trans z
    cases z'
    subst hb
    exact⟨ha,by rw[List.length_map];exact hl,vs,_,rv,ha⟩
   ·have z':=(if_neg hb).symm.trans z
    cases z'
  ·by_cases hb:b=a
   ·exact hb
   ·exact absurd (if_neg hb) z
end L2
namespace L2
open PySem PySem.Spec PyProof.Rows
noncomputable abbrev KOf {K:PySem.W.Frag}{h:Heap}(_:K.In h):PySem.W.Frag:=K
theorem walk_of {l:PySem.W.OpenLaw}{n k:Nat}{q:Program}{loose:List Str}{XP:(Str->Option Value)->Heap->Prop}{YP:World->Heap->Prop}{d:DefRec}{K:Params->PySem.W.Frag}{CX:World->CXT}{sp:World->Sp}{x:Str}
  (hn:l.most=some n)(hn2:n<=sizeLine)(hdf:d.params.defaults=[])(hr:Room k callerA)
  (hY: ∀ (w:World) (h:Heap),YP w h->(K w.params).In h)
  (F:∀ (w:World) (mg:Str->Option Value) (fa:Addr) (h:Heap),(K w.params).In h->h.Ns mainGlobals mg->mg d.name=some (.ref fa)->
    ∃fd:FuncData,(∀ (s:Shared) (u:Value),BindsTo s fd ⟨[u],[]⟩ [(x,u)])/\
     ∀base:Heap,(K w.params).In base->base.Ns mainGlobals mg->FnOk l.prog w (K w.params) mg base (CX w) k fa fd [x] (sp w))
  (hsp: ∀ (w:World) (H:Hp) (a:Addr) (ns:List Int),ns.length<=n->Only H->SqL (K w.params) H a (ns.map V.int)->sp w [.ref a] H (fun v _=>v=.bl true) fun _ _ _=>False)
  (hCX: ∀ (w:World) (H:Hp) (s:Shared) (e:Value) (s':Shared),CX w [] H s (fun _ _ _=>False) e s'->False):
  PySem.W.WalkO q loose XP YP l.row.toRowW d [] (fun f vs=>PySem.call f vs):=by
 refine Att.attach_call hn hdf fun w s₀ s₁ mg mb fa o pm cd doc a vs ns G Y ho hd hcd hmg hobj hints hlen hg=>?_
 have KX:=hY w _ Y
 obtain⟨fd,hb,hF⟩:=F w mg fa _ KX G.T.g hmg
 exact ub KX G.T.g G.T.b G.T.builtins G.T.nolimit hg hobj hints (Nat.le_trans hlen hn2) hr hF hb (fun H hO hS=>hsp w H a ns hlen hO hS) fun H e s'=>hCX w H s₁ e s'
end L2
namespace L2
open PySem PySem.Spec PyProof.Rows
noncomputable def iE (s:Stmt)(j:Nat):Stmt:=match s with
 |.ClassDef _ _ _ body _ _ _ _ _ _ _=>body.getD j (.Pass ⟨0,0,0,0⟩)
 |_=>.Pass ⟨0,0,0,0⟩
noncomputable def aJ (s:Stmt):Arguments:=match s with
 |.FunctionDef _ a _ _ _ _ _ _ _ _=>a
 |_=>{posonlyargs:=[],args:=[],vararg:=none,kwonlyargs:=[],kw_defaults:=[],kwarg:=none,defaults:=[]}
noncomputable def aH (s:Stmt):List Stmt:=match s with
 |.FunctionDef _ _ b _ _ _ _ _ _ _=>b
 |_=>[]
noncomputable def aq (s:Stmt):Scope:=match s with
 |.FunctionDef _ _ _ _ _ _ sc _ _ _=>sc
 |_=>{kind:=.function,names:=[],isGenerator:=false,isCoroutine:=false}
noncomputable abbrev CX0:CXT:=fun _ _ _ _ _ _=>False
noncomputable abbrev E0:XK:=fun _ _ _=>False
theorem pass0 {X:Cx}:jg CX0 X E0:=fun _ _ _ _ _ _ _ h=>h.elim
structure Fun (K:PySem.W.Frag)(x qual:Str)(st:Stmt)(f:Addr)(fd:FuncData):Prop where
 ex: ∃ (oc:Value) (od:Option Addr) (kV doc pm:Value) (an:Option Addr) (cdv ct:Value) (osl:Array (Option Value)),
  fd=fnOf x qual (aJ st) (aH st) (aq st) .none kV doc pm an cdv ct/\K.lookup f=some ⟨oc,od,.func fd,osl⟩/\codeIn K cdv qual=true
 kp:keepIn K (.ref f)=true
section
variable {P:Program}{w:World}{K:PySem.W.Frag}{mg:Str->Option Value}{base:Heap}
theorem Fun.ok {x qual:Str}{st:Stmt}{f:Addr}{fd:FuncData}{N ps:List Str}{k:Nat}{sp:Sp}(F:Fun K x qual st f fd)(S:FnScope N ps (aq st))(len: ∀vs H Q E,sp vs H Q E->vs.length=ps.length)
  (hbody: ∀ (cdv:Value) (A:Around) (outer:List Env) (s:Shared) (H:Hp) (vs:List V) (Q:VK) (E:XK),Room k (A.deeper (envOfC qual (aq st) s.heap.objs.size f cdv))->sp vs H Q E->
   ∃t,PSs (cxOf CX0 P w K mg base N qual (aq st) f cdv A outer s H E).nox (aH st) t/\t {nx:=fun _ H'=>Q .non H',rt:=Q} (start N vs) H):FnOk P w K mg base CX0 (k+1) f fd ps sp:=by
 obtain⟨oc,od,kV,doc,pm,an,cdv,ct,osl,rfl,lk,hcd⟩:=F.ex
 refine zq lk hcd S len fun A outer s H vs Q E hr hsp=>?_
 obtain⟨t,h,q⟩:=hbody cdv A outer s H vs Q E hr hsp
 exact⟨t,h.nox,q⟩
theorem Fun.binds {x qual:Str}{st:Stmt}{f:Addr}{fd:FuncData}{ps:List Str}(F:Fun K x qual st f fd)
  (h:∀ (kV doc pm:Value) (an:Option Addr) (cdv ct:Value) (us:List Value),us.length=ps.length->bindArgs (fnOf x qual (aJ st) (aH st) (aq st) .none kV doc pm an cdv ct) ⟨us,[]⟩=pure (ps.zip us)):Binds K fd ps []:=by
 obtain⟨oc,od,kV,doc,pm,an,cdv,ct,osl,rfl,lk,hcd⟩:=F.ex
 exact .all (h kV doc pm an cdv ct)
theorem aT {x qual:Str}{st:Stmt}{f:Addr}{oc:Value}{od an:Option Addr}{osl:Array (Option Value)}{kV doc pm cdv ct:Value}(l:K.lookup f=some ⟨oc,od,.func (fnOf x qual (aJ st) (aH st) (aq st) .none kV doc pm an cdv ct),osl⟩)
 (c:codeIn K cdv qual=true)(k:keepIn K (.ref f)=true):Fun K x qual st f (fnOf x qual (aJ st) (aH st) (aq st) .none kV doc pm an cdv ct):=⟨⟨oc,od,kV,doc,pm,an,cdv,ct,osl,rfl,l,c⟩,k⟩
end
theorem bt {A:Around}{k:Nat}(hr:Room k A):A.units+1<cLine:=Nat.lt_of_le_of_lt (Nat.add_le_add_left (by decide:1<=64) _) hr.units
section
variable {X:Cx}
theorem pv (i:Nat){x:Str}{pos:Pos}(hN:X.N[i]?=some x:=by rfl)(hv:Vis X.env.scope x:=by first|exact Or.inl rfl|exact Or.inr (Or.inl rfl)|exact Or.inr (Or.inr rfl))(hd:(x==("__debug__":Str))=false:=by decide)
 (hcd:(x==("__classdict__":Str))=false:=by decide):PE X (.Name x pos) (tVar i):=xI hN hv hd hcd
end
theorem iteF {A B:Prop}(h:B):if false=true then A else B:=by
 rw[if_neg Bool.false_ne_true]
 exact h
theorem iteT {A B:Prop}(h:A):if true=true then A else B:=by
 rw[if_pos rfl]
 exact h
section
variable {κ:Type} [DecidableEq κ]
end
end L2
namespace L2
open PySem PySem.Spec PyProof.Rows
theorem kI {α β:Type}{f:α->β->Sem (ForInStep β)}(g:α->β->β): ∀ (l:List α) (c:β),(∀x∈l,∀c,f x c=pure (.yield (g x c)))->forIn l c f=pure (l.foldl (fun c x=>g x c) c)
 |[],_,_=>rfl
 |x::l,c,h=>by
  rw[List.forIn_cons,h x List.mem_cons_self,pure_bind]
  exact kI g l (g x c) fun y hy=>h y (List.mem_cons_of_mem _ hy)
noncomputable def dq (env:Env)(p:Str×NameKind)(cs:List (Str×Addr)):List (Str×Addr):=if (p.2==NameKind.free)=true then (p.1,(env.cells.lookup p.1).getD 0)::cs else cs
def cloOf (scope:Scope)(env:Env):List (Str×Addr):=scope.names.foldl (fun c x=>dq env x c) []
theorem ph {scope:Scope}{env:Env}(h:∀p∈scope.names,p.2=.free-> ∃c,env.cells.lookup p.1=some c):closureFor scope env=pure (cloOf scope env):=by
 unfold cloOf
 simp only[closureFor]
 rw[kI (dq env)]
 ·rfl
 ·intro x hx c
  obtain⟨n,k⟩:=x
  by_cases hk:k=.free
  ·subst hk
   obtain⟨a,ha⟩:=h _ hx rfl
   have ha:env.cells.lookup n=some a:=ha
   simp [dq,cellOf,ha]
  ·have:(k==NameKind.free)=false:=by simpa using hk
   simp [dq,this]
theorem kN (env:Env): ∀ (l:List (Str×NameKind)) (c:List (Str×Addr)),(∀p∈l,p.2=.free-> ∃a,env.cells.lookup p.1=some a)->
  (∀y a,c.lookup y=some a->env.cells.lookup y=some a)-> ∀y a,(l.foldl (fun c x=>dq env x c) c).lookup y=some a->env.cells.lookup y=some a
 |[],_,_,h,y,a,e=>h y a e
 |(n,k)::r,c,hf,h,y,a,e=>by
  refine kN env r (dq env (n,k) c) (fun p hp=>hf p (List.mem_cons_of_mem _ hp)) (fun z b q=>?_) y a e
  unfold dq at q
  split at q
  ·rename_i hk
   obtain⟨d,hd⟩:=hf (n,k) List.mem_cons_self (by simpa using hk)
   have hd:env.cells.lookup n=some d:=hd
   rw[List.lookup_cons] at q
   split at q
   ·rename_i hz
    have:z=n:=by simpa using hz
    subst this
    rw[hd] at q ⊢
    simpa using q
   ·exact h z b q
  ·exact h z b q
theorem oz (env:Env): ∀ (l:List (Str×NameKind)) (c:List (Str×Addr)) (y:Str),(∃a,c.lookup y=some a)-> ∃a,(l.foldl (fun c x=>dq env x c) c).lookup y=some a
 |[],_,_,h=>h
 |(n,k)::r,c,y,h=>by
  refine oz env r _ y ?_
  show∃a,(dq env (n,k) c).lookup y=some a
  unfold dq
  split
  ·rw[List.lookup_cons]
   split
   ·exact⟨_,rfl⟩
   ·exact h
  ·exact h
theorem qk (env:Env): ∀ (l:List (Str×NameKind)) (c:List (Str×Addr)) (y:Str),(y,NameKind.free)∈l-> ∃a,(l.foldl (fun c x=>dq env x c) c).lookup y=some a
 |(n,k)::r,c,y,h=>by
  rcases List.mem_cons.mp h with e|h
  ·obtain⟨rfl,rfl⟩:=Prod.mk.inj e
   refine oz env r _ y ⟨(env.cells.lookup y).getD 0,?_⟩
   show (dq env (y,.free) c).lookup y=_
   unfold dq
   rw[if_pos (by rfl),List.lookup_cons]
   simp
  ·exact qk env r _ y h
structure CScope (X:Cx)(ls:List Str)(scope:Scope):Prop where
 kind:scope.kind=.function
 nocell: ∀y∈scope.names,y.2≠.cell
 names: ∀y∈scope.names,y.2=.local ->scope.names.lookup y.1=some .local
 loc: ∀y,scope.names.lookup y=some .local ->y∈ls
 free: ∀y∈scope.names,y.2=.free->X.env.kindOf y.1=some .cell\/X.env.kindOf y.1=some .free
 noq: ∀y∈ls,∀k,scope.names.lookup ⟨#[63]++y.cps⟩≠some k
noncomputable def hid (ls:List Str)(y:Str):Str:=if ls.contains y then⟨#[63]++y.cps⟩ else y
def cxC (X:Cx)(ls:List Str)(scope:Scope)(C:Addr)(s2:Shared)(H2:Hp)(fp:List Addr):Cx where
 prog:=X.prog
 w:=X.w
 K:=X.K
 mg:=X.mg
 base:=X.base
 A:=X.A
 N:=ls++X.N.map (hid ls)
 s₀:=s2
 H₀:=H2
 env:=compEnvC scope (cloOf scope X.env) C X.env
 outer:=X.stack
 stack:=X.stack
 ex:=fp
 calm:=X.calm
 fn:=fun _=>false
 pn:=[]
 xe:=fun _ _=>False
theorem cZ {env:Env}{y:Str}: ∀ {names:List (Str×NameKind)}{k:NameKind},(names.map fun (n,k)=>if (k==NameKind.free && env.scope.kind==.function && env.kindOf n==some .cell) then (n,NameKind.cell) else (n,k)).lookup y=some k->
  names.lookup y=some k\/(names.lookup y=some .free/\k=.cell)
 |[],_,h=>by simp at h
 |(n,j)::r,k,h=>by
  have ih:= @cZ env y r k
  replace h:List.lookup y ((if (j==NameKind.free && env.scope.kind==.function && env.kindOf n==some .cell)=true then (n,NameKind.cell) else (n,j))::(r.map fun (n,k)=>if (k==NameKind.free && env.scope.kind==.function && env.kindOf n==some .cell) then (n,NameKind.cell) else (n,k)))=some k:=h
  by_cases hc:(j==NameKind.free && env.scope.kind==.function && env.kindOf n==some .cell)=true
  ·rw[if_pos hc,List.lookup_cons] at h
   rw[List.lookup_cons]
   cases hx:y==n with
   |true=>
    rw[hx] at h
    simp only[Bool.and_eq_true] at hc
    have hj:j=.free:=by simpa using hc.1.1
    subst hj
    have h:some NameKind.cell=some k:=h
    cases h
    exact .inr ⟨rfl,rfl⟩
   |false=>
    rw[hx] at h
    exact ih h
  ·rw[if_neg hc,List.lookup_cons] at h
   rw[List.lookup_cons]
   cases hx:y==n with
   |true=>rw[hx] at h;exact .inl h
   |false=>rw[hx] at h;exact ih h
def hides (N ls:List Str)(σ:St):Bool:=true
theorem rj {X:Cx}{pins:List (Addr×Obj)}{σ:St}{H2:Hp}{s2:Shared}{ls:List Str}{scope:Scope}{fp:List Addr}{C:Addr}{h1:Heap}{m:Str->Option Value}{tk:Nat}
  (I:Inv X pins σ H2 s2)(S:CScope X ls scope)(hh:hides X.N ls σ=true)(f2: ∀b∈fp,FpOk X pins H2 b)(ho: ∀b∈fp,∃o,s2.heap.get? b=some o)(hC:s2.heap.objs.size<=C)(hn:h1.Ns C m)
  (old: ∀b o,s2.heap.get? b=some o->h1.get? b=some o):
  Inv (cxC X ls scope C s2 H2 fp) [] (List.replicate ls.length none++σ) H2 {s2 with heap:=h1,toks:=tk}:=by
 have cf: ∀p∈scope.names,p.2=.free-> ∃c,X.env.cells.lookup p.1=some c:=fun p hp e=>I.ok.has _ (S.free p hp e)
 have c1: ∀y a,(cloOf scope X.env).lookup y=some a->X.env.cells.lookup y=some a:=kN X.env scope.names [] cf (fun y a e=>by simp at e)
 have c2: ∀y,scope.names.lookup y=some .free-> ∃a,(cloOf scope X.env).lookup y=some a:=fun y hy=>qk X.env scope.names [] y (PySem.mem_of_lookup hy)
 have lt2: ∀b∈fp,b<s2.heap.objs.size:=fun b hb=>let ⟨o,e⟩:=ho b hb;Heap.lt_size e
 have kinds: ∀y k,(relabel scope X.env).names.lookup y=some k->k=.cell\/k=.free->scope.names.lookup y=some .free:=fun y k h hk=>by
  rcases cZ (env:=X.env) h with q|⟨q,_⟩
  ·rcases hk with rfl|rfl
   ·exact absurd rfl (S.nocell _ (PySem.mem_of_lookup q))
   ·exact q
  ·exact q
 refine⟨⟨I.ok.mod,S.kind,I.ok.glob,I.ok.blt,hC,fun x y c e1 e2=>I.ok.inj x y c (c1 x c e1) (c1 y c e2),fun x hx=>?_,fun x c h=>absurd h Bool.false_ne_true,I.ok.hd,I.ok.frames,.inl rfl,fun b hb=>⟨?_,fun x c e=>(f2 b hb).2.2.2.2.1 x c (c1 x c e)⟩,I.bs,Nat.le_trans I.ok.bsz I.sz,fun b o e hb=>?_,fun b hb hz=>?_,I.stack,I.stkFree⟩,
  rfl,I.bare,Un.kept old,⟨m,hn,fun i y v e1 e2 e3=>?_⟩,fun x c e=>?_,I.hok.fresh hC,fun x c e=>I.freeC x c (c1 x c e),fun p hp=>absurd (show p∈([]:List (Addr×Obj)) from hp) (by simp),I.hok.kept old,?_⟩
 ·have hx:(relabel scope X.env).names.lookup x=some .cell\/(relabel scope X.env).names.lookup x=some .free:=hx
  rcases hx with hx|hx
  ·exact c2 x (kinds x _ hx (.inl rfl))
  ·exact c2 x (kinds x _ hx (.inr rfl))
 ·exact Nat.ne_of_lt (Nat.lt_of_lt_of_le (lt2 b hb) hC)
 ·rcases (f2 b hb).2.2.2.1 with z|z
  ·exact I.ok.noex b o e z
  ·exact absurd (Nat.lt_of_lt_of_le (Heap.lt_size e) (Nat.le_trans I.ok.bsz z)) (Nat.lt_irrefl _)
 ·rcases List.mem_cons.mp (I.stkSub b hz) with z|z
  ·exact (f2 b hb).2.1 z
  ·exact (f2 b hb).2.2.1 z
 ·have e1:(ls++X.N.map (hid ls))[i]?=some y:=e1
  by_cases hi:i<ls.length
  ·rw[List.getElem?_append_left (by simpa using hi),List.getElem?_replicate] at e2
   rw[if_pos hi] at e2
   cases e2
  ·rw[List.getElem?_append_right (by omega)] at e1
   rw[List.getElem?_append_right (by simpa using hi),List.length_replicate] at e2
   rw[List.getElem?_map] at e1
   obtain⟨y0,e1',ey⟩:=Option.map_eq_some_iff.mp e1
   have e3:(relabel scope X.env).names.lookup y=some .local \/(relabel scope X.env).names.lookup y=some .cell\/(relabel scope X.env).names.lookup y=some .free:=e3
   have ny:y0 ∉ ls:=fun hm=>by
    unfold hid at ey
    rw[if_pos (by simpa using hm)] at ey
    subst ey
    have no: ∀k,(relabel scope X.env).names.lookup ⟨#[63]++y0.cps⟩=some k->False:=fun k q=>by
     rcases cZ (env:=X.env) q with z|⟨z,_⟩
     ·exact S.noq y0 hm _ z
     ·exact S.noq y0 hm _ z
    rcases e3 with q|q|q<;>exact no _ q
   unfold hid at ey
   rw[if_neg (by simpa using ny)] at ey
   rw[ey] at e1' ny
   have e1:=e1'
   have fr:scope.names.lookup y=some .free:=by
    rcases e3 with q|q|q
    ·rcases cZ (env:=X.env) q with z|⟨_,z⟩
     ·exact absurd (S.loc y z) ny
     ·cases z
    ·exact kinds y _ q (.inl rfl)
    ·exact kinds y _ q (.inr rfl)
   have kx:=S.free _ (PySem.mem_of_lookup fr) rfl
   obtain⟨m2,_,hl⟩:=I.loc
   obtain⟨u,r,l⟩:=hl _ y v e1 e2 (.inr kx)
   refine⟨u,r,?_⟩
   have knd:(relabel scope X.env).names.lookup y=some .cell\/(relabel scope X.env).names.lookup y=some .free:=by
    rcases e3 with q|q
    ·rcases cZ (env:=X.env) q with z|⟨_,z⟩
     ·exact absurd (S.loc y z) ny
     ·cases z
    ·exact q
   rcases l with⟨k1,_⟩|⟨_,c,hc,hcell⟩
   ·have kx:X.env.kindOf y=some .cell\/X.env.kindOf y=some .free:=kx
    rcases kx with z|z<;>(rw[k1] at z;cases z)
   ·obtain⟨c',hc'⟩:=c2 y fr
    have:=c1 y c' hc'
    rw[hc] at this
    cases this
    refine .inr ⟨knd,c,hc',?_⟩
    obtain⟨o,ho,hd⟩:=hcell
    exact⟨o,old _ _ ho,hd⟩
 ·obtain⟨v,o,ho,hd⟩:=I.cell x c (c1 x c e)
  exact⟨v,o,old _ _ ho,hd⟩
 ·show (List.replicate ls.length none++σ).length=(ls++X.N.map (hid ls)).length
  rw[List.length_append,List.length_append,List.length_replicate,List.length_map,I.len]
theorem uk {X:Cx}{pins:List (Addr×Obj)}{σ σ':St}{H2 H3:Hp}{s2 s':Shared}{ls:List Str}{scope:Scope}{fp:List Addr}{C D:Addr}{h':Heap}{ys:List V}{its:List Value}{n:Nat}{pl:List (Addr×Obj)}
  (I:Inv X pins σ H2 s2)(f2: ∀b∈fp,FpOk X pins H2 b)(J:Inv (cxC X ls scope C s2 H2 fp) pl σ' H3 s')(hD:s2.heap.objs.size<=D)(hC:s2.heap.objs.size<=C)(hDC:D≠C)
  (sb:Heap.SameBut C s'.heap h')(hD3:H3 D=none)(e:s'.heap.get? D=some {cls:=.type "list",data:=.seq its.toArray n})(r:Vals ys its)(z:ys.length<=sizeLine):Inv X pins σ (upd H3 D (.lst ys)) {s' with heap:=h'}:=by
 have ext: ∀b o,b≠C->s'.heap.get? b=some o->h'.get? b=some o:=fun b o hb e=>sb.extBut b o hb e
 have neD: ∀b,b<s2.heap.objs.size->b≠D:=fun b hb=>Nat.ne_of_lt (Nat.lt_of_lt_of_le hb hD)
 have neC: ∀b,b<s2.heap.objs.size->b≠C:=fun b hb=>Nat.ne_of_lt (Nat.lt_of_lt_of_le hb hC)
 have lt: ∀b u,H2 b=some u->b<s2.heap.objs.size:=fun b u q=>by
  apply Classical.byContradiction
  intro hb
  have:=I.hok.fresh (Nat.le_of_not_lt hb)
  rw[this] at q
  cases q
 have fC:H3 C=none:=J.free
 refine I.call' (s':={s' with heap:=h'}) (ch:=fp) J.os ⟨fun b o q n hb hx=>?_,fun b o q n hb hx=>?_,fun b o q n hx=>?_,fun b o q hx=>?_,fun b xs q=>?_,fun b o u q=>?_,fun b ps q=>?_⟩ (fun b u q=>?_) J.bare fun b hb=>?_
 ·exact ext b o (neC b (Heap.lt_size q)) (J.base.keep b o q n hb hx)
 ·obtain⟨sl,w⟩:=J.base.slot b o q n hb hx
  exact⟨sl,ext b _ (neC b (Heap.lt_size q)) w⟩
 ·rw[aF (neD b (Heap.lt_size q))]
  exact J.base.free b o q n hx
 ·obtain⟨o',w⟩:=J.base.there b o q hx
  exact⟨o',ext b _ (neC b (Heap.lt_size q)) w⟩
 ·rw[aF (neD b (lt b _ q))];exact J.base.tups b xs q
 ·rw[aF (neD b (lt b _ q))];exact J.base.frzs b o u q
 ·rw[aF (neD b (lt b _ q))];exact J.base.tbls b ps q
 ·by_cases hb:b=D
  ·subst hb
   rw[bF] at q
   cases q
   exact⟨z,its,n,r,ext _ _ hDC e⟩
  ·rw[aF hb] at q
   have ne1:b≠C:=fun w=>by rw[w,fC] at q;cases q
   have ow: ∀c u,H3 c=some u->c≠D:=fun c u w z=>by rw[z,hD3] at w;cases w
   have oc: ∀c u,H3 c=some u->c≠C:=fun c u w z=>by rw[z,fC] at w;cases w
   refine (J.hok b u q).stay (fun c v hc w=>ext c v ?_ w) (fun c w=>by rw[aF (ow c _ w)];exact w) fun c xs w=>by rw[aF (ow c _ w)];exact w
   rcases hc with rfl|hc
   ·exact ne1
   ·exact oc c _ hc
 ·obtain⟨a1,a2,a3,a4,a5,a6⟩:=f2 b hb
  exact⟨a4,a2,a5,a6⟩
def PIfs (X:Cx)(ifs:List Expr)(t:TT):Prop:=
 ∀ (pins:List (Addr×Obj)) (s:Shared) (σ:St) (H:Hp) (Q:Bool->Hp->Prop),Inv X pins σ H s->t σ H Q->
   wpAny (model X.prog X.w) X.A (forIn ifs true fun c r=>if r=true then do let ok<-isTrue c X.env (eval c X.env);pure (ForInStep.yield ok) else pure (ForInStep.yield r)) (TP X pins σ Q) X.xe s
def tYes:TT:=fun _ H Q=>Q true H
theorem vq {X:Cx}:PIfs X [] tYes:=fun _ _ _ H _ I h=>wpAny_tests_nil ⟨H,I,h⟩
def CompW (J:It)(ls:List Str)(g:TG)(tt:TT)(te:TE)(σ:St)(H1:Hp)(Q:VK):Prop:= ∃W:Nat->Nat->List V->Hp->Prop,(∃m,W 0 m [] H1)/\ ∀i m ys H,W i m ys H->
 (J.stop i H/\ ∀D,H D=none->Q (.ref D) (upd H D (.lst ys)))\/
 (J.go i H/\ ∃R:List V->Hp->Prop,(∀ys' H',R ys' H'-> ∃m',m'<m/\W (i+1) m' ys' H')/\ ∀y H',J.yld i H y H'->
  g y (List.replicate ls.length none++σ) H' fun σ2 H2=>σ2.drop ls.length=σ/\σ2.length=ls.length+σ.length/\tt σ2 H2 fun b H3=>if b=true then te σ2 H3 fun v H4=>ys.length<sizeLine/\R (ys++[v]) H4 else R ys H3)
def tComp (N ls:List Str)(wi:TI)(g:TG)(tt:TT)(te:TE):TE:=fun σ H Q=>hides N ls σ=true/\wi σ H fun J H1=>CompW J ls g tt te σ H1 Q
theorem gQ {prog:Program}{w:World}{A:Around}{R:Result->Shared->Prop}{s:Shared}{elt target iter:Expr}{ifs:List Expr}{scope:Scope}{pos:Pos}{it acc:Value}{env:Env}(I:Nat->Shared->Prop)
  (turn: ∀n s,I n s->wpAny (model prog w) A (pyNext it) (fun r s₁=>match r with
   |none=>R (.ok .next) s₁
   |some v=>wpAny (model prog w) A (letOwnedTupleGo target it v) (fun _ s₁=>wpAny (model prog w) A (assign target env v) (fun _ s₂=>
    wpAny (model prog w) A (forIn ifs true fun c r=>if r=true then do let ok<-isTrue c env (eval c env);pure (ForInStep.yield ok) else pure (ForInStep.yield r)) (fun ok s₃=>
     if ok=true then wpAny (model prog w) A (eval elt env) (fun x s₄=>
      wpAny (model prog w) A (call (.builtin "list.append") [acc,x]) (fun _ s₅=> ∃m,m<n/\I m s₅) (notedBy (model prog w) A env fun e s'=>R (.error e) s') s₄) (notedBy (model prog w) A env fun e s'=>R (.error e) s') s₃
     else∃m,m<n/\I m s₃) (notedBy (model prog w) A env fun e s'=>R (.error e) s') s₂) (notedBy (model prog w) A env fun e s'=>R (.error e) s') s₁) (notedBy (model prog w) A env fun e s'=>R (.error e) s') s₁) (notedBy (model prog w) A env fun e s'=>R (.error e) s') s)
  (n:Nat)(h:I n s):
  codeAny (model prog w) A (.compLoop (.ListComp elt [⟨target,iter,ifs,0⟩] scope pos) 0 it acc env) R s:=by
 refine codeAny_loop rfl I (fun n s hI=>?_) n h
 show wpAny _ A ((compTurn (.ListComp elt [⟨target,iter,ifs,0⟩] scope pos) 0 it acc env).onRaise (fun x=>do noteFrame x env;theTreesLotGoes x)) _ _ s
 refine wpAny_noted ?_
 rw[compTurn_list]
 refine wpAny_bind (wpAny_standAt (wpAny_bind (wpAny_mono (turn n s hI) (fun r s₁ h₁=>?_) fun _ _ h'=>h')))
 cases r with
 |none=>exact wpAny_pure h₁
 |some v=>
  refine wpAny_bind (wpAny_mono h₁ (fun _ s₁ h₁=>?_) fun _ _ h'=>h')
  refine wpAny_bind (wpAny_mono h₁ (fun _ s₂ h₂=>wpAny_bind (wpAny_mono h₂ (fun ok s₃ h₃=>?_) fun _ _ h'=>h')) fun _ _ h'=>h')
  cases ok with
  |false=>exact wpAny_pure ⟨rfl,h₃⟩
  |true=>
   exact wpAny_bind (wpAny_bind (wpAny_mono h₃ (fun x s₄ h₄=>wpAny_bind (wpAny_mono h₄ (fun _ s₅ h₅=>wpAny_pure (wpAny_pure ⟨rfl,h₅⟩)) fun _ _ h'=>h')) fun _ _ h'=>h'))
theorem thx {α:Type}{t:Sem α}{Q Q':α->Shared->Prop}{M:Model}{A:Around}{E:Value->Shared->Prop}{s:Shared}(h:wpAny M A t Q (fun _ _=>False) s)(hQ: ∀a s,Q a s->Q' a s):wpAny M A t Q' E s:=wpAny_mono h hQ fun _ _ x=>x.elim
section
variable {X:Cx}{elt iter tg:Expr}{ifs:List Expr}{scope:Scope}{pos:Pos}{ls:List Str}{wi:TI}{g:TG}{tt:TT}{te:TE}
theorem lO {use:Option (Value->Sem Unit)}{pins:List (Addr×Obj)}{s:Shared}{σ:St}{H:Hp}{Q:VK}{QQ:Value->Shared->Prop}{pos':Pos}(hcalm:X.calm=true)(S:CScope X ls scope)(hi:PI X tg iter wi)
  (hg: ∀C s2 H2 fp,PG (cxC X ls scope C s2 H2 fp) tg g)(ht: ∀C s2 H2 fp,PIfs (cxC X ls scope C s2 H2 fp) ifs tt)(he: ∀C s2 H2 fp,PE (cxC X ls scope C s2 H2 fp) elt te)
  (hs: ∀x,foldedSetIterable iter X.env x=pure x)(I:Inv X pins σ H s)(h:tComp X.N ls wi g tt te σ H Q)
  (hQQ: ∀ (D C:Addr) (s':Shared) (H':Hp),(∃m,s'.heap.Ns C m)->FpOk X pins H' C->(∀h',Heap.SameBut C s'.heap h'->Inv X pins σ H' {s' with heap:=h'})->Q (.ref D) H'->compPost (model X.prog X.w) X.A X.xe use QQ (.ref D) C (.ok .next) s'):
  wpAny (model X.prog X.w) X.A (comprehension (.ListComp elt [⟨tg,iter,ifs,0⟩] scope pos) scope X.env pos' (newList []) false (eval iter X.env) use) QQ X.xe s:=by
 obtain⟨hh,h⟩:=h
 have cf: ∀p∈scope.names,p.2=.free-> ∃c,X.env.cells.lookup p.1=some c:=fun p hp e=>I.ok.has _ (S.free p hp e)
 refine wpAny_comprehension_free (use:=use) rfl hs (ph cf) S.kind S.names (thn (hi pins s σ H _ I h) fun v s1 h1=>thn h1 fun itv s2 h2=>?_)
 obtain⟨it,fp,tn,J,H2,rfl,I2,T,st2,f2,W,⟨m0,w0⟩,turn⟩:=h2
 refine wpAny_newObj_type (wpAny_newFunctionEnv S.nocell (by intro y hy;simp at hy) (fun h₁ hns₁ hsb₁=>?_) S.kind)
 dsimp only at hns₁ hsb₁ ⊢
 generalize hH2:s2.heap.push {cls:=.type "list",dict:=none,data:=.seq ([]:List Value).toArray}=G2 at hns₁ hsb₁ ⊢
 have hC:G2.objs.size=s2.heap.objs.size+1:=by rw[<-hH2,Heap.size_push]
 have hDC:s2.heap.objs.size≠G2.objs.size:=by rw[hC];exact Nat.ne_of_lt (Nat.lt_succ_self _)
 have hCle:s2.heap.objs.size<=G2.objs.size:=by rw[hC];exact Nat.le_succ _
 have old: ∀b o,s2.heap.get? b=some o->h₁.get? b=some o:=fun b o e=>hsb₁.extBut b o (Nat.ne_of_lt (Nat.lt_of_lt_of_le (Heap.lt_size e) hCle)) (Heap.get?_push_of_some _ (hH2▸Heap.get?_push_of_some _ e))
 have hacc:h₁.get? s2.heap.objs.size=some {cls:=.type "list",data:=.seq ([]:List Value).toArray}:=hsb₁.extBut _ _ hDC (Heap.get?_push_of_some _ (hH2▸Heap.get?_push_size _ rfl))
 have hobj: ∀b∈fp,∃o,s2.heap.get? b=some o:=fun b hb=>let ⟨o,e,_⟩:=T.obj 0 _ st2 b hb;⟨o,e⟩
 have ltf: ∀b∈fp,b<s2.heap.objs.size:=fun b hb=>let ⟨o,e⟩:=hobj b hb;Heap.lt_size e
 have nofD:s2.heap.objs.size ∉ (cxC X ls scope G2.objs.size s2 H2 fp).fs:=fun z=>by
  rcases List.mem_cons.mp (I2.stkSub _ z) with z|z
  ·exact absurd I2.lt (by rw[<-z];exact Nat.lt_irrefl _)
  ·exact I2.nofs (Nat.le_refl _) z
 have st1:tn 0 h₁:=T.keep 0 _ _ st2 fun b _ o e=>old b o e
 have J0: ∀tk,Inv (cxC X ls scope G2.objs.size s2 H2 fp) [] (List.replicate ls.length none++σ) H2 {s2 with heap:=h₁,toks:=tk}:=fun tk=>rj I2 S hh f2 hobj hCle hns₁ old
 have fpY: ∀ (Hx:Hp) (pl:List (Addr×Obj)),(∀b∈fp,Hx b=none)->(∀p∈pl,s2.heap.objs.size<=p.1)-> ∀b∈fp,FpOk (cxC X ls scope G2.objs.size s2 H2 fp) pl Hx b:=fun Hx pl hx hp b hb=>
  ⟨hx b hb,((J0 0).ok.exf b hb).1,(J0 0).ok.exfs b hb,.inl hb,((J0 0).ok.exf b hb).2,fun p hpp=>by
   have hpp:p∈pl:=by simpa [cxC] using hpp
   exact Nat.ne_of_gt (Nat.lt_of_lt_of_le (ltf b hb) (hp p hpp))⟩
 have loop: ∀s₃:Shared,s₃={s2 with heap:=h₁,toks:=s2.toks+([]:List (Str×Value)).length}->
   codeAny (model X.prog X.w) X.A (.compLoop (.ListComp elt [⟨tg,iter,ifs,0⟩] scope pos) 0 (.ref it) (.ref s2.heap.objs.size) (compEnvC scope (cloOf scope X.env) G2.objs.size X.env))
    (compPost (model X.prog X.w) X.A X.xe use QQ (.ref s2.heap.objs.size) G2.objs.size) s₃:=by
  rintro s₃ rfl
  refine gQ (fun n s'=> ∃ (i:Nat) (ys:List V) (its:List Value) (k:Nat) (H':Hp),Inv (cxC X ls scope G2.objs.size s2 H2 fp) [] (List.replicate ls.length none++σ) H' s'/\tn i s'.heap/\(∀b∈fp,H' b=none)/\H' s2.heap.objs.size=none/\
   s'.heap.get? s2.heap.objs.size=some {cls:=.type "list",data:=.seq its.toArray k}/\Vals ys its/\ys.length<=sizeLine/\W i n ys H') ?_ m0
   ⟨0,[],[],0,H2,J0 _,st1,fun b hb=>(f2 b hb).1,I2.hok.fresh (Nat.le_refl _),hacc,.nil,Nat.zero_le _,w0⟩
  rintro n s3 ⟨i,ys,its,k,H3,I3,st3,fr3,d3,e3,r3,z3,w3⟩
  have big: ∀p∈[((s2.heap.objs.size:Addr),({cls:=.type "list",data:=.seq its.toArray k}:Obj))],s2.heap.objs.size<=p.1:=fun p hp=>by
   have this:=List.mem_singleton.mp hp
   subst this
   exact Nat.le_refl _
  rcases turn i n ys H3 w3 with⟨stop,qn⟩|⟨go,R,hR,step⟩
  ·
   have P3:Inv (cxC X ls scope G2.objs.size s2 H2 fp) [(s2.heap.objs.size,{cls:=.type "list",data:=.seq its.toArray k})] (List.replicate ls.length none++σ) H3 s3:=I3.pins_of fun p hp=>by
    have this:=List.mem_singleton.mp hp
    subst this
    exact⟨e3,d3,hDC,nofD,fun v z=>by cases z⟩
   refine thx (T.done (cxC X ls scope G2.objs.size s2 H2 fp) rfl rfl rfl hcalm i _ s3 _ H3 (fun _ _=>False) P3 (fpY H3 _ fr3 big) st3 stop) fun r s4 qz=>?_
   obtain⟨hr,I4⟩:=qz
   subst hr
   obtain⟨m,hm,_⟩:=I4.loc
   have e4:=(I4.pin _ (List.mem_append_right _ (List.mem_singleton.mpr rfl))).1
   exact hQQ _ _ s4 _ ⟨m,hm⟩ (I2.fpOk hCle (by rw[aF (Ne.symm hDC)];exact I4.free)) (fun h' sb=>uk I2 f2 I4 (Nat.le_refl _) hCle hDC sb d3 e4 r3 z3) (qn _ d3)
  ·
   have P3:Inv (cxC X ls scope G2.objs.size s2 H2 fp) [(s2.heap.objs.size,{cls:=.type "list",data:=.seq its.toArray k})] (List.replicate ls.length none++σ) H3 s3:=I3.pins_of fun p hp=>by
    have this:=List.mem_singleton.mp hp
    subst this
    exact⟨e3,d3,hDC,nofD,fun v z=>by cases z⟩
   refine thx (T.item (cxC X ls scope G2.objs.size s2 H2 fp) rfl rfl rfl hcalm i _ s3 _ H3 (fun _ _=>False) P3 (fpY H3 _ fr3 big) st3 go) fun r s4 qz=>?_
   obtain⟨u,hr,h4⟩:=qz
   subst hr
   refine thx h4 fun _ s5 qz=>?_
   obtain⟨x,H5,I5,r5,y5,st5,fr5⟩:=qz
   have I5':=I5.pinned (fpY H5 _ fr5 big) (T.obj _ _ st5)
   refine thx (hg _ _ _ _ _ s5 _ H5 x u _ I5' r5 (step x H5 y5)) fun _ s6 qz=>?_
   obtain⟨σ6,H6,I6,q6⟩:=qz
   obtain⟨dr,ln,q6⟩:=q6
   have back: ∀ {s7:Shared}{H7:Hp},Inv (cxC X ls scope G2.objs.size s2 H2 fp) ([((s2.heap.objs.size:Addr),({cls:=.type "list",data:=.seq its.toArray k}:Obj))]++jY fp s5.heap) σ6 H7 s7->
     Inv (cxC X ls scope G2.objs.size s2 H2 fp) [] (List.replicate ls.length none++σ) H7 s7/\tn (i+1) s7.heap/\(∀b∈fp,H7 b=none)/\H7 s2.heap.objs.size=none/\s7.heap.get? s2.heap.objs.size=some {cls:=.type "list",data:=.seq its.toArray k}:=fun{s7 H7} I7=>by
    have pD:=I7.pin _ (List.mem_append_right _ (List.mem_append_left _ (List.mem_singleton.mpr rfl)))
    have pF: ∀b∈fp,∀o,s5.heap.get? b=some o->s7.heap.get? b=some o/\H7 b=none:=fun b hb o e=>by
     have q:=I7.pin (b,o) (List.mem_append_right _ (List.mem_append_right _ (ig hb e)))
     exact⟨q.1,q.2.1⟩
    refine⟨(I7.pins_of (pins':=[]) fun p hp=>absurd hp (by simp)).weak ?_ ?_,T.keep _ _ _ st5 fun b hb o e=>(pF b hb o e).1,fun b hb=>?_,pD.2.1,pD.1⟩
    ·rw[ln,List.length_append,List.length_replicate]
    ·intro j v ej
     by_cases hj:j<ls.length
     ·rw[List.getElem?_append_left (by simpa using hj),List.getElem?_replicate,if_pos hj] at ej
      cases ej
     ·rw[List.getElem?_append_right (by simpa using hj),List.length_replicate,<-dr,List.getElem?_drop] at ej
      rw[<-ej]
      congr 1
      omega
    ·obtain⟨o,e,_⟩:=T.obj _ _ st5 b hb
     exact (pF b hb o e).2
   refine thx (ht _ _ _ _ _ s6 σ6 H6 _ I6 q6) fun b s7 qz=>?_
   obtain⟨H7,I7,q7⟩:=qz
   cases b with
   |false=>
    rw[if_neg Bool.false_ne_true] at q7 ⊢
    obtain⟨m',hm,w7⟩:=hR _ _ q7
    obtain⟨a1,a2,a3,a4,a5⟩:=back I7
    exact⟨m',hm,i+1,ys,its,k,H7,a1,a2,a3,a4,a5,r3,z3,w7⟩
   |true=>
    rw[if_pos rfl] at q7 ⊢
    refine thx (he _ _ _ _ _ s7 σ6 H7 _ I7 q7) fun y s8 qz=>?_
    obtain⟨v,H8,I8,r8,z8,q8⟩:=qz
    obtain⟨m',hm,w8⟩:=hR _ _ q8
    obtain⟨a1,a2,a3,a4,a5⟩:=back I8
    have pl:s8.heap.PlainList s2.heap.objs.size its.toArray:=⟨k,a5⟩
    refine wpAny_list_append_plain (hsz:=by rw[List.size_toArray,<-r3.length];exact z3) pl fun h9 hl9 hs9=>?_
    obtain⟨k9,e9⟩:=hl9
    have cellN: ∀ (y:Str) (c:Addr),(cxC X ls scope G2.objs.size s2 H2 fp).env.cells.lookup y=some c->c≠s2.heap.objs.size:=fun y c e=>by
     have e1:X.env.cells.lookup y=some c:=kN X.env scope.names [] cf (fun y a e=>by simp at e) y c e
     obtain⟨v,o,ho,_⟩:=I2.cell y c e1
     exact Nat.ne_of_lt (Heap.lt_size ho)
    have I9:Inv (cxC X ls scope G2.objs.size s2 H2 fp) [] (List.replicate ls.length none++σ) H8 {s8 with heap:=h9}:=
     a1.turned (t':=s8.toks) (fun b o hb e=>hs9.extBut b o hb e) a4 hDC (.inr (Nat.le_refl _)) cellN (fun p hp=>absurd (show p∈([]:List (Addr×Obj)) from hp) (by simp))
    refine⟨m',hm,i+1,ys++[v],its++[y],k9,H8,I9,T.keep _ _ _ a2 fun b hb o e=>hs9.extBut b o (Nat.ne_of_lt (ltf b hb)) e,a3,a4,?_,r3.append (.cons r8 .nil),?_,w8⟩
    ·simpa using e9
    ·rw[List.length_append,List.length_singleton];exact z8
 exact codeAny_compStart_list (loop _ rfl) (T.self _ 0 _ _ _ st1 (loop _ rfl))
theorem vE (hcalm:X.calm=true)(S:CScope X ls scope)(hi:PI X tg iter wi)
  (hg: ∀C s2 H2 fp,PG (cxC X ls scope C s2 H2 fp) tg g)(ht: ∀C s2 H2 fp,PIfs (cxC X ls scope C s2 H2 fp) ifs tt)(he: ∀C s2 H2 fp,PE (cxC X ls scope C s2 H2 fp) elt te)
  (hs: ∀x,foldedSetIterable iter X.env x=pure x:=by intro _;rfl):PE X (.ListComp elt [⟨tg,iter,ifs,0⟩] scope pos) (tComp X.N ls wi g tt te):=by
 intro pins s σ H Q I h
 rw[eval_ListComp]
 refine lO (use:=none) hcalm S hi hg ht he hs I h fun D C s' H' hm _ hI q=>?_
 obtain⟨m,hm⟩:=hm
 exact⟨m,hm,fun h' sb=>⟨.ref D,H',hI h' sb,rfl,q⟩⟩
theorem oM {i:Nat}{x:Str}{px spos:Pos}(hN:X.N.Nodup)(hx1:X.N[i]?=some x)(hx:X.env.scope.names.lookup x=some .local)(hcalm:X.calm=true)(S:CScope X ls scope)(hi:PI X tg iter wi)
  (hg: ∀C s2 H2 fp,PG (cxC X ls scope C s2 H2 fp) tg g)(ht: ∀C s2 H2 fp,PIfs (cxC X ls scope C s2 H2 fp) ifs tt)(he: ∀C s2 H2 fp,PE (cxC X ls scope C s2 H2 fp) elt te)
  (hsw:swapsWith (.ListComp elt [⟨tg,iter,ifs,0⟩] scope pos) (some (.Name x px)) spos.line X.env=pure true:=by rfl)
  (hs: ∀x,foldedSetIterable iter X.env x=pure x:=by intro _;rfl):PS X (.Assign [.Name x px] (.ListComp elt [⟨tg,iter,ifs,0⟩] scope pos) spos) (tAsg (tComp X.N ls wi g tt te) (gName i)):=by
 intro pins s σ H D I h
 rw[exec_Assign_Name_used _ _ _ _ hsw]
 refine wpAny_bind (wpAny_standAt (wpAny_bind ?_))
 show wpAny _ X.A (do let _<-comprehension (.ListComp elt [⟨tg,iter,ifs,0⟩] scope pos) scope X.env _ (newList []) false (eval iter X.env) (some (assign (.Name x px) X.env))) _ _ s
 refine wpAny_bind (wpAny_mono (lO (use:=some (assign (.Name x px) X.env)) (QQ:=fun _ s'=>SP X pins D .next s') hcalm S hi hg ht he hs I h fun Dd C s' H' hm hf hI q=>?_) (fun _ s' hq=>wpAny_pure (wpAny_pure hq)) fun _ _ e=>e)
 obtain⟨m,hm⟩:=hm
 have I1:Inv X pins σ H' s':=hI s'.heap (.refl ..)
 show wpAny _ X.A (assign (.Name x px) X.env (.ref Dd)) _ _ _
 refine wpAny_assign_Name (lj (v:=.ref Dd) I1 hN hx1 (.inl hx) rfl (fun s2 I2 ch=>?_) (.inr hx))
 obtain⟨f0,f1,f2,f3,f4,f5⟩:=hf
 obtain⟨a,sb,ha⟩:=ch
 have hne:C≠a:=by
  rcases ha with ha|ha
  ·rw[ha];exact f1
  ·exact Ne.symm (f4 _ _ ha)
 refine⟨m,hm.sameBut sb hne,fun h' sb'=>?_⟩
 exact⟨_,H',I2.turned (t':=s2.toks) (fun b o hb e=>sb'.extBut b o hb e) f0 f1 f3 f4 f5,q⟩
end
end L2
namespace L2
open PySem PySem.Spec PyProof.Rows
noncomputable def qi (ls:List Str)(sc outer:Scope):Bool:=(sc.kind==.function && ls.all fun y=>(sc.names.lookup ⟨#[63]++y.cps⟩).isNone) && sc.names.all fun y=>(y.2 !=.cell) && (y.2 !=.local ||(sc.names.lookup y.1==some .local && ls.contains y.1)) && (y.2 !=.free||outer.names.lookup y.1==some .cell||outer.names.lookup y.1==some .free)
theorem CScope.of {X:Cx}{ls:List Str}{scope:Scope}(outer:Scope)(h:qi ls scope outer=true:=by decide+kernel)(ho:X.env.scope=outer:=by rfl):CScope X ls scope:=by
 unfold qi at h
 rw[Bool.and_eq_true,List.all_eq_true] at h
 obtain⟨h0,h⟩:=h
 rw[Bool.and_eq_true,List.all_eq_true] at h0
 obtain⟨h0,hq⟩:=h0
 refine⟨by simpa using h0,fun y hy e=>?_,fun y hy e=>?_,fun y hy=>?_,fun y hy e=>?_,fun y hy k e=>by have q:=hq y hy;rw[e] at q;cases q⟩
 ·have q:=h y hy
  simp [e] at q
 ·have q:=h y hy
  simp [e] at q
  exact q.1
 ·have q:=h _ (PySem.mem_of_lookup hy)
  simp at q
  exact q.2
 ·have q:=h y hy
  simp [e] at q
  show X.env.scope.names.lookup y.1=_\/X.env.scope.names.lookup y.1=_
  rw[ho]
  exact q
noncomputable def CMulB (i j:Int):Prop:=i.natAbs<2 ^ 65536/\j.natAbs<2 ^ 65536
theorem qm {i:Int}{n:Nat}(h:i.natAbs<2 ^ n):Builtin.Int.intBits i<=n:=by
 unfold Builtin.Int.intBits
 split
 ·exact Nat.zero_le _
 ·rename_i hz
  have hz':i.natAbs≠0:=by
   intro e
   exact hz (by simp_all)
  have:=(Nat.log2_lt hz').mpr h
  omega
theorem CMulB.ok {i j:Int}(h:CMulB i j):IntMulOk i j:=.of_bits (Nat.le_trans (qm h.1) (by decide)) (Nat.le_trans (qm h.2) (by decide))
section
variable {X:Cx}
theorem call_isinst:CallR X (.builtin "isinstance") (fun xs H Q=> ∃ (x c:V) (cv t:Value) (b:Bool),xs=[x,c]/\RelV c cv/\TyOf X.K H x t/\kitOne X.K t cv=some b/\Q (.bl b) H):=by
 intro pins s σ H xs us Q I r h
 obtain⟨x,c,cv,t,b,rfl,rc,ty,e,q⟩:=h
 obtain⟨u,u',rfl,ru,ru'⟩:=vals2 r
 have:u'=cv:=by
  cases c with
  |ref a=>cases rc;cases ru';rfl
  |ty n=>cases rc;cases ru';rfl
  |non=>cases rc;cases ru';rfl
  |bl _=>cases rc;cases ru';rfl
  |int _=>obtain⟨t1,rfl⟩:=rc;exact absurd e (by simp [kitOne,PySem.W.kitCls];intro h;cases ty<;>cases h)
  |str _=>obtain⟨t1,rfl⟩:=rc;exact absurd e (by simp [kitOne,PySem.W.kitCls];intro h;cases ty<;>cases h)
  |byt _=>obtain⟨t1,rfl⟩:=rc;exact absurd e (by simp [kitOne,PySem.W.kitCls];intro h;cases ty<;>cases h)
  |flt _=>obtain⟨t1,rfl⟩:=rc;exact absurd e (by simp [kitOne,PySem.W.kitCls];intro h;cases ty<;>cases h)
 subst this
 exact rg I ru ty e fun tk=>⟨.bl b,H,I.tok tk,rfl,q⟩
mutual
inductive Den (K:PySem.W.Frag)(H:Hp):V->PyData->Prop
 |non:Den K H .non .none
 |bl (b):Den K H (.bl b) (.bool b)
 |int (i):Den K H (.int i) (.int i)
 |str (x):Den K H (.str x) (.str x)
 |lst {a xs ds}:SqL K H a xs->DenAll K H xs ds->Den K H (.ref a) (.list ds)
 |tup {a xs ds}:SqT K H a xs->DenAll K H xs ds->Den K H (.ref a) (.tuple ds)
inductive DenAll (K:PySem.W.Frag)(H:Hp):List V->List PyData->Prop
 |nil:DenAll K H [] []
 |cons {x xs d ds}:Den K H x d->DenAll K H xs ds->DenAll K H (x::xs) (d::ds)
end
mutual
theorem fU {pins:List (Addr×Obj)}{σ:St}{H:Hp}{s:Shared}(I:Inv X pins σ H s): ∀ {x:V}{d:PyData}{u:Value},Den X.K H x d->RelV x u-> ∃as,Reads s.heap u d as
 |_,_,_,.non,r=>by cases r;exact⟨_,.none⟩
 |_,_,_,.bl b,r=>by cases r;exact⟨_,.bool b⟩
 |_,_,_,.int i,r=>by obtain⟨t,rfl⟩:=r;exact⟨_,.int i t⟩
 |_,_,_,.str i,r=>by obtain⟨t,rfl⟩:=r;exact⟨_,.str i t⟩
 |_,_,_,.lst hq ha,r=>by
  cases r
  obtain⟨its,rv,⟨o,n,e1,e2,e3,e4⟩,hz⟩:=I.list hq
  obtain⟨as,h⟩:=gz I ha rv
  exact⟨_,.list e1 e2 e4 (by simpa using h)⟩
 |_,_,_,.tup hq ha,r=>by
  cases r
  obtain⟨its,rv,⟨o,e1,e2,n,e3⟩,hz⟩:=I.tuple hq
  obtain⟨as,h⟩:=gz I ha rv
  exact⟨_,.tuple e1 e2 e3 (by simpa using h)⟩
theorem gz {pins:List (Addr×Obj)}{σ:St}{H:Hp}{s:Shared}(I:Inv X pins σ H s): ∀ {xs:List V}{ds:List PyData}{us:List Value},DenAll X.K H xs ds->Vals xs us-> ∃as,ReadsAll s.heap us ds as
 |_,_,_,.nil,.nil=>⟨_,.nil⟩
 |_,_,_,.cons h t,.cons r rs=>by
  obtain⟨as,h1⟩:=fU I h r
  obtain⟨bs,h2⟩:=gz I t rs
  exact⟨_,.cons h1 h2⟩
end
def rEqD (K:PySem.W.Frag)(A:Around)(neg:Bool):R2:=fun x y H Q=> ∃d e,Den K H x d/\Den K H y e/\d.canLay0=true/\e.canLay0=true/\A.units+min d.depth e.depth<cLine/\Q (.bl (if neg then !PyData.eqv d e else PyData.eqv d e)) H
theorem xX:OpR X (compareOp .Eq) (rEqD X.K X.A false):=by
 intro pins s σ H x y v u Q I rx ry h
 obtain⟨d,e,hd,he,cd,ce,hu,q⟩:=h
 obtain⟨as,ra⟩:=fU I hd rx
 obtain⟨bs,rb⟩:=fU I he ry
 exact SeqAt.compareEq_reads ra rb cd ce hu ⟨.bl _,H,I,rfl,q⟩
theorem xT:OpR X (compareOp .NotEq) (rEqD X.K X.A true):=by
 intro pins s σ H x y v u Q I rx ry h
 obtain⟨d,e,hd,he,cd,ce,hu,q⟩:=h
 obtain⟨as,ra⟩:=fU I hd rx
 obtain⟨bs,rb⟩:=fU I he ry
 exact SeqAt.compareNe_reads ra rb cd ce hu ⟨.bl _,H,I,rfl,q⟩
end
end L2
namespace L2
open PySem PySem.Spec PyProof.Rows
section
variable {X:Cx}{pins:List (Addr×Obj)}{σ:St}{H:Hp}{s:Shared}
end
section
variable {P:Program}{w:World}{K:PySem.W.Frag}{mg:Str->Option Value}{base:Heap}{N:List Str}{qual:Str}{scope:Scope}{f:Addr}{cd:Value}{A:Around}{outer:List Env}{s:Shared}{H:Hp}{E:XK}
end
end L2
namespace L2
open PySem PySem.Spec PyProof.Rows
section
variable {X:Cx}{tg:Expr}
end
section
variable {X:Cx}
theorem sl_str:SlR X (fun x lo hi H Q=> ∃z,x=.str z/\z.length<=sizeLine/\Q (.str (StrLaws.sliceText z lo hi)) H):=by
 intro pins s σ H x v vl vu lo hi sl Q I rx hs pl pu h
 obtain⟨z,rfl,hz,q⟩:=h
 obtain⟨t,rfl⟩:=rx
 have part: ∀ {v:Value}{o:Option Int},IsPart v o-> ∃p:Option (Int×Tok),v=partValue p/\p.map (·.1)=o:=fun{v o} h=>by
  cases h with
  |none=>exact⟨none,rfl,rfl⟩
  |int i t=>exact⟨some (i,t),rfl,rfl⟩
 obtain⟨l,rfl,el⟩:=part pl
 obtain⟨u,rfl,eu⟩:=part pu
 refine⟨"str",_,slot_str_getitem.lookup,typeIs_str s z t,?_⟩
 obtain⟨o,h1,h2,h3⟩:=hs
 refine wpAny_getItem_str_slice (l:=l) (u:=u) (st:=none) ⟨o,h1,h2,h3⟩ rfl ?_
 subst el eu
 unfold sliceMade slicePicked
 unfold StrLaws.sliceText at q
 simp only[Option.map_none,Option.getD_none]
 split
 ·rename_i hc
  rw[if_pos hc] at q
  exact⟨.str z,H,I,⟨t,rfl⟩,q⟩
 ·rename_i hc
  rw[if_neg hc] at q
  refine⟨?_,.str _,H,I.tok _,⟨_,rfl⟩,q⟩
  show ((_:List Nat).toArray).size<=sizeLine
  rw[List.size_toArray]
  exact Nat.le_trans (List.length_filterMap_le _ _) (Nat.le_trans (sliceIndices_le _ _ _) hz)
theorem mW:CallR X (.type "int") (fun xs H Q=> ∃ (z:Str) (n:Int),xs=[.str z]/\PySem.intText? z=some n/\z.length<=640/\Q (.int n) H):=by
 intro pins s σ H xs us Q I r h
 obtain⟨z,n,rfl,hn,hl,q⟩:=h
 obtain⟨u,rfl,t,rfl⟩:=vals1 r
 exact PySem.W.KIN.call_text hn hl ⟨.int n,H,I.tok _,⟨_,rfl⟩,q⟩
theorem op_mul_str:OpR X (binaryOp .Mult) (fun x y H Q=> ∃ (z:Str) (n:Int),x=.str z/\y=.int n/\MulOk z n/\Q (.str (Txt.mul z n)) H):=by
 intro pins s σ H x y v u Q I rx ry h
 obtain⟨z,n,rfl,rfl,ho,q⟩:=h
 obtain⟨t,rfl⟩:=rx
 obtain⟨t',rfl⟩:=ry
 exact SB.mul ho fun t' k=>⟨.str _,H,I.tok k,⟨_,rfl⟩,q⟩
end
section
variable {X:Cx}{C:Addr}{E:XK}{x:Str}{np cpos pos:Pos}{a:Expr}{es:List Expr}{t:TA}
end
end L2
namespace L2
open PySem PySem.Spec PyProof.Rows
noncomputable def excO (ea:Addr)(cls:Value):HO:=.ext fun h=> ∃o vs,h.get? ea=some o/\o.cls=cls/\o.data=.fields vs
section
variable {X:Cx}{pins:List (Addr×Obj)}{σ:St}{H:Hp}{s:Shared}{pn:List (Addr×Obj)}{xe:Value->Shared->Prop}
end
section
variable {X:Cx}{CX:CXT}{k:Nat}{f C:Addr}{fd:FuncData}{ps:List Str}{sp:Sp}{dvs:List V}{ds:List Value}{Z:St->XK}{x m:Str}{p pos apos:Pos}{e o:Expr}{es:List Expr}{ta:TE}{t:TA}
end
section
variable {X:Cx}{x:Str}{C:Value}{body suite:List Stmt}{b0:Stmt}{np hpos pos:Pos}{tb:(St->XK)->TS}{ts:TS}
end
section
variable {P:Program}{w:World}{K:PySem.W.Frag}{mg:Str->Option Value}{base:Heap}
end
end L2
namespace L2
open PySem PySem.Spec PyProof.Rows
section
variable {X:Cx}
end
end L2
namespace L2
open PySem PySem.Spec PyProof.Rows
section
variable {X:Cx}
end
def Ite (K:PySem.W.Frag)(a:Addr):It:=
 ⟨fun i H=> ∃xs x,SqL K H a xs/\xs[i]?=some x,fun i H v H'=> ∃T x,H T=none/\v=.ref T/\(∀xs,SqL K H a xs->xs[i]?=some x)/\H'=upd H T (.tup [.int i,x]),fun i H=> ∃xs,SqL K H a xs/\xs.length=i⟩
theorem qu {P:Program}{w:World}{K:PySem.W.Frag}{elts:List Expr}{x1}{tpos:Pos}(a e it:Addr)(hei:e≠it):Turn P w K (.Tuple elts x1 tpos) (Ite K a) [e,it] e (fun i h=>(∃old,IsEnum h e it i old)/\h.IsListIter it a i) where
 mem:=by simp
 obj:=fun i h st b hb=>by
  obtain⟨⟨old,he⟩,st⟩:=st
  rcases List.mem_cons.mp hb with rfl|hb
  ·exact⟨_,he,fun v z=>by cases z⟩
  ·have e':b=it:=by simpa using hb
   subst e'
   obtain⟨o,e,c,d⟩:=st
   exact⟨o,e,fun v z=>by rw[d] at z;cases z⟩
 keep:=fun i h h' st k=>⟨let ⟨old,he⟩:=st.1;⟨old,k e (by simp) _ he⟩,st.2.at fun o e=>k it (by simp) o e⟩
 item:=by
  intro X hP hw hK hc i pins s σ H E I hf st hg
  subst hP hw hK
  obtain⟨⟨old,he⟩,st⟩:=st
  obtain⟨xs,x,hq,hx⟩:=hg
  obtain⟨its,rv,p,hz⟩:=I.list hq
  obtain⟨u,hu,ru⟩:=rv.get hx
  have fe:=hf e (by simp)
  have fi:=hf it (by simp)
  obtain⟨oi,hoi,hoc,hod⟩:=id st
  have nai:a≠it:=fun z=>by
   obtain⟨o,h1,h2,_⟩:=p.isList
   rw[z,hoi] at h1
   cases h1
   rw[hoc] at h2
   exact absurd h2 (by decide)
  have nae:e≠a:=fun z=>by
   obtain⟨o,h1,h2,_⟩:=p.isList
   rw[<-z,show s.heap.get? e=_ from he] at h1
   cases h1
   exact absurd (show Value.type "enumerate"=Value.type "list" from h2) (by decide)
  have D:=Draws.list (prog:=X.prog) (w:=X.w) (A:=X.A.in1) (I.ok.hd hc) it a nai its.toArray
  refine wpAny_pyNext_enum_itemD D he ⟨st,p.isList⟩ (by
   have:=List.getElem?_eq_some_iff.mp hu
   obtain⟨z,_⟩:=this
   simpa using z) hei (by simp [hei,nae]) fun v h' tk hP hout hst hT hsz hk=>?_
  have hv:v=u:=by
   have hP:its.toArray[i]?=some v:=hP
   rw[List.getElem?_toArray,hu] at hP
   exact (Option.some.inj hP).symm
  subst hv
  have nT:H s.heap.objs.size=none:=I.hok.fresh (Nat.le_refl _)
  have lt: ∀b o,s.heap.get? b=some o->b≠s.heap.objs.size:=fun b o q=>Nat.ne_of_lt (Heap.lt_size q)
  have ltH: ∀b o,H b=some o->b≠s.heap.objs.size:=fun b o q z=>by rw[z,nT] at q;cases q
  have neH: ∀b o,H b=some o->b≠e/\b≠it:=fun b o q=>⟨fun z=>by (rw[z,fe.1] at q;cases q),fun z=>by (rw[z,fi.1] at q;cases q)⟩
  have I1:Inv X pins σ (upd H s.heap.objs.size (.tup [.int i,x])) {s with heap:=h',toks:=tk+1}:=by
   refine I.call' (s':={s with heap:=h',toks:=tk+1}) (ch:=[e,it]) rfl ⟨fun b o q n hb hx=>?_,fun b o q n hb hx=>?_,fun b o q n hx=>?_,fun b o q hx=>?_,fun b xs q=>?_,fun b o u q=>?_,fun b ps q=>?_⟩ (fun b o q=>?_) I.bare fun b hb=>?_
   ·exact hk b o (fun z=>hx (by simp [z])) (fun z=>hx (by simp [z])) q
   ·exact⟨o.slots,hk b o (fun z=>hx (by simp [z])) (fun z=>hx (by simp [z])) q⟩
   ·rw[aF (lt b o q)];exact n
   ·exact⟨o,hk b o (fun z=>hx (by simp [z])) (fun z=>hx (by simp [z])) q⟩
   ·rw[aF (ltH b _ q)];exact q
   ·rw[aF (ltH b _ q)];exact q
   ·exact⟨#[],by rw[aF (ltH b _ q),q];simp⟩
   ·by_cases hb:b=s.heap.objs.size
    ·subst hb
     rw[bF] at q
     cases q
     exact⟨by show 2<=sizeLine;decide,_,.cons ⟨tk,rfl⟩ (.cons ru .nil),⟨_,hT,rfl,_,rfl⟩,_,hT,rfl⟩
    ·rw[aF hb] at q
     refine (I.hok b o q).stay (fun c v hc r=>?_) (fun c r=>by rw[aF (ltH c _ r)];exact r) fun c xs r=>by rw[aF (ltH c _ r)];exact r
     have: ∃o,H c=some o:=by
      rcases hc with rfl|hc
      ·exact⟨o,q⟩
      ·exact⟨_,hc⟩
     obtain⟨o',qo⟩:=this
     exact hk c v (neH c o' qo).1 (neH c o' qo).2 r
   ·have fb:FpOk X pins H b:=by
     rcases List.mem_cons.mp hb with rfl|hb
     ·exact fe
     ·have e':b=it:=by simpa using hb
      subst e';exact fi
    exact⟨fb.2.2.2.1,fb.2.1,fb.2.2.2.2.1,fb.2.2.2.2.2⟩
  refine⟨_,rfl,wpAny_letOwnedTupleGo_enum (s:={s with heap:=h',toks:=tk+1}) hout fun h2 he2 hs2=>?_⟩
  have neT: ∀b∈[e,it],b≠s.heap.objs.size:=fun b hb=>by
   rcases List.mem_cons.mp hb with rfl|hb
   ·exact lt _ _ he
   ·have e':b=it:=by simpa using hb
    subst e';exact lt _ _ hoi
  have fe':(upd H s.heap.objs.size (.tup [.int i,x])) e=none:=by rw[aF (neT e (by simp))];exact fe.1
  refine⟨.ref s.heap.objs.size,upd H s.heap.objs.size (.tup [.int i,x]),?_,rfl,⟨s.heap.objs.size,x,nT,rfl,fun ys hy=>by rw[I.list_inj hy hq];exact hx,rfl⟩,⟨⟨_,by simpa using he2⟩,hst.1.at fun o eo=>(hs2.2 it (Ne.symm hei)).trans eo⟩,fun b hb=>?_⟩
  ·exact I1.turned (t':=tk+1) (fun b o hb eo=>(hs2.2 b hb).trans eo) fe' fe.2.1 fe.2.2.2.1 fe.2.2.2.2.1 fe.2.2.2.2.2
  ·rw[aF (neT b hb)]
   exact (hf b hb).1
 done:=by
  intro X hP hw hK hc i pins s σ H E I hf st hg
  subst hP hw hK
  obtain⟨⟨old,he⟩,st⟩:=st
  obtain⟨xs,hq,hx⟩:=hg
  obtain⟨its,rv,p,hz⟩:=I.list hq
  have fi:=hf it (by simp)
  obtain⟨oi,hoi,hoc,hod⟩:=id st
  have nai:a≠it:=fun z=>by
   obtain⟨o,h1,h2,_⟩:=p.isList
   rw[z,hoi] at h1
   cases h1
   rw[hoc] at h2
   exact absurd h2 (by decide)
  have D:=Draws.list (prog:=X.prog) (w:=X.w) (A:=X.A.in1) (I.ok.hd hc) it a nai its.toArray
  have ei:i=its.toArray.size:=by rw[List.size_toArray,<-rv.length];exact hx.symm
  refine wpAny_pyNext_enum_endD D he (by rw[<-ei];exact⟨st,p.isList⟩) fun h' eb=>⟨rfl,I.turned (t':=s.toks) (fun b o hb e=>eb b o hb e) fi.1 fi.2.1 fi.2.2.2.1 fi.2.2.2.2.1 fi.2.2.2.2.2⟩
 self:=fun _ _ _ _ _ st h=>let ⟨_,he⟩:=st.1;wpAny_pyIter_enum he h
section
variable {X:Cx}
def iEnum (K:PySem.W.Frag)(ta:TA):TI:=fun σ H R=>ta σ H fun vs H1=> ∃a,vs=[.ref a]/\(∃xs,SqL K H1 a xs)/\R (Ite K a) H1
theorem vw {a:Expr}{ta:TA}{p pos:Pos}{elts:List Expr}{x1}{tpos:Pos}(hg:Gl X "enumerate")(hm:X.mg "enumerate"=none)(ha:PA X [a] ta)(hs:starEach [a] X.env=[(false,eval a X.env)]:=by rfl):PI X (.Tuple elts x1 tpos) (.Call (.Name "enumerate" p) [a] [] pos) (iEnum X.K ta):=by
 intro pins s σ H R I h
 refine Call_ (gg I hg hm boot_enumerate (PyProof.Rows.callWith_type1 (thn (ha pos pins s σ H _ I h) fun us s1 qz=>?_) hs rfl))
 obtain⟨vs,H1,I1,r1,q1⟩:=qz
 obtain⟨b,e,⟨xs,hq⟩,q⟩:=q1
 subst e
 cases r1 with
 |cons r rr=>
  cases rr
  cases r
  obtain⟨its,rv,pl,hz⟩:=I1.list hq
  refine call_enumerate_list pl.isList fun h' he hi hsz hk=>?_
  refine wpAny_pyIter_enum he ?_
  have I2:Inv X pins σ H1 {s1 with heap:=h'}:=I1.kept (t':=s1.toks) hk
  refine⟨s1.heap.objs.size+1,[s1.heap.objs.size+1,s1.heap.objs.size],_,_,H1,rfl,I2,qu b _ _ (by simp),⟨⟨_,he⟩,hi⟩,fun c hc=>?_,q⟩
  have hc':s1.heap.objs.size<=c:=by
   rcases List.mem_cons.mp hc with rfl|hc
   ·exact Nat.le_succ _
   ·have:c=s1.heap.objs.size:=by simpa using hc
    exact Nat.le_of_eq this.symm
  exact I1.fpOk hc' (I1.hok.fresh hc')
end
end L2
set_option maxHeartbeats 1000000
namespace L2
open PySem PySem.Spec PyProof.Rows PySem.W
section
variable {prog:Program}{w:World}{A:Around}{E:Value->Shared->Prop}{h:Heap}{g:Array GenState}{d:Drawn}{t:Nat}{os:OsState}{a C:Addr}{o:Obj}{K:PySem.W.Frag}
end
section
variable {X:Cx}
end
end L2
set_option maxHeartbeats 1000000
namespace L2
open PySem PySem.Spec PyProof.Rows PySem.W
section
variable {X:Cx}{pins:List (Addr×Obj)}{σ:St}{H:Hp}{s:Shared}
end
section
variable {X:Cx}{x n:Str}{C:Value}{body suite:List Stmt}{b0:Stmt}{np hpos pos:Pos}{tb:(St->XK)->TS}{ts:TS}{i:Nat}
end
end L2
set_option maxHeartbeats 1000000
namespace L2
open PySem PySem.Spec PyProof.Rows
section
variable {X:Cx}
end
section
variable {X:Cx}
end
end L2
namespace L2
open PySem
end L2
set_option maxHeartbeats 1000000
namespace L2
open PySem PySem.Spec PyProof.Rows
open Sem (wp)
open Builtin
section
variable {prog:Program}{w:World}{A:Around}{E:Value->Shared->Prop}{s:Shared}
theorem rW {j t:Addr}{i:Nat}{its:Array Value}{x:Value}{Q:Value->Shared->Prop}(g:s.heap.IsTupleIter j t i)(gt:s.heap.IsTuple t its)(hx:its[i]?=some x)(k:∀h',h'.IsTupleIter j t (i+1)->Heap.SameBut j s.heap h'->Q x {s with heap:=h'}):wpAny (model prog w) A (SmallTypes.nextOf (.ref j)) Q E s:=by
 obtain⟨o,q1,q2,q3⟩:=id g
 obtain⟨u,z1,_,n,z2⟩:=gt
 unfold SmallTypes.nextOf
 refine wpAny_bind (wpAny_callSpecial?_slot (name:=Str.ofString "__next__") g.typeIs F.slot_tuple_iterator_next (wpAny_call_entry F.slot_tuple_iterator_next g.typeIs F.entry_tuple_iterator_next ?_ (F.args_tuple_iterator_next_1 _)))
 show wpAny _ _ (field (.ref j) 0>>=_) _ _ s
 refine wpAny_bind (wpAny_field q1 q3 (x:=.ref t) rfl ?_)
 show wpAny _ _ (if (Value.ref t==Value.none)=true then _ else _) _ _ s;rw[if_neg (show¬((Value.ref t==Value.none)=true) from Bool.false_ne_true)]
 show wpAny _ _ (field (.ref j) 1>>=_) _ _ s
 refine wpAny_bind (wpAny_field q1 q3 (x:=.int i 0) rfl ?_)
 show wpAny _ _ (seqItems? (.ref t)>>=_) _ _ s;refine wpAny_bind (wpAny_seqItems z1 z2 ?_)
 simp only[Int.toNat_natCast,hx]
 refine wpAny_bind (wpAny_setField q1 q3 (by simp) (wpAny_pure ⟨x,rfl,wpAny_pure (k _ ?_ (Heap.SameBut.update ..))⟩))
 exact⟨_,Heap.get?_update_self _ q1 (Obj.isFreed_of_fields (Obj.data_mapFields q3 _)),(Obj.cls_mapFields ..).trans q2,by rw[Obj.data_mapFields q3];simp [rawInt]⟩
theorem rX {j t:Addr}{i:Nat}{its:Array Value}{Q:Value->Shared->Prop}(hh:A.handled=none)(g:s.heap.IsTupleIter j t i)(gt:s.heap.IsTuple t its)(hx:its[i]?=none)(k:∀h' e,Heap.ExtBut j s.heap h'->(∃o,h'.get? e=some o/\o.cls=.type "StopIteration")->E (.ref e) {s with heap:=h'}):wpAny (model prog w) A (SmallTypes.nextOf (.ref j)) Q E s:=by
 obtain⟨o,q1,q2,q3⟩:=id g
 obtain⟨u,z1,_,n,z2⟩:=gt
 unfold SmallTypes.nextOf
 refine wpAny_bind (wpAny_callSpecial?_slot (name:=Str.ofString "__next__") g.typeIs F.slot_tuple_iterator_next (wpAny_call_entry F.slot_tuple_iterator_next g.typeIs F.entry_tuple_iterator_next ?_ (F.args_tuple_iterator_next_1 _)))
 show wpAny _ _ (field (.ref j) 0>>=_) _ _ s
 refine wpAny_bind (wpAny_field q1 q3 (x:=.ref t) rfl ?_)
 show wpAny _ _ (if (Value.ref t==Value.none)=true then _ else _) _ _ s;rw[if_neg (show¬((Value.ref t==Value.none)=true) from Bool.false_ne_true)]
 show wpAny _ _ (field (.ref j) 1>>=_) _ _ s
 refine wpAny_bind (wpAny_field q1 q3 (x:=.int i 0) rfl ?_)
 show wpAny _ _ (seqItems? (.ref t)>>=_) _ _ s;refine wpAny_bind (wpAny_seqItems z1 z2 ?_)
 simp only[Int.toNat_natCast,hx]
 refine wpAny_bind (wpAny_rule (wpAny_bind (wpAny_setField q1 q3 (by simp) ?_)))
 show wpAny _ _ (newExc (.type "StopIteration") []>>=_) _ _ _;refine wpAny_bind ?_
 simp only[newExc,newTuple];refine wpAny_bind (wpAny_newObj_type ?_ (by size_fits))
 refine wpAny_bind (m:=firstArgMember _ _) (wpAny_of_eq (a:=Value.none) (by first|rfl|(simp only[firstArgMember];rfl)) (wpAny_newObj_type ?_ (by size_fits)))
 simp only[raiseNew];refine wpAny_bind (wpAny_handled ?_)
 first|rw[show A.in1.handled=none from hh]|rw[hh]
 exact wpAny_bind (wpAny_pure (wpAny_throw (k _ _ (((Heap.SameBut.update ..).extBut.push _).push _) ⟨_,Heap.get?_push_size _ rfl,rfl⟩)))
end
theorem g7 {prog:Program}{w:World}{A:Around}(hh:A.handled=none)(j t:Addr)(hne:t≠j)(its:Array Value):Draws prog w A j [j,t] its.size (fun i v=>its[i]?=some v) (fun i h=>h.IsTupleIter j t i/\h.IsTuple t its) where
 live:=fun _ _ st=>let ⟨o,q,_⟩:=st.1;⟨o,q⟩
 frame:=fun _ _ _ st k=>⟨let ⟨o,q,r⟩:=st.1;⟨o,k j (by simp) o q,r⟩,let ⟨o,q,r⟩:=st.2;⟨o,k t (by simp) o q,r⟩⟩
 item:=fun i s Q E hi st k=>rW st.1 st.2 (x:=its[i]) (by simp [hi]) fun h' a b=>k _ h' s.toks (by simp [hi]) ⟨a,st.2.extBut b.extBut hne⟩ b
 done:=fun s Q E st k=>rX hh st.1 st.2 (by simp) k
theorem tupOf {h:Heap}{a:Addr}{its:Array Value}(p:IsTup h a its):h.IsTuple a its:=p
set_option maxRecDepth 100000 in
theorem nZ (l:Addr)(its:Array Value)(n:Nat)(dct:Option Addr)(sl:Array (Option Value)):
  Meets (Builtin.«enumerate.__new__» ⟨[.type "enumerate",.ref l],[]⟩) (fun _ R s=>s.heap.get? l=some {cls:=.type "tuple",dict:=dct,data:=.seq its n,slots:=sl}/\
   R (.ok (.ret (.ref (s.heap.push {cls:=.type "tuple_iterator",data:=.fields #[.ref l,.int 0 0]}).objs.size))) {s with heap:=(s.heap.push {cls:=.type "tuple_iterator",data:=.fields #[.ref l,.int 0 0]}).push {cls:=.type "enumerate",data:=.fields #[.none,.bool false,.ref s.heap.objs.size,rawInt 0,.none,.none]}}):=
 .of_wp fun prog w A R s h=>by
  obtain⟨hp,g,d,tk,os⟩:=s;obtain⟨hl,h⟩:=h
  have hsub:=sub_enumerate
  have hT:Heap.IsTuple (Shared.heap ⟨hp,g,d,tk,os⟩) l its:=⟨_,hl,rfl,n,rfl⟩
  wp_walk using AutoSeq1.wpAny_loadPart' hl
  refine wpAny_stack_any fun st=>wpAny_pure ?_
  split
  ·rename_i c _ _ _ _ _
   cases (c==Value.type "enumerate")<;>(wp_walk using AutoSeq1.wpAny_loadPart' hl,wpAny_pyIter_tuple hT;exact⟨_,rfl,h⟩)
  ·wp_walk using AutoSeq1.wpAny_loadPart' hl,wpAny_pyIter_tuple hT
   exact⟨_,rfl,h⟩
section
variable {prog:Program}{w:World}{A:Around}{E:Value->Shared->Prop}{s:Shared}
theorem pi {l:Addr}{its:Array Value}{Q:Value->Shared->Prop}(hT:s.heap.IsTuple l its)
  (k:∀h',IsEnum h' (s.heap.objs.size+1) s.heap.objs.size 0 .none->h'.IsTupleIter s.heap.objs.size l 0->h'.objs.size=s.heap.objs.size+2->(∀b o,s.heap.get? b=some o->h'.get? b=some o)->Q (.ref (s.heap.objs.size+1)) {s with heap:=h'}):
  wpAny (model prog w) A (call (.type "enumerate") [.ref l]) Q E s:=by
 obtain⟨⟨c,dct,dt,sl⟩,hl,hc,n,hd⟩:=hT
 replace hc:c=.type "tuple":=hc
 replace hd:dt=.seq its n:=hd
 subst hc hd
 refine callType_new F.called_enumerate (by decide) (F.typeCall_enumerate_1 _) (F.newCall_enumerate_1 _) (fun obj=>F.args_object_init_2 obj _) F.entry_enumerate_new (nZ l its n dct sl) ⟨hl,?_⟩
 have hz:(s.heap.push {cls:=.type "tuple_iterator",data:=.fields #[.ref l,.int 0 0]}).objs.size=s.heap.objs.size+1:=Heap.size_push ..
 show _/\_
 rw[hz]
 have he:IsEnum ((s.heap.push {cls:=.type "tuple_iterator",data:=.fields #[.ref l,.int 0 0]}).push {cls:=.type "enumerate",data:=.fields #[.none,.bool false,.ref s.heap.objs.size,rawInt 0,.none,.none]}) (s.heap.objs.size+1) s.heap.objs.size 0 .none:=by
  have z:=Heap.get?_push_size (s.heap.push {cls:=.type "tuple_iterator",data:=.fields #[.ref l,.int 0 0]}) (o:={cls:=.type "enumerate",data:=.fields #[.none,.bool false,.ref s.heap.objs.size,rawInt 0,.none,.none]}) rfl
  rw[hz] at z;exact z
 refine⟨⟨_,he,rfl⟩,k _ he ⟨_,Heap.get?_push_of_some _ (Heap.get?_push_size _ rfl),rfl,rfl⟩ (by rw[Heap.size_push,hz]) fun b o x=>Heap.get?_push_of_some _ (Heap.get?_push_of_some _ x)⟩
end
def IteT (K:PySem.W.Frag)(a:Addr):It:=
 ⟨fun i H=> ∃xs x,SqT K H a xs/\xs[i]?=some x,fun i H v H'=> ∃T x,H T=none/\v=.ref T/\(∀xs,SqT K H a xs->xs[i]?=some x)/\H'=upd H T (.tup [.int i,x]),fun i H=> ∃xs,SqT K H a xs/\xs.length=i⟩
theorem oH {P:Program}{w:World}{K:PySem.W.Frag}{elts:List Expr}{x1}{tpos:Pos}(a e it:Addr)(hei:e≠it):Turn P w K (.Tuple elts x1 tpos) (IteT K a) [e,it] e (fun i h=>(∃old,IsEnum h e it i old)/\h.IsTupleIter it a i) where
 mem:=by simp
 obj:=fun i h st b hb=>by
  obtain⟨⟨old,he⟩,st⟩:=st
  rcases List.mem_cons.mp hb with rfl|hb
  ·exact⟨_,he,fun v z=>by cases z⟩
  ·have e':b=it:=by simpa using hb
   subst e'
   obtain⟨o,e,c,d⟩:=st
   exact⟨o,e,fun v z=>by rw[d] at z;cases z⟩
 keep:=fun i h h' st k=>⟨let ⟨old,he⟩:=st.1;⟨old,k e (by simp) _ he⟩,st.2.at fun o e=>k it (by simp) o e⟩
 item:=by
  intro X hP hw hK hc i pins s σ H E I hf st hg
  subst hP hw hK
  obtain⟨⟨old,he⟩,st⟩:=st
  obtain⟨xs,x,hq,hx⟩:=hg
  obtain⟨its,rv,p,hz⟩:=I.tuple hq
  obtain⟨u,hu,ru⟩:=rv.get hx
  have fe:=hf e (by simp)
  have fi:=hf it (by simp)
  obtain⟨oi,hoi,hoc,hod⟩:=id st
  have nai:a≠it:=fun z=>by
   obtain⟨o,h1,h2,_⟩:=(tupOf p)
   rw[z,hoi] at h1
   cases h1
   rw[hoc] at h2
   exact absurd h2 (by decide)
  have nae:e≠a:=fun z=>by
   obtain⟨o,h1,h2,_⟩:=(tupOf p)
   rw[<-z,show s.heap.get? e=_ from he] at h1
   cases h1
   exact absurd (show Value.type "enumerate"=Value.type "tuple" from h2) (by decide)
  have D:=g7 (prog:=X.prog) (w:=X.w) (A:=X.A.in1) (I.ok.hd hc) it a nai its.toArray
  refine wpAny_pyNext_enum_itemD D he ⟨st,(tupOf p)⟩ (by
   have:=List.getElem?_eq_some_iff.mp hu
   obtain⟨z,_⟩:=this
   simpa using z) hei (by simp [hei,nae]) fun v h' tk hP hout hst hT hsz hk=>?_
  have hv:v=u:=by
   have hP:its.toArray[i]?=some v:=hP
   rw[List.getElem?_toArray,hu] at hP
   exact (Option.some.inj hP).symm
  subst hv
  have nT:H s.heap.objs.size=none:=I.hok.fresh (Nat.le_refl _)
  have lt: ∀b o,s.heap.get? b=some o->b≠s.heap.objs.size:=fun b o q=>Nat.ne_of_lt (Heap.lt_size q)
  have ltH: ∀b o,H b=some o->b≠s.heap.objs.size:=fun b o q z=>by rw[z,nT] at q;cases q
  have neH: ∀b o,H b=some o->b≠e/\b≠it:=fun b o q=>⟨fun z=>by (rw[z,fe.1] at q;cases q),fun z=>by (rw[z,fi.1] at q;cases q)⟩
  have I1:Inv X pins σ (upd H s.heap.objs.size (.tup [.int i,x])) {s with heap:=h',toks:=tk+1}:=by
   refine I.call' (s':={s with heap:=h',toks:=tk+1}) (ch:=[e,it]) rfl ⟨fun b o q n hb hx=>?_,fun b o q n hb hx=>?_,fun b o q n hx=>?_,fun b o q hx=>?_,fun b xs q=>?_,fun b o u q=>?_,fun b ps q=>?_⟩ (fun b o q=>?_) I.bare fun b hb=>?_
   ·exact hk b o (fun z=>hx (by simp [z])) (fun z=>hx (by simp [z])) q
   ·exact⟨o.slots,hk b o (fun z=>hx (by simp [z])) (fun z=>hx (by simp [z])) q⟩
   ·rw[aF (lt b o q)];exact n
   ·exact⟨o,hk b o (fun z=>hx (by simp [z])) (fun z=>hx (by simp [z])) q⟩
   ·rw[aF (ltH b _ q)];exact q
   ·rw[aF (ltH b _ q)];exact q
   ·exact⟨#[],by rw[aF (ltH b _ q),q];simp⟩
   ·by_cases hb:b=s.heap.objs.size
    ·subst hb
     rw[bF] at q
     cases q
     exact⟨by show 2<=sizeLine;decide,_,.cons ⟨tk,rfl⟩ (.cons ru .nil),⟨_,hT,rfl,_,rfl⟩,_,hT,rfl⟩
    ·rw[aF hb] at q
     refine (I.hok b o q).stay (fun c v hc r=>?_) (fun c r=>by rw[aF (ltH c _ r)];exact r) fun c xs r=>by rw[aF (ltH c _ r)];exact r
     have: ∃o,H c=some o:=by
      rcases hc with rfl|hc
      ·exact⟨o,q⟩
      ·exact⟨_,hc⟩
     obtain⟨o',qo⟩:=this
     exact hk c v (neH c o' qo).1 (neH c o' qo).2 r
   ·have fb:FpOk X pins H b:=by
     rcases List.mem_cons.mp hb with rfl|hb
     ·exact fe
     ·have e':b=it:=by simpa using hb
      subst e';exact fi
    exact⟨fb.2.2.2.1,fb.2.1,fb.2.2.2.2.1,fb.2.2.2.2.2⟩
  refine⟨_,rfl,wpAny_letOwnedTupleGo_enum (s:={s with heap:=h',toks:=tk+1}) hout fun h2 he2 hs2=>?_⟩
  have neT: ∀b∈[e,it],b≠s.heap.objs.size:=fun b hb=>by
   rcases List.mem_cons.mp hb with rfl|hb
   ·exact lt _ _ he
   ·have e':b=it:=by simpa using hb
    subst e';exact lt _ _ hoi
  have fe':(upd H s.heap.objs.size (.tup [.int i,x])) e=none:=by rw[aF (neT e (by simp))];exact fe.1
  refine⟨.ref s.heap.objs.size,upd H s.heap.objs.size (.tup [.int i,x]),?_,rfl,⟨s.heap.objs.size,x,nT,rfl,fun ys hy=>by rw[I.tuple_inj hy hq];exact hx,rfl⟩,⟨⟨_,by simpa using he2⟩,hst.1.at fun o eo=>(hs2.2 it (Ne.symm hei)).trans eo⟩,fun b hb=>?_⟩
  ·exact I1.turned (t':=tk+1) (fun b o hb eo=>(hs2.2 b hb).trans eo) fe' fe.2.1 fe.2.2.2.1 fe.2.2.2.2.1 fe.2.2.2.2.2
  ·rw[aF (neT b hb)]
   exact (hf b hb).1
 done:=by
  intro X hP hw hK hc i pins s σ H E I hf st hg
  subst hP hw hK
  obtain⟨⟨old,he⟩,st⟩:=st
  obtain⟨xs,hq,hx⟩:=hg
  obtain⟨its,rv,p,hz⟩:=I.tuple hq
  have fi:=hf it (by simp)
  obtain⟨oi,hoi,hoc,hod⟩:=id st
  have nai:a≠it:=fun z=>by
   obtain⟨o,h1,h2,_⟩:=(tupOf p)
   rw[z,hoi] at h1
   cases h1
   rw[hoc] at h2
   exact absurd h2 (by decide)
  have D:=g7 (prog:=X.prog) (w:=X.w) (A:=X.A.in1) (I.ok.hd hc) it a nai its.toArray
  have ei:i=its.toArray.size:=by rw[List.size_toArray,<-rv.length];exact hx.symm
  refine wpAny_pyNext_enum_endD D he (by rw[<-ei];exact⟨st,(tupOf p)⟩) fun h' eb=>⟨rfl,I.turned (t':=s.toks) (fun b o hb e=>eb b o hb e) fi.1 fi.2.1 fi.2.2.2.1 fi.2.2.2.2.1 fi.2.2.2.2.2⟩
 self:=fun _ _ _ _ _ st h=>let ⟨_,he⟩:=st.1;wpAny_pyIter_enum he h
section
variable {X:Cx}
def yI (K:PySem.W.Frag)(ta:TA):TI:=fun σ H R=>ta σ H fun vs H1=> ∃a,vs=[.ref a]/\(∃xs,SqT K H1 a xs)/\R (IteT K a) H1
theorem sQ {a:Expr}{ta:TA}{p pos:Pos}{elts:List Expr}{x1}{tpos:Pos}(hg:Gl X "enumerate")(hm:X.mg "enumerate"=none)(ha:PA X [a] ta)(hs:starEach [a] X.env=[(false,eval a X.env)]:=by rfl):PI X (.Tuple elts x1 tpos) (.Call (.Name "enumerate" p) [a] [] pos) (yI X.K ta):=by
 intro pins s σ H R I h
 refine Call_ (gg I hg hm boot_enumerate (PyProof.Rows.callWith_type1 (thn (ha pos pins s σ H _ I h) fun us s1 qz=>?_) hs rfl))
 obtain⟨vs,H1,I1,r1,q1⟩:=qz
 obtain⟨b,e,⟨xs,hq⟩,q⟩:=q1
 subst e
 cases r1 with
 |cons r rr=>
  cases rr
  cases r
  obtain⟨its,rv,pl,hz⟩:=I1.tuple hq
  refine pi (tupOf pl) fun h' he hi hsz hk=>?_
  refine wpAny_pyIter_enum he ?_
  have I2:Inv X pins σ H1 {s1 with heap:=h'}:=I1.kept (t':=s1.toks) hk
  refine⟨s1.heap.objs.size+1,[s1.heap.objs.size+1,s1.heap.objs.size],_,_,H1,rfl,I2,oH b _ _ (by simp),⟨⟨_,he⟩,hi⟩,fun c hc=>?_,q⟩
  have hc':s1.heap.objs.size<=c:=by
   rcases List.mem_cons.mp hc with rfl|hc
   ·exact Nat.le_succ _
   ·have:c=s1.heap.objs.size:=by simpa using hc
    exact Nat.le_of_eq this.symm
  exact I1.fpOk hc' (I1.hok.fresh hc')
def rFind:V->List V->Hp->VK->Prop:=fun x vs H Q=> ∃ (a b:Str),x=.str a/\vs=[.str b]/\Q (.int (Txt.find a b)) H
theorem vU:MtM X "str.find" rFind:=by
 intro pins s σ H x vs v us Q I rx rv h
 obtain⟨a,b,rfl,rfl,q⟩:=h
 obtain⟨t,rfl⟩:=rx
 obtain⟨u,rfl,ru⟩:=rv.one
 obtain⟨tb,rfl⟩:=ru
 exact call_gives F.slot_str_find (typeIs_str _ _ _) F.entry_str_find (F.args_str_find_2 _ _) (gives_str_find a b t tb) ⟨.int (Txt.find a b),H,I.tok _,⟨_,rfl⟩,q⟩
end
end L2
set_option maxHeartbeats 2000000
namespace L2
open PySem PySem.Spec PyProof.Rows
open Sem (wp)
open Builtin
noncomputable def ItAt (h:Heap)(T:String)(j l:Addr)(i:Nat):Prop:= ∃o,h.get? j=some o/\o.cls=.type T/\o.data=.fields #[.ref l,.int i 0]
noncomputable def SeqAt (h:Heap)(T:String)(l:Addr)(its:Array Value):Prop:=(T= "list_iterator"/\h.IsList l its)\/(T= "tuple_iterator"/\h.IsTuple l its)
theorem SeqAt.keep {h h':Heap}{T:String}{l:Addr}{its:Array Value}(x:SeqAt h T l its)(k:∀o,h.get? l=some o->h'.get? l=some o):SeqAt h' T l its:=
 x.imp (fun⟨e,o,a,b⟩=>⟨e,o,k o a,b⟩) fun⟨e,o,a,b⟩=>⟨e,o,k o a,b⟩
theorem ItAt.keep {h h':Heap}{T:String}{j l:Addr}{i:Nat}(x:ItAt h T j l i)(k:∀o,h.get? j=some o->h'.get? j=some o):ItAt h' T j l i:=let ⟨o,a,b⟩:=x;⟨o,k o a,b⟩
theorem fT {prog:Program}{w:World}{A:Around}(hh:A.handled=none)(T:String)(j l:Addr)(hne:l≠j)(its:Array Value):Draws prog w A j [j,l] its.size (fun i v=>its[i]?=some v) (fun i h=>ItAt h T j l i/\SeqAt h T l its) where
 live:=fun _ _ st=>let ⟨o,q,_⟩:=st.1;⟨o,q⟩
 frame:=fun _ _ _ st k=>⟨st.1.keep fun o q=>k j (by simp) o q,st.2.keep fun o q=>k l (by simp) o q⟩
 item:=fun i s Q E hi st k=>by
  obtain⟨a,⟨rfl,b⟩|⟨rfl,b⟩⟩:=st
  ·exact (Draws.list (prog:=prog) (w:=w) hh j l hne its).item i s Q E hi ⟨a,b⟩ fun x h' tk p st sb=>k x h' tk p ⟨st.1,.inl ⟨rfl,st.2⟩⟩ sb
  ·exact (g7 (prog:=prog) (w:=w) hh j l hne its).item i s Q E hi ⟨a,b⟩ fun x h' tk p st sb=>k x h' tk p ⟨st.1,.inr ⟨rfl,st.2⟩⟩ sb
 done:=fun s Q E st k=>by
  obtain⟨a,⟨rfl,b⟩|⟨rfl,b⟩⟩:=st
  ·exact (Draws.list (prog:=prog) (w:=w) hh j l hne its).done s Q E ⟨a,b⟩ k
  ·exact (g7 (prog:=prog) (w:=w) hh j l hne its).done s Q E ⟨a,b⟩ k
section
variable {prog:Program}{w:World}{A:Around}{E:Value->Shared->Prop}{s:Shared}
theorem oq {l:Addr}{T:String}{its:Array Value}{Q:Value->Shared->Prop}(hl:SeqAt s.heap T l its)(k:Q (.ref s.heap.objs.size) {s with heap:=s.heap.push {cls:=.type T,data:=.fields #[.ref l,.int 0 0]}}):wpAny (model prog w) A (pyIter (.ref l)) Q E s:=by
 obtain⟨rfl,hl⟩|⟨rfl,hl⟩:=hl
 ·exact wpAny_pyIter_list hl k
 ·exact wpAny_pyIter_tuple hl k
structure ZA (z TI TO i1 i2 l1 l2:Addr):Prop where
 a1:TI≠z
 a2:TO≠z
 a3:i1≠z
 a4:i2≠z
 a5:TI≠TO
 a6:TI≠i1
 a7:TI≠i2
 a8:TO≠i1
 a9:TO≠i2
 b1:i1≠i2
 b2:l1≠z
 b3:l1≠TO
 b4:l1≠i1
 b5:l1≠i2
 b6:l2≠z
 b7:l2≠TO
 b8:l2≠i1
 b9:l2≠i2
structure ZS (h:Heap)(z TI TO i1 i2 l1 l2:Addr)(T1 T2:String)(xs ys:Array Value)(n:Nat)(f0:Value):Prop where
 z:IsZip h z TI TO f0
 ti:IsPair h TI (.ref i1) (.ref i2)
 to: ∃a b,IsPair h TO a b
 u1:ItAt h T1 i1 l1 n
 u2:ItAt h T2 i2 l2 n
 s1:SeqAt h T1 l1 xs
 s2:SeqAt h T2 l2 ys
theorem rO {z TI TO i1 i2 l1 l2:Addr}{T1 T2:String}{n:Nat}{xs ys:Array Value}{x y:Value}{Q:Value->Shared->Prop}(hh:A.handled=none)(D:ZA z TI TO i1 i2 l1 l2)(Z:ZS s.heap z TI TO i1 i2 l1 l2 T1 T2 xs ys n .none)(hx:xs[n]?=some x)(hy:ys[n]?=some y)
  (k:∀h' tk,ZS h' z TI TO i1 i2 l1 l2 T1 T2 xs ys (n+1) (rawInt s.heap.objs.size)->IsPair h' s.heap.objs.size x y->h'.objs.size=s.heap.objs.size+1->(∀c o,c≠z->c≠TO->c≠i1->c≠i2->s.heap.get? c=some o->h'.get? c=some o)->Q (.ref s.heap.objs.size) {s with heap:=h',toks:=tk}):
  wpAny (model prog w) A (Builtin.«zip.__next__» ⟨[.ref z],[]⟩) (fun fin s'=> ∃v,fin=.done (.ret v)/\Q v s') E s:=by
 obtain⟨hz,hti,⟨a,b,hto⟩,u1,u2,s1,s2⟩:=Z
 have nx:n<xs.size:=(Array.getElem?_eq_some_iff.mp hx).1
 have ny:n<ys.size:=(Array.getElem?_eq_some_iff.mp hy).1
 show wpAny _ _ (field (.ref z) 2>>=_) _ _ s;refine wpAny_bind (wpAny_field hz rfl (x:=.bool false) rfl ?_)
 show wpAny _ _ (field (.ref z) 3>>=_) _ _ s;refine wpAny_bind (wpAny_field hz rfl (x:=.ref TI) rfl (wpAny_bind (wpAny_seqItems hti rfl ?_)))
 show wpAny _ _ (SmallTypes.ownedTupleIsFree (.ref z)>>=_) _ _ s
 refine wpAny_bind ?_;unfold SmallTypes.ownedTupleIsFree
 refine wpAny_bind (wpAny_field hz rfl (x:=.none) rfl (wpAny_pure ?_));simp only[if_true]
 refine wpAny_bind (wpAny_rule (wpAny_bind (wpAny_field hz rfl (x:=.ref TO) rfl (wpAny_bind (wpAny_setField_rec hz (by simp) fun h1 z1 e1=>?_)))))
 replace z1:IsZip h1 z TI TO .ellipsis:=z1
 refine wpAny_bind ?_;simp only[List.zipIdx_cons,List.zipIdx_nil,List.forIn_cons,List.forIn_nil]
 refine wpAny_bind (wpAny_bind (wpAny_onRaise ?_));show wpAny _ _ (SmallTypes.nextOf (.ref i1)>>=_) _ _ _
 refine wpAny_bind ((fT (prog:=prog) (w:=w) hh T1 i1 l1 D.b4 xs).item n _ _ _ nx ⟨u1.keep fun o q=>e1.extBut _ _ D.a3 q,s1.keep fun o q=>e1.extBut _ _ D.b2 q⟩ fun x' h2 tk2 px st2 e2=>wpAny_pure ?_)
 have:x'=x:=Option.some.inj (px.symm.trans hx)
 subst this
 have to2:IsPair h2 TO a b:=e2.extBut _ _ D.a8 (e1.extBut _ _ D.a2 hto)
 refine wpAny_bind (wpAny_seqItems to2 rfl (wpAny_bind (wpAny_updateSeq_pair to2 fun h3 to3 e3=>?_)))
 replace to3:IsPair h3 TO x' b:=to3
 refine wpAny_bind (wpAny_letGo (wpAny_pure (wpAny_bind (wpAny_bind (wpAny_onRaise ?_)))));show wpAny _ _ (SmallTypes.nextOf (.ref i2)>>=_) _ _ _
 refine wpAny_bind ((fT (prog:=prog) (w:=w) hh T2 i2 l2 D.b9 ys).item n _ _ _ ny ⟨u2.keep fun o q=>e3.extBut _ _ (Ne.symm D.a9) (e2.extBut _ _ (Ne.symm D.b1) (e1.extBut _ _ D.a4 q)),s2.keep fun o q=>e3.extBut _ _ D.b7 (e2.extBut _ _ D.b8 (e1.extBut _ _ D.b6 q))⟩ fun y' h4 tk4 py st4 e4=>wpAny_pure ?_)
 have:y'=y:=Option.some.inj (py.symm.trans hy)
 subst this
 have to4:IsPair h4 TO x' b:=e4.extBut _ _ D.a9 to3
 refine wpAny_bind (wpAny_seqItems to4 rfl (wpAny_bind (wpAny_updateSeq_pair to4 fun h5 to5 e5=>?_)))
 replace to5:IsPair h5 TO x' y':=to5
 refine wpAny_bind (wpAny_letGo (wpAny_pure (wpAny_pure ?_)));refine wpAny_bind (wpAny_seqItems to5 rfl (wpAny_bind (wpAny_newTuple ?_)))
 have zs:h5.objs.size=s.heap.objs.size:=by rw[e5.1,e4.1,e3.1,e2.1,e1.1]
 have z5:IsZip h5 z TI TO .ellipsis:=e5.extBut _ _ (Ne.symm D.a2) (e4.extBut _ _ (Ne.symm D.a4) (e3.extBut _ _ (Ne.symm D.a2) (e2.extBut _ _ (Ne.symm D.a3) z1)))
 have k5: ∀c o,c≠z->c≠TO->c≠i1->c≠i2->s.heap.get? c=some o->h5.get? c=some o:=fun c o c1 c2 c3 c4 e=>e5.extBut _ _ c2 (e4.extBut _ _ c4 (e3.extBut _ _ c2 (e2.extBut _ _ c3 (e1.extBut _ _ c1 e))))
 have zl:z<h5.objs.size:=Heap.lt_size z5
 show wpAny _ _ (SmallTypes.ownedTupleHandOut (.ref z) (.ref h5.objs.size)>>=_) _ _ _
 refine wpAny_bind ?_;unfold SmallTypes.ownedTupleHandOut
 have z6:IsZip (h5.push {cls:=.type "tuple",data:=.seq #[x',y']}) z TI TO .ellipsis:=Heap.get?_push_of_some _ z5
 refine wpAny_bind (wpAny_setField_rec z6 (by simp) fun h7 z7 e7=>?_)
 replace z7:IsZip h7 z TI TO (rawInt h5.objs.size):=z7
 refine wpAny_setField_rec z7 (by simp) fun h8 z8 e8=>?_
 replace z8:IsZip h8 z TI TO (rawInt h5.objs.size):=z8
 have up: ∀c o,c≠z->h5.get? c=some o->h8.get? c=some o:=fun c o c1 e=>e8.extBut _ _ c1 (e7.extBut _ _ c1 (Heap.get?_push_of_some _ e))
 have pr8:IsPair h8 h5.objs.size x' y':=e8.extBut _ _ (Nat.ne_of_gt zl) (e7.extBut _ _ (Nat.ne_of_gt zl) (Heap.get?_push_size _ rfl))
 have sz8:h8.objs.size=h5.objs.size+1:=by rw[e8.1,e7.1,Heap.size_push]
 rw[zs] at z8 pr8 sz8
 refine wpAny_pure ⟨_,rfl,?_⟩
 show Q (.ref h5.objs.size) _
 rw[zs]
 refine k h8 _ ⟨z8,up _ _ D.a1 (k5 _ _ D.a1 D.a5 D.a6 D.a7 hti),⟨_,_,up _ _ D.a2 to5⟩,?_,?_,s1.keep fun o q=>up _ _ D.b2 (k5 _ _ D.b2 D.b3 D.b4 D.b5 q),s2.keep fun o q=>up _ _ D.b6 (k5 _ _ D.b6 D.b7 D.b8 D.b9 q)⟩ pr8 sz8 fun c o c1 c2 c3 c4 e=>up c o c1 (k5 c o c1 c2 c3 c4 e)
 ·exact st2.1.keep fun o q=>up _ _ D.a3 (e5.extBut _ _ (Ne.symm D.a8) (e4.extBut _ _ D.b1 (e3.extBut _ _ (Ne.symm D.a8) q)))
 ·exact st4.1.keep fun o q=>up _ _ D.a4 (e5.extBut _ _ (Ne.symm D.a9) q)
theorem uT {z TI TO i1 i2 l1 l2:Addr}{T1 T2:String}{n:Nat}{xs ys:Array Value}{Q:Fin->Shared->Prop}(hh:A.handled=none)(D:ZA z TI TO i1 i2 l1 l2)(Z:ZS s.heap z TI TO i1 i2 l1 l2 T1 T2 xs ys n .none)(he:(n=xs.size/\n<=ys.size)\/(n<xs.size/\n=ys.size))
  (k:∀h' tk e,(∀c o,c≠z->c≠TO->c≠i1->c≠i2->s.heap.get? c=some o->h'.get? c=some o)->(∃o,h'.get? e=some o/\o.cls=.type "StopIteration")->E (.ref e) {s with heap:=h',toks:=tk}):
  wpAny (model prog w) A (Builtin.«zip.__next__» ⟨[.ref z],[]⟩) Q E s:=by
 obtain⟨hz,hti,⟨a,b,hto⟩,u1,u2,s1,s2⟩:=Z
 show wpAny _ _ (field (.ref z) 2>>=_) _ _ s;refine wpAny_bind (wpAny_field hz rfl (x:=.bool false) rfl ?_)
 show wpAny _ _ (field (.ref z) 3>>=_) _ _ s;refine wpAny_bind (wpAny_field hz rfl (x:=.ref TI) rfl (wpAny_bind (wpAny_seqItems hti rfl ?_)))
 show wpAny _ _ (SmallTypes.ownedTupleIsFree (.ref z)>>=_) _ _ s
 refine wpAny_bind ?_;unfold SmallTypes.ownedTupleIsFree
 refine wpAny_bind (wpAny_field hz rfl (x:=.none) rfl (wpAny_pure ?_));simp only[if_true]
 refine wpAny_bind (wpAny_rule (wpAny_bind (wpAny_field hz rfl (x:=.ref TO) rfl (wpAny_bind (wpAny_setField_rec hz (by simp) fun h1 z1 e1=>?_)))))
 replace z1:IsZip h1 z TI TO .ellipsis:=z1
 refine wpAny_bind ?_;simp only[List.zipIdx_cons,List.zipIdx_nil,List.forIn_cons,List.forIn_nil]
 refine wpAny_bind (wpAny_bind (wpAny_onRaise ?_));show wpAny _ _ (SmallTypes.nextOf (.ref i1)>>=_) _ _ _
 have st1:ItAt h1 T1 i1 l1 n/\SeqAt h1 T1 l1 xs:=⟨u1.keep fun o q=>e1.extBut _ _ D.a3 q,s1.keep fun o q=>e1.extBut _ _ D.b2 q⟩
 rcases he with⟨rfl,_⟩|⟨nx,hy⟩
 ·refine wpAny_bind ((fT (prog:=prog) (w:=w) hh T1 i1 l1 D.b4 xs).done _ _ _ st1 fun h2 e e2 he=>?_)
  obtain⟨oe,g1,g2⟩:=he
  have z2:IsZip h2 z TI TO .ellipsis:=e2 _ _ (Ne.symm D.a3) z1
  have ez:e≠z:=fun q=>by subst q;rw[z2] at g1;cases g1;simp at g2
  exact wpAny_setField_rec z2 (by simp) fun h3 _ e3=>k h3 _ e (fun c o c1 _ c3 _ q=>e3.extBut _ _ c1 (e2 _ _ c3 (e1.extBut _ _ c1 q))) ⟨oe,e3.extBut _ _ ez g1,g2⟩
 ·refine wpAny_bind ((fT (prog:=prog) (w:=w) hh T1 i1 l1 D.b4 xs).item n _ _ _ nx st1 fun x' h2 tk2 px st2 e2=>wpAny_pure ?_)
  have to2:IsPair h2 TO a b:=e2.extBut _ _ D.a8 (e1.extBut _ _ D.a2 hto)
  refine wpAny_bind (wpAny_seqItems to2 rfl (wpAny_bind (wpAny_updateSeq_pair to2 fun h3 to3 e3=>?_)))
  refine wpAny_bind (wpAny_letGo (wpAny_pure (wpAny_bind (wpAny_bind (wpAny_onRaise ?_)))));show wpAny _ _ (SmallTypes.nextOf (.ref i2)>>=_) _ _ _
  subst hy
  refine wpAny_bind ((fT (prog:=prog) (w:=w) hh T2 i2 l2 D.b9 ys).done _ _ _ ⟨u2.keep fun o q=>e3.extBut _ _ (Ne.symm D.a9) (e2.extBut _ _ (Ne.symm D.b1) (e1.extBut _ _ D.a4 q)),s2.keep fun o q=>e3.extBut _ _ D.b7 (e2.extBut _ _ D.b8 (e1.extBut _ _ D.b6 q))⟩ fun h4 e e4 he=>?_)
  obtain⟨oe,g1,g2⟩:=he
  have z4:IsZip h4 z TI TO .ellipsis:=e4 _ _ (Ne.symm D.a4) (e3.extBut _ _ (Ne.symm D.a2) (e2.extBut _ _ (Ne.symm D.a3) z1))
  have ez:e≠z:=fun q=>by subst q;rw[z4] at g1;cases g1;simp at g2
  exact wpAny_setField_rec z4 (by simp) fun h5 _ e5=>k h5 _ e (fun c o c1 c2 c3 c4 q=>e5.extBut _ _ c1 (e4 _ _ c4 (e3.extBut _ _ c2 (e2.extBut _ _ c3 (e1.extBut _ _ c1 q))))) ⟨oe,e5.extBut _ _ ez g1,g2⟩
theorem tE {z TI TO i1 i2 l1 l2:Addr}{T1 T2:String}{n:Nat}{xs ys:Array Value}{x y:Value}{Q:Option Value->Shared->Prop}(hh:A.in1.handled=none)(D:ZA z TI TO i1 i2 l1 l2)(Z:ZS s.heap z TI TO i1 i2 l1 l2 T1 T2 xs ys n .none)(hx:xs[n]?=some x)(hy:ys[n]?=some y)
  (k:∀h' tk,ZS h' z TI TO i1 i2 l1 l2 T1 T2 xs ys (n+1) (rawInt s.heap.objs.size)->IsPair h' s.heap.objs.size x y->h'.objs.size=s.heap.objs.size+1->(∀c o,c≠z->c≠TO->c≠i1->c≠i2->s.heap.get? c=some o->h'.get? c=some o)->Q (some (.ref s.heap.objs.size)) {s with heap:=h',toks:=tk}):
  wpAny (model prog w) A (pyNext (.ref z)) Q E s:=by
 have hT:s.TypeIs (.ref z) "zip":=⟨_,Z.z,rfl⟩
 unfold pyNext
 exact wpAny_bind (wpAny_attempt (wpAny_callSpecial?_slot (name:=Str.ofString "__next__") hT F.slot_zip_next (wpAny_call_entry F.slot_zip_next hT F.entry_zip_next (rO hh D Z hx hy fun h' tk a1 a2 a3 a4=>wpAny_pure (k h' tk a1 a2 a3 a4)) (F.args_zip_next_1 _))))
theorem wB {z TI TO i1 i2 l1 l2:Addr}{T1 T2:String}{n:Nat}{xs ys:Array Value}{Q:Option Value->Shared->Prop}(hh:A.in1.handled=none)(D:ZA z TI TO i1 i2 l1 l2)(Z:ZS s.heap z TI TO i1 i2 l1 l2 T1 T2 xs ys n .none)(he:(n=xs.size/\n<=ys.size)\/(n<xs.size/\n=ys.size))
  (k:∀h' tk,(∀c o,c≠z->c≠TO->c≠i1->c≠i2->s.heap.get? c=some o->h'.get? c=some o)->Q none {s with heap:=h',toks:=tk}):wpAny (model prog w) A (pyNext (.ref z)) Q E s:=by
 have hT:s.TypeIs (.ref z) "zip":=⟨_,Z.z,rfl⟩
 unfold pyNext
 refine wpAny_bind (wpAny_attempt (wpAny_callSpecial?_slot (name:=Str.ofString "__next__") hT F.slot_zip_next (wpAny_call_entry F.slot_zip_next hT F.entry_zip_next (uT hh D Z he fun h' tk e hk ⟨o,g1,g2⟩=>?_) (F.args_zip_next_1 _))))
 exact wpAny_bind (wpAny_isInstance (T:= "StopIteration") (b:=true) ⟨o,g1,g2⟩ isSubtype_stop (wpAny_pure (k _ _ hk)))
end
noncomputable abbrev zA (h:Heap)(T:String)(l:Addr):Heap:=h.push {cls:=.type T,data:=.fields #[.ref l,.int 0 0]}
theorem o4 (l1 l2:Addr)(T1 T2:String)(xs ys:Array Value):
  Meets (Builtin.«zip.__new__» ⟨[.type "zip",.ref l1,.ref l2],[]⟩) (fun _ R s=>SeqAt s.heap T1 l1 xs/\SeqAt s.heap T2 l2 ys/\
   R (.ok (.ret (.ref ((((zA (zA s.heap T1 l1) T2 l2).push {cls:=.type "tuple",data:=.seq #[.ref s.heap.objs.size,.ref (zA s.heap T1 l1).objs.size]}).push {cls:=.type "tuple",data:=.seq #[.none,.none]}).objs.size))))
     {s with heap:=(((zA (zA s.heap T1 l1) T2 l2).push {cls:=.type "tuple",data:=.seq #[.ref s.heap.objs.size,.ref (zA s.heap T1 l1).objs.size]}).push {cls:=.type "tuple",data:=.seq #[.none,.none]}).push {cls:=.type "zip",data:=.fields #[.none,.bool false,.bool false,.ref (zA (zA s.heap T1 l1) T2 l2).objs.size,.ref ((zA (zA s.heap T1 l1) T2 l2).push {cls:=.type "tuple",data:=.seq #[.ref s.heap.objs.size,.ref (zA s.heap T1 l1).objs.size]}).objs.size]}}):=
 .of_wp fun prog w A R s h=>by
  obtain⟨hp,g,d,tk,os⟩:=s;obtain⟨q1,q2,h⟩:=h
  have hsub:=sub_zip
  have r1:SeqAt (Shared.heap ⟨hp,g,d,tk,os⟩) T1 l1 xs:=q1
  have r2:SeqAt (Shared.heap ⟨hp.push {cls:=.type T1,data:=.fields #[.ref l1,.int 0 0]},g,d,tk,os⟩) T2 l2 ys:=q2.keep fun o e=>Heap.get?_push_of_some _ e
  wp_walk using oq r1,oq r2
  exact⟨_,rfl,h⟩
section
variable {prog:Program}{w:World}{A:Around}{E:Value->Shared->Prop}{s:Shared}
theorem rJ {l1 l2:Addr}{T1 T2:String}{xs ys:Array Value}{Q:Value->Shared->Prop}(q1:SeqAt s.heap T1 l1 xs)(q2:SeqAt s.heap T2 l2 ys)
  (k:∀h',ZS h' (s.heap.objs.size+4) (s.heap.objs.size+2) (s.heap.objs.size+3) s.heap.objs.size (s.heap.objs.size+1) l1 l2 T1 T2 xs ys 0 .none->h'.objs.size=s.heap.objs.size+5->(∀c o,s.heap.get? c=some o->h'.get? c=some o)->Q (.ref (s.heap.objs.size+4)) {s with heap:=h'}):
  wpAny (model prog w) A (call (.type "zip") [.ref l1,.ref l2]) Q E s:=by
 refine callType_new F.called_zip (by decide) (F.typeCall_zip_2 _ _) (F.newCall_zip_2 _ _) (fun obj=>F.args_object_init_3 obj _ _) F.entry_zip_new (o4 l1 l2 T1 T2 xs ys) ⟨q1,q2,?_⟩
 have y1:(zA s.heap T1 l1).objs.size=s.heap.objs.size+1:=Heap.size_push ..
 have y2:(zA (zA s.heap T1 l1) T2 l2).objs.size=s.heap.objs.size+2:=by rw[Heap.size_push,y1]
 generalize e2:zA (zA s.heap T1 l1) T2 l2=H2 at *
 have y3:(H2.push {cls:=.type "tuple",data:=.seq #[.ref s.heap.objs.size,.ref (zA s.heap T1 l1).objs.size]}).objs.size=s.heap.objs.size+3:=by rw[Heap.size_push,y2]
 have g3:(H2.push {cls:=.type "tuple",data:=.seq #[.ref s.heap.objs.size,.ref (zA s.heap T1 l1).objs.size]}).get? H2.objs.size=some _:=Heap.get?_push_size _ rfl
 have up3: ∀c o,H2.get? c=some o->(H2.push {cls:=.type "tuple",data:=.seq #[.ref s.heap.objs.size,.ref (zA s.heap T1 l1).objs.size]}).get? c=some o:=fun c o e=>Heap.get?_push_of_some _ e
 generalize H2.push {cls:=.type "tuple",data:=.seq #[.ref s.heap.objs.size,.ref (zA s.heap T1 l1).objs.size]}=H3 at *
 have y4:(H3.push {cls:=.type "tuple",data:=.seq #[.none,.none]}).objs.size=s.heap.objs.size+4:=by rw[Heap.size_push,y3]
 have g4:(H3.push {cls:=.type "tuple",data:=.seq #[.none,.none]}).get? H3.objs.size=some _:=Heap.get?_push_size _ rfl
 have up4: ∀c o,H3.get? c=some o->(H3.push {cls:=.type "tuple",data:=.seq #[.none,.none]}).get? c=some o:=fun c o e=>Heap.get?_push_of_some _ e
 generalize H3.push {cls:=.type "tuple",data:=.seq #[.none,.none]}=H4 at *
 have y5:(H4.push {cls:=.type "zip",data:=.fields #[.none,.bool false,.bool false,.ref H2.objs.size,.ref H3.objs.size]}).objs.size=s.heap.objs.size+5:=by rw[Heap.size_push,y4]
 have g5:(H4.push {cls:=.type "zip",data:=.fields #[.none,.bool false,.bool false,.ref H2.objs.size,.ref H3.objs.size]}).get? H4.objs.size=some _:=Heap.get?_push_size _ rfl
 have up5: ∀c o,H4.get? c=some o->(H4.push {cls:=.type "zip",data:=.fields #[.none,.bool false,.bool false,.ref H2.objs.size,.ref H3.objs.size]}).get? c=some o:=fun c o e=>Heap.get?_push_of_some _ e
 generalize H4.push {cls:=.type "zip",data:=.fields #[.none,.bool false,.bool false,.ref H2.objs.size,.ref H3.objs.size]}=H5 at *
 have u2:H2.get? (s.heap.objs.size+1)=some {cls:=.type T2,data:=.fields #[.ref l2,.int 0 0]}:=by rw[<-e2,<-y1];exact Heap.get?_push_size _ rfl
 have u1:H2.get? s.heap.objs.size=some {cls:=.type T1,data:=.fields #[.ref l1,.int 0 0]}:=by rw[<-e2];exact Heap.get?_push_of_some _ (Heap.get?_push_size _ rfl)
 have kk: ∀c o,s.heap.get? c=some o->H2.get? c=some o:=fun c o e=>by rw[<-e2];exact Heap.get?_push_of_some _ (Heap.get?_push_of_some _ e)
 have up: ∀c o,H2.get? c=some o->H5.get? c=some o:=fun c o e=>up5 c o (up4 c o (up3 c o e))
 show _/\_
 rw[y4] at g5 ⊢
 rw[y2,y3] at g5
 rw[y2,y1] at g3
 rw[y3] at g4
 exact⟨⟨_,g5,rfl⟩,k _ ⟨g5,up5 _ _ (up4 _ _ g3),⟨_,_,up5 _ _ g4⟩,⟨_,up _ _ u1,rfl,rfl⟩,⟨_,up _ _ u2,rfl,rfl⟩,q1.keep fun o e=>up _ _ (kk _ _ e),q2.keep fun o e=>up _ _ (kk _ _ e)⟩ y5 fun c o e=>up c o (kk c o e)⟩
end
end L2
set_option maxHeartbeats 2000000
namespace L2
open PySem PySem.Spec PyProof.Rows
def SqK (k:Bool)(K:PySem.W.Frag)(H:Hp)(a:Addr)(xs:List V):Prop:=match k with
 |true=>SqT K H a xs
 |false=>SqL K H a xs
noncomputable def tyK (k:Bool):String:=match k with
 |true=> "tuple_iterator"
 |false=> "list_iterator"
section
variable {X:Cx}{pins:List (Addr×Obj)}{σ:St}{H:Hp}{s:Shared}{a:Addr}{xs ys:List V}{k:Bool}
theorem Inv.seqK (I:Inv X pins σ H s)(h:SqK k X.K H a xs): ∃its:List Value,Vals xs its/\SeqAt s.heap (tyK k) a its.toArray:=by
 cases k with
 |false=>
  obtain⟨its,rv,p,_⟩:=I.list h
  exact⟨its,rv,.inl ⟨rfl,p.isList⟩⟩
 |true=>
  obtain⟨its,rv,p,_⟩:=I.tuple h
  exact⟨its,rv,.inr ⟨rfl,tupOf p⟩⟩
theorem Inv.seqK_inj (I:Inv X pins σ H s)(h:SqK k X.K H a xs)(g:SqK k X.K H a ys):xs=ys:=by
 cases k with
 |false=>exact I.list_inj h g
 |true=>exact I.tuple_inj h g
end
def Itz (j k:Bool)(K:PySem.W.Frag)(a b:Addr):It:=
 ⟨fun i H=> ∃xs ys x y,SqK j K H a xs/\SqK k K H b ys/\xs[i]?=some x/\ys[i]?=some y,fun i H v H'=> ∃T x y,H T=none/\v=.ref T/\(∀xs ys,SqK j K H a xs->SqK k K H b ys->xs[i]?=some x/\ys[i]?=some y)/\H'=upd H T (.tup [x,y]),fun i H=> ∃xs ys,SqK j K H a xs/\SqK k K H b ys/\min xs.length ys.length=i⟩
structure ZO (h:Heap)(z TI TO i1 i2 a b:Addr)(T1 T2:String)(n:Nat)(f0:Value):Prop where
 z:IsZip h z TI TO f0
 ti:IsPair h TI (.ref i1) (.ref i2)
 to: ∃u v,IsPair h TO u v
 u1:ItAt h T1 i1 a n
 u2:ItAt h T2 i2 b n
theorem ZO.keep {h h':Heap}{z TI TO i1 i2 a b:Addr}{T1 T2:String}{n:Nat}{f0:Value}(Z:ZO h z TI TO i1 i2 a b T1 T2 n f0)(k:∀c∈[z,TI,TO,i1,i2],∀o,h.get? c=some o->h'.get? c=some o):ZO h' z TI TO i1 i2 a b T1 T2 n f0:=
 ⟨k z (by simp) _ Z.z,k TI (by simp) _ Z.ti,let ⟨u,v,q⟩:=Z.to;⟨u,v,k TO (by simp) _ q⟩,Z.u1.keep fun o q=>k i1 (by simp) o q,Z.u2.keep fun o q=>k i2 (by simp) o q⟩
theorem rV {P:Program}{w:World}{K:PySem.W.Frag}{elts:List Expr}{x1}{tpos:Pos}{a b z TI TO i1 i2:Addr}{j k:Bool}(D:ZA z TI TO i1 i2 a b):Turn P w K (.Tuple elts x1 tpos) (Itz j k K a b) [z,TI,TO,i1,i2] z (fun i h=>ZO h z TI TO i1 i2 a b (tyK j) (tyK k) i .none) where
 mem:=by simp
 obj:=fun i h st c hc=>by
  simp only[List.mem_cons,List.not_mem_nil,or_false] at hc
  rcases hc with rfl|rfl|rfl|rfl|rfl
  ·exact⟨_,st.z,fun v z=>by cases z⟩
  ·exact⟨_,st.ti,fun v z=>by cases z⟩
  ·obtain⟨_,_,q⟩:=st.to
   exact⟨_,q,fun v z=>by cases z⟩
  ·obtain⟨o,e,c,d⟩:=st.u1
   exact⟨o,e,fun v z=>by rw[d] at z;cases z⟩
  ·obtain⟨o,e,c,d⟩:=st.u2
   exact⟨o,e,fun v z=>by rw[d] at z;cases z⟩
 keep:=fun i h h' st kk=>st.keep kk
 item:=by
  intro X hP hw hK hc i pins s σ H E I hf st hg
  subst hP hw hK
  obtain⟨xs,ys,x,y,hq1,hq2,hx,hy⟩:=hg
  obtain⟨is1,rv1,q1⟩:=I.seqK hq1
  obtain⟨is2,rv2,q2⟩:=I.seqK hq2
  obtain⟨u,hu,ru⟩:=rv1.get hx
  obtain⟨v,hv,rv⟩:=rv2.get hy
  have fz:=hf z (by simp)
  have fO:=hf TO (by simp)
  have f1:=hf i1 (by simp)
  have f2:=hf i2 (by simp)
  refine tE (I.ok.hd hc) D ⟨st.z,st.ti,st.to,st.u1,st.u2,q1,q2⟩ (by simpa using hu) (by simpa using hv) fun h' tk Z' hT hsz hk=>?_
  have nT:H s.heap.objs.size=none:=I.hok.fresh (Nat.le_refl _)
  have lt: ∀c o,s.heap.get? c=some o->c≠s.heap.objs.size:=fun c o q=>Nat.ne_of_lt (Heap.lt_size q)
  have ltH: ∀c o,H c=some o->c≠s.heap.objs.size:=fun c o q z=>by rw[z,nT] at q;cases q
  have neH: ∀c o,H c=some o->c≠z/\c≠TO/\c≠i1/\c≠i2:=fun c o q=>⟨fun z=>by (rw[z,fz.1] at q;cases q),fun z=>by (rw[z,fO.1] at q;cases q),fun z=>by (rw[z,f1.1] at q;cases q),fun z=>by (rw[z,f2.1] at q;cases q)⟩
  have hk': ∀c o,c ∉ [z,TO,i1,i2]->s.heap.get? c=some o->h'.get? c=some o:=fun c o n q=>hk c o (fun z=>n (by simp [z])) (fun z=>n (by simp [z])) (fun z=>n (by simp [z])) (fun z=>n (by simp [z])) q
  have I1:Inv X pins σ (upd H s.heap.objs.size (.tup [x,y])) {s with heap:=h',toks:=tk}:=by
   refine I.call' (s':={s with heap:=h',toks:=tk}) (ch:=[z,TO,i1,i2]) rfl ⟨fun b o q n hb hx=>?_,fun b o q n hb hx=>?_,fun b o q n hx=>?_,fun b o q hx=>?_,fun b xs q=>?_,fun b o u q=>?_,fun b ps q=>?_⟩ (fun b o q=>?_) I.bare fun b hb=>?_
   ·exact hk' b o hx q
   ·exact⟨o.slots,hk' b o hx q⟩
   ·rw[aF (lt b o q)];exact n
   ·exact⟨o,hk' b o hx q⟩
   ·rw[aF (ltH b _ q)];exact q
   ·rw[aF (ltH b _ q)];exact q
   ·exact⟨#[],by rw[aF (ltH b _ q),q];simp⟩
   ·by_cases hb:b=s.heap.objs.size
    ·subst hb
     rw[bF] at q
     cases q
     exact⟨by show 2<=sizeLine;decide,_,.cons ru (.cons rv .nil),⟨_,hT,rfl,_,rfl⟩,_,hT,rfl⟩
    ·rw[aF hb] at q
     refine (I.hok b o q).stay (fun c v hc r=>?_) (fun c r=>by rw[aF (ltH c _ r)];exact r) fun c xs r=>by rw[aF (ltH c _ r)];exact r
     have: ∃o,H c=some o:=by
      rcases hc with rfl|hc
      ·exact⟨o,q⟩
      ·exact⟨_,hc⟩
     obtain⟨o',qo⟩:=this
     obtain⟨n1,n2,n3,n4⟩:=neH c o' qo
     exact hk c v n1 n2 n3 n4 r
   ·have fb:FpOk X pins H b:=by
     simp only[List.mem_cons,List.not_mem_nil,or_false] at hb
     rcases hb with rfl|rfl|rfl|rfl
     ·exact fz
     ·exact fO
     ·exact f1
     ·exact f2
    exact⟨fb.2.2.2.1,fb.2.1,fb.2.2.2.2.1,fb.2.2.2.2.2⟩
  refine⟨_,rfl,wpAny_letOwnedTupleGo_zip (s:={s with heap:=h',toks:=tk}) Z'.z fun h2 hz2 hs2=>?_⟩
  have nn: ∀c∈[z,TI,TO,i1,i2],c≠s.heap.objs.size:=fun c hc=>by
   simp only[List.mem_cons,List.not_mem_nil,or_false] at hc
   rcases hc with rfl|rfl|rfl|rfl|rfl
   ·exact lt _ _ st.z
   ·exact lt _ _ st.ti
   ·obtain⟨_,_,q⟩:=st.to;exact lt _ _ q
   ·obtain⟨o,e,_⟩:=st.u1;exact lt _ _ e
   ·obtain⟨o,e,_⟩:=st.u2;exact lt _ _ e
  have fe':(upd H s.heap.objs.size (.tup [x,y])) z=none:=by rw[aF (nn z (by simp))];exact fz.1
  refine⟨.ref s.heap.objs.size,upd H s.heap.objs.size (.tup [x,y]),?_,rfl,⟨s.heap.objs.size,x,y,nT,rfl,fun xs' ys' h1 h2=>by rw[I.seqK_inj h1 hq1,I.seqK_inj h2 hq2];exact⟨hx,hy⟩,rfl⟩,?_,fun c hc=>?_⟩
  ·exact I1.turned (t':=tk) (fun b o hb eo=>(hs2.2 b hb).trans eo) fe' fz.2.1 fz.2.2.2.1 fz.2.2.2.2.1 fz.2.2.2.2.2
  ·have up: ∀c o,c≠z->h'.get? c=some o->h2.get? c=some o:=fun c o n q=>hs2.extBut _ _ n q
   obtain⟨u',v',q⟩:=Z'.to
   exact⟨hz2,up _ _ D.a1 Z'.ti,⟨u',v',up _ _ D.a2 q⟩,Z'.u1.keep fun o q=>up _ _ D.a3 q,Z'.u2.keep fun o q=>up _ _ D.a4 q⟩
  ·rw[aF (nn c hc)]
   exact (hf c hc).1
 done:=by
  intro X hP hw hK hc i pins s σ H E I hf st hg
  subst hP hw hK
  obtain⟨xs,ys,hq1,hq2,hx⟩:=hg
  obtain⟨is1,rv1,q1⟩:=I.seqK hq1
  obtain⟨is2,rv2,q2⟩:=I.seqK hq2
  have l1:=rv1.length
  have l2:=rv2.length
  have fz:=hf z (by simp)
  have fO:=hf TO (by simp)
  have f1:=hf i1 (by simp)
  have f2:=hf i2 (by simp)
  refine wB (I.ok.hd hc) D ⟨st.z,st.ti,st.to,st.u1,st.u2,q1,q2⟩ (by
   rw[List.size_toArray,List.size_toArray]
   omega) fun h' tk hk=>⟨rfl,?_⟩
  refine I.call' (s':={s with heap:=h',toks:=tk}) (ch:=[z,TO,i1,i2]) rfl ⟨fun b o q n hb hx=>?_,fun b o q n hb hx=>?_,fun b o q n hx=>n,fun b o q hx=>?_,fun b xs q=>q,fun b o u q=>q,fun b ps q=>⟨#[],by rw[q];simp⟩⟩ (fun b o q=>?_) I.bare fun b hb=>?_
  ·exact hk b o (fun z=>hx (by simp [z])) (fun z=>hx (by simp [z])) (fun z=>hx (by simp [z])) (fun z=>hx (by simp [z])) q
  ·exact⟨o.slots,hk b o (fun z=>hx (by simp [z])) (fun z=>hx (by simp [z])) (fun z=>hx (by simp [z])) (fun z=>hx (by simp [z])) q⟩
  ·exact⟨o,hk b o (fun z=>hx (by simp [z])) (fun z=>hx (by simp [z])) (fun z=>hx (by simp [z])) (fun z=>hx (by simp [z])) q⟩
  ·refine (I.hok b o q).stay (fun c v hc r=>?_) (fun c r=>r) fun c xs r=>r
   have: ∃o,H c=some o:=by
    rcases hc with rfl|hc
    ·exact⟨o,q⟩
    ·exact⟨_,hc⟩
   obtain⟨o',qo⟩:=this
   exact hk c v (fun z=>by rw[z,fz.1] at qo;cases qo) (fun z=>by rw[z,fO.1] at qo;cases qo) (fun z=>by rw[z,f1.1] at qo;cases qo) (fun z=>by rw[z,f2.1] at qo;cases qo) r
  ·have fb:FpOk X pins H b:=by
    simp only[List.mem_cons,List.not_mem_nil,or_false] at hb
    rcases hb with rfl|rfl|rfl|rfl
    ·exact fz
    ·exact fO
    ·exact f1
    ·exact f2
   exact⟨fb.2.2.2.1,fb.2.1,fb.2.2.2.2.1,fb.2.2.2.2.2⟩
 self:=fun _ _ _ _ _ st h=>wpAny_pyIter_zip st.z h
section
variable {X:Cx}
def iZip (j k:Bool)(K:PySem.W.Frag)(ta:TA):TI:=fun σ H R=>ta σ H fun vs H1=> ∃a b,vs=[.ref a,.ref b]/\(∃xs,SqK j K H1 a xs)/\(∃ys,SqK k K H1 b ys)/\R (Itz j k K a b) H1
theorem wY (n a b:Nat)(h1:a<n)(h2:b<n):(n+2≠n+4/\n+3≠n+4/\n≠n+4/\n+1≠n+4/\n+2≠n+3/\n+2≠n/\n+2≠n+1/\n+3≠n/\n+3≠n+1)/\(n≠n+1/\a≠n+4/\a≠n+3/\a≠n/\a≠n+1/\b≠n+4/\b≠n+3/\b≠n/\b≠n+1):=by omega
theorem wX {n l1 l2:Addr}(h1:l1<n)(h2:l2<n):ZA (n+4) (n+2) (n+3) n (n+1) l1 l2:=
 by
 obtain⟨⟨a1,a2,a3,a4,a5,a6,a7,a8,a9⟩,b1,b2,b3,b4,b5,b6,b7,b8,b9⟩:=wY n l1 l2 h1 h2
 exact⟨a1,a2,a3,a4,a5,a6,a7,a8,a9,b1,b2,b3,b4,b5,b6,b7,b8,b9⟩
theorem xF {j k:Bool}{a b:Expr}{ta:TA}{p pos:Pos}{elts:List Expr}{x1}{tpos:Pos}(hg:Gl X "zip")(hm:X.mg "zip"=none)(ha:PA X [a,b] ta)(hs:starEach [a,b] X.env=[(false,eval a X.env),(false,eval b X.env)]:=by rfl)(hs2:starEach [b] X.env=[(false,eval b X.env)]:=by rfl):PI X (.Tuple elts x1 tpos) (.Call (.Name "zip" p) [a,b] [] pos) (iZip j k X.K ta):=by
 intro pins s σ H R I h
 refine Call_ (gg I hg hm boot_zip (PyProof.Rows.callWith_type1 (thn (ha pos pins s σ H _ I h) fun us s1 qz=>?_) (by rw[hs,hs2]) (by rw[hs2];rfl)))
 obtain⟨vs,H1,I1,r1,q1⟩:=qz
 obtain⟨a',b',e,⟨xs,hq1⟩,⟨ys,hq2⟩,q⟩:=q1
 subst e
 obtain⟨u,v,rfl,ru,rv⟩:=r1.two
 cases ru
 cases rv
 obtain⟨is1,rv1,t1⟩:=I1.seqK hq1
 obtain⟨is2,rv2,t2⟩:=I1.seqK hq2
 have lt: ∀ {T:String}{l:Addr}{u:Array Value},SeqAt s1.heap T l u->l<s1.heap.objs.size:=fun{T l u} h=>by
  rcases h with⟨_,o,e,_⟩|⟨_,o,e,_⟩<;>exact Heap.lt_size e
 refine rJ t1 t2 fun h' Z hsz hk=>wpAny_pyIter_zip Z.z ?_
 have I2:Inv X pins σ H1 {s1 with heap:=h'}:=I1.kept (t':=s1.toks) hk
 refine⟨s1.heap.objs.size+4,[s1.heap.objs.size+4,s1.heap.objs.size+2,s1.heap.objs.size+3,s1.heap.objs.size,s1.heap.objs.size+1],_,_,H1,rfl,I2,rV (j:=j) (k:=k) (wX (lt t1) (lt t2)),⟨Z.z,Z.ti,Z.to,Z.u1,Z.u2⟩,fun c hc=>?_,q⟩
 have hc':s1.heap.objs.size<=c:=by
  simp only[List.mem_cons,List.not_mem_nil,or_false] at hc
  rcases hc with rfl|rfl|rfl|rfl|rfl
  ·exact Nat.le_add_right _ _
  ·exact Nat.le_add_right _ _
  ·exact Nat.le_add_right _ _
  ·exact Nat.le_refl _
  ·exact Nat.le_add_right _ _
 exact I1.fpOk hc' (I1.hok.fresh hc')
end
end L2
set_option maxHeartbeats 2000000
namespace L2
open PySem PySem.Spec PyProof.Rows
open Builtin
section
variable {prog:Program}{w:World}{A:Around}{E:Value->Shared->Prop}
end
section
variable {X:Cx}
def rCat0 (K:PySem.W.Frag):R2:=fun x y H Q=> ∃a b ys,x=.ref a/\y=.ref b/\SqT K H a []/\SqT K H b ys/\Q (.ref b) H
theorem op_cat0:OpR X (binaryOp .Add) (rCat0 X.K):=by
 intro pins s σ H x y v u Q I rx ry h
 obtain⟨a,b,ys,rfl,rfl,ha,hb,q⟩:=h
 cases rx
 cases ry
 obtain⟨its,r1,⟨⟨cls,dd,data,sl⟩,ho,hc,n,hd⟩,_⟩:=I.tuple ha
 obtain⟨its2,r2,⟨⟨cls2,dd2,data2,sl2⟩,ho2,hc2,n2,hd2⟩,_⟩:=I.tuple hb
 have e:=r1.nil_iff.mpr rfl
 subst e
 simp only at hc hd hc2 hd2
 subst hc hd hc2 hd2
 exact concat_meets ⟨_,ho,rfl⟩ ⟨_,ho2,rfl⟩ noFill_tuple_add seq_tuple_add PySem.F.slot_tuple_add PySem.F.entry_tuple_add (PySem.F.args_tuple_add_2 _ _) (tuple_addW0 a b #[] its2.toArray n n2 dd dd2 sl sl2 rfl) ⟨ho,ho2,.ref b,H,I,rfl,q⟩
end
end L2
namespace L2
open PySem PySem.Spec PyProof.Rows
section
variable {X:Cx}
variable {o e:Expr}{es:List Expr}{to:TE}{t:TA}{name:Str}{apos cpos:Pos}{id:String}{r:V->List V->Hp->VK->Prop}
end
end L2
set_option maxHeartbeats 2000000
namespace L2
open PySem PySem.Spec PyProof.Rows
section
variable {X:Cx}
def vd:V->List V->Hp->VK->Prop:=fun x vs H Q=> ∃l xs i y,x=.ref l/\vs=[.int i,y]/\H l=some (.lst xs)/\0<=i/\i<=xs.length/\xs.length<sizeLine/\Q .non (upd H l (.lst (xs.take i.toNat++[y]++xs.drop i.toNat)))
theorem Vals.take': ∀ {xs:List V}{us:List Value} (n:Nat),Vals xs us->Vals (xs.take n) (us.take n)
 |_,_,0,_=>by rw[List.take_zero,List.take_zero];exact .nil
 |_,_,_+1,.nil=>.nil
 |_,_,n+1,.cons r t=>.cons r (Vals.take' n t)
theorem Vals.drop': ∀ {xs:List V}{us:List Value} (n:Nat),Vals xs us->Vals (xs.drop n) (us.drop n)
 |_,_,0,h=>h
 |_,_,_+1,.nil=>.nil
 |_,_,n+1,.cons _ t=>Vals.drop' n t
theorem qQ:MtM X "list.insert" vd:=by
 intro pins s σ H x vs v us Q I rx rv h
 obtain⟨l,xs,i,y,rfl,rfl,hH,h0,h1,hz,q⟩:=h
 cases rx
 obtain⟨u,w,rfl,ru,rw'⟩:=rv.two
 obtain⟨t,rfl⟩:=ru
 obtain⟨z,its,n,r,hl,e⟩:=I.lstM hH
 have zl:its.length=xs.length:=r.length.symm
 have sl:sizeLine<2 ^ 62:=by decide
 refine call_meets F.slot_list_insert ⟨_,e,rfl⟩ F.entry_list_insert (F.args_list_insert_3 _ _ _) (AutoSeq1.list_insert_list_int_val_1 l its.toArray n i t w (by rw[fitsIndex_both (by omega) (by omega)];simp) (by rw[List.size_toArray];omega)) ⟨e,?_⟩
 refine⟨.non,_,I.lset (its':=its.take i.toNat++[w]++its.drop i.toNat) hH e ?_ (((r.take' i.toNat).append (.cons rw' .nil)).append (r.drop' i.toNat)) ?_,rfl,q⟩
 ·have k:(if i<0 then (i+((its.toArray.size:Nat):Int)).toNat else min i.toNat its.toArray.size)=i.toNat:=by
   rw[if_neg (by omega),List.size_toArray];omega
  show ((its.toArray.extract 0 (if i<0 then (i+((its.toArray.size:Nat):Int)).toNat else min i.toNat its.toArray.size)).push w++its.toArray.extract (if i<0 then (i+((its.toArray.size:Nat):Int)).toNat else min i.toNat its.toArray.size))=_
  rw[k]
  simp [List.extract_eq_drop_take]
  exact List.take_of_length_le (by rw[List.length_drop];exact Nat.le_refl _)
 ·rw[List.length_append,List.length_append,List.length_take,List.length_drop]
  show min i.toNat xs.length+1+(xs.length - i.toNat)<=sizeLine
  omega
end
end L2
set_option maxHeartbeats 1000000
namespace L2
open PySem PySem.Spec PyProof.Rows
inductive W where
 |ty (n:String)|exc (c:Str)|cls (c:Str)|non|bl (b:Bool)|int (i:Int)|str (x:Str)
 |tup (l:List W)|tl (l:List W)|cl (l:List W)|dv (ks:List Key)(ws:List W)|kt (ks:List Key)|loc (k:Nat)
inductive Ob where
 |lst (l:List W)|dic (ks:List Key)(ws:List W)|dit (ks:List (List Key))(ws:List W)|din (b:Bool)(ks:List PKy)(ws:List W)|ins (c:Str)(ns:List Str)(ws:List W)|gone
structure Wo where
 mu:Nat->Addr
 h:List Ob
 H:Hp
noncomputable def Lv (o:Wo)(a:Addr):Prop:= ∃k b,o.h[k]?=some b/\b≠.gone/\o.mu k=a
def FrL (K:PySem.W.Frag)(a:Addr)(xs:List V):Prop:= ∃ (o:Obj) (its:Array Value) (n:Nat),K.lookup a=some o/\o.cls=.type "list"/\o.dict=none/\o.data=.seq its n/\its.size<=sizeLine/\Vals xs its.toList
mutual
def Rv (K:PySem.W.Frag)(o:Wo):W->V->Prop
 |.ty n,v=>v=.ty n
 |.exc c,v=> ∃a C,v=.ref a/\nsIn K mainGlobals c=some (some (.ref C))/\o.H a=some (excO a (.ref C))
 |.cls c,v=> ∃C,v=.ref C/\nsIn K mainGlobals c=some (some (.ref C))
 |.non,v=>v=.non
 |.bl b,v=>v=.bl b
 |.int i,v=>v=.int i
 |.str x,v=>v=.str x
 |.tup l,v=> ∃a vs,v=.ref a/\SqT K o.H a vs/\Rvs K o l vs
 |.tl l,v=> ∃a vs,v=.ref a/\o.H a=some (.lst vs)/\ ¬Lv o a/\Rvs K o l vs
 |.cl l,v=> ∃a vs,v=.ref a/\((Rd o.H a (.lst vs)/\ ¬Lv o a)\/FrL K a vs)/\Rvs K o l vs
 |.dv ks ws,v=> ∃a kvs,v=.ref a/\Rd o.H a (.dK kvs)/\ ¬Lv o a/\kvs.map (·.1)=ks/\Rvs K o ws (kvs.map (·.2))
 |.kt ks,v=> ∃a,v=.ref a/\o.H a=some (.tup (ks.map kV))
 |.loc k,v=>k<o.h.length/\v=.ref (o.mu k)
def Rvs (K:PySem.W.Frag)(o:Wo):List W->List V->Prop
 |[],vs=>vs=[]
 |w::l,vs=> ∃v r,vs=v::r/\Rv K o w v/\Rvs K o l r
end
def KeyN (K:PySem.W.Frag)(H:Hp)(b:Bool)(c:Addr)(k:PKy):Prop:= ∃d,SqT K H c (match b with
 |false=>[.int k.1,.ref d]
 |true=>[.ref d,.int k.1])/\SqT K H d (k.2.map V.int)
def Ro (K:PySem.W.Frag)(o:Wo)(a:Addr):Ob->Prop
 |.lst l=> ∃vs,o.H a=some (.lst vs)/\Rvs K o l vs
 |.dic ks ws=> ∃kvs,o.H a=some (.dK kvs)/\kvs.map (·.1)=ks/\Rvs K o ws (kvs.map (·.2))
 |.dit ks ws=> ∃kvs,o.H a=some (.dT kvs)/\kvs.map (·.1)=ks/\Rvs K o ws (kvs.map (·.2))
 |.din b ks ws=> ∃xs:List (PKy×Addr×V),o.H a=some (.dN b xs)/\xs.map (·.1)=ks/\(∀x∈xs,KeyN K o.H b x.2.1 x.1)/\Rvs K o ws (xs.map (·.2.2))
 |.ins c ns ws=> ∃C dx fs,nsIn K mainGlobals c=some (some (.ref C))/\o.H a=some (.ins C dx fs)/\fs.map (·.1)=ns/\Rvs K o ws (fs.map (·.2))
 |.gone=>True
structure Rel (K:PySem.W.Frag)(o:Wo):Prop where
 ob: ∀k b,o.h[k]?=some b->Ro K o (o.mu k) b
 inj: ∀j k b c,o.h[j]?=some b->o.h[k]?=some c->b≠.gone->c≠.gone->o.mu j=o.mu k->j=k
structure Ex (o p:Wo):Prop where
 le:o.h.length<=p.h.length
 mu: ∀k,k<o.h.length->p.mu k=o.mu k
 fr: ∀a u,o.H a=some u-> ¬Lv o a->p.H a=some u/\ ¬Lv p a
theorem Ex.refl (o:Wo):Ex o o:=⟨Nat.le_refl _,fun _ _=>rfl,fun _ _ h n=>⟨h,n⟩⟩
theorem Ex.trans {o p q:Wo}(a:Ex o p)(b:Ex p q):Ex o q:=⟨Nat.le_trans a.le b.le,fun k h=>(b.mu k (Nat.lt_of_lt_of_le h a.le)).trans (a.mu k h),fun c u h n=>let ⟨h1,n1⟩:=a.fr c u h n;b.fr c u h1 n1⟩
section
variable {K:PySem.W.Frag}{o p:Wo}
theorem Lv.kind (R:Rel K o){a:Addr}(h:Lv o a):(∃vs,o.H a=some (.lst vs))\/(∃kvs,o.H a=some (.dK kvs))\/(∃C dx fs,o.H a=some (.ins C dx fs))\/(∃kvs,o.H a=some (.dT kvs))\/ ∃b xs,o.H a=some (.dN b xs):=by
 obtain⟨k,b,hk,hb,rfl⟩:=h
 have q:=R.ob k b hk
 cases b with
 |lst l=>exact .inl (let ⟨vs,e,_⟩:=q;⟨vs,e⟩)
 |dic ks ws=>exact .inr (.inl (let ⟨vs,e,_⟩:=q;⟨vs,e⟩))
 |ins c ns ws=>exact .inr (.inr (.inl (let ⟨C,dx,fs,_,e,_⟩:=q;⟨C,dx,fs,e⟩)))
 |dit ks ws=>exact .inr (.inr (.inr (.inl (let ⟨vs,e,_⟩:=q;⟨vs,e⟩))))
 |din b ks ws=>exact .inr (.inr (.inr (.inr (let ⟨vs,e,_⟩:=q;⟨b,vs,e⟩))))
 |gone=>exact absurd rfl hb
theorem Ex.keep (X:Ex o p)(R:Rel K o){a:Addr}{u:HO}(h:o.H a=some u)(n1: ∀vs,u≠.lst vs)(n2: ∀kvs,u≠.dK kvs)(n3: ∀C dx fs,u≠.ins C dx fs)(n4: ∀kvs,u≠.dT kvs)(n5: ∀b xs,u≠.dN b xs):p.H a=some u:=by
 refine (X.fr a u h fun l=>?_).1
 rcases l.kind R with⟨vs,e⟩|⟨vs,e⟩|⟨C,dx,fs,e⟩|⟨vs,e⟩|⟨b,vs,e⟩
 ·rw[h] at e;exact n1 vs (Option.some.inj e)
 ·rw[h] at e;exact n2 vs (Option.some.inj e)
 ·rw[h] at e;exact n3 C dx fs (Option.some.inj e)
 ·rw[h] at e;exact n4 vs (Option.some.inj e)
 ·rw[h] at e;exact n5 b vs (Option.some.inj e)
theorem Ex.rdT (X:Ex o p)(R:Rel K o){a:Addr}{vs:List V}(h:SqT K o.H a vs):SqT K p.H a vs:=by
 rcases h with (h|⟨ob,h⟩)|h
 ·exact .inl (.inl (X.keep R h (fun _ z=>nomatch z) (fun _ z=>nomatch z) (fun _ _ _ z=>nomatch z) (fun _ z=>nomatch z) fun _ _ z=>nomatch z))
 ·exact .inl (.inr ⟨ob,X.keep R h (fun _ z=>nomatch z) (fun _ z=>nomatch z) (fun _ _ _ z=>nomatch z) (fun _ z=>nomatch z) fun _ _ z=>nomatch z⟩)
 ·exact .inr h
theorem KeyN.mono (X:Ex o p)(R:Rel K o){b:Bool}{c:Addr}{k:PKy}(h:KeyN K o.H b c k):KeyN K p.H b c k:=by
 obtain⟨d,h1,h2⟩:=h
 exact⟨d,X.rdT R h1,X.rdT R h2⟩
theorem Ex.rd (X:Ex o p){a:Addr}{u:HO}(h:Rd o.H a u)(n:¬Lv o a):Rd p.H a u/\ ¬Lv p a:=by
 rcases h with h|⟨ob,h⟩
 ·exact⟨.inl (X.fr a _ h n).1,(X.fr a _ h n).2⟩
 ·exact⟨.inr ⟨ob,(X.fr a _ h n).1⟩,(X.fr a _ h n).2⟩
mutual
theorem Rv.mono (R:Rel K o)(X:Ex o p): ∀ (w:W) (v:V),Rv K o w v->Rv K p w v
 |.ty n,v,h=>h
 |.exc c,v,h=>by
  unfold Rv at h ⊢
  obtain⟨a,C,e,h1,h2⟩:=h
  exact⟨a,C,e,h1,X.keep R h2 (fun _ z=>nomatch z) (fun _ z=>nomatch z) (fun _ _ _ z=>nomatch z) (fun _ z=>nomatch z) fun _ _ z=>nomatch z⟩
 |.cls c,v,h=>by
  unfold Rv at h ⊢
  exact h
 |.non,v,h=>h
 |.bl b,v,h=>h
 |.int i,v,h=>h
 |.str x,v,h=>h
 |.tup l,v,h=>by
  unfold Rv at h ⊢
  obtain⟨a,vs,e,h1,h2⟩:=h
  exact⟨a,vs,e,X.rdT R h1,Rvs.mono R X l vs h2⟩
 |.tl l,v,h=>by
  unfold Rv at h ⊢
  obtain⟨a,vs,e,h1,n,h2⟩:=h
  exact⟨a,vs,e,(X.fr a _ h1 n).1,(X.fr a _ h1 n).2,Rvs.mono R X l vs h2⟩
 |.cl l,v,h=>by
  unfold Rv at h ⊢
  obtain⟨a,vs,e,h1,h2⟩:=h
  refine⟨a,vs,e,?_,Rvs.mono R X l vs h2⟩
  rcases h1 with⟨h1,n⟩|h1
  ·exact .inl (X.rd h1 n)
  ·exact .inr h1
 |.dv ks ws,v,h=>by
  unfold Rv at h ⊢
  obtain⟨a,vs,e,h1,n,h2,h3⟩:=h
  exact⟨a,vs,e,(X.rd h1 n).1,(X.rd h1 n).2,h2,Rvs.mono R X ws _ h3⟩
 |.kt ks,v,h=>by
  unfold Rv at h ⊢
  obtain⟨a,e,h⟩:=h
  exact⟨a,e,X.keep R h (fun _ z=>nomatch z) (fun _ z=>nomatch z) (fun _ _ _ z=>nomatch z) (fun _ z=>nomatch z) fun _ _ z=>nomatch z⟩
 |.loc k,v,h=>by
  unfold Rv at h ⊢
  exact⟨Nat.lt_of_lt_of_le h.1 X.le,by rw[X.mu k h.1];exact h.2⟩
theorem Rvs.mono (R:Rel K o)(X:Ex o p): ∀ (l:List W) (vs:List V),Rvs K o l vs->Rvs K p l vs
 |[],vs,h=>h
 |w::l,vs,h=>by
  unfold Rvs at h ⊢
  obtain⟨v,r,e,h1,h2⟩:=h
  exact⟨v,r,e,Rv.mono R X w v h1,Rvs.mono R X l r h2⟩
end
theorem Rel.keep (R:Rel K o)(X:Ex o p)(e1:p.h=o.h)(e2:p.mu=o.mu)(e3: ∀k b,o.h[k]?=some b->b≠.gone->p.H (o.mu k)=o.H (o.mu k)):Rel K p:=by
 refine⟨fun k b hk=>?_,fun j k b c h1 h2=>?_⟩
 ·rw[e1] at hk
  rw[e2]
  have q:=R.ob k b hk
  cases b with
  |lst l=>obtain⟨vs,h1,h2⟩:=q;exact⟨vs,by rw[e3 k _ hk (by simp)];exact h1,h2.mono R X⟩
  |dic ks ws=>obtain⟨vs,h1,h2,h3⟩:=q;exact⟨vs,by rw[e3 k _ hk (by simp)];exact h1,h2,h3.mono R X⟩
  |dit ks ws=>obtain⟨vs,h1,h2,h3⟩:=q;exact⟨vs,by rw[e3 k _ hk (by simp)];exact h1,h2,h3.mono R X⟩
  |din b ks ws=>obtain⟨vs,h1,h2,hn,h3⟩:=q;exact⟨vs,by rw[e3 k _ hk (by simp)];exact h1,h2,fun x hx=>(hn x hx).mono X R,h3.mono R X⟩
  |ins c ns ws=>obtain⟨C,dx,fs,h0,h1,h2,h3⟩:=q;exact⟨C,dx,fs,h0,by rw[e3 k _ hk (by simp)];exact h1,h2,h3.mono R X⟩
  |gone=>trivial
 ·rw[e1] at h1 h2
  rw[e2]
  exact R.inj j k b c h1 h2
theorem Lv.there (R:Rel K o){a:Addr}(h:Lv o a):o.H a≠none:=by
 rcases h.kind R with⟨vs,e⟩|⟨vs,e⟩|⟨C,dx,fs,e⟩|⟨vs,e⟩|⟨b,vs,e⟩<;>(rw[e];simp)
theorem Ex.new {q:Addr}{u:HO}(h:o.H q=none):Ex o ⟨o.mu,o.h,upd o.H q u⟩:=by
 refine⟨Nat.le_refl _,fun _ _=>rfl,fun a w e n=>⟨?_,n⟩⟩
 show upd o.H q u a=some w
 rw[aF (da e h)];exact e
theorem Rel.new (R:Rel K o){q:Addr}{u:HO}(h:o.H q=none):Rel K ⟨o.mu,o.h,upd o.H q u⟩:=by
 refine R.keep (Ex.new h) rfl rfl fun k b hk hb=>?_
 have l:Lv o (o.mu k):=⟨k,b,hk,hb,rfl⟩
 show upd o.H q u (o.mu k)=_
 rw[aF fun z=>l.there R (by rw[z];exact h)]
def Wo.add (o:Wo)(q:Addr)(b:Ob)(u:HO):Wo:=⟨fun k=>if k=o.h.length then q else o.mu k,o.h++[b],upd o.H q u⟩
theorem Ex.add {q:Addr}{b:Ob}{u:HO}(h:o.H q=none):Ex o (o.add q b u):=by
 refine⟨by show _<=(o.h++[b]).length;simp,fun k hk=>?_,fun a w e n=>⟨?_,fun l=>?_⟩⟩
 ·show (if k=o.h.length then q else o.mu k)=_
  rw[if_neg (by omega)]
 ·show upd o.H q u a=some w
  rw[aF (da e h)];exact e
 ·obtain⟨k,c,hk,hc,ha⟩:=l
  have ha:(if k=o.h.length then q else o.mu k)=a:=ha
  have hk:(o.h++[b])[k]?=some c:=hk
  by_cases z:k=o.h.length
  ·rw[if_pos z] at ha
   exact absurd ha.symm (da e h)
  ·rw[if_neg z] at ha
   have hl:k<o.h.length:=by
    have:=(List.getElem?_eq_some_iff.mp hk).1
    rw[List.length_append,List.length_singleton] at this
    omega
   rw[List.getElem?_append_left hl] at hk
   exact n ⟨k,c,hk,hc,ha⟩
theorem Rel.add (R:Rel K o){q:Addr}{b:Ob}{u:HO}(h:o.H q=none)(hb:Ro K (o.add q b u) q b):Rel K (o.add q b u):=by
 have X:Ex o (o.add q b u):=Ex.add h
 have old: ∀ {k:Nat}{c:Ob},(o.add q b u).h[k]?=some c->k≠o.h.length->o.h[k]?=some c/\(o.add q b u).mu k=o.mu k:=fun{k c} hk z=>by
  have hk:(o.h++[b])[k]?=some c:=hk
  have hl:k<o.h.length:=by
   have:=(List.getElem?_eq_some_iff.mp hk).1
   rw[List.length_append,List.length_singleton] at this
   omega
  rw[List.getElem?_append_left hl] at hk
  exact⟨hk,X.mu k hl⟩
 have new: ∀ {k:Nat}{c:Ob},(o.add q b u).h[k]?=some c->k=o.h.length->c=b/\(o.add q b u).mu k=q:=fun{k c} hk z=>by
  subst z
  have hk:(o.h++[b])[o.h.length]?=some c:=hk
  rw[List.getElem?_append_right (Nat.le_refl _),Nat.sub_self] at hk
  exact⟨(Option.some.inj hk).symm,if_pos rfl⟩
 have ne: ∀ {k:Nat}{c:Ob},o.h[k]?=some c->c≠.gone->o.mu k≠q:=fun{k c} hk hc z=>Lv.there R ⟨k,c,hk,hc,rfl⟩ (by rw[z];exact h)
 refine⟨fun k c hk=>?_,fun j k c d h1 h2 n1 n2 e=>?_⟩
 ·by_cases z:k=o.h.length
  ·obtain⟨rfl,e⟩:=new hk z
   rw[e];exact hb
  ·obtain⟨hk,e⟩:=old hk z
   rw[e]
   have r:=R.ob k c hk
   have st: ∀ {w:HO},c≠.gone->o.H (o.mu k)=some w->(o.add q b u).H (o.mu k)=some w:=fun{w} hc e=>by
    show upd o.H q u (o.mu k)=some w
    rw[aF (ne hk hc)];exact e
   cases c with
   |lst l=>obtain⟨vs,h1,h2⟩:=r;exact⟨vs,st (by simp) h1,h2.mono R X⟩
   |dic ks ws=>obtain⟨vs,h1,h2,h3⟩:=r;exact⟨vs,st (by simp) h1,h2,h3.mono R X⟩
   |dit ks ws=>obtain⟨vs,h1,h2,h3⟩:=r;exact⟨vs,st (by simp) h1,h2,h3.mono R X⟩
   |din b ks ws=>obtain⟨vs,h1,h2,hn,h3⟩:=r;exact⟨vs,st (by simp) h1,h2,fun x hx=>(hn x hx).mono X R,h3.mono R X⟩
   |ins c ns ws=>obtain⟨C,dx,fs,h0,h1,h2,h3⟩:=r;exact⟨C,dx,fs,h0,st (by simp) h1,h2,h3.mono R X⟩
   |gone=>trivial
 ·by_cases z1:j=o.h.length
  ·by_cases z2:k=o.h.length
   ·omega
   ·obtain⟨_,e1⟩:=new h1 z1
    obtain⟨hk,e2⟩:=old h2 z2
    rw[e1,e2] at e
    exact absurd e.symm (ne hk n2)
  ·obtain⟨hj,e1⟩:=old h1 z1
   by_cases z2:k=o.h.length
   ·obtain⟨_,e2⟩:=new h2 z2
    rw[e1,e2] at e
    exact absurd e (ne hj n1)
   ·obtain⟨hk,e2⟩:=old h2 z2
    rw[e1,e2] at e
    exact R.inj j k c d hj hk n1 n2 e
theorem Rel.addL (R:Rel K o){q:Addr}{l:List W}{vs:List V}(h:o.H q=none)(hl:Rvs K o l vs):Rel K (o.add q (.lst l) (.lst vs)):=R.add h ⟨vs,bF,hl.mono R (Ex.add h)⟩
theorem Rel.addD (R:Rel K o){q:Addr}{ks:List Key}{ws:List W}{kvs:List (Key×V)}(h:o.H q=none)(hk:kvs.map (·.1)=ks)(hl:Rvs K o ws (kvs.map (·.2))):Rel K (o.add q (.dic ks ws) (.dK kvs)):=R.add h ⟨kvs,bF,hk,hl.mono R (Ex.add h)⟩
theorem Rel.addT (R:Rel K o){q:Addr}{ks:List (List Key)}{ws:List W}{kvs:List (List Key×V)}(h:o.H q=none)(hk:kvs.map (·.1)=ks)(hl:Rvs K o ws (kvs.map (·.2))):Rel K (o.add q (.dit ks ws) (.dT kvs)):=R.add h ⟨kvs,bF,hk,hl.mono R (Ex.add h)⟩
def Wo.put (o:Wo)(k:Nat)(b:Ob)(u:HO):Wo:=⟨o.mu,o.h.set k b,upd o.H (o.mu k) u⟩
theorem Lv.put {k:Nat}{b c:Ob}{u:HO}{a:Addr}(hk:o.h[k]?=some c)(hc:c≠.gone)(h:Lv (o.put k b u) a):Lv o a:=by
 obtain⟨j,d,hj,hd,rfl⟩:=h
 have hj:(o.h.set k b)[j]?=some d:=hj
 by_cases z:j=k
 ·subst z;exact⟨j,c,hk,hc,rfl⟩
 ·rw[List.getElem?_set_ne (Ne.symm z)] at hj
  exact⟨j,d,hj,hd,rfl⟩
theorem Ex.put {k:Nat}{b c:Ob}{u:HO}(hk:o.h[k]?=some c)(hc:c≠.gone):Ex o (o.put k b u):=by
 refine⟨by show _<=(o.h.set k b).length;simp,fun _ _=>rfl,fun a w e n=>⟨?_,fun l=>n (l.put hk hc)⟩⟩
 show upd o.H (o.mu k) u a=some w
 rw[aF fun z=>n ⟨k,c,hk,hc,z.symm⟩];exact e
theorem Rel.put (R:Rel K o){k:Nat}{b c:Ob}{u:HO}(hk:o.h[k]?=some c)(hc:c≠.gone)(hb:Ro K (o.put k b u) (o.mu k) b):Rel K (o.put k b u):=by
 have X:Ex o (o.put k b u):=Ex.put hk hc
 have old: ∀ {j:Nat}{d:Ob},(o.put k b u).h[j]?=some d->j≠k->o.h[j]?=some d:=fun{j d} hj z=>by
  have hj:(o.h.set k b)[j]?=some d:=hj
  rw[List.getElem?_set_ne (Ne.symm z)] at hj
  exact hj
 refine⟨fun j d hj=>?_,fun i j d e h1 h2 n1 n2 q=>?_⟩
 ·by_cases z:j=k
  ·subst z
   have hl:=(List.getElem?_eq_some_iff.mp hk).1
   have hj:(o.h.set j b)[j]?=some d:=hj
   rw[List.getElem?_set_self hl] at hj
   cases hj
   exact hb
  ·have hj:=old hj z
   have r:=R.ob j d hj
   have st: ∀ {w:HO},d≠.gone->o.H (o.mu j)=some w->(o.put k b u).H (o.mu j)=some w:=fun{w} hd e=>by
    show upd o.H (o.mu k) u (o.mu j)=some w
    rw[aF fun q=>z (R.inj j k d c hj hk hd hc q)];exact e
   cases d with
   |lst l=>obtain⟨vs,h1,h2⟩:=r;exact⟨vs,st (by simp) h1,h2.mono R X⟩
   |dic ks ws=>obtain⟨vs,h1,h2,h3⟩:=r;exact⟨vs,st (by simp) h1,h2,h3.mono R X⟩
   |dit ks ws=>obtain⟨vs,h1,h2,h3⟩:=r;exact⟨vs,st (by simp) h1,h2,h3.mono R X⟩
   |din b ks ws=>obtain⟨vs,h1,h2,hn,h3⟩:=r;exact⟨vs,st (by simp) h1,h2,fun x hx=>(hn x hx).mono X R,h3.mono R X⟩
   |ins c ns ws=>obtain⟨C,dx,fs,h0,h1,h2,h3⟩:=r;exact⟨C,dx,fs,h0,st (by simp) h1,h2,h3.mono R X⟩
   |gone=>trivial
 ·have ex: ∀ {j:Nat}{d:Ob},(o.put k b u).h[j]?=some d->d≠.gone-> ∃d',o.h[j]?=some d'/\d'≠.gone:=fun{j d} hj n=>by
   by_cases z:j=k
   ·subst z;exact⟨c,hk,hc⟩
   ·exact⟨d,old hj z,n⟩
  obtain⟨d',h1',n1'⟩:=ex h1 n1
  obtain⟨e',h2',n2'⟩:=ex h2 n2
  exact R.inj i j d' e' h1' h2' n1' n2' q
theorem Rel.putL (R:Rel K o){k:Nat}{c:Ob}{l:List W}{vs:List V}(hk:o.h[k]?=some c)(hc:c≠.gone)(hl:Rvs K o l vs):Rel K (o.put k (.lst l) (.lst vs)):=R.put hk hc ⟨vs,bF,hl.mono R (Ex.put hk hc)⟩
theorem Rel.putD (R:Rel K o){k:Nat}{c:Ob}{ks:List Key}{ws:List W}{kvs:List (Key×V)}(hk:o.h[k]?=some c)(hc:c≠.gone)(h1:kvs.map (·.1)=ks)(hl:Rvs K o ws (kvs.map (·.2))):Rel K (o.put k (.dic ks ws) (.dK kvs)):=R.put hk hc ⟨kvs,bF,h1,hl.mono R (Ex.put hk hc)⟩
theorem Rel.putT (R:Rel K o){k:Nat}{c:Ob}{ks:List (List Key)}{ws:List W}{kvs:List (List Key×V)}(hk:o.h[k]?=some c)(hc:c≠.gone)(h1:kvs.map (·.1)=ks)(hl:Rvs K o ws (kvs.map (·.2))):Rel K (o.put k (.dit ks ws) (.dT kvs)):=R.put hk hc ⟨kvs,bF,h1,hl.mono R (Ex.put hk hc)⟩
noncomputable def Wo.ice (o:Wo)(k:Nat):Wo:=⟨o.mu,o.h.set k .gone,o.H⟩
theorem Lv.ice {k:Nat}{a:Addr}(h:Lv (o.ice k) a): ∃j b,j≠k/\o.h[j]?=some b/\b≠.gone/\o.mu j=a:=by
 obtain⟨j,d,hj,hd,e⟩:=h
 have hj:(o.h.set k .gone)[j]?=some d:=hj
 by_cases z:j=k
 ·subst z
  have hl:=(List.getElem?_eq_some_iff.mp hj).1
  rw[List.length_set] at hl
  rw[List.getElem?_set_self hl] at hj
  cases hj
  exact absurd rfl hd
 ·rw[List.getElem?_set_ne (Ne.symm z)] at hj
  exact⟨j,d,z,hj,hd,e⟩
theorem Ex.ice {k:Nat}:Ex o (o.ice k):=by
 refine⟨by show _<=(o.h.set k .gone).length;simp,fun _ _=>rfl,fun a w e n=>⟨e,fun l=>?_⟩⟩
 obtain⟨j,b,_,h1,h2,h3⟩:=l.ice
 exact n ⟨j,b,h1,h2,h3⟩
theorem Rel.ice (R:Rel K o){k:Nat}:Rel K (o.ice k):=by
 have X:Ex o (o.ice k):=Ex.ice
 have old: ∀ {j:Nat}{d:Ob},(o.ice k).h[j]?=some d->d≠.gone->o.h[j]?=some d:=fun{j d} hj n=>by
  have hj:(o.h.set k .gone)[j]?=some d:=hj
  by_cases z:j=k
  ·subst z
   have hl:=(List.getElem?_eq_some_iff.mp hj).1
   rw[List.length_set] at hl
   rw[List.getElem?_set_self hl] at hj
   cases hj
   exact absurd rfl n
  ·rw[List.getElem?_set_ne (Ne.symm z)] at hj
   exact hj
 refine⟨fun j d hj=>?_,fun i j d e h1 h2 n1 n2 q=>R.inj i j d e (old h1 n1) (old h2 n2) n1 n2 q⟩
 cases d with
 |lst l=>obtain⟨vs,h1,h2⟩:=R.ob j _ (old hj (by simp));exact⟨vs,h1,h2.mono R X⟩
 |dic ks ws=>obtain⟨vs,h1,h2,h3⟩:=R.ob j _ (old hj (by simp));exact⟨vs,h1,h2,h3.mono R X⟩
 |dit ks ws=>obtain⟨vs,h1,h2,h3⟩:=R.ob j _ (old hj (by simp));exact⟨vs,h1,h2,h3.mono R X⟩
 |din b ks ws=>obtain⟨vs,h1,h2,hn,h3⟩:=R.ob j _ (old hj (by simp));exact⟨vs,h1,h2,fun x hx=>(hn x hx).mono X R,h3.mono R X⟩
 |ins c ns ws=>obtain⟨C,dx,fs,h0,h1,h2,h3⟩:=R.ob j _ (old hj (by simp));exact⟨C,dx,fs,h0,h1,h2,h3.mono R X⟩
 |gone=>trivial
theorem Rv.iceL (R:Rel K o){k:Nat}{l:List W}(hk:o.h[k]?=some (.lst l)):Rv K (o.ice k) (.tl l) (.ref (o.mu k)):=by
 obtain⟨vs,h1,h2⟩:=R.ob k _ hk
 unfold Rv
 refine⟨_,vs,rfl,h1,fun z=>?_,h2.mono R Ex.ice⟩
 obtain⟨j,b,n,q1,q2,q3⟩:=z.ice
 exact n (R.inj j k b _ q1 hk q2 (by simp) q3)
theorem Rv.iceD (R:Rel K o){k:Nat}{ks:List Key}{ws:List W}(hk:o.h[k]?=some (.dic ks ws)):Rv K (o.ice k) (.dv ks ws) (.ref (o.mu k)):=by
 obtain⟨vs,h1,h0,h2⟩:=R.ob k _ hk
 unfold Rv
 refine⟨_,vs,rfl,.inl h1,fun z=>?_,h0,h2.mono R Ex.ice⟩
 obtain⟨j,b,n,q1,q2,q3⟩:=z.ice
 exact n (R.inj j k b _ q1 hk q2 (by simp) q3)
theorem Rvs.len: ∀ {l:List W}{vs:List V},Rvs K o l vs->vs.length=l.length
 |[],_,h=>by unfold Rvs at h;rw[h];rfl
 |w::l,_,h=>by unfold Rvs at h;obtain⟨v,r,rfl,_,h2⟩:=h;rw[List.length_cons,List.length_cons,Rvs.len h2]
theorem Rvs.get: ∀ {l:List W}{vs:List V}{i:Nat}{w:W},Rvs K o l vs->l[i]?=some w-> ∃v,vs[i]?=some v/\Rv K o w v
 |[],_,_,_,_,e=>by simp at e
 |x::l,_,0,w,h,e=>by unfold Rvs at h;obtain⟨v,r,rfl,h1,h2⟩:=h;cases e;exact⟨v,rfl,h1⟩
 |x::l,_,i+1,w,h,e=>by unfold Rvs at h;obtain⟨v,r,rfl,h1,h2⟩:=h;obtain⟨u,q1,q2⟩:=Rvs.get (l:=l) (i:=i) (w:=w) h2 (by simpa using e);exact⟨u,by simpa using q1,q2⟩
theorem Rvs.nil:Rvs K o [] []:=by unfold Rvs;rfl
theorem Rvs.cons {w:W}{v:V}{l:List W}{vs:List V}(h:Rv K o w v)(t:Rvs K o l vs):Rvs K o (w::l) (v::vs):=by unfold Rvs;exact⟨v,vs,rfl,h,t⟩
theorem Rvs.app: ∀ {l m:List W}{vs us:List V},Rvs K o l vs->Rvs K o m us->Rvs K o (l++m) (vs++us)
 |[],_,_,_,h,t=>by unfold Rvs at h;rw[h];exact t
 |w::l,m,_,us,h,t=>by unfold Rvs at h;obtain⟨v,r,rfl,h1,h2⟩:=h;exact Rvs.cons h1 (Rvs.app h2 t)
theorem Rvs.take: ∀ {l:List W}{vs:List V} (n:Nat),Rvs K o l vs->Rvs K o (l.take n) (vs.take n)
 |[],_,n,h=>by unfold Rvs at h;rw[h,List.take_nil,List.take_nil];exact Rvs.nil
 |w::l,_,0,h=>by rw[List.take_zero,List.take_zero];exact Rvs.nil
 |w::l,_,n+1,h=>by unfold Rvs at h;obtain⟨v,r,rfl,h1,h2⟩:=h;exact Rvs.cons h1 (Rvs.take n h2)
theorem Rvs.drop: ∀ {l:List W}{vs:List V} (n:Nat),Rvs K o l vs->Rvs K o (l.drop n) (vs.drop n)
 |[],_,n,h=>by unfold Rvs at h;rw[h,List.drop_nil,List.drop_nil];exact Rvs.nil
 |w::l,_,0,h=>h
 |w::l,_,n+1,h=>by unfold Rvs at h;obtain⟨v,r,rfl,h1,h2⟩:=h;exact Rvs.drop n h2
theorem Rvs.set {x:W}{y:V}(hx:Rv K o x y): ∀ {l:List W}{vs:List V} (i:Nat),Rvs K o l vs->Rvs K o (l.set i x) (vs.set i y)
 |[],_,n,h=>by unfold Rvs at h;rw[h];exact Rvs.nil
 |w::l,_,0,h=>by unfold Rvs at h;obtain⟨v,r,rfl,h1,h2⟩:=h;exact Rvs.cons hx h2
 |w::l,_,n+1,h=>by unfold Rvs at h;obtain⟨v,r,rfl,h1,h2⟩:=h;exact Rvs.cons h1 (Rvs.set hx n h2)
noncomputable abbrev Env':=List (Option W)
def RvO (K:PySem.W.Frag)(o:Wo):Option W->Option V->Prop
 |some w,s=> ∃v,s=some v/\Rv K o w v
 |none,s=>s=none
def Re (K:PySem.W.Frag)(o:Wo):Env'->St->Prop
 |[],s=>s=[]
 |w::r,s=> ∃x t,s=x::t/\RvO K o w x/\Re K o r t
theorem RvO.mono (R:Rel K o)(X:Ex o p): ∀ {w:Option W}{s:Option V},RvO K o w s->RvO K p w s
 |some w,_,⟨v,e,h⟩=>⟨v,e,h.mono R X⟩
 |none,_,h=>h
theorem Re.mono (R:Rel K o)(X:Ex o p): ∀ {r:Env'}{s:St},Re K o r s->Re K p r s
 |[],_,h=>h
 |w::r,_,⟨x,t,e,h1,h2⟩=>⟨x,t,e,h1.mono R X,Re.mono R X h2⟩
theorem Re.get: ∀ {r:Env'}{s:St}{i:Nat}{w:W},Re K o r s->r[i]?=some (some w)-> ∃v,s[i]?=some (some v)/\Rv K o w v
 |[],_,_,_,_,e=>by simp at e
 |x::r,_,0,w,⟨y,t,rfl,h1,h2⟩,e=>by cases e;obtain⟨v,rfl,q⟩:=h1;exact⟨v,rfl,q⟩
 |x::r,_,i+1,w,⟨y,t,rfl,h1,h2⟩,e=>by obtain⟨u,q1,q2⟩:=Re.get (r:=r) (i:=i) (w:=w) h2 (by simpa using e);exact⟨u,by simpa using q1,q2⟩
theorem Re.set {w:W}{v:V}(q:Rv K o w v): ∀ {r:Env'}{s:St} (i:Nat),Re K o r s->Re K o (r.set i (some w)) (s.set i (some v))
 |[],_,_,h=>by rw[show _=[] from h];rfl
 |x::r,_,0,⟨y,t,rfl,h1,h2⟩=>⟨_,_,rfl,⟨v,rfl,q⟩,h2⟩
 |x::r,_,i+1,⟨y,t,rfl,h1,h2⟩=>⟨_,_,rfl,h1,Re.set q i h2⟩
theorem Re.front: ∀ {r:Env'}{s:St} (n:Nat),Re K o r s->Re K o (List.replicate n none++r) (List.replicate n none++s)
 |_,_,0,h=>h
 |_,_,n+1,h=>⟨none,_,rfl,rfl,Re.front n h⟩
theorem Re.args: ∀ {ws:List W}{vs:List V} (n:Nat),Rvs K o ws vs->Re K o (ws.map some++List.replicate n none) (vs.map some++List.replicate n none)
 |[],_,n,h=>by
  unfold Rvs at h;rw[h]
  induction n with
  |zero=>rfl
  |succ n ih=>exact⟨none,_,rfl,rfl,ih⟩
 |w::l,_,n,h=>by unfold Rvs at h;obtain⟨v,r,rfl,h1,h2⟩:=h;exact⟨_,_,rfl,⟨v,rfl,h1⟩,Re.args n h2⟩
end
inductive Rs (α:Type) where
 |ok (a:α)(h:List Ob)|ex (c:Str)(h:List Ob)|bad
noncomputable abbrev M (α:Type):=List Ob->Rs α
def bd {α β:Type}(f:M α)(g:α->M β):M β:=fun h=>match f h with
 |.ok a h'=>g a h'
 |.ex c h'=>.ex c h'
 |.bad=>.bad
def pr {α:Type}(a:α):M α:=fun h=>.ok a h
def no {α:Type}:M α:=fun _=>.bad
def gd {α:Type}(p:Prop) [Decidable p] (m:M α):M α:=fun h=>if p then m h else .bad
structure Cg where
 K:PySem.W.Frag
 mg:Str->Option Value
 E:XK
def Ps {α β:Type}(c:Cg)(r:Wo->α->β->Prop)(o:Wo)(R:Rs α)(Q:β->Hp->Prop):Prop:=match R with
 |.ok a h'=> ∀p b,p.h=h'->Ex o p->Rel c.K p->r p a b->Q b p.H
 |.ex x h'=> ∃u,c.mg x=some u/\ ∀p,p.h=h'->Ex o p->Rel c.K p->c.E u none p.H
 |.bad=>False
def tG {α β:Type}(c:Cg)(r:Wo->α->β->Prop)(f:Env'->M α)(σ:St)(H:Hp)(Q:β->Hp->Prop):Prop:= ∃o ρ,o.H=H/\Rel c.K o/\Re c.K o ρ σ/\Ps c r o (f ρ o.h) Q
noncomputable abbrev tM (c:Cg)(f:Env'->M W):TE:=tG c (Rv c.K) f
noncomputable abbrev tT (c:Cg)(f:Env'->M Bool):TT:=tG c (fun _ a b=>a=b) f
noncomputable abbrev tA (c:Cg)(f:Env'->M (List W)):TA:=tG c (Rvs c.K) f
section
variable {c:Cg}{o p:Wo}{α β γ δ:Type}{r:Wo->α->β->Prop}{r2:Wo->γ->δ->Prop}
theorem Ps.after {R:Rs α}{Q:β->Hp->Prop}(X:Ex o p)(h:Ps c r o R Q):Ps c r p R Q:=by
 cases R with
 |ok a h'=>exact fun q b e X2 Rq rq=>h q b e (X.trans X2) Rq rq
 |ex x h'=>obtain⟨u,hu,h⟩:=h;exact⟨u,hu,fun q e X2 Rq=>h q e (X.trans X2) Rq⟩
 |bad=>exact h
theorem Ps.bd {f:M α}{g:α->M γ}{Q:δ->Hp->Prop}{N:β->Hp->Prop}(h:Ps c r2 o (bd f g o.h) Q)(k:∀p a b,Ex o p->Rel c.K p->r p a b->Ps c r2 p (g a p.h) Q->N b p.H):Ps c r o (f o.h) N:=by
 unfold L2.bd at h
 cases e:f o.h with
 |ok a h'=>
  rw[e] at h
  intro p b hp X R rb
  subst hp
  exact k p a b X R rb (h.after X)
 |ex x h'=>
  rw[e] at h
  exact h
 |bad=>
  rw[e] at h
  exact h
theorem Ps.pr {a:α}{Q:β->Hp->Prop}{b:β}(h:Ps c r o (pr a o.h) Q)(R:Rel c.K o)(hb:r o a b):Q b o.H:=h o b rfl (Ex.refl _) R hb
theorem Ps.at {a:α}{h':List Ob}{Q:β->Hp->Prop}{b:β}(h:Ps c r o (.ok a h') Q)(e:p.h=h')(X:Ex o p)(R:Rel c.K p)(hb:r p a b):Q b p.H:=h p b e X R hb
theorem Ps.gd {P:Prop} [Decidable P] {m:M α}{Q:β->Hp->Prop}(h:Ps c r o (gd P m o.h) Q):P/\Ps c r o (m o.h) Q:=by
 unfold L2.gd at h
 by_cases q:P
 ·rw[if_pos q] at h;exact⟨q,h⟩
 ·rw[if_neg q] at h;exact h.elim
end
end L2
set_option maxHeartbeats 1000000
namespace L2
open PySem PySem.Spec PyProof.Rows
noncomputable abbrev cg (X:Cx)(E:XK):Cg:=⟨X.K,X.mg,E⟩
def tF (c:Cg)(f:Env'->M (List W)):TE:=fun σ H Q=>tG c (Rvs c.K) f σ H fun vs H1=> ∀q,H1 q=none->Q (.ref q) (upd H1 q (.lst vs))
structure JE (X:Cx)(E:XK)(e:Expr)(f:Env'->M W):Prop where
 h:PE X e (tM (cg X E) f)
structure JT (X:Cx)(E:XK)(e:Expr)(f:Env'->M Bool):Prop where
 h:PT X e (tT (cg X E) f)
structure JW (X:Cx)(E:XK)(e:Expr)(f:Env'->M Bool):Prop where
 h:PW X e (tT (cg X E) f)
structure JA (X:Cx)(E:XK)(es:List Expr)(f:Env'->M (List W)):Prop where
 h:PA X es (tA (cg X E) f)
structure JF (X:Cx)(E:XK)(e:Expr)(f:Env'->M (List W)):Prop where
 h:PE X e (tF (cg X E) f)
theorem PE.imp {X:Cx}{E:XK}{e:Expr}{t:TE}{f:Env'->M W}(h:PE X e t)(k:∀σ H Q,tM (cg X E) f σ H Q->t σ H Q):JE X E e f:=⟨fun pins s σ H Q I q=>h pins s σ H Q I (k σ H Q q)⟩
theorem PE.impF {X:Cx}{E:XK}{e:Expr}{t:TE}{f:Env'->M (List W)}(h:PE X e t)(k:∀σ H Q,tF (cg X E) f σ H Q->t σ H Q):JF X E e f:=⟨fun pins s σ H Q I q=>h pins s σ H Q I (k σ H Q q)⟩
theorem PT.imp {X:Cx}{E:XK}{e:Expr}{t:TT}{f:Env'->M Bool}(h:PT X e t)(k:∀σ H Q,tT (cg X E) f σ H Q->t σ H Q):JT X E e f:=⟨fun pins s σ H Q I q=>h pins s σ H Q I (k σ H Q q)⟩
theorem PW.imp {X:Cx}{E:XK}{e:Expr}{t:TT}{f:Env'->M Bool}(h:PW X e t)(k:∀σ H Q,tT (cg X E) f σ H Q->t σ H Q):JW X E e f:=⟨fun w pins s σ H Q I q=>h w pins s σ H Q I (k σ H Q q)⟩
theorem PA.imp {X:Cx}{E:XK}{e:List Expr}{t:TA}{f:Env'->M (List W)}(h:PA X e t)(k:∀σ H Q,tA (cg X E) f σ H Q->t σ H Q):JA X E e f:=⟨fun pos pins s σ H Q I q=>h pos pins s σ H Q I (k σ H Q q)⟩
theorem lH {X:Cx}{E:XK}{e:Expr}{f:Env'->M Bool}(q:JW X E e f):JT X E e f:=⟨(q.h).pt⟩
section
variable {X:Cx}{E:XK}
def mVar (i:Nat):Env'->M W:=fun ρ=>match ρ[i]? with
 |some (some w)=>pr w
 |_=>no
def mC (w:W):Env'->M W:=fun _=>pr w
theorem xk {i:Nat}{σ:St}{H:Hp}{Q:VK}(h:tM (cg X E) (mVar i) σ H Q):tVar i σ H Q:=by
 obtain⟨o,ρ,rfl,R,S,h⟩:=h
 unfold mVar at h
 cases e:ρ[i]? with
 |none=>rw[e] at h;exact h.elim
 |some x=>
  cases x with
  |none=>rw[e] at h;exact h.elim
  |some w=>
   rw[e] at h
   obtain⟨v,e1,r⟩:=S.get e
   exact⟨v,e1,h.pr R r⟩
theorem ae (i:Nat){x:Str}{pos:Pos}(hN:X.N[i]?=some x:=by rfl)(hv:Vis X.env.scope x:=by first|exact Or.inl rfl|exact Or.inr (Or.inl rfl)|exact Or.inr (Or.inr rfl))(hd:(x==("__debug__":Str))=false:=by decide)
 (hcd:(x==("__classdict__":Str))=false:=by decide):JE X E (.Name x pos) (mVar i):=(pv i hN hv hd hcd).imp fun _ _ _ h=>xk h
theorem qy {w:W}{v:V}(hr: ∀o,Rv X.K o w v){σ:St}{H:Hp}{Q:VK}(h:tM (cg X E) (mC w) σ H Q):tC v σ H Q:=by
 obtain⟨o,ρ,rfl,R,S,h⟩:=h
 exact Ps.pr (c:=cg X E) h R (hr o)
theorem ah {i j pos}:JE X E (.Constant (.int i) j pos) (mC (.int i)):=pe_int.imp fun _ _ _ h=>qy (fun o=>by unfold Rv;rfl) h
theorem t4 {i j pos}:JE X E (.Constant (.bool i) j pos) (mC (.bl i)):=pe_bl.imp fun _ _ _ h=>qy (fun o=>by unfold Rv;rfl) h
theorem aA {i j pos}:JE X E (.Constant (.str i) j pos) (mC (.str i)):=pe_str.imp fun _ _ _ h=>qy (fun o=>by unfold Rv;rfl) h
theorem kA {j pos}:JE X E (.Constant .none j pos) (mC .non):=pe_non.imp fun _ _ _ h=>qy (fun o=>by unfold Rv;rfl) h
theorem my {x:Str}{w:W}{v:V}{u:Value}{pos:Pos}(hg:Gl X x)(hm:X.mg x=some u)(r:RelV v u)(hr: ∀o,Rv X.K o w v)(hd:(x==("__debug__":Str))=false:=by decide):JE X E (.Name x pos) (mC w):=
 (vD hg hm r hd).imp fun _ _ _ h=>qy hr h
def m2 (f:W->W->M W)(fa fb:Env'->M W):Env'->M W:=fun ρ=>bd (fa ρ) fun x=>bd (fb ρ) fun y=>f x y
def OpM (X:Cx)(E:XK)(r:R2)(f:W->W->M W):Prop:= ∀ (o:Wo) (x y:W) (vx vy:V) (Q:VK),Rel X.K o->Rv X.K o x vx->Rv X.K o y vy->Ps (cg X E) (Rv X.K) o (f x y o.h) Q->r vx vy o.H Q
theorem uZ {r:R2}{f:W->W->M W}(hf:OpM X E r f){fa fb:Env'->M W}{σ:St}{H:Hp}{Q:VK}(h:tM (cg X E) (m2 f fa fb) σ H Q):tOp r (tM (cg X E) fa) (tM (cg X E) fb) σ H Q:=by
 obtain⟨o,ρ,rfl,R,S,h⟩:=h
 exact⟨o,ρ,rfl,R,S,Ps.bd h fun p x vx e1 R1 r1 h1=>⟨p,ρ,rfl,R1,S.mono R e1,Ps.bd h1 fun q y vy e2 R2 r2 h2=>hf q x y vx vy Q R2 (r1.mono R1 e2) r2 h2⟩⟩
theorem ky {a b:Expr}{pos:Pos}{op:Operator}{r:R2}{f:W->W->M W}{fa fb:Env'->M W}(ho:OpR X (binaryOp op) r)(hf:OpM X E r f)(ha:JE X E a fa)(hb:JE X E b fb):
 JE X E (.BinOp a op b pos) (m2 f fa fb):=(wO ho ha.h hb.h).imp fun _ _ _ h=>uZ hf h
theorem gc {a b:Expr}{pos:Pos}{op:CmpOp}{r:R2}{f:W->W->M W}{fa fb:Env'->M W}(ho:OpR X (compareOp op) r)(hf:OpM X E r f)(ha:JE X E a fa)(hb:JE X E b fb)(hm:behindInMarks op b=false):
 JE X E (.Compare a [op] [b] pos) (m2 f fa fb):=(vF ho ha.h hb.h hm).imp fun _ _ _ h=>uZ hf h
def asB (w:W):M Bool:=match w with
 |.bl b=>pr b
 |_=>no
def mB (f:Env'->M W):Env'->M Bool:=fun ρ=>bd (f ρ) asB
theorem yY {f:Env'->M W}{σ:St}{H:Hp}{Q:Bool->Hp->Prop}(h:tT (cg X E) (mB f) σ H Q):tM (cg X E) f σ H fun x H'=> ∃k,x=.bl k/\Q k H':=by
 obtain⟨o,ρ,rfl,R,S,h⟩:=h
 refine⟨o,ρ,rfl,R,S,Ps.bd h fun p x vx e1 R1 r1 h1=>?_⟩
 unfold asB at h1
 split at h1
 ·rename_i b
  unfold Rv at r1
  exact⟨b,r1,h1.pr R1 rfl⟩
 ·exact h1.elim
theorem aE {a b:Expr}{pos:Pos}{op:CmpOp}{r:R2}{f:W->W->M W}{fa fb:Env'->M W}(ho:OpR X (compareOp op) r)(hf:OpM X E r f)(ha:JE X E a fa)(hb:JE X E b fb)(hm:behindInMarks op b=false):
 JT X E (.Compare a [op] [b] pos) (mB (m2 f fa fb)):=(vj ho ha.h hb.h hm).imp fun _ _ _ h=>uZ hf (yY h)
theorem ie {e:Expr}{f:Env'->M W}(h:JE X E e f)(he: ∀whole,isTrue e X.env whole=(do let v<-whole;standAt e.pos;holding [v] (truthy v)):=by intro _;rfl):JT X E e (mB f):=
 (xw h.h he).imp fun _ _ _ h=>yY h
def mAnd (f g:Env'->M Bool):Env'->M Bool:=fun ρ=>bd (f ρ) fun b=>if b=true then g ρ else pr false
def mOr (f g:Env'->M Bool):Env'->M Bool:=fun ρ=>bd (f ρ) fun b=>if b=true then pr true else g ρ
def mNot (f:Env'->M Bool):Env'->M Bool:=fun ρ=>bd (f ρ) fun b=>pr (!b)
variable {a b:Expr}{rest:List Expr}{pos:Pos}{f g:Env'->M Bool}
theorem xh {σ:St}{H:Hp}{Q:Bool->Hp->Prop}(h:tT (cg X E) (mAnd f g) σ H Q):tAnd (tT (cg X E) f) (tT (cg X E) g) σ H Q:=by
 obtain⟨o,ρ,rfl,R,S,h⟩:=h
 refine⟨o,ρ,rfl,R,S,Ps.bd h fun p x vx e1 R1 r1 h1=>?_⟩
 subst r1
 cases x with
 |true=>exact iteT ⟨p,ρ,rfl,R1,S.mono R e1,h1⟩
 |false=>exact iteF (h1.pr R1 rfl)
theorem yX {σ:St}{H:Hp}{Q:Bool->Hp->Prop}(h:tT (cg X E) (mOr f g) σ H Q):tOr (tT (cg X E) f) (tT (cg X E) g) σ H Q:=by
 obtain⟨o,ρ,rfl,R,S,h⟩:=h
 refine⟨o,ρ,rfl,R,S,Ps.bd h fun p x vx e1 R1 r1 h1=>?_⟩
 subst r1
 cases x with
 |false=>exact iteF ⟨p,ρ,rfl,R1,S.mono R e1,h1⟩
 |true=>exact iteT (h1.pr R1 rfl)
theorem tU (ha:JT X E a f):JT X E (.UnaryOp .Not a pos) (mNot f):=(xx ha.h).imp fun σ H Q h=>by
 obtain⟨o,ρ,rfl,R,S,h⟩:=h
 refine⟨o,ρ,rfl,R,S,Ps.bd h fun p x vx e1 R1 r1 h1=>?_⟩
 subst r1
 exact h1.pr R1 rfl
theorem pR (ha:JT X E a f):JW X E (.BoolOp .And [a] pos) f:=⟨vg ha.h⟩
theorem mt (ha:JT X E a f):JW X E (.BoolOp .Or [a] pos) f:=⟨xu ha.h⟩
theorem tL (ha:JT X E a f)(hb:JW X E (.BoolOp .And (b::rest) pos) g):JW X E (.BoolOp .And (a::b::rest) pos) (mAnd f g):=(xv ha.h hb.h).imp fun _ _ _ h=>xh h
theorem pQ (ha:JT X E a f)(hb:JW X E (.BoolOp .Or (b::rest) pos) g):JW X E (.BoolOp .Or (a::b::rest) pos) (mOr f g):=(y9 ha.h hb.h).imp fun _ _ _ h=>yX h
def mAndV (f g:Env'->M W):Env'->M W:=fun ρ=>bd (f ρ) fun w=>bd (asB w) fun b=>if b=true then g ρ else pr (.bl false)
def mOrV (f g:Env'->M W):Env'->M W:=fun ρ=>bd (f ρ) fun w=>bd (asB w) fun b=>if b=true then pr (.bl true) else g ρ
def mNotV (f:Env'->M W):Env'->M W:=fun ρ=>bd (f ρ) fun w=>bd (asB w) fun b=>pr (.bl (!b))
theorem uQ {α β:Type}{r:Wo->α->β->Prop}{o:Wo}{w:W}{v:V}{k:Bool->M α}{Q:β->Hp->Prop}(hr:Rv X.K o w v)(h:Ps (cg X E) r o (bd (asB w) k o.h) Q): ∃b,w=.bl b/\v=.bl b/\Ps (cg X E) r o (k b o.h) Q:=by
 cases w with
 |bl b=>unfold Rv at hr;exact⟨b,rfl,hr,h⟩
 |_=>exact h.elim
variable {u v:Env'->M W}
theorem o5 {op}(h:JE X E a u):JE X E (.BoolOp op [a] pos) u:=⟨xJ h.h⟩
theorem mD (ha:JE X E a u)(hb:JE X E (.BoolOp .And (b::rest) pos) v):JE X E (.BoolOp .And (a::b::rest) pos) (mAndV u v):=(xN ha.h hb.h).imp fun σ H Q h=>by
 obtain⟨o,ρ,rfl,R,S,h⟩:=h
 refine⟨o,ρ,rfl,R,S,Ps.bd h fun p x vx e1 R1 r1 h1=>?_⟩
 obtain⟨k,rfl,rfl,h2⟩:=uQ r1 h1
 refine⟨k,rfl,?_⟩
 cases k with
 |true=>exact iteT ⟨p,ρ,rfl,R1,S.mono R e1,h2⟩
 |false=>exact iteF (h2.pr R1 (by unfold Rv;rfl))
theorem yk (ha:JE X E a u):JE X E (.UnaryOp .Not a pos) (mNotV u):=(xK ha.h).imp fun σ H Q h=>by
 obtain⟨o,ρ,rfl,R,S,h⟩:=h
 refine⟨o,ρ,rfl,R,S,Ps.bd h fun p x vx e1 R1 r1 h1=>?_⟩
 obtain⟨k,rfl,rfl,h2⟩:=uQ r1 h1
 exact⟨k,rfl,h2.pr R1 (by unfold Rv;rfl)⟩
def mIf (f:Env'->M Bool)(u v:Env'->M W):Env'->M W:=fun ρ=>bd (f ρ) fun b=>if b=true then u ρ else v ρ
theorem iA {c:Expr}(hc:JT X E c f)(ha:JE X E a u)(hb:JE X E b v):JE X E (.IfExp c a b pos) (mIf f u v):=(sT hc.h ha.h hb.h).imp fun σ H Q h=>by
 obtain⟨o,ρ,rfl,R,S,h⟩:=h
 refine⟨o,ρ,rfl,R,S,Ps.bd h fun p x vx e1 R1 r1 h1=>?_⟩
 subst r1
 cases x with
 |true=>exact iteT ⟨p,ρ,rfl,R1,S.mono R e1,h1⟩
 |false=>exact iteF ⟨p,ρ,rfl,R1,S.mono R e1,h1⟩
def m1 (f:W->M W)(fa:Env'->M W):Env'->M W:=fun ρ=>bd (fa ρ) f
def negW (w:W):M W:=match w with
 |.int i=>pr (.int (-i))
 |_=>no
theorem i7 (ha:JE X E a u):JE X E (.UnaryOp .USub a pos) (m1 negW u):=(zb xa ha.h).imp fun σ H Q h=>by
 obtain⟨o,ρ,rfl,R,S,h⟩:=h
 refine⟨o,ρ,rfl,R,S,Ps.bd h fun p x vx e1 R1 r1 h1=>?_⟩
 unfold negW at h1
 split at h1
 ·unfold Rv at r1
  exact⟨_,r1,h1.pr R1 (by unfold Rv;rfl)⟩
 ·exact h1.elim
def mNil:Env'->M (List W):=fun _=>pr []
def mCons (fa:Env'->M W)(fr:Env'->M (List W)):Env'->M (List W):=fun ρ=>bd (fa ρ) fun x=>bd (fr ρ) fun l=>pr (x::l)
variable {es:List Expr}{l:Env'->M (List W)}{e:Expr}
theorem af:JA X E [] mNil:=pa_nil.imp fun σ H Q h=>by
 obtain⟨o,ρ,rfl,R,S,h⟩:=h
 exact h.pr R Rvs.nil
theorem ab (ha:JE X E e u)(hr:JA X E es l)(hs:starEach (e::es) X.env=(false,eval e X.env)::starEach es X.env:=by rfl):JA X E (e::es) (mCons u l):=(vI ha.h hr.h hs).imp fun σ H Q h=>by
 obtain⟨o,ρ,rfl,R,S,h⟩:=h
 exact⟨o,ρ,rfl,R,S,Ps.bd h fun p x vx e1 R1 r1 h1=>⟨p,ρ,rfl,R1,S.mono R e1,Ps.bd h1 fun q y vy e2 R2 r2 h2=>h2.pr R2 (Rvs.cons (r1.mono R1 e2) r2)⟩⟩
def tupW (l:List W):M W:=gd (l.length<=sizeLine) (pr (.tup l))
def mTup (l:Env'->M (List W)):Env'->M W:=fun ρ=>bd (l ρ) tupW
theorem Rv.newT {K:PySem.W.Frag}{o:Wo}(R:Rel K o){q:Addr}{l:List W}{vs:List V}(h:o.H q=none)(hl:Rvs K o l vs):Rv K ⟨o.mu,o.h,upd o.H q (.tup vs)⟩ (.tup l) (.ref q):=by
 unfold Rv;exact⟨q,vs,rfl,.of bF,hl.mono R (Ex.new h)⟩
theorem Rv.newL {K:PySem.W.Frag}{o:Wo}(R:Rel K o){q:Addr}{l:List W}{vs:List V}(h:o.H q=none)(hl:Rvs K o l vs):Rv K ⟨o.mu,o.h,upd o.H q (.lst vs)⟩ (.tl l) (.ref q):=by
 unfold Rv
 exact⟨q,vs,rfl,bF,fun z=>Lv.there R (show Lv o q from z) h,hl.mono R (Ex.new h)⟩
theorem aM {x1}(h:JA X E es l):JE X E (.Tuple es x1 pos) (mTup l):=(sR h.h).imp fun σ H Q h=>by
 obtain⟨o,ρ,rfl,R,S,h⟩:=h
 refine⟨o,ρ,rfl,R,S,Ps.bd h fun p x vx e1 R1 r1 h1=>?_⟩
 obtain⟨hz,h1⟩:=h1.gd
 exact⟨by rw[r1.len];exact hz,fun q hq=>Ps.at (p:=⟨p.mu,p.h,upd p.H q (.tup vx)⟩) h1 rfl (Ex.new hq) (R1.new hq) (Rv.newT R1 hq r1)⟩
def mTl (l:Env'->M (List W)):Env'->M W:=fun ρ=>bd (l ρ) fun x=>pr (.tl x)
def newW (x:List W):M W:=fun h=>.ok (.loc h.length) (h++[.lst x])
def mNew (l:Env'->M (List W)):Env'->M W:=fun ρ=>bd (l ρ) newW
theorem ci (h:JF X E e l):JE X E e (mTl l):=h.h.imp fun σ H Q h=>by
 obtain⟨o,ρ,rfl,R,S,h⟩:=h
 exact⟨o,ρ,rfl,R,S,Ps.bd h fun p x vx e1 R1 r1 h1=>fun q hq=>Ps.at (p:=⟨p.mu,p.h,upd p.H q (.lst vx)⟩) h1 rfl (Ex.new hq) (R1.new hq) (Rv.newL R1 hq r1)⟩
theorem fg (h:JF X E e l):JE X E e (mNew l):=h.h.imp fun σ H Q h=>by
 obtain⟨o,ρ,rfl,R,S,h⟩:=h
 refine⟨o,ρ,rfl,R,S,Ps.bd h fun p x vx e1 R1 r1 h1=>fun q hq=>?_⟩
 refine Ps.at (p:=p.add q (.lst x) (.lst vx)) h1 rfl (Ex.add hq) (R1.addL hq r1) ?_
 unfold Rv
 exact⟨by show _<(p.h++[_]).length;simp,by show V.ref q=V.ref (if p.h.length=p.h.length then q else _);rw[if_pos rfl]⟩
def lenG (l:Env'->M (List W)):Env'->M (List W):=fun ρ=>bd (l ρ) fun x=>gd (x.length<=sizeLine) (pr x)
theorem bS (h:JA X E es l):JF X E (.List es pos) (lenG l):=(xL h.h).impF fun σ H Q h=>by
 obtain⟨o,ρ,rfl,R,S,h⟩:=h
 refine⟨o,ρ,rfl,R,S,Ps.bd h fun p x vx e1 R1 r1 h1=>?_⟩
 obtain⟨hz,h1⟩:=h1.gd
 exact⟨by rw[r1.len];exact hz,h1.pr R1 r1⟩
end
end L2
set_option maxHeartbeats 1000000
namespace L2
open PySem PySem.Spec PyProof.Rows
section
variable {X:Cx}{E:XK}
theorem rv_int {K:PySem.W.Frag}{o:Wo}{i:Int}{v:V}:Rv K o (.int i) v↔v=.int i:=by unfold Rv;exact Iff.rfl
theorem rv_str {K:PySem.W.Frag}{o:Wo}{i:Str}{v:V}:Rv K o (.str i) v↔v=.str i:=by unfold Rv;exact Iff.rfl
theorem rv_bl {K:PySem.W.Frag}{o:Wo}{i:Bool}{v:V}:Rv K o (.bl i) v↔v=.bl i:=by unfold Rv;exact Iff.rfl
theorem rv_non {K:PySem.W.Frag}{o:Wo}{v:V}:Rv K o .non v↔v=.non:=by unfold Rv;exact Iff.rfl
theorem rv_ty {K:PySem.W.Frag}{o:Wo}{n:String}{v:V}:Rv K o (.ty n) v↔v=.ty n:=by unfold Rv;exact Iff.rfl
def lstOf (w:W):M (List W):=match w with
 |.tl l=>pr l
 |.cl l=>pr l
 |.loc k=>fun h=>match h[k]? with
  |some (.lst l)=>.ok l h
  |_=>.bad
 |_=>no
theorem fP {α β:Type}{r:Wo->α->β->Prop}{o:Wo}{w:W}{v:V}{k:List W->M α}{Q:β->Hp->Prop}(R:Rel X.K o)(hr:Rv X.K o w v)(h:Ps (cg X E) r o (bd (lstOf w) k o.h) Q):
  ∃l a vs,v=.ref a/\SqL X.K o.H a vs/\Rvs X.K o l vs/\Ps (cg X E) r o (k l o.h) Q:=by
 cases w with
 |tl l=>unfold Rv at hr;obtain⟨a,vs,e,h1,_,h2⟩:=hr;exact⟨l,a,vs,e,.of h1,h2,h⟩
 |cl l=>
  unfold Rv at hr
  obtain⟨a,vs,e,h1,h2⟩:=hr
  rcases h1 with⟨h1,_⟩|h1
  ·exact⟨l,a,vs,e,.inl h1,h2,h⟩
  ·exact⟨l,a,vs,e,.inr h1,h2,h⟩
 |loc j=>
  unfold Rv at hr
  unfold lstOf bd at h
  cases e:o.h[j]? with
  |none=>simp only[e] at h;exact h.elim
  |some b=>
   cases b with
   |lst l=>
    simp only[e] at h
    obtain⟨vs,h1,h2⟩:=R.ob j _ e
    exact⟨l,_,vs,hr.2,.of h1,h2,h⟩
   |_=>simp only[e] at h;exact h.elim
 |_=>exact h.elim
def lstO (w:W):M (List W):=match w with
 |.tl l=>pr l
 |.loc k=>fun h=>match h[k]? with
  |some (.lst l)=>.ok l h
  |_=>.bad
 |_=>no
theorem gX {α β:Type}{r:Wo->α->β->Prop}{o:Wo}{w:W}{v:V}{k:List W->M α}{Q:β->Hp->Prop}(R:Rel X.K o)(hr:Rv X.K o w v)(h:Ps (cg X E) r o (bd (lstO w) k o.h) Q):
  ∃l a vs,v=.ref a/\o.H a=some (.lst vs)/\Rvs X.K o l vs/\Ps (cg X E) r o (k l o.h) Q:=by
 cases w with
 |tl l=>unfold Rv at hr;obtain⟨a,vs,e,h1,_,h2⟩:=hr;exact⟨l,a,vs,e,h1,h2,h⟩
 |loc j=>
  unfold Rv at hr
  unfold lstO bd at h
  cases e:o.h[j]? with
  |none=>simp only[e] at h;exact h.elim
  |some b=>
   cases b with
   |lst l=>
    simp only[e] at h
    obtain⟨vs,h1,h2⟩:=R.ob j _ e
    exact⟨l,_,vs,hr.2,h1,h2,h⟩
   |_=>simp only[e] at h;exact h.elim
 |_=>exact h.elim
theorem jx {o:Wo}{q:Addr}{l:List W}{vs:List V}{Q:VK}(R:Rel X.K o)(hq:o.H q=none)(hl:Rvs X.K o l vs)(h:Ps (cg X E) (Rv X.K) o (pr (.tup l) o.h) Q):Q (.ref q) (upd o.H q (.tup vs)):=
 Ps.at (p:=⟨o.mu,o.h,upd o.H q (.tup vs)⟩) h rfl (Ex.new hq) (R.new hq) (Rv.newT R hq hl)
theorem ma {o:Wo}{q:Addr}{l:List W}{vs:List V}{Q:VK}(R:Rel X.K o)(hq:o.H q=none)(hl:Rvs X.K o l vs)(h:Ps (cg X E) (Rv X.K) o (pr (.tl l) o.h) Q):Q (.ref q) (upd o.H q (.lst vs)):=
 Ps.at (p:=⟨o.mu,o.h,upd o.H q (.lst vs)⟩) h rfl (Ex.new hq) (R.new hq) (Rv.newL R hq hl)
def addW (x y:W):M W:=match x,y with
 |.int i,.int j=>pr (.int (i+j))
 |.str a,.str b=>gd (a.length+b.length<=sizeLine) (pr (.str (a++b)))
 |.tup a,.tup b=>gd (a.isEmpty=false/\a.length+b.length<=sizeLine) (pr (.tup (a++b)))
 |x,y=>bd (lstO x) fun a=>bd (lstO y) fun b=>gd (a.length+b.length<=sizeLine) (pr (.tl (a++b)))
theorem vL:OpM X E (fun x y H Q=>rI0 (fun i j=>.int (i+j)) x y H Q\/(fun x y H Q=>(fun x y H Q=> ∃i j,x=.str i/\y=.str j/\i.length+j.length<=sizeLine/\Q (.str (i++j)) H) x y H Q\/(fun x y H Q=>rCatT X.K x y H Q\/rCat x y H Q) x y H Q) x y H Q) addW:=by
 intro o x y vx vy Q R rx ry h
 unfold addW at h
 split at h
 ·exact .inl ⟨_,_,rv_int.mp rx,rv_int.mp ry,h.pr R (rv_int.mpr rfl)⟩
 ·obtain⟨hz,h⟩:=h.gd
  exact .inr (.inl ⟨_,_,rv_str.mp rx,rv_str.mp ry,hz,h.pr R (rv_str.mpr rfl)⟩)
 ·obtain⟨hz,h⟩:=h.gd
  unfold Rv at rx ry
  obtain⟨a,vs,e1,s1,r1⟩:=rx
  obtain⟨b,us,e2,s2,r2⟩:=ry
  have n1:vs≠ []:=fun z=>by
   have:=r1.len
   rw[z] at this
   have q:=hz.1
   rw[List.eq_nil_of_length_eq_zero this.symm] at q
   cases q
  refine .inr (.inr (.inl ⟨a,b,vs,us,e1,e2,s1,s2,n1,by rw[r1.len,r2.len];exact hz.2,fun z=>?_,fun _ q hq=>jx R hq (r1.app r2) h⟩))
  refine h.pr R ?_
  unfold Rv
  exact⟨a,vs,rfl,s1,by have:=r1.app r2;rw[z,List.append_nil] at this;exact this⟩
 ·obtain⟨l,a,vs,e1,s1,r1,h⟩:=gX R rx h
  obtain⟨m,b,us,e2,s2,r2,h⟩:=gX R ry h
  obtain⟨hz,h⟩:=h.gd
  exact .inr (.inr (.inr ⟨a,b,vs,us,e1,e2,s1,s2,by rw[r1.len,r2.len];exact hz,fun q hq=>ma R hq (r1.app r2) h⟩))
theorem aV {a b:Expr}{pos:Pos}{fa fb:Env'->M W}(ha:JE X E a fa)(hb:JE X E b fb):JE X E (.BinOp a .Add b pos) (m2 addW fa fb):=
 ky (op_add.or (op_add_str.or (op_catT.or s9))) vL ha hb
def iiW (C:Int->Int->Prop) [∀i j,Decidable (C i j)] (g:Int->Int->W)(x y:W):M W:=match x,y with
 |.int i,.int j=>gd (C i j) (pr (g i j))
 |_,_=>no
theorem hZ {C:Int->Int->Prop} [∀i j,Decidable (C i j)] {g:Int->Int->W}{g':Int->Int->V}(hg: ∀o i j,Rv X.K o (g i j) (g' i j)):OpM X E (rI C g') (iiW C g):=by
 intro o x y vx vy Q R rx ry h
 unfold iiW at h
 split at h
 ·obtain⟨hz,h⟩:=h.gd
  exact⟨_,_,rv_int.mp rx,rv_int.mp ry,hz,h.pr R (hg _ _ _)⟩
 ·exact h.elim
theorem opR0 {f:Value->Value->Sem Value}{g':Int->Int->V}(h:OpR X f (rI0 g')):OpR X f (rI (fun _ _=>True) g'):=fun pins s σ H x y v u Q I rx ry q=>h pins s σ H x y v u Q I rx ry (let ⟨i,j,e1,e2,_,q⟩:=q;⟨i,j,e1,e2,q⟩)
noncomputable abbrev CT:Int->Int->Prop:=fun _ _=>True
def subW:W->W->M W:=iiW CT fun i j=>.int (i - j)
theorem iZ {a b:Expr}{pos:Pos}{fa fb:Env'->M W}(ha:JE X E a fa)(hb:JE X E b fb):JE X E (.BinOp a .Sub b pos) (m2 subW fa fb):=
 ky (opR0 xQ) (hZ fun _ _ _=>rv_int.mpr rfl) ha hb
noncomputable def CDivB (i j:Int):Prop:=0<j/\j<2 ^ 200
instance (i j:Int):Decidable (CDivB i j):=by unfold CDivB;infer_instance
theorem sZ:OpR X (binaryOp .FloorDiv) (rI CDivB fun i j=>.int (i / j)):=opI fun i j _ _ _ _ _ hc q=>by
 have h1:(0:Int)<j:=hc.1
 have h2:j<2 ^ 200:=hc.2
 refine floordiv_int (by omega) (by rw[Int.fdiv_eq_ediv_of_nonneg i (by omega)];exact q) (.inl (PyProof.noPylong_of_log2 ?_))
 have h3:j.natAbs<2 ^ 200:=by omega
 exact Nat.lt_of_lt_of_le ((Nat.log2_lt (by omega)).mpr h3) (by decide)
def fdivW:W->W->M W:=iiW CDivB fun i j=>.int (i / j)
theorem mz {a b:Expr}{pos:Pos}{fa fb:Env'->M W}(ha:JE X E a fa)(hb:JE X E b fb):JE X E (.BinOp a .FloorDiv b pos) (m2 fdivW fa fb):=
 ky sZ (hZ fun _ _ _=>rv_int.mpr rfl) ha hb
noncomputable abbrev CMod:Int->Int->Prop:=fun _ j=>0<j
def modW:W->W->M W:=iiW CMod fun i j=>.int (i % j)
theorem eD {a b:Expr}{pos:Pos}{fa fb:Env'->M W}(ha:JE X E a fa)(hb:JE X E b fb):JE X E (.BinOp a .Mod b pos) (m2 modW fa fb):=
 ky xU (hZ fun _ _ _=>rv_int.mpr rfl) ha hb
instance (i j:Int):Decidable (CPow i j):=by unfold CPow;infer_instance
def powW:W->W->M W:=iiW CPow fun i j=>.int (i ^ j.toNat)
theorem ku {a b:Expr}{pos:Pos}{fa fb:Env'->M W}(ha:JE X E a fa)(hb:JE X E b fb):JE X E (.BinOp a .Pow b pos) (m2 powW fa fb):=
 ky xS (hZ fun _ _ _=>rv_int.mpr rfl) ha hb
theorem vT {z:Str}{n:Int}(h0:0<=n)(h1:n<=10000)(h:z.length<=30000)(hz:z.length * n.toNat<=1000000):MulOk z n:=by
 refine⟨?_,fun a b=>?_,fun a b=>?_⟩
 ·rw[Bool.or_eq_false_iff,decide_eq_false_iff_not,decide_eq_false_iff_not];omega
 ·have:(100000000000000:Int)<=(2 ^ 63 - 1) / n:=Int.le_ediv_of_mul_le (by omega) (by omega)
  omega
 ·unfold Builtin.Str.tooLong
  have:sizeLine=16777216:=by decide
  exact decide_eq_false (by omega)
instance (i j:Int):Decidable (CMul i j):=by unfold CMul;infer_instance
instance (i j:Int):Decidable (CMulB i j):=by unfold CMulB;infer_instance
def CMulA (i j:Int):Prop:=CMul i j\/CMulB i j
instance (i j:Int):Decidable (CMulA i j):=by unfold CMulA;infer_instance
theorem op_mulA:OpR X (binaryOp .Mult) (rI CMulA fun i j=>.int (i * j)):=opI fun _ _ _ _ _ _ _ hc q=>mul_int q (by rcases hc with h|h;exact h.ok;exact h.ok)
def mulW (x y:W):M W:=match x,y with
 |.int i,.int j=>gd (CMulA i j) (pr (.int (i * j)))
 |.str z,.int n=>gd (0<=n/\n<=10000/\z.length<=30000/\z.length * n.toNat<=1000000) (pr (.str (Txt.mul z n)))
 |x,.int n=>bd (lstO x) fun l=>gd (0<=n/\n<=1000000/\l.length * n.toNat<=sizeLine) (pr (.tl (List.replicate n.toNat l).flatten))
 |_,_=>no
theorem Rvs.rep {K:PySem.W.Frag}{o:Wo}{l:List W}{vs:List V}(h:Rvs K o l vs): ∀n:Nat,Rvs K o (List.replicate n l).flatten (List.replicate n vs).flatten
 |0=>Rvs.nil
 |n+1=>by rw[List.replicate_succ,List.replicate_succ,List.flatten_cons,List.flatten_cons];exact h.app (Rvs.rep h n)
theorem vJ:OpM X E (fun x y H Q=>rI CMulA (fun i j=>.int (i * j)) x y H Q\/(fun x y H Q=>(fun x y H Q=> ∃ (z:Str) (n:Int),x=.str z/\y=.int n/\MulOk z n/\Q (.str (Txt.mul z n)) H) x y H Q\/rRep x y H Q) x y H Q) mulW:=by
 intro o x y vx vy Q R rx ry h
 unfold mulW at h
 split at h
 ·obtain⟨hz,h⟩:=h.gd
  exact .inl ⟨_,_,rv_int.mp rx,rv_int.mp ry,hz,h.pr R (rv_int.mpr rfl)⟩
 ·obtain⟨hz,h⟩:=h.gd
  exact .inr (.inl ⟨_,_,rv_str.mp rx,rv_int.mp ry,vT hz.1 hz.2.1 hz.2.2.1 hz.2.2.2,h.pr R (rv_str.mpr rfl)⟩)
 ·obtain⟨l,a,vs,e1,s1,r1,h⟩:=gX R rx h
  obtain⟨hz,h⟩:=h.gd
  exact .inr (.inr ⟨a,_,vs,e1,rv_int.mp ry,s1,by omega,by omega,by rw[r1.len];exact hz.2.2,fun q hq=>ma R hq (r1.rep _) h⟩)
 ·exact h.elim
theorem kB {a b:Expr}{pos:Pos}{fa fb:Env'->M W}(ha:JE X E a fa)(hb:JE X E b fb):JE X E (.BinOp a .Mult b pos) (m2 mulW fa fb):=
 ky (op_mulA.or (op_mul_str.or xR)) vJ ha hb
def ltW:W->W->M W:=iiW CT fun i j=>.bl (decide (i<j))
def leW:W->W->M W:=iiW CT fun i j=>.bl (decide (i<=j))
def gtW:W->W->M W:=iiW CT fun i j=>.bl (decide (j<i))
def geW:W->W->M W:=iiW CT fun i j=>.bl (decide (j<=i))
theorem fI:OpM X E (rI CT fun i j=>.bl (decide (i<j))) ltW:=hZ fun _ _ _=>rv_bl.mpr rfl
theorem sX:OpM X E (rI CT fun i j=>.bl (decide (j<i))) gtW:=hZ fun _ _ _=>rv_bl.mpr rfl
theorem xP:OpM X E (rI CT fun i j=>.bl (decide (j<=i))) geW:=hZ fun _ _ _=>rv_bl.mpr rfl
theorem hJ:OpR X (compareOp .Lt) (rI CT fun i j=>.bl (decide (i<j))):=opR0 zf
theorem wP:OpR X (compareOp .Gt) (rI CT fun i j=>.bl (decide (j<i))):=opR0 zg
theorem ze:OpR X (compareOp .GtE) (rI CT fun i j=>.bl (decide (j<=i))):=opR0 zh
noncomputable def isNon:W->Bool
 |.non=>true
 |_=>false
def isNW (x y:W):M W:=match y with
 |.non=>pr (.bl (isNon x))
 |_=>no
theorem wv {K:PySem.W.Frag}{o:Wo}{x:W}{v:V}(h:Rv K o x v):decide (v=.non)=isNon x:=by
 cases x with
 |non=>rw[rv_non.mp h];rfl
 |bl _=>rw[rv_bl.mp h];rfl
 |int _=>rw[rv_int.mp h];rfl
 |str _=>rw[rv_str.mp h];rfl
 |ty _=>rw[rv_ty.mp h];rfl
 |exc _=>unfold Rv at h;obtain⟨a,_,rfl,_⟩:=h;rfl
 |cls _=>unfold Rv at h;obtain⟨a,rfl,_⟩:=h;rfl
 |tup _=>unfold Rv at h;obtain⟨a,_,rfl,_⟩:=h;rfl
 |tl _=>unfold Rv at h;obtain⟨a,_,rfl,_⟩:=h;rfl
 |cl _=>unfold Rv at h;obtain⟨a,_,rfl,_⟩:=h;rfl
 |dv _ _=>unfold Rv at h;obtain⟨a,_,rfl,_⟩:=h;rfl
 |kt _=>unfold Rv at h;obtain⟨a,rfl,_⟩:=h;rfl
 |loc _=>unfold Rv at h;obtain⟨_,rfl⟩:=h;rfl
theorem vK:OpM X E (fun x y H Q=>y=.non/\Q (.bl (decide (x=.non))) H) isNW:=by
 intro o x y vx vy Q R rx ry h
 unfold isNW at h
 split at h
 ·exact⟨rv_non.mp ry,by rw[wv rx];exact h.pr R (rv_bl.mpr rfl)⟩
 ·exact h.elim
noncomputable def vOf:W->Option V
 |.non=>some .non
 |.bl b=>some (.bl b)
 |.int i=>some (.int i)
 |.str x=>some (.str x)
 |_=>none
theorem lT {K:PySem.W.Frag}{o:Wo}{x:W}{v u:V}(e:vOf x=some u)(h:Rv K o x v):v=u:=by
 cases x with
 |non=>cases e;exact rv_non.mp h
 |bl _=>cases e;exact rv_bl.mp h
 |int _=>cases e;exact rv_int.mp h
 |str _=>cases e;exact rv_str.mp h
 |_=>cases e
theorem ng {x:W}{u:V}(e:vOf x=some u):flatV u=true:=by
 cases x<;>first|(cases e;done)|(cases e;rfl)
def vsOf:List W->Option (List V)
 |[]=>some []
 |w::l=>match vOf w,vsOf l with
  |some v,some vs=>some (v::vs)
  |_,_=>none
theorem pp {K:PySem.W.Frag}{o:Wo}: ∀ {l:List W}{vs us:List V},vsOf l=some us->Rvs K o l vs->vs=us
 |[],vs,us,e,h=>by unfold Rvs at h;cases e;exact h
 |w::l,vs,us,e,h=>by
  unfold Rvs at h
  obtain⟨v,r,rfl,h1,h2⟩:=h
  unfold vsOf at e
  split at e
  ·rename_i v' vs' e1 e2
   cases e
   rw[lT e1 h1,pp e2 h2]
  ·cases e
theorem lf: ∀ {l:List W}{us:List V},vsOf l=some us->us.all flatV=true
 |[],us,e=>by cases e;rfl
 |w::l,us,e=>by
  unfold vsOf at e
  split at e
  ·rename_i v' vs' e1 e2
   cases e
   rw[List.all_cons,ng e1,lf e2];rfl
  ·cases e
end
end L2
set_option maxHeartbeats 1000000
namespace L2
open PySem PySem.Spec PyProof.Rows
noncomputable def optL {α β:Type}(f:α->Option β):List α->Option (List β)
 |[]=>some []
 |a::l=>match f a,optL f l with
  |some b,some r=>some (b::r)
  |_,_=>none
def dataH (h:List Ob):Nat->W->Option PyData
 |0,_=>none
 |_+1,.non=>some .none
 |_+1,.bl b=>some (.bool b)
 |_+1,.int i=>some (.int i)
 |_+1,.str x=>some (.str x)
 |n+1,.tup l=>(optL (dataH h n) l).map .tuple
 |n+1,.tl l=>(optL (dataH h n) l).map .list
 |n+1,.cl l=>(optL (dataH h n) l).map .list
 |n+1,.loc k=>match h[k]? with
  |some (.lst l)=>(optL (dataH h n) l).map .list
  |_=>none
 |_+1,_=>none
section
variable {K:PySem.W.Frag}{o:Wo}
theorem j5 {n:Nat}(ih: ∀w v d,dataH o.h n w=some d->Rv K o w v->Den K o.H v d/\d.depth<=n): ∀ {l:List W}{vs:List V}{ds:List PyData},optL (dataH o.h n) l=some ds->Rvs K o l vs->DenAll K o.H vs ds/\PyData.depthAll ds<=n
 |[],vs,ds,e,h=>by unfold Rvs at h;cases e;rw[h];exact⟨.nil,by simp [PyData.depthAll]⟩
 |w::l,vs,ds,e,h=>by
  unfold Rvs at h
  obtain⟨v,r,rfl,h1,h2⟩:=h
  unfold optL at e
  split at e
  ·rename_i d ds' e1 e2
   cases e
   obtain⟨a1,a2⟩:=ih w v d e1 h1
   obtain⟨b1,b2⟩:=j5 ih e2 h2
   exact⟨.cons a1 b1,by rw[PyData.depthAll];omega⟩
  ·cases e
theorem je (R:Rel K o): ∀ (n:Nat) (w:W) (v:V) (d:PyData),dataH o.h n w=some d->Rv K o w v->Den K o.H v d/\d.depth<=n
 |0,_,_,_,e,_=>by cases e
 |n+1,w,v,d,e,h=>by
  have ih:=je R n
  have seq: ∀ {l:List W}{a:Addr}{vs:List V}{ds:List PyData},optL (dataH o.h n) l=some ds->SqL K o.H a vs->Rvs K o l vs->Den K o.H (.ref a) (.list ds)/\(PyData.list ds).depth<=n+1:=fun{l a vs ds} e s r=>by
   obtain⟨b1,b2⟩:=j5 ih e r
   refine⟨.lst s b1,?_⟩
   rw[PyData.depth];omega
  cases w with
  |non=>cases e;rw[rv_non.mp h];exact⟨.non,by simp [PyData.depth]⟩
  |bl b=>cases e;rw[rv_bl.mp h];exact⟨.bl b,by simp [PyData.depth]⟩
  |int b=>cases e;rw[rv_int.mp h];exact⟨.int b,by simp [PyData.depth]⟩
  |str b=>cases e;rw[rv_str.mp h];exact⟨.str b,by simp [PyData.depth]⟩
  |ty b=>cases e
  |exc b=>cases e
  |cls b=>cases e
  |dv a b=>cases e
  |kt a=>cases e
  |tup l=>
   unfold dataH at e
   obtain⟨ds,e1,rfl⟩:=Option.map_eq_some_iff.mp e
   unfold Rv at h
   obtain⟨a,vs,rfl,s,r⟩:=h
   obtain⟨b1,b2⟩:=j5 ih e1 r
   refine⟨.tup s b1,?_⟩
   rw[PyData.depth];omega
  |tl l=>
   unfold dataH at e
   obtain⟨ds,e1,rfl⟩:=Option.map_eq_some_iff.mp e
   unfold Rv at h
   obtain⟨a,vs,rfl,s,_,r⟩:=h
   exact seq e1 (.of s) r
  |cl l=>
   unfold dataH at e
   obtain⟨ds,e1,rfl⟩:=Option.map_eq_some_iff.mp e
   unfold Rv at h
   obtain⟨a,vs,rfl,s,r⟩:=h
   refine seq e1 ?_ r
   rcases s with⟨s,_⟩|s
   ·exact .inl s
   ·exact .inr s
  |loc k=>
   unfold dataH at e
   split at e
   ·rename_i l hk
    obtain⟨ds,e1,rfl⟩:=Option.map_eq_some_iff.mp e
    unfold Rv at h
    obtain⟨vs,h1,h2⟩:=R.ob k _ hk
    rw[h.2]
    exact seq e1 (.of h1) h2
   ·cases e
end
def eqB (x y:W)(h:List Ob):Option Bool:=match vOf x,vOf y with
 |some a,some b=>if scal a b=true then some (decide (a=b)) else match dataH h 50 x,dataH h 50 y with
  |some d,some e=>if d.canLay0=true/\e.canLay0=true then some (PyData.eqv d e) else none
  |_,_=>none
 |_,_=>match dataH h 50 x,dataH h 50 y with
  |some d,some e=>if d.canLay0=true/\e.canLay0=true then some (PyData.eqv d e) else none
  |_,_=>none
def eqW (x y:W):M W:=fun h=>match eqB x y h with
 |some b=>.ok (.bl b) h
 |none=>.bad
def neW (x y:W):M W:=fun h=>match eqB x y h with
 |some b=>.ok (.bl (!b)) h
 |none=>.bad
section
variable {X:Cx}{E:XK}
theorem uA {o:Wo}{x y:W}{vx vy:V}{b:Bool}(hu:X.A.units+64<cLine)(R:Rel X.K o)(rx:Rv X.K o x vx)(ry:Rv X.K o y vy)(e:eqB x y o.h=some b):
  (scal vx vy=true/\b=decide (vx=vy))\/ ∃d e,Den X.K o.H vx d/\Den X.K o.H vy e/\d.canLay0=true/\e.canLay0=true/\X.A.units+min d.depth e.depth<cLine/\b=PyData.eqv d e:=by
 have deep:(match dataH o.h 50 x,dataH o.h 50 y with
  |some d,some e=>if d.canLay0=true/\e.canLay0=true then some (PyData.eqv d e) else none
  |_,_=>none)=some b-> ∃d e,Den X.K o.H vx d/\Den X.K o.H vy e/\d.canLay0=true/\e.canLay0=true/\X.A.units+min d.depth e.depth<cLine/\b=PyData.eqv d e:=fun q=>by
  split at q
  ·rename_i d e' e1 e2
   split at q
   ·rename_i hc
    obtain⟨a1,a2⟩:=je R _ _ _ _ e1 rx
    obtain⟨b1,b2⟩:=je R _ _ _ _ e2 ry
    exact⟨d,e',a1,b1,hc.1,hc.2,by omega,(Option.some.inj q).symm⟩
   ·cases q
  ·cases q
 unfold eqB at e
 split at e
 ·rename_i a c e1 e2
  split at e
  ·rename_i hs
   rw[lT e1 rx,lT e2 ry]
   exact .inl ⟨hs,(Option.some.inj e).symm⟩
  ·exact .inr (deep e)
 ·exact .inr (deep e)
theorem aQ (hu:X.A.units+64<cLine):OpM X E (fun x y H Q=>rEq x y H Q\/rEqD X.K X.A false x y H Q) eqW:=by
 intro o x y vx vy Q R rx ry h
 unfold eqW at h
 cases e:eqB x y o.h with
 |none=>rw[e] at h;exact h.elim
 |some b=>
  rw[e] at h
  have q:Q (.bl b) o.H:=Ps.pr (c:=cg X E) (r:=Rv X.K) (a:=W.bl b) h R (rv_bl.mpr rfl)
  rcases uA hu R rx ry e with⟨s,rfl⟩|⟨d,e',a1,a2,a3,a4,a5,rfl⟩
  ·exact .inl ⟨s,q⟩
  ·exact .inr ⟨d,e',a1,a2,a3,a4,a5,by rw[if_neg Bool.false_ne_true];exact q⟩
theorem hW (hu:X.A.units+64<cLine):OpM X E (fun x y H Q=>rNe x y H Q\/rEqD X.K X.A true x y H Q) neW:=by
 intro o x y vx vy Q R rx ry h
 unfold neW at h
 cases e:eqB x y o.h with
 |none=>rw[e] at h;exact h.elim
 |some b=>
  rw[e] at h
  have q:Q (.bl (!b)) o.H:=Ps.pr (c:=cg X E) (r:=Rv X.K) (a:=W.bl (!b)) h R (rv_bl.mpr rfl)
  rcases uA hu R rx ry e with⟨s,rfl⟩|⟨d,e',a1,a2,a3,a4,a5,rfl⟩
  ·exact .inl ⟨s,q⟩
  ·exact .inr ⟨d,e',a1,a2,a3,a4,a5,by rw[if_pos rfl];exact q⟩
theorem aZ:OpR X (compareOp .Eq) (fun x y H Q=>rEq x y H Q\/rEqD X.K X.A false x y H Q):=op_eq.or xX
theorem j4:OpR X (compareOp .NotEq) (fun x y H Q=>rNe x y H Q\/rEqD X.K X.A true x y H Q):=op_ne.or xT
def keyOf:W->Option Key
 |.int i=>some (.inl i)
 |.str x=>some (.inr x)
 |_=>none
theorem fQ {K:PySem.W.Frag}{o:Wo}{x:W}{v:V}{k:Key}(e:keyOf x=some k)(h:Rv K o x v):v=kV k:=by
 cases x with
 |int _=>cases e;exact rv_int.mp h
 |str _=>cases e;exact rv_str.mp h
 |_=>cases e
def dicOf (w:W)(h:List Ob):Option (List Key×List W):=match w with
 |.dv ks ws=>some (ks,ws)
 |.loc k=>match h[k]? with
  |some (.dic ks ws)=>some (ks,ws)
  |_=>none
 |_=>none
theorem oy {o:Wo}{w:W}{v:V}{ks:List Key}{ws:List W}(R:Rel X.K o)(e:dicOf w o.h=some (ks,ws))(h:Rv X.K o w v): ∃a kvs,v=.ref a/\Rd o.H a (.dK kvs)/\kvs.map (·.1)=ks/\Rvs X.K o ws (kvs.map (·.2)):=by
 cases w with
 |dv a b=>
  cases e
  unfold Rv at h
  obtain⟨a,kvs,e,h1,_,h2,h3⟩:=h
  exact⟨a,kvs,e,h1,h2,h3⟩
 |loc k=>
  unfold dicOf at e
  dsimp only at e
  split at e
  ·rename_i a b hk
   cases e
   unfold Rv at h
   obtain⟨kvs,h1,h2,h3⟩:=R.ob k _ hk
   exact⟨_,kvs,h.2,.inl h1,h2,h3⟩
  ·cases e
 |_=>cases e
noncomputable def atK {κ:Type} [DecidableEq κ]:List κ->List W->κ->Option W
 |k::ks,w::ws,x=>if k=x then some w else atK ks ws x
 |_,_,_=>none
theorem jD {κ:Type} [DecidableEq κ] {K:PySem.W.Frag}{o:Wo}{x:κ}: ∀ {ks:List κ}{ws:List W}{kvs:List (κ×V)},kvs.map (·.1)=ks->Rvs K o ws (kvs.map (·.2))->match atK ks ws x with
  |some w=> ∃v,valV kvs x=some v/\Rv K o w v
  |none=>valV kvs x=none
 |[],_,[],_,_=>rfl
 |_,_,(k,v)::r,e,h=>by
  subst e
  cases ‹List W› with
  |nil=>unfold Rvs at h;cases h
  |cons w ws=>
   unfold Rvs at h
   obtain⟨v',r',e',h1,h2⟩:=h
   cases e'
   have ih:=jD (x:=x) (ks:=r.map (·.1)) (ws:=ws) (kvs:=r) rfl h2
   show match (if k=x then some w else atK (r.map (·.1)) ws x) with
    |some w=> ∃v',valV ((k,v)::r) x=some v'/\Rv K o w v'
    |none=>valV ((k,v)::r) x=none
   by_cases z:k=x
   ·rw[if_pos z]
    exact⟨v,by unfold valV;rw[List.find?_cons_of_pos (by simpa using z)];rfl,h1⟩
   ·rw[if_neg z]
    have ev:valV ((k,v)::r) x=valV r x:=by unfold valV;rw[List.find?_cons_of_neg (by simpa using z)]
    rw[ev]
    exact ih
def inB (x y:W)(h:List Ob):Option Bool:=match y with
 |.str b=>match x with
  |.str a=>some (!(Builtin.Str.occurrences b a 0 b.length 1).isEmpty)
  |_=>none
 |.tup l=>match vOf x,vsOf l with
  |some v,some vs=>some (inV v vs)
  |_,_=>none
 |y=>match dicOf y h with
  |some (ks,ws)=>match keyOf x with
   |some k=>some (atK ks ws k).isSome
   |none=>none
  |none=>match lstOf y h with
   |.ok l _=>match vOf x,vsOf l with
    |some v,some vs=>some (inV v vs)
    |_,_=>none
   |_=>none
def inW (x y:W):M W:=fun h=>match inB x y h with
 |some b=>.ok (.bl b) h
 |none=>.bad
theorem oa {o:Wo}{w:W}{v:V}{l:List W}{h':List Ob}(R:Rel X.K o)(hr:Rv X.K o w v)(e:lstOf w o.h=.ok l h'):h'=o.h/\ ∃a vs,v=.ref a/\SqL X.K o.H a vs/\Rvs X.K o l vs:=by
 have hh:h'=o.h:=by
  cases w with
  |tl l'=>cases e;rfl
  |cl l'=>cases e;rfl
  |loc j=>
   unfold lstOf at e
   dsimp only at e
   split at e
   ·cases e;rfl
   ·cases e
  |_=>cases e
 subst hh
 have h:Ps (cg X (fun _ _ _=>False)) (fun (_:Wo) (a:List W) (b:List W)=>a=b) o (bd (lstOf w) (fun l=>pr l) o.h) (fun b _=>b=l):=by
  unfold bd
  rw[e]
  intro p b _ _ _ q
  exact q.symm
 obtain⟨m,a,vs,e1,e2,e3,h⟩:=fP R hr h
 have:m=l:=h.pr R rfl
 subst this
 exact⟨rfl,a,vs,e1,e2,e3⟩
def rInD:R2:=fun x y H Q=> ∃a ov,y=.ref a/\DGet H a x ov/\Q (.bl ov.isSome) H
theorem xW (hu:X.A.units+1<cLine):OpR X (compareOp .In) rInD:=by
 intro pins s σ H x y v u Q I rx ry h
 obtain⟨a,ov,rfl,g,q⟩:=h
 cases ry
 exact zW hu I g rx fun s3 I3=>⟨.bl ov.isSome,H,I3,rfl,q⟩
theorem yH {o:Wo}{x y:W}{vx vy:V}{b:Bool}(R:Rel X.K o)(rx:Rv X.K o x vx)(ry:Rv X.K o y vy)(e:inB x y o.h=some b):
  (∃i j,vx=.str i/\vy=.str j/\b=(!(Builtin.Str.occurrences j i 0 j.length 1).isEmpty))\/(∃p xs,vy=.ref p/\(SqL X.K o.H p xs\/SqT X.K o.H p xs)/\flatV vx=true/\xs.all flatV=true/\b=inV vx xs)\/ ∃a ov,vy=.ref a/\DGet o.H a vx ov/\b=ov.isSome:=by
 have fl: ∀ {l:List W}{vs:List V},Rvs X.K o l vs->(match vOf x,vsOf l with
    |some v,some vs=>some (inV v vs)
    |_,_=>none)=some b->flatV vx=true/\vs.all flatV=true/\b=inV vx vs:=fun{l vs} r q=>by
  split at q
  ·rename_i v us e1 e2
   rw[lT e1 rx,pp e2 r]
   exact⟨ng e1,lf e2,(Option.some.inj q).symm⟩
  ·cases q
 unfold inB at e
 split at e
 ·split at e
  ·exact .inl ⟨_,_,rv_str.mp rx,rv_str.mp ry,(Option.some.inj e).symm⟩
  ·cases e
 ·unfold Rv at ry
  obtain⟨a,vs,rfl,s,r⟩:=ry
  obtain⟨f1,f2,f3⟩:=fl r e
  exact .inr (.inl ⟨a,vs,rfl,.inr s,f1,f2,f3⟩)
 ·split at e
  ·rename_i ks ws hd
   split at e
   ·rename_i k hk
    obtain⟨a,kvs,rfl,h1,h2,h3⟩:=oy R hd ry
    rw[fQ hk rx]
    refine .inr (.inr ⟨a,valV kvs k,rfl,.inl ⟨kvs,k,h1,rfl,rfl⟩,?_⟩)
    rw[<-Option.some.inj e]
    have:=jD (x:=k) h2 h3
    cases q:atK ks ws k with
    |none=>rw[q] at this;rw[show valV kvs k=none from this];rfl
    |some w=>rw[q] at this;obtain⟨v,hv,_⟩:=this;rw[hv];rfl
   ·cases e
  ·split at e
   ·rename_i l h' hl
    obtain⟨rfl,a,vs,rfl,s,r⟩:=oa R ry hl
    obtain⟨f1,f2,f3⟩:=fl r e
    exact .inr (.inl ⟨a,vs,rfl,.inl s,f1,f2,f3⟩)
   ·cases e
noncomputable abbrev rInA (X:Cx):R2:=fun x y H Q=>(fun x y H Q=> ∃i j,x=.str i/\y=.str j/\Q (.bl (!(Builtin.Str.occurrences j i 0 j.length 1).isEmpty)) H) x y H Q\/(fun x y H Q=>rIn X.K false x y H Q\/rInD x y H Q) x y H Q
theorem pO (hu:X.A.units+1<cLine):OpR X (compareOp .In) (rInA X):=op_in_str.or (op_in_seq.or (xW hu))
theorem mf:OpM X E (rInA X) inW:=by
 intro o x y vx vy Q R rx ry h
 unfold inW at h
 cases e:inB x y o.h with
 |none=>rw[e] at h;exact h.elim
 |some b=>
  rw[e] at h
  have q:Q (.bl b) o.H:=Ps.pr (c:=cg X E) (r:=Rv X.K) (a:=W.bl b) h R (rv_bl.mpr rfl)
  rcases yH R rx ry e with⟨i,j,e1,e2,rfl⟩|⟨p,xs,e1,e2,e3,e4,rfl⟩|⟨a,ov,e1,e2,rfl⟩
  ·exact .inl ⟨i,j,e1,e2,q⟩
  ·exact .inr (.inl ⟨p,xs,e1,e2,e3,e4,by rw[if_neg Bool.false_ne_true];exact q⟩)
  ·exact .inr (.inr ⟨a,ov,e1,e2,q⟩)
theorem Rvs.atI {K:PySem.W.Frag}{o:Wo}{l:List W}{vs:List V}{i:Int}{w:W}(h:Rvs K o l vs)(e:L2.atI l i=some w): ∃v,L2.atI vs i=some v/\Rv K o w v:=by
 unfold L2.atI at e ⊢
 rw[h.len]
 cases q:ixN l.length i with
 |none=>rw[q] at e;cases e
 |some j=>rw[q] at e;exact h.get e
def ixO (x y:W)(h:List Ob):Option W:=match dicOf x h with
 |some (ks,ws)=>match keyOf y with
  |some k=>atK ks ws k
  |none=>none
 |none=>match y with
  |.int i=>match x with
   |.str z=>if z.length<=sizeLine then (atI z.cps.toList i).map fun c=>.str ⟨#[c]⟩ else none
   |.tup l=>atI l i
   |x=>match lstOf x h with
    |.ok l _=>atI l i
    |_=>none
  |_=>none
def ixW (x y:W):M W:=fun h=>match ixO x y h with
 |some w=>.ok w h
 |none=>.bad
def rIxD:R2:=fun x y H Q=> ∃a v,x=.ref a/\DGet H a y (some v)/\Q v H
theorem wu (hu:X.A.units+1<cLine):IxR X rIxD:=by
 intro value slice pins s σ H x y v u Q I rx ry h hs
 obtain⟨a,z,rfl,g,q⟩:=h
 cases rx
 exact tail_any (ox I g) PySem.F.slot_dict_getitem.lookup (rH hu I g ry fun w' s3 I3 rw'=>⟨z,H,I3,rw',q⟩) hs
theorem xO:OpM X E (fun x y H Q=>rIx X.K x y H Q\/rIxD x y H Q) ixW:=by
 intro o x y vx vy Q R rx ry h
 unfold ixW at h
 cases e:ixO x y o.h with
 |none=>rw[e] at h;exact h.elim
 |some w=>
  rw[e] at h
  have q: ∀ {v:V},Rv X.K o w v->Q v o.H:=fun{v} hv=>Ps.pr (c:=cg X E) (r:=Rv X.K) (a:=w) h R hv
  unfold ixO at e
  split at e
  ·rename_i ks ws hd
   split at e
   ·rename_i k hk
    obtain⟨a,kvs,rfl,h1,h2,h3⟩:=oy R hd rx
    have:=jD (x:=k) h2 h3
    rw[e] at this
    obtain⟨v,hv,rv⟩:=this
    rw[fQ hk ry]
    exact .inr ⟨a,v,rfl,.inl ⟨kvs,k,h1,rfl,hv.symm⟩,q rv⟩
   ·cases e
  ·split at e
   ·split at e
    ·split at e
     ·rename_i hz
      obtain⟨c,hc,rfl⟩:=Option.map_eq_some_iff.mp e
      exact .inl (.inr (.inr ⟨_,_,c,rv_str.mp rx,rv_int.mp ry,hz,hc,q (rv_str.mpr rfl)⟩))
     ·cases e
    ·unfold Rv at rx
     obtain⟨a,vs,rfl,s,r⟩:=rx
     obtain⟨v,hv,rv⟩:=r.atI e
     exact .inl (.inr (.inl ⟨a,vs,_,v,rfl,rv_int.mp ry,s,hv,q rv⟩))
    ·split at e
     ·rename_i l h' hl
      obtain⟨rfl,a,vs,rfl,s,r⟩:=oa R rx hl
      obtain⟨v,hv,rv⟩:=r.atI e
      exact .inl (.inl ⟨a,vs,_,v,rfl,rv_int.mp ry,s,hv,q rv⟩)
     ·cases e
   ·cases e
theorem ar {a b:Expr}{pos:Pos}{fa fb:Env'->M W}(hu:X.A.units+1<cLine)(ha:JE X E a fa)(hb:JE X E b fb)(hs:qr b):JE X E (.Subscript a b pos) (m2 ixW fa fb):=
 (zd (ix_seq.or (wu hu)) ha.h hb.h hs).imp fun _ _ _ h=>uZ xO h
def cutW {α:Type}(xs:List α)(lo hi:Option Int):List α:=(xs.drop (HT.sIx xs.length 0 lo)).take (HT.sIx xs.length xs.length hi - HT.sIx xs.length 0 lo)
theorem Rvs.cut {K:PySem.W.Frag}{o:Wo}{l:List W}{vs:List V}(h:Rvs K o l vs)(lo hi:Option Int):Rvs K o (cutW l lo hi) (cutV vs lo hi):=by
 unfold cutW cutV
 rw[h.len]
 exact (h.drop _).take _
def aP:Env'->M (Option Int):=fun _=>pr none
def mPart (f:Env'->M W):Env'->M (Option Int):=fun ρ=>bd (f ρ) fun w=>match w with
 |.int i=>pr (some i)
 |_=>no
noncomputable abbrev tP (c:Cg)(f:Env'->M (Option Int)):TO:=tG c (fun _ a b=>a=b) f
structure JO (X:Cx)(E:XK)(e:Option Expr)(f:Env'->M (Option Int)):Prop where
 h:PO X e (tP (cg X E) f)
theorem PO.imp {e:Option Expr}{t:TO}{f:Env'->M (Option Int)}(h:PO X e t)(k:∀σ H Q,tP (cg X E) f σ H Q->t σ H Q):JO X E e f:=⟨fun pins s σ H Q I q=>h pins s σ H Q I (k σ H Q q)⟩
theorem fX:JO X E none aP:=po_none.imp fun σ H Q h=>by
 obtain⟨o,ρ,rfl,R,S,h⟩:=h
 exact h.pr R rfl
theorem dR {e:Expr}{f:Env'->M W}(he:JE X E e f):JO X E (some e) (mPart f):=(vp he.h).imp fun σ H Q h=>by
 obtain⟨o,ρ,rfl,R,S,h⟩:=h
 refine⟨o,ρ,rfl,R,S,Ps.bd h fun p x vx e1 R1 r1 h1=>?_⟩
 cases x with
 |int i=>exact⟨i,rv_int.mp r1,h1.pr R1 rfl⟩
 |_=>exact h1.elim
def slW (x:W)(lo hi:Option Int):M W:=match x with
 |.str z=>gd (z.length<=sizeLine) (pr (.str (StrLaws.sliceText z lo hi)))
 |.tup l=>gd (¬(HT.sIx l.length 0 lo=0/\HT.sIx l.length l.length hi=l.length)) (pr (.tup (cutW l lo hi)))
 |x=>bd (lstOf x) fun l=>pr (.tl (cutW l lo hi))
def m3 (f:W->Option Int->Option Int->M W)(fa:Env'->M W)(fl fh:Env'->M (Option Int)):Env'->M W:=fun ρ=>bd (fa ρ) fun x=>bd (fl ρ) fun a=>bd (fh ρ) fun b=>f x a b
theorem iz {e:Expr}{lo hi:Option Expr}{p2 pos:Pos}{fa:Env'->M W}{fl fh:Env'->M (Option Int)}(he:JE X E e fa)(hl:JO X E lo fl)(hh:JO X E hi fh):
  JE X E (.Subscript e (.Slice lo hi none p2) pos) (m3 slW fa fl fh):=(sS (sl_str.or (sl_tup.or u6)) he.h hl.h hh.h).imp fun σ H Q h=>by
 obtain⟨o,ρ,rfl,R,S,h⟩:=h
 refine⟨o,ρ,rfl,R,S,Ps.bd h fun p x vx e1 R1 r1 h1=>⟨p,ρ,rfl,R1,S.mono R e1,Ps.bd h1 fun q a va e2 R2 r2 h2=>⟨q,ρ,rfl,R2,(S.mono R e1).mono R1 e2,Ps.bd h2 fun w b vb e3 R3 r3 h3=>?_⟩⟩⟩
 subst r2 r3
 have rx:=(r1.mono R1 e2).mono R2 e3
 unfold slW at h3
 split at h3
 ·obtain⟨hz,h3⟩:=h3.gd
  exact .inl ⟨_,rv_str.mp rx,hz,h3.pr R3 (rv_str.mpr rfl)⟩
 ·obtain⟨hz,h3⟩:=h3.gd
  unfold Rv at rx
  obtain⟨a',vs,rfl,s,r⟩:=rx
  refine .inr (.inl ⟨a',vs,rfl,s,by rw[r.len];exact hz,fun q' hq=>jx R3 hq (r.cut _ _) h3⟩)
 ·obtain⟨l,a',vs,rfl,s,r,h3⟩:=fP R3 rx h3
  exact .inr (.inr ⟨a',vs,rfl,s,fun q' hq=>ma R3 hq (r.cut _ _) h3⟩)
def mCall (f:List W->M W)(l:Env'->M (List W)):Env'->M W:=fun ρ=>bd (l ρ) f
def CallM (X:Cx)(E:XK)(r:List V->Hp->VK->Prop)(f:List W->M W):Prop:= ∀ (o:Wo) (ws:List W) (vs:List V) (Q:VK),Rel X.K o->Rvs X.K o ws vs->Ps (cg X E) (Rv X.K) o (f ws o.h) Q->r vs o.H Q
variable {x:Str}{p pos:Pos}{e:Expr}{es:List Expr}{l:Env'->M (List W)}{f:List W->M W}{r:List V->Hp->VK->Prop}{id T:String}
theorem wN (hf:CallM X E r f){σ:St}{H:Hp}{Q:VK}(h:tM (cg X E) (mCall f l) σ H Q):tCB r (tA (cg X E) l) σ H Q:=by
 obtain⟨o,ρ,rfl,R,S,h⟩:=h
 exact⟨o,ρ,rfl,R,S,Ps.bd h fun p x vx e1 R1 r1 h1=>hf p x vx Q R1 r1 h1⟩
theorem gL (hc:CallR X (.builtin id) r)(hf:CallM X E r f)(hg:Gl X x)(hm:X.mg x=none)(hv:bootBuiltins x=some (.builtin id))(ha:JA X E (e::es) l)(hn:x≠ "__name__":=by decide)(hdb:(x==("__debug__":Str))=false:=by decide)
  (he:starEach (e::es) X.env=(false,eval e X.env)::starEach es X.env:=by rfl)(hpl:(backTo pos (starEach es X.env)).any (·.1)=false:=by rfl):JE X E (.Call (.Name x p) (e::es) [] pos) (mCall f l):=
 (sU hc hg hm hv ha.h hn hdb he hpl).imp fun _ _ _ h=>wN hf h
theorem lD (hc:CallR X (.type T) r)(hf:CallM X E r f)(hg:Gl X x)(hm:X.mg x=none)(hv:bootBuiltins x=some (.type T))(ha:JA X E (e::es) l)(hn:x≠ "__name__":=by decide)(hdb:(x==("__debug__":Str))=false:=by decide)
  (he:starEach (e::es) X.env=(false,eval e X.env)::starEach es X.env:=by rfl)(hpl:(backTo pos (starEach es X.env)).any (·.1)=false:=by rfl):JE X E (.Call (.Name x p) (e::es) [] pos) (mCall f l):=
 (iQ hc hg hm hv ha.h hn hdb he hpl).imp fun _ _ _ h=>wN hf h
variable {CX:CXT}{k:Nat}{fA:Addr}{fd:FuncData}{ps:List Str}
end
end L2
set_option maxHeartbeats 1000000
namespace L2
open PySem PySem.Spec PyProof.Rows
inductive Fl where
 |nx (r:Env')|bk (r:Env')|ct (r:Env')|rt (w:W)
inductive FlV where
 |nx (s:St)|bk (s:St)|ct (s:St)|rt (v:V)
def RFl (K:PySem.W.Frag)(o:Wo):Fl->FlV->Prop
 |.nx r,f=> ∃s,f=.nx s/\Re K o r s
 |.bk r,f=> ∃s,f=.bk s/\Re K o r s
 |.ct r,f=> ∃s,f=.ct s/\Re K o r s
 |.rt w,f=> ∃v,f=.rt v/\Rv K o w v
def DQ (D:Ends):FlV->Hp->Prop
 |.nx s,H=>D.nx s H
 |.bk s,H=>D.bk s H
 |.ct s,H=>D.ct s H
 |.rt v,H=>D.rt v H
def tS (c:Cg)(g:Env'->M Fl):TS:=fun D σ H=>tG c (RFl c.K) g σ H (DQ D)
structure JS (X:Cx)(E:XK)(e:Stmt)(f:Env'->M Fl):Prop where
 h:PS X e (tS (cg X E) f)
structure JSs (X:Cx)(E:XK)(e:List Stmt)(f:Env'->M Fl):Prop where
 h:PSs X e (tS (cg X E) f)
theorem PSs.imp {X:Cx}{E:XK}{e:List Stmt}{t:TS}{f:Env'->M Fl}(h:PSs X e t)(k:∀D σ H,tS (cg X E) f D σ H->t D σ H):JSs X E e f:=⟨fun pins s σ H D I q=>h pins s σ H D I (k D σ H q)⟩
theorem PS.imp {X:Cx}{E:XK}{e:Stmt}{t:TS}{f:Env'->M Fl}(h:PS X e t)(k:∀D σ H,tS (cg X E) f D σ H->t D σ H):JS X E e f:=⟨fun pins s σ H D I q=>h pins s σ H D I (k D σ H q)⟩
theorem aa {α β γ:Type}(a:M α)(b:α->M β)(d:β->M γ):bd (bd a b) d=bd a fun x=>bd (b x) d:=by
 funext h
 unfold bd
 cases a h<;>rfl
section
variable {X:Cx}{E:XK}{pos:Pos}
def sNil:Env'->M Fl:=fun ρ=>pr (.nx ρ)
def sSeq (f g:Env'->M Fl):Env'->M Fl:=fun ρ=>bd (f ρ) fun x=>match x with
 |.nx r=>g r
 |x=>pr x
theorem aC:JSs X E [] sNil:=pss_nil.imp fun D σ H h=>by
 obtain⟨o,ρ,rfl,R,S,h⟩:=h
 exact h.pr R ⟨σ,rfl,S⟩
theorem xj {f g:Env'->M Fl}{D:Ends}{σ:St}{H:Hp}(h:tS (cg X E) (sSeq f g) D σ H):tSeq (tS (cg X E) f) (tS (cg X E) g) D σ H:=by
 obtain⟨o,ρ,rfl,R,S,h⟩:=h
 refine⟨o,ρ,rfl,R,S,Ps.bd h fun p x b e1 R1 r1 h1=>?_⟩
 cases x with
 |nx r=>obtain⟨s,rfl,re⟩:=r1;exact⟨p,r,rfl,R1,re,h1⟩
 |bk r=>have q:=h1.pr R1 r1;obtain⟨s,rfl,re⟩:=r1;exact q
 |ct r=>have q:=h1.pr R1 r1;obtain⟨s,rfl,re⟩:=r1;exact q
 |rt r=>have q:=h1.pr R1 r1;obtain⟨s,rfl,re⟩:=r1;exact q
theorem ag {st:Stmt}{rest:List Stmt}{f g:Env'->M Fl}(h1:JS X E st f)(h2:JSs X E rest g):JSs X E (st::rest) (sSeq f g):=(sJ h1.h h2.h).imp fun D σ H h=>xj h
theorem ap {st:Stmt}{f:Env'->M Fl}(h1:JS X E st f):JSs X E [st] f:=⟨vk h1.h⟩
variable {e:Expr}{f:Env'->M W}
def sSet (i:Nat)(f:Env'->M W):Env'->M Fl:=fun ρ=>bd (f ρ) fun w=>pr (.nx (ρ.set i (some w)))
theorem au {i:Nat}{x:Str}{pos':Pos}(hN:X.N.Nodup)(hi:X.N[i]?=some x)(hx:Loc X.env.scope x)(he:JE X E e f)(hs:swapsWith e (some (.Name x pos')) pos.line X.env=pure false:=by rfl)(hf:X.fn x=true\/X.env.scope.names.lookup x=some .local :=by first|exact .inl rfl|exact .inr rfl|assumption):
  JS X E (.Assign [.Name x pos'] e pos) (sSet i f):=(xy hN hi hx he.h hs hf).imp fun D σ H h=>by
 obtain⟨o,ρ,rfl,R,S,h⟩:=h
 exact⟨o,ρ,rfl,R,S,Ps.bd h fun p x b e1 R1 r1 h1=>Ps.pr (b:=FlV.nx (σ.set i (some b))) h1 R1 ⟨_,rfl,(S.mono R e1).set r1 i⟩⟩
def sRet (f:Env'->M W):Env'->M Fl:=fun ρ=>bd (f ρ) fun w=>pr (.rt w)
theorem az (he:JE X E e f):JS X E (.Return (some e) pos) (sRet f):=(xz he.h).imp fun D σ H h=>by
 obtain⟨o,ρ,rfl,R,S,h⟩:=h
 exact⟨o,ρ,rfl,R,S,Ps.bd h fun p x b e1 R1 r1 h1=>Ps.pr (b:=FlV.rt b) h1 R1 ⟨_,rfl,r1⟩⟩
def sEx (f:Env'->M W):Env'->M Fl:=fun ρ=>bd (f ρ) fun _=>pr (.nx ρ)
theorem cK (he:JE X E e f)(hs:swapsWith e none pos.line X.env=pure false:=by rfl):JS X E (.Expr e pos) (sEx f):=(vm he.h hs).imp fun D σ H h=>by
 obtain⟨o,ρ,rfl,R,S,h⟩:=h
 exact⟨o,ρ,rfl,R,S,Ps.bd h fun p x b e1 R1 r1 h1=>Ps.pr (b:=FlV.nx σ) h1 R1 ⟨_,rfl,S.mono R e1⟩⟩
def sIf (t:Env'->M Bool)(f g:Env'->M Fl):Env'->M Fl:=fun ρ=>bd (t ρ) fun b=>if b=true then f ρ else g ρ
theorem aS {c:Expr}{a b:List Stmt}{t:Env'->M Bool}{f g:Env'->M Fl}(hc:JT X E c t)(ha:JSs X E a f)(hb:JSs X E b g):JS X E (.If c a b pos) (sIf t f g):=(za hc.h ha.h hb.h).imp fun D σ H h=>by
 obtain⟨o,ρ,rfl,R,S,h⟩:=h
 refine⟨o,ρ,rfl,R,S,Ps.bd h fun p x vx e1 R1 r1 h1=>?_⟩
 subst r1
 cases x with
 |true=>exact iteT ⟨p,ρ,rfl,R1,S.mono R e1,h1⟩
 |false=>exact iteF ⟨p,ρ,rfl,R1,S.mono R e1,h1⟩
def sPass:Env'->M Fl:=fun ρ=>pr (.nx ρ)
def bQ:Env'->M Fl:=fun ρ=>pr (.bk ρ)
def sCont:Env'->M Fl:=fun ρ=>pr (.ct ρ)
def bM (t:Env'->M Bool)(g:Env'->M Fl):Nat->Env'->M Fl
 |0,_=>no
 |n+1,ρ=>bd (t ρ) fun b=>if b=true then bd (g ρ) fun x=>match x with
   |.nx r=>bM t g n r
   |.ct r=>bM t g n r
   |.bk r=>pr (.nx r)
   |.rt w=>pr (.rt w)
  else pr (.nx ρ)
theorem iw (n:Nat){c:Expr}{body:List Stmt}{t:Env'->M Bool}{g:Env'->M Fl}(hp:PassesOwn (model X.prog X.w) X.A X.env X.xe)(hc:JT X E c t)(hb:JSs X E body g):
  JS X E (.While c body [] pos) (bM t g n):=(sK hp hc.h hb.h).imp fun D σ H h=>by
 obtain⟨o,ρ,rfl,R,S,h⟩:=h
 refine⟨fun m σ H=> ∃o ρ,o.H=H/\Rel X.K o/\Re X.K o ρ σ/\Ps (cg X E) (RFl X.K) o (bM t g m ρ o.h) (DQ D),⟨n,o,ρ,rfl,R,S,h⟩,?_⟩
 rintro m σ H ⟨o,ρ,rfl,R,S,h⟩
 cases m with
 |zero=>exact h.elim
 |succ m=>
  refine⟨o,ρ,rfl,R,S,Ps.bd h fun p x vx e1 R1 r1 h1=>?_⟩
  subst r1
  cases x with
  |false=>exact iteF (Ps.pr (b:=FlV.nx σ) h1 R1 ⟨_,rfl,S.mono R e1⟩)
  |true=>
   refine iteT ⟨_,fun σ' H' w=>⟨m,Nat.lt_succ_self _,w⟩,p,ρ,rfl,R1,S.mono R e1,Ps.bd h1 fun q x b e2 R2 r2 h2=>?_⟩
   cases x with
   |nx r=>obtain⟨s,rfl,re⟩:=r2;exact⟨q,r,rfl,R2,re,h2⟩
   |ct r=>obtain⟨s,rfl,re⟩:=r2;exact⟨q,r,rfl,R2,re,h2⟩
   |bk r=>obtain⟨s,rfl,re⟩:=r2;exact h2.pr R2 (b:=.nx s) ⟨s,rfl,re⟩
   |rt w=>obtain⟨v,rfl,rv⟩:=r2;exact h2.pr R2 (b:=.rt v) ⟨v,rfl,rv⟩
structure TgOk (K:PySem.W.Frag)(m:Nat)(g:TG)(t:W->Env'->Option Env'):Prop where
 ok: ∀ (o:Wo) (w:W) (v:V) (ρ ρ2:Env') (σ:St),Rv K o w v->Re K o ρ σ->t w ρ=some ρ2-> ∃σ2,(∀Q:St->Hp->Prop,Q σ2 o.H->g v σ o.H Q)/\Re K o ρ2 σ2/\σ2.drop m=σ.drop m/\σ2.length=σ.length
def tgN (i:Nat):W->Env'->Option Env':=fun w ρ=>some (ρ.set i (some w))
theorem bG {K:PySem.W.Frag}(m i:Nat)(h:i<m):TgOk K m (gName i) (tgN i):=⟨fun o w v ρ ρ2 σ rv re e=>by
 cases e
 exact⟨_,fun Q q=>q,re.set rv i,by rw[List.drop_set_of_lt h],by rw[List.length_set]⟩⟩
def gNs:List Nat->TGs
 |[]=>gNil
 |i::r=>gCons (gName i) (gNs r)
def setW:List Nat->List W->Env'->Option Env'
 |[],[],ρ=>some ρ
 |i::r,w::l,ρ=>setW r l (ρ.set i (some w))
 |_,_,_=>none
theorem rZ {K:PySem.W.Frag}{m:Nat}{o:Wo}: ∀ (is:List Nat) (l:List W) (vs:List V) (ρ ρ2:Env') (σ:St),(∀i∈is,i<m)->Rvs K o l vs->Re K o ρ σ->setW is l ρ=some ρ2-> ∃σ2,(∀Q:St->Hp->Prop,Q σ2 o.H->gNs is vs σ o.H Q)/\Re K o ρ2 σ2/\σ2.drop m=σ.drop m/\σ2.length=σ.length
 |[],[],vs,ρ,ρ2,σ,_,rv,re,e=>by
  unfold Rvs at rv
  cases e
  exact⟨σ,fun Q q=>⟨rv,q⟩,re,rfl,rfl⟩
 |[],_::_,_,_,_,_,_,_,_,e=>by cases e
 |_::_,[],_,_,_,_,_,_,_,e=>by cases e
 |i::is,w::l,vs,ρ,ρ2,σ,hm,rv,re,e=>by
  unfold Rvs at rv
  obtain⟨v,r,rfl,h1,h2⟩:=rv
  obtain⟨σ2,a,b,c,d⟩:=rZ is l r (ρ.set i (some w)) ρ2 (σ.set i (some v)) (fun j hj=>hm j (List.mem_cons_of_mem _ hj)) h2 (re.set h1 i) e
  refine⟨σ2,fun Q q=>⟨v,r,rfl,a Q q⟩,b,?_,?_⟩
  ·rw[c,List.drop_set_of_lt (hm i List.mem_cons_self)]
  ·rw[d,List.length_set]
def tgT (is:List Nat):W->Env'->Option Env':=fun w ρ=>match w with
 |.tup l=>setW is l ρ
 |_=>none
theorem jO: ∀ {is:List Nat}{l:List W}{ρ ρ2:Env'},setW is l ρ=some ρ2->l.length=is.length
 |[],[],_,_,_=>rfl
 |[],_::_,_,_,e=>by cases e
 |_::_,[],_,_,e=>by cases e
 |_::is,_::l,_,_,e=>by rw[List.length_cons,List.length_cons,jO (is:=is) (l:=l) e]
theorem iL {K:PySem.W.Frag}(m:Nat)(is:List Nat)(h:∀i∈is,i<m):TgOk K m (gTup K is.length (gNs is)) (tgT is):=⟨fun o w v ρ ρ2 σ rv re e=>by
 cases w with
 |tup l=>
  unfold Rv at rv
  obtain⟨a,vs,rfl,s,r⟩:=rv
  have e:setW is l ρ=some ρ2:=e
  obtain⟨σ2,a1,a2,a3,a4⟩:=rZ is l vs ρ ρ2 σ h r re e
  exact⟨σ2,fun Q q=>⟨a,vs,rfl,s,by rw[r.len,jO e],a1 Q q⟩,a2,a3,a4⟩
 |_=>cases e⟩
open Classical in
def gdh {α:Type}(G:List Ob->Prop)(m:M α):M α:=fun h=>if G h then m h else .bad
theorem eS {α:Type}{G:List Ob->Prop}{m:M α}{h:List Ob}(q:G h):gdh G m h=m h:=by unfold gdh;rw[if_pos q]
theorem Ps.gdh {α β:Type}{c:Cg}{r:Wo->α->β->Prop}{o:Wo}{G:List Ob->Prop}{m:M α}{Q:β->Hp->Prop}(h:Ps c r o (gdh G m o.h) Q):G o.h/\Ps c r o (m o.h) Q:=by
 unfold L2.gdh at h
 by_cases q:G o.h
 ·rw[if_pos q] at h;exact⟨q,h⟩
 ·rw[if_neg q] at h;exact h.elim
structure Sr where
 l:List W
 G:List Ob->Prop
structure SrcOk (K:PySem.W.Frag)(o0:Wo)(J:It)(s:Sr):Prop where
 stop: ∀o,Ex o0 o->Rel K o->s.G o.h->J.stop s.l.length o.H
 go: ∀o i w,Ex o0 o->Rel K o->s.G o.h->s.l[i]?=some w->J.go i o.H/\ ∀x H',J.yld i o.H x H'-> ∃p,p.H=H'/\p.h=o.h/\Ex o p/\Rel K p/\Rv K p w x
def tI (c:Cg)(src:Env'->M Sr):TI:=fun σ H R=>tG c (fun p s J=>SrcOk c.K p J s) src σ H R
structure JI (X:Cx)(E:XK)(tg iter:Expr)(f:Env'->M Sr):Prop where
 h:PI X tg iter (tI (cg X E) f)
theorem PI.imp {tg iter:Expr}{t:TI}{f:Env'->M Sr}(h:PI X tg iter t)(k:∀σ H R,tI (cg X E) f σ H R->t σ H R):JI X E tg iter f:=⟨fun pins s σ H R I q=>h pins s σ H R I (k σ H R q)⟩
def srcL (w:W):M Sr:=match w with
 |.tl l=>pr ⟨l,fun _=>True⟩
 |.cl l=>pr ⟨l,fun _=>True⟩
 |.loc k=>fun h=>match h[k]? with
  |some (.lst l)=>.ok ⟨l,fun h=>h[k]?=some (.lst l)⟩ h
  |_=>.bad
 |_=>no
def mSrc (f:Env'->M W)(g:W->M Sr):Env'->M Sr:=fun ρ=>bd (f ρ) g
theorem jK {K:PySem.W.Frag}{o0:Wo}{a:Addr}{s:Sr}(h:∀o,Ex o0 o->Rel K o->s.G o.h-> ∃vs,SqL K o.H a vs/\Rvs K o s.l vs):SrcOk K o0 (Itl K a) s:=by
 refine⟨fun o X R g=>?_,fun o i w X R g e=>?_⟩
 ·obtain⟨vs,s,r⟩:=h o X R g
  exact⟨vs,s,Nat.le_of_eq r.len⟩
 ·obtain⟨vs,s,r⟩:=h o X R g
  obtain⟨v,hv,rv⟩:=r.get e
  refine⟨⟨vs,v,s,hv⟩,fun x H' y=>?_⟩
  obtain⟨rfl,y⟩:=y
  have:x=v:=by have:=y vs s;rw[hv] at this;exact (Option.some.inj this).symm
  subst this
  exact⟨o,rfl,rfl,Ex.refl _,R,rv⟩
theorem eF {tg l:Expr}{fl:Env'->M W}(hl:JE X E l fl):JI X E tg l (mSrc fl srcL):=(vt hl.h).imp fun σ H Q h=>by
 obtain⟨o,ρ,rfl,R,S,h⟩:=h
 refine⟨o,ρ,rfl,R,S,Ps.bd h fun p x vx e1 R1 r1 h1=>?_⟩
 cases x with
 |tl l=>
  have r1':=r1
  unfold Rv at r1
  obtain⟨a,vs,rfl,s,n,r⟩:=r1
  refine⟨a,rfl,⟨vs,.of s⟩,h1.pr R1 (jK fun o X R g=>?_)⟩
  exact⟨vs,.of (X.fr a _ s n).1,r.mono R1 X⟩
 |cl l=>
  unfold Rv at r1
  obtain⟨a,vs,rfl,s,r⟩:=r1
  have sq: ∀o,Ex p o->SqL X.K o.H a vs:=fun o X=>by
   rcases s with⟨s,n⟩|s
   ·exact .inl (X.rd s n).1
   ·exact .inr s
  exact⟨a,rfl,⟨vs,sq p (Ex.refl _)⟩,h1.pr R1 (jK fun o X R g=>⟨vs,sq o X,r.mono R1 X⟩)⟩
 |loc k=>
  unfold Rv at r1
  obtain⟨hk,rfl⟩:=r1
  unfold srcL at h1
  dsimp only at h1
  split at h1
  ·rename_i l hl
   obtain⟨vs,h3,h4⟩:=R1.ob k _ hl
   refine⟨_,rfl,⟨vs,.of h3⟩,Ps.at (p:=p) h1 rfl (Ex.refl _) R1 (jK fun o X R g=>?_)⟩
   obtain⟨vs',h5,h6⟩:=R.ob k _ g
   rw[X.mu k hk] at h5
   exact⟨vs',.of h5,h6⟩
  ·exact h1.elim
 |_=>exact h1.elim
def srcT (w:W):M Sr:=match w with
 |.tup l=>pr ⟨l,fun _=>True⟩
 |_=>no
theorem yi {tg l:Expr}{fl:Env'->M W}(hl:JE X E l fl):JI X E tg l (mSrc fl srcT):=(xG hl.h).imp fun σ H Q h=>by
 obtain⟨o,ρ,rfl,R,S,h⟩:=h
 refine⟨o,ρ,rfl,R,S,Ps.bd h fun p x vx e1 R1 r1 h1=>?_⟩
 cases x with
 |tup l=>
  unfold Rv at r1
  obtain⟨a,vs,rfl,s,r⟩:=r1
  refine⟨a,rfl,⟨vs,s⟩,h1.pr R1 ⟨fun o X R g=>⟨vs,X.rdT R1 s,Nat.le_of_eq r.len⟩,fun o i w X R g e=>?_⟩⟩
  obtain⟨v,hv,rv⟩:=(r.mono R1 X).get e
  have sq:=X.rdT R1 s
  refine⟨⟨vs,v,sq,hv⟩,fun x H' y=>?_⟩
  obtain⟨rfl,y⟩:=y
  have:x=v:=by have:=y vs sq;rw[hv] at this;exact (Option.some.inj this).symm
  subst this
  exact⟨o,rfl,rfl,Ex.refl _,R,rv⟩
 |_=>exact h1.elim
noncomputable def intsW (lo:Int):Nat->List W
 |0=>[]
 |n+1=>.int lo::intsW (lo+1) n
theorem bK: ∀ (n:Nat) (lo:Int),(intsW lo n).length=n
 |0,_=>rfl
 |n+1,lo=>by rw[intsW,List.length_cons,bK n]
theorem dw: ∀ (n:Nat) (lo:Int) (i:Nat) (w:W),(intsW lo n)[i]?=some w->w=.int (lo+i)/\i<n
 |0,_,_,_,h=>by simp [intsW] at h
 |n+1,lo,0,w,h=>by rw[intsW] at h;cases h;exact⟨by simp,Nat.succ_pos _⟩
 |n+1,lo,i+1,w,h=>by
  rw[intsW,List.getElem?_cons_succ] at h
  obtain⟨e,l⟩:=dw n (lo+1) i w h
  exact⟨by rw[e];congr 1;omega,by omega⟩
theorem lm {K:PySem.W.Frag}{o0:Wo}{lo:Int}{n:Nat}:SrcOk K o0 (Itr lo n) ⟨intsW lo n,fun _=>True⟩:=by
 refine⟨fun o X R g=>?_,fun o i w X R g e=>?_⟩
 ·show n<=(intsW lo n).length
  rw[bK];exact Nat.le_refl _
 ·obtain⟨rfl,hi⟩:=dw n lo i w e
  refine⟨hi,fun x H' y=>?_⟩
  obtain⟨rfl,rfl⟩:=y
  exact⟨o,rfl,rfl,Ex.refl _,R,rv_int.mpr rfl⟩
def rng1 (l:List W):M Sr:=match l with
 |[.int j]=>gd (-(2 ^ 62)<=j/\j<2 ^ 62) (pr ⟨intsW 0 j.toNat,fun _=>True⟩)
 |_=>no
def rng2 (l:List W):M Sr:=match l with
 |[.int i,.int j]=>gd (-(2 ^ 62)<=i/\i<2 ^ 62/\ -(2 ^ 62)<=j/\j<2 ^ 62) (pr ⟨intsW i (j - i).toNat,fun _=>True⟩)
 |_=>no
def mSrcA (f:Env'->M (List W))(g:List W->M Sr):Env'->M Sr:=fun ρ=>bd (f ρ) g
theorem cR {tg a:Expr}{p pos:Pos}{fl:Env'->M (List W)}(hg:Gl X "range")(hm:X.mg "range"=none)(ha:JA X E [a] fl)(hs:starEach [a] X.env=[(false,eval a X.env)]:=by rfl):JI X E tg (.Call (.Name "range" p) [a] [] pos) (mSrcA fl rng1):=
 (qI hg hm ha.h hs).imp fun σ H Q h=>by
 obtain⟨o,ρ,rfl,R,S,h⟩:=h
 refine⟨o,ρ,rfl,R,S,Ps.bd h fun p x vx e1 R1 r1 h1=>?_⟩
 unfold rng1 at h1
 split at h1
 ·obtain⟨hz,h1⟩:=h1.gd
  unfold Rvs Rvs at r1
  obtain⟨v,r,rfl,a1,rfl⟩:=r1
  exact⟨_,by rw[rv_int.mp a1],hz.1,hz.2,h1.pr R1 lm⟩
 ·exact h1.elim
theorem qU {tg a b:Expr}{p pos:Pos}{fl:Env'->M (List W)}(hg:Gl X "range")(hm:X.mg "range"=none)(ha:JA X E [a,b] fl)(hs:starEach [a,b] X.env=[(false,eval a X.env),(false,eval b X.env)]:=by rfl)(hs2:starEach [b] X.env=[(false,eval b X.env)]:=by rfl):
  JI X E tg (.Call (.Name "range" p) [a,b] [] pos) (mSrcA fl rng2):=(qH hg hm ha.h hs hs2).imp fun σ H Q h=>by
 obtain⟨o,ρ,rfl,R,S,h⟩:=h
 refine⟨o,ρ,rfl,R,S,Ps.bd h fun p x vx e1 R1 r1 h1=>?_⟩
 unfold rng2 at h1
 split at h1
 ·obtain⟨hz,h1⟩:=h1.gd
  unfold Rvs Rvs Rvs at r1
  obtain⟨v,r,rfl,a1,v',r',rfl,a2,rfl⟩:=r1
  exact⟨_,_,by rw[rv_int.mp a1,rv_int.mp a2],hz,h1.pr R1 lm⟩
 ·exact h1.elim
def forM (G:List Ob->Prop)(t:W->Env'->Option Env')(g:Env'->M Fl):List W->Env'->M Fl
 |[],ρ=>gdh G (pr (.nx ρ))
 |w::l,ρ=>gdh G (match t w ρ with
  |none=>no
  |some r=>bd (g r) fun x=>match x with
   |.nx r'=>forM G t g l r'
   |.ct r'=>forM G t g l r'
   |.bk r'=>pr (.nx r')
   |.rt v=>pr (.rt v))
def sFor (src:Env'->M Sr)(t:W->Env'->Option Env')(g:Env'->M Fl):Env'->M Fl:=fun ρ=>bd (src ρ) fun s=>forM s.G t g s.l ρ
theorem db {tg iter:Expr}{body:List Stmt}{src:Env'->M Sr}{t:W->Env'->Option Env'}{gT:TG}{g:Env'->M Fl}{m:Nat}(hp:PassesOwn (model X.prog X.w) X.A X.env X.xe)(hc:X.calm=true)(hi:JI X E tg iter src)(hg:PG X tg gT)(ht:TgOk X.K m gT t)(hb:JSs X E body g)
  (hs: ∀x,foldedSetIterable iter X.env x=pure x:=by intro _;rfl):JS X E (.For tg iter body [] pos) (sFor src t g):=(xA hp hc hi.h hg hb.h hs).imp fun D σ H h=>by
 obtain⟨o,ρ,rfl,R,S,h⟩:=h
 refine⟨o,ρ,rfl,R,S,Ps.bd h fun o1 s J e1 R1 sk h1=>?_⟩
 refine⟨fun i n σ H=>n=s.l.length - i/\i<=s.l.length/\ ∃o ρ,o.H=H/\Ex o1 o/\Rel X.K o/\Re X.K o ρ σ/\Ps (cg X E) (RFl X.K) o (forM s.G t g (s.l.drop i) ρ o.h) (DQ D),⟨_,rfl,Nat.zero_le _,o1,ρ,rfl,Ex.refl _,R1,S.mono R e1,h1⟩,?_⟩
 rintro i n σ H ⟨rfl,hi,o,ρ,rfl,X1,R,S,h⟩
 by_cases hlt:i<s.l.length
 ·obtain⟨w,hw⟩: ∃w,s.l[i]?=some w:=⟨_,List.getElem?_eq_getElem hlt⟩
  have hd:s.l.drop i=w::s.l.drop (i+1):=by
   rw[List.drop_eq_getElem_cons hlt]
   rw[List.getElem?_eq_getElem hlt] at hw
   rw[Option.some.inj hw]
  rw[hd] at h
  unfold forM at h
  obtain⟨hG,h⟩:=h.gdh
  obtain⟨hgo,hy⟩:=sk.go o i w X1 R hG hw
  refine .inr ⟨hgo,fun σ' H'=> ∃o ρ,o.H=H'/\Ex o1 o/\Rel X.K o/\Re X.K o ρ σ'/\Ps (cg X E) (RFl X.K) o (forM s.G t g (s.l.drop (i+1)) ρ o.h) (DQ D),fun σ' H' q=>⟨_,by omega,rfl,hlt,q⟩,fun x H' y=>?_⟩
  obtain⟨p,rfl,eh,X2,R2,rv⟩:=hy x H' y
  cases et:t w ρ with
  |none=>rw[et] at h;exact h.elim
  |some r=>
   rw[et] at h
   obtain⟨σ2,k1,k2,_,_⟩:=ht.ok p w x ρ r σ rv (S.mono R X2) et
   refine k1 _ ?_
   have h2:Ps (cg X E) (RFl X.K) p (bd (g r) (fun x=>match x with
    |.nx r'=>forM s.G t g (s.l.drop (i+1)) r'
    |.ct r'=>forM s.G t g (s.l.drop (i+1)) r'
    |.bk r'=>pr (.nx r')
    |.rt v=>pr (.rt v)) p.h) (DQ D):=by rw[eh];exact h.after X2
   refine⟨p,r,rfl,R2,k2,Ps.bd h2 fun q x b e3 R3 r3 h3=>?_⟩
   cases x with
   |nx r=>obtain⟨s',rfl,re⟩:=r3;exact⟨q,r,rfl,(X1.trans X2).trans e3,R3,re,h3⟩
   |ct r=>obtain⟨s',rfl,re⟩:=r3;exact⟨q,r,rfl,(X1.trans X2).trans e3,R3,re,h3⟩
   |bk r=>obtain⟨s',rfl,re⟩:=r3;exact h3.pr R3 (b:=.nx s') ⟨s',rfl,re⟩
   |rt w=>obtain⟨v,rfl,rv⟩:=r3;exact h3.pr R3 (b:=.rt v) ⟨v,rfl,rv⟩
 ·have e:i=s.l.length:=by omega
  subst e
  rw[List.drop_length] at h
  unfold forM at h
  obtain⟨hG,h⟩:=h.gdh
  exact .inl ⟨sk.stop o X1 R hG,Ps.pr (b:=FlV.nx σ) h R ⟨σ,rfl,S⟩⟩
end
end L2
set_option maxHeartbeats 1000000
namespace L2
open PySem PySem.Spec PyProof.Rows
section
variable {X:Cx}{E:XK}{pos:Pos}
theorem xl {l:Env'->M (List W)}{σ:St}{H:Hp}{Q:VK}(h:tM (cg X E) (mNew l) σ H Q):tF (cg X E) l σ H Q:=by
 obtain⟨o,ρ,rfl,R,S,h⟩:=h
 refine⟨o,ρ,rfl,R,S,Ps.bd h fun p x vx e1 R1 r1 h1=>fun q hq=>?_⟩
 refine Ps.at (p:=p.add q (.lst x) (.lst vx)) h1 rfl (Ex.add hq) (R1.addL hq r1) ?_
 unfold Rv
 exact⟨by show _<(p.h++[_]).length;simp,by show V.ref q=V.ref (if p.h.length=p.h.length then q else _);rw[if_pos rfl]⟩
theorem xi {i:Nat}{f:Env'->M W}{D:Ends}{σ:St}{H:Hp}(h:tS (cg X E) (sSet i f) D σ H):tAsg (tM (cg X E) f) (gName i) D σ H:=by
 obtain⟨o,ρ,rfl,R,S,h⟩:=h
 exact⟨o,ρ,rfl,R,S,Ps.bd h fun p x b e1 R1 r1 h1=>Ps.pr (b:=FlV.nx (σ.set i (some b))) h1 R1 ⟨_,rfl,(S.mono R e1).set r1 i⟩⟩
def compM (G:List Ob->Prop)(t:W->Env'->Option Env')(f:Env'->M Bool)(e:Env'->M W)(n:Nat):List W->Env'->M (List W)
 |[],ρ=>gdh G (pr [])
 |w::l,ρ=>gdh G (match t w (List.replicate n none++ρ) with
  |none=>no
  |some r=>bd (f r) fun b=>if b=true then bd (e r) fun x=>bd (compM G t f e n l ρ) fun m=>pr (x::m) else compM G t f e n l ρ)
def mComp (hs:List Nat)(src:Env'->M Sr)(t:W->Env'->Option Env')(f:Env'->M Bool)(e:Env'->M W)(n:Nat):Env'->M (List W):=fun ρ=>
 gd ((hs.all fun i=>(ρ[i]?.join).isNone)=true) (bd (src ρ) fun s=>gd (s.l.length<=sizeLine) (compM s.G t f e n s.l ρ))
variable {elt iter tg:Expr}{ifs:List Expr}{scope:Scope}{ls:List Str}{gT:TG}{t:W->Env'->Option Env'}{f:Env'->M Bool}{e:Env'->M W}{src:Env'->M Sr}{hs:List Nat}{wh:Prop}
theorem pA (ht:TgOk X.K ls.length gT t){σ:St}{H:Hp}{Q:VK}(h:tF (cg X E) (mComp hs src t f e ls.length) σ H Q):tComp X.N ls (tI (cg X E) src) gT (tT (cg X E) f) (tM (cg X E) e) σ H Q:=by
 obtain⟨o,ρ,rfl,R,S,h⟩:=h
 unfold mComp at h
 obtain⟨h0,h⟩:=h.gd
 refine⟨rfl,o,ρ,rfl,R,S,Ps.bd h fun o1 s J e1 R1 sk h1=>?_⟩
 obtain⟨hz,h1⟩:=h1.gd
 have S1:=S.mono R e1
 refine⟨fun i n ys H=>n=s.l.length - i/\i<=s.l.length/\ ∃o acc,o.H=H/\Ex o1 o/\Rel X.K o/\Rvs X.K o acc ys/\acc.length<=i/\Ps (cg X E) (Rvs X.K) o (bd (compM s.G t f e ls.length (s.l.drop i) ρ) (fun m=>pr (acc++m)) o.h) (fun vs H1=> ∀q,H1 q=none->Q (.ref q) (upd H1 q (.lst vs))),
  ⟨_,rfl,Nat.zero_le _,o1,[],rfl,Ex.refl _,R1,Rvs.nil,Nat.le_refl _,?_⟩,?_⟩
 ·have:bd (compM s.G t f e ls.length (s.l.drop 0) ρ) (fun m=>pr ([]++m))=compM s.G t f e ls.length s.l ρ:=by
   funext h
   rw[List.drop_zero]
   unfold bd
   cases compM s.G t f e ls.length s.l ρ h<;>rfl
  rw[this];exact h1
 rintro i n ys H ⟨rfl,hi,o,acc,rfl,X1,R,A,ha,h⟩
 have S2:=S1.mono R1 X1
 have gs: ∀ {α β γ:Type}{r:Wo->β->γ->Prop}{m:M α}{k:α->M β}{Q':γ->Hp->Prop},Ps (cg X E) r o (bd (gdh s.G m) k o.h) Q'->s.G o.h/\Ps (cg X E) r o (bd m k o.h) Q':=fun{α β γ r m k Q'} q=>by
  have:bd (gdh s.G m) k o.h=gdh s.G (bd m k) o.h:=by
   unfold bd L2.gdh
   by_cases z:s.G o.h
   ·simp only[if_pos z]
   ·simp only[if_neg z]
  rw[this] at q
  exact q.gdh
 by_cases hlt:i<s.l.length
 ·obtain⟨w,hw⟩: ∃w,s.l[i]?=some w:=⟨_,List.getElem?_eq_getElem hlt⟩
  have hd:s.l.drop i=w::s.l.drop (i+1):=by
   rw[List.drop_eq_getElem_cons hlt]
   rw[List.getElem?_eq_getElem hlt] at hw
   rw[Option.some.inj hw]
  rw[hd] at h
  unfold compM at h
  obtain⟨hG,h⟩:=gs h
  obtain⟨hgo,hy⟩:=sk.go o i w X1 R hG hw
  refine .inr ⟨hgo,fun ys' H'=> ∃o acc,o.H=H'/\Ex o1 o/\Rel X.K o/\Rvs X.K o acc ys'/\acc.length<=i+1/\Ps (cg X E) (Rvs X.K) o (bd (compM s.G t f e ls.length (s.l.drop (i+1)) ρ) (fun m=>pr (acc++m)) o.h) (fun vs H1=> ∀q,H1 q=none->Q (.ref q) (upd H1 q (.lst vs))),fun ys' H' q=>⟨_,by omega,rfl,hlt,q⟩,fun x H' y=>?_⟩
  obtain⟨p,rfl,eh,X2,R2,rv⟩:=hy x H' y
  cases et:t w (List.replicate ls.length none++ρ) with
  |none=>rw[et] at h;exact h.elim
  |some r=>
   rw[et] at h
   obtain⟨σ2,k1,k2,k3,k4⟩:=ht.ok p w x _ r (List.replicate ls.length none++σ) rv ((S2.mono R X2).front _) et
   refine k1 _ ⟨?_,?_,?_⟩
   ·rw[k3,List.drop_left' (by rw[List.length_replicate])]
   ·rw[k4,List.length_append,List.length_replicate]
   have h2:Ps (cg X E) (Rvs X.K) p (bd (f r) (fun b=>bd (if b=true then bd (e r) fun x=>bd (compM s.G t f e ls.length (s.l.drop (i+1)) ρ) fun m=>pr (x::m) else compM s.G t f e ls.length (s.l.drop (i+1)) ρ) fun m=>pr (acc++m)) p.h) (fun vs H1=> ∀q,H1 q=none->Q (.ref q) (upd H1 q (.lst vs))):=by
    rw[eh]
    rw[aa] at h
    exact h.after X2
   refine⟨p,r,rfl,R2,k2,Ps.bd h2 fun q b vb e3 R3 r3 h3=>?_⟩
   subst r3
   have A3:=(A.mono R X2).mono R2 e3
   cases b with
   |false=>
    exact iteF ⟨q,acc,rfl,(X1.trans X2).trans e3,R3,A3,by omega,h3⟩
   |true=>
    rw[if_pos rfl,aa] at h3
    refine iteT ⟨q,r,rfl,R3,k2.mono R2 e3,Ps.bd h3 fun q2 x vx e4 R4 r4 h4=>⟨?_,q2,acc++[x],rfl,((X1.trans X2).trans e3).trans e4,R4,(A3.mono R3 e4).app (Rvs.cons r4 Rvs.nil),?_,?_⟩⟩
    ·rw[(A3.mono R3 e4).len];omega
    ·rw[List.length_append,List.length_singleton];omega
    ·rw[aa] at h4
     have ee:(fun m=>bd (pr (x::m)) fun m=>pr (acc++m))=(fun m:List W=>(pr (acc++[x]++m):M (List W))):=by
      funext m h
      show Rs.ok (acc++(x::m)) h=Rs.ok (acc++[x]++m) h
      rw[List.append_assoc];rfl
     rw[ee] at h4
     exact h4
 ·have ei:i=s.l.length:=by omega
  subst ei
  rw[List.drop_length] at h
  unfold compM at h
  obtain⟨hG,h⟩:=gs h
  have h:Ps (cg X E) (Rvs X.K) o (pr (acc++[]) o.h) (fun vs H1=> ∀q,H1 q=none->Q (.ref q) (upd H1 q (.lst vs))):=h
  rw[List.append_nil] at h
  exact .inl ⟨sk.stop o X1 R hG,h.pr R A⟩
structure JQ (X:Cx)(E:XK)(ifs:List Expr)(f:Env'->M Bool):Prop where
 h:PIfs X ifs (tT (cg X E) f)
def mYes:Env'->M Bool:=fun _=>pr true
theorem fw:JQ X E [] mYes:=⟨fun pins s σ H Q I h=>vq pins s σ H Q I (by
 obtain⟨o,ρ,rfl,R,S,h⟩:=h
 exact Ps.pr (b:=true) h R rfl)⟩
theorem gW (hcalm:X.calm=true)(S:CScope X ls scope)(hi:JI X E tg iter src)(hg: ∀C s2 H2 fp,PG (cxC X ls scope C s2 H2 fp) tg gT)(ht:TgOk X.K ls.length gT t)
  (hf: ∀C s2 H2 fp,JQ (cxC X ls scope C s2 H2 fp) E ifs f)(he: ∀C s2 H2 fp,JE (cxC X ls scope C s2 H2 fp) E elt e)(hh:wh)
  (hs': ∀x,foldedSetIterable iter X.env x=pure x:=by intro _;rfl):JF X E (.ListComp elt [⟨tg,iter,ifs,0⟩] scope pos) (mComp hs src t f e ls.length):=
 (vE hcalm S hi.h hg (fun C s2 H2 fp=>(hf C s2 H2 fp).h) (fun C s2 H2 fp=>(he C s2 H2 fp).h) hs').impF fun σ H Q h=>pA ht h
theorem lB {i:Nat}{x:Str}{px spos:Pos}(hN:X.N.Nodup)(hx1:X.N[i]?=some x)(hx:X.env.scope.names.lookup x=some .local)(hcalm:X.calm=true)(S:CScope X ls scope)(hi:JI X E tg iter src)(hg: ∀C s2 H2 fp,PG (cxC X ls scope C s2 H2 fp) tg gT)(ht:TgOk X.K ls.length gT t)
  (hf: ∀C s2 H2 fp,JQ (cxC X ls scope C s2 H2 fp) E ifs f)(he: ∀C s2 H2 fp,JE (cxC X ls scope C s2 H2 fp) E elt e)(hh:wh)
  (hsw:swapsWith (.ListComp elt [⟨tg,iter,ifs,0⟩] scope pos) (some (.Name x px)) spos.line X.env=pure true:=by rfl)
  (hs': ∀x,foldedSetIterable iter X.env x=pure x:=by intro _;rfl):JS X E (.Assign [.Name x px] (.ListComp elt [⟨tg,iter,ifs,0⟩] scope pos) spos) (sSet i (mNew (mComp hs src t f e ls.length))):=
 (oM hN hx1 hx hcalm S hi.h hg (fun C s2 H2 fp=>(hf C s2 H2 fp).h) (fun C s2 H2 fp=>(he C s2 H2 fp).h) hsw hs').imp fun D σ H h=>pA ht (xl (xi h))
end
end L2
set_option maxHeartbeats 1000000
namespace L2
open PySem PySem.Spec PyProof.Rows
section
variable {X:Cx}{E:XK}{pos p:Pos}{a b:Expr}{l:Env'->M (List W)}
theorem Rvs.one {K:PySem.W.Frag}{o:Wo}{w:W}{vs:List V}(h:Rvs K o [w] vs): ∃v,vs=[v]/\Rv K o w v:=by
 unfold Rvs Rvs at h;obtain⟨v,r,rfl,h1,rfl⟩:=h;exact⟨v,rfl,h1⟩
theorem Rvs.two {K:PySem.W.Frag}{o:Wo}{w x:W}{vs:List V}(h:Rvs K o [w,x] vs): ∃v u,vs=[v,u]/\Rv K o w v/\Rv K o x u:=by
 unfold Rvs Rvs Rvs at h;obtain⟨v,r,rfl,h1,u,r2,rfl,h2,rfl⟩:=h;exact⟨v,u,rfl,h1,h2⟩
def lenW (ws:List W):M W:=match ws with
 |[.str z]=>gd (z.length<=sizeLine) (pr (.int z.length))
 |[.tup l]=>pr (.int l.length)
 |[w]=>bd (lstOf w) fun l=>pr (.int l.length)
 |_=>no
theorem yP:CallM X E (fun xs H Q=>(fun xs H Q=> ∃z,xs=[.str z]/\z.length<=sizeLine/\Q (.int z.length) H) xs H Q\/(fun xs H Q=> ∃p ys,xs=[.ref p]/\(SqL X.K H p ys\/SqT X.K H p ys)/\Q (.int ys.length) H) xs H Q) lenW:=by
 intro o ws vs Q R rv h
 unfold lenW at h
 split at h
 ·obtain⟨v,rfl,r⟩:=rv.one
  obtain⟨hz,h⟩:=h.gd
  exact .inl ⟨_,by rw[rv_str.mp r],hz,h.pr R (rv_int.mpr rfl)⟩
 ·obtain⟨v,rfl,r⟩:=rv.one
  unfold Rv at r
  obtain⟨a,us,rfl,s,r⟩:=r
  exact .inr ⟨a,us,rfl,.inr s,by rw[r.len];exact h.pr R (rv_int.mpr rfl)⟩
 ·obtain⟨v,rfl,r⟩:=rv.one
  obtain⟨l,a,us,rfl,s,r,h⟩:=fP R r h
  exact .inr ⟨a,us,rfl,.inl s,by rw[r.len];exact h.pr R (rv_int.mpr rfl)⟩
 ·exact h.elim
theorem bT (hm:X.mg "len"=none)(ha:JA X E [a] l)(hg:Gl X "len":=by rfl)(he:starEach [a] X.env=(false,eval a X.env)::starEach [] X.env:=by rfl)(hpl:(backTo pos (starEach [] X.env)).any (·.1)=false:=by rfl):JE X E (.Call (.Name "len" p) [a] [] pos) (mCall lenW l):=
 gL (call_len_str.or mV) yP hg hm PySem.boot_len ha (he:=he) (hpl:=hpl)
def intW (ws:List W):M W:=match ws with
 |[.int i]=>pr (.int i)
 |[.bl k]=>pr (.int (if k then 1 else 0))
 |[.str z]=>match PySem.intText? z with
  |some n=>gd (z.length<=640) (pr (.int n))
  |none=>no
 |_=>no
theorem yQ:CallM X E (fun xs H Q=>((∃i,xs=[.int i]/\Q (.int i) H)\/ ∃k,xs=[.bl k]/\Q (.int (if k then 1 else 0)) H)\/(fun xs H Q=> ∃ (z:Str) (n:Int),xs=[.str z]/\PySem.intText? z=some n/\z.length<=640/\Q (.int n) H) xs H Q) intW:=by
 intro o ws vs Q R rv h
 unfold intW at h
 split at h
 ·obtain⟨v,rfl,r⟩:=rv.one
  exact .inl (.inl ⟨_,by rw[rv_int.mp r],h.pr R (rv_int.mpr rfl)⟩)
 ·obtain⟨v,rfl,r⟩:=rv.one
  exact .inl (.inr ⟨_,by rw[rv_bl.mp r],h.pr R (rv_int.mpr rfl)⟩)
 ·obtain⟨v,rfl,r⟩:=rv.one
  rename_i z
  cases hn:PySem.intText? z with
  |some n=>
   rw[hn] at h
   obtain⟨hz,h⟩:=h.gd
   exact .inr ⟨_,n,by rw[rv_str.mp r],hn,hz,h.pr R (rv_int.mpr rfl)⟩
  |none=>rw[hn] at h;exact h.elim
 ·exact h.elim
theorem pU (hm:X.mg "int"=none)(ha:JA X E [a] l)(hg:Gl X "int":=by rfl)(he:starEach [a] X.env=(false,eval a X.env)::starEach [] X.env:=by rfl)(hpl:(backTo pos (starEach [] X.env)).any (·.1)=false:=by rfl):JE X E (.Call (.Name "int" p) [a] [] pos) (mCall intW l):=
 lD (call_int1.or mW) yQ hg hm PyProof.Rows.boot_int ha (he:=he) (hpl:=hpl)
def absW (ws:List W):M W:=match ws with
 |[.int i]=>pr (.int (if i<0 then -i else i))
 |_=>no
theorem yo (hm:X.mg "abs"=none)(ha:JA X E [a] l)(hg:Gl X "abs":=by rfl)(he:starEach [a] X.env=(false,eval a X.env)::starEach [] X.env:=by rfl)(hpl:(backTo pos (starEach [] X.env)).any (·.1)=false:=by rfl):JE X E (.Call (.Name "abs" p) [a] [] pos) (mCall absW l):=
 gL uJ (fun o ws vs Q R rv h=>by
  unfold absW at h
  split at h
  ·obtain⟨v,rfl,r⟩:=rv.one
   exact⟨_,by rw[rv_int.mp r],h.pr R (rv_int.mpr rfl)⟩
  ·exact h.elim) hg hm PyProof.Rows.boot_abs ha (he:=he) (hpl:=hpl)
def maxW (ws:List W):M W:=match ws with
 |[.int i,.int j]=>pr (.int (if j>i then j else i))
 |_=>no
def minW (ws:List W):M W:=match ws with
 |[.int i,.int j]=>pr (.int (if j<i then j else i))
 |_=>no
theorem yn (hc:X.calm=true)(hm:X.mg "max"=none)(ha:JA X E [a,b] l)(hg:Gl X "max":=by rfl)(he:starEach [a,b] X.env=(false,eval a X.env)::starEach [b] X.env:=by rfl)(hpl:(backTo pos (starEach [b] X.env)).any (·.1)=false:=by rfl):JE X E (.Call (.Name "max" p) [a,b] [] pos) (mCall maxW l):=
 gL (rL hc) (fun o ws vs Q R rv h=>by
  unfold maxW at h
  split at h
  ·obtain⟨v,u,rfl,r1,r2⟩:=rv.two
   exact⟨_,_,by rw[rv_int.mp r1,rv_int.mp r2],h.pr R (rv_int.mpr rfl)⟩
  ·exact h.elim) hg hm PyProof.Rows.boot_max ha (he:=he) (hpl:=hpl)
theorem ym (hc:X.calm=true)(hm:X.mg "min"=none)(ha:JA X E [a,b] l)(hg:Gl X "min":=by rfl)(he:starEach [a,b] X.env=(false,eval a X.env)::starEach [b] X.env:=by rfl)(hpl:(backTo pos (starEach [b] X.env)).any (·.1)=false:=by rfl):JE X E (.Call (.Name "min" p) [a,b] [] pos) (mCall minW l):=
 gL (rK hc) (fun o ws vs Q R rv h=>by
  unfold minW at h
  split at h
  ·obtain⟨v,u,rfl,r1,r2⟩:=rv.two
   exact⟨_,_,by rw[rv_int.mp r1,rv_int.mp r2],h.pr R (rv_int.mpr rfl)⟩
  ·exact h.elim) hg hm PyProof.Rows.boot_min ha (he:=he) (hpl:=hpl)
noncomputable def iOf:W->Option Int
 |.int i=>some i
 |_=>none
noncomputable def sOf:W->Option Str
 |.str i=>some i
 |_=>none
def gH (ws:List W):M W:=match ws with
 |[.tup l]=>pr (.tup l)
 |[w]=>bd (lstOf w) fun l=>pr (.tup l)
 |_=>no
theorem kr (hm:X.mg "tuple"=none)(ha:JA X E [a] l)(hg:Gl X "tuple":=by rfl)(he:starEach [a] X.env=(false,eval a X.env)::starEach [] X.env:=by rfl)(hpl:(backTo pos (starEach [] X.env)).any (·.1)=false:=by rfl):JE X E (.Call (.Name "tuple" p) [a] [] pos) (mCall gH l):=
 lD kX (fun o ws vs Q R rv h=>by
  unfold gH at h
  split at h
  ·obtain⟨v,rfl,r⟩:=rv.one
   have r0:=r
   unfold Rv at r
   obtain⟨a,us,rfl,s,r⟩:=r
   exact⟨a,us,rfl,.inr ⟨s,h.pr R r0⟩⟩
  ·obtain⟨v,rfl,r⟩:=rv.one
   obtain⟨l,a,us,rfl,s,r,h⟩:=fP R r h
   exact⟨a,us,rfl,.inl ⟨s,fun q hq=>jx R hq r h⟩⟩
  ·exact h.elim) hg hm PyProof.Rows.boot_tuple ha (he:=he) (hpl:=hpl)
def listL (l:Env'->M (List W)):Env'->M (List W):=fun ρ=>bd (l ρ) fun ws=>match ws with
 |[.tup l]=>pr l
 |[w]=>lstOf w
 |_=>no
theorem t9 {o:Wo}{w:W}{v:V}{Q:List V->Hp->Prop}(R:Rel X.K o)(hr:Rv X.K o w v)(h:Ps (cg X E) (Rvs X.K) o (lstOf w o.h) Q): ∃l a vs,v=.ref a/\SqL X.K o.H a vs/\Rvs X.K o l vs/\Q vs o.H:=by
 have e:lstOf w=bd (lstOf w) fun l=>pr l:=by
  funext h
  unfold bd
  cases lstOf w h<;>rfl
 rw[e] at h
 obtain⟨l,a,vs,e1,e2,e3,h⟩:=fP R hr h
 exact⟨l,a,vs,e1,e2,e3,h.pr R e3⟩
theorem fB (hm:X.mg "list"=none)(ha:JA X E [a] l)(hg:Gl X "list":=by rfl)(he:starEach [a] X.env=(false,eval a X.env)::starEach [] X.env:=by rfl)(hpl:(backTo pos (starEach [] X.env)).any (·.1)=false:=by rfl):JF X E (.Call (.Name "list" p) [a] [] pos) (listL l):=
 (iQ mU hg hm PyProof.Rows.boot_list ha.h (he:=he) (hpl:=hpl)).impF fun σ H Q h=>by
  obtain⟨o,ρ,rfl,R,S,h⟩:=h
  refine⟨o,ρ,rfl,R,S,Ps.bd h fun p x vx e1 R1 r1 h1=>?_⟩
  split at h1
  ·obtain⟨v,rfl,r⟩:=r1.one
   unfold Rv at r
   obtain⟨a,us,rfl,s,r⟩:=r
   exact⟨a,us,rfl,.inr s,h1.pr R1 r⟩
  ·obtain⟨v,rfl,r⟩:=r1.one
   obtain⟨l,a,us,rfl,s,r,q⟩:=t9 R1 r h1
   exact⟨a,us,rfl,.inl s,q⟩
  ·exact h1.elim
def isS (w:W):M W:=match w with
 |.str z=>pr (.str z)
 |_=>no
def mMeth (chk:W->M W)(f:W->List W->M W)(fo:Env'->M W)(l:Env'->M (List W)):Env'->M W:=fun ρ=>bd (fo ρ) fun x=>bd (chk x) fun x=>bd (l ρ) fun ws=>f x ws
variable {o e:Expr}{es:List Expr}{apos cpos:Pos}{fo:Env'->M W}
def isL (w:W):M W:=match w with
 |.loc k=>fun h=>match h[k]? with
  |some (.lst _)=>.ok (.loc k) h
  |_=>.bad
 |_=>no
theorem mJ {α β:Type}{r:Wo->α->β->Prop}{o:Wo}{w:W}{v:V}{k:W->M α}{Q:β->Hp->Prop}(R:Rel X.K o)(hr:Rv X.K o w v)(h:Ps (cg X E) r o (bd (isL w) k o.h) Q):
  ∃j l vs,w=.loc j/\o.h[j]?=some (.lst l)/\v=.ref (o.mu j)/\j<o.h.length/\o.H (o.mu j)=some (.lst vs)/\Rvs X.K o l vs/\Ps (cg X E) r o (k (.loc j) o.h) Q:=by
 cases w with
 |loc j=>
  unfold Rv at hr
  unfold isL bd at h
  cases e:o.h[j]? with
  |none=>simp only[e] at h;exact h.elim
  |some b=>
   cases b with
   |lst l=>
    simp only[e] at h
    obtain⟨vs,h1,h2⟩:=R.ob j _ e
    exact⟨j,l,vs,rfl,e,hr.2,hr.1,h1,h2,h⟩
   |_=>simp only[e] at h;exact h.elim
 |_=>exact h.elim
def bJ (x:W)(ws:List W):M W:=match x,ws with
 |.loc k,[w]=>fun h=>match h[k]? with
  |some (.lst l)=>if l.length<sizeLine then .ok .non (h.set k (.lst (l++[w]))) else .bad
  |_=>.bad
 |_,_=>no
theorem cS (ho:JE X E o fo)(ha:JA X E [e] l)(hbase:attributeBase o "append" X.env (eval o X.env)=eval o X.env:=by rfl)
  (hfew:((backTo cpos (starEach [e] X.env)).all (fun x=>!x.1) && (backToKw cpos (keywordEach [] X.env)).all (fun x=>x.1.isSome) && decide (([e]:List Expr).length+([]:List Keyword).length+(if ([]:List Keyword).isEmpty then 0 else 1)<30))=true:=by rfl)
  (hline:(apos.endLine==cpos.line)=true:=by rfl)(hs:starEach [e] X.env=(false,eval e X.env)::starEach [] X.env:=by rfl)(hplain:(backTo cpos (starEach [] X.env)).any (·.1)=false:=by rfl):
  JE X E (.Call (.Attribute o "append" apos) [e] [] cpos) (mMeth isL bJ fo l):=
 (nJ PySem.F.plainAttrs_list PySem.F.slot_list_append PySem.F.type_list_append qS ho.h ha.h hbase hfew hline hs hplain).imp fun σ H Q h=>by
  obtain⟨w,ρ,rfl,R,S,h⟩:=h
  refine⟨w,ρ,rfl,R,S,Ps.bd h fun p x vx e1 R1 r1 h1=>?_⟩
  obtain⟨j,l0,vs0,rfl,hj,rfl,hlt,hH,hl0,h1⟩:=mJ R1 r1 h1
  refine⟨.inl ⟨rfl,vs0,.of hH⟩,p,ρ,rfl,R1,S.mono R e1,Ps.bd h1 fun q ws vs e2 R2 r2 h2=>?_⟩
  rcases ws with _|⟨w',_|⟨_,_⟩⟩
  ·exact h2.elim
  ·unfold bJ at h2
   cases e:q.h[j]? with
   |none=>simp only[e] at h2;exact h2.elim
   |some b=>
    cases b with
    |lst l'=>
     simp only[e] at h2
     obtain⟨v,rfl,r⟩:=r2.one
     obtain⟨us,k1,k2⟩:=R2.ob j _ e
     by_cases z:l'.length<sizeLine
     ·rw[if_pos z] at h2
      rw[e2.mu j hlt] at k1
      refine⟨p.mu j,us,v,rfl,rfl,k1,by rw[k2.len];exact z,?_⟩
      have:=Ps.at (p:=q.put j (.lst (l'++[w'])) (.lst (us++[v]))) (b:=V.non) h2 rfl (Ex.put e (by simp)) (R2.putL e (by simp) (k2.app (Rvs.cons r Rvs.nil))) (rv_non.mpr rfl)
      have em:q.mu j=p.mu j:=e2.mu j hlt
      have ew:(q.put j (.lst (l'++[w'])) (.lst (us++[v]))).H=upd q.H (p.mu j) (.lst (us++[v])):=by
       show upd q.H (q.mu j) _=_
       rw[em]
      rw[ew] at this
      exact this
     ·rw[if_neg z] at h2;exact h2.elim
    |_=>simp only[e] at h2;exact h2.elim
  ·exact h2.elim
def iceW (w:W):M W:=match w with
 |.loc k=>fun h=>match h[k]? with
  |some (.lst l)=>.ok (.tl l) (h.set k .gone)
  |some (.dic ks ws)=>.ok (.dv ks ws) (h.set k .gone)
  |_=>.bad
 |w=>pr w
theorem xm {f:Env'->M W}{σ:St}{H:Hp}{Q:VK}(h:tM (cg X E) (m1 iceW f) σ H Q):tM (cg X E) f σ H Q:=by
 obtain⟨o,ρ,rfl,R,S,h⟩:=h
 refine⟨o,ρ,rfl,R,S,Ps.bd h fun p x vx e1 R1 r1 h1=>?_⟩
 cases x with
 |loc k=>
  unfold Rv at r1
  obtain⟨_,rfl⟩:=r1
  unfold iceW at h1
  dsimp only at h1
  split at h1
  ·rename_i l hl
   exact Ps.at (p:=p.ice k) h1 rfl Ex.ice R1.ice (Rv.iceL R1 hl)
  ·rename_i ks ws hl
   exact Ps.at (p:=p.ice k) h1 rfl Ex.ice R1.ice (Rv.iceD R1 hl)
  ·exact h1.elim
 |_=>exact Ps.pr (c:=cg X E) h1 R1 r1
theorem kC {f:Env'->M W}{e:Expr}(h:JE X E e f):JE X E e (m1 iceW f):=h.h.imp fun _ _ _ q=>xm q
noncomputable def mapAt {κ:Type} [DecidableEq κ]:List κ->List W->κ->W->List W
 |k::ks,w::ws,x,y=>(if k=x then y else w)::mapAt ks ws x y
 |_,_,_,_=>[]
def putW {κ:Type} [DecidableEq κ] (ks:List κ)(ws:List W)(x:κ)(y:W):List κ×List W:=if (ks.any fun k=>decide (k=x))=true then (ks,mapAt ks ws x y) else (ks++[x],ws++[y])
def dX (x i v:W):M Unit:=match x with
 |.loc k=>fun h=>match h[k]? with
  |some (.lst l)=>match i with
   |.int n=>match ixN l.length n with
    |some j=>.ok () (h.set k (.lst (l.set j v)))
    |none=>.bad
   |_=>.bad
  |some (.dic ks ws)=>match keyOf i with
   |some q=>if ks.length<sizeLine then .ok () (h.set k (.dic (putW ks ws q v).1 (putW ks ws q v).2)) else .bad
   |none=>.bad
  |some (.dit ks ws)=>match i with
   |.kt q=>if ks.length<sizeLine then .ok () (h.set k (.dit (putW ks ws q v).1 (putW ks ws q v).2)) else .bad
   |_=>.bad
  |_=>.bad
 |_=>no
def rSetD:TSet:=fun o i v H Q=> ∃a H',o=.ref a/\DPut H a i v H'/\Q H'
theorem nr (hu:X.A.units+1<cLine):PSet X rSetD:=by
 intro pins s σ H o i v ov iv u Q I ro ri rv h
 obtain⟨a,H',rfl,g,q⟩:=h
 cases ro
 exact rG hu I g ri rv fun s4 I4=>⟨H',I4,q⟩
theorem PSet.or {t t':TSet}(h:PSet X t)(h':PSet X t'):PSet X (fun o i v H Q=>t o i v H Q\/t' o i v H Q):=by
 intro pins s σ H o i v ov iv u Q I ro ri rv q
 rcases q with q|q
 ·exact h pins s σ H o i v ov iv u Q I ro ri rv q
 ·exact h' pins s σ H o i v ov iv u Q I ro ri rv q
theorem n9 {κ:Type} [DecidableEq κ] {K:PySem.W.Frag}{o:Wo}{x:κ}{y:W}{v:V}(hy:Rv K o y v): ∀ {ks:List κ}{ws:List W}{kvs:List (κ×V)},kvs.map (·.1)=ks->Rvs K o ws (kvs.map (·.2))->Rvs K o (mapAt ks ws x y) ((kvs.map fun kv=>if kv.1=x then (kv.1,v) else kv).map (·.2))
 |_,ws,[],e,h=>by subst e;unfold mapAt;exact Rvs.nil
 |_,ws,(k,u)::r,e,h=>by
  subst e
  cases ws with
  |nil=>unfold Rvs at h;cases h
  |cons w ws=>
   unfold Rvs at h
   obtain⟨u',r',e',h1,h2⟩:=h
   cases e'
   have ih:=n9 (x:=x) hy (ks:=r.map (·.1)) (ws:=ws) (kvs:=r) rfl h2
   show Rvs K o ((if k=x then y else w)::mapAt (r.map (·.1)) ws x y) ((if k=x then (k,v) else (k,u)).2::_)
   by_cases z:k=x
   ·rw[if_pos z,if_pos z];exact Rvs.cons hy ih
   ·rw[if_neg z,if_neg z];exact Rvs.cons h1 ih
theorem ip {κ:Type} [DecidableEq κ] {K:PySem.W.Frag}{o:Wo}{x:κ}{y:W}{v:V}{ks:List κ}{ws:List W}{kvs:List (κ×V)}(hy:Rv K o y v)(hk:kvs.map (·.1)=ks)(h:Rvs K o ws (kvs.map (·.2))):
  (putK kvs x v).map (·.1)=(putW ks ws x y).1/\Rvs K o (putW ks ws x y).2 ((putK kvs x v).map (·.2)):=by
 subst hk
 have ea:((kvs.map (·.1)).any fun k=>decide (k=x))=(kvs.any fun kv=>decide (kv.1=x)):=by rw[List.any_map];rfl
 unfold putK putW
 rw[ea]
 by_cases z:(kvs.any fun kv=>decide (kv.1=x))=true
 ·rw[if_pos z,if_pos z]
  refine⟨?_,n9 hy rfl h⟩
  rw[List.map_map]
  refine List.map_congr_left fun kv _=>?_
  show (if kv.1=x then (kv.1,v) else kv).1=kv.1
  split<;>rfl
 ·rw[if_neg z,if_neg z]
  refine⟨by simp,?_⟩
  show Rvs K o (ws++[y]) ((kvs++[(x,v)]).map (·.2))
  rw[List.map_append]
  exact h.app (Rvs.cons hy Rvs.nil)
def be (fo fi fv:Env'->M W):Env'->M Fl:=fun ρ=>bd (fv ρ) fun v=>bd (fo ρ) fun x=>bd (fi ρ) fun i=>bd (dX x i v) fun _=>pr (.nx ρ)
variable {i value:Expr}{tpos:Pos}{fi fv:Env'->M W}
theorem fN (hu:X.A.units+1<cLine)(ho:JE X E o fo)(hi:JE X E i fi)(hv:JE X E value fv)
  (ha: ∀v,assign (.Subscript o i tpos) X.env v=(do
   let ov<-holding [v] (eval o X.env)
   let iv<-holding [v,ov] (eval i X.env)
   standAt tpos
   holding [v,ov,iv] (setItem ov iv v)
   release [v,ov,iv] []):=by intro _;rfl)
  (hs:swapsWithSole [.Subscript o i tpos] value pos.line X.env=pure false:=by rfl)(hw:swappedStores [.Subscript o i tpos] value X.env=pure none:=by rfl)
  (h1:(assignEach [.Subscript o i tpos] X.env).map (·.2)=[assign (.Subscript o i tpos) X.env]:=by rfl):JS X E (.Assign [.Subscript o i tpos] value pos) (be fo fi fv):=
 (sL hv.h (xH ho.h hi.h (set_list.or (nr hu)) ha) hs hw h1).imp fun D σ H h=>by
  obtain⟨w,ρ,rfl,R,S,h⟩:=h
  refine⟨w,ρ,rfl,R,S,Ps.bd h fun p v vv e1 R1 r1 h1=>⟨p,ρ,rfl,R1,S.mono R e1,Ps.bd h1 fun q x vx e2 R2 r2 h2=>⟨q,ρ,rfl,R2,(S.mono R e1).mono R1 e2,Ps.bd h2 fun s i vi e3 R3 r3 h3=>?_⟩⟩⟩
  have S3:=((S.mono R e1).mono R1 e2).mono R2 e3
  have rv:=(r1.mono R1 e2).mono R2 e3
  have rx:=r2.mono R2 e3
  cases x with
  |loc k=>
   unfold Rv at rx
   obtain⟨hk,rfl⟩:=rx
   unfold dX bd at h3
   cases e:s.h[k]? with
   |none=>simp only[e] at h3;exact h3.elim
   |some b=>
    cases b with
    |ins c ns ws=>simp only[e] at h3;exact h3.elim
    |din b ks ws=>simp only[e] at h3;exact h3.elim
    |gone=>simp only[e] at h3;exact h3.elim
    |lst l=>
     simp only[e] at h3
     cases i with
     |int n=>
      simp only at h3
      cases ej:ixN l.length n with
      |none=>simp only[ej] at h3;exact h3.elim
      |some j=>
       simp only[ej] at h3
       obtain⟨us,k1,k2⟩:=R3.ob k _ e
       refine .inl ⟨_,us,n,j,rfl,rv_int.mp r3,k1,by rw[k2.len];exact ej,?_⟩
       exact Ps.at (p:=s.put k (.lst (l.set j v)) (.lst (us.set j vv))) (b:=FlV.nx σ) h3 rfl (Ex.put e (by simp)) (R3.putL e (by simp) (k2.set rv j)) ⟨σ,rfl,S3.mono R3 (Ex.put e (by simp))⟩
     |_=>exact h3.elim
    |dit ks ws=>
     simp only[e] at h3
     cases i with
     |kt x=>
      simp only at h3
      by_cases z:ks.length<sizeLine
      ·simp only[if_pos z] at h3
       obtain⟨kvs,k1,k2,k3⟩:=R3.ob k _ e
       unfold Rv at r3
       obtain⟨b,rfl,hb⟩:=r3
       obtain⟨b1,b2⟩:=ip (x:=x) rv k2 k3
       refine .inr ⟨_,_,rfl,.inr ⟨kvs,x,b,k1,rfl,hb,by rw[<-k2,List.length_map] at z;exact z,rfl⟩,?_⟩
       exact Ps.at (p:=s.put k (.dit (putW ks ws x v).1 (putW ks ws x v).2) (.dT (putK kvs x vv))) (b:=FlV.nx σ) h3 rfl (Ex.put e (by simp)) (R3.putT e (by simp) b1 b2) ⟨σ,rfl,S3.mono R3 (Ex.put e (by simp))⟩
      ·simp only[if_neg z] at h3;exact h3.elim
     |_=>exact h3.elim
    |dic ks ws=>
     simp only[e] at h3
     cases ej:keyOf i with
     |none=>simp only[ej] at h3;exact h3.elim
     |some x=>
      simp only[ej] at h3
      by_cases z:ks.length<sizeLine
      ·simp only[if_pos z] at h3
       obtain⟨kvs,k1,k2,k3⟩:=R3.ob k _ e
       rw[fQ ej r3]
       obtain⟨b1,b2⟩:=ip (x:=x) rv k2 k3
       refine .inr ⟨_,_,rfl,.inl ⟨kvs,x,k1,rfl,by rw[<-k2,List.length_map] at z;exact z,rfl⟩,?_⟩
       exact Ps.at (p:=s.put k (.dic (putW ks ws x v).1 (putW ks ws x v).2) (.dK (putK kvs x vv))) (b:=FlV.nx σ) h3 rfl (Ex.put e (by simp)) (R3.putD e (by simp) b1 b2) ⟨σ,rfl,S3.mono R3 (Ex.put e (by simp))⟩
      ·simp only[if_neg z] at h3;exact h3.elim
  |_=>exact h3.elim
end
end L2
set_option maxHeartbeats 1000000
namespace L2
open PySem PySem.Spec PyProof.Rows
def runF (n:Nat)(g:Env'->M Fl)(ws:List W):M W:=bd (g (ws.map some++List.replicate (n - ws.length) none)) fun x=>match x with
 |.rt w=>pr w
 |.nx _=>pr .non
 |_=>no
section
variable {P:Program}{w:World}{K:PySem.W.Frag}{mg:Str->Option Value}{base:Heap}{x qual:Str}{st:Stmt}{f:Addr}{fd:FuncData}{N ps:List Str}{k:Nat}{g:Env'->M Fl}
def spM0 (K:PySem.W.Frag)(mg:Str->Option Value)(n:Nat)(f:List W->M W):Sp:=fun vs H Q _=> ∃o ws,o.H=H/\ws.length=n/\Rel K o/\Rvs K o ws vs/\Ps ⟨K,mg,E0⟩ (Rv K) o (f ws o.h) Q
theorem bu {n m:Nat}{fn:List W->M W}(F:Fun K x qual st f fd)(S:FnScope N ps (aq st))(hn:N.length=n)(hm:ps.length=m)(hf:fn=runF n g)
  (hb: ∀ (cdv:Value) (A:Around) (outer:List Env) (s:Shared) (H:Hp) (E:XK),Room k (A.deeper (envOfC qual (aq st) s.heap.objs.size f cdv))->JSs (cxOf CX0 P w K mg base N qual (aq st) f cdv A outer s H E).nox E0 (aH st) g):
  FnOk P w K mg base CX0 (k+1) f fd ps (spM0 K mg m fn):=by
 subst hn hm hf
 refine F.ok S (fun vs H Q E h=>?_) (fun cdv A outer s H vs Q E hr h=>?_)
 ·obtain⟨o,ws,_,hl,_,rv,_⟩:=h
  rw[rv.len,hl]
 ·obtain⟨o,ws,rfl,hl,R,rv,h⟩:=h
  refine⟨_,(hb cdv A outer s o.H E hr).h,?_⟩
  have e:start N vs=vs.map some++List.replicate (N.length - ws.length) none:=by unfold start;rw[rv.len]
  rw[e]
  refine⟨o,_,rfl,R,Re.args _ rv,Ps.bd h fun p x b e1 R1 r1 h1=>?_⟩
  cases x with
  |rt w=>obtain⟨v,rfl,r⟩:=r1;exact h1.pr R1 r
  |nx r=>obtain⟨s,rfl,r⟩:=r1;exact h1.pr R1 (rv_non.mpr rfl)
  |bk r=>exact h1.elim
  |ct r=>exact h1.elim
theorem uH {m:Nat}{fn:List W->M W}(h:∀ws h,fn ws h=.bad):FnOk P w K mg base CX0 k f fd ps (spM0 K mg m fn):=by
 have no: ∀vs H Q E,¬spM0 K mg m fn vs H Q E:=fun vs H Q E ⟨o,ws,_,_,_,_,q⟩=>by rw[h] at q;exact q
 exact⟨fun vs H Q E h=>absurd h (no vs H Q E),fun A outer s H args us vs Q E _ _ _ _ h=>absurd h (no vs H Q E)⟩
structure CG (P:Program)(w:World)(K:PySem.W.Frag)(mg:Str->Option Value)(base:Heap)(k:Nat)(x:Str)(f:Addr)(fd:FuncData)(ps:List Str)(m:Nat)(fn:List W->M W):Prop where
 ok:FnOk P w K mg base CX0 k f fd ps (spM0 K mg m fn)
 bi:Binds K fd ps []
 kp:keepIn K (.ref f)=true
 mg:mg x=some (.ref f)
end
def arW (n:Nat)(f:List W->M W)(ws:List W):M W:=if ws.length=n then f ws else no
section
variable {X:Cx}{p pos:Pos}{e:Expr}{es:List Expr}{l:Env'->M (List W)}{f:List W->M W}{k:Nat}{fA:Addr}{fd:FuncData}{ps:List Str}{x:Str}
theorem ay {m:Nat}(C:CG X.prog X.w X.K X.mg X.base k x fA fd ps m f)(hr:Room k X.A)(ha:JA X E0 (e::es) l)(hg:Gl X x:=by rfl)
  (hdb:(x==("__debug__":Str))=false:=by decide)(he:starEach (e::es) X.env=(false,eval e X.env)::starEach es X.env:=by rfl)(hpl:(backTo pos (starEach es X.env)).any (·.1)=false:=by rfl):
  JE X E0 (.Call (.Name x p) (e::es) [] pos) (mCall (arW m f) l):=(vG C.ok hr hg C.mg C.kp C.bi .nil pass0 ha.h hdb he hpl).imp fun σ H Q h=>by
 obtain⟨o,ρ,rfl,R,S,h⟩:=h
 refine⟨o,ρ,rfl,R,S,Ps.bd h fun p x vx e1 R1 r1 h1=>?_⟩
 unfold arW at h1
 by_cases z:x.length=m
 ·rw[if_pos z] at h1
  exact⟨p,x,rfl,z,R1,by rw[List.append_nil];exact r1,h1⟩
 ·rw[if_neg z] at h1
  exact h1.elim
end
section
variable {X:Cx}{E:XK}{p pos:Pos}
noncomputable def chars (z:Str):List W:=z.cps.toList.map fun c=>.str ⟨#[c]⟩
def srcS (w:W):M Sr:=match w with
 |.str z=>pr ⟨chars z,fun _=>True⟩
 |_=>no
noncomputable def numd (n:Int):List W->List W
 |[]=>[]
 |w::l=>.tup [.int n,w]::numd (n+1) l
theorem gI: ∀ (l:List W) (n:Int),(numd n l).length=l.length
 |[],_=>rfl
 |w::l,n=>by rw[numd,List.length_cons,List.length_cons,gI l]
theorem gJ: ∀ (l:List W) (n:Int) (i:Nat) (w:W),(numd n l)[i]?=some w-> ∃x,l[i]?=some x/\w=.tup [.int (n+i),x]
 |[],_,_,_,h=>by simp [numd] at h
 |x::l,n,0,w,h=>by rw[numd] at h;cases h;exact⟨x,rfl,by simp⟩
 |x::l,n,i+1,w,h=>by
  rw[numd,List.getElem?_cons_succ] at h
  obtain⟨y,e1,e2⟩:=gJ l (n+1) i w h
  exact⟨y,by simpa using e1,by rw[e2];congr 3;omega⟩
def enumL (ws:List W):M Sr:=match ws with
 |[w]=>bd (srcL w) fun s=>pr ⟨numd 0 s.l,s.G⟩
 |_=>no
theorem pE {α β:Type}{r:Wo->α->β->Prop}{o:Wo}{w:W}{v:V}{k:Sr->M α}{Q:β->Hp->Prop}(R:Rel X.K o)(hr:Rv X.K o w v)(h:Ps (cg X E) r o (bd (srcL w) k o.h) Q):
  ∃s a,v=.ref a/\(∃vs,SqL X.K o.H a vs)/\(∀p,Ex o p->Rel X.K p->s.G p.h-> ∃vs,SqL X.K p.H a vs/\Rvs X.K p s.l vs)/\Ps (cg X E) r o (k s o.h) Q:=by
 cases w with
 |tl l=>
  unfold Rv at hr
  obtain⟨a,vs,rfl,s,n,r⟩:=hr
  exact⟨⟨l,fun _=>True⟩,a,rfl,⟨vs,.of s⟩,fun p X _ _=>⟨vs,.of (X.fr a _ s n).1,r.mono R X⟩,h⟩
 |cl l=>
  unfold Rv at hr
  obtain⟨a,vs,rfl,s,r⟩:=hr
  have sq: ∀q,Ex o q->SqL X.K q.H a vs:=fun q X=>by
   rcases s with⟨s,n⟩|s
   ·exact .inl (X.rd s n).1
   ·exact .inr s
  exact⟨⟨l,fun _=>True⟩,a,rfl,⟨vs,sq o (Ex.refl _)⟩,fun p X _ _=>⟨vs,sq p X,r.mono R X⟩,h⟩
 |loc j=>
  unfold Rv at hr
  obtain⟨hj,rfl⟩:=hr
  unfold srcL bd at h
  cases e:o.h[j]? with
  |none=>simp only[e] at h;exact h.elim
  |some b=>
   cases b with
   |lst l=>
    simp only[e] at h
    obtain⟨vs,h1,h2⟩:=R.ob j _ e
    refine⟨⟨l,fun h=>h[j]?=some (.lst l)⟩,_,rfl,⟨vs,.of h1⟩,fun p X Rp g=>?_,h⟩
    obtain⟨vs',h5,h6⟩:=Rp.ob j _ g
    rw[X.mu j hj] at h5
    exact⟨vs',.of h5,h6⟩
   |_=>simp only[e] at h;exact h.elim
 |_=>exact h.elim
theorem vX {a:Expr}{elts:List Expr}{x1}{tpos:Pos}{fl:Env'->M (List W)}(hm:X.mg "enumerate"=none)(ha:JA X E [a] fl)(hg:Gl X "enumerate":=by rfl)(hs:starEach [a] X.env=[(false,eval a X.env)]:=by rfl):
  JI X E (.Tuple elts x1 tpos) (.Call (.Name "enumerate" p) [a] [] pos) (mSrcA fl enumL):=(vw hg hm ha.h hs).imp fun σ H Q h=>by
 obtain⟨o,ρ,rfl,R,S,h⟩:=h
 refine⟨o,ρ,rfl,R,S,Ps.bd h fun p x vx e1 R1 r1 h1=>?_⟩
 rcases x with _|⟨w,_|⟨_,_⟩⟩
 ·exact h1.elim
 ·have h1:Ps (cg X E) (fun p s J=>SrcOk X.K p J s) p (bd (srcL w) (fun s=>pr ⟨numd 0 s.l,s.G⟩) p.h) Q:=h1
  obtain⟨v,rfl,r⟩:=r1.one
  obtain⟨s,a,rfl,hq,sk,h1⟩:=pE R1 r h1
  refine⟨a,rfl,hq,h1.pr R1 ⟨fun o X R g=>?_,fun o i w X R g e=>?_⟩⟩
  ·obtain⟨vs,k1,k2⟩:=sk o X R g
   exact⟨vs,k1,by rw[k2.len];exact (gI _ _).symm⟩
  ·obtain⟨vs,k1,k2⟩:=sk o X R g
   obtain⟨x,e1,rfl⟩:=gJ _ _ _ _ e
   obtain⟨v,hv,rv⟩:=k2.get e1
   refine⟨⟨vs,v,k1,hv⟩,fun y H' q=>?_⟩
   obtain⟨T,z,hT,rfl,hz,rfl⟩:=q
   have:z=v:=by have:=hz vs k1;rw[hv] at this;exact (Option.some.inj this).symm
   subst this
   refine⟨⟨o.mu,o.h,upd o.H T (.tup [.int i,z])⟩,rfl,rfl,Ex.new hT,R.new hT,Rv.newT R hT (Rvs.cons (rv_int.mpr (by simp)) (Rvs.cons rv Rvs.nil))⟩
 ·exact h1.elim
def sUnp (t:W->Env'->Option Env')(f:Env'->M W):Env'->M Fl:=fun ρ=>bd (f ρ) fun w=>match t w ρ with
 |some r=>pr (.nx r)
 |none=>no
theorem oZ {tg e:Expr}{m:Nat}{gT:TG}{t:W->Env'->Option Env'}{f:Env'->M W}(he:JE X E e f)(hg:PG X tg gT)(ht:TgOk X.K m gT t)(hs:swapsWithSole [tg] e pos.line X.env=pure false:=by rfl)(hw:swappedStores [tg] e X.env=pure none:=by rfl)
  (h1:(assignEach [tg] X.env).map (·.2)=[assign tg X.env]:=by rfl):JS X E (.Assign [tg] e pos) (sUnp t f):=(sL he.h hg hs hw h1).imp fun D σ H h=>by
 obtain⟨o,ρ,rfl,R,S,h⟩:=h
 refine⟨o,ρ,rfl,R,S,Ps.bd h fun p x vx e1 R1 r1 h1=>?_⟩
 cases et:t x ρ with
 |none=>rw[et] at h1;exact h1.elim
 |some r=>
  rw[et] at h1
  obtain⟨σ2,k1,k2,_,_⟩:=ht.ok p x vx ρ r σ r1 (S.mono R e1) et
  exact k1 _ (Ps.pr (b:=FlV.nx σ2) h1 R1 ⟨σ2,rfl,k2⟩)
noncomputable def tyN (w:W)(h:List Ob):Option String:=match w with
 |.non=>some "NoneType"
 |.bl _=>some "bool"
 |.int _=>some "int"
 |.str _=>some "str"
 |.tl _=>some "list"
 |.loc k=>match h[k]? with
  |some (.lst _)=>some "list"
  |some (.dic _ _)=>some "dict"
  |_=>none
 |_=>none
noncomputable def isT (t c:String):Bool:=t==c||(t== "bool" && c== "int")
noncomputable def tys:List String:=["int", "str", "bool", "list", "tuple", "dict"]
def isiW (ws:List W):M W:=match ws with
 |[.tup _,.ty c]=>gd (c∈tys) (pr (.bl (isT "tuple" c)))
 |[x,.ty c]=>fun h=>match tyN x h with
  |some t=>if c∈tys then .ok (.bl (isT t c)) h else .bad
  |none=>.bad
 |_=>no
theorem ud {K:PySem.W.Frag}{t c:String}(ht:t∈ "NoneType"::tys)(hc:c∈tys):kitOne K (.type t) (.type c)=some (isT t c):=by
 simp only[tys,List.mem_cons,List.not_mem_nil,or_false] at ht hc
 rcases ht with rfl|rfl|rfl|rfl|rfl|rfl|rfl<;>rcases hc with rfl|rfl|rfl|rfl|rfl|rfl<;>kernel_rfl
end
end L2
set_option maxHeartbeats 1000000
namespace L2
open PySem PySem.Spec PyProof.Rows
section
variable {X:Cx}{E:XK}{p pos:Pos}{a b:Expr}{l:Env'->M (List W)}
def rIsT (K:PySem.W.Frag):List V->Hp->VK->Prop:=fun xs H Q=> ∃ (a:Addr) (ys:List V) (c:String) (k:Bool),xs=[.ref a,.ty c]/\SqT K H a ys/\kitOne K (.type "tuple") (.type c)=some k/\Q (.bl k) H
theorem rM:CallR X (.builtin "isinstance") (rIsT X.K):=by
 intro pins s σ H xs us Q I r h
 obtain⟨a,ys,c,k,rfl,hq,e,q⟩:=h
 obtain⟨u,u',rfl,ru,ru'⟩:=vals2 r
 cases ru
 cases ru'
 obtain⟨its,rv,⟨o,e1,e2,n,e3⟩,hz⟩:=I.tuple hq
 exact kia_one PySem.W.kitx_tuple I.kIn ⟨o,e1,e2⟩ e (fun z=>nomatch z) fun tk=>⟨.bl k,H,I.tok tk,rfl,q⟩
theorem xc {o:Wo}{w:W}{v:V}{t:String}(R:Rel X.K o)(h:Rv X.K o w v)(e:tyN w o.h=some t):TyOf X.K o.H v (.type t)/\t∈ "NoneType"::tys:=by
 cases w with
 |non=>cases e;rw[rv_non.mp h];exact⟨.non,by decide⟩
 |bl _=>cases e;rw[rv_bl.mp h];exact⟨.bl _,by decide⟩
 |int _=>cases e;rw[rv_int.mp h];exact⟨.int _,by decide⟩
 |str _=>cases e;rw[rv_str.mp h];exact⟨.str _,by decide⟩
 |tl _=>cases e;unfold Rv at h;obtain⟨a,vs,rfl,s,_⟩:=h;exact⟨.lst s,by decide⟩
 |loc k=>
  unfold Rv at h
  obtain⟨_,rfl⟩:=h
  unfold tyN at e
  dsimp only at e
  split at e
  ·rename_i l hl
   cases e
   obtain⟨vs,h1,_⟩:=R.ob k _ hl
   exact⟨.lst h1,by decide⟩
  ·rename_i ks ws hl
   cases e
   obtain⟨vs,h1,_⟩:=R.ob k _ hl
   exact⟨.dK h1,by decide⟩
  ·cases e
 |_=>cases e
theorem tY (hm:X.mg "isinstance"=none)(ha:JA X E [a,b] l)(hg:Gl X "isinstance":=by rfl)(he:starEach [a,b] X.env=(false,eval a X.env)::starEach [b] X.env:=by rfl)(hpl:(backTo pos (starEach [b] X.env)).any (·.1)=false:=by rfl):JE X E (.Call (.Name "isinstance" p) [a,b] [] pos) (mCall isiW l):=
 gL (call_isinst.or rM) (fun o ws vs Q R rv h=>by
  unfold isiW at h
  split at h
  ·rename_i l c
   obtain⟨v,u,rfl,r1,r2⟩:=rv.two
   obtain⟨hc,h⟩:=h.gd
   unfold Rv at r1
   obtain⟨a,us,rfl,s,r⟩:=r1
   rw[rv_ty.mp r2]
   exact .inr ⟨a,us,c,_,rfl,s,ud (by decide) hc,h.pr R (rv_bl.mpr rfl)⟩
  ·rename_i x c _
   obtain⟨v,u,rfl,r1,r2⟩:=rv.two
   dsimp only at h
   cases e:tyN x o.h with
   |none=>rw[e] at h;exact h.elim
   |some t=>
    rw[e] at h
    by_cases hc:c∈tys
    ·simp only[if_pos hc] at h
     obtain⟨ty,hm⟩:=xc R r1 e
     rw[rv_ty.mp r2]
     exact .inl ⟨v,.ty c,.type c,.type t,_,rfl,rfl,ty,ud hm hc,Ps.pr (c:=cg X E) (r:=Rv X.K) (a:=W.bl (isT t c)) h R (rv_bl.mpr rfl)⟩
    ·simp only[if_neg hc] at h;exact h.elim
  ·exact h.elim) hg hm PyProof.Rows.boot_isinstance ha (he:=he) (hpl:=hpl)
theorem wS {x:Str}{T:String}(hm:X.mg x=none)(hv:bootBuiltins x=some (.type T))(hg:Gl X x:=by rfl)(hn:x≠ "__name__":=by decide)(hd:(x==("__debug__":Str))=false:=by decide):JE X E (.Name x pos) (mC (.ty T)):=
 (vH (v:=.ty T) hg hm hv rfl hn hd).imp fun _ _ _ h=>qy (fun o=>rv_ty.mpr rfl) h
def mDNew:Env'->M W:=fun _ h=>.ok (.loc h.length) (h++[.dic [] []])
theorem Rv.addLoc {K:PySem.W.Frag}{o:Wo}{q:Addr}{b:Ob}{u:HO}:Rv K (o.add q b u) (.loc o.h.length) (.ref q):=by
 unfold Rv
 exact⟨by show _<(o.h++[b]).length;simp,by show V.ref q=V.ref (if o.h.length=o.h.length then q else _);rw[if_pos rfl]⟩
theorem wa:JE X E (.Dict [] [] pos) mDNew:=pe_dnewK.imp fun σ H Q h=>by
 obtain⟨o,ρ,rfl,R,S,h⟩:=h
 intro q hq
 exact Ps.at (p:=o.add q (.dic [] []) (.dK [])) h rfl (Ex.add hq) (R.addD hq rfl Rvs.nil) Rv.addLoc
end
end L2
set_option maxHeartbeats 1000000
namespace L2
open PySem PySem.Spec PyProof.Rows
section
variable {X:Cx}{E:XK}{p pos:Pos}{a b c:Expr}{fa fb fc:Env'->M W}
def bU (f g:W->W->M W)(fa fb fc:Env'->M W):Env'->M W:=fun ρ=>bd (fa ρ) fun x=>bd (fb ρ) fun y=>bd (f x y) fun z=>bd (asB z) fun k=>if k=true then bd (fc ρ) fun w=>g y w else pr (.bl false)
end
section
variable {es:List Expr}{env:Env}{pos:Pos}
theorem aD {c k p}:starEach (.Constant c k p::es) env=(false,eval (.Constant c k p) env)::starEach es env:=by rfl
theorem ai {c p}:starEach (.Name c p::es) env=(false,eval (.Name c p) env)::starEach es env:=by rfl
theorem cJ {a o b p}:starEach (.BinOp a o b p::es) env=(false,eval (.BinOp a o b p) env)::starEach es env:=by rfl
theorem yZ {o l p}:starEach (.BoolOp o l p::es) env=(false,eval (.BoolOp o l p) env)::starEach es env:=by rfl
theorem y6 {a o b p}:starEach (.Compare a o b p::es) env=(false,eval (.Compare a o b p) env)::starEach es env:=by rfl
theorem bc {a o b p}:starEach (.Call a o b p::es) env=(false,eval (.Call a o b p) env)::starEach es env:=by rfl
theorem bj {a o p}:starEach (.Subscript a o p::es) env=(false,eval (.Subscript a o p) env)::starEach es env:=by rfl
theorem ik {a o p}:starEach (.Tuple a o p::es) env=(false,eval (.Tuple a o p) env)::starEach es env:=by rfl
theorem qB {a g s p}:starEach (.ListComp a g s p::es) env=(false,eval (.ListComp a g s p) env)::starEach es env:=by rfl
theorem ao:(backTo pos (starEach [] env)).any (·.1)=false:=by rfl
theorem ak {e:Expr}(hs:starEach (e::es) env=(false,eval e env)::starEach es env)(h:(backTo pos (starEach es env)).any (·.1)=false):(backTo pos (starEach (e::es) env)).any (·.1)=false:=by
 rw[hs]
 show ((false||(backTo pos (starEach es env)).any (·.1)):Bool)=false
 rw[h];rfl
end
section
variable {P:Program}{w:World}{K:PySem.W.Frag}{mg:Str->Option Value}{base:Heap}{x:Str}{f:Addr}{fd:FuncData}{ps:List Str}{k:Nat}{sp:Sp}{fn:List W->M W}
end
end L2
set_option maxHeartbeats 1000000
namespace L2
open PySem PySem.Spec PyProof.Rows
section
variable {X:Cx}{E:XK}{p pos:Pos}{a b:Expr}{l:Env'->M (List W)}{CF:Addr}{raised:List Str}
variable {x n f:Str}{e b0:Expr}{es:List Expr}{s0:Stmt}{suite:List Stmt}{np hpos tpos epos:Pos}{fn:List W->M W}{g:Env'->M Fl}{k i m:Nat}{fA:Addr}{fd:FuncData}{ps:List Str}
def catL (fa fb:Env'->M W):Env'->M (List W):=fun ρ=>bd (fa ρ) fun x=>bd (fb ρ) fun y=>bd (lstO x) fun a=>bd (lstO y) fun b=>gd (a.length+b.length<=sizeLine) (pr (a++b))
theorem tW {fa fb:Env'->M W}(ha:JE X E a fa)(hb:JE X E b fb):JF X E (.BinOp a .Add b pos) (catL fa fb):=(wO s9 ha.h hb.h).impF fun σ H Q h=>by
 obtain⟨o,ρ,rfl,R,S,h⟩:=h
 refine⟨o,ρ,rfl,R,S,Ps.bd h fun p x vx e1 R1 r1 h1=>⟨p,ρ,rfl,R1,S.mono R e1,Ps.bd h1 fun q y vy e2 R2 r2 h2=>?_⟩⟩
 obtain⟨l,a,vs,rfl,s1,r3,h3⟩:=gX R2 (r1.mono R1 e2) h2
 obtain⟨m,b,us,rfl,s2,r4,h4⟩:=gX R2 r2 h3
 obtain⟨hz,h4⟩:=h4.gd
 exact⟨a,b,vs,us,rfl,rfl,s1,s2,by rw[r3.len,r4.len];exact hz,h4.pr R2 (r3.app r4)⟩
end
end L2
set_option maxHeartbeats 1000000
namespace L2
open PySem
theorem dP {α β:Type}{f:M α}{g:α->M β}{h h':List Ob}{a:α}(e:f h=.ok a h'):bd f g h=g a h':=by unfold bd;rw[e]
@[simp] theorem bd_pr {α β:Type}(a:α)(g:α->M β):bd (pr a) g=g a:=rfl
@[simp] theorem bd_no {α β:Type}(g:α->M β):bd (no:M α) g=no:=rfl
theorem aG {α:Type}{p:Prop} [Decidable p] {m:M α}(hp:p):gd p m=m:=by funext h;unfold gd;rw[if_pos hp]
@[simp] theorem addW_int (i j:Int):addW (.int i) (.int j)=pr (.int (i+j)):=rfl
theorem oE {a b:Str}(h:a.length+b.length<=sizeLine):addW (.str a) (.str b)=pr (.str (a++b)):=by unfold addW;exact aG h
@[simp] theorem subW_int (i j:Int):subW (.int i) (.int j)=pr (.int (i - j)):=aG trivial
theorem gK {i j:Int}(h:CMulA i j):mulW (.int i) (.int j)=pr (.int (i * j)):=by unfold mulW;exact aG h
theorem yf {i j:Int}(h1: -(2 ^ 64)<i)(h2:i<2 ^ 64):CMulA i j:=.inl (.inl ⟨h1,h2⟩)
theorem oY {i j:Int}(h1: -(2 ^ 64)<j)(h2:j<2 ^ 64):CMulA i j:=.inl (.inr ⟨h1,h2⟩)
theorem jd {i j:Int}(h1:0<j)(h2:j<2 ^ 200):fdivW (.int i) (.int j)=pr (.int (i / j)):=aG ⟨h1,h2⟩
theorem cM {i j:Int}(h1:0<j):modW (.int i) (.int j)=pr (.int (i % j)):=aG h1
theorem jW {i j:Int}(h:CPow i j):powW (.int i) (.int j)=pr (.int (i ^ j.toNat)):=aG h
@[simp] theorem ltW_int (i j:Int):ltW (.int i) (.int j)=pr (.bl (decide (i<j))):=aG trivial
@[simp] theorem leW_int (i j:Int):leW (.int i) (.int j)=pr (.bl (decide (i<=j))):=aG trivial
@[simp] theorem gtW_int (i j:Int):gtW (.int i) (.int j)=pr (.bl (decide (j<i))):=aG trivial
@[simp] theorem geW_int (i j:Int):geW (.int i) (.int j)=pr (.bl (decide (j<=i))):=aG trivial
@[simp] theorem asB_bl (b:Bool):asB (.bl b)=pr b:=rfl
@[simp] theorem eqW_int (i j:Int):eqW (.int i) (.int j)=pr (.bl (decide (i=j))):=by
  funext h
  show Rs.ok (W.bl (decide (V.int i=V.int j))) h=Rs.ok (W.bl (decide (i=j))) h
  congr 2
  rw[decide_eq_decide]
  exact⟨V.int.inj,congrArg _⟩
@[simp] theorem eqW_str (i j:Str):eqW (.str i) (.str j)=pr (.bl (decide (i=j))):=by
  funext h
  show Rs.ok (W.bl (decide (V.str i=V.str j))) h=Rs.ok (W.bl (decide (i=j))) h
  congr 2
  rw[decide_eq_decide]
  exact⟨V.str.inj,congrArg _⟩
@[simp] theorem neW_int (i j:Int):neW (.int i) (.int j)=pr (.bl (!decide (i=j))):=by
  funext h
  show Rs.ok (W.bl (!decide (V.int i=V.int j))) h=Rs.ok (W.bl (!decide (i=j))) h
  congr 3
  rw[decide_eq_decide]
  exact⟨V.int.inj,congrArg _⟩
@[simp] theorem neW_str (i j:Str):neW (.str i) (.str j)=pr (.bl (!decide (i=j))):=by
  funext h
  show Rs.ok (W.bl (!decide (V.str i=V.str j))) h=Rs.ok (W.bl (!decide (i=j))) h
  congr 3
  rw[decide_eq_decide]
  exact⟨V.str.inj,congrArg _⟩
@[simp] theorem neW_bl (i j:Bool):neW (.bl i) (.bl j)=pr (.bl (!decide (i=j))):=by
  funext h
  show Rs.ok (W.bl (!decide (V.bl i=V.bl j))) h=Rs.ok (W.bl (!decide (i=j))) h
  congr 3
  rw[decide_eq_decide]
  exact⟨V.bl.inj,congrArg _⟩
theorem fj {l:List W}{i:Int}{w:W}(h:atI l i=some w):ixW (.tl l) (.int i)=pr w:=by
 funext hh
 unfold ixW
 have:ixO (.tl l) (.int i) hh=some w:=h
 rw[this];rfl
theorem dh {l:List W}{i:Int}{w:W}(h:atI l i=some w):ixW (.tup l) (.int i)=pr w:=by
 funext hh
 unfold ixW
 have:ixO (.tup l) (.int i) hh=some w:=h
 rw[this];rfl
theorem eG {z:Str}{i:Int}{c:Nat}(hz:z.length<=sizeLine)(h:atI z.cps.toList i=some c):ixW (.str z) (.int i)=pr (.str ⟨#[c]⟩):=by
 funext hh
 unfold ixW
 have:ixO (.str z) (.int i) hh=some (.str ⟨#[c]⟩):=by
  show (if z.length<=sizeLine then (atI z.cps.toList i).map fun c=>W.str ⟨#[c]⟩ else none)=_
  rw[if_pos hz,h];rfl
 rw[this];rfl
theorem u7 {z:Str}{lo hi:Option Int}(hz:z.length<=sizeLine):slW (.str z) lo hi=pr (.str (StrLaws.sliceText z lo hi)):=aG hz
@[simp] theorem slW_tl (l:List W)(lo hi:Option Int):slW (.tl l) lo hi=pr (.tl (cutW l lo hi)):=rfl
@[simp] theorem slW_cl (l:List W)(lo hi:Option Int):slW (.cl l) lo hi=pr (.tl (cutW l lo hi)):=rfl
@[simp] theorem lenW_tl (l:List W):lenW [.tl l]=pr (.int l.length):=rfl
@[simp] theorem lenW_tup (l:List W):lenW [.tup l]=pr (.int l.length):=rfl
theorem ua {z:Str}(hz:z.length<=sizeLine):lenW [.str z]=pr (.int z.length):=aG hz
theorem uR {n:Nat}{f:List W->M W}{ws:List W}(h:ws.length=n):arW n f ws=f ws:=if_pos h
theorem km {α:Type}(f:α->W)(l:List α)(d:α){i:Int}(h0:0<=i)(h:i<l.length):atI (l.map f) i=some (f (l.getD i.toNat d)):=by
 have hi:i.toNat<l.length:=by omega
 have e:atI (l.map f) ((i.toNat:Nat):Int)=some (f (l.getD i.toNat d)):=cX (by rw[List.getElem?_map,List.getElem?_eq_getElem hi,List.getD_eq_getElem?_getD,List.getElem?_eq_getElem hi];rfl)
 have e2:((i.toNat:Nat):Int)=i:=by omega
 rw[e2] at e;exact e
theorem eO {α:Type}{xs:List α}{i:Int}{v:α}(h0:0<=i)(h:xs[i.toNat]?=some v):atI xs i=some v:=by
 have q:=cX h
 have e:((i.toNat:Nat):Int)=i:=by omega
 rw[e] at q;exact q
theorem gA {α:Type}{l:List α}{i:Int}(h0:0<=i)(h:i<l.length): ∃c,c∈l/\atI l i=some c:=⟨l[i.toNat]'(by omega),List.getElem_mem _,eO h0 (by rw[List.getElem?_eq_getElem])⟩
def finF:Fl->M W:=fun x=>match x with
 |.rt w=>pr w
 |.nx _=>pr .non
 |_=>no
theorem gdn0 {α:Type}(m:M α):gd (0<=sizeLine) m=m:=aG (by decide)
theorem gdn1 {α:Type}(m:M α):gd (0+1<=sizeLine) m=m:=aG (by decide)
theorem gdn2 {α:Type}(m:M α):gd (0+1+1<=sizeLine) m=m:=aG (by decide)
theorem gdn3 {α:Type}(m:M α):gd (0+1+1+1<=sizeLine) m=m:=aG (by decide)
theorem gdn4 {α:Type}(m:M α):gd (0+1+1+1+1<=sizeLine) m=m:=aG (by decide)
theorem gdn5 {α:Type}(m:M α):gd (0+1+1+1+1+1<=sizeLine) m=m:=aG (by decide)
theorem gdn6 {α:Type}(m:M α):gd (0+1+1+1+1+1+1<=sizeLine) m=m:=aG (by decide)
theorem gdn7 {α:Type}(m:M α):gd (0+1+1+1+1+1+1+1<=sizeLine) m=m:=aG (by decide)
theorem gdn8 {α:Type}(m:M α):gd (0+1+1+1+1+1+1+1+1<=sizeLine) m=m:=aG (by decide)
theorem gdn9 {α:Type}(m:M α):gd (0+1+1+1+1+1+1+1+1+1<=sizeLine) m=m:=aG (by decide)
theorem gdn10 {α:Type}(m:M α):gd (0+1+1+1+1+1+1+1+1+1+1<=sizeLine) m=m:=aG (by decide)
theorem gdn11 {α:Type}(m:M α):gd (0+1+1+1+1+1+1+1+1+1+1+1<=sizeLine) m=m:=aG (by decide)
theorem gdn12 {α:Type}(m:M α):gd (0+1+1+1+1+1+1+1+1+1+1+1+1<=sizeLine) m=m:=aG (by decide)
theorem gdn13 {α:Type}(m:M α):gd (0+1+1+1+1+1+1+1+1+1+1+1+1+1<=sizeLine) m=m:=aG (by decide)
theorem gdn14 {α:Type}(m:M α):gd (0+1+1+1+1+1+1+1+1+1+1+1+1+1+1<=sizeLine) m=m:=aG (by decide)
theorem gdn15 {α:Type}(m:M α):gd (0+1+1+1+1+1+1+1+1+1+1+1+1+1+1+1<=sizeLine) m=m:=aG (by decide)
theorem gdn16 {α:Type}(m:M α):gd (0+1+1+1+1+1+1+1+1+1+1+1+1+1+1+1+1<=sizeLine) m=m:=aG (by decide)
theorem gdn17 {α:Type}(m:M α):gd (0+1+1+1+1+1+1+1+1+1+1+1+1+1+1+1+1+1<=sizeLine) m=m:=aG (by decide)
theorem gdn18 {α:Type}(m:M α):gd (0+1+1+1+1+1+1+1+1+1+1+1+1+1+1+1+1+1+1<=sizeLine) m=m:=aG (by decide)
theorem gdn19 {α:Type}(m:M α):gd (0+1+1+1+1+1+1+1+1+1+1+1+1+1+1+1+1+1+1+1<=sizeLine) m=m:=aG (by decide)
theorem gdn20 {α:Type}(m:M α):gd (0+1+1+1+1+1+1+1+1+1+1+1+1+1+1+1+1+1+1+1+1<=sizeLine) m=m:=aG (by decide)
theorem gdn21 {α:Type}(m:M α):gd (0+1+1+1+1+1+1+1+1+1+1+1+1+1+1+1+1+1+1+1+1+1<=sizeLine) m=m:=aG (by decide)
theorem gdn22 {α:Type}(m:M α):gd (0+1+1+1+1+1+1+1+1+1+1+1+1+1+1+1+1+1+1+1+1+1+1<=sizeLine) m=m:=aG (by decide)
theorem gdn23 {α:Type}(m:M α):gd (0+1+1+1+1+1+1+1+1+1+1+1+1+1+1+1+1+1+1+1+1+1+1+1<=sizeLine) m=m:=aG (by decide)
theorem gdn24 {α:Type}(m:M α):gd (0+1+1+1+1+1+1+1+1+1+1+1+1+1+1+1+1+1+1+1+1+1+1+1+1<=sizeLine) m=m:=aG (by decide)
theorem cU {α:Type}{m:M α}{inst:Decidable (true=true)}: @gd α (true=true) inst m=m:= @aG α (true=true) inst m rfl
theorem aI {src:Env'->M Sr}{t:W->Env'->Option Env'}{f:Env'->M Bool}{e:Env'->M W}{n:Nat}{ρ:Env'}:mComp [] src t f e n ρ=bd (src ρ) fun s=>gd (s.l.length<=sizeLine) (compM s.G t f e n s.l ρ):=by unfold mComp;exact aG rfl
end L2
set_option maxHeartbeats 1000000
namespace L2
open PySem
theorem sW {α:Type}{f:W->Option α}{g:α->W}(hf: ∀a,f (g a)=some a): ∀l:List α,optL f (l.map g)=some l
 |[]=>rfl
 |a::l=>by
  show (match f (g a),optL f (l.map g) with
   |some b,some r=>some (b::r)
   |_,_=>none)=_
  rw[hf,sW hf l]
theorem eA {β:Type}{α:Type}{f:W->Option β}{g:α->W}{k:α->β}(hf: ∀a,f (g a)=some (k a)): ∀l:List α,optL f (l.map g)=some (l.map k)
 |[]=>rfl
 |a::l=>by
  show (match f (g a),optL f (l.map g) with
   |some b,some r=>some (b::r)
   |_,_=>none)=_
  rw[hf,eA hf l];rfl
theorem gG {α:Type}{g:α->W}{k:α->V}(hf: ∀a,vOf (g a)=some (k a)): ∀l:List α,vsOf (l.map g)=some (l.map k)
 |[]=>rfl
 |a::l=>by
  show (match vOf (g a),vsOf (l.map g) with
   |some v,some vs=>some (v::vs)
   |_,_=>none)=_
  rw[hf,gG hf l];rfl
theorem rE {l m:List W}{ds es:List PyData}{h:List Ob}(h1:optL (dataH h 49) l=some ds)(h2:optL (dataH h 49) m=some es)(c1:PyData.canLayAll0 ds=true)(c2:PyData.canLayAll0 es=true):eqB (.tl l) (.tl m) h=some (PyData.eqvAll ds es):=by
 show (match (optL (dataH h 49) l).map PyData.list,(optL (dataH h 49) m).map PyData.list with
  |some d,some e=>if d.canLay0=true/\e.canLay0=true then some (PyData.eqv d e) else none
  |_,_=>none)=_
 rw[h1,h2]
 show (if (PyData.list ds).canLay0=true/\(PyData.list es).canLay0=true then some (PyData.eqv (.list ds) (.list es)) else none)=_
 rw[if_pos ⟨by rw[PyData.canLay0];exact c1,by rw[PyData.canLay0];exact c2⟩,PyData.eqv]
theorem uz {l m:List W}{ds es:List PyData}{h:List Ob}(h1:optL (dataH h 49) l=some ds)(h2:optL (dataH h 49) m=some es)(c1:PyData.canLayAll0 ds=true)(c2:PyData.canLayAll0 es=true):eqB (.tup l) (.tup m) h=some (PyData.eqvAll ds es):=by
 show (match (optL (dataH h 49) l).map PyData.tuple,(optL (dataH h 49) m).map PyData.tuple with
  |some d,some e=>if d.canLay0=true/\e.canLay0=true then some (PyData.eqv d e) else none
  |_,_=>none)=_
 rw[h1,h2]
 show (if (PyData.tuple ds).canLay0=true/\(PyData.tuple es).canLay0=true then some (PyData.eqv (.tuple ds) (.tuple es)) else none)=_
 rw[if_pos ⟨by rw[PyData.canLay0];exact c1,by rw[PyData.canLay0];exact c2⟩,PyData.eqv]
theorem yK {x y:W}{b:Bool}(h:∀h,eqB x y h=some b):eqW x y=pr (.bl b):=by funext hh;unfold eqW;rw[h];rfl
theorem jf {α:Type}{k:α->PyData}: ∀ (l:List α),(∀a∈l,(k a).canLay0=true)->PyData.canLayAll0 (l.map k)=true
 |[],_=>by rw[List.map_nil,PyData.canLayAll0]
 |a::l,h=>by rw[List.map_cons,PyData.canLayAll0,h a List.mem_cons_self,jf l fun b hb=>h b (List.mem_cons_of_mem _ hb)];rfl
end L2
set_option maxHeartbeats 1000000
namespace L2
open PySem PySem.Spec PyProof.Rows
section
variable {X:Cx}{E:XK}{p pos:Pos}
def enumT (ws:List W):M Sr:=match ws with
 |[w]=>bd (srcT w) fun s=>pr ⟨numd 0 s.l,s.G⟩
 |_=>no
theorem tV {a:Expr}{elts:List Expr}{x1}{tpos:Pos}{fl:Env'->M (List W)}(hm:X.mg "enumerate"=none)(ha:JA X E [a] fl)(hg:Gl X "enumerate":=by rfl)(hs:starEach [a] X.env=[(false,eval a X.env)]:=by rfl):
  JI X E (.Tuple elts x1 tpos) (.Call (.Name "enumerate" p) [a] [] pos) (mSrcA fl enumT):=(sQ hg hm ha.h hs).imp fun σ H Q h=>by
 obtain⟨o,ρ,rfl,R,S,h⟩:=h
 refine⟨o,ρ,rfl,R,S,Ps.bd h fun p x vx e1 R1 r1 h1=>?_⟩
 rcases x with _|⟨w,_|⟨_,_⟩⟩
 ·exact h1.elim
 ·have h1:Ps (cg X E) (fun p s J=>SrcOk X.K p J s) p (bd (srcT w) (fun s=>pr ⟨numd 0 s.l,s.G⟩) p.h) Q:=h1
  obtain⟨v,rfl,r⟩:=r1.one
  cases w with
  |tup l=>
   unfold Rv at r
   obtain⟨a,vs,rfl,s,r⟩:=r
   have h1:Ps (cg X E) (fun p s J=>SrcOk X.K p J s) p (pr ⟨numd 0 l,fun _=>True⟩ p.h) Q:=h1
   refine⟨a,rfl,⟨vs,s⟩,h1.pr R1 ⟨fun o X R g=>⟨vs,X.rdT R1 s,by rw[r.len];exact (gI _ _).symm⟩,fun o i w X R g e=>?_⟩⟩
   obtain⟨x,e1,rfl⟩:=gJ _ _ _ _ e
   obtain⟨v,hv,rv⟩:=(r.mono R1 X).get e1
   have sq:=X.rdT R1 s
   refine⟨⟨vs,v,sq,hv⟩,fun y H' q=>?_⟩
   obtain⟨T,z,hT,rfl,hz,rfl⟩:=q
   have:z=v:=by have:=hz vs sq;rw[hv] at this;exact (Option.some.inj this).symm
   subst this
   refine⟨⟨o.mu,o.h,upd o.H T (.tup [.int i,z])⟩,rfl,rfl,Ex.new hT,R.new hT,Rv.newT R hT (Rvs.cons (rv_int.mpr (by simp)) (Rvs.cons rv Rvs.nil))⟩
  |_=>exact h1.elim
 ·exact h1.elim
def findW (x:W)(ws:List W):M W:=match x,ws with
 |.str a,[.str b]=>pr (.int (Txt.find a b))
 |_,_=>no
variable {o e:Expr}{apos cpos:Pos}{fo:Env'->M W}{l:Env'->M (List W)}
theorem v7 (ho:JE X E o fo)(ha:JA X E [e] l)(hbase:attributeBase o "find" X.env (eval o X.env)=eval o X.env:=by rfl)
  (hfew:((backTo cpos (starEach [e] X.env)).all (fun x=>!x.1) && (backToKw cpos (keywordEach [] X.env)).all (fun x=>x.1.isSome) && decide (([e]:List Expr).length+([]:List Keyword).length+(if ([]:List Keyword).isEmpty then 0 else 1)<30))=true:=by rfl)
  (hline:(apos.endLine==cpos.line)=true:=by rfl)(hs:starEach [e] X.env=(false,eval e X.env)::starEach [] X.env:=by rfl)(hplain:(backTo cpos (starEach [] X.env)).any (·.1)=false:=by rfl):
  JE X E (.Call (.Attribute o "find" apos) [e] [] cpos) (mMeth isS findW fo l):=
 (nJ PySem.F.plainAttrs_str PySem.F.slot_str_find PySem.F.type_str_find vU ho.h ha.h hbase hfew hline hs hplain).imp fun σ H Q h=>by
  obtain⟨w,ρ,rfl,R,S,h⟩:=h
  refine⟨w,ρ,rfl,R,S,Ps.bd h fun p x vx e1 R1 r1 h1=>?_⟩
  cases x with
  |str z=>
   have h1:Ps (cg X E) (Rv X.K) p (bd (l ρ) (fun ws=>findW (.str z) ws) p.h) Q:=h1
   rw[rv_str.mp r1]
   refine⟨rfl,p,ρ,rfl,R1,S.mono R e1,Ps.bd h1 fun q ws vs e2 R2 r2 h2=>?_⟩
   rcases ws with _|⟨w',_|⟨_,_⟩⟩
   ·exact h2.elim
   ·obtain⟨v,rfl,r⟩:=r2.one
    cases w' with
    |str y=>
     have h2:Ps (cg X E) (Rv X.K) q (pr (.int (Txt.find z y)) q.h) Q:=h2
     exact⟨z,y,rfl,by rw[rv_str.mp r],h2.pr R2 (rv_int.mpr rfl)⟩
    |_=>exact h2.elim
   ·cases w'<;>exact h2.elim
  |_=>exact h1.elim
end
end L2
set_option maxHeartbeats 1000000
namespace L2
open PySem
theorem bh {α β:Type}(a:α)(g:α->M β):bd (pr a) g=g a:=funext fun h=>dP (f:=pr a) (a:=a) (h:=h) (h':=h) rfl
def Ok {α:Type}(m:M α)(h:List Ob)(Q:α->List Ob->Prop):Prop:= ∃a h',m h=.ok a h'/\Q a h'
section
variable {α β:Type}{m:M α}{k:α->M β}{h h':List Ob}{a:α}
theorem Ok.imp {P Q:α->List Ob->Prop}(p:Ok m h P)(q:∀a h',P a h'->Q a h'):Ok m h Q:=let ⟨a,h',e,r⟩:=p;⟨a,h',e,q a h' r⟩
theorem aY {P:α->List Ob->Prop}{Q:β->List Ob->Prop}(p:Ok m h P)(q:∀a h',P a h'->Ok (k a) h' Q):Ok (bd m k) h Q:=by
 obtain⟨a,h',e,r⟩:=p
 obtain⟨b,h2,e2,r2⟩:=q a h' r
 exact⟨b,h2,(dP e).trans e2,r2⟩
theorem bf {Q:β->List Ob->Prop}(e:m h=.ok a h')(q:Ok (k a) h' Q):Ok (bd m k) h Q:=by
 obtain⟨b,h2,e2,r2⟩:=q
 exact⟨b,h2,(dP e).trans e2,r2⟩
theorem av {Q:α->List Ob->Prop}(q:Q a h):Ok (pr a) h Q:=⟨a,h,rfl,q⟩
end
section
variable {β:Type}{h:List Ob}{Q:β->List Ob->Prop}{j:Nat}{l:List W}
theorem jj {i:Int}{w:W}{k:W->M β}(e:h[j]?=some (.lst l))(e2:atI l i=some w)(q:Ok (k w) h Q):Ok (bd (ixW (.loc j) (.int i)) k) h Q:=by
 refine bf (a:=w) (h':=h) ?_ q
 have d:dicOf (.loc j) h=none:=by unfold dicOf;simp only[e]
 have lo:lstOf (.loc j) h=.ok l h:=by unfold lstOf;simp only[e]
 have:ixO (.loc j) (.int i) h=some w:=by
  unfold ixO
  simp only[d,lo,e2]
 unfold ixW
 rw[this]
theorem wQ {n:Int}{i:Nat}{v:W}{k:Unit->M β}(e:h[j]?=some (.lst l))(e2:ixN l.length n=some i)(q:Ok (k ()) (h.set j (.lst (l.set i v))) Q):Ok (bd (dX (.loc j) (.int n) v) k) h Q:=by
 refine bf (a:=()) (h':=h.set j (.lst (l.set i v))) ?_ q
 unfold dX
 simp only[e,e2]
theorem fJ {w:W}{k:W->M β}(e:h[j]?=some (.lst l))(z:l.length<sizeLine)(q:Ok (k .non) (h.set j (.lst (l++[w]))) Q):Ok (bd (bJ (.loc j) [w]) k) h Q:=by
 refine bf (a:=.non) (h':=h.set j (.lst (l++[w]))) ?_ q
 unfold bJ
 simp only[e,if_pos z]
theorem dQ {k:W->M β}(e:h[j]?=some (.lst l))(q:Ok (k (.loc j)) h Q):Ok (bd (isL (.loc j)) k) h Q:=by
 refine bf (a:=.loc j) (h':=h) ?_ q
 unfold isL
 simp only[e]
theorem eB {k:W->M β}(q:Ok (k (.loc h.length)) (h++[.lst l]) Q):Ok (bd (newW l) k) h Q:=bf (a:=.loc h.length) (h':=h++[.lst l]) rfl q
theorem ib {k:W->M β}(e:h[j]?=some (.lst l))(q:Ok (k (.tl l)) (h.set j .gone) Q):Ok (bd (iceW (.loc j)) k) h Q:=by
 refine bf (a:=.tl l) (h':=h.set j .gone) ?_ q
 unfold iceW
 simp only[e]
theorem oR {k:Sr->M β}(e:h[j]?=some (.lst l))(q:Ok (k ⟨l,fun h=>h[j]?=some (.lst l)⟩) h Q):Ok (bd (srcL (.loc j)) k) h Q:=by
 refine bf (a:=⟨l,fun h=>h[j]?=some (.lst l)⟩) (h':=h) ?_ q
 unfold srcL
 simp only[e]
noncomputable def Lw (h:List Ob)(x:W)(l:List W):Prop:=x=.tl l\/ ∃j,x=.loc j/\h[j]?=some (.lst l)
theorem Lw.of {x:W}(p:Lw h x l):lstOf x h=.ok l h:=by
 rcases p with rfl|⟨j,rfl,e⟩
 ·rfl
 ·unfold lstOf;simp only[e]
theorem Lw.len {x:W}{k:W->M β}(p:Lw h x l)(q:Ok (k (.int l.length)) h Q):Ok (bd (lenW [x]) k) h Q:=by
 refine bf (a:=.int l.length) (h':=h) ?_ q
 have e:=p.of
 rcases p with rfl|⟨j,rfl,_⟩
 ·rfl
 ·show bd (lstOf (.loc j)) (fun l=>pr (W.int l.length)) h=_
  rw[dP e];rfl
theorem Lw.ix {x w:W}{i:Int}{k:W->M β}(p:Lw h x l)(e2:atI l i=some w)(q:Ok (k w) h Q):Ok (bd (ixW x (.int i)) k) h Q:=by
 rcases p with rfl|⟨j,rfl,e⟩
 ·rw[fj e2,bd_pr];exact q
 ·exact jj e e2 q
theorem pZ {i:Int}{c:String}{b:Bool}(hc:c∈tys)(hb:isT "int" c=b):isiW [.int i,.ty c]=pr (.bl b):=by
 funext h
 subst hb
 show (if c∈tys then Rs.ok (W.bl (isT "int" c)) h else .bad)=_
 rw[if_pos hc];rfl
end
theorem iD {x:Str}{ss:List Str}:inV (.str x) (ss.map V.str)=decide (x∈ss):=by
 unfold inV
 rw[Bool.eq_iff_iff,List.any_eq_true,decide_eq_true_eq]
 constructor
 ·rintro⟨v,hv,q⟩
  obtain⟨y,hy,rfl⟩:=List.mem_map.mp hv
  have:y=x:=by simpa [eqV] using q
  subst this;exact hy
 ·intro q
  exact⟨.str x,List.mem_map.mpr ⟨x,q,rfl⟩,by simp [eqV]⟩
theorem wx {x:Str}{ss:List Str}:inW (.str x) (.tl (ss.map W.str))=pr (.bl (decide (x∈ss))):=by
 funext h
 unfold inW
 have e:inB (.str x) (.tl (ss.map W.str)) h=some (decide (x∈ss)):=by
  show (match vOf (.str x),vsOf (ss.map W.str) with
   |some v,some vs=>some (inV v vs)
   |_,_=>none)=_
  rw[gG (k:=V.str) (fun a=>rfl)]
  show some (inV (.str x) (ss.map V.str))=_
  rw[iD]
 rw[e];rfl
theorem zi {β:Type}{h:List Ob}{Q:β->List Ob->Prop}{j:Nat}{x:Str}{ss:List Str}{k:W->M β}(e:h[j]?=some (.lst (ss.map W.str)))(q:Ok (k (.bl (decide (x∈ss)))) h Q):Ok (bd (inW (.str x) (.loc j)) k) h Q:=by
 refine bf (a:=.bl (decide (x∈ss))) (h':=h) ?_ q
 unfold inW
 have d:dicOf (.loc j) h=none:=by unfold dicOf;simp only[e]
 have lo:lstOf (.loc j) h=.ok (ss.map W.str) h:=by unfold lstOf;simp only[e]
 have e:inB (.str x) (.loc j) h=some (decide (x∈ss)):=by
  unfold inB
  simp only[d,lo,gG (g:=W.str) (k:=V.str) (fun a=>rfl) ss]
  show some (inV (.str x) (ss.map V.str))=_
  rw[iD]
 rw[e]
theorem du {i:Int}(h0: -(2 ^ 62)<=i)(h1:i<2 ^ 62):rng1 [.int i]=pr ⟨intsW 0 i.toNat,fun _=>True⟩:=aG ⟨h0,h1⟩
theorem sD {i j:Int}(h0: -(2 ^ 62)<=i)(h1:i<2 ^ 62)(h2: -(2 ^ 62)<=j)(h3:j<2 ^ 62):rng2 [.int i,.int j]=pr ⟨intsW i (j - i).toNat,fun _=>True⟩:=aG ⟨h0,h1,h2,h3⟩
theorem pd {G:List Ob->Prop}{t:W->Env'->Option Env'}{g:Env'->M Fl}(I:Nat->Env'->List Ob->Prop)(l:List W)(hG: ∀i ρ h,I i ρ h->G h)
  (hs: ∀i w ρ h,l[i]?=some w->I i ρ h-> ∃r,t w ρ=some r/\Ok (g r) h fun x h'=> ∃r',x=.nx r'/\I (i+1) r' h'):
  ∀ (m:List W) (n:Nat) (ρ:Env') (h:List Ob),l.drop n=m->n<=l.length->I n ρ h->Ok (forM G t g m ρ) h fun x h'=> ∃r',x=.nx r'/\I l.length r' h'
 |[],n,ρ,h,e,hn,i=>by
  have:l.length<=n:=List.drop_eq_nil_iff.mp e
  have hn:n=l.length:=by omega
  subst hn
  refine⟨.nx ρ,h,?_,ρ,rfl,i⟩
  unfold forM
  rw[eS (hG _ _ _ i)];rfl
 |w::m,n,ρ,h,e,hn,i=>by
  have hw:l[n]?=some w:=by
   have:=congrArg List.head? e
   rw[List.head?_drop,List.head?_cons] at this
   exact this
  have hl:n<l.length:=(List.getElem?_eq_some_iff.mp hw).1
  have em:l.drop (n+1)=m:=by rw[<-List.tail_drop,e];rfl
  obtain⟨r,e1,x,h',e2,r',rfl,i'⟩:=hs n w ρ h hw i
  obtain⟨y,h2,e3,q⟩:=pd I l hG hs m (n+1) r' h' em hl i'
  refine⟨y,h2,?_,q⟩
  unfold forM
  rw[eS (hG _ _ _ i),e1]
  dsimp only
  rw[dP e2]
  exact e3
theorem eC {β:Type}{G:List Ob->Prop}{t:W->Env'->Option Env'}{g:Env'->M Fl}{l:List W}{ρ:Env'}{h:List Ob}{k:Fl->M β}{Q:β->List Ob->Prop}(I:Nat->Env'->List Ob->Prop)(h0:I 0 ρ h)(hG: ∀i ρ h,I i ρ h->G h)
  (hs: ∀i w ρ h,l[i]?=some w->I i ρ h-> ∃r,t w ρ=some r/\Ok (g r) h fun x h'=> ∃r',x=.nx r'/\I (i+1) r' h')(hd: ∀ρ h,I l.length ρ h->Ok (k (.nx ρ)) h Q):Ok (bd (forM G t g l ρ) k) h Q:=
 aY (pd I l hG hs l 0 ρ h rfl (Nat.zero_le _) h0) fun x h' ⟨r',e,i⟩=>by subst e;exact hd r' h' i
theorem qj {G:List Ob->Prop}{t:W->Env'->Option Env'}{f:Env'->M Bool}{g:Env'->M W}{c:Nat}{ρ:Env'}(I:Nat->List W->List Ob->Prop)(l:List W)(hf: ∀r,f r=pr true)(hG: ∀i a h,I i a h->G h)
  (hs: ∀i w a h,l[i]?=some w->I i a h-> ∃r,t w (List.replicate c none++ρ)=some r/\Ok (g r) h fun v h'=>I (i+1) (a++[v]) h'):
  ∀ (m:List W) (n:Nat) (a:List W) (h:List Ob),l.drop n=m->n<=l.length->I n a h->Ok (compM G t f g c m ρ) h fun r h'=>I l.length (a++r) h'
 |[],n,a,h,e,hn,i=>by
  have:l.length<=n:=List.drop_eq_nil_iff.mp e
  have hn:n=l.length:=by omega
  subst hn
  refine⟨[],h,?_,by show I l.length (a++[]) h;rw[List.append_nil];exact i⟩
  unfold compM
  rw[eS (hG _ _ _ i)];rfl
 |w::m,n,a,h,e,hn,i=>by
  have hw:l[n]?=some w:=by
   have:=congrArg List.head? e
   rw[List.head?_drop,List.head?_cons] at this
   exact this
  have hl:n<l.length:=(List.getElem?_eq_some_iff.mp hw).1
  have em:l.drop (n+1)=m:=by rw[<-List.tail_drop,e];rfl
  obtain⟨r,e1,v,h',e2,i'⟩:=hs n w a h hw i
  obtain⟨y,h2,e3,q⟩:=qj I l hf hG hs m (n+1) (a++[v]) h' em hl i'
  refine⟨v::y,h2,?_,by show I l.length (a++v::y) h2;have q:I l.length (a++[v]++y) h2:=q;rw[List.append_assoc] at q;exact q⟩
  unfold compM
  rw[eS (hG _ _ _ i),e1]
  dsimp only
  rw[hf,bd_pr,if_pos rfl,dP e2,dP e3];rfl
theorem fu {β:Type}{G:List Ob->Prop}{t:W->Env'->Option Env'}{f:Env'->M Bool}{g:Env'->M W}{c:Nat}{ρ:Env'}{l:List W}{h:List Ob}{k:List W->M β}{Q:β->List Ob->Prop}(I:Nat->List W->List Ob->Prop)(h0:I 0 [] h)(hf: ∀r,f r=pr true)(hG: ∀i a h,I i a h->G h)
  (hs: ∀i w a h,l[i]?=some w->I i a h-> ∃r,t w (List.replicate c none++ρ)=some r/\Ok (g r) h fun v h'=>I (i+1) (a++[v]) h')(hd: ∀a h,I l.length a h->Ok (k a) h Q):Ok (bd (compM G t f g c l ρ) k) h Q:=
 aY (qj I l hf hG hs l 0 [] h rfl (Nat.zero_le _) h0) fun r h' i=>hd r h' i
theorem gF (r:Env'):mYes r=pr true:=rfl
structure Fr (j:Nat)(h h':List Ob):Prop where
 len:h'.length=h.length
 eq: ∀i,i≠j->h'[i]?=h[i]?
theorem Fr.refl (j:Nat)(h:List Ob):Fr j h h:=⟨rfl,fun _ _=>rfl⟩
theorem Fr.trans {j:Nat}{a b c:List Ob}(x:Fr j a b)(y:Fr j b c):Fr j a c:=⟨y.len.trans x.len,fun i hi=>(y.eq i hi).trans (x.eq i hi)⟩
theorem Fr.set {j:Nat}{h:List Ob}{b:Ob}:Fr j h (h.set j b):=⟨List.length_set ..,fun i hi=>by rw[List.getElem?_set_ne (Ne.symm hi)]⟩
theorem bA {j:Nat}{h:List Ob}{a b:Ob}(e:h[j]?=some a):(h.set j b)[j]?=some b:=by
 rw[List.getElem?_set_self (List.getElem?_eq_some_iff.mp e).1]
theorem cj {j:Nat}{h:List Ob}{a:Ob}(e:h[j]?=some a):j<h.length:=(List.getElem?_eq_some_iff.mp e).1
theorem cL {j:Nat}{h r:List Ob}{a:Ob}(e:h[j]?=some a):(h++r)[j]?=some a:=by
 rw[List.getElem?_append_left (cj e)];exact e
theorem bE {h:List Ob}{a:Ob}:(h++[a])[h.length]?=some a:=by simp
theorem least {p:Nat->Prop}: ∀ {n:Nat},(∃r,r<n/\p r)-> ∃r,r<n/\p r/\ ∀j,j<r-> ¬p j
 |0,⟨_,h,_⟩=>absurd h (Nat.not_lt_zero _)
 |n+1,⟨r,h,q⟩=>by
  by_cases z: ∃r,r<n/\p r
  ·obtain⟨r,h1,h2,h3⟩:=least z
   exact⟨r,by omega,h2,h3⟩
  ·have:r=n:=by
    by_cases e:r<n
    ·exact absurd ⟨r,e,q⟩ z
    ·omega
   subst this
   exact⟨r,h,q,fun j hj hp=>z ⟨j,hj,hp⟩⟩
theorem lA {α:Type} [DecidableEq α]: ∀ (a l:List α),a.Nodup->(∀x∈a,x∈l)->a.length<=l.length
 |[],_,_,_=>Nat.zero_le _
 |x::a,l,nd,h=>by
  have hx:=h x List.mem_cons_self
  have nd':=List.nodup_cons.mp nd
  have ih:=lA a (l.erase x) nd'.2 fun y hy=>(List.mem_erase_of_ne (fun z:y=x=>nd'.1 (by rw[<-z];exact hy))).mpr (h y (List.mem_cons_of_mem _ hy))
  rw[List.length_erase_of_mem hx] at ih
  have:0<l.length:=List.length_pos_of_mem hx
  rw[List.length_cons];omega
end L2
namespace L2
open PySem
theorem pP {G:List Ob->Prop}{t:W->Env'->Option Env'}{g:Env'->M Fl}{l:List W}{ρ:Env'}{h:List Ob}{Q:Fl->List Ob->Prop}(I:Nat->Env'->List Ob->Prop)(h0:I 0 ρ h)(hG: ∀i ρ h,I i ρ h->G h)
  (hs: ∀i w ρ h,l[i]?=some w->I i ρ h-> ∃r,t w ρ=some r/\Ok (g r) h fun x h'=> ∃r',x=.nx r'/\I (i+1) r' h')(hd: ∀ρ h,I l.length ρ h->Q (.nx ρ) h):Ok (forM G t g l ρ) h Q:=
 (pd I l hG hs l 0 ρ h rfl (Nat.zero_le _) h0).imp fun x h' ⟨r',e,i⟩=>by subst e;exact hd r' h' i
theorem rF (l:List W):enumT [.tup l]=pr ⟨numd 0 l,fun _=>True⟩:=rfl
theorem gM (l:List W):lstOf (.tl l)=pr l:=rfl
theorem ix0 (a:W)(l:List W):ixW (.tup (a::l)) (.int 0)=pr a:=dh (eO (by decide) rfl)
theorem ix1 (a b:W)(l:List W):ixW (.tup (a::b::l)) (.int 1)=pr b:=dh (eO (by decide) rfl)
theorem ix2 (a b c:W)(l:List W):ixW (.tup (a::b::c::l)) (.int 2)=pr c:=dh (eO (by decide) rfl)
theorem ix3 (a b c d:W)(l:List W):ixW (.tup (a::b::c::d::l)) (.int 3)=pr d:=dh (eO (by decide) rfl)
theorem ix4 (a b c d e:W)(l:List W):ixW (.tup (a::b::c::d::e::l)) (.int 4)=pr e:=dh (eO (by decide) rfl)
theorem ix5 (a b c d e f:W)(l:List W):ixW (.tup (a::b::c::d::e::f::l)) (.int 5)=pr f:=dh (eO (by decide) rfl)
theorem iI {α:Type}(f:α->W)(l:List α)(lo hi:Option Int):cutW (l.map f) lo hi=(cutW l lo hi).map f:=by
 unfold cutW
 rw[List.length_map,List.map_take,List.map_drop]
end L2
set_option maxHeartbeats 1000000
namespace L2
open PySem PySem.Spec PyProof.Rows
section
variable {X:Cx}{E:XK}{p pos:Pos}
def srcA (j:Bool):W->M Sr:=match j with
 |true=>srcT
 |false=>srcL
theorem pG {j:Bool}{α β:Type}{r:Wo->α->β->Prop}{o:Wo}{w:W}{v:V}{k:Sr->M α}{Q:β->Hp->Prop}(R:Rel X.K o)(hr:Rv X.K o w v)(h:Ps (cg X E) r o (bd (srcA j w) k o.h) Q):
  ∃s a,v=.ref a/\(∃vs,SqK j X.K o.H a vs)/\(∀p,Ex o p->Rel X.K p->s.G p.h-> ∃vs,SqK j X.K p.H a vs/\Rvs X.K p s.l vs)/\Ps (cg X E) r o (k s o.h) Q:=by
 cases j with
 |false=>exact pE R hr h
 |true=>
  cases w with
  |tup l=>
   unfold Rv at hr
   obtain⟨a,vs,rfl,s,r'⟩:=hr
   exact⟨⟨l,fun _=>True⟩,a,rfl,⟨vs,s⟩,fun p X _ _=>⟨vs,X.rdT R s,r'.mono R X⟩,h⟩
  |_=>exact h.elim
noncomputable def zipW (l m:List W):List W:=List.zipWith (fun a b=>.tup [a,b]) l m
theorem rP {l m:List W}{i:Nat}{w:W}(e:(zipW l m)[i]?=some w): ∃x y,l[i]?=some x/\m[i]?=some y/\w=.tup [x,y]:=by
 unfold zipW at e
 rw[List.getElem?_zipWith] at e
 cases h1:l[i]? with
 |none=>rw[h1] at e;cases e
 |some x=>
  cases h2:m[i]? with
  |none=>rw[h1,h2] at e;cases e
  |some y=>rw[h1,h2] at e;cases e;exact⟨x,y,rfl,rfl,rfl⟩
def srcZ (j k:Bool)(ws:List W):M Sr:=match ws with
 |[x,y]=>bd (srcA j x) fun s=>bd (srcA k y) fun t=>pr ⟨zipW s.l t.l,fun h=>s.G h/\t.G h⟩
 |_=>no
theorem yh (j k:Bool){a b:Expr}{elts:List Expr}{x1}{tpos:Pos}{fl:Env'->M (List W)}(hm:X.mg "zip"=none)(ha:JA X E [a,b] fl)(hg:Gl X "zip":=by rfl)(hs:starEach [a,b] X.env=[(false,eval a X.env),(false,eval b X.env)]:=by rfl)(hs2:starEach [b] X.env=[(false,eval b X.env)]:=by rfl):
  JI X E (.Tuple elts x1 tpos) (.Call (.Name "zip" p) [a,b] [] pos) (mSrcA fl (srcZ j k)):=(xF (j:=j) (k:=k) hg hm ha.h hs hs2).imp fun σ H Q h=>by
 obtain⟨o,ρ,rfl,R,S,h⟩:=h
 refine⟨o,ρ,rfl,R,S,Ps.bd h fun p x vx e1 R1 r1 h1=>?_⟩
 rcases x with _|⟨w,_|⟨w2,_|⟨_,_⟩⟩⟩
 ·exact h1.elim
 ·exact h1.elim
 ·have h1:Ps (cg X E) (fun p s J=>SrcOk X.K p J s) p (bd (srcA j w) (fun s=>bd (srcA k w2) fun t=>pr ⟨zipW s.l t.l,fun h=>s.G h/\t.G h⟩) p.h) Q:=h1
  obtain⟨v,u,rfl,rv,ru⟩:=r1.two
  obtain⟨s,a,rfl,hq,sk,h1⟩:=pG R1 rv h1
  obtain⟨t,b,rfl,hq2,sk2,h1⟩:=pG R1 ru h1
  refine⟨a,b,rfl,hq,hq2,h1.pr R1 ⟨fun o X R g=>?_,fun o i w X R g e=>?_⟩⟩
  ·obtain⟨vs,k1,k2⟩:=sk o X R g.1
   obtain⟨us,k3,k4⟩:=sk2 o X R g.2
   exact⟨vs,us,k1,k3,by rw[k2.len,k4.len];show _=(zipW s.l t.l).length;unfold zipW;rw[List.length_zipWith]⟩
  ·obtain⟨vs,k1,k2⟩:=sk o X R g.1
   obtain⟨us,k3,k4⟩:=sk2 o X R g.2
   obtain⟨x,y,ex,ey,rfl⟩:=rP e
   obtain⟨v1,hv1,rv1⟩:=k2.get ex
   obtain⟨v2,hv2,rv2⟩:=k4.get ey
   refine⟨⟨vs,us,v1,v2,k1,k3,hv1,hv2⟩,fun q H' yl=>?_⟩
   obtain⟨T,z1,z2,hT,rfl,hz,rfl⟩:=yl
   obtain⟨g1,g2⟩:=hz vs us k1 k3
   have e1:z1=v1:=Option.some.inj (g1.symm.trans hv1)
   have e2:z2=v2:=Option.some.inj (g2.symm.trans hv2)
   subst e1 e2
   refine⟨⟨o.mu,o.h,upd o.H T (.tup [z1,z2])⟩,rfl,rfl,Ex.new hT,R.new hT,Rv.newT R hT (Rvs.cons rv1 (Rvs.cons rv2 Rvs.nil))⟩
 ·exact h1.elim
variable {o e:Expr}{apos cpos:Pos}{fo:Env'->M W}{l:Env'->M (List W)}
def iH (x:W)(ws:List W):M W:=match x,ws with
 |.loc k,[w]=>bd (lstO w) fun m h=>match h[k]? with
  |some (.lst l)=>if l.length+m.length<=sizeLine then .ok .non (h.set k (.lst (l++m))) else .bad
  |_=>.bad
 |_,_=>no
theorem lC (ho:JE X E o fo)(ha:JA X E [e] l)(hbase:attributeBase o "extend" X.env (eval o X.env)=eval o X.env:=by rfl)
  (hfew:((backTo cpos (starEach [e] X.env)).all (fun x=>!x.1) && (backToKw cpos (keywordEach [] X.env)).all (fun x=>x.1.isSome) && decide (([e]:List Expr).length+([]:List Keyword).length+(if ([]:List Keyword).isEmpty then 0 else 1)<30))=true:=by rfl)
  (hline:(apos.endLine==cpos.line)=true:=by rfl)(hs:starEach [e] X.env=(false,eval e X.env)::starEach [] X.env:=by rfl)(hplain:(backTo cpos (starEach [] X.env)).any (·.1)=false:=by rfl):
  JE X E (.Call (.Attribute o "extend" apos) [e] [] cpos) (mMeth isL iH fo l):=
 (nJ PySem.F.plainAttrs_list PySem.F.slot_list_extend PySem.F.type_list_extend qR ho.h ha.h hbase hfew hline hs hplain).imp fun σ H Q h=>by
  obtain⟨w,ρ,rfl,R,S,h⟩:=h
  refine⟨w,ρ,rfl,R,S,Ps.bd h fun p x vx e1 R1 r1 h1=>?_⟩
  obtain⟨j,l0,vs0,rfl,hj,rfl,hlt,hH,hl0,h1⟩:=mJ R1 r1 h1
  refine⟨.inl ⟨rfl,vs0,.of hH⟩,p,ρ,rfl,R1,S.mono R e1,Ps.bd h1 fun q ws vs e2 R2 r2 h2=>?_⟩
  rcases ws with _|⟨w',_|⟨_,_⟩⟩
  ·exact h2.elim
  ·obtain⟨v,rfl,r⟩:=r2.one
   have h2:Ps (cg X E) (Rv X.K) q (bd (lstO w') (fun m h=>match h[j]? with
    |some (.lst l)=>if l.length+m.length<=sizeLine then .ok .non (h.set j (.lst (l++m))) else .bad
    |_=>.bad) q.h) Q:=h2
   obtain⟨m,am,us',rfl,hm,rm,h2⟩:=gX R2 r h2
   cases e:q.h[j]? with
   |none=>simp only[e] at h2;exact h2.elim
   |some b=>
    cases b with
    |lst l'=>
     simp only[e] at h2
     obtain⟨us,k1,k2⟩:=R2.ob j _ e
     by_cases z:l'.length+m.length<=sizeLine
     ·rw[if_pos z] at h2
      rw[e2.mu j hlt] at k1
      refine⟨p.mu j,am,us,us',rfl,rfl,k1,hm,by rw[k2.len,rm.len];exact z,?_⟩
      have:=Ps.at (p:=q.put j (.lst (l'++m)) (.lst (us++us'))) (b:=V.non) h2 rfl (Ex.put e (by simp)) (R2.putL e (by simp) (k2.app rm)) (rv_non.mpr rfl)
      have em:q.mu j=p.mu j:=e2.mu j hlt
      have ew:(q.put j (.lst (l'++m)) (.lst (us++us'))).H=upd q.H (p.mu j) (.lst (us++us')):=by
       show upd q.H (q.mu j) _=_
       rw[em]
      rw[ew] at this
      exact this
     ·rw[if_neg z] at h2;exact h2.elim
    |_=>simp only[e] at h2;exact h2.elim
  ·exact h2.elim
def jX (x:W)(ws:List W):M W:=match x,ws with
 |.loc k,[.int i]=>fun h=>match h[k]? with
  |some (.lst l)=>if -(2 ^ 63)<=i/\i<2 ^ 63 then (match ixN l.length i with
   |some j=>(match l[j]? with
    |some w=>.ok w (h.set k (.lst (l.eraseIdx j)))
    |none=>.bad)
   |none=>.bad) else .bad
  |_=>.bad
 |_,_=>no
theorem Rvs.eraseIdx {K:PySem.W.Frag}{o:Wo}: ∀ {l:List W}{vs:List V} (i:Nat),Rvs K o l vs->Rvs K o (l.eraseIdx i) (vs.eraseIdx i)
 |[],vs,i,h=>by unfold Rvs at h;subst h;exact Rvs.nil
 |w::l,vs,0,h=>by unfold Rvs at h;obtain⟨v,r,rfl,_,h2⟩:=h;exact h2
 |w::l,vs,i+1,h=>by unfold Rvs at h;obtain⟨v,r,rfl,h1,h2⟩:=h;exact Rvs.cons h1 (Rvs.eraseIdx i h2)
theorem tX (ho:JE X E o fo)(ha:JA X E [e] l)(hbase:attributeBase o "pop" X.env (eval o X.env)=eval o X.env:=by rfl)
  (hfew:((backTo cpos (starEach [e] X.env)).all (fun x=>!x.1) && (backToKw cpos (keywordEach [] X.env)).all (fun x=>x.1.isSome) && decide (([e]:List Expr).length+([]:List Keyword).length+(if ([]:List Keyword).isEmpty then 0 else 1)<30))=true:=by rfl)
  (hline:(apos.endLine==cpos.line)=true:=by rfl)(hs:starEach [e] X.env=(false,eval e X.env)::starEach [] X.env:=by rfl)(hplain:(backTo cpos (starEach [] X.env)).any (·.1)=false:=by rfl):
  JE X E (.Call (.Attribute o "pop" apos) [e] [] cpos) (mMeth isL jX fo l):=
 (nJ PySem.F.plainAttrs_list PySem.F.slot_list_pop PySem.F.type_list_pop tQ ho.h ha.h hbase hfew hline hs hplain).imp fun σ H Q h=>by
  obtain⟨w,ρ,rfl,R,S,h⟩:=h
  refine⟨w,ρ,rfl,R,S,Ps.bd h fun p x vx e1 R1 r1 h1=>?_⟩
  obtain⟨j,l0,vs0,rfl,hj,rfl,hlt,hH,hl0,h1⟩:=mJ R1 r1 h1
  refine⟨.inl ⟨rfl,vs0,.of hH⟩,p,ρ,rfl,R1,S.mono R e1,Ps.bd h1 fun q ws vs e2 R2 r2 h2=>?_⟩
  rcases ws with _|⟨w',_|⟨_,_⟩⟩
  ·exact h2.elim
  ·obtain⟨v,rfl,r⟩:=r2.one
   cases w' with
   |int i=>
    have h2:Ps (cg X E) (Rv X.K) q (match q.h[j]? with
     |some (.lst l)=>if -(2 ^ 63)<=i/\i<2 ^ 63 then (match ixN l.length i with
      |some j'=>(match l[j']? with
       |some w=>.ok w (q.h.set j (.lst (l.eraseIdx j')))
       |none=>.bad)
      |none=>.bad) else .bad
     |_=>.bad) Q:=h2
    cases e:q.h[j]? with
    |none=>simp only[e] at h2;exact h2.elim
    |some b=>
     cases b with
     |lst l'=>
      simp only[e] at h2
      obtain⟨us,k1,k2⟩:=R2.ob j _ e
      by_cases z: -(2 ^ 63)<=i/\i<2 ^ 63
      ·rw[if_pos z] at h2
       cases e3:ixN l'.length i with
       |none=>rw[e3] at h2;exact h2.elim
       |some j'=>
        simp only[e3] at h2
        cases e4:l'[j']? with
        |none=>rw[e4] at h2;exact h2.elim
        |some w2=>
         simp only[e4] at h2
         obtain⟨y,hy,ry⟩:=k2.get e4
         have k0:=k1
         rw[e2.mu j hlt] at k1
         refine⟨p.mu j,us,i,j',y,rfl,by rw[rv_int.mp r],k1,z.1,z.2,by rw[k2.len];exact (mI e3).1,hy,?_⟩
         have:=Ps.at (p:=q.put j (.lst (l'.eraseIdx j')) (.lst (us.eraseIdx j'))) (b:=y) h2 rfl (Ex.put e (by simp)) (R2.putL e (by simp) (k2.eraseIdx j')) (ry.mono R2 (Ex.put e (by simp)))
         have em:q.mu j=p.mu j:=e2.mu j hlt
         have ew:(q.put j (.lst (l'.eraseIdx j')) (.lst (us.eraseIdx j'))).H=upd q.H (p.mu j) (.lst (us.eraseIdx j')):=by
          show upd q.H (q.mu j) _=_
          rw[em]
         rw[ew] at this
         exact this
      ·rw[if_neg z] at h2;exact h2.elim
     |_=>simp only[e] at h2;exact h2.elim
   |_=>exact h2.elim
  ·cases w'<;>exact h2.elim
def isTu (w:W):M W:=match w with
 |.tup l=>pr (.tup l)
 |_=>no
def catTW (x y:W):M W:=match x,y with
 |.tup a,.tup b=>if a.isEmpty=true then pr (.tup b) else gd (a.length+b.length<=sizeLine) (pr (.tup (a++b)))
 |_,_=>no
theorem sY:OpM X E (fun x y H Q=>rCat0 X.K x y H Q\/rCatT X.K x y H Q) catTW:=by
 intro o x y vx vy Q R rx ry h
 unfold catTW at h
 split at h
 ·rename_i a b
  have rx0:=rx
  have ry0:=ry
  unfold Rv at rx ry
  obtain⟨p,vs,rfl,s1,r1⟩:=rx
  obtain⟨q,us,rfl,s2,r2⟩:=ry
  cases a with
  |nil=>
   have h:Ps (cg X E) (Rv X.K) o (pr (W.tup b) o.h) Q:=h
   unfold Rvs at r1
   subst r1
   exact .inl ⟨p,q,us,rfl,rfl,s1,s2,h.pr R ry0⟩
  |cons w a=>
   have h:Ps (cg X E) (Rv X.K) o (gd ((w::a).length+b.length<=sizeLine) (pr (W.tup ((w::a)++b))) o.h) Q:=h
   obtain⟨hz,h⟩:=h.gd
   refine .inr ⟨p,q,vs,us,rfl,rfl,s1,s2,fun z=>?_,by rw[r1.len,r2.len];exact hz,fun z=>?_,fun z c hc=>?_⟩
   ·have:=r1.len
    rw[z] at this
    cases this
   ·subst z
    have lb:=r2.len
    have:b=[]:=List.length_eq_zero_iff.mp lb.symm
    subst this
    rw[List.append_nil] at h
    exact h.pr R rx0
   ·exact jx R hc (r1.app r2) h
 ·exact h.elim
theorem wb {a b:Expr}{pos:Pos}{fa fb:Env'->M W}(ha:JE X E a fa)(hb:JE X E b fb):JE X E (.BinOp a .Add b pos) (m2 catTW fa fb):=ky (op_cat0.or op_catT) sY ha hb
theorem n6 {x:Str}{a:Addr}{zs:List Str}{pos:Pos}(hm:X.mg x=some (.ref a))(hq: ∀H,SqT X.K H a (zs.map V.str))(hg:Gl X x:=by rfl)(hd:(x==("__debug__":Str))=false:=by decide):JE X E (.Name x pos) (mC (.tup (zs.map W.str))):=
 my (v:=.ref a) hg hm rfl (fun o=>by
  unfold Rv
  refine⟨a,_,rfl,hq _,?_⟩
  induction zs with
  |nil=>exact Rvs.nil
  |cons z zs ih=>exact Rvs.cons (rv_str.mpr rfl) (rvs_strs zs)) hd
where
 rvs_strs {K:PySem.W.Frag}{o:Wo}: ∀zs:List Str,Rvs K o (zs.map W.str) (zs.map V.str)
  |[]=>Rvs.nil
  |z::zs=>Rvs.cons (rv_str.mpr rfl) (rvs_strs zs)
end
end L2
set_option maxHeartbeats 1000000
namespace L2
open PySem PySem.Spec PyProof.Rows
section
variable {X:Cx}{E:XK}{o e e2:Expr}{apos cpos:Pos}{fo:Env'->M W}{l:Env'->M (List W)}
def iC (x:W)(ws:List W):M W:=match x,ws with
 |.loc k,[.int i,w]=>fun h=>match h[k]? with
  |some (.lst l)=>if 0<=i/\i<=l.length/\l.length<sizeLine then .ok .non (h.set k (.lst (l.take i.toNat++[w]++l.drop i.toNat))) else .bad
  |_=>.bad
 |_,_=>no
theorem qV (ho:JE X E o fo)(ha:JA X E [e,e2] l)(hbase:attributeBase o "insert" X.env (eval o X.env)=eval o X.env:=by rfl)
  (hfew:((backTo cpos (starEach [e,e2] X.env)).all (fun x=>!x.1) && (backToKw cpos (keywordEach [] X.env)).all (fun x=>x.1.isSome) && decide (([e,e2]:List Expr).length+([]:List Keyword).length+(if ([]:List Keyword).isEmpty then 0 else 1)<30))=true:=by rfl)
  (hline:(apos.endLine==cpos.line)=true:=by rfl)(hs:starEach [e,e2] X.env=(false,eval e X.env)::starEach [e2] X.env:=by rfl)(hplain:(backTo cpos (starEach [e2] X.env)).any (·.1)=false:=by rfl):
  JE X E (.Call (.Attribute o "insert" apos) [e,e2] [] cpos) (mMeth isL iC fo l):=
 (nJ PySem.F.plainAttrs_list PySem.F.slot_list_insert PySem.F.type_list_insert qQ ho.h ha.h hbase hfew hline hs hplain).imp fun σ H Q h=>by
  obtain⟨w,ρ,rfl,R,S,h⟩:=h
  refine⟨w,ρ,rfl,R,S,Ps.bd h fun p x vx e1 R1 r1 h1=>?_⟩
  obtain⟨j,l0,vs0,rfl,hj,rfl,hlt,hH,hl0,h1⟩:=mJ R1 r1 h1
  refine⟨.inl ⟨rfl,vs0,.of hH⟩,p,ρ,rfl,R1,S.mono R e1,Ps.bd h1 fun q ws vs e2 R2 r2 h2=>?_⟩
  rcases ws with _|⟨w',_|⟨w2,_|⟨_,_⟩⟩⟩
  ·exact h2.elim
  ·cases w'<;>exact h2.elim
  ·obtain⟨v,u,rfl,r,ru⟩:=r2.two
   cases w' with
   |int i=>
    have h2:Ps (cg X E) (Rv X.K) q (match q.h[j]? with
     |some (.lst l)=>if 0<=i/\i<=l.length/\l.length<sizeLine then .ok .non (q.h.set j (.lst (l.take i.toNat++[w2]++l.drop i.toNat))) else .bad
     |_=>.bad) Q:=h2
    cases e:q.h[j]? with
    |none=>simp only[e] at h2;exact h2.elim
    |some b=>
     cases b with
     |lst l'=>
      simp only[e] at h2
      obtain⟨us,k1,k2⟩:=R2.ob j _ e
      by_cases z:0<=i/\i<=l'.length/\l'.length<sizeLine
      ·rw[if_pos z] at h2
       rw[e2.mu j hlt] at k1
       refine⟨p.mu j,us,i,u,rfl,by rw[rv_int.mp r],k1,z.1,by rw[k2.len];exact z.2.1,by rw[k2.len];exact z.2.2,?_⟩
       have:=Ps.at (p:=q.put j (.lst (l'.take i.toNat++[w2]++l'.drop i.toNat)) (.lst (us.take i.toNat++[u]++us.drop i.toNat))) (b:=V.non) h2 rfl (Ex.put e (by simp)) (R2.putL e (by simp) (((k2.take _).app (Rvs.cons ru Rvs.nil)).app (k2.drop _))) (rv_non.mpr rfl)
       have em:q.mu j=p.mu j:=e2.mu j hlt
       have ew:(q.put j (.lst (l'.take i.toNat++[w2]++l'.drop i.toNat)) (.lst (us.take i.toNat++[u]++us.drop i.toNat))).H=upd q.H (p.mu j) (.lst (us.take i.toNat++[u]++us.drop i.toNat)):=by
        show upd q.H (q.mu j) _=_
        rw[em]
       rw[ew] at this
       exact this
      ·rw[if_neg z] at h2;exact h2.elim
     |_=>simp only[e] at h2;exact h2.elim
   |_=>exact h2.elim
  ·cases w'<;>exact h2.elim
end
theorem p8 {G:List Ob->Prop}{t:W->Env'->Option Env'}{g:Env'->M Fl}(I:Nat->Env'->List Ob->Prop)(J:W->List Ob->Prop)(l:List W)(hG: ∀i ρ h,I i ρ h->G h)
  (hs: ∀i w ρ h,l[i]?=some w->I i ρ h-> ∃r,t w ρ=some r/\Ok (g r) h fun x h'=>(∃r',x=.nx r'/\I (i+1) r' h')\/ ∃v,x=.rt v/\J v h'):
  ∀ (m:List W) (n:Nat) (ρ:Env') (h:List Ob),l.drop n=m->n<=l.length->I n ρ h->Ok (forM G t g m ρ) h fun x h'=>(∃r',x=.nx r'/\I l.length r' h')\/ ∃v,x=.rt v/\J v h'
 |[],n,ρ,h,e,hn,i=>by
  have:l.length<=n:=List.drop_eq_nil_iff.mp e
  have hn:n=l.length:=by omega
  subst hn
  refine⟨.nx ρ,h,?_,.inl ⟨ρ,rfl,i⟩⟩
  unfold forM
  rw[eS (hG _ _ _ i)];rfl
 |w::m,n,ρ,h,e,hn,i=>by
  have hw:l[n]?=some w:=by
   have:=congrArg List.head? e
   rw[List.head?_drop,List.head?_cons] at this
   exact this
  have hl:n<l.length:=(List.getElem?_eq_some_iff.mp hw).1
  have em:l.drop (n+1)=m:=by rw[<-List.tail_drop,e];rfl
  obtain⟨r,e1,x,h',e2,⟨r',rfl,i'⟩|⟨v,rfl,j'⟩⟩:=hs n w ρ h hw i
  ·obtain⟨y,h2,e3,q⟩:=p8 I J l hG hs m (n+1) r' h' em hl i'
   refine⟨y,h2,?_,q⟩
   unfold forM
   rw[eS (hG _ _ _ i),e1]
   dsimp only
   rw[dP e2]
   exact e3
  ·refine⟨.rt v,h',?_,.inr ⟨v,rfl,j'⟩⟩
   unfold forM
   rw[eS (hG _ _ _ i),e1]
   dsimp only
   rw[dP e2];rfl
theorem vP {β:Type}{G:List Ob->Prop}{t:W->Env'->Option Env'}{g:Env'->M Fl}{l:List W}{ρ:Env'}{h:List Ob}{k:Fl->M β}{Q:β->List Ob->Prop}(I:Nat->Env'->List Ob->Prop)(J:W->List Ob->Prop)(h0:I 0 ρ h)(hG: ∀i ρ h,I i ρ h->G h)
  (hs: ∀i w ρ h,l[i]?=some w->I i ρ h-> ∃r,t w ρ=some r/\Ok (g r) h fun x h'=>(∃r',x=.nx r'/\I (i+1) r' h')\/ ∃v,x=.rt v/\J v h')(hd: ∀ρ h,I l.length ρ h->Ok (k (.nx ρ)) h Q)(hr: ∀v h,J v h->Ok (k (.rt v)) h Q):Ok (bd (forM G t g l ρ) k) h Q:=
 aY (p8 I J l hG hs l 0 ρ h rfl (Nat.zero_le _) h0) fun x h' q=>by
  rcases q with⟨r',rfl,i⟩|⟨v,rfl,j⟩
  ·exact hd r' h' i
  ·exact hr v h' j
end L2
set_option maxHeartbeats 1000000
namespace L2
open PySem PySem.Spec PyProof.Rows
section
variable {X:Cx}{E:XK}{a b:Expr}{p p2 pos pos2:Pos}
end
end L2
set_option maxHeartbeats 1000000
namespace L2
open PySem PySem.Spec PyProof.Rows
section
variable {X:Cx}{E:XK}
end
section
variable {β:Type}{h:List Ob}{Q:β->List Ob->Prop}{x:W}{l:List W}
theorem Lw.src {k:Sr->M β}(p:Lw h x l)(q:∀G,(∀h',Lw h' x l->G h')->Ok (k ⟨l,G⟩) h Q):Ok (bd (srcL x) k) h Q:=by
 rcases p with rfl|⟨j,rfl,e⟩
 ·show Ok (bd (pr ⟨l,fun _=>True⟩) k) h Q
  rw[bh];exact q _ fun _ _=>trivial
 ·refine oR e (q _ fun h' r=>?_)
  rcases r with r|⟨i,r,e'⟩
  ·cases r
  ·cases r;exact e'
theorem Lw.keep {h':List Ob}(p:Lw h x l)(q:∀i,i<h.length->h'[i]?=h[i]?):Lw h' x l:=by
 rcases p with rfl|⟨j,rfl,e⟩
 ·exact .inl rfl
 ·exact .inr ⟨j,rfl,(q j (cj e)).trans e⟩
end
theorem Lw.len_eq {β:Type}{h:List Ob}{Q:β->List Ob->Prop}{x:W}{l:List W}{k:W->M β}{N:Int}(p:Lw h x l)(hN:N=(l.length:Int))(q:Ok (k (.int N)) h Q):Ok (bd (lenW [x]) k) h Q:=by
 subst hN;exact p.len q
end L2
set_option maxHeartbeats 1000000
namespace L2
open PySem PySem.Spec PyProof.Rows
noncomputable def lookF:List Str->List W->Str->Option W
 |n::ns,w::ws,f=>if f=n then some w else lookF ns ws f
 |_,_,_=>none
noncomputable def putN:List Str->List W->Str->W->List Str×List W
 |n::ns,w::ws,f,y=>if n=f then (n::ns,y::ws) else (n::(putN ns ws f y).1,w::(putN ns ws f y).2)
 |_,_,f,y=>([f],[y])
section
variable {K:PySem.W.Frag}{o:Wo}
theorem kD {f:Str}{w:W}: ∀ {fs:List (Str×V)}{ns:List Str}{ws:List W},fs.map (·.1)=ns->Rvs K o ws (fs.map (·.2))->lookF ns ws f=some w-> ∃v,fs.lookup f=some v/\Rv K o w v
 |[],_,ws,e,_,h=>by subst e;cases ws<;>cases h
 |(g,x)::fs,_,[],e,r,h=>by subst e;cases h
 |(g,x)::fs,_,y::ws,e,r,h=>by
  subst e
  unfold Rvs at r
  obtain⟨v,t,e2,r1,r2⟩:=r
  cases e2
  have h:(if f=g then some y else lookF (fs.map (·.1)) ws f)=some w:=h
  by_cases z:f=g
  ·rw[if_pos z] at h
   cases h
   exact⟨x,by rw[List.lookup_cons,z];simp,r1⟩
  ·rw[if_neg z] at h
   obtain⟨v,e3,r3⟩:=kD rfl r2 h
   refine⟨v,?_,r3⟩
   rw[List.lookup_cons,show (f==g)=false by simpa using z]
   exact e3
theorem oh {f:Str}: ∀ {fs:List (Str×V)},f ∉ fs.map (·.1)->fs.lookup f=none
 |[],_=>rfl
 |(g,x)::fs,h=>by
  rw[List.map_cons,List.mem_cons,not_or] at h
  rw[List.lookup_cons,show (f==g)=false by simpa using h.1]
  exact oh h.2
theorem pL {f:Str}{y:W}{v:V}(hy:Rv K o y v): ∀ {fs:List (Str×V)}{ns:List Str}{ws:List W},fs.map (·.1)=ns->Rvs K o ws (fs.map (·.2))->(putF f v fs).map (·.1)=(putN ns ws f y).1/\Rvs K o (putN ns ws f y).2 ((putF f v fs).map (·.2))
 |[],_,[],e,r=>by subst e;exact⟨rfl,Rvs.cons hy Rvs.nil⟩
 |[],_,w::ws,e,r=>by unfold Rvs at r;obtain⟨_,_,e2,_⟩:=r;cases e2
 |(g,x)::fs,_,[],e,r=>by unfold Rvs at r;cases r
 |(g,x)::fs,_,w::ws,e,r=>by
  subst e
  unfold Rvs at r
  obtain⟨u,t,e2,r1,r2⟩:=r
  cases e2
  show (List.map (·.1) (if g=f then (g,v)::fs else (g,x)::putF f v fs))=(if g=f then (g::fs.map (·.1),y::ws) else (g::(putN (fs.map (·.1)) ws f y).1,w::(putN (fs.map (·.1)) ws f y).2)).1/\Rvs K o (if g=f then (g::fs.map (·.1),y::ws) else (g::(putN (fs.map (·.1)) ws f y).1,w::(putN (fs.map (·.1)) ws f y).2)).2 ((if g=f then (g,v)::fs else (g,x)::putF f v fs).map (·.2))
  by_cases z:g=f
  ·rw[if_pos z,if_pos z]
   exact⟨rfl,Rvs.cons hy r2⟩
  ·rw[if_neg z,if_neg z]
   obtain⟨a,b⟩:=pL hy (fs:=fs) rfl r2
   exact⟨by rw[List.map_cons,a],Rvs.cons r1 b⟩
theorem Rel.putI (R:Rel K o){k:Nat}{b:Ob}{c:Str}{C dx:Addr}{ns:List Str}{ws:List W}{fs:List (Str×V)}(hk:o.h[k]?=some b)(hb:b≠.gone)(hn:nsIn K mainGlobals c=some (some (.ref C)))(h1:fs.map (·.1)=ns)(hl:Rvs K o ws (fs.map (·.2))):Rel K (o.put k (.ins c ns ws) (.ins C dx fs)):=
 R.put hk hb ⟨C,dx,fs,hn,bF,h1,hl.mono R (Ex.put hk hb)⟩
end
section
variable {X:Cx}{E:XK}
def insG (c:Str)(x:W):M (Nat×List Str×List W):=match x with
 |.loc k=>fun h=>match h[k]? with
  |some (.ins c' ns ws)=>if c'=c then .ok (k,ns,ws) h else .bad
  |_=>.bad
 |_=>no
theorem jB {α β:Type}{r:Wo->α->β->Prop}{c:Str}{C:Addr}{o:Wo}{x:W}{v:V}{k:Nat×List Str×List W->M α}{Q:β->Hp->Prop}(hn:nsIn X.K mainGlobals c=some (some (.ref C)))(R:Rel X.K o)(hr:Rv X.K o x v)(h:Ps (cg X E) r o (bd (insG c x) k o.h) Q):
  ∃ (j:Nat) (ns:List Str) (ws:List W) (dx:Addr) (fs:List (Str×V)),x=.loc j/\j<o.h.length/\o.h[j]?=some (.ins c ns ws)/\v=.ref (o.mu j)/\o.H (o.mu j)=some (.ins C dx fs)/\fs.map (·.1)=ns/\Rvs X.K o ws (fs.map (·.2))/\Ps (cg X E) r o (k (j,ns,ws) o.h) Q:=by
 cases x with
 |loc j=>
  unfold Rv at hr
  obtain⟨hj,rfl⟩:=hr
  unfold insG bd at h
  cases e:o.h[j]? with
  |none=>simp only[e] at h;exact h.elim
  |some b=>
   cases b with
   |ins c' ns ws=>
    simp only[e] at h
    by_cases z:c'=c
    ·subst z
     rw[if_pos rfl] at h
     obtain⟨C',dx,fs,q1,q2,q3,q4⟩:=R.ob j _ e
     rw[hn] at q1
     cases q1
     exact⟨j,ns,ws,dx,fs,rfl,hj,e,rfl,q2,q3,q4,h⟩
    ·rw[if_neg z] at h;exact h.elim
   |_=>simp only[e] at h;exact h.elim
 |_=>exact h.elim
def fldG (c f:Str)(x:W):M W:=bd (insG c x) fun t=>match lookF t.2.1 t.2.2 f with
 |some w=>pr w
 |none=>no
def putG (c f:Str)(x y:W):M Unit:=bd (insG c x) fun t=>fun h=>if t.2.1.length<1000 then .ok () (h.set t.1 (.ins c (putN t.2.1 t.2.2 f y).1 (putN t.2.1 t.2.2 f y).2)) else .bad
variable {c f:Str}{C:Addr}{o:Expr}{fo:Env'->M W}{pos pos':Pos}
theorem cI (hn:nsIn X.K mainGlobals c=some (some (.ref C)))(cl:Cls X.K C)(na:NoAttr X.K C f)(ho:JE X E o fo)(hb:attributeBase o f X.env (eval o X.env)=eval o X.env:=by rfl):JE X E (.Attribute o f pos) (m1 (fldG c f) fo):=
 (xM ho.h hb).imp fun σ H Q h=>by
  obtain⟨w,ρ,rfl,R,S,h⟩:=h
  refine⟨w,ρ,rfl,R,S,Ps.bd h fun p x vx e1 R1 r1 h1=>?_⟩
  obtain⟨j,ns,ws,dx,fs,rfl,hj,e,rfl,q2,q3,q4,h1⟩:=jB hn R1 r1 h1
  cases l:lookF ns ws f with
  |none=>simp only[l] at h1;exact h1.elim
  |some y=>
   simp only[l] at h1
   obtain⟨v,lv,rv⟩:=kD q3 q4 l
   exact⟨_,C,dx,fs,v,rfl,q2,cl,na,lv,h1.pr R1 rv⟩
def sFldW (c f:Str)(fo fv:Env'->M W):Env'->M Fl:=fun ρ=>bd (fv ρ) fun y=>bd (fo ρ) fun x=>bd (putG c f x y) fun _=>pr (.nx ρ)
theorem pM {D:Ends}{p:Wo}{x y:W}{vx vy:V}{ρ:Env'}{σ:St}(hn:nsIn X.K mainGlobals c=some (some (.ref C)))(R:Rel X.K p)(S:Re X.K p ρ σ)(rx:Rv X.K p x vx)(ry:Rv X.K p y vy)(h:Ps (cg X E) (RFl X.K) p (bd (putG c f x y) (fun _=>pr (.nx ρ)) p.h) (DQ D)):
  ∃a dx fs,vx=.ref a/\p.H a=some (.ins C dx fs)/\fs.length<1000/\D.nx σ (upd p.H a (.ins C dx (putF f vy fs))):=by
 unfold putG at h
 rw[aa] at h
 obtain⟨j,ns,ws,dx,fs,rfl,hj,e,rfl,q2,q3,q4,h⟩:=jB hn R rx h
 have ln:fs.length=ns.length:=by rw[<-q3,List.length_map]
 by_cases z:ns.length<1000
 ·have h:Ps (cg X E) (RFl X.K) p (.ok (.nx ρ) (p.h.set j (.ins c (putN ns ws f y).1 (putN ns ws f y).2))) (DQ D):=by
   have e2:(bd (fun h=>if ns.length<1000 then Rs.ok () (h.set j (.ins c (putN ns ws f y).1 (putN ns ws f y).2)) else .bad) (fun _=>pr (Fl.nx ρ)) p.h)=.ok (.nx ρ) (p.h.set j (.ins c (putN ns ws f y).1 (putN ns ws f y).2)):=by
    unfold bd
    simp only[if_pos z];rfl
   rw[<-e2];exact h
  obtain⟨a,b⟩:=pL ry q3 q4
  refine⟨p.mu j,dx,fs,rfl,q2,by omega,?_⟩
  exact Ps.at (p:=p.put j (.ins c (putN ns ws f y).1 (putN ns ws f y).2) (.ins C dx (putF f vy fs))) (b:=FlV.nx σ) h rfl (Ex.put e (by simp)) (R.putI e (by simp) hn a b) ⟨σ,rfl,S.mono R (Ex.put e (by simp))⟩
 ·have e2:(bd (fun h=>if ns.length<1000 then Rs.ok () (h.set j (.ins c (putN ns ws f y).1 (putN ns ws f y).2)) else .bad) (fun _=>pr (Fl.nx ρ)) p.h)=.bad:=by
   unfold bd
   simp only[if_neg z]
  have h:Ps (cg X E) (RFl X.K) p (bd (fun h=>if ns.length<1000 then Rs.ok () (h.set j (.ins c (putN ns ws f y).1 (putN ns ws f y).2)) else .bad) (fun _=>pr (Fl.nx ρ)) p.h) (DQ D):=h
  rw[e2] at h
  exact h.elim
variable {value:Expr}{fv:Env'->M W}{tpos:Pos}
theorem mw (hn:nsIn X.K mainGlobals c=some (some (.ref C)))(cl:Cls X.K C)(na:NoAttr X.K C f)(ho:JE X E o fo)(hv:JE X E value fv)(hs:swapsWith value (some (.Attribute o f pos')) pos.line X.env=pure false:=by rfl):JS X E (.Assign [.Attribute o f pos'] value pos) (sFldW c f fo fv):=
 (xB ho.h hv.h hs).imp fun D σ H h=>by
  obtain⟨w,ρ,rfl,R,S,h⟩:=h
  refine⟨w,ρ,rfl,R,S,Ps.bd h fun p y vy e1 R1 r1 h1=>⟨p,ρ,rfl,R1,S.mono R e1,Ps.bd h1 fun q x vx e2 R2 r2 h2=>?_⟩⟩
  obtain⟨a,dx,fs,ex,q1,q2,q3⟩:=pM hn R2 ((S.mono R e1).mono R1 e2) r2 (r1.mono R1 e2) h2
  exact⟨a,C,dx,fs,ex,q1,cl,na,q2,q3⟩
def addI (x y:W):M W:=match x,y with
 |.int i,.int j=>pr (.int (i+j))
 |_,_=>no
def sAugW (c f:Str)(fo fv:Env'->M W):Env'->M Fl:=fun ρ=>bd (fo ρ) fun x=>bd (fldG c f x) fun v=>bd (fv ρ) fun y=>bd (addI v y) fun z=>bd (putG c f x z) fun _=>pr (.nx ρ)
theorem qT (hn:nsIn X.K mainGlobals c=some (some (.ref C)))(cl:Cls X.K C)(na:NoAttr X.K C f)(ho:JE X E o fo)(hv:JE X E value fv):JS X E (.AugAssign (.Attribute o f tpos) .Add value pos) (sAugW c f fo fv):=
 (qF ho.h hv.h ul).imp fun D σ H h=>by
  obtain⟨w,ρ,rfl,R,S,h⟩:=h
  refine⟨w,ρ,rfl,R,S,Ps.bd h fun p x vx e1 R1 r1 h1=>?_⟩
  unfold fldG at h1
  rw[aa] at h1
  obtain⟨j,ns,ws,dx,fs,rfl,hj,e,rfl,q2,q3,q4,h1⟩:=jB hn R1 r1 h1
  cases l:lookF ns ws f with
  |none=>simp only[l] at h1;exact h1.elim
  |some v=>
   simp only[l,bh] at h1
   obtain⟨vv,lv,rv⟩:=kD q3 q4 l
   refine⟨_,C,dx,fs,vv,rfl,q2,cl,na,lv,p,ρ,rfl,R1,S.mono R e1,Ps.bd h1 fun q y vy e2 R2 r2 h2=>?_⟩
   unfold addI at h2
   split at h2
   ·rename_i a b
    rw[bh] at h2
    refine⟨a,b,rv_int.mp rv,rv_int.mp r2,?_⟩
    have rl:Rv X.K q (.loc j) (.ref (p.mu j)):=by
     have:=r1.mono R1 e2
     exact this
    obtain⟨ad,dx',fs',ex,k1,k2,k3⟩:=pM (vy:=V.int (a+b)) hn R2 ((S.mono R e1).mono R1 e2) rl (rv_int.mpr rfl) h2
    cases ex
    exact⟨dx',fs',k1,k2,k3⟩
   ·exact h2.elim
structure CGm (P:Program)(w:World)(K:PySem.W.Frag)(mg:Str->Option Value)(base:Heap)(k:Nat)(C:Addr)(m:Str)(f:Addr)(fd:FuncData)(ps:List Str)(n:Nat)(fn:List W->M W):Prop where
 ok:FnOk P w K mg base CX0 k f fd ps (spM0 K mg n fn)
 bi:Binds K fd ps []
 me:Meth K C m f
def isI (c m:Str)(x:W):M W:=bd (insG c x) fun t=>if m∈t.2.1 then no else pr x
def mMet (c m:Str)(n:Nat)(fn:List W->M W)(fo:Env'->M W)(l:Env'->M (List W)):Env'->M W:=fun ρ=>bd (fo ρ) fun x=>bd (isI c m x) fun x=>bd (l ρ) fun ws=>arW n fn (x::ws)
theorem yF {α β:Type}{r:Wo->α->β->Prop}{m:Str}{p:Wo}{x:W}{v:V}{k:W->M α}{Q:β->Hp->Prop}(hn:nsIn X.K mainGlobals c=some (some (.ref C)))(R:Rel X.K p)(hr:Rv X.K p x v)(h:Ps (cg X E) r p (bd (isI c m x) k p.h) Q):
  ∃a dx fs,v=.ref a/\p.H a=some (.ins C dx fs)/\fs.lookup m=none/\Ps (cg X E) r p (k x p.h) Q:=by
 unfold isI at h
 rw[aa] at h
 obtain⟨j,ns,ws,dx,fs,rfl,hj,e,rfl,q2,q3,q4,h⟩:=jB hn R hr h
 by_cases z:m∈ns
 ·simp only[if_pos z] at h
  exact h.elim
 ·simp only[if_neg z,bh] at h
  exact⟨_,dx,fs,rfl,q2,oh (by rw[q3];exact z),h⟩
end
section
variable {X:Cx}{c m:Str}{C fA:Addr}{fd:FuncData}{ps:List Str}{k n:Nat}{fn:List W->M W}{o e:Expr}{es:List Expr}{fo:Env'->M W}{l:Env'->M (List W)}{pos apos p:Pos}
theorem fZ {pl:Sem Bool}(hn:nsIn X.K mainGlobals c=some (some (.ref C)))(cl:Cls X.K C)(F:CGm X.prog X.w X.K X.mg X.base k C m fA fd ps n fn)(hr:Room k X.A)(ho:JE X E0 o fo)(ha:JA X E0 (e::es) l)
  (hst:starEach (e::es) X.env=(false,eval e X.env)::starEach es X.env:=by rfl)(hpl:(backTo pos (starEach es X.env)).any (·.1)=false:=by rfl)
  (ht:eval (.Call (.Attribute o m apos) (e::es) [] pos) X.env=(do
   let ov<-eval o X.env
   standAt apos.atName
   let (f,first)<-holding [ov] (getMethod ov m pl)
   callWith pos f first (backTo pos (starEach (e::es) X.env)) (backToKw pos (keywordEach [] X.env))):=by rfl):
  JE X E0 (.Call (.Attribute o m apos) (e::es) [] pos) (mMet c m n fn fo l):=(vA ho.h cl F.me F.ok hr F.bi .nil pass0 ha.h hst hpl ht).imp fun σ H Q h=>by
 obtain⟨w,ρ,rfl,R,S,h⟩:=h
 refine⟨w,ρ,rfl,R,S,Ps.bd h fun p x vx e1 R1 r1 h1=>?_⟩
 obtain⟨a,dx,fs,rfl,q1,q2,h1⟩:=yF hn R1 r1 h1
 refine⟨a,dx,fs,rfl,q1,q2,p,ρ,rfl,R1,S.mono R e1,Ps.bd h1 fun q ws vs e2 R2 r2 h2=>?_⟩
 unfold arW at h2
 by_cases z:(x::ws).length=n
 ·rw[if_pos z] at h2
  exact⟨q,x::ws,rfl,z,R2,by rw[List.append_nil];exact Rvs.cons (r1.mono R1 e2) r2,h2⟩
 ·rw[if_neg z] at h2
  exact h2.elim
def mMake (c:Str)(n:Nat)(fn:List W->M W)(l:Env'->M (List W)):Env'->M W:=fun ρ=>bd (l ρ) fun ws=>fun h=>match arW n fn (.loc h.length::ws) (h++[.ins c [] []]) with
 |.ok .non h'=>.ok (.loc h.length) h'
 |_=>.bad
theorem Rv.addLocI {K:PySem.W.Frag}{o:Wo}{q:Addr}{b:Ob}{u:HO}:Rv K (o.add q b u) (.loc o.h.length) (.ref q):=by
 unfold Rv
 refine⟨by show _<(o.h++[b]).length;simp,?_⟩
 show V.ref q=V.ref (if o.h.length=o.h.length then q else o.mu o.h.length)
 rw[if_pos rfl]
theorem pT (M:Mk X.K C fA)(hn:nsIn X.K mainGlobals c=some (some (.ref C)))(F:FnOk X.prog X.w X.K X.mg X.base CX0 k fA fd ps (spM0 X.K X.mg n fn))(hb:Binds X.K fd ps [])(hr:Room (k+1) X.A)(hm:X.mg c=some (.ref C))(ha:JA X E0 (e::es) l)(hg:Gl X c:=by rfl)
  (hdb:(c==("__debug__":Str))=false:=by decide)(he:starEach (e::es) X.env=(false,eval e X.env)::starEach es X.env:=by rfl)(hpl:(backTo pos (starEach es X.env)).any (·.1)=false:=by rfl):
  JE X E0 (.Call (.Name c p) (e::es) [] pos) (mMake c n fn l):=(vB M F hr hg hm hb .nil pass0 ha.h hdb he hpl).imp fun σ H Q h=>by
 obtain⟨w,ρ,rfl,R,S,h⟩:=h
 refine⟨w,ρ,rfl,R,S,Ps.bd h fun p ws vs e1 R1 r1 h1=>?_⟩
 intro x dx hx hdx hne
 have X1:Ex p ⟨p.mu,p.h,upd p.H dx (.own x)⟩:=Ex.new hdx
 have N1:Rel X.K ⟨p.mu,p.h,upd p.H dx (.own x)⟩:=R1.new hdx
 have hx1:(⟨p.mu,p.h,upd p.H dx (.own x)⟩:Wo).H x=none:=by
  show upd p.H dx (.own x) x=none
  rw[aF (Ne.symm hne)];exact hx
 have X2:Ex ⟨p.mu,p.h,upd p.H dx (.own x)⟩ (Wo.add ⟨p.mu,p.h,upd p.H dx (.own x)⟩ x (.ins c [] []) (.ins C dx [])):=Ex.add hx1
 have N2:Rel X.K (Wo.add ⟨p.mu,p.h,upd p.H dx (.own x)⟩ x (.ins c [] []) (.ins C dx [])):=N1.add hx1 ⟨C,dx,[],hn,bF,rfl,Rvs.nil⟩
 have h1:Ps (cg X E0) (Rv X.K) p (match arW n fn (.loc p.h.length::ws) (p.h++[.ins c [] []]) with
  |.ok .non h'=>.ok (.loc p.h.length) h'
  |_=>.bad) Q:=h1
 by_cases z:(W.loc p.h.length::ws).length=n
 ·rw[uR z] at h1
  refine⟨Wo.add ⟨p.mu,p.h,upd p.H dx (.own x)⟩ x (.ins c [] []) (.ins C dx []),.loc p.h.length::ws,rfl,z,N2,?_,?_⟩
  ·rw[List.append_nil]
   exact Rvs.cons Rv.addLocI ((r1.mono R1 X1).mono N1 X2)
  ·show Ps ⟨X.K,X.mg,E0⟩ (Rv X.K) _ (fn (.loc p.h.length::ws) (p.h++[.ins c [] []])) _
   cases ef:fn (.loc p.h.length::ws) (p.h++[.ins c [] []]) with
   |ok a h'=>
    rw[ef] at h1
    cases a with
    |non=>
     intro p' b hp X3 R3 rb
     refine⟨rv_non.mp rb,Ps.at (p:=p') h1 hp ((X1.trans X2).trans X3) R3 ?_⟩
     have lt:p.h.length<(Wo.add ⟨p.mu,p.h,upd p.H dx (.own x)⟩ x (.ins c [] []) (.ins C dx [])).h.length:=by show _<(p.h++[_]).length;simp
     unfold Rv
     refine⟨Nat.lt_of_lt_of_le lt X3.le,?_⟩
     rw[X3.mu _ lt]
     show V.ref x=V.ref (if p.h.length=p.h.length then x else p.mu p.h.length)
     rw[if_pos rfl]
    |_=>exact h1.elim
   |ex y h'=>rw[ef] at h1;exact h1.elim
   |bad=>rw[ef] at h1;exact h1.elim
 ·have:arW n fn (.loc p.h.length::ws)=no:=if_neg z
  rw[this] at h1
  exact h1.elim
end
end L2
set_option maxHeartbeats 1000000
namespace PySem
open Sem (wp)
theorem mM {prog:Program}{w:World}{A:Around}{E:Value->Shared->Prop}{s:Shared}{a:Addr}{o:Obj}{xs:Array Value}{k:Nat}{name:Str}{Q:Option Value->Shared->Prop}
  (hx:s.heap.get? a=some o)(hc:o.cls=.type "list")(hdat:o.data=.seq xs k)(hd:o.dict=none)(hmiss:typeLookup (.type "list") name=pure none)(hname:(["__module__", "__name__", "__qualname__", "__doc__", "__annotations__"]:List Str).contains name=false)(hA:A.handled=none)
  (h:∀h' tk,(∀b ob,s.heap.get? b=some ob->h'.get? b=some ob)->Q none {s with heap:=h',toks:=tk})(hsz:name.length+100<=sizeLine:=by size_fits):
  wpAny (model prog w) A (getAttr? (.ref a) name) Q E s:=by
 obtain⟨c,dct,dat,sl⟩:=o
 simp only at hc hdat hd
 subst hc hdat hd
 obtain⟨hp,g,d,tk,os⟩:=s
 have hT: ∀tk',(⟨hp,g,d,tk',os⟩:Shared).TypeIs (.ref a) "list":=fun _=>⟨_,hx,rfl⟩
 have f1:=sub_AttributeError
 have f3:=F.slot_list_getattribute.lookup
 have f4:=F.slot_list_getattribute.bind (.ref a)
 have f5:=am_list_getattr_none
 unfold getAttr? getAttrBy? getAttrBy
 repeat (any_goals (first|assumption|exact hT _|((with_reducible show wpAny _ _ (call (Value.builtin "list.__getattribute__") _ _) _ _ _);refine call_meets F.slot_list_getattribute (hT _) am_entry_list_getattribute (F.args_list_getattribute_2 _ _) (meets_getattribute_miss_list a xs k sl name _ hmiss hname hsz) ⟨hx,hA,fun h' tk' e hx'=>?_⟩)|wp_step))
 obtain⟨t',u',he⟩:=hx'.there
 show wpAny _ _ (getattributeRaised _ _ _ _ _ _ _) _ _ _
 unfold getattributeRaised
 repeat (any_goals (first|assumption|wp_step))
 exact h _ _ hx'.keeps
theorem F.entry_dul:entryFor table "dict.update.loop"=some Builtin.«dict.update.loop»:=entryFor_of_tree (by kernel_rfl)
theorem F.plain_dul:plainId "dict.update.loop"=true:=by decide+kernel
structure Pr17 (K:Type) where
 t:Addr
 k:K
 key:Value
 val:Value
section
variable {prog:Program}{w:World}{K:Type} [DecidableEq K] {knd:KeyKind prog w K}{A:Around}{R:Result->Shared->Prop}
theorem uC (hh:A.in1.handled=none)(I ax D:Addr)(hI:ax≠I)(hD:D≠I)(hx:D≠ax)(ps:List (Pr17 K))(res:Value)(hk: ∀p∈ps,knd.is p.k p.key=true)(ht: ∀p∈ps,p.t≠I/\p.t≠D):
  ∀ (k i:Nat) (s:Shared) (kvs:List (K×Value)),ps.length - i=k->i<=ps.length->s.heap.IsListIter I ax i->s.heap.IsList ax (ps.map fun p=>Value.ref p.t).toArray->s.heap.DictOf knd D kvs->(∀p∈ps,∃o n,s.heap.get? p.t=some o/\o.cls=.type "tuple"/\o.data=.seq #[p.key,p.val] n)->kvs.length+(ps.length - i)<=sizeLine->
  (∀h' tk,h'.DictOf knd D ((ps.drop i).foldl (fun acc p=>stored acc p.k p.val) kvs)->(∀b o,b≠I->b≠D->s.heap.get? b=some o->h'.get? b=some o)->R (.ok (.ret res)) {s with heap:=h',toks:=tk})->
  codeAny (model prog w) A (.builtin "dict.update.loop" ⟨[.ref D,.ref I,rawInt (i:Int),res],[]⟩) R s:=by
 have W:=Walks.list (prog:=prog) (w:=w) (A:=A.in1) hh I ax hI (ps.map fun p=>Value.ref p.t).toArray
 have hn:(ps.map fun p=>Value.ref p.t).toArray.size=ps.length:=by simp
 intro k
 induction k with
 |zero=>
  intro i s kvs hk' hi hit hl hd htp hz hR
  have hin:i=ps.length:=by omega
  subst hin
  refine codeAny_builtin F.entry_dul ?_
  rw[Around.under_plainId F.plain_dul _]
  show wpAny _ A.in1 (pyNext (.ref I)>>=_) _ _ s
  refine wpAny_bind (W.done s _ _ ⟨by rw[hn];exact hit,hl⟩ fun h' tk hm=>?_)
  show wpAny _ _ (Builtin.Dict.addKeywords D []>>=_) _ _ _
  refine wpAny_bind (wpAny_pure (wpAny_pure (hR h' tk ?_ fun b o hb _ e=>hm b o (by simpa using hb) e)))
  rw[List.drop_length]
  exact hd.extBut (fun b o hb e=>hm b o (by simpa using hb) e) hD
 |succ k ih=>
  intro i s kvs hk' hi hit hl hd htp hz hR
  have hlt:i<ps.length:=by omega
  refine codeAny_builtin F.entry_dul ?_
  rw[Around.under_plainId F.plain_dul _]
  show wpAny _ A.in1 (pyNext (.ref I)>>=_) _ _ s
  refine wpAny_bind (W.item i s _ _ (by rw[hn];exact hlt) ⟨hit,hl⟩ fun v h' tk hP hst hm=>?_)
  obtain⟨p,hp⟩: ∃p,ps[i]?=some p:=⟨_,List.getElem?_eq_getElem hlt⟩
  have hv:v=.ref p.t:=by
   have:(ps.map fun p=>Value.ref p.t)[i]?=some v:=by simpa using hP
   rw[List.getElem?_map,hp] at this
   exact (Option.some.inj this).symm
  subst hv
  have pm:p∈ps:=List.mem_of_getElem? hp
  obtain⟨o,n,ho,hc,hdt⟩:=htp p pm
  have ho':h'.get? p.t=some o:=hm p.t o (by simpa using (ht p pm).1) ho
  have hT:(⟨h',s.gens,s.drawn,tk,s.os⟩:Shared).TypeIs (.ref p.t) "tuple":=⟨_,ho',hc⟩
  dsimp only
  refine wpAny_bind (wpAny_holding (wpAny_bind (wpAny_tryCatch ?_)))
  unfold Builtin.Dict.pairItems
  refine wpAny_bind (wpAny_typeOf hT ?_)
  rw[if_pos (by decide)]
  refine wpAny_bind (wpAny_seqItems ho' hdt (wpAny_pure ?_))
  show wpAny _ _ (holding [p.key,p.val] (dictSet D p.key p.val)) _ _ _
  have hd1:h'.DictOf knd D kvs:=hd.extBut (fun b o hb e=>hm b o (by simpa using hb) e) hD
  refine wpAny_holding (wpAny_dictSet_pairs (s:=⟨h',s.gens,s.drawn,tk,s.os⟩) (hk p pm) hd1 (fun h2 hd2 hs2=>?_) (by omega))
  have kp2: ∀b o,b≠D->h'.get? b=some o->h2.get? b=some o:=fun b o hb e=>(hs2.2 b hb).trans e
  have ei:((i:Int)+1)=((i+1:Nat):Int):=by omega
  rw[ei]
  refine wpAny_pure ⟨plainId_quiet F.plain_dul _,ih (i+1) _ (stored kvs p.k p.val) (by omega) (by omega) (hst.1.at fun o e=>kp2 I o (Ne.symm hD) e) (hst.2.at fun o e=>kp2 ax o (Ne.symm hx) e) hd2 (fun q hq=>?_) ?_ fun h3 tk3 hd3 hk3=>?_⟩
  ·obtain⟨o,n,e1,e2,e3⟩:=htp q hq
   exact⟨o,n,kp2 _ _ (ht q hq).2 (hm _ _ (by simpa using (ht q hq).1) e1),e2,e3⟩
  ·have:(stored kvs p.k p.val).length<=kvs.length+1:=by
    unfold stored
    split
    ·rw[List.length_map];omega
    ·rw[List.length_append];simp
   omega
  ·refine hR h3 tk3 ?_ fun b o hb hb2 e=>hk3 b o hb hb2 (kp2 b o hb2 (hm b o (by simpa using hb) e))
   have ed:ps.drop i=p::ps.drop (i+1):=by
    rw[List.drop_eq_getElem_cons hlt]
    congr 1
    have:=List.getElem?_eq_getElem hlt
    rw[hp] at this
    exact (Option.some.inj this).symm
   rw[ed,List.foldl_cons]
   exact hd3
theorem qX:typeLookup (.type "list") "keys"=pure none:=am_miss_of_fast (by decide+kernel)
theorem kY {E:Value->Shared->Prop}{s:Shared}{a:Addr}{ps:List (Pr17 K)}{Q:Value->Shared->Prop}(hh:A.handled=none)(hl:PlainL s.heap a (ps.map fun p=>Value.ref p.t).toArray)(hk: ∀p∈ps,knd.is p.k p.key=true)
  (ht: ∀p∈ps,∃o n,s.heap.get? p.t=some o/\o.cls=.type "tuple"/\o.data=.seq #[p.key,p.val] n)(hz:ps.length<=sizeLine)
  (h:∀h' tk,h'.DictOf knd s.heap.objs.size (ps.foldl (fun acc p=>stored acc p.k p.val) [])->(∀b o,s.heap.get? b=some o->h'.get? b=some o)->Q (.ref s.heap.objs.size) {s with heap:=h',toks:=tk}):
  wpAny (model prog w) A (call (.type "dict") [.ref a]) Q E s:=by
 refine callType_codes (Q₁:=fun obj s₁=>obj=.ref s.heap.objs.size/\s₁={s with heap:=s.heap.push {cls:=.type "dict",data:=.dict #[]}}) F.kt_called_dict (F.kt_typeCall_dict_1 _) F.entry_dict_init (kt_code_dict_new _ ⟨rfl,rfl⟩) ?_
 rintro obj s₁ ⟨rfl,rfl⟩
 have hnew:(s.heap.push {cls:=.type "dict",data:=.dict #[]}).DictOf knd s.heap.objs.size []:=Heap.DictOf.new s.heap
 have kp1: ∀b o,s.heap.get? b=some o->(s.heap.push {cls:=.type "dict",data:=.dict #[]}).get? b=some o:=fun b o e=>Heap.get?_push_of_some _ e
 have hl1:=hl.keeps kp1
 have hT:({s with heap:=s.heap.push {cls:=.type "dict",data:=.dict #[]}}:Shared).TypeIs (.ref a) "list":=let ⟨o,n,e,c,_,_⟩:=hl1;⟨o,e,c⟩
 have al:a<s.heap.objs.size:=let ⟨o,n,e,_⟩:=hl;Heap.lt_size e
 refine⟨hnew.typeIs,F.args_dict_init_2 _ _,?_⟩
 unfold Builtin.«dict.__init__»
 refine wpAny_bind ?_
 unfold Builtin.Dict.selfAndRest
 refine wpAny_bind (wpAny_notOrdered_dict hnew.typeIs ?_)
 show wpAny _ _ (pure (s.heap.objs.size,[Value.ref a])) _ _ _
 refine wpAny_pure ?_
 show wpAny _ _ (Builtin.Dict.updateFrom "dict.__init__" s.heap.objs.size (.ref a) [] .none) _ _ _
 unfold Builtin.Dict.updateFrom
 refine wpAny_bind (wpAny_typeOf hT ?_)
 rw[if_pos (by decide)]
 obtain⟨o,n,e1,e2,e3,e4⟩:=hl1
 refine wpAny_bind (mM e1 e2 e4 e3 qX (by decide+kernel) hh (fun h2 tk2 kp2=>?_) (by decide+kernel))
 rw[if_pos (show (none:Option Value).isNone=true from rfl)]
 refine wpAny_bind (wpAny_rule ?_)
 have hl2:PlainL h2 a (ps.map fun p=>Value.ref p.t).toArray:=PlainL.keeps ⟨o,n,e1,e2,e3,e4⟩ kp2
 refine wpAny_bind (wpAny_pyIter_list (s:=⟨h2,s.gens,s.drawn,tk2,s.os⟩) hl2.isList ?_)
 have d2:s.heap.objs.size<h2.objs.size:=by
  obtain⟨o',_,_,e',_⟩:=hnew
  exact Heap.lt_size (kp2 _ _ e')
 have kp3: ∀b o,s.heap.get? b=some o->(h2.push {cls:=.type "list_iterator",data:=.fields #[.ref a,.int 0 0]}).get? b=some o:=fun b o e=>Heap.get?_push_of_some _ (kp2 b o (kp1 b o e))
 have hnew3:(h2.push {cls:=.type "list_iterator",data:=.fields #[.ref a,.int 0 0]}).DictOf knd s.heap.objs.size []:=by
  obtain⟨o',es,ep,e',r⟩:=hnew
  exact⟨o',es,ep,Heap.get?_push_of_some _ (kp2 _ _ e'),r⟩
 have tl: ∀p∈ps,p.t<s.heap.objs.size:=fun p hp=>by
  obtain⟨o,n,e,_⟩:=ht p hp
  exact Heap.lt_size e
 refine wpAny_pure ⟨plainId_quiet F.plain_dul _,uC (A:=A.in1) (knd:=knd) hh h2.objs.size a s.heap.objs.size (Nat.ne_of_lt (Nat.lt_trans al d2)) (Nat.ne_of_lt d2) (Ne.symm (Nat.ne_of_lt al)) ps .none hk (fun p hp=>⟨Nat.ne_of_lt (Nat.lt_trans (tl p hp) d2),Nat.ne_of_lt (tl p hp)⟩) ps.length 0 _ [] rfl (Nat.zero_le _) ⟨_,Heap.get?_push_size _ rfl,rfl,rfl⟩ (PlainL.keeps hl2 fun b o e=>Heap.get?_push_of_some _ e).isList hnew3 (fun p hp=>?_) (by show 0+(ps.length - 0)<=sizeLine;omega) fun h4 tk4 hd4 hk4=>?_⟩
 ·obtain⟨o,n,e,r⟩:=ht p hp
  exact⟨o,n,kp3 _ _ e,r⟩
 ·refine⟨rfl,h h4 tk4 hd4 fun b o e=>hk4 b o ?_ ?_ (kp3 b o e)⟩
  ·exact Nat.ne_of_lt (Nat.lt_trans (Heap.lt_size e) d2)
  ·exact Nat.ne_of_lt (Heap.lt_size e)
end
end PySem
namespace L2
open PySem PySem.Spec PyProof.Rows
inductive PrsAt (K:PySem.W.Frag)(H:Hp):List V->List (Key×V)->Prop
 |nil:PrsAt K H [] []
 |cons {t:Addr}{k:Key}{v:V}{vs:List V}{ps:List (Key×V)} (e:SqT K H t [kV k,v]) (r:PrsAt K H vs ps):PrsAt K H (.ref t::vs) ((k,v)::ps)
theorem kj: ∀ (ps kvs:List (Key×V)),(fY kvs ps).length<=kvs.length+ps.length
 |[],kvs=>by simp [fY]
 |p::ps,kvs=>by
  have h1:=kj ps (putK kvs p.1 p.2)
  have h2:=gN kvs p.1 p.2
  show (fY (putK kvs p.1 p.2) ps).length<=_
  rw[List.length_cons];omega
section
variable {X:Cx}
theorem sN {pins:List (Addr×Obj)}{σ:St}{H:Hp}{s:Shared}(I:Inv X pins σ H s): ∀ {vs:List V}{kvs:List (Key×V)}{its:List Value},PrsAt X.K H vs kvs->Vals vs its->
  ∃ps:List (Pr17 Key),its=ps.map (fun p=>Value.ref p.t)/\(∀p∈ps,(cF X.prog X.w).is p.k p.key=true)/\(∀p∈ps,∃o n,s.heap.get? p.t=some o/\o.cls=.type "tuple"/\o.data=.seq #[p.key,p.val] n)/\
   ps.length=kvs.length/\ ∀ (acc:List (Key×V)) (ac:List (Key×Value)),KV acc ac->KV (fY acc kvs) (ps.foldl (fun acc p=>stored acc p.k p.val) ac)
 |_,_,_,.nil,.nil=>⟨[],rfl,fun p hp=>absurd hp List.not_mem_nil,fun p hp=>absurd hp List.not_mem_nil,rfl,fun _ _ h=>h⟩
 |_,_,_,.cons (t:=t) (k:=k) (v:=v) e r,.cons ru rr=>by
  cases ru
  obtain⟨ps,e1,h1,h2,h3,h4⟩:=sN I r rr
  obtain⟨is,rv,tp,_⟩:=I.tuple e
  obtain⟨u,w',rfl,rk,rw'⟩:=vals2 rv
  obtain⟨o,ho,hc,n,hd⟩:=tp
  refine⟨⟨t,k,u,w'⟩::ps,by rw[List.map_cons,e1],fun p hp=>?_,fun p hp=>?_,by rw[List.length_cons,List.length_cons,h3],fun acc ac q=>?_⟩
  ·rcases List.mem_cons.mp hp with rfl|hp
   ·exact on rk
   ·exact h1 p hp
  ·rcases List.mem_cons.mp hp with rfl|hp
   ·exact⟨o,n,ho,hc,hd⟩
   ·exact h2 p hp
  ·rw[List.foldl_cons]
   exact h4 _ _ (q.put k rw')
theorem mX (hc:X.calm=true):CallR X (.type "dict") (fun xs H Q=> ∃ (a:Addr) (vs:List V) (kvs:List (Key×V)),xs=[.ref a]/\SqL X.K H a vs/\PrsAt X.K H vs kvs/\ ∀p,H p=none->Q (.ref p) (upd H p (.dK (fY [] kvs)))):=by
 intro pins s σ H xs us Q I r h
 obtain⟨a,vs,kvs,rfl,sq,pr',q⟩:=h
 obtain⟨u,rfl,ru⟩:=vals1 r
 cases ru
 obtain⟨its,rv,pl,hz⟩:=I.list sq
 obtain⟨ps,rfl,h1,h2,h3,h4⟩:=sN I pr' rv
 have hl:vs.length=kvs.length:=by rw[rv.length,List.length_map,h3]
 have ml:=kj kvs []
 rw[List.length_nil] at ml
 refine kY (knd:=cF X.prog X.w) (I.ok.hd hc) pl h1 h2 (by omega) fun h' tk hd kp=>?_
 exact⟨.ref s.heap.objs.size,_,I.laid (a:=s.heap.objs.size) (o:=.dK (fY [] kvs)) (t':=tk) kp (Nat.le_refl _) (uF (by omega) (beq_eq_false_iff_ne.mpr (Ne.symm (Nat.ne_of_lt I.big))) (h4 [] [] .nil) hd),rfl,q _ (I.hok.fresh (Nat.le_refl _))⟩
end
end L2
set_option maxHeartbeats 1000000
namespace L2
open PySem PySem.Spec PyProof.Rows
def prW:W->Option (Key×W)
 |.tup [k,v]=>(keyOf k).map fun q=>(q,v)
 |_=>none
def fK (ks:List Key)(ws:List W):List (Key×W)->List Key×List W
 |[]=>(ks,ws)
 |p::ps=>fK (putW ks ws p.1 p.2).1 (putW ks ws p.1 p.2).2 ps
section
variable {K:PySem.W.Frag}{o:Wo}
theorem sM: ∀ {l:List W}{us:List V}{ps:List (Key×W)},optL prW l=some ps->Rvs K o l us-> ∃kvs:List (Key×V),PrsAt K o.H us kvs/\ ∀ (acc:List (Key×V)) (ks:List Key) (ws:List W),acc.map (·.1)=ks->Rvs K o ws (acc.map (·.2))->(fY acc kvs).map (·.1)=(fK ks ws ps).1/\Rvs K o (fK ks ws ps).2 ((fY acc kvs).map (·.2))
 |[],_,ps,e,r=>by
  cases e
  unfold Rvs at r
  subst r
  exact⟨[],.nil,fun acc ks ws h1 h2=>⟨h1,h2⟩⟩
 |x::l,_,ps,e,r=>by
  unfold Rvs at r
  obtain⟨v,t,rfl,r1,r2⟩:=r
  unfold optL at e
  cases ex:prW x with
  |none=>simp only[ex] at e;cases e
  |some p=>
   cases el:optL prW l with
   |none=>simp only[ex,el] at e;cases e
   |some qs=>
    simp only[ex,el] at e
    cases e
    obtain⟨kvs,h1,h2⟩:=sM el r2
    unfold prW at ex
    split at ex
    ·rename_i kx vx
     cases ek:keyOf kx with
     |none=>rw[ek] at ex;cases ex
     |some q=>
      rw[ek] at ex
      cases ex
      unfold Rv at r1
      obtain⟨a,vs,rfl,sq,rr⟩:=r1
      obtain⟨u,y,rfl,ru,ry⟩:=rr.two
      have:=fQ ek ru
      subst this
      refine⟨(q,y)::kvs,.cons sq h1,fun acc ks ws g1 g2=>?_⟩
      obtain⟨b1,b2⟩:=ip (x:=q) ry g1 g2
      exact h2 _ _ _ b1 b2
    ·cases ex
end
def dNewL (ws:List W):M W:=match ws with
 |[x]=>bd (lstOf x) fun l=>match optL prW l with
  |some ps=>fun h=>.ok (.loc h.length) (h++[.dic (fK [] [] ps).1 (fK [] [] ps).2])
  |none=>no
 |_=>no
section
variable {X:Cx}{E:XK}{a:Expr}{p pos:Pos}{l:Env'->M (List W)}
theorem t0 (hc:X.calm=true)(hm:X.mg "dict"=none)(ha:JA X E [a] l)(hg:Gl X "dict":=by rfl)(he:starEach [a] X.env=(false,eval a X.env)::starEach [] X.env:=by rfl)(hpl:(backTo pos (starEach [] X.env)).any (·.1)=false:=by rfl):JE X E (.Call (.Name "dict" p) [a] [] pos) (mCall dNewL l):=
 (iQ (mX hc) hg hm PyProof.Rows.boot_dict ha.h (he:=he) (hpl:=hpl)).imp fun σ H Q h=>by
  obtain⟨o,ρ,rfl,R,S,h⟩:=h
  refine⟨o,ρ,rfl,R,S,Ps.bd h fun p x vx e1 R1 r1 h1=>?_⟩
  unfold dNewL at h1
  split at h1
  ·obtain⟨v,rfl,r⟩:=r1.one
   obtain⟨m,a',us,rfl,s,rr,h1⟩:=fP R1 r h1
   cases el:optL prW m with
   |none=>simp only[el] at h1;exact h1.elim
   |some ps=>
    simp only[el] at h1
    obtain⟨kvs,k1,k2⟩:=sM el rr
    obtain⟨b1,b2⟩:=k2 [] [] [] rfl Rvs.nil
    refine⟨a',us,kvs,rfl,s,k1,fun q hq=>?_⟩
    exact Ps.at (p:=p.add q (.dic (fK [] [] ps).1 (fK [] [] ps).2) (.dK (fY [] kvs))) h1 rfl (Ex.add hq) (R1.addD hq b1 b2) Rv.addLoc
  ·exact h1.elim
end
end L2
set_option maxHeartbeats 1000000
namespace L2
open PySem PySem.Spec PyProof.Rows
section
variable {X:Cx}{E:XK}{e:Expr}{f:Env'->M W}{pos:Pos}
def sAug (i:Nat)(f:Env'->M W):Env'->M Fl:=fun ρ=>bd (mVar i ρ) fun x=>bd (f ρ) fun y=>bd (addI x y) fun z=>pr (.nx (ρ.set i (some z)))
theorem pN:PIp X .Add rAdd:=fun pins s σ H x y u v Q I rx ry q=>ul pins s σ H x y u v Q I rx ry q
theorem o3 {i:Nat}{x:Str}{pos':Pos}(hN:X.N.Nodup)(hi:X.N[i]?=some x)(hx:Loc X.env.scope x)(he:JE X E e f)(hf:X.fn x=true\/X.env.scope.names.lookup x=some .local :=by first|exact .inl rfl|exact .inr rfl|assumption):
  JS X E (.AugAssign (.Name x pos') .Add e pos) (sAug i f):=⟨fun pins s σ H D I h=>by
 obtain⟨o,ρ,rfl,R,S,h⟩:=h
 unfold sAug mVar at h
 split at h
 ·rename_i w hw
  obtain⟨v,hv,rv⟩:=S.get hw
  rw[bh] at h
  refine xC hN hi hx he.h pN hf pins s σ o.H D I ⟨v,hv,o,ρ,rfl,R,S,Ps.bd h fun p y vy e1 R1 r1 h1=>?_⟩
  unfold addI at h1
  split at h1
  ·rename_i a b
   rw[bh] at h1
   exact⟨a,b,rv_int.mp (rv.mono R e1),rv_int.mp r1,Ps.pr (b:=FlV.nx (σ.set i (some (.int (a+b))))) h1 R1 ⟨_,rfl,(S.mono R e1).set (rv_int.mpr rfl) i⟩⟩
  ·exact h1.elim
 ·exact h.elim⟩
end
theorem ft {es:List Expr}{env:Env}{a o p}:starEach (.Attribute a o p::es) env=(false,eval (.Attribute a o p) env)::starEach es env:=by rfl
end L2
set_option maxHeartbeats 1000000
namespace L2
open PySem
section
variable {β:Type}{h:List Ob}{Q:β->List Ob->Prop}{j d:Nat}
theorem mq {c:Str}{ns:List Str}{ws:List W}(e:h[d]?=some (.ins c ns ws)):insG c (.loc d) h=.ok (d,ns,ws) h:=by
 unfold insG
 simp only[e,if_true]
theorem cC {c f:Str}{ns:List Str}{ws:List W}{w:W}{k:W->M β}(e:h[d]?=some (.ins c ns ws))(e2:lookF ns ws f=some w)(q:Ok (k w) h Q):Ok (bd (fldG c f (.loc d)) k) h Q:=by
 refine bf (a:=w) (h':=h) ?_ q
 unfold fldG
 rw[dP (mq e)]
 simp only[e2]
 rfl
theorem j7 {c f:Str}{ns ns':List Str}{ws ws':List W}{y:W}{k:Unit->M β}(e:h[d]?=some (.ins c ns ws))(z:ns.length<1000)(e2:putN ns ws f y=(ns',ws'))(q:Ok (k ()) (h.set d (.ins c ns' ws')) Q):Ok (bd (putG c f (.loc d) y) k) h Q:=by
 refine bf (a:=()) (h':=h.set d (.ins c ns' ws')) ?_ q
 unfold putG
 rw[dP (mq e)]
 simp only[if_pos z,e2]
theorem fW {c m:Str}{ns:List Str}{ws:List W}{k:W->M β}(e:h[d]?=some (.ins c ns ws))(z:m ∉ ns)(q:Ok (k (.loc d)) h Q):Ok (bd (isI c m (.loc d)) k) h Q:=by
 refine bf (a:=.loc d) (h':=h) ?_ q
 unfold isI
 rw[dP (mq e)]
 simp only[if_neg z]
 rfl
theorem yc {ks:List Key}{ws:List W}{z:Str}{v:W}{k:W->M β}(e:h[j]?=some (.dic ks ws))(e2:atK ks ws (.inr z)=some v)(q:Ok (k v) h Q):Ok (bd (ixW (.loc j) (.str z)) k) h Q:=by
 refine bf (a:=v) (h':=h) ?_ q
 have d:dicOf (.loc j) h=some (ks,ws):=by unfold dicOf;simp only[e]
 have:ixO (.loc j) (.str z) h=some v:=by
  unfold ixO
  simp only[d,keyOf,e2]
 unfold ixW
 rw[this]
theorem tj {ks ks':List Key}{ws ws':List W}{z:Str}{v:W}{k:Unit->M β}(e:h[j]?=some (.dic ks ws))(hz:ks.length<sizeLine)(e2:putW ks ws (.inr z) v=(ks',ws'))(q:Ok (k ()) (h.set j (.dic ks' ws')) Q):Ok (bd (dX (.loc j) (.str z) v) k) h Q:=by
 refine bf (a:=()) (h':=h.set j (.dic ks' ws')) ?_ q
 unfold dX
 simp only[e,keyOf,if_pos hz,e2]
theorem vN {c:Str}{n:Nat}{fn:List W->M W}{ws:List W}{P:List Ob->Prop}{k:W->M β}(hn:ws.length+1=n)(p:Ok (fn (.loc h.length::ws)) (h++[.ins c [] []]) fun w h'=>w=.non/\P h')(q:∀h',P h'->Ok (k (.loc h.length)) h' Q):
  Ok (bd (fun h=>match arW n fn (.loc h.length::ws) (h++[.ins c [] []]) with
 |.ok .non h'=>.ok (.loc h.length) h'
 |_=>.bad) k) h Q:=by
 obtain⟨w,h',e,rfl,hp⟩:=p
 refine bf (a:=.loc h.length) (h':=h') ?_ (q h' hp)
 have:arW n fn (.loc h.length::ws)=fn (.loc h.length::ws):=uR hn
 simp only[this,e]
theorem zk {x:W}{l:List W}{ps:List (Key×W)}{ks:List Key}{ws:List W}{k:W->M β}(L:Lw h x l)(e:optL prW l=some ps)(e2:fK [] [] ps=(ks,ws))(q:Ok (k (.loc h.length)) (h++[.dic ks ws]) Q):Ok (bd (dNewL [x]) k) h Q:=by
 refine bf (a:=.loc h.length) (h':=h++[.dic ks ws]) ?_ q
 unfold dNewL
 dsimp only
 rw[dP L.of]
 simp only[e,e2]
theorem vQ {k:W->M β}{ρ:Env'}(q:Ok (k (.loc h.length)) (h++[.dic [] []]) Q):Ok (bd (mDNew ρ) k) h Q:=bf (a:=.loc h.length) (h':=h++[.dic [] []]) rfl q
theorem nN {x:W}{l:List W}{k:List W->M β}(L:Lw h x l)(q:Ok (k l) h Q):Ok (bd (lstOf x) k) h Q:=bf L.of q
end
theorem yV {t:Env'->M Bool}{g:Env'->M Fl}{n:Nat}{ρ:Env'}{h:List Ob}{Q:Fl->List Ob->Prop}(c:Ok (t ρ) h fun b h'=>b=true/\h'=h)(b:Ok (g ρ) h fun x h'=>(∃r,x=.nx r/\Ok (bM t g n r) h' Q)\/ ∃w,x=.rt w/\Q (.rt w) h'):Ok (bM t g (n+1) ρ) h Q:=by
 obtain⟨b0,h0,e0,rfl,rfl⟩:=c
 obtain⟨x,h1,e1,q⟩:=b
 rcases q with⟨r,rfl,y,h2,e2,q⟩|⟨w,rfl,q⟩
 ·refine⟨y,h2,?_,q⟩
  unfold bM
  rw[dP e0,if_pos rfl,dP e1]
  exact e2
 ·refine⟨.rt w,h1,?_,q⟩
  unfold bM
  rw[dP e0,if_pos rfl,dP e1]
  rfl
theorem yW {t:Env'->M Bool}{g:Env'->M Fl}{n:Nat}{ρ:Env'}{h:List Ob}{Q:Fl->List Ob->Prop}(c:Ok (t ρ) h fun b h'=>b=false/\h'=h)(q:Q (.nx ρ) h):Ok (bM t g (n+1) ρ) h Q:=by
 obtain⟨b0,h0,e0,rfl,rfl⟩:=c
 refine⟨.nx ρ,_,?_,q⟩
 unfold bM
 rw[dP e0,if_neg Bool.false_ne_true]
 rfl
def ctS (g:Env'->M Fl):Fl->M Fl:=fun x=>match x with
 |.nx r=>g r
 |x=>pr x
def ctI (f g:Env'->M Fl)(ρ:Env'):Bool->M Fl:=fun b=>if b=true then f ρ else g ρ
theorem bq (f g:Env'->M Fl)(ρ:Env'):sSeq f g ρ=bd (f ρ) (ctS g):=by unfold sSeq;rfl
theorem bX (g:Env'->M Fl)(r:Env'):ctS g (.nx r)=g r:=by unfold ctS;rfl
theorem bV (g:Env'->M Fl)(w:W):ctS g (.rt w)=pr (.rt w):=by unfold ctS;rfl
theorem bZ (g:Env'->M Fl)(r:Env'):ctS g (.bk r)=pr (.bk r):=by unfold ctS;rfl
theorem bY (g:Env'->M Fl)(r:Env'):ctS g (.ct r)=pr (.ct r):=by unfold ctS;rfl
theorem bP (t:Env'->M Bool)(f g:Env'->M Fl)(ρ:Env'):sIf t f g ρ=bd (t ρ) (ctI f g ρ):=by unfold sIf;rfl
theorem cV (f g:Env'->M Fl)(ρ:Env'):ctI f g ρ true=f ρ:=by unfold ctI;rw[if_pos rfl]
theorem cW (f g:Env'->M Fl)(ρ:Env'):ctI f g ρ false=g ρ:=by unfold ctI;rw[if_neg Bool.false_ne_true]
end L2
set_option maxHeartbeats 1000000
namespace L2
open PySem PySem.Spec PyProof.Rows
section
variable {X:Cx}{E:XK}{o e f:Expr}{apos cpos:Pos}{fo fe ff:Env'->M W}
end
section
variable {X:Cx}{E:XK}{o e f:Expr}{es:List Expr}{pos apos cpos:Pos}{l:Env'->M (List W)}{fo fe ff:Env'->M W}
def ktW (ws:List W):M W:=match optL keyOf ws with
 |some ks=>gd (ws.length<=sizeLine) (pr (.kt ks))
 |none=>no
def mKt (l:Env'->M (List W)):Env'->M W:=fun ρ=>bd (l ρ) ktW
theorem mF {K:PySem.W.Frag}{o:Wo}: ∀ {ws:List W}{vs:List V}{ks:List Key},optL keyOf ws=some ks->Rvs K o ws vs->vs=ks.map kV
 |[],vs,ks,e,r=>by unfold Rvs at r;cases e;exact r
 |w::ws,vs,ks,e,r=>by
  unfold Rvs at r
  obtain⟨v,r',rfl,h1,h2⟩:=r
  unfold optL at e
  split at e
  ·rename_i b c e1 e2
   cases e
   rw[fQ e1 h1,mF e2 h2]
   rfl
  ·cases e
theorem wT {x1}(h:JA X E es l):JE X E (.Tuple es x1 pos) (mKt l):=(sR h.h).imp fun σ H Q h=>by
 obtain⟨o,ρ,rfl,R,S,h⟩:=h
 refine⟨o,ρ,rfl,R,S,Ps.bd h fun p x vx e1 R1 r1 h1=>?_⟩
 unfold ktW at h1
 cases ek:optL keyOf x with
 |none=>rw[ek] at h1;exact h1.elim
 |some ks=>
  rw[ek] at h1
  obtain⟨hz,h1⟩:=h1.gd
  refine⟨by rw[r1.len];exact hz,fun q hq=>Ps.at (p:=⟨p.mu,p.h,upd p.H q (.tup vx)⟩) h1 rfl (Ex.new hq) (R1.new hq) ?_⟩
  unfold Rv
  exact⟨q,rfl,by rw[<-mF ek r1];exact bF⟩
def o9:Env'->M W:=fun _ h=>.ok (.loc h.length) (h++[.dit [] []])
theorem tZ:JE X E (.Dict [] [] pos) o9:=pe_dnewT.imp fun σ H Q h=>by
 obtain⟨o,ρ,rfl,R,S,h⟩:=h
 intro q hq
 exact Ps.at (p:=o.add q (.dit [] []) (.dT [])) h rfl (Ex.add hq) (R.addT hq rfl Rvs.nil) Rv.addLoc
def ditOf (w:W)(h:List Ob):Option (List (List Key)×List W):=match w with
 |.loc k=>match h[k]? with
  |some (.dit ks ws)=>some (ks,ws)
  |_=>none
 |_=>none
theorem ou {o:Wo}{w:W}{v:V}{ks:List (List Key)}{ws:List W}(R:Rel X.K o)(e:ditOf w o.h=some (ks,ws))(h:Rv X.K o w v): ∃a kvs,v=.ref a/\Rd o.H a (.dT kvs)/\kvs.map (·.1)=ks/\Rvs X.K o ws (kvs.map (·.2)):=by
 cases w with
 |loc k=>
  unfold ditOf at e
  dsimp only at e
  split at e
  ·rename_i a b hk
   cases e
   unfold Rv at h
   obtain⟨kvs,h1,h2,h3⟩:=R.ob k _ hk
   exact⟨_,kvs,h.2,.inl h1,h2,h3⟩
  ·cases e
 |_=>cases e
def keyT:W->Option (List Key)
 |.kt ks=>some ks
 |.tup l=>optL keyOf l
 |_=>none
theorem wo {K:PySem.W.Frag}{o:Wo}{x:W}{v:V}{k:List Key}(e:keyT x=some k)(h:Rv K o x v): ∃b,v=.ref b/\SqT K o.H b (k.map kV):=by
 cases x with
 |kt ks=>cases e;unfold Rv at h;obtain⟨a,e,h⟩:=h;exact⟨a,e,.of h⟩
 |tup l=>
  unfold Rv at h
  obtain⟨a,vs,e1,s,r⟩:=h
  exact⟨a,e1,by rw[<-mF (show optL keyOf l=some k from e) r];exact s⟩
 |_=>cases e
theorem wn {pins:List (Addr×Obj)}{σ:St}{H:Hp}{s:Shared}{b:Addr}{k:List Key}(I:Inv X pins σ H s)(h:SqT X.K H b (k.map kV)):(tupleKind (cF X.prog X.w)).is s.heap k b:=by
 obtain⟨its,r,⟨o,h1,h2,n,h3⟩,_⟩:=I.tuple h
 exact⟨o,its.toArray,n,h1,h2,h3,by simpa using jb r⟩
end
end L2
set_option maxHeartbeats 2000000
namespace L2
open PySem PySem.Spec PyProof.Rows
open Sem (wp)
open Builtin
section
variable {prog:Program}{w:World}{A:Around}{E:Value->Shared->Prop}{s:Shared}
end
section
variable {X:Cx}
end
end L2
set_option maxHeartbeats 2000000
namespace L2
open PySem PySem.Spec PyProof.Rows
section
variable {X:Cx}{E:XK}{p pos:Pos}
end
end L2
set_option maxHeartbeats 1000000
namespace L2
open PySem PySem.Spec PyProof.Rows
section
variable {X:Cx}{pins:List (Addr×Obj)}{σ:St}{H:Hp}{s:Shared}{a c:Addr}{b:Bool}{k:PKy}{xs:List (PKy×Addr×V)}{A:Around}{Ex:Value->Shared->Prop}
end
section
variable {X:Cx}{E:XK}{a b:Expr}{pos:Pos}{fa fb fv:Env'->M W}
end
end L2
set_option maxHeartbeats 1000000
namespace L2
open PySem PySem.Spec PyProof.Rows
section
variable {X:Cx}{E:XK}{e st:Expr}{te:TE}{ts:TO}{pos p2:Pos}{fa:Env'->M W}{fs:Env'->M (Option Int)}
end
end L2
set_option maxHeartbeats 1000000
namespace L2
open PySem PySem.Spec PyProof.Rows
open Sem (wp)
section
variable {prog:Program}{w:World}{A:Around}{E:Value->Shared->Prop}{s:Shared}
end
section
variable {X:Cx}{pins:List (Addr×Obj)}{σ:St}{H:Hp}{s:Shared}
end
section
variable {X:Cx}{a b:Expr}{p p2 pos pos2:Pos}
end
end L2
set_option maxHeartbeats 1000000
namespace L2
open PySem PySem.Spec PyProof.Rows
section
variable {X:Cx}{E:XK}
open Classical in
open Classical in
variable {a:Expr}{p pos:Pos}{l:Env'->M (List W)}
end
end L2
set_option maxHeartbeats 1000000
namespace L2
open PySem PySem.Spec PyProof.Rows
section
variable {X:Cx}{E:XK}{a b:Expr}{p p2 pos pos2:Pos}
theorem qx {pins:List (Addr×Obj)}{σ:St}{H:Hp}{s:Shared}{a b:Addr}{v:V}{kvs:List (List Key×V)}{k:List Key}{A:Around}{Ex:Value->Shared->Prop}{Q:Value->Shared->Prop}(hu:A.units+1<cLine)(I:Inv X pins σ H s)(e:Rd H a (.dT kvs))(eb:SqT X.K H b (k.map kV))(l:valV kvs k=some v)(h:∀w' s',Inv X pins σ H s'->RelV v w'->Q w' s'):
  wpAny (model X.prog X.w) A (getItem (.ref a) (.ref b)) Q Ex s:=by
 obtain⟨z,hd,xs,rel,dd⟩:=kM I.hok e
 obtain⟨w',hw,rw'⟩:=RelO.some_of (v:=v) (o:=(atKey xs k).map (·.2)) (by rw[<-l];exact rel.val k)
 obtain⟨p,hp,hp2⟩:=Option.map_eq_some_iff.mp hw
 refine wpAny_getItem_heap (tupleKind_room_in1 hu) (wn I eb) dd hp ?_
 rw[hp2]
 exact h w' _ (I.tok _) rw'
def ixT' (x y:W):M W:=fun h=>match ditOf x h with
 |some (ks,ws)=>match keyT y with
  |some k=>match atK ks ws k with
   |some w=>.ok w h
   |none=>.bad
  |none=>.bad
 |none=>.bad
end
end L2
set_option maxHeartbeats 1000000
namespace L2
open PySem PySem.Spec PyProof.Rows
section
variable {prog:Program}{w:World}{A:Around}{E:Value->Shared->Prop}{s:Shared}
noncomputable def RawD (h:Heap)(d:Addr)(es:Array DictEntry)(ep:Nat):Prop:= ∃o,h.get? d=some o/\o.ExactDict/\o.data=.dict es ep
theorem pe {h:Heap}{a:Addr}{o:Obj}{vs:Array Value}(g1:h.get? a=some o)(g3:o.data=.fields vs)(k:Nat)(x:Value):
  ∃o',(h.update a (Obj.mapFields fun z=>z.setIfInBounds k x)).get? a=some o'/\o'.cls=o.cls/\o'.data=.fields (vs.setIfInBounds k x):=by
 obtain⟨c,dd,data,sl⟩:=o
 cases g3
 exact⟨_,Heap.get?_update_self _ g1 rfl,rfl,rfl⟩
theorem nA (h:Heap)(a:Addr)(f:Obj->Obj):Heap.SameBut a h (h.update a f):=⟨Heap.size_update _ _ _,fun b hb=>Heap.get?_update_other _ _ (Ne.symm hb)⟩
theorem rT {it d:Addr}{i n ep:Nat}{es:Array DictEntry}{e:DictEntry}{Q:Fin->Shared->Prop}(hi:s.heap.IsValIter it d i n ep)(hd:RawD s.heap d es ep)(hn:es.size=n)(he:es[i]?=some e)
  (k:∀h':Heap,h'.IsValIter it d (i+1) n ep->Heap.SameBut it s.heap h'->Q (.done (.ret e.val)) {s with heap:=h'}):
  wpAny (model prog w) A (Builtin.«dict_valueiterator.__next__» ⟨[.ref it],[]⟩) Q E s:=by
 have hT:=hi.typeIs (s:=s)
 have hi0:=hi
 obtain⟨o,h1,h2,h3⟩:=hi
 obtain⟨od,g1,g2,g3⟩:=hd
 show wpAny _ _ (((typeNameOfWhole (.ref it)>>=_)>>=_)>>=_) _ _ s
 refine wpAny_bind (wpAny_bind (wpAny_bind (wpAny_typeNameOfWhole_valiter hT (wpAny_pure ?_))))
 refine wpAny_bind (wpAny_fieldsOf h1 h3 ?_)
 show wpAny _ _ (dictEntries d>>=_) _ _ s
 refine wpAny_bind (wpAny_dictEntries g1 g3 ?_)
 have z:((es.size:Int) !=(n:Int))=false:=by rw[hn];simp
 show wpAny _ _ (if ((es.size:Int) !=(n:Int))=true then _ else dictEpoch d>>=_) _ _ s
 rw[z,if_neg (by decide)]
 refine wpAny_bind (wpAny_dictEpoch g1 g3 ?_)
 have z2:((ep:Int) !=(ep:Int))=false:=by simp
 show wpAny _ _ (if ((ep:Int) !=(ep:Int))=true then _ else _) _ _ s
 rw[z2,if_neg (by decide)]
 refine wpAny_pure ?_
 have z3:(if ((i:Nat):Int)<0 then none else es[((i:Nat):Int).toNat]?)=some e:=by rw[if_neg (by omega),Int.toNat_natCast];exact he
 dsimp only
 rw[z3]
 dsimp only
 refine wpAny_bind (wpAny_bind (wpAny_typeNameOfWhole_valiter hT (wpAny_pure ?_)))
 refine wpAny_bind (wpAny_isOneOf_valiter hT ?_)
 refine wpAny_bind (wpAny_setField h1 h3 (show 1<4 by decide) ?_)
 obtain⟨o',w1,w2,w3⟩:=pe h1 h3 1 (rawInt ((i:Int)+1))
 have v1:Heap.IsValIter (s.heap.update it (Obj.mapFields fun z=>z.setIfInBounds 1 (rawInt ((i:Int)+1)))) it d (i+1) n ep:=⟨o',w1,w2.trans h2,w3⟩
 have v2:=nA s.heap it (Obj.mapFields fun z=>z.setIfInBounds 1 (rawInt ((i:Int)+1)))
 refine wpAny_bind (wpAny_holding ?_)
 have hT2:=v1.typeIs (s:={s with heap:=_})
 refine wpAny_bind (wpAny_isOneOf_valiter hT2 ?_)
 rw[if_neg (by decide)]
 refine wpAny_bind (wpAny_isOneOf_valiter hT2 ?_)
 rw[if_pos (by decide)]
 exact wpAny_pure (wpAny_pure (k _ v1 v2))
theorem tJ {Q:Value->Shared->Prop}(k:∀ (h':Heap) (e:Addr),(∀b o,s.heap.get? b=some o->h'.get? b=some o)->s.heap.get? e=none->(∃o,h'.get? e=some o/\o.cls=.type "StopIteration")->Q (.ref e) {s with heap:=h'}):
  wpAny (model prog w) A (newExc (.type "StopIteration") []) Q E s:=by
 have f:firstArgMember (.type "StopIteration") []=pure .none:=by unfold firstArgMember;rfl
 unfold newExc
 refine wpAny_bind (wpAny_newTuple ?_ (Nat.zero_le _))
 rw[f]
 refine wpAny_bind (wpAny_pure (wpAny_newObj_type ?_ (show 6<=_ by decide)))
 refine k _ _ (fun b o q=>Heap.get?_push_of_some _ (Heap.get?_push_of_some _ q)) (by rw[Heap.size_push];exact Heap.get?_none_of_le (Nat.le_succ _)) ⟨_,Heap.get?_push_size _ rfl,rfl⟩
theorem uV {it d:Addr}{i n ep:Nat}{es:Array DictEntry}{Q:Fin->Shared->Prop}(hh:A.handled=none)(hi:s.heap.IsValIter it d i n ep)(hd:RawD s.heap d es ep)(hn:es.size=n)(he:es[i]?=none)
  (k:∀ (h':Heap) (e:Addr),Heap.ExtBut it s.heap h'->(∃o,h'.get? e=some o/\o.cls=.type "StopIteration")->E (.ref e) {s with heap:=h'}):
  wpAny (model prog w) A (Builtin.«dict_valueiterator.__next__» ⟨[.ref it],[]⟩) Q E s:=by
 have hT:=hi.typeIs (s:=s)
 obtain⟨o,h1,h2,h3⟩:=hi
 obtain⟨od,g1,g2,g3⟩:=hd
 show wpAny _ _ (((typeNameOfWhole (.ref it)>>=_)>>=_)>>=_) _ _ s
 refine wpAny_bind (wpAny_bind (wpAny_bind (wpAny_typeNameOfWhole_valiter hT (wpAny_pure ?_))))
 refine wpAny_bind (wpAny_fieldsOf h1 h3 ?_)
 show wpAny _ _ (dictEntries d>>=_) _ _ s
 refine wpAny_bind (wpAny_dictEntries g1 g3 ?_)
 have z:((es.size:Int) !=(n:Int))=false:=by rw[hn];simp
 show wpAny _ _ (if ((es.size:Int) !=(n:Int))=true then _ else dictEpoch d>>=_) _ _ s
 rw[z,if_neg (by decide)]
 refine wpAny_bind (wpAny_dictEpoch g1 g3 ?_)
 have z2:((ep:Int) !=(ep:Int))=false:=by simp
 show wpAny _ _ (if ((ep:Int) !=(ep:Int))=true then _ else _) _ _ s
 rw[z2,if_neg (by decide)]
 refine wpAny_pure ?_
 have z3:(if ((i:Nat):Int)<0 then none else es[((i:Nat):Int).toNat]?)=none:=by rw[if_neg (by omega),Int.toNat_natCast];exact he
 dsimp only
 rw[z3]
 dsimp only
 refine wpAny_bind (wpAny_bind (wpAny_typeNameOfWhole_valiter hT (wpAny_pure ?_)))
 refine wpAny_bind (wpAny_setField h1 h3 (show 0<4 by decide) ?_)
 have v2:=nA s.heap it (Obj.mapFields fun z=>z.setIfInBounds 0 Value.none)
 refine wpAny_bind (tJ fun h' e kp nw th=>wpAny_raiseNew_none hh (k h' e (fun b o hb q=>kp b o (v2.extBut _ _ hb q)) th))
theorem tH {it d:Addr}{i n ep:Nat}{es:Array DictEntry}{e:DictEntry}{Q:Option Value->Shared->Prop}(hi:s.heap.IsValIter it d i n ep)(hd:RawD s.heap d es ep)(hn:es.size=n)(he:es[i]?=some e)
  (k:∀h':Heap,h'.IsValIter it d (i+1) n ep->Heap.SameBut it s.heap h'->Q (some e.val) {s with heap:=h'}):
  wpAny (model prog w) A (pyNext (.ref it)) Q E s:=by
 have hT:=hi.typeIs (s:=s)
 unfold pyNext
 exact wpAny_bind (wpAny_attempt (wpAny_callSpecial?_slot (name:=Str.ofString "__next__") hT F.slot_dict_valueiterator_next (wpAny_call_entry F.slot_dict_valueiterator_next hT F.entry_dict_valueiterator_next (rT hi hd hn he fun h' a1 a2=>⟨_,rfl,wpAny_pure (k h' a1 a2)⟩) (F.args_dict_valueiterator_next_1 _))))
theorem wC {it d:Addr}{i n ep:Nat}{es:Array DictEntry}{Q:Option Value->Shared->Prop}(hh:A.in1.handled=none)(hi:s.heap.IsValIter it d i n ep)(hd:RawD s.heap d es ep)(hn:es.size=n)(he:es[i]?=none)
  (k:∀h':Heap,Heap.ExtBut it s.heap h'->Q none {s with heap:=h'}):
  wpAny (model prog w) A (pyNext (.ref it)) Q E s:=by
 have hT:=hi.typeIs (s:=s)
 unfold pyNext
 refine wpAny_bind (wpAny_attempt (wpAny_callSpecial?_slot (name:=Str.ofString "__next__") hT F.slot_dict_valueiterator_next (wpAny_call_entry F.slot_dict_valueiterator_next hT F.entry_dict_valueiterator_next (uV hh hi hd hn he fun h' e hk ⟨o,g1,g2⟩=>?_) (F.args_dict_valueiterator_next_1 _))))
 exact wpAny_bind (wpAny_isInstance (T:= "StopIteration") (b:=true) ⟨o,g1,g2⟩ isSubtype_stop (wpAny_pure (k _ hk)))
theorem uj {v d:Addr}{ep:Nat}{es:Array DictEntry}{Q:Value->Shared->Prop}(hv:s.heap.IsValuesView v d)(hd:RawD s.heap d es ep)
  (k:Q (.ref s.heap.objs.size) {s with heap:=s.heap.push {cls:=.type "dict_valueiterator",data:=.fields #[.ref d,.int 0 0,.int (es.size:Nat) 0,.int ep 0]}}):
  wpAny (model prog w) A (pyIter (.ref v)) Q E s:=by
 obtain⟨o,h1,h2,h3⟩:=hv
 obtain⟨od,g1,g2,g3⟩:=hd
 have hT:s.TypeIs (.ref v) "dict_values":=⟨_,h1,h2⟩
 refine wpAny_pyIter_slot hT F.slot_dict_values_iter (wpAny_call_entry F.slot_dict_values_iter hT F.entry_dict_values_iter ?_ (F.args_dict_values_iter_1 _))
 show wpAny _ _ ((field (.ref v) 0>>=_)>>=_) _ _ s
 refine wpAny_bind (wpAny_bind (wpAny_field h1 h3 (x:=.ref d) rfl ?_))
 refine wpAny_pure ?_
 show wpAny _ _ ((dictEntries d>>=_)>>=_) _ _ s
 refine wpAny_bind (wpAny_bind (wpAny_dictEntries g1 g3 (wpAny_bind (wpAny_dictEpoch g1 g3 ?_))))
 refine wpAny_newObj_type ?_ (show 4<=_ by decide)
 exact wpAny_pure ⟨_,rfl, "dict_valueiterator",_,⟨_,Heap.get?_push_size _ rfl,rfl⟩,F.slot_dict_valueiterator_next.lookup,k⟩
theorem oB {d:Addr}{ep:Nat}{es:Array DictEntry}{Q:Value->Shared->Prop}(hs:(d==sysModules)=false)(hd:RawD s.heap d es ep)
  (k:Q (.ref s.heap.objs.size) {s with heap:=s.heap.push {cls:=.type "dict_values",data:=.fields #[.ref d]}}):
  wpAny (model prog w) A (call (.builtin "dict.values") [.ref d]) Q E s:=by
 obtain⟨od,g1,g2,g3⟩:=hd
 have hT:s.TypeIs (.ref d) "dict":=⟨_,g1,g2.1⟩
 refine wpAny_call_entry F.slot_dict_values hT F.entry_dict_values ?_ (F.args_dict_values_1 _)
 show wpAny _ _ (((typeOf (.ref d)>>=_)>>=_)>>=_) _ _ s
 refine wpAny_bind (wpAny_bind (wpAny_bind (wpAny_typeOf (T:= "dict") hT ?_)))
 show wpAny _ _ (pure ()) _ _ s
 refine wpAny_pure ?_
 show wpAny _ _ (pure d) _ _ s
 refine wpAny_pure ?_
 show wpAny _ _ (Builtin.Dict.showsAll d>>=_) _ _ s
 unfold Builtin.Dict.showsAll
 rw[hs,if_neg (by decide)]
 refine wpAny_bind (wpAny_pure ?_)
 refine wpAny_bind (wpAny_newObj_type ?_ (show 1<=_ by decide))
 exact wpAny_pure ⟨_,rfl,k⟩
theorem RawD.keep {h h':Heap}{d:Addr}{es:Array DictEntry}{ep:Nat}(hd:RawD h d es ep)(k:∀o,h.get? d=some o->h'.get? d=some o):RawD h' d es ep:=by
 obtain⟨o,a,b,c⟩:=hd
 exact⟨o,k o a,b,c⟩
theorem u3 {r d:Addr}{es:Array DictEntry}{ep:Nat}:PySem.W.KdlSrc prog w "dict_values" r d es.size (fun i v=> ∃e,es[i]?=some e/\v=e.val) (fun h=>h.IsValuesView r d/\RawD h d es ep) where
 type:=fun s ⟨⟨o,a,b,_⟩,_⟩=>⟨o,a,b⟩
 there:=fun h ⟨⟨o,a,_,_⟩,⟨q,b,_,_⟩⟩=>⟨Heap.lt_size a,Heap.lt_size b⟩
 keep:=fun h h' ⟨⟨o,a,b,c⟩,hd⟩ k=>⟨⟨o,k r (.inl rfl) o a,b,c⟩,hd.keep fun o q=>k d (.inr rfl) o q⟩
 notList:=by decide
 notTuple:=by decide
 hint:=fun A E s Q ⟨⟨o,a,b,_⟩,_⟩ q=>PySem.W.kdl_hint_values ⟨o,a,b⟩ q
 iter:=fun A s hh ⟨hv,hd⟩=>by
  have ld:d<s.heap.objs.size:=by obtain⟨q,b,_,_⟩:=hd;exact Heap.lt_size b
  have ne:d≠s.heap.objs.size:=Nat.ne_of_lt ld
  refine⟨_,fun i h=>h.IsValIter s.heap.objs.size d i es.size ep/\RawD h d es ep,fun E Q q=>uj hv hd q,⟨fun b hb=>?_,fun i h h' st k=>?_,fun i s' Q E hi st k=>?_,fun s' Q E st k=>?_,fun i s' Q E st q=>wpAny_pyIter_valiter st.1 q⟩,?_⟩
  ·exact List.mem_cons.mpr (.inl (List.mem_singleton.mp hb))
  ·obtain⟨⟨o,a,b,c⟩,hd'⟩:=st
   exact⟨⟨o,k _ (by simp) o a,b,c⟩,hd'.keep fun o q=>k d (by simp) o q⟩
  ·obtain⟨st1,st2⟩:=st
   refine tH st1 st2 rfl (Array.getElem?_eq_getElem hi) fun h' a1 a2=>k _ h' _ ⟨_,Array.getElem?_eq_getElem hi,rfl⟩ ⟨a1,st2.keep fun o q=>(a2.2 d ne).trans q⟩ fun b o hb q=>(a2.2 b (fun z=>hb (by simp [z]))).trans q
  ·obtain⟨st1,st2⟩:=st
   exact wC hh st1 st2 rfl (by simp) fun h' a1=>k h' _ fun b o hb q=>a1 b o (fun z=>hb (by simp [z])) q
  ·exact⟨⟨_,Heap.get?_push_size _ rfl,rfl,rfl⟩,hd.keep fun o q=>Heap.get?_push_of_some _ q⟩
end
theorem j2 {α β:Type}{F:α->β->Prop}: ∀ {l₁:List α}{l₂:List β},Paired F l₁ l₂->l₁.length=l₂.length
 |_,_,.nil=>rfl
 |_,_,.cons _ t=>congrArg (· +1) (j2 t)
theorem j3 {α β:Type}{F:α->β->Prop}: ∀ {l₁:List α}{l₂:List β},Paired F l₁ l₂-> ∀ {i:Nat}{b:β},l₂[i]?=some b-> ∃a,l₁[i]?=some a/\F a b
 |_,_,.nil,_,_,h=>by cases h
 |_,_,.cons r t,0,_,h=>by cases h;exact⟨_,rfl,r⟩
 |_,_,.cons r t,i+1,_,h=>j3 t (i:=i) h
theorem pz: ∀ {vs:List V}{its:List Value},its.length=vs.length->(∀ (i:Nat) (u:Value),its[i]?=some u-> ∃v,vs[i]?=some v/\RelV v u)->Vals vs its
 |[],[],_,_=>.nil
 |[],_::_,h,_=>by cases h
 |_::_,[],h,_=>by cases h
 |v::vs,u::its,h,q=>by
  obtain⟨v',e,r⟩:=q 0 u rfl
  cases e
  exact .cons r (pz (Nat.succ.inj h) fun i w e=>q (i+1) w e)
theorem xr {P:Program}{w:World}{H:Hp}{h:Heap}{a:Addr}{kvs:List (List Key×V)}(ok:HOk P w H h)(e:Rd H a (.dT kvs)): ∃es ep,RawD h a es ep/\es.size=kvs.length/\ ∀ (i:Nat) (d:DictEntry),es[i]?=some d-> ∃kv,kvs[i]?=some kv/\RelV kv.2 d.val:=by
 obtain⟨z,y,xs,r,o,es,ep,h1,h2,h3,h4,h5⟩:=(show ObjOk P w H h a (.dT kvs) from sE ok e)
 refine⟨es,ep,⟨o,h1,h2,h3⟩,?_,fun i d hd=>?_⟩
 ·rw[<-Array.length_toList,h4,List.length_map,<-j2 r]
 ·rw[<-Array.getElem?_toList,h4,List.getElem?_map] at hd
  obtain⟨x,hx,rfl⟩:=Option.map_eq_some_iff.mp hd
  obtain⟨kv,hk,rk⟩:=j3 r hx
  exact⟨kv,hk,rk.2.2⟩
def tLV (td:TE):TE:=fun σ H Q=>td σ H fun x H1=> ∃a kvs,x=.ref a/\Rd H1 a (.dT kvs)/\ ∀l,H1 l=none->Q (.ref l) (upd H1 l (.lst (kvs.map (·.2))))
section
variable {X:Cx}{o:Expr}{p apos cpos pos:Pos}
theorem vC {td:TE}(hc:X.calm=true)(hgl:Gl X "list")(hml:X.mg "list"=none)(ho:PE X o td)(hb:attributeBase o "values" X.env (eval o X.env)=eval o X.env)(hln:(apos.endLine==cpos.line)=true)
  (he:starEach [.Call (.Attribute o "values" apos) [] [] cpos] X.env=(false,eval (.Call (.Attribute o "values" apos) [] [] cpos) X.env)::starEach [] X.env:=by rfl)(hpl:(backTo pos (starEach [] X.env)).any (·.1)=false:=by rfl):
  PE X (.Call (.Name "list" p) [.Call (.Attribute o "values" apos) [] [] cpos] [] pos) (tLV td):=by
 intro pins s σ H Q I h
 refine wpAny_Call_Name_kw (gg I hgl hml PyProof.Rows.boot_list ?_ (by decide) (by decide))
 refine PyProof.Rows.callWith_type1 ?_ he hpl
 rw[he]
 refine Calls.spliced_cons ?_
 refine wpAny_Call_method hb rfl hln PySem.F.plainAttrs_dict PySem.F.slot_dict_values PySem.F.type_dict_values (thn (ho pins s σ H _ I h) fun u s1 qz=>?_)
 obtain⟨x,H1,I1,rx,a,kvs,ex,d,q1⟩:=qz
 subst ex
 obtain rfl:u=Value.ref a:=rx
 obtain⟨t1,t2,t3⟩:=yG I1 (.inr ⟨kvs,d⟩)
 refine⟨t1,t2,?_⟩
 obtain⟨es,ep,rd,sz,it⟩:=xr I1.hok d
 refine Calls.callWith_builtin rfl ?_
 show wpAny _ _ (pure _) _ _ _
 refine wpAny_pure (oB t3 rd (Calls.spliced_nil ?_))
 have I2:Inv X pins σ H1 {s1 with heap:=s1.heap.push {cls:=.type "dict_values",data:=.fields #[.ref a]},toks:=s1.toks}:=I1.kept fun b o e=>Heap.get?_push_of_some _ e
 have rd2:RawD (s1.heap.push {cls:=.type "dict_values",data:=.fields #[.ref a]}) a es ep:=rd.keep fun o q=>Heap.get?_push_of_some _ q
 have zl:kvs.length<=sizeLine:=(kM I1.hok d).1
 refine PySem.W.kdl_call (s:={s1 with heap:=s1.heap.push {cls:=.type "dict_values",data:=.fields #[.ref a]}}) (u3 (r:=s1.heap.objs.size) (d:=a) (es:=es) (ep:=ep)) (I2.ok.hd hc) ⟨⟨_,Heap.get?_push_size _ rfl,rfl,rfl⟩,rd2⟩ (by rw[sz];exact zl) fun h' tk acc c' hk hS hacc=>?_
 have vs:Vals (kvs.map (·.2)) acc.toList:=pz (by rw[Array.length_toList,hacc.1,sz,List.length_map]) fun k v ev=>by
  obtain⟨e,e1,e2⟩:=hacc.2 k v (by rw[<-Array.getElem?_toList];exact ev)
  obtain⟨kv,k1,k2⟩:=it k e e1
  exact⟨kv.2,by rw[List.getElem?_map,k1];rfl,by rw[e2];exact k2⟩
 exact⟨.ref _,_,I2.laid (t':=tk) hk (Nat.le_refl _) (show ObjOk X.prog X.w _ h' _ (.lst (kvs.map (·.2))) from⟨by rw[List.length_map];exact zl,acc.toList,c',vs,by rw[Array.toArray_toList];exact hS⟩),rfl,q1 _ (I2.hok.fresh (Nat.le_refl _))⟩
end
end L2
set_option maxHeartbeats 1000000
namespace L2
open PySem PySem.Spec PyProof.Rows
section
variable {X:Cx}{E:XK}{o i e value:Expr}{p pos apos cpos tpos:Pos}{fo fi fv:Env'->M W}{l:Env'->M (List W)}
def kW:Key->W
 |.inl i=>.int i
 |.inr x=>.str x
def unkW (w:W):M W:=match w with
 |.kt ks=>pr (.tup (ks.map kW))
 |w=>pr w
theorem uh {K:PySem.W.Frag}{o:Wo}: ∀ks:List Key,Rvs K o (ks.map kW) (ks.map kV)
 |[]=>Rvs.nil
 |k::ks=>by
  refine Rvs.cons ?_ (uh ks)
  cases k with
  |inl i=>exact rv_int.mpr rfl
  |inr x=>exact rv_str.mpr rfl
theorem yj {f:Env'->M W}(h:JE X E e f):JE X E e (m1 unkW f):=h.h.imp fun σ H Q q=>by
 obtain⟨o,ρ,rfl,R,S,h⟩:=q
 refine⟨o,ρ,rfl,R,S,Ps.bd h fun p x vx e1 R1 r1 h1=>?_⟩
 cases x with
 |kt ks=>
  unfold Rv at r1
  obtain⟨a,rfl,r1⟩:=r1
  have h1:Ps (cg X E) (Rv X.K) p (pr (W.tup (ks.map kW)) p.h) Q:=h1
  refine h1.pr R1 ?_
  unfold Rv
  exact⟨a,_,rfl,.of r1,uh ks⟩
 |_=>exact Ps.pr (c:=cg X E) h1 R1 r1
def tgK (is:List Nat):W->Env'->Option Env':=fun w ρ=>match w with
 |.kt ks=>setW is (ks.map kW) ρ
 |_=>none
theorem uX {K:PySem.W.Frag}(m:Nat)(is:List Nat)(h:∀i∈is,i<m):TgOk K m (gTup K is.length (gNs is)) (tgK is):=⟨fun o w v ρ ρ2 σ rv re e=>by
 cases w with
 |kt ks=>
  unfold Rv at rv
  obtain⟨a,rfl,s⟩:=rv
  have e:setW is (ks.map kW) ρ=some ρ2:=e
  have r:=uh (K:=K) (o:=o) ks
  obtain⟨σ2,a1,a2,a3,a4⟩:=rZ is _ _ ρ ρ2 σ h r re e
  exact⟨σ2,fun Q q=>⟨a,_,rfl,.of s,by rw[r.len,jO e],a1 Q q⟩,a2,a3,a4⟩
 |_=>cases e⟩
def mR (x:W):M (List W):=fun h=>match ditOf x h with
 |some (_,ws)=>.ok ws h
 |none=>.bad
def lvL (fo:Env'->M W):Env'->M (List W):=fun ρ=>bd (fo ρ) mR
theorem vY (hc:X.calm=true)(hml:X.mg "list"=none)(ho:JE X E o fo)(hgl:Gl X "list":=by rfl)(hb:attributeBase o "values" X.env (eval o X.env)=eval o X.env:=by rfl)(hln:(apos.endLine==cpos.line)=true:=by rfl)
  (he:starEach [.Call (.Attribute o "values" apos) [] [] cpos] X.env=(false,eval (.Call (.Attribute o "values" apos) [] [] cpos) X.env)::starEach [] X.env:=by rfl)(hpl:(backTo pos (starEach [] X.env)).any (·.1)=false:=by rfl):
  JF X E (.Call (.Name "list" p) [.Call (.Attribute o "values" apos) [] [] cpos] [] pos) (lvL fo):=
 (vC hc hgl hml ho.h hb hln he hpl).impF fun σ H Q h=>by
  obtain⟨o,ρ,rfl,R,S,h⟩:=h
  refine⟨o,ρ,rfl,R,S,Ps.bd h fun p x vx e1 R1 r1 h1=>?_⟩
  unfold mR at h1
  cases ed:ditOf x p.h with
  |none=>simp only[ed] at h1;exact h1.elim
  |some kw=>
   obtain⟨ks,ws⟩:=kw
   simp only[ed] at h1
   obtain⟨a,kvs,rfl,g1,g2,g3⟩:=ou R1 ed r1
   exact⟨a,kvs,rfl,g1,Ps.pr (a:=ws) h1 R1 g3⟩
def tgetT (K:PySem.W.Frag):V->V->Hp->VK->Prop:=fun x y H Q=> ∃a kvs k b v,x=.ref a/\Rd H a (.dT kvs)/\y=.ref b/\SqT K H b (k.map kV)/\valV kvs k=some v/\Q v H
theorem zp (hu:X.A.units+1<cLine):PGet X (tgetT X.K):=by
 intro pins s σ H o i ov iv Q I ro ri h
 obtain⟨a,kvs,k,b,v,rfl,e,rfl,eb,l,q⟩:=h
 cases ro
 cases ri
 exact qx hu I e eb l fun w' s3 I3 rw'=>⟨v,H,I3,rw',q⟩
def sAugT (fo fi fv:Env'->M W):Env'->M Fl:=fun ρ=>bd (fo ρ) fun x=>bd (fi ρ) fun i=>bd (ixT' x i) fun old=>bd (fv ρ) fun v=>bd (addI old v) fun z=>bd (dX x i z) fun _=>pr (.nx ρ)
theorem sf {s:Wo}{x i z:W}{vx vi vz:V}{σ:St}{ρ:Env'}{Q:FlV->Hp->Prop}(R:Rel X.K s)(S:Re X.K s ρ σ)(rx:Rv X.K s x vx)(ri:Rv X.K s i vi)(rz:Rv X.K s z vz)(h:Ps (cg X E) (RFl X.K) s (bd (dX x i z) (fun _=>pr (.nx ρ)) s.h) Q):
  rSetL vx vi vz s.H (fun H=>Q (.nx σ) H)\/rSetD vx vi vz s.H (fun H=>Q (.nx σ) H):=by
 cases x with
 |loc k=>
  unfold Rv at rx
  obtain⟨hk,rfl⟩:=rx
  unfold dX bd at h
  cases e:s.h[k]? with
  |none=>simp only[e] at h;exact h.elim
  |some b=>
   cases b with
   |ins c ns ws=>simp only[e] at h;exact h.elim
   |din b ks ws=>simp only[e] at h;exact h.elim
   |gone=>simp only[e] at h;exact h.elim
   |lst l=>
    simp only[e] at h
    cases i with
    |int n=>
     simp only at h
     cases ej:ixN l.length n with
     |none=>simp only[ej] at h;exact h.elim
     |some j=>
      simp only[ej] at h
      obtain⟨us,k1,k2⟩:=R.ob k _ e
      refine .inl ⟨_,us,n,j,rfl,rv_int.mp ri,k1,by rw[k2.len];exact ej,?_⟩
      exact Ps.at (p:=s.put k (.lst (l.set j z)) (.lst (us.set j vz))) (b:=FlV.nx σ) h rfl (Ex.put e (by simp)) (R.putL e (by simp) (k2.set rz j)) ⟨σ,rfl,S.mono R (Ex.put e (by simp))⟩
    |_=>exact h.elim
   |dit ks ws=>
    simp only[e] at h
    cases i with
    |kt x=>
     simp only at h
     by_cases zl:ks.length<sizeLine
     ·simp only[if_pos zl] at h
      obtain⟨kvs,k1,k2,k3⟩:=R.ob k _ e
      unfold Rv at ri
      obtain⟨b,rfl,hb⟩:=ri
      obtain⟨b1,b2⟩:=ip (x:=x) rz k2 k3
      refine .inr ⟨_,_,rfl,.inr ⟨kvs,x,b,k1,rfl,hb,by rw[<-k2,List.length_map] at zl;exact zl,rfl⟩,?_⟩
      exact Ps.at (p:=s.put k (.dit (putW ks ws x z).1 (putW ks ws x z).2) (.dT (putK kvs x vz))) (b:=FlV.nx σ) h rfl (Ex.put e (by simp)) (R.putT e (by simp) b1 b2) ⟨σ,rfl,S.mono R (Ex.put e (by simp))⟩
     ·simp only[if_neg zl] at h;exact h.elim
    |_=>exact h.elim
   |dic ks ws=>
    simp only[e] at h
    cases ej:keyOf i with
    |none=>simp only[ej] at h;exact h.elim
    |some x=>
     simp only[ej] at h
     by_cases zl:ks.length<sizeLine
     ·simp only[if_pos zl] at h
      obtain⟨kvs,k1,k2,k3⟩:=R.ob k _ e
      rw[fQ ej ri]
      obtain⟨b1,b2⟩:=ip (x:=x) rz k2 k3
      refine .inr ⟨_,_,rfl,.inl ⟨kvs,x,k1,rfl,by rw[<-k2,List.length_map] at zl;exact zl,rfl⟩,?_⟩
      exact Ps.at (p:=s.put k (.dic (putW ks ws x z).1 (putW ks ws x z).2) (.dK (putK kvs x vz))) (b:=FlV.nx σ) h rfl (Ex.put e (by simp)) (R.putD e (by simp) b1 b2) ⟨σ,rfl,S.mono R (Ex.put e (by simp))⟩
     ·simp only[if_neg zl] at h;exact h.elim
 |_=>exact h.elim
theorem yT {α β:Type}{a:M α}{k:α->M β}{h h':List Ob}{x:α}(e:a h=.ok x h'):bd a k h=k x h':=by unfold bd;rw[e]
theorem wF {α β:Type}{a:M α}{k:α->M β}{h:List Ob}(e:a h=.bad):bd a k h=.bad:=by unfold bd;rw[e]
theorem rf (x y:W)(h:List Ob):ixT' x y h=.bad\/ ∃ks ws k w,ditOf x h=some (ks,ws)/\keyT y=some k/\atK ks ws k=some w/\ixT' x y h=.ok w h:=by
 unfold ixT'
 cases ed:ditOf x h with
 |none=>exact .inl rfl
 |some kw=>
  obtain⟨ks,ws⟩:=kw
  cases ek:keyT y with
  |none=>exact .inl rfl
  |some k=>
   cases e3:atK ks ws k with
   |none=>left;simp only[e3]
   |some w=>right;refine⟨ks,ws,k,w,rfl,rfl,e3,?_⟩;simp only[e3]
theorem wJ {α β:Type}{r:Wo->α->β->Prop}{o:Wo}{x y:W}{vx vy:V}{k:W->M α}{Q:β->Hp->Prop}(rx:Rv X.K o x vx)(ry:Rv X.K o y vy)(h:Ps (cg X E) r o (bd (addI x y) k o.h) Q): ∃a b,vx=.int a/\vy=.int b/\Ps (cg X E) r o (k (.int (a+b)) o.h) Q:=by
 cases x with
 |int a=>
  cases y with
  |int b=>exact⟨a,b,rv_int.mp rx,rv_int.mp ry,h⟩
  |_=>exact h.elim
 |_=>exact h.elim
theorem vV (hu:X.A.units+1<cLine)(ho:JE X E o fo)(hi:JE X E i fi)(hv:JE X E value fv)(ha: ∀ov iv new,augStore i ov iv new=(do holding [new,ov,iv] (setItem ov iv new);release [new,ov,iv] [];pure .next):=by intros;rfl):
  JS X E (.AugAssign (.Subscript o i tpos) .Add value pos) (sAugT fo fi fv):=
 (vn ho.h hi.h (zp hu) hv.h pN (set_list.or (nr hu)) ha).imp fun D σ H h=>by
  obtain⟨w,ρ,rfl,R,S,h⟩:=h
  refine⟨w,ρ,rfl,R,S,Ps.bd h fun p x vx e1 R1 r1 h1=>⟨p,ρ,rfl,R1,S.mono R e1,Ps.bd h1 fun q y vy e2 R2 r2 h2=>?_⟩⟩
  have rx:=r1.mono R1 e2
  have S2:=(S.mono R e1).mono R1 e2
  rcases rf x y q.h with eb|⟨ks,ws,k,old,ed,ek,e3,eo⟩
  ·rw[wF eb] at h2;exact h2.elim
  rw[yT eo] at h2
  obtain⟨a,kvs,rfl,g1,g2,g3⟩:=ou R2 ed rx
  obtain⟨b,rfl,sb⟩:=wo ek r2
  have hv:=jD (x:=k) g2 g3
  rw[e3] at hv
  obtain⟨vo,hvo,ro⟩:=hv
  refine⟨a,kvs,k,b,vo,rfl,g1,rfl,sb,hvo,q,ρ,rfl,R2,S2,Ps.bd h2 fun s v vv e3 R3 r3 h3=>?_⟩
  obtain⟨c,d,ea,eb,h4⟩:=wJ (ro.mono R2 e3) r3 h3
  exact⟨c,d,ea,eb,sf R3 (S2.mono R2 e3) (rx.mono R2 e3) (r2.mono R2 e3) (rv_int.mpr rfl) h4⟩
end
end L2
namespace Q
open PySem L2
noncomputable def top (i:Nat):Stmt:=PySem.Challenge.pw_blockfall_k22_whole_jumps_by_counts.main.body.getD i (.Pass ⟨0,0,0,0⟩)
noncomputable abbrev gU:Stmt:=top 2
noncomputable abbrev cb:Stmt:=iE (top 5) 0
noncomputable abbrev bo:Stmt:=iE (top 5) 1
noncomputable abbrev bp:Stmt:=iE (top 5) 2
noncomputable abbrev cQ:Stmt:=iE (top 5) 3
noncomputable abbrev cH:Stmt:=iE (top 5) 4
noncomputable abbrev dY:Stmt:=top 19
noncomputable abbrev de:Stmt:=top 18
noncomputable abbrev cp:Stmt:=top 17
noncomputable abbrev lx:Stmt:=top 16
noncomputable abbrev iN:Stmt:=top 20
noncomputable abbrev fM:Stmt:=top 21
noncomputable abbrev cO:Stmt:=top 14
noncomputable abbrev dZ:Stmt:=top 13
noncomputable abbrev eY:Stmt:=top 10
noncomputable abbrev eX:Stmt:=top 11
noncomputable abbrev eg:Stmt:=top 9
noncomputable abbrev cz:Stmt:=top 12
noncomputable abbrev hU:Stmt:=top 8
noncomputable abbrev cP:Stmt:=top 23
noncomputable abbrev d6:Stmt:=top 24
noncomputable abbrev d5:Stmt:=top 25
noncomputable abbrev dI:Stmt:=top 26
noncomputable abbrev d8:Stmt:=top 27
noncomputable abbrev d4:Stmt:=top 28
noncomputable abbrev ck:Stmt:=top 29
noncomputable abbrev fL:Stmt:=top 30
noncomputable abbrev d9:Stmt:=top 31
noncomputable abbrev df:Stmt:=top 32
noncomputable abbrev cA:Stmt:=top 33
noncomputable abbrev cr:Stmt:=top 34
noncomputable abbrev dg:Stmt:=top 35
noncomputable abbrev dG:Stmt:=top 36
noncomputable abbrev cY:Stmt:=top 37
noncomputable abbrev d7:Stmt:=top 38
noncomputable abbrev dH:Stmt:=top 39
noncomputable abbrev cn:Stmt:=top 40
noncomputable abbrev cB:Stmt:=top 41
noncomputable abbrev io:Stmt:=top 42
def fD (fr:List W->M W):Env'->M Fl:=(sSeq (sIf (mB (m2 eqW (m2 ixW (mVar 0) (mC (.int 0))) (mC (.str "number")))) (sRet (m2 ixW (mVar 0) (mC (.int 1)))) sNil) (sSeq (sIf (mB (m2 eqW (m2 ixW (mVar 0) (mC (.int 0))) (mC (.str "box")))) (sRet (m2 ixW (mVar 1) (m2 ixW (mVar 0) (mC (.int 1))))) sNil) (sSeq (sSet 2 (mCall (arW 2 fr) (mCons (m2 ixW (mVar 0) (mC (.int 1))) (mCons (mVar 1) mNil)))) (sSeq (sSet 3 (mCall (arW 2 fr) (mCons (m2 ixW (mVar 0) (mC (.int 2))) (mCons (mVar 1) mNil)))) (sSeq (sIf (mB (m2 eqW (m2 ixW (mVar 0) (mC (.int 0))) (mC (.str "+")))) (sRet (m2 addW (mVar 2) (mVar 3))) sNil) (sSeq (sIf (mB (m2 eqW (m2 ixW (mVar 0) (mC (.int 0))) (mC (.str "-")))) (sRet (m2 subW (mVar 2) (mVar 3))) sNil) (sRet (m2 mulW (mVar 2) (mVar 3)))))))))
def cy:Nat->List W->M W
 |0=>fun _=>no
 |n+1=>runF 4 (fD (cy n))
def di:Env'->M Fl:=(sSeq (sFldW "Doing" "held" (mVar 0) (mCall dNewL (mCons (mVar 1) mNil))) (sSeq (sFldW "Doing" "numbers" (mVar 0) (mTl (listL (mCons (mVar 2) mNil)))) (sSeq (sFldW "Doing" "taken" (mVar 0) (mC (.int 0))) (sFldW "Doing" "said" (mVar 0) (mNew (lenG mNil))))))
def aX:List W->M W:=runF 3 di
def cw:Env'->M Fl:=(sRet (mAndV (m2 eqW (m2 ixW (mVar 1) (mC (.int 0))) (mC (.str "ask"))) (m2 eqW (m1 (fldG "Doing" "taken") (mVar 0)) (mCall lenW (mCons (m1 (fldG "Doing" "numbers") (mVar 0)) mNil)))))
def aN:List W->M W:=runF 2 cw
def cx:Env'->M Fl:=(sIf (mB (m2 eqW (m2 ixW (mVar 1) (mC (.int 0))) (mC (.str "put")))) (be (m1 (fldG "Doing" "held") (mVar 0)) (m2 ixW (mVar 1) (mC (.int 1))) (m2 modW (mCall (arW 2 (cy 6)) (mCons (m2 ixW (mVar 1) (mC (.int 2))) (mCons (m1 (fldG "Doing" "held") (mVar 0)) mNil))) (mC (.int 1000000)))) (sIf (mB (m2 eqW (m2 ixW (mVar 1) (mC (.int 0))) (mC (.str "say")))) (sEx (mMeth isL bJ (m1 (fldG "Doing" "said") (mVar 0)) (mCons (mCall (arW 2 (cy 6)) (mCons (m2 ixW (mVar 1) (mC (.int 1))) (mCons (m1 (fldG "Doing" "held") (mVar 0)) mNil))) mNil))) (sSeq (be (m1 (fldG "Doing" "held") (mVar 0)) (m2 ixW (mVar 1) (mC (.int 1))) (m2 modW (m2 ixW (m1 (fldG "Doing" "numbers") (mVar 0)) (m1 (fldG "Doing" "taken") (mVar 0))) (mC (.int 1000000)))) (sAugW "Doing" "taken" (mVar 0) (mC (.int 1))))))
def aR:List W->M W:=runF 2 cx
def eM:Env'->M Fl:=(sSeq (sIf (mB (m2 eqW (mVar 1) (mC (.str "<")))) (sRet (m2 ltW (mCall (arW 2 (cy 6)) (mCons (mVar 2) (mCons (m1 (fldG "Doing" "held") (mVar 0)) mNil))) (mCall (arW 2 (cy 6)) (mCons (mVar 3) (mCons (m1 (fldG "Doing" "held") (mVar 0)) mNil))))) sNil) (sRet (m2 eqW (mCall (arW 2 (cy 6)) (mCons (mVar 2) (mCons (m1 (fldG "Doing" "held") (mVar 0)) mNil))) (mCall (arW 2 (cy 6)) (mCons (mVar 3) (mCons (m1 (fldG "Doing" "held") (mVar 0)) mNil))))))
def bH:List W->M W:=runF 4 eM
def dS:Env'->M Fl:=(sRet (m2 modW (mCall (arW 2 (cy 6)) (mCons (mVar 1) (mCons (m1 (fldG "Doing" "held") (mVar 0)) mNil))) (mVar 2)))
def cc:List W->M W:=runF 3 dS
def eE:Env'->M Fl:=(sSeq (sIf (mB (m2 eqW (m2 ixW (mVar 0) (mC (.int 0))) (mC (.str "go")))) (sRet (mTup (mCons (m2 ixW (mVar 0) (mC (.int 1))) mNil))) sNil) (sSeq (sIf (mB (m2 eqW (m2 ixW (mVar 0) (mC (.int 0))) (mC (.str "if")))) (sRet (mTup (mCons (m2 ixW (mVar 0) (mC (.int 4))) (mCons (m2 ixW (mVar 0) (mC (.int 5))) mNil)))) sNil) (sSeq (sIf (mB (m2 eqW (m2 ixW (mVar 0) (mC (.int 0))) (mC (.str "table")))) (sRet (m2 ixW (mVar 0) (mC (.int 2)))) sNil) (sRet (mTup mNil)))))
def cE:List W->M W:=runF 1 eE
def eT:Env'->M Fl:=(sSeq (sIf (mB (m2 eqW (m2 ixW (mVar 1) (mC (.int 0))) (mC (.str "if")))) (sRet (mIf (mB (mMet "Doing" "holds" 4 bH (mVar 0) (mCons (m2 ixW (mVar 1) (mC (.int 1))) (mCons (m2 ixW (mVar 1) (mC (.int 2))) (mCons (m2 ixW (mVar 1) (mC (.int 3))) mNil))))) (mC (.int 0)) (mC (.int 1)))) sNil) (sSeq (sIf (mB (m2 eqW (m2 ixW (mVar 1) (mC (.int 0))) (mC (.str "table")))) (sRet (mMet "Doing" "chosen" 3 cc (mVar 0) (mCons (m2 ixW (mVar 1) (mC (.int 1))) (mCons (mCall lenW (mCons (m2 ixW (mVar 1) (mC (.int 2))) mNil)) mNil)))) sNil) (sRet (mC (.int 0)))))
def dj:List W->M W:=runF 2 eT
def dD:Env'->M Fl:=(sSeq (sFor (mSrc (mVar 1) srcL) (tgN 2) (sSeq (sIf (mB (mMet "Doing" "lacks_number" 2 aN (mVar 0) (mCons (mVar 2) mNil))) (sRet (mC (.bl false))) sNil) (sEx (mMet "Doing" "do_statement" 2 aR (mVar 0) (mCons (mVar 2) mNil))))) (sRet (mC (.bl true))))
def cq:List W->M W:=runF 3 dD
def p5:Env'->M Fl:=(sSeq (sSet 3 (mMake "Doing" 3 aX (mCons (m2 ixW (mVar 0) (mC (.int 0))) (mCons (mVar 1) mNil)))) (sSeq (sSet 4 (mNew (lenG mNil))) (sSeq (sSet 5 (mC (.int 0))) (sSeq (bM (mB (m2 ltW (mCall lenW (mCons (mVar 4) mNil)) (mVar 2))) (sSeq (sSet 6 (m2 ixW (m2 ixW (mVar 0) (mC (.int 1))) (mVar 5))) (sSeq (sIf (mNot (mB (mCall (arW 2 cq) (mCons (mVar 3) (mCons (m2 ixW (mVar 6) (mC (.int 1))) mNil))))) (sRet (mTup (mCons (m1 (fldG "Doing" "said") (mVar 3)) (mCons (mTup (mCons (mC (.str "out")) mNil)) (mCons (mVar 4) mNil))))) sNil) (sSeq (sSet 7 (m2 ixW (mVar 6) (mC (.int 2)))) (sSeq (sIf (mB (m2 eqW (m2 ixW (mVar 7) (mC (.int 0))) (mC (.str "stop")))) (sRet (mTup (mCons (m1 (fldG "Doing" "said") (mVar 3)) (mCons (mTup (mCons (mC (.str "stop")) mNil)) (mCons (mVar 4) mNil))))) sNil) (sSeq (sSet 8 (mCall (arW 2 dj) (mCons (mVar 3) (mCons (mVar 7) mNil)))) (sSeq (sSet 9 (m2 ixW (mCall (arW 1 cE) (mCons (mVar 7) mNil)) (mVar 8))) (sSeq (sEx (mMeth isL bJ (mVar 4) (mCons (mKt (mCons (mVar 5) (mCons (mVar 8) (mCons (mVar 9) mNil)))) mNil))) (sSet 5 (mVar 9))))))))) 27) (sRet (mTup (mCons (m1 (fldG "Doing" "said") (mVar 3)) (mCons (mTup (mCons (mC (.str "on")) mNil)) (mCons (mVar 4) mNil)))))))))
def kJ:List W->M W:=runF 10 p5
def mP:Env'->M Fl:=(sSeq (sSet 1 (mNew (lenG mNil))) (sSeq (sFor (mSrcA (mCons (m2 ixW (mVar 0) (mC (.int 1))) mNil) enumL) (tgT [2,3]) (sFor (mSrcA (mCons (mCall (arW 1 cE) (mCons (m2 ixW (mVar 3) (mC (.int 2))) mNil)) mNil) enumT) (tgT [4,5]) (sEx (mMeth isL bJ (mVar 1) (mCons (mKt (mCons (mVar 2) (mCons (mVar 4) (mCons (mVar 5) mNil)))) mNil))))) (sRet (m1 iceW (mVar 1)))))
def gO:List W->M W:=runF 6 mP
def iG:Env'->M Fl:=(sSeq (sSet 3 o9) (sSeq (sFor (mSrc (mCall (arW 1 gO) (mCons (mVar 0) mNil)) srcL) (tgN 4) (be (mVar 3) (mVar 4) (mC (.int 0)))) (sSeq (sFor (mSrc (mVar 1) srcL) (tgN 5) (sFor (mSrc (m2 ixW (mCall (arW 3 kJ) (mCons (mVar 0) (mCons (mVar 5) (mCons (mVar 2) mNil)))) (mC (.int 2))) srcL) (tgN 4) (sAugT (mVar 3) (mVar 4) (mC (.int 1))))) (sRet (mTl (lvL (mVar 3)))))))
def fS:List W->M W:=runF 6 iG
def cD:Env'->M Fl:=(sSeq (sIf (mB (m2 eqW (m2 ixW (mVar 1) (mC (.int 0))) (mC (.str "jump")))) (sRet (m2 ixW (mVar 1) (mC (.int 1)))) sNil) (sSeq (sIf (mB (m2 eqW (m2 ixW (mVar 1) (mC (.int 0))) (mC (.str "when")))) (sRet (mIf (mB (mMet "Doing" "holds" 4 bH (mVar 0) (mCons (m2 ixW (mVar 1) (mC (.int 1))) (mCons (m2 ixW (mVar 1) (mC (.int 2))) (mCons (m2 ixW (mVar 1) (mC (.int 3))) mNil))))) (m2 ixW (mVar 1) (mC (.int 4))) (mC .non))) sNil) (sSeq (sIf (mB (m2 eqW (m2 ixW (mVar 1) (mC (.int 0))) (mC (.str "unless")))) (sRet (mIf (mB (mMet "Doing" "holds" 4 bH (mVar 0) (mCons (m2 ixW (mVar 1) (mC (.int 1))) (mCons (m2 ixW (mVar 1) (mC (.int 2))) (mCons (m2 ixW (mVar 1) (mC (.int 3))) mNil))))) (mC .non) (m2 ixW (mVar 1) (mC (.int 4))))) sNil) (sSeq (sIf (mB (m2 eqW (m2 ixW (mVar 1) (mC (.int 0))) (mC (.str "table")))) (sRet (m2 ixW (m2 ixW (mVar 1) (mC (.int 2))) (mMet "Doing" "chosen" 3 cc (mVar 0) (mCons (m2 ixW (mVar 1) (mC (.int 1))) (mCons (mCall lenW (mCons (m2 ixW (mVar 1) (mC (.int 2))) mNil)) mNil))))) sNil) (sRet (mC .non))))))
def cT:List W->M W:=runF 2 cD
def gn:Env'->M Fl:=(sSeq (sSet 4 (mMake "Doing" 3 aX (mCons (mVar 0) (mCons (mVar 2) mNil)))) (sSeq (sSet 5 (mC (.int 0))) (sSeq (sSet 6 (mC (.int 0))) (sSeq (sSet 7 (mC (.int 0))) (sSeq (bM (mB (m2 ltW (mVar 7) (mVar 3))) (sSeq (sSet 8 (m2 ixW (mVar 1) (mVar 6))) (sSeq (sIf (mB (m2 eqW (m2 ixW (mVar 8) (mC (.int 0))) (mC (.str "stop")))) (sRet (mTup (mCons (m1 (fldG "Doing" "said") (mVar 4)) (mCons (mTup (mCons (mC (.str "stop")) mNil)) (mCons (mVar 5) mNil))))) sNil) (sSeq (sIf (mB (mMet "Doing" "lacks_number" 2 aN (mVar 4) (mCons (mVar 8) mNil))) (sRet (mTup (mCons (m1 (fldG "Doing" "said") (mVar 4)) (mCons (mTup (mCons (mC (.str "out")) mNil)) (mCons (mVar 5) mNil))))) sNil) (sSeq (sIf (mB (m2 inW (m2 ixW (mVar 8) (mC (.int 0))) (mC (.tup ((["put", "say", "ask"]:List Str).map W.str))))) (sEx (mMet "Doing" "do_statement" 2 aR (mVar 4) (mCons (mVar 8) mNil))) sNil) (sSeq (sSet 9 (mCall (arW 2 cT) (mCons (mVar 4) (mCons (mVar 8) mNil)))) (sSeq (sIf (mB (m2 isNW (mVar 9) (mC .non))) (sAug 6 (mC (.int 1))) (sSeq (sSet 6 (mVar 9)) (sAug 5 (mC (.int 1))))) (sAug 7 (mC (.int 1))))))))) 502) (sRet (mTup (mCons (m1 (fldG "Doing" "said") (mVar 4)) (mCons (mTup (mCons (mC (.str "on")) mNil)) (mCons (mVar 5) mNil))))))))))
def fk:List W->M W:=runF 10 gn
def g6:Env'->M Fl:=(sRet (mIf (mB (m2 eqW (mVar 0) (mVar 1))) (mTl (lenG mNil)) (mTl (lenG (mCons (mTup (mCons (mC (.str "jump")) (mCons (mVar 0) mNil))) mNil)))))
def dO:List W->M W:=runF 2 g6
def gZ:Env'->M Fl:=(sSeq (sSet 2 (m3 slW (mVar 0) (mPart (mC (.int 1))) (mPart (mC (.int 4))))) (sSeq (sSet 3 (m2 ixW (mVar 0) (mC (.int 4)))) (sSeq (sSet 4 (m2 ixW (mVar 0) (mC (.int 5)))) (sSeq (sIf (mB (m2 eqW (mVar 3) (mVar 4))) (sRet (mCall (arW 2 dO) (mCons (mVar 3) (mCons (mVar 1) mNil)))) sNil) (sSeq (sIf (mB (m2 eqW (mVar 3) (mVar 1))) (sRet (mTl (lenG (mCons (m2 addW (m2 addW (mTup (mCons (mC (.str "unless")) mNil)) (mVar 2)) (mTup (mCons (mVar 4) mNil))) mNil)))) sNil) (sRet (mTl (catL (mTl (lenG (mCons (m2 addW (m2 addW (mTup (mCons (mC (.str "when")) mNil)) (mVar 2)) (mTup (mCons (mVar 3) mNil))) mNil))) (mCall (arW 2 dO) (mCons (mVar 4) (mCons (mVar 1) mNil)))))))))))
def fR:List W->M W:=runF 5 gZ
def gw:Env'->M Fl:=(sSeq (sIf (mB (m2 eqW (m2 ixW (mVar 0) (mC (.int 0))) (mC (.str "go")))) (sRet (mCall (arW 2 dO) (mCons (m2 ixW (mVar 0) (mC (.int 1))) (mCons (mVar 1) mNil)))) sNil) (sSeq (sIf (mB (m2 eqW (m2 ixW (mVar 0) (mC (.int 0))) (mC (.str "if")))) (sRet (mCall (arW 2 fR) (mCons (mVar 0) (mCons (mVar 1) mNil)))) sNil) (sRet (mTl (lenG (mCons (mVar 0) mNil))))))
def fq:List W->M W:=runF 2 gw
def eI:Env'->M Fl:=(sSeq (sIf (mB (m2 inW (m2 ixW (mVar 0) (mC (.int 0))) (mC (.tup ((["jump", "when", "unless"]:List Str).map W.str))))) (sRet (m2 addW (m3 slW (mVar 0) aP (mPart (m1 negW (mC (.int 1))))) (mTup (mCons (m2 ixW (mVar 1) (m2 ixW (mVar 0) (m1 negW (mC (.int 1))))) mNil)))) sNil) (sSeq (sIf (mB (m2 eqW (m2 ixW (mVar 0) (mC (.int 0))) (mC (.str "table")))) (sRet (mTup (mCons (mC (.str "table")) (mCons (m2 ixW (mVar 0) (mC (.int 1))) (mCons (mCall gH (mCons (mTl (mComp [] (mSrc (m2 ixW (mVar 0) (mC (.int 2))) srcT) (tgN 0) mYes (m2 ixW (mVar 3) (mVar 0)) 2)) mNil)) mNil))))) sNil) (sRet (mVar 0))))
def dy:List W->M W:=runF 2 eI
def mQ:Env'->M Fl:=(sSeq (sSet 2 (mNew (lenG mNil))) (sSeq (sSet 3 mDNew) (sSeq (sFor (mSrcA (mCons (mVar 1) (mCons (m2 catTW (m3 slW (mVar 1) (mPart (mC (.int 1))) aP) (mTup (mCons (mC .non) mNil))) mNil)) (srcZ true true)) (tgT [4,5]) (sSeq (sSet 6 (m2 ixW (m2 ixW (mVar 0) (mC (.int 1))) (mVar 4))) (sSeq (be (mVar 3) (mVar 4) (mCall lenW (mCons (mVar 2) mNil))) (sSeq (sEx (mMeth isL iH (mVar 2) (mCons (m2 ixW (mVar 6) (mC (.int 1))) mNil))) (sEx (mMeth isL iH (mVar 2) (mCons (mCall (arW 2 fq) (mCons (m2 ixW (mVar 6) (mC (.int 2))) (mCons (mVar 5) mNil))) mNil))))))) (sRet (mNew (mComp [] (mSrc (mVar 2) srcL) (tgN 0) mYes (mCall (arW 2 dy) (mCons (mVar 0) (mCons (mVar 5) mNil))) 2))))))
def kK:List W->M W:=runF 7 mQ
def eL:Env'->M Fl:=(sSeq (sIf (mB (m2 ltW (mVar 1) (mCall lenW (mCons (mVar 0) mNil)))) (sRet (m2 ixW (mVar 0) (mVar 1))) sNil) (sRet (mC (.int 0))))
def aW:List W->M W:=runF 2 eL
def gr:Env'->M Fl:=(sRet (mNew (lenG (mCons (mCall absW (mCons (mVar 0) mNil)) (mCons (m2 modW (m2 mulW (m2 addW (m2 modW (mVar 0) (mC (.int 2147483647))) (mC (.int 1))) (mC (.int 742938285))) (mC (.int 2147483647))) mNil)))))
def aU:List W->M W:=runF 1 gr
def gq:Env'->M Fl:=(sSeq (sIf (mB (m2 geW (m2 ixW (mVar 0) (mC (.int 0))) (m2 powW (mC (.int 10)) (mC (.int 18))))) (sSeq (sSet 2 (m2 modW (m2 ixW (mVar 0) (mC (.int 0))) (mVar 1))) (sSeq (be (mVar 0) (mC (.int 0)) (m2 fdivW (m2 ixW (mVar 0) (mC (.int 0))) (mVar 1))) (sRet (mVar 2)))) sNil) (sSeq (be (mVar 0) (mC (.int 1)) (m2 modW (m2 addW (m2 mulW (m2 ixW (mVar 0) (mC (.int 1))) (mC (.int 48271))) (mC (.int 11))) (mC (.int 2147483647)))) (sSeq (sSet 3 (m2 modW (m2 mulW (m2 ixW (mVar 0) (mC (.int 1))) (m2 ixW (mVar 0) (mC (.int 1)))) (mC (.int 2147483629)))) (sRet (m2 modW (m2 fdivW (m2 modW (m2 mulW (mVar 3) (mC (.int 69621))) (mC (.int 2147483587))) (mC (.int 8))) (mVar 1))))))
def aj:List W->M W:=runF 4 gq
def fH:Env'->M Fl:=(sSeq (sSet 2 (mC (.str "abcdefghijklmnopqrstuvwxyz"))) (sSeq (sSet 3 (mTl (lenG (mCons (mC (.str "box")) (mCons (mC (.str "block")) (mCons (mC (.str "put")) (mCons (mC (.str "say")) (mCons (mC (.str "ask")) (mCons (mC (.str "go")) (mCons (mC (.str "if")) (mCons (mC (.str "else")) (mCons (mC (.str "table")) (mCons (mC (.str "stop")) mNil))))))))))))) (sSeq (sSet 4 (mNew (lenG mNil))) (sSeq (sFor (mSrcA (mCons (mVar 1) mNil) rng1) (tgN 5) (sSeq (sSet 6 (m2 ixW (mTl (catL (mTl (lenG (mCons (mC (.str "")) (mCons (mC (.str "")) (mCons (mC (.str "zz")) (mCons (mC (.str "qrst")) mNil)))))) (mVar 3))) (mCall (arW 2 aj) (mCons (mVar 0) (mCons (mC (.int 14)) mNil))))) (sSeq (sFor (mSrcA (mCons (m2 addW (mC (.int 1)) (mCall (arW 2 aj) (mCons (mVar 0) (mCons (m2 subW (mC (.int 8)) (mCall maxW (mCons (mC (.int 4)) (mCons (mCall lenW (mCons (mVar 6) mNil)) mNil)))) mNil)))) mNil) rng1) (tgN 7) (sSet 6 (m2 addW (mVar 6) (m2 ixW (mVar 2) (mCall (arW 2 aj) (mCons (mVar 0) (mCons (mC (.int 26)) mNil))))))) (sSeq (bM (mOr (mB (m2 inW (mVar 6) (mVar 4))) (mB (m2 inW (mVar 6) (mVar 3)))) (sSet 6 (m2 addW (m3 slW (mVar 6) aP (mPart (m1 negW (mC (.int 1))))) (m2 ixW (mVar 2) (m2 modW (m2 addW (mMeth isS findW (mVar 2) (mCons (m2 ixW (mVar 6) (m1 negW (mC (.int 1)))) mNil)) (mC (.int 1))) (mC (.int 26)))))) 30) (sEx (mMeth isL bJ (mVar 4) (mCons (mVar 6) mNil))))))) (sRet (m1 iceW (mVar 4)))))))
def dM:List W->M W:=runF 8 fH
def gv:Env'->M Fl:=(sSeq (sIf (mAnd (mB (m2 neW (mVar 1) (mTl (lenG mNil)))) (mB (m2 gtW (mCall (arW 2 aj) (mCons (mVar 0) (mCons (mC (.int 3)) mNil))) (mC (.int 0))))) (sRet (mTup (mCons (mC (.str "box")) (mCons (m2 ixW (m2 ixW (mVar 1) (mCall (arW 2 aj) (mCons (mVar 0) (mCons (mCall lenW (mCons (mVar 1) mNil)) mNil)))) (mC (.int 0))) mNil)))) sNil) (sSeq (sSet 2 (m2 ixW (mTl (lenG (mCons (mC (.int 3)) (mCons (mC (.int 10)) (mCons (mC (.int 1000)) mNil))))) (mCall (arW 2 aj) (mCons (mVar 0) (mCons (mC (.int 3)) mNil))))) (sRet (mTup (mCons (mC (.str "number")) (mCons (mCall (arW 2 aj) (mCons (mVar 0) (mCons (mVar 2) mNil))) mNil))))))
def fm:List W->M W:=runF 3 gv
def gp (fr:List W->M W):Env'->M Fl:=(sSeq (sIf (mB (m2 ltW (mVar 2) (mC (.int 2)))) (sRet (mCall (arW 2 fm) (mCons (mVar 0) (mCons (mVar 1) mNil)))) sNil) (sSeq (sSet 3 (m2 addW (mC (.int 1)) (mCall (arW 2 aj) (mCons (mVar 0) (mCons (m2 subW (mVar 2) (mC (.int 1))) mNil))))) (sSeq (sSet 4 (m2 ixW (mC (.str "+-*")) (mCall (arW 2 aj) (mCons (mVar 0) (mCons (mC (.int 3)) mNil))))) (sSeq (sSet 5 (mCall (arW 3 fr) (mCons (mVar 0) (mCons (mVar 1) (mCons (mVar 3) mNil))))) (sSeq (sSet 6 (mCall (arW 3 fr) (mCons (mVar 0) (mCons (mVar 1) (mCons (m2 subW (mVar 2) (mVar 3)) mNil))))) (sRet (mTup (mCons (mVar 4) (mCons (mVar 5) (mCons (mVar 6) mNil))))))))))
def bn:Nat->List W->M W
 |0=>fun _=>no
 |n+1=>runF 7 (gp (bn n))
def dB:Env'->M Fl:=(sSeq (sSet 2 (mCall (arW 2 aj) (mCons (mVar 0) (mCons (mC (.int 8)) mNil)))) (sSeq (sIf (mOr (mB (m2 eqW (mVar 1) (mTl (lenG mNil)))) (mB (m2 ltW (mVar 2) (mC (.int 3))))) (sRet (mTup (mCons (mC (.str "say")) (mCons (mCall (arW 3 (bn 6)) (mCons (mVar 0) (mCons (mVar 1) (mCons (m2 addW (mC (.int 1)) (mCall (arW 2 aj) (mCons (mVar 0) (mCons (mC (.int 5)) mNil)))) mNil)))) mNil)))) sNil) (sSeq (sSet 3 (m2 ixW (m2 ixW (mVar 1) (mCall (arW 2 aj) (mCons (mVar 0) (mCons (mCall lenW (mCons (mVar 1) mNil)) mNil)))) (mC (.int 0)))) (sSeq (sIf (mB (m2 ltW (mVar 2) (mC (.int 5)))) (sRet (mTup (mCons (mC (.str "ask")) (mCons (mVar 3) mNil)))) sNil) (sSeq (sSet 4 (mTup (mCons (mC (.str "box")) (mCons (m2 ixW (m2 ixW (mVar 1) (mCall (arW 2 aj) (mCons (mVar 0) (mCons (mCall lenW (mCons (mVar 1) mNil)) mNil)))) (mC (.int 0))) mNil)))) (sSeq (sIf (mB (m2 eqW (mVar 2) (mC (.int 5)))) (sRet (mTup (mCons (mC (.str "put")) (mCons (mVar 3) (mCons (mTup (mCons (m2 ixW (mC (.str "+-")) (mCall (arW 2 aj) (mCons (mVar 0) (mCons (mC (.int 2)) mNil)))) (mCons (mVar 4) (mCons (mTup (mCons (mC (.str "number")) (mCons (mCall (arW 2 aj) (mCons (mVar 0) (mCons (mC (.int 3)) mNil))) mNil))) mNil)))) mNil))))) sNil) (sRet (mTup (mCons (mC (.str "put")) (mCons (mVar 3) (mCons (mCall (arW 3 (bn 6)) (mCons (mVar 0) (mCons (mVar 1) (mCons (m2 addW (mC (.int 1)) (mCall (arW 2 aj) (mCons (mVar 0) (mCons (mC (.int 5)) mNil)))) mNil)))) mNil)))))))))))
def bm:List W->M W:=runF 5 dB
def iF:Env'->M Fl:=(sSeq (sSet 4 (m2 ixW (mC (.str "<=")) (mCall (arW 2 aj) (mCons (mVar 0) (mCons (mC (.int 2)) mNil))))) (sSeq (sSet 5 (mCall (arW 3 (bn 6)) (mCons (mVar 0) (mCons (mVar 1) (mCons (m2 addW (mC (.int 1)) (mCall (arW 2 aj) (mCons (mVar 0) (mCons (mC (.int 3)) mNil)))) mNil))))) (sSeq (sSet 6 (mCall (arW 2 aj) (mCons (mVar 0) (mCons (mC (.int 3)) mNil)))) (sSeq (sSet 7 (mTup (mCons (mC (.str "number")) (mCons (mCall (arW 2 aj) (mCons (mVar 0) (mCons (mC (.int 4)) mNil))) mNil)))) (sSeq (sIf (mB (m2 eqW (mVar 6) (mC (.int 0)))) (sSet 7 (mCall (arW 3 (bn 6)) (mCons (mVar 0) (mCons (mVar 1) (mCons (m2 addW (mC (.int 1)) (mCall (arW 2 aj) (mCons (mVar 0) (mCons (mC (.int 3)) mNil)))) mNil))))) sNil) (sSeq (sIf (mB (m2 eqW (mVar 6) (mC (.int 1)))) (sSet 7 (mTup (mCons (mC (.str "+")) (mCons (mVar 5) (mCons (mTup (mCons (mC (.str "number")) (mCons (mCall (arW 2 aj) (mCons (mVar 0) (mCons (mC (.int 2)) mNil))) mNil))) mNil))))) sNil) (sRet (mTup (mCons (mC (.str "if")) (mCons (mVar 4) (mCons (mVar 5) (mCons (mVar 7) (mCons (mVar 2) (mCons (mVar 3) mNil))))))))))))))
def gP:List W->M W:=runF 8 iF
def gY:Env'->M Fl:=(sSeq (sSet 3 (mCall (arW 2 aj) (mCons (mVar 0) (mCons (mC (.int 12)) mNil)))) (sSeq (sSet 4 (mCall (arW 2 aj) (mCons (mVar 0) (mCons (mVar 2) mNil)))) (sSeq (sIf (mB (m2 ltW (mVar 3) (mC (.int 3)))) (sRet (mTup (mCons (mC (.str "go")) (mCons (mVar 4) mNil)))) sNil) (sSeq (sIf (mB (m2 ltW (mVar 3) (mC (.int 8)))) (sRet (mCall (arW 4 gP) (mCons (mVar 0) (mCons (mVar 1) (mCons (mVar 4) (mCons (mCall (arW 2 aj) (mCons (mVar 0) (mCons (mVar 2) mNil))) mNil)))))) sNil) (sSeq (sIf (mB (m2 eqW (mVar 3) (mC (.int 11)))) (sRet (mTup (mCons (mC (.str "stop")) mNil))) sNil) (sSeq (sSet 5 (mCall (arW 3 (bn 6)) (mCons (mVar 0) (mCons (mVar 1) (mCons (m2 addW (mC (.int 1)) (mCall (arW 2 aj) (mCons (mVar 0) (mCons (mC (.int 4)) mNil)))) mNil))))) (sRet (mTup (mCons (mC (.str "table")) (mCons (mVar 5) (mCons (mCall gH (mCons (mTl (mComp [] (mSrcA (mCons (m2 addW (mC (.int 1)) (mCall (arW 2 aj) (mCons (mVar 0) (mCons (mC (.int 6)) mNil)))) mNil) rng1) (tgN 0) mYes (mCall (arW 2 aj) (mCons (mVar 2) (mCons (mVar 4) mNil))) 2)) mNil)) mNil)))))))))))
def eZ:List W->M W:=runF 6 gY
def eU:Env'->M Fl:=(sSeq (sSet 1 (mCall (arW 2 aj) (mCons (mVar 0) (mCons (mC (.int 8)) mNil)))) (sSeq (sIf (mB (m2 eqW (mVar 1) (mC (.int 0)))) (sRet (mCall (arW 2 aj) (mCons (mVar 0) (mCons (m2 powW (mC (.int 10)) (mC (.int 30))) mNil)))) sNil) (sSeq (sIf (mB (m2 eqW (mVar 1) (mC (.int 1)))) (sRet (m1 negW (mCall (arW 2 aj) (mCons (mVar 0) (mCons (m2 powW (mC (.int 10)) (mC (.int 30))) mNil))))) sNil) (sSeq (sIf (mB (m2 eqW (mVar 1) (mC (.int 2)))) (sRet (m2 addW (mC (.int 999998)) (mCall (arW 2 aj) (mCons (mVar 0) (mCons (mC (.int 5)) mNil))))) sNil) (sRet (m2 subW (mCall (arW 2 aj) (mCons (mVar 0) (mCons (mC (.int 12)) mNil))) (mC (.int 3))))))))
def dm:List W->M W:=runF 2 eU
def eJ:Env'->M Fl:=(sSeq (sSet 1 (mCall (arW 2 dM) (mCons (mCall (arW 1 aU) (mCons (mCall (arW 2 aW) (mCons (mVar 0) (mCons (mC (.int 0)) mNil))) mNil)) (mCons (mC (.int 14)) mNil)))) (sSeq (sSet 2 (mCall (arW 1 aU) (mCons (mCall (arW 2 aW) (mCons (mVar 0) (mCons (mC (.int 1)) mNil))) mNil))) (sSeq (sSet 3 (mNew (lenG mNil))) (sSeq (sFor (mSrcA (mCons (mCall (arW 2 aj) (mCons (mVar 2) (mCons (mC (.int 5)) mNil))) mNil) rng1) (tgN 4) (sEx (mMeth isL bJ (mVar 3) (mCons (mTup (mCons (m2 ixW (mVar 1) (mVar 4)) (mCons (mCall (arW 2 aj) (mCons (mVar 2) (mCons (m2 ixW (mTl (lenG (mCons (mC (.int 4)) (mCons (mC (.int 1000)) mNil)))) (mCall (arW 2 aj) (mCons (mVar 2) (mCons (mC (.int 2)) mNil)))) mNil))) mNil))) mNil)))) (sSeq (sSet 5 (mCall (arW 2 aj) (mCons (mVar 2) (mCons (mC (.int 14)) mNil)))) (sSeq (sSet 6 (m2 addW (mC (.int 1)) (mCall (arW 2 aj) (mCons (mVar 2) (mCons (mC (.int 10)) mNil))))) (sSeq (sSet 7 (mNew (lenG mNil))) (sSeq (sFor (mSrcA (mCons (mVar 6) mNil) rng1) (tgN 4) (sSeq (sSet 8 (mCall (arW 1 aU) (mCons (mCall (arW 2 aj) (mCons (mVar 2) (mCons (m2 powW (mC (.int 10)) (mC (.int 40))) mNil))) mNil))) (sSeq (sSet 9 (mCall (arW 3 eZ) (mCons (mVar 8) (mCons (mVar 3) (mCons (mVar 6) mNil))))) (sSeq (sSet 10 (mNew (mComp [] (mSrcA (mCons (mCall (arW 2 aj) (mCons (mVar 8) (mCons (mC (.int 3)) mNil))) mNil) rng1) (tgN 0) mYes (mCall (arW 2 bm) (mCons (mVar 10) (mCons (mVar 5) mNil))) 2))) (sEx (mMeth isL bJ (mVar 7) (mCons (mTup (mCons (m2 ixW (mVar 1) (m2 modW (m2 addW (mVar 5) (mVar 4)) (mC (.int 14)))) (mCons (mVar 10) (mCons (mVar 9) mNil)))) mNil))))))) (sRet (mTup (mCons (m1 iceW (mVar 3)) (mCons (m1 iceW (mVar 7)) mNil))))))))))))
def dz:List W->M W:=runF 11 eJ
def eW:Env'->M Fl:=(sSeq (sUnp (tgT [2,3]) (mVar 1)) (sSeq (sSet 4 (mCall (arW 1 aU) (mCons (mCall (arW 2 aW) (mCons (mVar 0) (mCons (mC (.int 2)) mNil))) mNil))) (sSeq (sSet 5 (m3 slW (mVar 0) (mPart (mC (.int 3))) (mPart (mC (.int 63))))) (sSeq (sSet 6 (mCall (arW 2 aj) (mCons (mVar 4) (mCons (m2 addW (mCall lenW (mCons (mVar 5) mNil)) (mC (.int 1))) mNil)))) (sSeq (sFor (mSrc (m3 slW (mVar 5) aP (mPart (mVar 6))) srcL) (tgN 7) (sSeq (sSet 8 (mCall (arW 1 aU) (mCons (mVar 7) mNil))) (sSeq (sSet 9 (m2 ixW (m2 ixW (mVar 3) (mCall (arW 2 aj) (mCons (mVar 8) (mCons (mCall lenW (mCons (mVar 3) mNil)) mNil)))) (mC (.int 1)))) (sIf (mB (m2 ltW (mCall lenW (mCons (mVar 9) mNil)) (mC (.int 8)))) (sEx (mMeth isL iC (mVar 9) (mCons (mCall (arW 2 aj) (mCons (mVar 8) (mCons (m2 addW (mCall lenW (mCons (mVar 9) mNil)) (mC (.int 1))) mNil))) (mCons (mCall (arW 2 bm) (mCons (mVar 8) (mCons (mVar 2) mNil))) mNil)))) sNil)))) (sSeq (sSet 5 (m2 addW (m3 slW (mVar 5) (mPart (mVar 6)) aP) (mTl (mComp [] (mSrcA (mCons (mCall (arW 2 aj) (mCons (mVar 4) (mCons (mC (.int 6)) mNil))) mNil) rng1) (tgN 0) mYes (mCall (arW 2 aj) (mCons (mVar 6) (mCons (m2 powW (mC (.int 10)) (mC (.int 40))) mNil))) 2)))) (sRet (mTl (mComp [] (mSrc (mVar 5) srcL) (tgN 0) mYes (mCall (arW 1 dm) (mCons (mCall (arW 1 aU) (mCons (mVar 0) mNil)) mNil)) 2)))))))))
def dW:List W->M W:=runF 10 eW
def eV:Env'->M Fl:=(sSeq (sSet 2 (mTl (listL (mCons (mVar 1) mNil)))) (sSeq (sSet 3 (mNew (lenG mNil))) (sSeq (sFor (mSrcA (mCons (mCall (arW 2 aj) (mCons (mVar 0) (mCons (mC (.int 7)) mNil))) mNil) rng1) (tgN 4) (sSeq (sSet 5 (mCall (arW 2 aj) (mCons (mVar 0) (mCons (m2 addW (m2 ixW (mTl (lenG (mCons (mCall lenW (mCons (mVar 2) mNil)) (mCons (mCall minW (mCons (mCall lenW (mCons (mVar 2) mNil)) (mCons (mC (.int 4)) mNil))) mNil)))) (m2 modW (mVar 4) (mC (.int 2)))) (mC (.int 1))) mNil)))) (sSeq (sEx (mMeth isL bJ (mVar 3) (mCons (m3 slW (mVar 2) aP (mPart (mVar 5))) mNil))) (sSet 2 (m3 slW (mVar 2) (mPart (mVar 5)) aP))))) (sSeq (sIf (mB (m2 eqW (mCall (arW 2 aj) (mCons (mVar 0) (mCons (mC (.int 2)) mNil))) (mC (.int 0)))) (sEx (mMeth isL bJ (mVar 3) (mCons (mVar 2) mNil))) sNil) (sSeq (sIf (mAnd (mB (m2 neW (mVar 3) (mTl (lenG mNil)))) (mB (m2 eqW (mCall (arW 2 aj) (mCons (mVar 0) (mCons (mC (.int 3)) mNil))) (mC (.int 0))))) (sEx (mMeth isL bJ (mVar 3) (mCons (mTl (listL (mCons (m2 ixW (mVar 3) (mCall (arW 2 aj) (mCons (mVar 0) (mCons (mCall lenW (mCons (mVar 3) mNil)) mNil)))) mNil))) mNil))) sNil) (sRet (m1 iceW (mVar 3))))))))
def dU:List W->M W:=runF 6 eV
def fE:Env'->M Fl:=(sRet (mAndV (mCall isiW (mCons (mVar 0) (mCons (mC (.ty "int")) mNil))) (mNotV (mCall isiW (mCons (mVar 0) (mCons (mC (.ty "bool")) mNil))))))
def eP:List W->M W:=runF 1 fE
def fG:Env'->M Fl:=(sSeq (sSet 2 (mNew (mComp [] (mSrcA (mCons (mC (.int 1)) (mCons (mVar 1) mNil)) rng2) (tgN 0) mYes (mVar 0) 2))) (sSeq (sSet 3 (mNew (lenG (mCons (mC (.int 0)) mNil)))) (sSeq (bM (mB (m2 neW (mVar 2) (mTl (lenG mNil)))) (sEx (mMeth isL bJ (mVar 3) (mCons (mMeth isL jX (mVar 2) (mCons (mCall (arW 2 aj) (mCons (mVar 0) (mCons (mCall lenW (mCons (mVar 2) mNil)) mNil))) mNil)) mNil))) 12) (sRet (mCall gH (mCons (mVar 3) mNil))))))
def dL:List W->M W:=runF 4 fG
def gu:Env'->M Fl:=(sSeq (sFor (mSrcA (mCons (m2 subW (mCall lenW (mCons (mVar 0) mNil)) (mC (.int 1))) mNil) rng1) (tgN 2) (sIf (mB (m2 eqW (m2 ixW (mVar 0) (mVar 2)) (mVar 1))) (sRet (m2 ixW (mVar 0) (m2 addW (mVar 2) (mC (.int 1))))) sNil)) (sRet (m1 negW (mC (.int 1)))))
def dc:List W->M W:=runF 3 gu
def fF:Env'->M Fl:=(sSeq (sSet 5 (m2 ixW (m2 ixW (mVar 0) (mVar 2)) (mC (.int 2)))) (sSeq (sSet 6 (mCall (arW 2 dc) (mCons (mVar 1) (mCons (mVar 2) mNil)))) (sSeq (sIf (mB (m2 eqW (m2 ixW (mVar 5) (mC (.int 0))) (mC (.str "table")))) (sRet (mTup (mCons (mC (.int 1)) (mCons (mC (.int 1)) mNil)))) sNil) (sSeq (sSet 7 (mCall intW (mCons (m2 neW (mVar 4) (mVar 6)) mNil))) (sSeq (sIf (mOr (mB (m2 eqW (m2 ixW (mVar 5) (mC (.int 0))) (mC (.str "go")))) (mB (m2 eqW (m2 ixW (mVar 5) (mC (.int 4))) (m2 ixW (mVar 5) (mC (.int 5)))))) (sRet (mTup (mCons (mVar 7) (mCons (mVar 7) mNil)))) sNil) (sRet (mTup (mCons (m2 addW (mC (.int 1)) (mCall intW (mCons (mAndV (m2 eqW (mVar 3) (mC (.int 1))) (mAndV (m2 neW (mVar 6) (m2 ixW (mVar 5) (mC (.int 4)))) (m2 neW (mVar 6) (m2 ixW (mVar 5) (mC (.int 5)))))) mNil))) (mCons (mVar 7) mNil)))))))))
def dJ:List W->M W:=runF 8 fF
def dC:Env'->M Fl:=(sSeq (sSet 4 (mC (.int 0))) (sSeq (sSet 5 (mC (.int 0))) (sSeq (sSet 6 (mC (.int 0))) (sSeq (sFor (mSrc (m2 ixW (mVar 2) (mC (.int 2))) srcL) (tgK [7,8,9]) (sSeq (sUnp (tgT [10,11]) (mCall (arW 5 dJ) (mCons (m2 ixW (mVar 0) (mC (.int 1))) (mCons (mVar 1) (mCons (mVar 7) (mCons (mVar 8) (mCons (mVar 9) mNil))))))) (sSeq (sSet 4 (m2 addW (m2 addW (mVar 4) (mCall lenW (mCons (m2 ixW (m2 ixW (m2 ixW (mVar 0) (mC (.int 1))) (mVar 7)) (mC (.int 1))) mNil))) (mVar 10))) (sSeq (sSet 5 (m2 addW (mVar 5) (mVar 11))) (sSet 6 (mVar 9)))))) (sSeq (sIf (mB (m2 eqW (m2 ixW (mVar 2) (mC (.int 1))) (mTup (mCons (mC (.str "stop")) mNil)))) (sSet 4 (m2 addW (m2 addW (mVar 4) (mCall lenW (mCons (m2 ixW (m2 ixW (m2 ixW (mVar 0) (mC (.int 1))) (mVar 6)) (mC (.int 1))) mNil))) (mC (.int 1)))) sNil) (sSeq (sIf (mB (m2 eqW (m2 ixW (mVar 2) (mC (.int 1))) (mTup (mCons (mC (.str "out")) mNil)))) (sSet 4 (m2 addW (mVar 4) (mCall lenW (mCons (m2 ixW (m2 ixW (m2 ixW (mVar 0) (mC (.int 1))) (mVar 6)) (mC (.int 1))) mNil)))) sNil) (sRet (mTup (mCons (mVar 4) (mCons (mVar 5) mNil))))))))))
def cN:List W->M W:=runF 12 dC
def eK:Env'->M Fl:=(sSeq (sSet 4 (mCall (arW 1 gO) (mCons (mVar 0) mNil))) (sSeq (sSet 5 (mCall (arW 3 fS) (mCons (mVar 0) (mCons (mTl (mComp [] (mSrc (mVar 2) srcL) (tgN 0) mYes (mTl (listL (mCons (mVar 0) mNil))) 2)) (mCons (mVar 3) mNil))))) (sSeq (sSet 6 (mC (.int 0))) (sSeq (sFor (mSrcA (mCons (mCall lenW (mCons (mVar 4) mNil)) mNil) rng1) (tgN 7) (sSeq (sUnp (tgT [8,9,10]) (m1 unkW (m2 ixW (mVar 4) (mVar 7)))) (sIf (mOr (mB (m2 eqW (m2 ixW (m2 ixW (m2 ixW (m2 ixW (mVar 0) (mC (.int 1))) (mVar 8)) (mC (.int 2))) (mC (.int 0))) (mC (.str "table")))) (mB (m2 neW (mCall (arW 2 dc) (mCons (mVar 1) (mCons (mVar 8) mNil))) (mVar 10)))) (sSet 6 (m2 addW (mVar 6) (m2 ixW (mVar 5) (mVar 7)))) sNil))) (sRet (mVar 6))))))
def dA:List W->M W:=runF 11 eK
def p6:Env'->M Fl:=(sSeq (sSet 1 (mCall (arW 1 dz) (mCons (mVar 0) mNil))) (sSeq (sSet 2 (mCall (arW 2 dW) (mCons (mVar 0) (mCons (mVar 1) mNil)))) (sSeq (sSet 3 (mCall (arW 1 aU) (mCons (m2 addW (m2 fdivW (mCall (arW 2 aW) (mCons (mVar 0) (mCons (mC (.int 2)) mNil))) (mC (.int 3))) (mC (.int 11))) mNil))) (sSeq (sSet 4 (m2 addW (mC (.int 1)) (mCall (arW 2 aj) (mCons (mVar 3) (mCons (mC (.int 25)) mNil))))) (sSeq (sSet 5 (mCall (arW 2 dU) (mCons (mVar 3) (mCons (mVar 2) mNil)))) (sSeq (sSet 6 (mCall (arW 2 dL) (mCons (mVar 3) (mCons (mCall lenW (mCons (m2 ixW (mVar 1) (mC (.int 1))) mNil)) mNil)))) (sSeq (sSet 7 (mCall (arW 2 kK) (mCons (mVar 1) (mCons (mVar 6) mNil)))) (sSeq (sSet 8 (mC (.int 0))) (sSeq (sFor (mSrc (mVar 5) srcL) (tgN 9) (sSeq (sSet 10 (m2 ixW (mCall (arW 4 cN) (mCons (mVar 1) (mCons (mVar 6) (mCons (mCall (arW 3 kJ) (mCons (mVar 1) (mCons (mTl (listL (mCons (mVar 9) mNil))) (mCons (mVar 4) mNil)))) (mCons (mVar 4) mNil))))) (mC (.int 0)))) (sIf (mB (m2 gtW (mVar 10) (mC (.int 0)))) (sSeq (sSet 11 (mCall (arW 4 fk) (mCons (mTl (listL (mCons (m2 ixW (mVar 1) (mC (.int 0))) mNil))) (mCons (mTl (listL (mCons (mVar 7) mNil))) (mCons (mTl (listL (mCons (mVar 9) mNil))) (mCons (mVar 10) mNil)))))) (sSeq (sIf (mNot (mB (mCall (arW 1 eP) (mCons (m2 ixW (mVar 11) (mC (.int 2))) mNil)))) (sRet (mC (.bl false))) sNil) (sSet 8 (m2 addW (mVar 8) (m2 ixW (mVar 11) (mC (.int 2))))))) sNil))) (sRet (m2 eqW (mVar 8) (mCall (arW 4 dA) (mCons (mVar 1) (mCons (mVar 6) (mCons (mVar 5) (mCons (mVar 4) mNil))))))))))))))))
def lK:List W->M W:=runF 12 p6
section
variable {P:Program}{w:World}{K:PySem.W.Frag}{mg:Str->Option Value}{base:Heap}{f:Addr}{fd:FuncData}
theorem sc_worth:FnScope ["e", "values", "left", "right"] ["e", "values"] (aq gU):=⟨rfl,rfl,rfl,by decide+kernel,rfl,by decide+kernel,by decide+kernel⟩
theorem nK (F:Fun K "worth" "worth" gU f fd)(B:Binds K fd ["e", "values"] [])(Mf:mg "worth"=some (.ref f)): ∀n:Nat,CG P w K mg base (1+n) "worth" f fd ["e", "values"] 2 (cy n)
 |0=>⟨uH fun _ _=>rfl,B,F.kp,Mf⟩
 |n+1=>by
  have C_worth:=nK F B Mf n
  refine⟨bu (g:=fD (cy n)) F sc_worth rfl rfl rfl fun cdv A outer s H E hr=>?_,B,F.kp,Mf⟩
  have hr:Room (1+n) _:=hr
  have hu:=bt hr
  have hu6:=hr.units
  exact (ag (aS (aE aZ (aQ hu6) (ar hu (ae 0) ah (fun _ _=>rfl)) aA (aB _)) (ap (az (ar hu (ae 0) ah (fun _ _=>rfl)))) aC)
   (ag (aS (aE aZ (aQ hu6) (ar hu (ae 0) ah (fun _ _=>rfl)) aA (aB _)) (ap (az (ar hu (ae 1) (ar hu (ae 0) ah (fun _ _=>rfl)) (fun _ _=>rfl)))) aC)
   (ag (au (i:=2) sc_worth.nd rfl (Or.inl rfl) (ay (ps:=["e", "values"]) C_worth (hr.mono (by omega)) (ab (ar hu (ae 0) ah (fun _ _=>rfl)) (ab (ae 1) af ai) bj) (he:=bj) (hpl:=(ak ai ao))))
   (ag (au (i:=3) sc_worth.nd rfl (Or.inl rfl) (ay (ps:=["e", "values"]) C_worth (hr.mono (by omega)) (ab (ar hu (ae 0) ah (fun _ _=>rfl)) (ab (ae 1) af ai) bj) (he:=bj) (hpl:=(ak ai ao))))
   (ag (aS (aE aZ (aQ hu6) (ar hu (ae 0) ah (fun _ _=>rfl)) aA (aB _)) (ap (az (aV (ae 2) (ae 3)))) aC)
   (ag (aS (aE aZ (aQ hu6) (ar hu (ae 0) ah (fun _ _=>rfl)) aA (aB _)) (ap (az (iZ (ae 2) (ae 3)))) aC)
   (ap (az (kB (ae 2) (ae 3))))))))))
theorem im:FnScope ["self", "boxes", "numbers"] ["self", "boxes", "numbers"] (aq cb):=⟨rfl,rfl,rfl,by decide+kernel,rfl,by decide+kernel,by decide+kernel⟩
theorem iu {c_Doing:Addr}(y_dict:mg "dict"=none)(y_list:mg "list"=none)(n_Doing:nsIn K mainGlobals "Doing"=some (some (.ref c_Doing)))(cl_Doing:Cls K c_Doing)(na_Doing_held:NoAttr K c_Doing "held")(na_Doing_numbers:NoAttr K c_Doing "numbers")(na_Doing_said:NoAttr K c_Doing "said")(na_Doing_taken:NoAttr K c_Doing "taken")(F:Fun K "__init__" "Doing.__init__" cb f fd)(B:Binds K fd ["self", "boxes", "numbers"] [])(Me:Meth K c_Doing "__init__" f):CGm P w K mg base 1 c_Doing "__init__" f fd ["self", "boxes", "numbers"] 3 aX:=by
 refine⟨bu (g:=di) F im rfl rfl rfl fun cdv A outer s H E hr=>?_,B,Me⟩
 have hu:=bt hr
 have hu6:=hr.units
 exact (ag (mw n_Doing cl_Doing na_Doing_held (ae 0) (t0 rfl y_dict (ab (ae 1) af ai)))
  (ag (mw n_Doing cl_Doing na_Doing_numbers (ae 0) (ci (fB y_list (ab (ae 2) af ai) (he:=ai) (hpl:=ao))))
  (ag (mw n_Doing cl_Doing na_Doing_taken (ae 0) ah)
  (ap (mw n_Doing cl_Doing na_Doing_said (ae 0) (fg (bS af)))))))
theorem gB:FnScope ["self", "row"] ["self", "row"] (aq bo):=⟨rfl,rfl,rfl,by decide+kernel,rfl,by decide+kernel,by decide+kernel⟩
theorem gD {c_Doing:Addr}(y_len:mg "len"=none)(n_Doing:nsIn K mainGlobals "Doing"=some (some (.ref c_Doing)))(cl_Doing:Cls K c_Doing)(na_Doing_numbers:NoAttr K c_Doing "numbers")(na_Doing_taken:NoAttr K c_Doing "taken")(F:Fun K "lacks_number" "Doing.lacks_number" bo f fd)(B:Binds K fd ["self", "row"] [])(Me:Meth K c_Doing "lacks_number" f):CGm P w K mg base 1 c_Doing "lacks_number" f fd ["self", "row"] 2 aN:=by
 refine⟨bu (g:=cw) F gB rfl rfl rfl fun cdv A outer s H E hr=>?_,B,Me⟩
 have hu:=bt hr
 have hu6:=hr.units
 exact (ap (az (mD (gc aZ (aQ hu6) (ar hu (ae 1) ah (fun _ _=>rfl)) aA (aB _)) (o5 (gc aZ (aQ hu6) (cI n_Doing cl_Doing na_Doing_taken (ae 0)) (bT y_len (ab (cI n_Doing cl_Doing na_Doing_numbers (ae 0)) af ft) (he:=ft) (hpl:=ao)) (aB _))))))
theorem gC:FnScope ["self", "statement"] ["self", "statement"] (aq bp):=⟨rfl,rfl,rfl,by decide+kernel,rfl,by decide+kernel,by decide+kernel⟩
theorem gE {a_worth:Addr}{d_worth:FuncData}{c_Doing:Addr}{t_BOX_RANGE:Tok}(c_BOX_RANGE:mg "BOX_RANGE"=some (.int 1000000 t_BOX_RANGE))(n_Doing:nsIn K mainGlobals "Doing"=some (some (.ref c_Doing)))(cl_Doing:Cls K c_Doing)(na_Doing_held:NoAttr K c_Doing "held")(na_Doing_numbers:NoAttr K c_Doing "numbers")(na_Doing_said:NoAttr K c_Doing "said")(na_Doing_taken:NoAttr K c_Doing "taken")(C_worth:CG P w K mg base 7 "worth" a_worth d_worth ["e", "values"] 2 (cy 6))(F:Fun K "do_statement" "Doing.do_statement" bp f fd)(B:Binds K fd ["self", "statement"] [])(Me:Meth K c_Doing "do_statement" f):CGm P w K mg base 8 c_Doing "do_statement" f fd ["self", "statement"] 2 aR:=by
 refine⟨bu (g:=cx) F gC rfl rfl rfl fun cdv A outer s H E hr=>?_,B,Me⟩
 have hu:=bt hr
 have hu6:=hr.units
 exact (ap (aS (aE aZ (aQ hu6) (ar hu (ae 1) ah (fun _ _=>rfl)) aA (aB _)) (ap (fN hu (cI n_Doing cl_Doing na_Doing_held (ae 0)) (ar hu (ae 1) ah (fun _ _=>rfl)) (eD (ay (ps:=["e", "values"]) C_worth (hr.mono (by omega)) (ab (ar hu (ae 1) ah (fun _ _=>rfl)) (ab (cI n_Doing cl_Doing na_Doing_held (ae 0)) af ft) bj) (he:=bj) (hpl:=(ak ft ao))) (my (w:=.int 1000000) (v:=.int 1000000) rfl c_BOX_RANGE ⟨_,rfl⟩ (fun o=>rv_int.mpr rfl))))) (ap (aS (aE aZ (aQ hu6) (ar hu (ae 1) ah (fun _ _=>rfl)) aA (aB _)) (ap (cK (cS (cI n_Doing cl_Doing na_Doing_said (ae 0)) (ab (ay (ps:=["e", "values"]) C_worth (hr.mono (by omega)) (ab (ar hu (ae 1) ah (fun _ _=>rfl)) (ab (cI n_Doing cl_Doing na_Doing_held (ae 0)) af ft) bj) (he:=bj) (hpl:=(ak ft ao))) af bc)))) (ag (fN hu (cI n_Doing cl_Doing na_Doing_held (ae 0)) (ar hu (ae 1) ah (fun _ _=>rfl)) (eD (ar hu (cI n_Doing cl_Doing na_Doing_numbers (ae 0)) (cI n_Doing cl_Doing na_Doing_taken (ae 0)) (fun _ _=>rfl)) (my (w:=.int 1000000) (v:=.int 1000000) rfl c_BOX_RANGE ⟨_,rfl⟩ (fun o=>rv_int.mpr rfl))))
  (ap (qT n_Doing cl_Doing na_Doing_taken (ae 0) ah)))))))
theorem jT:FnScope ["self", "sign", "left", "right"] ["self", "sign", "left", "right"] (aq cQ):=⟨rfl,rfl,rfl,by decide+kernel,rfl,by decide+kernel,by decide+kernel⟩
theorem kd {a_worth:Addr}{d_worth:FuncData}{c_Doing:Addr}(n_Doing:nsIn K mainGlobals "Doing"=some (some (.ref c_Doing)))(cl_Doing:Cls K c_Doing)(na_Doing_held:NoAttr K c_Doing "held")(C_worth:CG P w K mg base 7 "worth" a_worth d_worth ["e", "values"] 2 (cy 6))(F:Fun K "holds" "Doing.holds" cQ f fd)(B:Binds K fd ["self", "sign", "left", "right"] [])(Me:Meth K c_Doing "holds" f):CGm P w K mg base 8 c_Doing "holds" f fd ["self", "sign", "left", "right"] 4 bH:=by
 refine⟨bu (g:=eM) F jT rfl rfl rfl fun cdv A outer s H E hr=>?_,B,Me⟩
 have hu:=bt hr
 have hu6:=hr.units
 exact (ag (aS (aE aZ (aQ hu6) (ae 1) aA (aB _)) (ap (az (gc hJ fI (ay (ps:=["e", "values"]) C_worth (hr.mono (by omega)) (ab (ae 2) (ab (cI n_Doing cl_Doing na_Doing_held (ae 0)) af ft) ai) (he:=ai) (hpl:=(ak ft ao))) (ay (ps:=["e", "values"]) C_worth (hr.mono (by omega)) (ab (ae 3) (ab (cI n_Doing cl_Doing na_Doing_held (ae 0)) af ft) ai) (he:=ai) (hpl:=(ak ft ao))) (aB _)))) aC)
  (ap (az (gc aZ (aQ hu6) (ay (ps:=["e", "values"]) C_worth (hr.mono (by omega)) (ab (ae 2) (ab (cI n_Doing cl_Doing na_Doing_held (ae 0)) af ft) ai) (he:=ai) (hpl:=(ak ft ao))) (ay (ps:=["e", "values"]) C_worth (hr.mono (by omega)) (ab (ae 3) (ab (cI n_Doing cl_Doing na_Doing_held (ae 0)) af ft) ai) (he:=ai) (hpl:=(ak ft ao))) (aB _)))))
theorem jo:FnScope ["self", "e", "many"] ["self", "e", "many"] (aq cH):=⟨rfl,rfl,rfl,by decide+kernel,rfl,by decide+kernel,by decide+kernel⟩
theorem jq {a_worth:Addr}{d_worth:FuncData}{c_Doing:Addr}(n_Doing:nsIn K mainGlobals "Doing"=some (some (.ref c_Doing)))(cl_Doing:Cls K c_Doing)(na_Doing_held:NoAttr K c_Doing "held")(C_worth:CG P w K mg base 7 "worth" a_worth d_worth ["e", "values"] 2 (cy 6))(F:Fun K "chosen" "Doing.chosen" cH f fd)(B:Binds K fd ["self", "e", "many"] [])(Me:Meth K c_Doing "chosen" f):CGm P w K mg base 8 c_Doing "chosen" f fd ["self", "e", "many"] 3 cc:=by
 refine⟨bu (g:=dS) F jo rfl rfl rfl fun cdv A outer s H E hr=>?_,B,Me⟩
 have hu:=bt hr
 have hu6:=hr.units
 exact (ap (az (eD (ay (ps:=["e", "values"]) C_worth (hr.mono (by omega)) (ab (ae 1) (ab (cI n_Doing cl_Doing na_Doing_held (ae 0)) af ft) ai) (he:=ai) (hpl:=(ak ft ao))) (ae 2))))
theorem nt:FnScope ["end"] ["end"] (aq dY):=⟨rfl,rfl,rfl,by decide+kernel,rfl,by decide+kernel,by decide+kernel⟩
theorem nL (F:Fun K "sides_of" "sides_of" dY f fd)(B:Binds K fd ["end"] [])(Mf:mg "sides_of"=some (.ref f)):CG P w K mg base 1 "sides_of" f fd ["end"] 1 cE:=by
 refine⟨bu (g:=eE) F nt rfl rfl rfl fun cdv A outer s H E hr=>?_,B,F.kp,Mf⟩
 have hu:=bt hr
 have hu6:=hr.units
 exact (ag (aS (aE aZ (aQ hu6) (ar hu (ae 0) ah (fun _ _=>rfl)) aA (aB _)) (ap (az (aM (ab (ar hu (ae 0) ah (fun _ _=>rfl)) af bj)))) aC)
  (ag (aS (aE aZ (aQ hu6) (ar hu (ae 0) ah (fun _ _=>rfl)) aA (aB _)) (ap (az (aM (ab (ar hu (ae 0) ah (fun _ _=>rfl)) (ab (ar hu (ae 0) ah (fun _ _=>rfl)) af bj) bj)))) aC)
  (ag (aS (aE aZ (aQ hu6) (ar hu (ae 0) ah (fun _ _=>rfl)) aA (aB _)) (ap (az (ar hu (ae 0) ah (fun _ _=>rfl)))) aC)
  (ap (az (aM af))))))
theorem kP:FnScope ["doing", "end"] ["doing", "end"] (aq de):=⟨rfl,rfl,rfl,by decide+kernel,rfl,by decide+kernel,by decide+kernel⟩
theorem kQ {a_Doing_holds:Addr}{d_Doing_holds:FuncData}{a_Doing_chosen:Addr}{d_Doing_chosen:FuncData}{c_Doing:Addr}(y_len:mg "len"=none)(n_Doing:nsIn K mainGlobals "Doing"=some (some (.ref c_Doing)))(cl_Doing:Cls K c_Doing)(C_Doing_holds:CGm P w K mg base 8 c_Doing "holds" a_Doing_holds d_Doing_holds ["self", "sign", "left", "right"] 4 bH)(C_Doing_chosen:CGm P w K mg base 8 c_Doing "chosen" a_Doing_chosen d_Doing_chosen ["self", "e", "many"] 3 cc)(F:Fun K "side_taken" "side_taken" de f fd)(B:Binds K fd ["doing", "end"] [])(Mf:mg "side_taken"=some (.ref f)):CG P w K mg base 9 "side_taken" f fd ["doing", "end"] 2 dj:=by
 refine⟨bu (g:=eT) F kP rfl rfl rfl fun cdv A outer s H E hr=>?_,B,F.kp,Mf⟩
 have hu:=bt hr
 have hu6:=hr.units
 exact (ag (aS (aE aZ (aQ hu6) (ar hu (ae 1) ah (fun _ _=>rfl)) aA (aB _)) (ap (az (iA (ie (fZ (ps:=["self", "sign", "left", "right"]) n_Doing cl_Doing C_Doing_holds (hr.mono (by omega)) (ae 0) (ab (ar hu (ae 1) ah (fun _ _=>rfl)) (ab (ar hu (ae 1) ah (fun _ _=>rfl)) (ab (ar hu (ae 1) ah (fun _ _=>rfl)) af bj) bj) bj))) ah ah))) aC)
  (ag (aS (aE aZ (aQ hu6) (ar hu (ae 1) ah (fun _ _=>rfl)) aA (aB _)) (ap (az (fZ (ps:=["self", "e", "many"]) n_Doing cl_Doing C_Doing_chosen (hr.mono (by omega)) (ae 0) (ab (ar hu (ae 1) ah (fun _ _=>rfl)) (ab (bT y_len (ab (ar hu (ae 1) ah (fun _ _=>rfl)) af bj) (he:=bj) (hpl:=ao)) af bc) bj)))) aC)
  (ap (az ah))))
theorem sc_do_statements:FnScope ["doing", "statements", "statement"] ["doing", "statements"] (aq cp):=⟨rfl,rfl,rfl,by decide+kernel,rfl,by decide+kernel,by decide+kernel⟩
theorem iV {a_Doing_lacks_number:Addr}{d_Doing_lacks_number:FuncData}{a_Doing_do_statement:Addr}{d_Doing_do_statement:FuncData}{c_Doing:Addr}(n_Doing:nsIn K mainGlobals "Doing"=some (some (.ref c_Doing)))(cl_Doing:Cls K c_Doing)(C_Doing_lacks_number:CGm P w K mg base 1 c_Doing "lacks_number" a_Doing_lacks_number d_Doing_lacks_number ["self", "row"] 2 aN)(C_Doing_do_statement:CGm P w K mg base 8 c_Doing "do_statement" a_Doing_do_statement d_Doing_do_statement ["self", "statement"] 2 aR)(F:Fun K "do_statements" "do_statements" cp f fd)(B:Binds K fd ["doing", "statements"] [])(Mf:mg "do_statements"=some (.ref f)):CG P w K mg base 9 "do_statements" f fd ["doing", "statements"] 2 cq:=by
 refine⟨bu (g:=dD) F sc_do_statements rfl rfl rfl fun cdv A outer s H E hr=>?_,B,F.kp,Mf⟩
 have hu:=bt hr
 have hu6:=hr.units
 exact (ag (db PassesOwn.never rfl (eF (ae 1)) (aO (i:=2) sc_do_statements.nd rfl (Or.inl rfl)) (bG 3 2 (by decide)) (ag (aS (ie (fZ (ps:=["self", "row"]) n_Doing cl_Doing C_Doing_lacks_number (hr.mono (by omega)) (ae 0) (ab (ae 2) af ai))) (ap (az t4)) aC)
  (ap (cK (fZ (ps:=["self", "statement"]) n_Doing cl_Doing C_Doing_do_statement (hr.mono (by omega)) (ae 0) (ab (ae 2) af ai))))))
  (ap (az t4)))
theorem sc_run:FnScope ["program", "numbers", "bound", "doing", "went", "place", "block", "end", "side", "behind"] ["program", "numbers", "bound"] (aq lx):=⟨rfl,rfl,rfl,by decide+kernel,rfl,by decide+kernel,by decide+kernel⟩
theorem xZ {a_Doing___init__:Addr}{d_Doing___init__:FuncData}{a_do_statements:Addr}{d_do_statements:FuncData}{a_side_taken:Addr}{d_side_taken:FuncData}{a_sides_of:Addr}{d_sides_of:FuncData}{c_Doing:Addr}(y_len:mg "len"=none)(n_Doing:nsIn K mainGlobals "Doing"=some (some (.ref c_Doing)))(cl_Doing:Cls K c_Doing)(na_Doing_said:NoAttr K c_Doing "said")(m_Doing:mg "Doing"=some (.ref c_Doing))(M_Doing:Mk K c_Doing a_Doing___init__)(C_Doing___init__:CGm P w K mg base 1 c_Doing "__init__" a_Doing___init__ d_Doing___init__ ["self", "boxes", "numbers"] 3 aX)(C_do_statements:CG P w K mg base 9 "do_statements" a_do_statements d_do_statements ["doing", "statements"] 2 cq)(C_side_taken:CG P w K mg base 9 "side_taken" a_side_taken d_side_taken ["doing", "end"] 2 dj)(C_sides_of:CG P w K mg base 1 "sides_of" a_sides_of d_sides_of ["end"] 1 cE)(F:Fun K "run" "run" lx f fd)(B:Binds K fd ["program", "numbers", "bound"] [])(Mf:mg "run"=some (.ref f)):CG P w K mg base 10 "run" f fd ["program", "numbers", "bound"] 3 kJ:=by
 refine⟨bu (g:=p5) F sc_run rfl rfl rfl fun cdv A outer s H E hr=>?_,B,F.kp,Mf⟩
 have hu:=bt hr
 have hu6:=hr.units
 exact (ag (au (i:=3) sc_run.nd rfl (Or.inl rfl) (pT (ps:=["self", "boxes", "numbers"]) M_Doing n_Doing C_Doing___init__.ok C_Doing___init__.bi (hr.mono (by omega)) m_Doing (ab (ar hu (ae 0) ah (fun _ _=>rfl)) (ab (ae 1) af ai) bj)))
  (ag (au (i:=4) sc_run.nd rfl (Or.inl rfl) (fg (bS af)))
  (ag (au (i:=5) sc_run.nd rfl (Or.inl rfl) ah)
  (ag (iw 27 PassesOwn.never (aE hJ fI (bT y_len (ab (ae 4) af ai) (he:=ai) (hpl:=ao)) (ae 2) (aB _)) (ag (au (i:=6) sc_run.nd rfl (Or.inl rfl) (ar hu (ar hu (ae 0) ah (fun _ _=>rfl)) (ae 5) (fun _ _=>rfl)))
  (ag (aS (tU (ie (ay (ps:=["doing", "statements"]) C_do_statements (hr.mono (by omega)) (ab (ae 3) (ab (ar hu (ae 6) ah (fun _ _=>rfl)) af bj) ai) (he:=ai) (hpl:=(ak bj ao))))) (ap (az (aM (ab (cI n_Doing cl_Doing na_Doing_said (ae 3)) (ab (aM (ab aA af aD)) (ab (ae 4) af ai) ik) ft)))) aC)
  (ag (au (i:=7) sc_run.nd rfl (Or.inl rfl) (ar hu (ae 6) ah (fun _ _=>rfl)))
  (ag (aS (aE aZ (aQ hu6) (ar hu (ae 7) ah (fun _ _=>rfl)) aA (aB _)) (ap (az (aM (ab (cI n_Doing cl_Doing na_Doing_said (ae 3)) (ab (aM (ab aA af aD)) (ab (ae 4) af ai) ik) ft)))) aC)
  (ag (au (i:=8) sc_run.nd rfl (Or.inl rfl) (ay (ps:=["doing", "end"]) C_side_taken (hr.mono (by omega)) (ab (ae 3) (ab (ae 7) af ai) ai) (he:=ai) (hpl:=(ak ai ao))))
  (ag (au (i:=9) sc_run.nd rfl (Or.inl rfl) (ar hu (ay (ps:=["end"]) C_sides_of (hr.mono (by omega)) (ab (ae 7) af ai) (he:=ai) (hpl:=ao)) (ae 8) (fun _ _=>rfl)))
  (ag (cK (cS (ae 4) (ab (wT (ab (ae 5) (ab (ae 8) (ab (ae 9) af ai) ai) ai)) af ik)))
  (ap (au (i:=5) sc_run.nd rfl (Or.inl rfl) (ae 9)))))))))))
  (ap (az (aM (ab (cI n_Doing cl_Doing na_Doing_said (ae 3)) (ab (aM (ab aA af aD)) (ab (ae 4) af ai) ik) ft))))))))
theorem sc_ways:FnScope ["program", "told", "place", "block", "side", "behind"] ["program"] (aq iN):=⟨rfl,rfl,rfl,by decide+kernel,rfl,by decide+kernel,by decide+kernel⟩
theorem vM {a_sides_of:Addr}{d_sides_of:FuncData}(y_enumerate:mg "enumerate"=none)(C_sides_of:CG P w K mg base 1 "sides_of" a_sides_of d_sides_of ["end"] 1 cE)(F:Fun K "ways" "ways" iN f fd)(B:Binds K fd ["program"] [])(Mf:mg "ways"=some (.ref f)):CG P w K mg base 2 "ways" f fd ["program"] 1 gO:=by
 refine⟨bu (g:=mP) F sc_ways rfl rfl rfl fun cdv A outer s H E hr=>?_,B,F.kp,Mf⟩
 have hu:=bt hr
 have hu6:=hr.units
 exact (ag (au (i:=1) sc_ways.nd rfl (Or.inl rfl) (fg (bS af)))
  (ag (db PassesOwn.never rfl (vX y_enumerate (ab (ar hu (ae 0) ah (fun _ _=>rfl)) af bj)) (hV rfl (bL (aO (i:=2) sc_ways.nd rfl (Or.inl rfl)) (bL (aO (i:=3) sc_ways.nd rfl (Or.inl rfl)) fV))) (iL 6 [2,3] (by decide)) (ap (db PassesOwn.never rfl (tV y_enumerate (ab (ay (ps:=["end"]) C_sides_of (hr.mono (by omega)) (ab (ar hu (ae 3) ah (fun _ _=>rfl)) af bj) (he:=bj) (hpl:=ao)) af bc)) (hV rfl (bL (aO (i:=4) sc_ways.nd rfl (Or.inl rfl)) (bL (aO (i:=5) sc_ways.nd rfl (Or.inl rfl)) fV))) (iL 6 [4,5] (by decide)) (ap (cK (cS (ae 1) (ab (wT (ab (ae 2) (ab (ae 4) (ab (ae 5) af ai) ai) ai)) af ik)))))))
  (ap (az (kC (ae 1))))))
theorem sc_counts:FnScope ["program", "inputs", "bound", "often", "way", "numbers"] ["program", "inputs", "bound"] (aq fM):=⟨rfl,rfl,rfl,by decide+kernel,rfl,by decide+kernel,by decide+kernel⟩
theorem qM {a_ways:Addr}{d_ways:FuncData}{a_run:Addr}{d_run:FuncData}(y_list:mg "list"=none)(C_ways:CG P w K mg base 2 "ways" a_ways d_ways ["program"] 1 gO)(C_run:CG P w K mg base 10 "run" a_run d_run ["program", "numbers", "bound"] 3 kJ)(F:Fun K "counts" "counts" fM f fd)(B:Binds K fd ["program", "inputs", "bound"] [])(Mf:mg "counts"=some (.ref f)):CG P w K mg base 11 "counts" f fd ["program", "inputs", "bound"] 3 fS:=by
 refine⟨bu (g:=iG) F sc_counts rfl rfl rfl fun cdv A outer s H E hr=>?_,B,F.kp,Mf⟩
 have hu:=bt hr
 have hu6:=hr.units
 exact (ag (au (i:=3) sc_counts.nd rfl (Or.inl rfl) tZ)
  (ag (db PassesOwn.never rfl (eF (ay (ps:=["program"]) C_ways (hr.mono (by omega)) (ab (ae 0) af ai) (he:=ai) (hpl:=ao))) (aO (i:=4) sc_counts.nd rfl (Or.inl rfl)) (bG 6 4 (by decide)) (ap (fN hu (ae 3) (ae 4) ah)))
  (ag (db PassesOwn.never rfl (eF (ae 1)) (aO (i:=5) sc_counts.nd rfl (Or.inl rfl)) (bG 6 5 (by decide)) (ap (db PassesOwn.never rfl (eF (ar hu (ay (ps:=["program", "numbers", "bound"]) C_run (hr.mono (by omega)) (ab (ae 0) (ab (ae 5) (ab (ae 2) af ai) ai) ai) (he:=ai) (hpl:=(ak ai (ak ai ao)))) ah (fun _ _=>rfl))) (aO (i:=4) sc_counts.nd rfl (Or.inl rfl)) (bG 6 4 (by decide)) (ap (vV hu (ae 3) (ae 4) ah)))))
  (ap (az (ci (vY rfl y_list (ae 3))))))))
theorem jQ:FnScope ["doing", "row"] ["doing", "row"] (aq cO):=⟨rfl,rfl,rfl,by decide+kernel,rfl,by decide+kernel,by decide+kernel⟩
theorem j6 {a_Doing_holds:Addr}{d_Doing_holds:FuncData}{a_Doing_chosen:Addr}{d_Doing_chosen:FuncData}{c_Doing:Addr}(y_len:mg "len"=none)(n_Doing:nsIn K mainGlobals "Doing"=some (some (.ref c_Doing)))(cl_Doing:Cls K c_Doing)(C_Doing_holds:CGm P w K mg base 8 c_Doing "holds" a_Doing_holds d_Doing_holds ["self", "sign", "left", "right"] 4 bH)(C_Doing_chosen:CGm P w K mg base 8 c_Doing "chosen" a_Doing_chosen d_Doing_chosen ["self", "e", "many"] 3 cc)(F:Fun K "row_gone_to" "row_gone_to" cO f fd)(B:Binds K fd ["doing", "row"] [])(Mf:mg "row_gone_to"=some (.ref f)):CG P w K mg base 9 "row_gone_to" f fd ["doing", "row"] 2 cT:=by
 refine⟨bu (g:=cD) F jQ rfl rfl rfl fun cdv A outer s H E hr=>?_,B,F.kp,Mf⟩
 have hu:=bt hr
 have hu6:=hr.units
 exact (ag (aS (aE aZ (aQ hu6) (ar hu (ae 1) ah (fun _ _=>rfl)) aA (aB _)) (ap (az (ar hu (ae 1) ah (fun _ _=>rfl)))) aC)
  (ag (aS (aE aZ (aQ hu6) (ar hu (ae 1) ah (fun _ _=>rfl)) aA (aB _)) (ap (az (iA (ie (fZ (ps:=["self", "sign", "left", "right"]) n_Doing cl_Doing C_Doing_holds (hr.mono (by omega)) (ae 0) (ab (ar hu (ae 1) ah (fun _ _=>rfl)) (ab (ar hu (ae 1) ah (fun _ _=>rfl)) (ab (ar hu (ae 1) ah (fun _ _=>rfl)) af bj) bj) bj))) (ar hu (ae 1) ah (fun _ _=>rfl)) kA))) aC)
  (ag (aS (aE aZ (aQ hu6) (ar hu (ae 1) ah (fun _ _=>rfl)) aA (aB _)) (ap (az (iA (ie (fZ (ps:=["self", "sign", "left", "right"]) n_Doing cl_Doing C_Doing_holds (hr.mono (by omega)) (ae 0) (ab (ar hu (ae 1) ah (fun _ _=>rfl)) (ab (ar hu (ae 1) ah (fun _ _=>rfl)) (ab (ar hu (ae 1) ah (fun _ _=>rfl)) af bj) bj) bj))) kA (ar hu (ae 1) ah (fun _ _=>rfl))))) aC)
  (ag (aS (aE aZ (aQ hu6) (ar hu (ae 1) ah (fun _ _=>rfl)) aA (aB _)) (ap (az (ar hu (ar hu (ae 1) ah (fun _ _=>rfl)) (fZ (ps:=["self", "e", "many"]) n_Doing cl_Doing C_Doing_chosen (hr.mono (by omega)) (ae 0) (ab (ar hu (ae 1) ah (fun _ _=>rfl)) (ab (bT y_len (ab (ar hu (ae 1) ah (fun _ _=>rfl)) af bj) (he:=bj) (hpl:=ao)) af bc) bj)) (fun _ _=>rfl)))) aC)
  (ap (az kA))))))
theorem sc_run_rows:FnScope ["boxes", "rows", "numbers", "bound", "doing", "jumps", "place", "done", "row", "to"] ["boxes", "rows", "numbers", "bound"] (aq dZ):=⟨rfl,rfl,rfl,by decide+kernel,rfl,by decide+kernel,by decide+kernel⟩
theorem nM {a_Doing___init__:Addr}{d_Doing___init__:FuncData}{a_Doing_lacks_number:Addr}{d_Doing_lacks_number:FuncData}{a_Doing_do_statement:Addr}{d_Doing_do_statement:FuncData}{a_row_gone_to:Addr}{d_row_gone_to:FuncData}{c_Doing c_STATEMENTS:Addr}(m_STATEMENTS:mg "STATEMENTS"=some (.ref c_STATEMENTS))(q_STATEMENTS: ∀H,SqT K H c_STATEMENTS ((["put", "say", "ask"]:List Str).map V.str))(n_Doing:nsIn K mainGlobals "Doing"=some (some (.ref c_Doing)))(cl_Doing:Cls K c_Doing)(na_Doing_said:NoAttr K c_Doing "said")(m_Doing:mg "Doing"=some (.ref c_Doing))(M_Doing:Mk K c_Doing a_Doing___init__)(C_Doing___init__:CGm P w K mg base 1 c_Doing "__init__" a_Doing___init__ d_Doing___init__ ["self", "boxes", "numbers"] 3 aX)(C_Doing_lacks_number:CGm P w K mg base 1 c_Doing "lacks_number" a_Doing_lacks_number d_Doing_lacks_number ["self", "row"] 2 aN)(C_Doing_do_statement:CGm P w K mg base 8 c_Doing "do_statement" a_Doing_do_statement d_Doing_do_statement ["self", "statement"] 2 aR)(C_row_gone_to:CG P w K mg base 9 "row_gone_to" a_row_gone_to d_row_gone_to ["doing", "row"] 2 cT)(F:Fun K "run_rows" "run_rows" dZ f fd)(B:Binds K fd ["boxes", "rows", "numbers", "bound"] [])(Mf:mg "run_rows"=some (.ref f)):CG P w K mg base 10 "run_rows" f fd ["boxes", "rows", "numbers", "bound"] 4 fk:=by
 refine⟨bu (g:=gn) F sc_run_rows rfl rfl rfl fun cdv A outer s H E hr=>?_,B,F.kp,Mf⟩
 have hu:=bt hr
 have hu6:=hr.units
 exact (ag (au (i:=4) sc_run_rows.nd rfl (Or.inl rfl) (pT (ps:=["self", "boxes", "numbers"]) M_Doing n_Doing C_Doing___init__.ok C_Doing___init__.bi (hr.mono (by omega)) m_Doing (ab (ae 0) (ab (ae 2) af ai) ai)))
  (ag (au (i:=5) sc_run_rows.nd rfl (Or.inl rfl) ah)
  (ag (au (i:=6) sc_run_rows.nd rfl (Or.inl rfl) ah)
  (ag (au (i:=7) sc_run_rows.nd rfl (Or.inl rfl) ah)
  (ag (iw 502 PassesOwn.never (aE hJ fI (ae 7) (ae 3) (aB _)) (ag (au (i:=8) sc_run_rows.nd rfl (Or.inl rfl) (ar hu (ae 1) (ae 6) (fun _ _=>rfl)))
  (ag (aS (aE aZ (aQ hu6) (ar hu (ae 8) ah (fun _ _=>rfl)) aA (aB _)) (ap (az (aM (ab (cI n_Doing cl_Doing na_Doing_said (ae 4)) (ab (aM (ab aA af aD)) (ab (ae 5) af ai) ik) ft)))) aC)
  (ag (aS (ie (fZ (ps:=["self", "row"]) n_Doing cl_Doing C_Doing_lacks_number (hr.mono (by omega)) (ae 4) (ab (ae 8) af ai))) (ap (az (aM (ab (cI n_Doing cl_Doing na_Doing_said (ae 4)) (ab (aM (ab aA af aD)) (ab (ae 5) af ai) ik) ft)))) aC)
  (ag (aS (aE (pO hu) mf (ar hu (ae 8) ah (fun _ _=>rfl)) (n6 (zs:=["put", "say", "ask"]) m_STATEMENTS q_STATEMENTS) (by with_unfolding_all rfl)) (ap (cK (fZ (ps:=["self", "statement"]) n_Doing cl_Doing C_Doing_do_statement (hr.mono (by omega)) (ae 4) (ab (ae 8) af ai)))) aC)
  (ag (au (i:=9) sc_run_rows.nd rfl (Or.inl rfl) (ay (ps:=["doing", "row"]) C_row_gone_to (hr.mono (by omega)) (ab (ae 4) (ab (ae 8) af ai) ai) (he:=ai) (hpl:=(ak ai ao))))
  (ag (aS (aE xV vK (ae 9) kA (aB _)) (ap (o3 (i:=6) sc_run_rows.nd rfl (Or.inl rfl) ah)) (ag (au (i:=6) sc_run_rows.nd rfl (Or.inl rfl) (ae 9))
  (ap (o3 (i:=5) sc_run_rows.nd rfl (Or.inl rfl) ah))))
  (ap (o3 (i:=7) sc_run_rows.nd rfl (Or.inl rfl) ah)))))))))
  (ap (az (aM (ab (cI n_Doing cl_Doing na_Doing_said (ae 4)) (ab (aM (ab aA af aD)) (ab (ae 5) af ai) ik) ft)))))))))
theorem oJ:FnScope ["to", "behind"] ["to", "behind"] (aq eY):=⟨rfl,rfl,rfl,by decide+kernel,rfl,by decide+kernel,by decide+kernel⟩
theorem oW (F:Fun K "go_rows" "go_rows" eY f fd)(B:Binds K fd ["to", "behind"] [])(Mf:mg "go_rows"=some (.ref f)):CG P w K mg base 1 "go_rows" f fd ["to", "behind"] 2 dO:=by
 refine⟨bu (g:=g6) F oJ rfl rfl rfl fun cdv A outer s H E hr=>?_,B,F.kp,Mf⟩
 have hu:=bt hr
 have hu6:=hr.units
 exact (ap (az (iA (aE aZ (aQ hu6) (ae 0) (ae 1) (aB _)) (ci (bS af)) (ci (bS (ab (aM (ab aA (ab (ae 0) af ai) aD)) af ik))))))
theorem sc_if_rows:FnScope ["end", "behind", "condition", "first", "second"] ["end", "behind"] (aq eX):=⟨rfl,rfl,rfl,by decide+kernel,rfl,by decide+kernel,by decide+kernel⟩
theorem oV {a_go_rows:Addr}{d_go_rows:FuncData}(C_go_rows:CG P w K mg base 1 "go_rows" a_go_rows d_go_rows ["to", "behind"] 2 dO)(F:Fun K "if_rows" "if_rows" eX f fd)(B:Binds K fd ["end", "behind"] [])(Mf:mg "if_rows"=some (.ref f)):CG P w K mg base 2 "if_rows" f fd ["end", "behind"] 2 fR:=by
 refine⟨bu (g:=gZ) F sc_if_rows rfl rfl rfl fun cdv A outer s H E hr=>?_,B,F.kp,Mf⟩
 have hu:=bt hr
 have hu6:=hr.units
 exact (ag (au (i:=2) sc_if_rows.nd rfl (Or.inl rfl) (iz (ae 0) (dR ah) (dR ah)))
  (ag (au (i:=3) sc_if_rows.nd rfl (Or.inl rfl) (ar hu (ae 0) ah (fun _ _=>rfl)))
  (ag (au (i:=4) sc_if_rows.nd rfl (Or.inl rfl) (ar hu (ae 0) ah (fun _ _=>rfl)))
  (ag (aS (aE aZ (aQ hu6) (ae 3) (ae 4) (aB _)) (ap (az (ay (ps:=["to", "behind"]) C_go_rows (hr.mono (by omega)) (ab (ae 3) (ab (ae 1) af ai) ai) (he:=ai) (hpl:=(ak ai ao))))) aC)
  (ag (aS (aE aZ (aQ hu6) (ae 3) (ae 1) (aB _)) (ap (az (ci (bS (ab (aV (aV (aM (ab aA af aD)) (ae 2)) (aM (ab (ae 4) af ai))) af cJ))))) aC)
  (ap (az (ci (tW (ci (bS (ab (aV (aV (aM (ab aA af aD)) (ae 2)) (aM (ab (ae 3) af ai))) af cJ))) (ay (ps:=["to", "behind"]) C_go_rows (hr.mono (by omega)) (ab (ae 4) (ab (ae 1) af ai) ai) (he:=ai) (hpl:=(ak ai ao))))))))))))
theorem nv:FnScope ["end", "behind"] ["end", "behind"] (aq eg):=⟨rfl,rfl,rfl,by decide+kernel,rfl,by decide+kernel,by decide+kernel⟩
theorem nS {a_go_rows:Addr}{d_go_rows:FuncData}{a_if_rows:Addr}{d_if_rows:FuncData}(C_go_rows:CG P w K mg base 1 "go_rows" a_go_rows d_go_rows ["to", "behind"] 2 dO)(C_if_rows:CG P w K mg base 2 "if_rows" a_if_rows d_if_rows ["end", "behind"] 2 fR)(F:Fun K "end_rows" "end_rows" eg f fd)(B:Binds K fd ["end", "behind"] [])(Mf:mg "end_rows"=some (.ref f)):CG P w K mg base 3 "end_rows" f fd ["end", "behind"] 2 fq:=by
 refine⟨bu (g:=gw) F nv rfl rfl rfl fun cdv A outer s H E hr=>?_,B,F.kp,Mf⟩
 have hu:=bt hr
 have hu6:=hr.units
 exact (ag (aS (aE aZ (aQ hu6) (ar hu (ae 0) ah (fun _ _=>rfl)) aA (aB _)) (ap (az (ay (ps:=["to", "behind"]) C_go_rows (hr.mono (by omega)) (ab (ar hu (ae 0) ah (fun _ _=>rfl)) (ab (ae 1) af ai) bj) (he:=bj) (hpl:=(ak ai ao))))) aC)
  (ag (aS (aE aZ (aQ hu6) (ar hu (ae 0) ah (fun _ _=>rfl)) aA (aB _)) (ap (az (ay (ps:=["end", "behind"]) C_if_rows (hr.mono (by omega)) (ab (ae 0) (ab (ae 1) af ai) ai) (he:=ai) (hpl:=(ak ai ao))))) aC)
  (ap (az (ci (bS (ab (ae 0) af ai)))))))
theorem jR:FnScope ["row", "begins"] ["row", "begins"] (aq cz):=⟨rfl,rfl,rfl,by decide+kernel,rfl,by decide+kernel,by decide+kernel⟩
theorem iW:((["place", ".0"]:List Str)++(["row", "begins"]:List Str).map (hid ["place", ".0"])).Nodup:=by decide+kernel
theorem j8 {c_JUMPS:Addr}(y_tuple:mg "tuple"=none)(m_JUMPS:mg "JUMPS"=some (.ref c_JUMPS))(q_JUMPS: ∀H,SqT K H c_JUMPS ((["jump", "when", "unless"]:List Str).map V.str))(F:Fun K "led_to_rows" "led_to_rows" cz f fd)(B:Binds K fd ["row", "begins"] [])(Mf:mg "led_to_rows"=some (.ref f)):CG P w K mg base 1 "led_to_rows" f fd ["row", "begins"] 2 dy:=by
 refine⟨bu (g:=eI) F jR rfl rfl rfl fun cdv A outer s H E hr=>?_,B,F.kp,Mf⟩
 have hu:=bt hr
 have hu6:=hr.units
 exact (ag (aS (aE (pO hu) mf (ar hu (ae 0) ah (fun _ _=>rfl)) (n6 (zs:=["jump", "when", "unless"]) m_JUMPS q_JUMPS) (by with_unfolding_all rfl)) (ap (az (aV (iz (ae 0) fX (dR (i7 ah))) (aM (ab (ar hu (ae 1) (ar hu (ae 0) (i7 ah) (fun _ _=>rfl)) (fun _ _=>rfl)) af bj))))) aC)
  (ag (aS (aE aZ (aQ hu6) (ar hu (ae 0) ah (fun _ _=>rfl)) aA (aB _)) (ap (az (aM (ab aA (ab (ar hu (ae 0) ah (fun _ _=>rfl)) (ab (kr y_tuple (ab (ci (gW rfl (ls:=["place", ".0"]) (.of (aq cz)) (yi (ar hu (ae 0) ah (fun _ _=>rfl))) (fun _ _ _ _=>(aO (i:=0) iW rfl (Or.inl rfl) (.inr rfl))) (bG 2 0 (by decide)) (fun _ _ _ _=>fw) (fun _ _ _ _=>(ar hu (ae 3) (ae 0) (fun _ _=>rfl))) trivial)) af qB) (he:=qB) (hpl:=ao)) af bc) bj) aD)))) aC)
  (ap (az (ae 0)))))
theorem sc_laid:FnScope ["program", "order", "rows", "begins", "place", "behind", "block"] ["program", "order"] (aq hU):=⟨rfl,rfl,rfl,by decide+kernel,rfl,by decide+kernel,by decide+kernel⟩
theorem qP:((["row", ".0"]:List Str)++(["program", "order", "rows", "begins", "place", "behind", "block"]:List Str).map (hid ["row", ".0"])).Nodup:=by decide+kernel
theorem vO {a_end_rows:Addr}{d_end_rows:FuncData}{a_led_to_rows:Addr}{d_led_to_rows:FuncData}(y_len:mg "len"=none)(y_zip:mg "zip"=none)(C_end_rows:CG P w K mg base 3 "end_rows" a_end_rows d_end_rows ["end", "behind"] 2 fq)(C_led_to_rows:CG P w K mg base 1 "led_to_rows" a_led_to_rows d_led_to_rows ["row", "begins"] 2 dy)(F:Fun K "laid" "laid" hU f fd)(B:Binds K fd ["program", "order"] [])(Mf:mg "laid"=some (.ref f)):CG P w K mg base 4 "laid" f fd ["program", "order"] 2 kK:=by
 refine⟨bu (g:=mQ) F sc_laid rfl rfl rfl fun cdv A outer s H E hr=>?_,B,F.kp,Mf⟩
 have hu:=bt hr
 have hu6:=hr.units
 exact (ag (au (i:=2) sc_laid.nd rfl (Or.inl rfl) (fg (bS af)))
  (ag (au (i:=3) sc_laid.nd rfl (Or.inr rfl) wa)
  (ag (db PassesOwn.never rfl (yh true true y_zip (ab (ae 1) (ab (wb (iz (ae 1) (dR ah) fX) (aM (ab kA af aD))) af cJ) ai)) (hV rfl (bL (aO (i:=4) sc_laid.nd rfl (Or.inl rfl)) (bL (aO (i:=5) sc_laid.nd rfl (Or.inl rfl)) fV))) (iL 7 [4,5] (by decide)) (ag (au (i:=6) sc_laid.nd rfl (Or.inl rfl) (ar hu (ar hu (ae 0) ah (fun _ _=>rfl)) (ae 4) (fun _ _=>rfl)))
  (ag (fN hu (ae 3) (ae 4) (bT y_len (ab (ae 2) af ai) (he:=ai) (hpl:=ao)))
  (ag (cK (lC (ae 2) (ab (ar hu (ae 6) ah (fun _ _=>rfl)) af bj)))
  (ap (cK (lC (ae 2) (ab (ay (ps:=["end", "behind"]) C_end_rows (hr.mono (by omega)) (ab (ar hu (ae 6) ah (fun _ _=>rfl)) (ab (ae 5) af ai) bj) (he:=bj) (hpl:=(ak ai ao))) af bc))))))))
  (ap (az (fg (gW rfl (ls:=["row", ".0"]) (.of (aq hU)) (eF (ae 2)) (fun _ _ _ _=>(aO (i:=0) qP rfl (Or.inl rfl) (.inr rfl))) (bG 2 0 (by decide)) (fun _ _ _ _=>fw) (fun _ _ _ _=>(ay (ps:=["row", "begins"]) C_led_to_rows (hr.mono (by omega)) (ab (ae 0) (ab (ae 5) af ai) ai) (he:=ai) (hpl:=(ak ai ao)))) trivial)))))))
theorem jS:FnScope ["script", "k"] ["script", "k"] (aq cP):=⟨rfl,rfl,rfl,by decide+kernel,rfl,by decide+kernel,by decide+kernel⟩
theorem kc (y_len:mg "len"=none)(F:Fun K "_law_cell_at" "_law_cell_at" cP f fd)(B:Binds K fd ["script", "k"] [])(Mf:mg "_law_cell_at"=some (.ref f)):CG P w K mg base 1 "_law_cell_at" f fd ["script", "k"] 2 aW:=by
 refine⟨bu (g:=eL) F jS rfl rfl rfl fun cdv A outer s H E hr=>?_,B,F.kp,Mf⟩
 have hu:=bt hr
 have hu6:=hr.units
 exact (ag (aS (aE hJ fI (ae 1) (bT y_len (ab (ae 0) af ai) (he:=ai) (hpl:=ao)) (aB _)) (ap (az (ar hu (ae 0) (ae 1) (fun _ _=>rfl)))) aC)
  (ap (az ah)))
theorem nu:FnScope ["cell"] ["cell"] (aq d6):=⟨rfl,rfl,rfl,by decide+kernel,rfl,by decide+kernel,by decide+kernel⟩
theorem nP (y_abs:mg "abs"=none)(F:Fun K "_law_reel" "_law_reel" d6 f fd)(B:Binds K fd ["cell"] [])(Mf:mg "_law_reel"=some (.ref f)):CG P w K mg base 1 "_law_reel" f fd ["cell"] 1 aU:=by
 refine⟨bu (g:=gr) F nu rfl rfl rfl fun cdv A outer s H E hr=>?_,B,F.kp,Mf⟩
 have hu:=bt hr
 have hu6:=hr.units
 exact (ap (az (fg (bS (ab (yo y_abs (ab (ae 0) af ai) (he:=ai) (hpl:=ao)) (ab (eD (kB (aV (eD (ae 0) ah) ah) ah) ah) af cJ) bc)))))
theorem sc_law_take:FnScope ["reel", "many", "found", "stir"] ["reel", "many"] (aq d5):=⟨rfl,rfl,rfl,by decide+kernel,rfl,by decide+kernel,by decide+kernel⟩
theorem nO (F:Fun K "_law_take" "_law_take" d5 f fd)(B:Binds K fd ["reel", "many"] [])(Mf:mg "_law_take"=some (.ref f)):CG P w K mg base 1 "_law_take" f fd ["reel", "many"] 2 aj:=by
 refine⟨bu (g:=gq) F sc_law_take rfl rfl rfl fun cdv A outer s H E hr=>?_,B,F.kp,Mf⟩
 have hu:=bt hr
 have hu6:=hr.units
 exact (ag (aS (aE ze xP (ar hu (ae 0) ah (fun _ _=>rfl)) (ku ah ah) (aB _)) (ag (au (i:=2) sc_law_take.nd rfl (Or.inl rfl) (eD (ar hu (ae 0) ah (fun _ _=>rfl)) (ae 1)))
  (ag (fN hu (ae 0) ah (mz (ar hu (ae 0) ah (fun _ _=>rfl)) (ae 1)))
  (ap (az (ae 2))))) aC)
  (ag (fN hu (ae 0) ah (eD (aV (kB (ar hu (ae 0) ah (fun _ _=>rfl)) ah) ah) ah))
  (ag (au (i:=3) sc_law_take.nd rfl (Or.inl rfl) (eD (kB (ar hu (ae 0) ah (fun _ _=>rfl)) (ar hu (ae 0) ah (fun _ _=>rfl))) ah))
  (ap (az (eD (mz (eD (kB (ae 3) ah) ah) ah) (ae 1)))))))
theorem sc_law_names:FnScope ["reel", "many", "letters", "words", "names", "k", "name", "j"] ["reel", "many"] (aq dI):=⟨rfl,rfl,rfl,by decide+kernel,rfl,by decide+kernel,by decide+kernel⟩
theorem mo {a_law_take:Addr}{d_law_take:FuncData}(y_len:mg "len"=none)(y_max:mg "max"=none)(y_range:mg "range"=none)(C_law_take:CG P w K mg base 1 "_law_take" a_law_take d_law_take ["reel", "many"] 2 aj)(F:Fun K "_law_names" "_law_names" dI f fd)(B:Binds K fd ["reel", "many"] [])(Mf:mg "_law_names"=some (.ref f)):CG P w K mg base 2 "_law_names" f fd ["reel", "many"] 2 dM:=by
 refine⟨bu (g:=fH) F sc_law_names rfl rfl rfl fun cdv A outer s H E hr=>?_,B,F.kp,Mf⟩
 have hu:=bt hr
 have hu6:=hr.units
 exact (ag (au (i:=2) sc_law_names.nd rfl (Or.inl rfl) aA)
  (ag (au (i:=3) sc_law_names.nd rfl (Or.inl rfl) (ci (bS (ab aA (ab aA (ab aA (ab aA (ab aA (ab aA (ab aA (ab aA (ab aA (ab aA af aD) aD) aD) aD) aD) aD) aD) aD) aD) aD))))
  (ag (au (i:=4) sc_law_names.nd rfl (Or.inl rfl) (fg (bS af)))
  (ag (db PassesOwn.never rfl (cR rfl y_range (ab (ae 1) af ai)) (aO (i:=5) sc_law_names.nd rfl (Or.inl rfl)) (bG 8 5 (by decide)) (ag (au (i:=6) sc_law_names.nd rfl (Or.inl rfl) (ar hu (ci (tW (ci (bS (ab aA (ab aA (ab aA (ab aA af aD) aD) aD) aD))) (ae 3))) (ay (ps:=["reel", "many"]) C_law_take (hr.mono (by omega)) (ab (ae 0) (ab ah af aD) ai) (he:=ai) (hpl:=(ak aD ao))) (fun _ _=>rfl)))
  (ag (db PassesOwn.never rfl (cR rfl y_range (ab (aV ah (ay (ps:=["reel", "many"]) C_law_take (hr.mono (by omega)) (ab (ae 0) (ab (iZ ah (yn rfl y_max (ab ah (ab (bT y_len (ab (ae 6) af ai) (he:=ai) (hpl:=ao)) af bc) aD) (he:=aD) (hpl:=(ak bc ao)))) af cJ) ai) (he:=ai) (hpl:=(ak cJ ao)))) af cJ)) (aO (i:=7) sc_law_names.nd rfl (Or.inl rfl)) (bG 8 7 (by decide)) (ap (au (i:=6) sc_law_names.nd rfl (Or.inl rfl) (aV (ae 6) (ar hu (ae 2) (ay (ps:=["reel", "many"]) C_law_take (hr.mono (by omega)) (ab (ae 0) (ab ah af aD) ai) (he:=ai) (hpl:=(ak aD ao))) (fun _ _=>rfl))))))
  (ag (iw 30 PassesOwn.never (lH (pQ (aE (pO hu) mf (ae 6) (ae 4) (by with_unfolding_all rfl)) (mt (aE (pO hu) mf (ae 6) (ae 3) (by with_unfolding_all rfl))))) (ap (au (i:=6) sc_law_names.nd rfl (Or.inl rfl) (aV (iz (ae 6) fX (dR (i7 ah))) (ar hu (ae 2) (eD (aV (v7 (ae 2) (ab (ar hu (ae 6) (i7 ah) (fun _ _=>rfl)) af bj)) ah) ah) (fun _ _=>rfl))))))
  (ap (cK (cS (ae 4) (ab (ae 6) af ai))))))))
  (ap (az (kC (ae 4))))))))
theorem sc_law_leaf:FnScope ["reel", "boxes", "most"] ["reel", "boxes"] (aq d8):=⟨rfl,rfl,rfl,by decide+kernel,rfl,by decide+kernel,by decide+kernel⟩
theorem nR {a_law_take:Addr}{d_law_take:FuncData}(y_len:mg "len"=none)(C_law_take:CG P w K mg base 1 "_law_take" a_law_take d_law_take ["reel", "many"] 2 aj)(F:Fun K "_law_leaf" "_law_leaf" d8 f fd)(B:Binds K fd ["reel", "boxes"] [])(Mf:mg "_law_leaf"=some (.ref f)):CG P w K mg base 2 "_law_leaf" f fd ["reel", "boxes"] 2 fm:=by
 refine⟨bu (g:=gv) F sc_law_leaf rfl rfl rfl fun cdv A outer s H E hr=>?_,B,F.kp,Mf⟩
 have hu:=bt hr
 have hu6:=hr.units
 exact (ag (aS (lH (tL (aE j4 (hW hu6) (ae 1) (ci (bS af)) (aB _)) (pR (aE wP sX (ay (ps:=["reel", "many"]) C_law_take (hr.mono (by omega)) (ab (ae 0) (ab ah af aD) ai) (he:=ai) (hpl:=(ak aD ao))) ah (aB _))))) (ap (az (aM (ab aA (ab (ar hu (ar hu (ae 1) (ay (ps:=["reel", "many"]) C_law_take (hr.mono (by omega)) (ab (ae 0) (ab (bT y_len (ab (ae 1) af ai) (he:=ai) (hpl:=ao)) af bc) ai) (he:=ai) (hpl:=(ak bc ao))) (fun _ _=>rfl)) ah (fun _ _=>rfl)) af bj) aD)))) aC)
  (ag (au (i:=2) sc_law_leaf.nd rfl (Or.inl rfl) (ar hu (ci (bS (ab ah (ab ah (ab ah af aD) aD) aD))) (ay (ps:=["reel", "many"]) C_law_take (hr.mono (by omega)) (ab (ae 0) (ab ah af aD) ai) (he:=ai) (hpl:=(ak aD ao))) (fun _ _=>rfl)))
  (ap (az (aM (ab aA (ab (ay (ps:=["reel", "many"]) C_law_take (hr.mono (by omega)) (ab (ae 0) (ab (ae 2) af ai) ai) (he:=ai) (hpl:=(ak ai ao))) af bc) aD))))))
theorem sc_law_tree:FnScope ["reel", "boxes", "leaves", "left", "sign", "one", "other"] ["reel", "boxes", "leaves"] (aq d4):=⟨rfl,rfl,rfl,by decide+kernel,rfl,by decide+kernel,by decide+kernel⟩
theorem ji {a_law_leaf:Addr}{d_law_leaf:FuncData}{a_law_take:Addr}{d_law_take:FuncData}(C_law_leaf:CG P w K mg base 2 "_law_leaf" a_law_leaf d_law_leaf ["reel", "boxes"] 2 fm)(C_law_take:CG P w K mg base 1 "_law_take" a_law_take d_law_take ["reel", "many"] 2 aj)(F:Fun K "_law_tree" "_law_tree" d4 f fd)(B:Binds K fd ["reel", "boxes", "leaves"] [])(Mf:mg "_law_tree"=some (.ref f)): ∀n:Nat,CG P w K mg base (3+n) "_law_tree" f fd ["reel", "boxes", "leaves"] 3 (bn n)
 |0=>⟨uH fun _ _=>rfl,B,F.kp,Mf⟩
 |n+1=>by
  have C_law_tree:=ji C_law_leaf C_law_take F B Mf n
  refine⟨bu (g:=gp (bn n)) F sc_law_tree rfl rfl rfl fun cdv A outer s H E hr=>?_,B,F.kp,Mf⟩
  have hr:Room (3+n) _:=hr
  have hu:=bt hr
  have hu6:=hr.units
  exact (ag (aS (aE hJ fI (ae 2) ah (aB _)) (ap (az (ay (ps:=["reel", "boxes"]) C_law_leaf (hr.mono (by omega)) (ab (ae 0) (ab (ae 1) af ai) ai) (he:=ai) (hpl:=(ak ai ao))))) aC)
   (ag (au (i:=3) sc_law_tree.nd rfl (Or.inl rfl) (aV ah (ay (ps:=["reel", "many"]) C_law_take (hr.mono (by omega)) (ab (ae 0) (ab (iZ (ae 2) ah) af cJ) ai) (he:=ai) (hpl:=(ak cJ ao)))))
   (ag (au (i:=4) sc_law_tree.nd rfl (Or.inl rfl) (ar hu aA (ay (ps:=["reel", "many"]) C_law_take (hr.mono (by omega)) (ab (ae 0) (ab ah af aD) ai) (he:=ai) (hpl:=(ak aD ao))) (fun _ _=>rfl)))
   (ag (au (i:=5) sc_law_tree.nd rfl (Or.inl rfl) (ay (ps:=["reel", "boxes", "leaves"]) C_law_tree (hr.mono (by omega)) (ab (ae 0) (ab (ae 1) (ab (ae 3) af ai) ai) ai) (he:=ai) (hpl:=(ak ai (ak ai ao)))))
   (ag (au (i:=6) sc_law_tree.nd rfl (Or.inl rfl) (ay (ps:=["reel", "boxes", "leaves"]) C_law_tree (hr.mono (by omega)) (ab (ae 0) (ab (ae 1) (ab (iZ (ae 2) (ae 3)) af cJ) ai) ai) (he:=ai) (hpl:=(ak ai (ak cJ ao)))))
   (ap (az (aM (ab (ae 4) (ab (ae 5) (ab (ae 6) af ai) ai) ai)))))))))
theorem sc_law_statement:FnScope ["reel", "boxes", "way", "name", "one"] ["reel", "boxes"] (aq ck):=⟨rfl,rfl,rfl,by decide+kernel,rfl,by decide+kernel,by decide+kernel⟩
theorem iT {a_law_take:Addr}{d_law_take:FuncData}{a_law_tree:Addr}{d_law_tree:FuncData}(y_len:mg "len"=none)(C_law_take:CG P w K mg base 1 "_law_take" a_law_take d_law_take ["reel", "many"] 2 aj)(C_law_tree:CG P w K mg base 9 "_law_tree" a_law_tree d_law_tree ["reel", "boxes", "leaves"] 3 (bn 6))(F:Fun K "_law_statement" "_law_statement" ck f fd)(B:Binds K fd ["reel", "boxes"] [])(Mf:mg "_law_statement"=some (.ref f)):CG P w K mg base 10 "_law_statement" f fd ["reel", "boxes"] 2 bm:=by
 refine⟨bu (g:=dB) F sc_law_statement rfl rfl rfl fun cdv A outer s H E hr=>?_,B,F.kp,Mf⟩
 have hu:=bt hr
 have hu6:=hr.units
 exact (ag (au (i:=2) sc_law_statement.nd rfl (Or.inl rfl) (ay (ps:=["reel", "many"]) C_law_take (hr.mono (by omega)) (ab (ae 0) (ab ah af aD) ai) (he:=ai) (hpl:=(ak aD ao))))
  (ag (aS (lH (pQ (aE aZ (aQ hu6) (ae 1) (ci (bS af)) (aB _)) (mt (aE hJ fI (ae 2) ah (aB _))))) (ap (az (aM (ab aA (ab (ay (ps:=["reel", "boxes", "leaves"]) C_law_tree (hr.mono (by omega)) (ab (ae 0) (ab (ae 1) (ab (aV ah (ay (ps:=["reel", "many"]) C_law_take (hr.mono (by omega)) (ab (ae 0) (ab ah af aD) ai) (he:=ai) (hpl:=(ak aD ao)))) af cJ) ai) ai) (he:=ai) (hpl:=(ak ai (ak cJ ao)))) af bc) aD)))) aC)
  (ag (au (i:=3) sc_law_statement.nd rfl (Or.inl rfl) (ar hu (ar hu (ae 1) (ay (ps:=["reel", "many"]) C_law_take (hr.mono (by omega)) (ab (ae 0) (ab (bT y_len (ab (ae 1) af ai) (he:=ai) (hpl:=ao)) af bc) ai) (he:=ai) (hpl:=(ak bc ao))) (fun _ _=>rfl)) ah (fun _ _=>rfl)))
  (ag (aS (aE hJ fI (ae 2) ah (aB _)) (ap (az (aM (ab aA (ab (ae 3) af ai) aD)))) aC)
  (ag (au (i:=4) sc_law_statement.nd rfl (Or.inl rfl) (aM (ab aA (ab (ar hu (ar hu (ae 1) (ay (ps:=["reel", "many"]) C_law_take (hr.mono (by omega)) (ab (ae 0) (ab (bT y_len (ab (ae 1) af ai) (he:=ai) (hpl:=ao)) af bc) ai) (he:=ai) (hpl:=(ak bc ao))) (fun _ _=>rfl)) ah (fun _ _=>rfl)) af bj) aD)))
  (ag (aS (aE aZ (aQ hu6) (ae 2) ah (aB _)) (ap (az (aM (ab aA (ab (ae 3) (ab (aM (ab (ar hu aA (ay (ps:=["reel", "many"]) C_law_take (hr.mono (by omega)) (ab (ae 0) (ab ah af aD) ai) (he:=ai) (hpl:=(ak aD ao))) (fun _ _=>rfl)) (ab (ae 4) (ab (aM (ab aA (ab (ay (ps:=["reel", "many"]) C_law_take (hr.mono (by omega)) (ab (ae 0) (ab ah af aD) ai) (he:=ai) (hpl:=(ak aD ao))) af bc) aD)) af ik) ai) bj)) af ik) ai) aD)))) aC)
  (ap (az (aM (ab aA (ab (ae 3) (ab (ay (ps:=["reel", "boxes", "leaves"]) C_law_tree (hr.mono (by omega)) (ab (ae 0) (ab (ae 1) (ab (aV ah (ay (ps:=["reel", "many"]) C_law_take (hr.mono (by omega)) (ab (ae 0) (ab ah af aD) ai) (he:=ai) (hpl:=(ak aD ao)))) af cJ) ai) ai) (he:=ai) (hpl:=(ak ai (ak cJ ao)))) af bc) ai) aD))))))))))
theorem sc_law_if:FnScope ["reel", "boxes", "x", "y", "sign", "one", "way", "other"] ["reel", "boxes", "x", "y"] (aq fL):=⟨rfl,rfl,rfl,by decide+kernel,rfl,by decide+kernel,by decide+kernel⟩
theorem qL {a_law_take:Addr}{d_law_take:FuncData}{a_law_tree:Addr}{d_law_tree:FuncData}(C_law_take:CG P w K mg base 1 "_law_take" a_law_take d_law_take ["reel", "many"] 2 aj)(C_law_tree:CG P w K mg base 9 "_law_tree" a_law_tree d_law_tree ["reel", "boxes", "leaves"] 3 (bn 6))(F:Fun K "_law_if" "_law_if" fL f fd)(B:Binds K fd ["reel", "boxes", "x", "y"] [])(Mf:mg "_law_if"=some (.ref f)):CG P w K mg base 10 "_law_if" f fd ["reel", "boxes", "x", "y"] 4 gP:=by
 refine⟨bu (g:=iF) F sc_law_if rfl rfl rfl fun cdv A outer s H E hr=>?_,B,F.kp,Mf⟩
 have hu:=bt hr
 have hu6:=hr.units
 exact (ag (au (i:=4) sc_law_if.nd rfl (Or.inl rfl) (ar hu aA (ay (ps:=["reel", "many"]) C_law_take (hr.mono (by omega)) (ab (ae 0) (ab ah af aD) ai) (he:=ai) (hpl:=(ak aD ao))) (fun _ _=>rfl)))
  (ag (au (i:=5) sc_law_if.nd rfl (Or.inl rfl) (ay (ps:=["reel", "boxes", "leaves"]) C_law_tree (hr.mono (by omega)) (ab (ae 0) (ab (ae 1) (ab (aV ah (ay (ps:=["reel", "many"]) C_law_take (hr.mono (by omega)) (ab (ae 0) (ab ah af aD) ai) (he:=ai) (hpl:=(ak aD ao)))) af cJ) ai) ai) (he:=ai) (hpl:=(ak ai (ak cJ ao)))))
  (ag (au (i:=6) sc_law_if.nd rfl (Or.inl rfl) (ay (ps:=["reel", "many"]) C_law_take (hr.mono (by omega)) (ab (ae 0) (ab ah af aD) ai) (he:=ai) (hpl:=(ak aD ao))))
  (ag (au (i:=7) sc_law_if.nd rfl (Or.inl rfl) (aM (ab aA (ab (ay (ps:=["reel", "many"]) C_law_take (hr.mono (by omega)) (ab (ae 0) (ab ah af aD) ai) (he:=ai) (hpl:=(ak aD ao))) af bc) aD)))
  (ag (aS (aE aZ (aQ hu6) (ae 6) ah (aB _)) (ap (au (i:=7) sc_law_if.nd rfl (Or.inl rfl) (ay (ps:=["reel", "boxes", "leaves"]) C_law_tree (hr.mono (by omega)) (ab (ae 0) (ab (ae 1) (ab (aV ah (ay (ps:=["reel", "many"]) C_law_take (hr.mono (by omega)) (ab (ae 0) (ab ah af aD) ai) (he:=ai) (hpl:=(ak aD ao)))) af cJ) ai) ai) (he:=ai) (hpl:=(ak ai (ak cJ ao)))))) aC)
  (ag (aS (aE aZ (aQ hu6) (ae 6) ah (aB _)) (ap (au (i:=7) sc_law_if.nd rfl (Or.inl rfl) (aM (ab aA (ab (ae 5) (ab (aM (ab aA (ab (ay (ps:=["reel", "many"]) C_law_take (hr.mono (by omega)) (ab (ae 0) (ab ah af aD) ai) (he:=ai) (hpl:=(ak aD ao))) af bc) aD)) af ik) ai) aD)))) aC)
  (ap (az (aM (ab aA (ab (ae 4) (ab (ae 5) (ab (ae 7) (ab (ae 2) (ab (ae 3) af ai) ai) ai) ai) ai) aD))))))))))
theorem sc_law_end:FnScope ["reel", "boxes", "many", "way", "to", "e"] ["reel", "boxes", "many"] (aq d9):=⟨rfl,rfl,rfl,by decide+kernel,rfl,by decide+kernel,by decide+kernel⟩
theorem ms:((["k", ".0"]:List Str)++(["reel", "boxes", "many", "way", "to", "e"]:List Str).map (hid ["k", ".0"])).Nodup:=by decide+kernel
theorem oS {a_law_take:Addr}{d_law_take:FuncData}{a_law_if:Addr}{d_law_if:FuncData}{a_law_tree:Addr}{d_law_tree:FuncData}(y_range:mg "range"=none)(y_tuple:mg "tuple"=none)(C_law_take:CG P w K mg base 1 "_law_take" a_law_take d_law_take ["reel", "many"] 2 aj)(C_law_if:CG P w K mg base 10 "_law_if" a_law_if d_law_if ["reel", "boxes", "x", "y"] 4 gP)(C_law_tree:CG P w K mg base 9 "_law_tree" a_law_tree d_law_tree ["reel", "boxes", "leaves"] 3 (bn 6))(F:Fun K "_law_end" "_law_end" d9 f fd)(B:Binds K fd ["reel", "boxes", "many"] [])(Mf:mg "_law_end"=some (.ref f)):CG P w K mg base 11 "_law_end" f fd ["reel", "boxes", "many"] 3 eZ:=by
 refine⟨bu (g:=gY) F sc_law_end rfl rfl rfl fun cdv A outer s H E hr=>?_,B,F.kp,Mf⟩
 have hu:=bt hr
 have hu6:=hr.units
 exact (ag (au (i:=3) sc_law_end.nd rfl (Or.inl rfl) (ay (ps:=["reel", "many"]) C_law_take (hr.mono (by omega)) (ab (ae 0) (ab ah af aD) ai) (he:=ai) (hpl:=(ak aD ao))))
  (ag (au (i:=4) sc_law_end.nd rfl (Or.inl rfl) (ay (ps:=["reel", "many"]) C_law_take (hr.mono (by omega)) (ab (ae 0) (ab (ae 2) af ai) ai) (he:=ai) (hpl:=(ak ai ao))))
  (ag (aS (aE hJ fI (ae 3) ah (aB _)) (ap (az (aM (ab aA (ab (ae 4) af ai) aD)))) aC)
  (ag (aS (aE hJ fI (ae 3) ah (aB _)) (ap (az (ay (ps:=["reel", "boxes", "x", "y"]) C_law_if (hr.mono (by omega)) (ab (ae 0) (ab (ae 1) (ab (ae 4) (ab (ay (ps:=["reel", "many"]) C_law_take (hr.mono (by omega)) (ab (ae 0) (ab (ae 2) af ai) ai) (he:=ai) (hpl:=(ak ai ao))) af bc) ai) ai) ai) (he:=ai) (hpl:=(ak ai (ak ai (ak bc ao))))))) aC)
  (ag (aS (aE aZ (aQ hu6) (ae 3) ah (aB _)) (ap (az (aM (ab aA af aD)))) aC)
  (ag (au (i:=5) sc_law_end.nd rfl (Or.inl rfl) (ay (ps:=["reel", "boxes", "leaves"]) C_law_tree (hr.mono (by omega)) (ab (ae 0) (ab (ae 1) (ab (aV ah (ay (ps:=["reel", "many"]) C_law_take (hr.mono (by omega)) (ab (ae 0) (ab ah af aD) ai) (he:=ai) (hpl:=(ak aD ao)))) af cJ) ai) ai) (he:=ai) (hpl:=(ak ai (ak cJ ao)))))
  (ap (az (aM (ab aA (ab (ae 5) (ab (kr y_tuple (ab (ci (gW rfl (ls:=["k", ".0"]) (.of (aq d9)) (cR rfl y_range (ab (aV ah (ay (ps:=["reel", "many"]) C_law_take (hr.mono (by omega)) (ab (ae 0) (ab ah af aD) ai) (he:=ai) (hpl:=(ak aD ao)))) af cJ)) (fun _ _ _ _=>(aO (i:=0) ms rfl (Or.inl rfl) (.inr rfl))) (bG 2 0 (by decide)) (fun _ _ _ _=>fw) (fun _ _ _ _=>(ay (ps:=["reel", "many"]) C_law_take (hr.mono (by omega)) (ab (ae 2) (ab (ae 4) af ai) ai) (he:=ai) (hpl:=(ak ai ao)))) trivial)) af qB) (he:=qB) (hpl:=ao)) af bc) ai) aD))))))))))
theorem sc_law_number:FnScope ["reel", "way"] ["reel"] (aq df):=⟨rfl,rfl,rfl,by decide+kernel,rfl,by decide+kernel,by decide+kernel⟩
theorem kR {a_law_take:Addr}{d_law_take:FuncData}(C_law_take:CG P w K mg base 1 "_law_take" a_law_take d_law_take ["reel", "many"] 2 aj)(F:Fun K "_law_number" "_law_number" df f fd)(B:Binds K fd ["reel"] [])(Mf:mg "_law_number"=some (.ref f)):CG P w K mg base 2 "_law_number" f fd ["reel"] 1 dm:=by
 refine⟨bu (g:=eU) F sc_law_number rfl rfl rfl fun cdv A outer s H E hr=>?_,B,F.kp,Mf⟩
 have hu:=bt hr
 have hu6:=hr.units
 exact (ag (au (i:=1) sc_law_number.nd rfl (Or.inl rfl) (ay (ps:=["reel", "many"]) C_law_take (hr.mono (by omega)) (ab (ae 0) (ab ah af aD) ai) (he:=ai) (hpl:=(ak aD ao))))
  (ag (aS (aE aZ (aQ hu6) (ae 1) ah (aB _)) (ap (az (ay (ps:=["reel", "many"]) C_law_take (hr.mono (by omega)) (ab (ae 0) (ab (ku ah ah) af cJ) ai) (he:=ai) (hpl:=(ak cJ ao))))) aC)
  (ag (aS (aE aZ (aQ hu6) (ae 1) ah (aB _)) (ap (az (i7 (ay (ps:=["reel", "many"]) C_law_take (hr.mono (by omega)) (ab (ae 0) (ab (ku ah ah) af cJ) ai) (he:=ai) (hpl:=(ak cJ ao)))))) aC)
  (ag (aS (aE aZ (aQ hu6) (ae 1) ah (aB _)) (ap (az (aV ah (ay (ps:=["reel", "many"]) C_law_take (hr.mono (by omega)) (ab (ae 0) (ab ah af aD) ai) (he:=ai) (hpl:=(ak aD ao)))))) aC)
  (ap (az (iZ (ay (ps:=["reel", "many"]) C_law_take (hr.mono (by omega)) (ab (ae 0) (ab ah af aD) ai) (he:=ai) (hpl:=(ak aD ao))) ah)))))))
theorem sc_law_program:FnScope ["script", "names", "reel", "boxes", "k", "turn", "many", "blocks", "part", "end", "statements"] ["script"] (aq cA):=⟨rfl,rfl,rfl,by decide+kernel,rfl,by decide+kernel,by decide+kernel⟩
theorem iX:((["j", ".0"]:List Str)++(["script", "names", "reel", "boxes", "k", "turn", "many", "blocks", "part", "end", "statements"]:List Str).map (hid ["j", ".0"])).Nodup:=by decide+kernel
theorem j9 {a_law_names:Addr}{d_law_names:FuncData}{a_law_reel:Addr}{d_law_reel:FuncData}{a_law_cell_at:Addr}{d_law_cell_at:FuncData}{a_law_take:Addr}{d_law_take:FuncData}{a_law_end:Addr}{d_law_end:FuncData}{a_law_statement:Addr}{d_law_statement:FuncData}(y_range:mg "range"=none)(C_law_names:CG P w K mg base 2 "_law_names" a_law_names d_law_names ["reel", "many"] 2 dM)(C_law_reel:CG P w K mg base 1 "_law_reel" a_law_reel d_law_reel ["cell"] 1 aU)(C_law_cell_at:CG P w K mg base 1 "_law_cell_at" a_law_cell_at d_law_cell_at ["script", "k"] 2 aW)(C_law_take:CG P w K mg base 1 "_law_take" a_law_take d_law_take ["reel", "many"] 2 aj)(C_law_end:CG P w K mg base 11 "_law_end" a_law_end d_law_end ["reel", "boxes", "many"] 3 eZ)(C_law_statement:CG P w K mg base 10 "_law_statement" a_law_statement d_law_statement ["reel", "boxes"] 2 bm)(F:Fun K "_law_program" "_law_program" cA f fd)(B:Binds K fd ["script"] [])(Mf:mg "_law_program"=some (.ref f)):CG P w K mg base 12 "_law_program" f fd ["script"] 1 dz:=by
 refine⟨bu (g:=eJ) F sc_law_program rfl rfl rfl fun cdv A outer s H E hr=>?_,B,F.kp,Mf⟩
 have hu:=bt hr
 have hu6:=hr.units
 exact (ag (au (i:=1) sc_law_program.nd rfl (Or.inl rfl) (ay (ps:=["reel", "many"]) C_law_names (hr.mono (by omega)) (ab (ay (ps:=["cell"]) C_law_reel (hr.mono (by omega)) (ab (ay (ps:=["script", "k"]) C_law_cell_at (hr.mono (by omega)) (ab (ae 0) (ab ah af aD) ai) (he:=ai) (hpl:=(ak aD ao))) af bc) (he:=bc) (hpl:=ao)) (ab ah af aD) bc) (he:=bc) (hpl:=(ak aD ao))))
  (ag (au (i:=2) sc_law_program.nd rfl (Or.inl rfl) (ay (ps:=["cell"]) C_law_reel (hr.mono (by omega)) (ab (ay (ps:=["script", "k"]) C_law_cell_at (hr.mono (by omega)) (ab (ae 0) (ab ah af aD) ai) (he:=ai) (hpl:=(ak aD ao))) af bc) (he:=bc) (hpl:=ao)))
  (ag (au (i:=3) sc_law_program.nd rfl (Or.inr rfl) (fg (bS af)))
  (ag (db PassesOwn.never rfl (cR rfl y_range (ab (ay (ps:=["reel", "many"]) C_law_take (hr.mono (by omega)) (ab (ae 2) (ab ah af aD) ai) (he:=ai) (hpl:=(ak aD ao))) af bc)) (aO (i:=4) sc_law_program.nd rfl (Or.inl rfl)) (bG 11 4 (by decide)) (ap (cK (cS (ae 3) (ab (aM (ab (ar hu (ae 1) (ae 4) (fun _ _=>rfl)) (ab (ay (ps:=["reel", "many"]) C_law_take (hr.mono (by omega)) (ab (ae 2) (ab (ar hu (ci (bS (ab ah (ab ah af aD) aD))) (ay (ps:=["reel", "many"]) C_law_take (hr.mono (by omega)) (ab (ae 2) (ab ah af aD) ai) (he:=ai) (hpl:=(ak aD ao))) (fun _ _=>rfl)) af bj) ai) (he:=ai) (hpl:=(ak bj ao))) af bc) bj)) af ik)))))
  (ag (au (i:=5) sc_law_program.nd rfl (Or.inl rfl) (ay (ps:=["reel", "many"]) C_law_take (hr.mono (by omega)) (ab (ae 2) (ab ah af aD) ai) (he:=ai) (hpl:=(ak aD ao))))
  (ag (au (i:=6) sc_law_program.nd rfl (Or.inl rfl) (aV ah (ay (ps:=["reel", "many"]) C_law_take (hr.mono (by omega)) (ab (ae 2) (ab ah af aD) ai) (he:=ai) (hpl:=(ak aD ao)))))
  (ag (au (i:=7) sc_law_program.nd rfl (Or.inl rfl) (fg (bS af)))
  (ag (db PassesOwn.never rfl (cR rfl y_range (ab (ae 6) af ai)) (aO (i:=4) sc_law_program.nd rfl (Or.inl rfl)) (bG 11 4 (by decide)) (ag (au (i:=8) sc_law_program.nd rfl (Or.inr rfl) (ay (ps:=["cell"]) C_law_reel (hr.mono (by omega)) (ab (ay (ps:=["reel", "many"]) C_law_take (hr.mono (by omega)) (ab (ae 2) (ab (ku ah ah) af cJ) ai) (he:=ai) (hpl:=(ak cJ ao))) af bc) (he:=bc) (hpl:=ao)))
  (ag (au (i:=9) sc_law_program.nd rfl (Or.inl rfl) (ay (ps:=["reel", "boxes", "many"]) C_law_end (hr.mono (by omega)) (ab (ae 8) (ab (ae 3) (ab (ae 6) af ai) ai) ai) (he:=ai) (hpl:=(ak ai (ak ai ao)))))
  (ag (lB (i:=10) sc_law_program.nd rfl rfl rfl (ls:=["j", ".0"]) (.of (aq cA)) (cR rfl y_range (ab (ay (ps:=["reel", "many"]) C_law_take (hr.mono (by omega)) (ab (ae 8) (ab ah af aD) ai) (he:=ai) (hpl:=(ak aD ao))) af bc)) (fun _ _ _ _=>(aO (i:=0) iX rfl (Or.inl rfl) (.inr rfl))) (bG 2 0 (by decide)) (fun _ _ _ _=>fw) (fun _ _ _ _=>(ay (ps:=["reel", "boxes"]) C_law_statement (hr.mono (by omega)) (ab (ae 10) (ab (ae 5) af ai) ai) (he:=ai) (hpl:=(ak ai ao)))) trivial)
  (ap (cK (cS (ae 7) (ab (aM (ab (ar hu (ae 1) (eD (aV (ae 5) (ae 4)) ah) (fun _ _=>rfl)) (ab (ae 10) (ab (ae 9) af ai) ai) bj)) af ik))))))))
  (ap (az (aM (ab (kC (ae 3)) (ab (kC (ae 7)) af ai) ai))))))))))))
theorem sc_law_filled:FnScope ["script", "program", "boxes", "blocks", "reel", "cells", "cut", "cell", "part", "statements"] ["script", "program"] (aq cr):=⟨rfl,rfl,rfl,by decide+kernel,rfl,by decide+kernel,by decide+kernel⟩
theorem ju:((["k", ".0"]:List Str)++(["script", "program", "boxes", "blocks", "reel", "cells", "cut", "cell", "part", "statements"]:List Str).map (hid ["k", ".0"])).Nodup:=by decide+kernel
theorem jt:((["cell", ".0"]:List Str)++(["script", "program", "boxes", "blocks", "reel", "cells", "cut", "cell", "part", "statements"]:List Str).map (hid ["cell", ".0"])).Nodup:=by decide+kernel
theorem kU {a_law_reel:Addr}{d_law_reel:FuncData}{a_law_cell_at:Addr}{d_law_cell_at:FuncData}{a_law_take:Addr}{d_law_take:FuncData}{a_law_statement:Addr}{d_law_statement:FuncData}{a_law_number:Addr}{d_law_number:FuncData}(y_len:mg "len"=none)(y_range:mg "range"=none)(C_law_reel:CG P w K mg base 1 "_law_reel" a_law_reel d_law_reel ["cell"] 1 aU)(C_law_cell_at:CG P w K mg base 1 "_law_cell_at" a_law_cell_at d_law_cell_at ["script", "k"] 2 aW)(C_law_take:CG P w K mg base 1 "_law_take" a_law_take d_law_take ["reel", "many"] 2 aj)(C_law_statement:CG P w K mg base 10 "_law_statement" a_law_statement d_law_statement ["reel", "boxes"] 2 bm)(C_law_number:CG P w K mg base 2 "_law_number" a_law_number d_law_number ["reel"] 1 dm)(F:Fun K "_law_filled" "_law_filled" cr f fd)(B:Binds K fd ["script", "program"] [])(Mf:mg "_law_filled"=some (.ref f)):CG P w K mg base 11 "_law_filled" f fd ["script", "program"] 2 dW:=by
 refine⟨bu (g:=eW) F sc_law_filled rfl rfl rfl fun cdv A outer s H E hr=>?_,B,F.kp,Mf⟩
 have hu:=bt hr
 have hu6:=hr.units
 exact (ag (oZ (ae 1) (hV rfl (bL (aO (i:=2) sc_law_filled.nd rfl (Or.inl rfl)) (bL (aO (i:=3) sc_law_filled.nd rfl (Or.inl rfl)) fV))) (iL 10 [2,3] (by decide)))
  (ag (au (i:=4) sc_law_filled.nd rfl (Or.inr rfl) (ay (ps:=["cell"]) C_law_reel (hr.mono (by omega)) (ab (ay (ps:=["script", "k"]) C_law_cell_at (hr.mono (by omega)) (ab (ae 0) (ab ah af aD) ai) (he:=ai) (hpl:=(ak aD ao))) af bc) (he:=bc) (hpl:=ao)))
  (ag (au (i:=5) sc_law_filled.nd rfl (Or.inl rfl) (iz (ae 0) (dR ah) (dR ah)))
  (ag (au (i:=6) sc_law_filled.nd rfl (Or.inl rfl) (ay (ps:=["reel", "many"]) C_law_take (hr.mono (by omega)) (ab (ae 4) (ab (aV (bT y_len (ab (ae 5) af ai) (he:=ai) (hpl:=ao)) ah) af cJ) ai) (he:=ai) (hpl:=(ak cJ ao))))
  (ag (db PassesOwn.never rfl (eF (iz (ae 5) fX (dR (ae 6)))) (aO (i:=7) sc_law_filled.nd rfl (Or.inl rfl)) (bG 10 7 (by decide)) (ag (au (i:=8) sc_law_filled.nd rfl (Or.inl rfl) (ay (ps:=["cell"]) C_law_reel (hr.mono (by omega)) (ab (ae 7) af ai) (he:=ai) (hpl:=ao)))
  (ag (au (i:=9) sc_law_filled.nd rfl (Or.inl rfl) (ar hu (ar hu (ae 3) (ay (ps:=["reel", "many"]) C_law_take (hr.mono (by omega)) (ab (ae 8) (ab (bT y_len (ab (ae 3) af ai) (he:=ai) (hpl:=ao)) af bc) ai) (he:=ai) (hpl:=(ak bc ao))) (fun _ _=>rfl)) ah (fun _ _=>rfl)))
  (ap (aS (aE hJ fI (bT y_len (ab (ae 9) af ai) (he:=ai) (hpl:=ao)) ah (aB _)) (ap (cK (qV (ae 9) (ab (ay (ps:=["reel", "many"]) C_law_take (hr.mono (by omega)) (ab (ae 8) (ab (aV (bT y_len (ab (ae 9) af ai) (he:=ai) (hpl:=ao)) ah) af cJ) ai) (he:=ai) (hpl:=(ak cJ ao))) (ab (ay (ps:=["reel", "boxes"]) C_law_statement (hr.mono (by omega)) (ab (ae 8) (ab (ae 2) af ai) ai) (he:=ai) (hpl:=(ak ai ao))) af bc) bc)))) aC)))))
  (ag (au (i:=5) sc_law_filled.nd rfl (Or.inl rfl) (aV (iz (ae 5) (dR (ae 6)) fX) (ci (gW rfl (ls:=["k", ".0"]) (.of (aq cr)) (cR rfl y_range (ab (ay (ps:=["reel", "many"]) C_law_take (hr.mono (by omega)) (ab (ae 4) (ab ah af aD) ai) (he:=ai) (hpl:=(ak aD ao))) af bc)) (fun _ _ _ _=>(aO (i:=0) ju rfl (Or.inl rfl) (.inr rfl))) (bG 2 0 (by decide)) (fun _ _ _ _=>fw) (fun _ _ _ _=>(ay (ps:=["reel", "many"]) C_law_take (hr.mono (by omega)) (ab (ae 6) (ab (ku ah ah) af cJ) ai) (he:=ai) (hpl:=(ak cJ ao)))) trivial))))
  (ap (az (ci (gW rfl (ls:=["cell", ".0"]) (.of (aq cr)) (eF (ae 5)) (fun _ _ _ _=>(aO (i:=0) jt rfl (Or.inl rfl) (.inr rfl))) (bG 2 0 (by decide)) (fun _ _ _ _=>fw) (fun _ _ _ _=>(ay (ps:=["reel"]) C_law_number (hr.mono (by omega)) (ab (ay (ps:=["cell"]) C_law_reel (hr.mono (by omega)) (ab (ae 0) af ai) (he:=ai) (hpl:=ao)) af bc) (he:=bc) (hpl:=ao))) trivial))))))))))
theorem sc_law_inputs:FnScope ["reel", "numbers", "left", "inputs", "k", "size"] ["reel", "numbers"] (aq dg):=⟨rfl,rfl,rfl,by decide+kernel,rfl,by decide+kernel,by decide+kernel⟩
theorem kT {a_law_take:Addr}{d_law_take:FuncData}(y_len:mg "len"=none)(y_list:mg "list"=none)(y_min:mg "min"=none)(y_range:mg "range"=none)(C_law_take:CG P w K mg base 1 "_law_take" a_law_take d_law_take ["reel", "many"] 2 aj)(F:Fun K "_law_inputs" "_law_inputs" dg f fd)(B:Binds K fd ["reel", "numbers"] [])(Mf:mg "_law_inputs"=some (.ref f)):CG P w K mg base 2 "_law_inputs" f fd ["reel", "numbers"] 2 dU:=by
 refine⟨bu (g:=eV) F sc_law_inputs rfl rfl rfl fun cdv A outer s H E hr=>?_,B,F.kp,Mf⟩
 have hu:=bt hr
 have hu6:=hr.units
 exact (ag (au (i:=2) sc_law_inputs.nd rfl (Or.inl rfl) (ci (fB y_list (ab (ae 1) af ai) (he:=ai) (hpl:=ao))))
  (ag (au (i:=3) sc_law_inputs.nd rfl (Or.inl rfl) (fg (bS af)))
  (ag (db PassesOwn.never rfl (cR rfl y_range (ab (ay (ps:=["reel", "many"]) C_law_take (hr.mono (by omega)) (ab (ae 0) (ab ah af aD) ai) (he:=ai) (hpl:=(ak aD ao))) af bc)) (aO (i:=4) sc_law_inputs.nd rfl (Or.inl rfl)) (bG 6 4 (by decide)) (ag (au (i:=5) sc_law_inputs.nd rfl (Or.inl rfl) (ay (ps:=["reel", "many"]) C_law_take (hr.mono (by omega)) (ab (ae 0) (ab (aV (ar hu (ci (bS (ab (bT y_len (ab (ae 2) af ai) (he:=ai) (hpl:=ao)) (ab (ym rfl y_min (ab (bT y_len (ab (ae 2) af ai) (he:=ai) (hpl:=ao)) (ab ah af aD) bc) (he:=bc) (hpl:=(ak aD ao))) af bc) bc))) (eD (ae 4) ah) (fun _ _=>rfl)) ah) af cJ) ai) (he:=ai) (hpl:=(ak cJ ao))))
  (ag (cK (cS (ae 3) (ab (iz (ae 2) fX (dR (ae 5))) af bj)))
  (ap (au (i:=2) sc_law_inputs.nd rfl (Or.inl rfl) (iz (ae 2) (dR (ae 5)) fX))))))
  (ag (aS (aE aZ (aQ hu6) (ay (ps:=["reel", "many"]) C_law_take (hr.mono (by omega)) (ab (ae 0) (ab ah af aD) ai) (he:=ai) (hpl:=(ak aD ao))) ah (aB _)) (ap (cK (cS (ae 3) (ab (ae 2) af ai)))) aC)
  (ag (aS (lH (tL (aE j4 (hW hu6) (ae 3) (ci (bS af)) (aB _)) (pR (aE aZ (aQ hu6) (ay (ps:=["reel", "many"]) C_law_take (hr.mono (by omega)) (ab (ae 0) (ab ah af aD) ai) (he:=ai) (hpl:=(ak aD ao))) ah (aB _))))) (ap (cK (cS (ae 3) (ab (ci (fB y_list (ab (ar hu (ae 3) (ay (ps:=["reel", "many"]) C_law_take (hr.mono (by omega)) (ab (ae 0) (ab (bT y_len (ab (ae 3) af ai) (he:=ai) (hpl:=ao)) af bc) ai) (he:=ai) (hpl:=(ak bc ao))) (fun _ _=>rfl)) af bj) (he:=bj) (hpl:=ao))) af bc)))) aC)
  (ap (az (kC (ae 3)))))))))
theorem lW:FnScope ["found"] ["found"] (aq dG):=⟨rfl,rfl,rfl,by decide+kernel,rfl,by decide+kernel,by decide+kernel⟩
theorem mi (y_bool:mg "bool"=none)(y_int:mg "int"=none)(y_isinstance:mg "isinstance"=none)(F:Fun K "_law_whole" "_law_whole" dG f fd)(B:Binds K fd ["found"] [])(Mf:mg "_law_whole"=some (.ref f)):CG P w K mg base 1 "_law_whole" f fd ["found"] 1 eP:=by
 refine⟨bu (g:=fE) F lW rfl rfl rfl fun cdv A outer s H E hr=>?_,B,F.kp,Mf⟩
 have hu:=bt hr
 have hu6:=hr.units
 exact (ap (az (mD (tY y_isinstance (ab (ae 0) (ab (wS y_int PyProof.Rows.boot_int) af ai) ai) (he:=ai) (hpl:=(ak ai ao))) (o5 (yk (tY y_isinstance (ab (ae 0) (ab (wS y_bool PyProof.Rows.boot_bool) af ai) ai) (he:=ai) (hpl:=(ak ai ao))))))))
theorem sc_law_order:FnScope ["reel", "many", "left", "order"] ["reel", "many"] (aq cY):=⟨rfl,rfl,rfl,by decide+kernel,rfl,by decide+kernel,by decide+kernel⟩
theorem ke:((["k", ".0"]:List Str)++(["reel", "many", "left", "order"]:List Str).map (hid ["k", ".0"])).Nodup:=by decide+kernel
theorem mn {a_law_take:Addr}{d_law_take:FuncData}(y_len:mg "len"=none)(y_range:mg "range"=none)(y_tuple:mg "tuple"=none)(C_law_take:CG P w K mg base 1 "_law_take" a_law_take d_law_take ["reel", "many"] 2 aj)(F:Fun K "_law_order" "_law_order" cY f fd)(B:Binds K fd ["reel", "many"] [])(Mf:mg "_law_order"=some (.ref f)):CG P w K mg base 2 "_law_order" f fd ["reel", "many"] 2 dL:=by
 refine⟨bu (g:=fG) F sc_law_order rfl rfl rfl fun cdv A outer s H E hr=>?_,B,F.kp,Mf⟩
 have hu:=bt hr
 have hu6:=hr.units
 exact (ag (lB (i:=2) sc_law_order.nd rfl rfl rfl (ls:=["k", ".0"]) (.of (aq cY)) (qU rfl y_range (ab ah (ab (ae 1) af ai) aD)) (fun _ _ _ _=>(aO (i:=0) ke rfl (Or.inl rfl) (.inr rfl))) (bG 2 0 (by decide)) (fun _ _ _ _=>fw) (fun _ _ _ _=>(ae 0)) trivial)
  (ag (au (i:=3) sc_law_order.nd rfl (Or.inl rfl) (fg (bS (ab ah af aD))))
  (ag (iw 12 PassesOwn.never (aE j4 (hW hu6) (ae 2) (ci (bS af)) (aB _)) (ap (cK (cS (ae 3) (ab (tX (ae 2) (ab (ay (ps:=["reel", "many"]) C_law_take (hr.mono (by omega)) (ab (ae 0) (ab (bT y_len (ab (ae 2) af ai) (he:=ai) (hpl:=ao)) af bc) ai) (he:=ai) (hpl:=(ak bc ao))) af bc)) af bc)))))
  (ap (az (kr y_tuple (ab (ae 3) af ai) (he:=ai) (hpl:=ao)))))))
theorem sc_law_next:FnScope ["order", "block", "k"] ["order", "block"] (aq d7):=⟨rfl,rfl,rfl,by decide+kernel,rfl,by decide+kernel,by decide+kernel⟩
theorem nQ (y_len:mg "len"=none)(y_range:mg "range"=none)(F:Fun K "_law_next" "_law_next" d7 f fd)(B:Binds K fd ["order", "block"] [])(Mf:mg "_law_next"=some (.ref f)):CG P w K mg base 1 "_law_next" f fd ["order", "block"] 2 dc:=by
 refine⟨bu (g:=gu) F sc_law_next rfl rfl rfl fun cdv A outer s H E hr=>?_,B,F.kp,Mf⟩
 have hu:=bt hr
 have hu6:=hr.units
 exact (ag (db PassesOwn.never rfl (cR rfl y_range (ab (iZ (bT y_len (ab (ae 0) af ai) (he:=ai) (hpl:=ao)) ah) af cJ)) (aO (i:=2) sc_law_next.nd rfl (Or.inl rfl)) (bG 3 2 (by decide)) (ap (aS (aE aZ (aQ hu6) (ar hu (ae 0) (ae 2) (fun _ _=>rfl)) (ae 1) (aB _)) (ap (az (ar hu (ae 0) (aV (ae 2) ah) (fun _ _=>rfl)))) aC)))
  (ap (az (i7 ah))))
theorem sc_law_spent:FnScope ["blocks", "order", "block", "side", "to", "end", "after", "jump"] ["blocks", "order", "block", "side", "to"] (aq dH):=⟨rfl,rfl,rfl,by decide+kernel,rfl,by decide+kernel,by decide+kernel⟩
theorem mj {a_law_next:Addr}{d_law_next:FuncData}(y_int:mg "int"=none)(C_law_next:CG P w K mg base 1 "_law_next" a_law_next d_law_next ["order", "block"] 2 dc)(F:Fun K "_law_spent" "_law_spent" dH f fd)(B:Binds K fd ["blocks", "order", "block", "side", "to"] [])(Mf:mg "_law_spent"=some (.ref f)):CG P w K mg base 2 "_law_spent" f fd ["blocks", "order", "block", "side", "to"] 5 dJ:=by
 refine⟨bu (g:=fF) F sc_law_spent rfl rfl rfl fun cdv A outer s H E hr=>?_,B,F.kp,Mf⟩
 have hu:=bt hr
 have hu6:=hr.units
 exact (ag (au (i:=5) sc_law_spent.nd rfl (Or.inl rfl) (ar hu (ar hu (ae 0) (ae 2) (fun _ _=>rfl)) ah (fun _ _=>rfl)))
  (ag (au (i:=6) sc_law_spent.nd rfl (Or.inl rfl) (ay (ps:=["order", "block"]) C_law_next (hr.mono (by omega)) (ab (ae 1) (ab (ae 2) af ai) ai) (he:=ai) (hpl:=(ak ai ao))))
  (ag (aS (aE aZ (aQ hu6) (ar hu (ae 5) ah (fun _ _=>rfl)) aA (aB _)) (ap (az (aM (ab ah (ab ah af aD) aD)))) aC)
  (ag (au (i:=7) sc_law_spent.nd rfl (Or.inl rfl) (pU y_int (ab (gc j4 (hW hu6) (ae 4) (ae 6) (aB _)) af y6) (he:=y6) (hpl:=ao)))
  (ag (aS (lH (pQ (aE aZ (aQ hu6) (ar hu (ae 5) ah (fun _ _=>rfl)) aA (aB _)) (mt (aE aZ (aQ hu6) (ar hu (ae 5) ah (fun _ _=>rfl)) (ar hu (ae 5) ah (fun _ _=>rfl)) (aB _))))) (ap (az (aM (ab (ae 7) (ab (ae 7) af ai) ai)))) aC)
  (ap (az (aM (ab (aV ah (pU y_int (ab (mD (gc aZ (aQ hu6) (ae 3) ah (aB _)) (mD (gc j4 (hW hu6) (ae 6) (ar hu (ae 5) ah (fun _ _=>rfl)) (aB _)) (o5 (gc j4 (hW hu6) (ae 6) (ar hu (ae 5) ah (fun _ _=>rfl)) (aB _))))) af yZ) (he:=yZ) (hpl:=ao))) (ab (ae 7) af ai) cJ)))))))))
theorem sc_law_rows_done:FnScope ["program", "order", "found", "bound", "rows", "jumps", "at", "block", "side", "to", "one", "other"] ["program", "order", "found", "bound"] (aq cn):=⟨rfl,rfl,rfl,by decide+kernel,rfl,by decide+kernel,by decide+kernel⟩
theorem iU {a_law_spent:Addr}{d_law_spent:FuncData}(y_len:mg "len"=none)(C_law_spent:CG P w K mg base 2 "_law_spent" a_law_spent d_law_spent ["blocks", "order", "block", "side", "to"] 5 dJ)(F:Fun K "_law_rows_done" "_law_rows_done" cn f fd)(B:Binds K fd ["program", "order", "found", "bound"] [])(Mf:mg "_law_rows_done"=some (.ref f)):CG P w K mg base 3 "_law_rows_done" f fd ["program", "order", "found", "bound"] 4 cN:=by
 refine⟨bu (g:=dC) F sc_law_rows_done rfl rfl rfl fun cdv A outer s H E hr=>?_,B,F.kp,Mf⟩
 have hu:=bt hr
 have hu6:=hr.units
 exact (ag (au (i:=4) sc_law_rows_done.nd rfl (Or.inl rfl) ah)
  (ag (au (i:=5) sc_law_rows_done.nd rfl (Or.inl rfl) ah)
  (ag (au (i:=6) sc_law_rows_done.nd rfl (Or.inl rfl) ah)
  (ag (db PassesOwn.never rfl (eF (ar hu (ae 2) ah (fun _ _=>rfl))) (hV rfl (bL (aO (i:=7) sc_law_rows_done.nd rfl (Or.inl rfl)) (bL (aO (i:=8) sc_law_rows_done.nd rfl (Or.inl rfl)) (bL (aO (i:=9) sc_law_rows_done.nd rfl (Or.inl rfl)) fV)))) (uX 12 [7,8,9] (by decide)) (ag (oZ (ay (ps:=["blocks", "order", "block", "side", "to"]) C_law_spent (hr.mono (by omega)) (ab (ar hu (ae 0) ah (fun _ _=>rfl)) (ab (ae 1) (ab (ae 7) (ab (ae 8) (ab (ae 9) af ai) ai) ai) ai) bj) (he:=bj) (hpl:=(ak ai (ak ai (ak ai (ak ai ao)))))) (hV rfl (bL (aO (i:=10) sc_law_rows_done.nd rfl (Or.inl rfl)) (bL (aO (i:=11) sc_law_rows_done.nd rfl (Or.inl rfl)) fV))) (iL 12 [10,11] (by decide)))
  (ag (au (i:=4) sc_law_rows_done.nd rfl (Or.inl rfl) (aV (aV (ae 4) (bT y_len (ab (ar hu (ar hu (ar hu (ae 0) ah (fun _ _=>rfl)) (ae 7) (fun _ _=>rfl)) ah (fun _ _=>rfl)) af bj) (he:=bj) (hpl:=ao))) (ae 10)))
  (ag (au (i:=5) sc_law_rows_done.nd rfl (Or.inl rfl) (aV (ae 5) (ae 11)))
  (ap (au (i:=6) sc_law_rows_done.nd rfl (Or.inl rfl) (ae 9)))))))
  (ag (aS (aE aZ (aQ hu6) (ar hu (ae 2) ah (fun _ _=>rfl)) (aM (ab aA af aD)) (aB _)) (ap (au (i:=4) sc_law_rows_done.nd rfl (Or.inl rfl) (aV (aV (ae 4) (bT y_len (ab (ar hu (ar hu (ar hu (ae 0) ah (fun _ _=>rfl)) (ae 6) (fun _ _=>rfl)) ah (fun _ _=>rfl)) af bj) (he:=bj) (hpl:=ao))) ah))) aC)
  (ag (aS (aE aZ (aQ hu6) (ar hu (ae 2) ah (fun _ _=>rfl)) (aM (ab aA af aD)) (aB _)) (ap (au (i:=4) sc_law_rows_done.nd rfl (Or.inl rfl) (aV (ae 4) (bT y_len (ab (ar hu (ar hu (ar hu (ae 0) ah (fun _ _=>rfl)) (ae 6) (fun _ _=>rfl)) ah (fun _ _=>rfl)) af bj) (he:=bj) (hpl:=ao))))) aC)
  (ap (az (aM (ab (ae 4) (ab (ae 5) af ai) ai))))))))))
theorem sc_law_counted:FnScope ["program", "order", "inputs", "bound", "every", "counted", "total", "k", "block", "side", "to"] ["program", "order", "inputs", "bound"] (aq cB):=⟨rfl,rfl,rfl,by decide+kernel,rfl,by decide+kernel,by decide+kernel⟩
theorem iY:((["one", ".0"]:List Str)++(["program", "order", "inputs", "bound", "every", "counted", "total", "k", "block", "side", "to"]:List Str).map (hid ["one", ".0"])).Nodup:=by decide+kernel
theorem ka {a_ways:Addr}{d_ways:FuncData}{a_counts:Addr}{d_counts:FuncData}{a_law_next:Addr}{d_law_next:FuncData}(y_len:mg "len"=none)(y_list:mg "list"=none)(y_range:mg "range"=none)(C_ways:CG P w K mg base 2 "ways" a_ways d_ways ["program"] 1 gO)(C_counts:CG P w K mg base 11 "counts" a_counts d_counts ["program", "inputs", "bound"] 3 fS)(C_law_next:CG P w K mg base 1 "_law_next" a_law_next d_law_next ["order", "block"] 2 dc)(F:Fun K "_law_counted" "_law_counted" cB f fd)(B:Binds K fd ["program", "order", "inputs", "bound"] [])(Mf:mg "_law_counted"=some (.ref f)):CG P w K mg base 12 "_law_counted" f fd ["program", "order", "inputs", "bound"] 4 dA:=by
 refine⟨bu (g:=eK) F sc_law_counted rfl rfl rfl fun cdv A outer s H E hr=>?_,B,F.kp,Mf⟩
 have hu:=bt hr
 have hu6:=hr.units
 exact (ag (au (i:=4) sc_law_counted.nd rfl (Or.inl rfl) (ay (ps:=["program"]) C_ways (hr.mono (by omega)) (ab (ae 0) af ai) (he:=ai) (hpl:=ao)))
  (ag (au (i:=5) sc_law_counted.nd rfl (Or.inl rfl) (ay (ps:=["program", "inputs", "bound"]) C_counts (hr.mono (by omega)) (ab (ae 0) (ab (ci (gW rfl (ls:=["one", ".0"]) (.of (aq cB)) (eF (ae 2)) (fun _ _ _ _=>(aO (i:=0) iY rfl (Or.inl rfl) (.inr rfl))) (bG 2 0 (by decide)) (fun _ _ _ _=>fw) (fun _ _ _ _=>(ci (fB y_list (ab (ae 0) af ai) (he:=ai) (hpl:=ao)))) trivial)) (ab (ae 3) af ai) qB) ai) (he:=ai) (hpl:=(ak qB (ak ai ao)))))
  (ag (au (i:=6) sc_law_counted.nd rfl (Or.inl rfl) ah)
  (ag (db PassesOwn.never rfl (cR rfl y_range (ab (bT y_len (ab (ae 4) af ai) (he:=ai) (hpl:=ao)) af bc)) (aO (i:=7) sc_law_counted.nd rfl (Or.inl rfl)) (bG 11 7 (by decide)) (ag (oZ (yj (ar hu (ae 4) (ae 7) (fun _ _=>rfl))) (hV rfl (bL (aO (i:=8) sc_law_counted.nd rfl (Or.inl rfl)) (bL (aO (i:=9) sc_law_counted.nd rfl (Or.inl rfl)) (bL (aO (i:=10) sc_law_counted.nd rfl (Or.inl rfl)) fV)))) (iL 11 [8,9,10] (by decide)))
  (ap (aS (lH (pQ (aE aZ (aQ hu6) (ar hu (ar hu (ar hu (ar hu (ae 0) ah (fun _ _=>rfl)) (ae 8) (fun _ _=>rfl)) ah (fun _ _=>rfl)) ah (fun _ _=>rfl)) aA (aB _)) (mt (aE j4 (hW hu6) (ay (ps:=["order", "block"]) C_law_next (hr.mono (by omega)) (ab (ae 1) (ab (ae 8) af ai) ai) (he:=ai) (hpl:=(ak ai ao))) (ae 10) (aB _))))) (ap (au (i:=6) sc_law_counted.nd rfl (Or.inl rfl) (aV (ae 6) (ar hu (ae 5) (ae 7) (fun _ _=>rfl))))) aC))))
  (ap (az (ae 6)))))))
theorem sc_law:FnScope ["script", "program", "numbers", "reel", "bound", "inputs", "order", "rows", "total", "one", "done", "found"] ["script"] (aq io):=⟨rfl,rfl,rfl,by decide+kernel,rfl,by decide+kernel,by decide+kernel⟩
theorem ya {a_law_program:Addr}{d_law_program:FuncData}{a_law_filled:Addr}{d_law_filled:FuncData}{a_law_reel:Addr}{d_law_reel:FuncData}{a_law_cell_at:Addr}{d_law_cell_at:FuncData}{a_law_take:Addr}{d_law_take:FuncData}{a_law_inputs:Addr}{d_law_inputs:FuncData}{a_law_order:Addr}{d_law_order:FuncData}{a_laid:Addr}{d_laid:FuncData}{a_law_rows_done:Addr}{d_law_rows_done:FuncData}{a_run:Addr}{d_run:FuncData}{a_run_rows:Addr}{d_run_rows:FuncData}{a_law_whole:Addr}{d_law_whole:FuncData}{a_law_counted:Addr}{d_law_counted:FuncData}(y_len:mg "len"=none)(y_list:mg "list"=none)(C_law_program:CG P w K mg base 12 "_law_program" a_law_program d_law_program ["script"] 1 dz)(C_law_filled:CG P w K mg base 11 "_law_filled" a_law_filled d_law_filled ["script", "program"] 2 dW)(C_law_reel:CG P w K mg base 1 "_law_reel" a_law_reel d_law_reel ["cell"] 1 aU)(C_law_cell_at:CG P w K mg base 1 "_law_cell_at" a_law_cell_at d_law_cell_at ["script", "k"] 2 aW)(C_law_take:CG P w K mg base 1 "_law_take" a_law_take d_law_take ["reel", "many"] 2 aj)(C_law_inputs:CG P w K mg base 2 "_law_inputs" a_law_inputs d_law_inputs ["reel", "numbers"] 2 dU)(C_law_order:CG P w K mg base 2 "_law_order" a_law_order d_law_order ["reel", "many"] 2 dL)(C_laid:CG P w K mg base 4 "laid" a_laid d_laid ["program", "order"] 2 kK)(C_law_rows_done:CG P w K mg base 3 "_law_rows_done" a_law_rows_done d_law_rows_done ["program", "order", "found", "bound"] 4 cN)(C_run:CG P w K mg base 10 "run" a_run d_run ["program", "numbers", "bound"] 3 kJ)(C_run_rows:CG P w K mg base 10 "run_rows" a_run_rows d_run_rows ["boxes", "rows", "numbers", "bound"] 4 fk)(C_law_whole:CG P w K mg base 1 "_law_whole" a_law_whole d_law_whole ["found"] 1 eP)(C_law_counted:CG P w K mg base 12 "_law_counted" a_law_counted d_law_counted ["program", "order", "inputs", "bound"] 4 dA)(F:Fun K "law" "law" io f fd)(B:Binds K fd ["script"] [])(Mf:mg "law"=some (.ref f)):CG P w K mg base 13 "law" f fd ["script"] 1 lK:=by
 refine⟨bu (g:=p6) F sc_law rfl rfl rfl fun cdv A outer s H E hr=>?_,B,F.kp,Mf⟩
 have hu:=bt hr
 have hu6:=hr.units
 exact (ag (au (i:=1) sc_law.nd rfl (Or.inl rfl) (ay (ps:=["script"]) C_law_program (hr.mono (by omega)) (ab (ae 0) af ai) (he:=ai) (hpl:=ao)))
  (ag (au (i:=2) sc_law.nd rfl (Or.inl rfl) (ay (ps:=["script", "program"]) C_law_filled (hr.mono (by omega)) (ab (ae 0) (ab (ae 1) af ai) ai) (he:=ai) (hpl:=(ak ai ao))))
  (ag (au (i:=3) sc_law.nd rfl (Or.inl rfl) (ay (ps:=["cell"]) C_law_reel (hr.mono (by omega)) (ab (aV (mz (ay (ps:=["script", "k"]) C_law_cell_at (hr.mono (by omega)) (ab (ae 0) (ab ah af aD) ai) (he:=ai) (hpl:=(ak aD ao))) ah) ah) af cJ) (he:=cJ) (hpl:=ao)))
  (ag (au (i:=4) sc_law.nd rfl (Or.inl rfl) (aV ah (ay (ps:=["reel", "many"]) C_law_take (hr.mono (by omega)) (ab (ae 3) (ab ah af aD) ai) (he:=ai) (hpl:=(ak aD ao)))))
  (ag (au (i:=5) sc_law.nd rfl (Or.inl rfl) (ay (ps:=["reel", "numbers"]) C_law_inputs (hr.mono (by omega)) (ab (ae 3) (ab (ae 2) af ai) ai) (he:=ai) (hpl:=(ak ai ao))))
  (ag (au (i:=6) sc_law.nd rfl (Or.inl rfl) (ay (ps:=["reel", "many"]) C_law_order (hr.mono (by omega)) (ab (ae 3) (ab (bT y_len (ab (ar hu (ae 1) ah (fun _ _=>rfl)) af bj) (he:=bj) (hpl:=ao)) af bc) ai) (he:=ai) (hpl:=(ak bc ao))))
  (ag (au (i:=7) sc_law.nd rfl (Or.inl rfl) (ay (ps:=["program", "order"]) C_laid (hr.mono (by omega)) (ab (ae 1) (ab (ae 6) af ai) ai) (he:=ai) (hpl:=(ak ai ao))))
  (ag (au (i:=8) sc_law.nd rfl (Or.inl rfl) ah)
  (ag (db PassesOwn.never rfl (eF (ae 5)) (aO (i:=9) sc_law.nd rfl (Or.inl rfl)) (bG 12 9 (by decide)) (ag (au (i:=10) sc_law.nd rfl (Or.inl rfl) (ar hu (ay (ps:=["program", "order", "found", "bound"]) C_law_rows_done (hr.mono (by omega)) (ab (ae 1) (ab (ae 6) (ab (ay (ps:=["program", "numbers", "bound"]) C_run (hr.mono (by omega)) (ab (ae 1) (ab (ci (fB y_list (ab (ae 9) af ai) (he:=ai) (hpl:=ao))) (ab (ae 4) af ai) bc) ai) (he:=ai) (hpl:=(ak bc (ak ai ao)))) (ab (ae 4) af ai) bc) ai) ai) (he:=ai) (hpl:=(ak ai (ak bc (ak ai ao))))) ah (fun _ _=>rfl)))
  (ap (aS (aE wP sX (ae 10) ah (aB _)) (ag (au (i:=11) sc_law.nd rfl (Or.inl rfl) (ay (ps:=["boxes", "rows", "numbers", "bound"]) C_run_rows (hr.mono (by omega)) (ab (ci (fB y_list (ab (ar hu (ae 1) ah (fun _ _=>rfl)) af bj) (he:=bj) (hpl:=ao))) (ab (ci (fB y_list (ab (ae 7) af ai) (he:=ai) (hpl:=ao))) (ab (ci (fB y_list (ab (ae 9) af ai) (he:=ai) (hpl:=ao))) (ab (ae 10) af ai) bc) bc) bc) (he:=bc) (hpl:=(ak bc (ak bc (ak ai ao))))))
  (ag (aS (tU (ie (ay (ps:=["found"]) C_law_whole (hr.mono (by omega)) (ab (ar hu (ae 11) ah (fun _ _=>rfl)) af bj) (he:=bj) (hpl:=ao)))) (ap (az t4)) aC)
  (ap (au (i:=8) sc_law.nd rfl (Or.inl rfl) (aV (ae 8) (ar hu (ae 11) ah (fun _ _=>rfl))))))) aC))))
  (ap (az (gc aZ (aQ hu6) (ae 8) (ay (ps:=["program", "order", "inputs", "bound"]) C_law_counted (hr.mono (by omega)) (ab (ae 1) (ab (ae 6) (ab (ae 5) (ab (ae 4) af ai) ai) ai) ai) (he:=ai) (hpl:=(ak ai (ak ai (ak ai ao))))) (aB _)))))))))))))
end
end Q
set_option maxHeartbeats 1000000
namespace Q
open PySem L2
local macro_rules | `(tactic| simp! only [$xs,*]) => `(tactic| try simp only [finF,bq,bX,bV,bZ,bY,bP,cV,cW,sFor,mMet,aI,sAug,sAugW,sFldW,tupW,sRet,sSet,sNil,sEx,sPass,bQ,sCont,sUnp,be,mB,L2.m2,L2.m1,L2.m3,mVar,mC,mCall,mCons,mNil,mTup,mTl,mNew,lenG,listL,mPart,aP,mAnd,mOr,mNot,mAndV,mOrV,mNotV,mIf,bU,mMeth,isS,mSrc,mSrcA,srcL,srcT,srcS,tgN,tgT,setW,mYes,bh,bd_no,asB_bl,addW_int,subW_int,ltW_int,leW_int,gtW_int,geW_int,eqW_int,eqW_str,neW_int,neW_str,neW_bl,slW_tl,slW_cl,lenW_tl,lenW_tup,negW,List.set_cons_zero,List.set_cons_succ,List.getElem?_cons_zero,List.getElem?_cons_succ,List.length_cons,List.length_nil,arW,if_true,if_false,Bool.false_eq_true,ite_true,ite_false,reduceIte,decide_true,decide_false,Bool.not_true,Bool.not_false,cU,gdn0,gdn1,gdn2,gdn3,gdn4,gdn5,gdn6,gdn7,gdn8,gdn9,gdn10,gdn11,gdn12,gdn13,gdn14,gdn15,gdn16,gdn17,gdn18,gdn19,gdn20,gdn21,gdn22,gdn23,gdn24,$xs,*])
local macro_rules | `(tactic| simp!) => `(tactic| simp! only [aa])
section
noncomputable def Reel (h:List Ob)(j:Nat):Prop:= ∃a b:Int,h[j]?=some (.lst [.int a,.int b])
structure Kp (j:Nat)(h h':List Ob):Prop where
 fr:Fr j h h'
 re:Reel h' j
theorem Kp.trans {j:Nat}{a b c:List Ob}(x:Kp j a b)(y:Kp j b c):Kp j a c:=⟨x.fr.trans y.fr,y.re⟩
theorem Kp.refl {j:Nat}{h:List Ob}(R:Reel h j):Kp j h h:=⟨Fr.refl _ _,R⟩
theorem cp10:CPow 10 18:=⟨by decide,by decide,by decide⟩
theorem lU {h:List Ob}{j:Nat}{m:Int}(R:Reel h j)(hm:0<m)(hz:m<2 ^ 200):Ok (aj [.loc j,.int m]) h fun w h'=> ∃v:Int,w=.int v/\0<=v/\v<m/\Kp j h h':=by
 obtain⟨a,b,e⟩:=R
 have e0:aj [.loc j,.int m]=bd (gq [some (.loc j),some (.int m),none,none]) finF:=rfl
 rw[e0]
 unfold gq
 simp! only[aa,jW cp10]
 refine jj e (w:=.int a) rfl ?_
 by_cases hc:10 ^ (18:Int).toNat<=a
 ·simp! only[aa,decide_eq_true hc]
  refine jj e (w:=.int a) rfl ?_
  simp! only[aa,cM hm]
  refine jj e (w:=.int a) rfl ?_
  simp! only[aa,jd hm hz]
  refine wQ e (i:=0) rfl ?_
  simp!
  exact av ⟨a % m,rfl,Int.emod_nonneg _ (by omega),Int.emod_lt_of_pos _ hm,Fr.set,_,_,bA e⟩
 ·simp! only[aa,decide_eq_false hc]
  refine jj e (w:=.int b) rfl ?_
  simp! only[aa,gK (oY (i:=b) (j:=48271) (by decide) (by decide)),cM (show (0:Int)<2147483647 by decide)]
  generalize hx:(b * 48271+11) % 2147483647=x
  have b0:0<=x:=by rw[<-hx];exact Int.emod_nonneg _ (by decide)
  have b1:x<2147483647:=by rw[<-hx];exact Int.emod_lt_of_pos _ (by decide)
  refine wQ e (i:=1) rfl ?_
  have e':(h.set j (.lst ([.int a,.int b].set 1 (.int x))))[j]?=some (.lst [.int a,.int x]):=bA e
  simp!
  refine jj e' (w:=.int x) rfl ?_
  simp!
  refine jj e' (w:=.int x) rfl ?_
  simp! only[aa,gK (yf (i:=x) (j:=x) (by omega) (by omega)),cM (show (0:Int)<2147483629 by decide),gK (oY (i:=x * x % 2147483629) (j:=69621) (by decide) (by decide)),cM (show (0:Int)<2147483587 by decide),jd (show (0:Int)<8 by decide) (by decide),cM hm]
  exact av ⟨_,rfl,Int.emod_nonneg _ (by omega),Int.emod_lt_of_pos _ hm,Fr.set,_,_,e'⟩
section
variable {β:Type}{h:List Ob}{k:W->M β}{Q:β->List Ob->Prop}{j:Nat}{m:Int}
theorem aK (R:Reel h j)(hm:0<m)(hz:m<2 ^ 200)(q:∀v h',0<=v->v<m->Kp j h h'->Ok (k (.int v)) h' Q):Ok (bd (aj [.loc j,.int m]) k) h Q:=
 aY (lU R hm hz) fun w h' ⟨v,e,a,b,K⟩=>by subst e;exact q v h' a b K
theorem uS (i:Int):absW [.int i]=pr (.int (if i<0 then -i else i)):=rfl
theorem ii {c:Int}(q:∀a b:Int,Ok (k (.loc h.length)) (h++[.lst [.int a,.int b]]) Q):Ok (bd (aU [.int c]) k) h Q:=by
 have e0:aU [.int c]=bd (gr [some (.int c)]) finF:=rfl
 rw[e0]
 unfold gr
 simp! only[aa,uS,cM (show (0:Int)<2147483647 by decide),gK (oY (i:=c % 2147483647+1) (j:=742938285) (by decide) (by decide))]
 refine eB ?_
 simp!
 exact q _ _
end
theorem yD {l:List W}{i:Int}{w:W}(h:atI l i=some w):ixW (.cl l) (.int i)=pr w:=by
 funext hh
 unfold ixW
 have:ixO (.cl l) (.int i) hh=some w:=h
 rw[this];rfl
theorem pW (l:List W):lenW [.cl l]=pr (.int l.length):=rfl
theorem jC (ns:List Int)(i:Int)(h0:0<=i): ∃c:Int,aW [.cl (ns.map W.int),.int i]=pr (.int c):=by
 have e0:aW [.cl (ns.map W.int),.int i]=bd (eL [some (.cl (ns.map W.int)),some (.int i)]) finF:=rfl
 rw[e0]
 unfold eL
 by_cases hc:i<((ns.map W.int).length:Int)
 ·have q:=km W.int ns 0 h0 (by rw[List.length_map] at hc;exact hc)
  refine⟨ns.getD i.toNat 0,?_⟩
  simp! only[aa,pW,decide_eq_true hc,yD q]
 ·refine⟨0,?_⟩
  simp! only[aa,pW,decide_eq_false hc]
end
set_option maxHeartbeats 1000000
section
theorem eqT1 {a b:Str}{h:List Ob}(ha:PyData.canLay0 (.str a)=true)(hb:PyData.canLay0 (.str b)=true):eqB (.tup [.str a]) (.tup [.str b]) h=some (PyData.eqvAll [.str a] [.str b]):=
 uz (ds:=[.str a]) (es:=[.str b]) rfl rfl (by rw[PyData.canLayAll0,ha,PyData.canLayAll0];rfl) (by rw[PyData.canLayAll0,hb,PyData.canLayAll0];rfl)
theorem eqvS (a b:Str):PyData.eqvAll [.str a] [.str b]=decide (a=b):=by
 rw[PyData.eqvAll,PyData.eqv,PyData.eqvAll,Bool.and_true]
 first
  |rfl
  |exact Bool.eq_iff_iff.mpr (by simp)
theorem can3: ∀a∈(["on", "stop", "out"]:List Str),PyData.canLay0 (.str a)=true:=by
 intro a ha
 rw[PyData.canLay0]
 revert a
 decide+kernel
theorem lM {a b:Str}(ha:a∈(["on", "stop", "out"]:List Str))(hb:b∈(["on", "stop", "out"]:List Str)):eqW (.tup [.str a]) (.tup [.str b])=pr (.bl (decide (a=b))):=yK fun h=>by rw[eqT1 (can3 a ha) (can3 b hb),eqvS]
theorem mL:("stop":Str)∈(["on", "stop", "out"]:List Str):=by simp
theorem pc:("out":Str)∈(["on", "stop", "out"]:List Str):=by simp
theorem int_bl' (k:Bool):intW [.bl k]=pr (.int (if k=true then 1 else 0)):=rfl
end
set_option maxHeartbeats 1000000
section
noncomputable def LT:Str:= "abcdefghijklmnopqrstuvwxyz"
def wds:List Str:=["box", "block", "put", "say", "ask", "go", "if", "else", "table", "stop"]
def menu:List Str:=["", "", "zz", "qrst", "box", "block", "put", "say", "ask", "go", "if", "else", "table", "stop"]
noncomputable def mkS (l:List Nat):Str:=⟨l.toArray⟩
theorem iy (l:List Nat):(mkS l).cps.toList=l:=by simp [mkS]
theorem jy (l:List Nat):(mkS l).length=l.length:=by show l.toArray.size=_;simp
theorem yg (z:Str):mkS z.cps.toList=z:=by cases z;simp [mkS]
theorem pS (a b:List Nat):mkS a++mkS b=mkS (a++b):=by
 show (⟨a.toArray++b.toArray⟩:Str)=⟨(a++b).toArray⟩
 rw[List.append_toArray]
theorem vW {a b:List Nat}(h:mkS a=mkS b):a=b:=by rw[<-iy a,h,iy]
structure Nm (z:Str):Prop where
 len:z.length<=20
 sm: ∀c∈z.cps.toList,c<128
theorem vZ: ∀z∈menu,z.length<=5/\ ∀c∈z.cps.toList,c<128:=by decide+kernel
theorem ux: ∀i:Fin 26,Txt.find LT ⟨#[97+i.val]⟩=(i.val:Int):=by decide+kernel
theorem wc:LT.cps.toList=List.range' 97 26:=by decide+kernel
theorem t8:LT.length=26:=by decide+kernel
theorem wU {i:Int}(h0:0<=i)(h1:i<26):atI LT.cps.toList i=some (97+i.toNat):=by
 refine eO h0 ?_
 rw[wc,List.getElem?_range' (by omega)]
 simp
theorem sz {n:Nat}(h:n<=100000):n<=sizeLine:=Nat.le_trans h (by decide)
theorem t5 (i j:Int):maxW [.int i,.int j]=pr (.int (if j>i then j else i)):=rfl
theorem pV (l:List W):lstO (.tl l)=pr l:=rfl
theorem gdw {α:Type}(m:M α):gd (0+1+1+1+1+(wds.map W.str).length<=sizeLine) m=m:=aG (by decide)
def envN (j kn:Nat)(a b c:Option W):Env':=[some (.loc j),some (.int 14),some (.str LT),some (.tl (wds.map W.str)),some (.loc kn),a,b,c]
def nmS (p:List Nat)(q:Nat):Str:=mkS (p++[97+q % 26])
def badN (p:List Nat)(zs:List Str)(q:Nat):Prop:=nmS p q∈zs\/nmS p q∈wds
def tN:Env'->M Bool:=(mOr (mB (L2.m2 inW (mVar 6) (mVar 4))) (mB (L2.m2 inW (mVar 6) (mVar 3))))
def bN:Env'->M Fl:=(sSet 6 (L2.m2 addW (m3 slW (mVar 6) aP (mPart (m1 negW (mC (.int 1))))) (L2.m2 ixW (mVar 2) (L2.m2 modW (L2.m2 addW (mMeth isS findW (mVar 2) (mCons (L2.m2 ixW (mVar 6) (m1 negW (mC (.int 1)))) mNil)) (mC (.int 1))) (mC (.int 26))))))
theorem wL {h:List Ob}{j kn:Nat}{a c:Option W}{zs:List Str}{z:Str}(e:h[kn]?=some (.lst (zs.map W.str))):Ok (tN (envN j kn a (some (.str z)) c)) h fun b h'=>(b=true↔ (z∈zs\/z∈wds))/\h'=h:=by
 unfold tN
 simp! only[envN,aa]
 refine zi e ?_
 by_cases m1:z∈zs
 ·simp! only[aa,decide_eq_true m1]
  exact av ⟨⟨fun _=>.inl m1,fun _=>rfl⟩,rfl⟩
 ·simp! only[aa,decide_eq_false m1,wx]
  refine av ⟨⟨fun q=>.inr (of_decide_eq_true q),fun q=>decide_eq_true (q.resolve_left m1)⟩,rfl⟩
theorem zw {h:List Ob}{j kn:Nat}{a c:Option W}{p:List Nat}{q:Nat}(hp:p.length<=30):Ok (bN (envN j kn a (some (.str (nmS p q))) c)) h fun x h'=>x=.nx (envN j kn a (some (.str (nmS p (q+1)))) c)/\h'=h:=by
 have hl:(nmS p q).length=p.length+1:=by unfold nmS;rw[jy];simp
 have hz:(nmS p q).length<=sizeLine:=sz (by omega)
 have sl:StrLaws.sliceText (nmS p q) none (some (-1))=mkS p:=by
  rw[StrLaws.sliceText_to_neg (by decide) (by omega),hl]
  unfold nmS
  rw[iy,List.drop_zero,show (-1+((p.length+1:Nat):Int) - 0).toNat=p.length by omega,List.take_left' rfl]
  rfl
 have ixl:atI (nmS p q).cps.toList (-1)=some (97+q % 26):=by unfold nmS;rw[iy];exact iJ _ _
 have fd:findW (.str LT) [.str ⟨#[97+q % 26]⟩]=pr (.int ((q % 26:Nat):Int)):=by
  show pr (W.int (Txt.find LT ⟨#[97+q % 26]⟩))=_
  rw[ux ⟨q % 26,Nat.mod_lt _ (by decide)⟩]
 have at1:atI LT.cps.toList ((((q % 26:Nat):Int)+1) % 26)=some (97+(q+1) % 26):=by
  rw[wU (by omega) (by omega)]
  congr 2
  omega
 have ad:mkS p++(⟨#[97+(q+1) % 26]⟩:Str)=nmS p (q+1):=pS p [97+(q+1) % 26]
 have as:addW (.str (mkS p)) (.str ⟨#[97+(q+1) % 26]⟩)=pr (.str (nmS p (q+1))):=by
  rw[oE (by rw[jy];show p.length+1<=_;exact sz (by omega)),ad]
 unfold bN
 simp! only[envN,aa,u7 hz,sl,eG hz ixl,fd,cM (show (0:Int)<26 by decide),eG (sz (Nat.le_trans (Nat.le_of_eq t8) (by decide))) at1,as]
 exact av ⟨rfl,rfl⟩
theorem m6 {h:List Ob}{j kn:Nat}{a c:Option W}{zs:List Str}{p:List Nat}(e:h[kn]?=some (.lst (zs.map W.str)))(hp:p.length<=30): ∀ (r n q:Nat),r<n->(∀i,i<r->badN p zs (q+i))-> ¬badN p zs (q+r)->
  Ok (bM tN bN n (envN j kn a (some (.str (nmS p q))) c)) h fun x h'=>x=.nx (envN j kn a (some (.str (nmS p (q+r)))) c)/\h'=h
 |0,n+1,q,_,_,g=>by
  unfold bM
  refine aY (wL e) fun b h' qq_=>?_
  obtain⟨hb,e2⟩:=qq_
  subst e2
  have:b=false:=by
   cases b with
   |false=>rfl
   |true=>exact absurd (hb.mp rfl) g
  subst this
  exact av ⟨rfl,rfl⟩
 |r+1,n+1,q,hr,b,g=>by
  unfold bM
  refine aY (wL e) fun t h' qq_=>?_
  obtain⟨hb,e2⟩:=qq_
  subst e2
  have:t=true:=hb.mpr (b 0 (by omega))
  subst this
  rw[if_pos rfl]
  refine aY (zw hp) fun x h2 qq_=>?_
  obtain⟨e3,e4⟩:=qq_
  subst e3 e4
  have:=m6 (j:=j) (a:=a) (c:=c) e hp r n (q+1) (by omega) (fun i hi=>by have:=b (i+1) (by omega);rwa[show q+1+i=q+(i+1) by omega]) (by rwa[show q+1+r=q+(r+1) by omega])
  rw[show q+1+r=q+(r+1) by omega] at this
  exact this
theorem wz (p:List Nat)(zs:List Str)(q:Nat)(hz:zs.length<=13): ∃r,r<26/\ ¬badN p zs (q+r):=by
 by_cases H: ∃r,r<26/\ ¬badN p zs (q+r)
 ·exact H
 ·exfalso
  have all: ∀r,r<26->badN p zs (q+r):=fun r hr=>Classical.byContradiction fun n=>H ⟨r,hr,n⟩
  have nd:((List.range 26).map fun r=>nmS p (q+r)).Nodup:=by
   show List.Pairwise (· ≠ ·) _
   rw[List.pairwise_map]
   refine List.Pairwise.imp_of_mem (R:=(· ≠ ·)) (fun{a b} ha hb hn he=>hn ?_) List.nodup_range
   have ha:=List.mem_range.mp ha
   have hb:=List.mem_range.mp hb
   have h1:=vW he
   have h2:=List.append_cancel_left h1
   have h3:=(List.cons.inj h2).1
   omega
  have:=lA _ (zs++wds) nd fun x hx=>by
   obtain⟨r,hr,rfl⟩:=List.mem_map.mp hx
   exact List.mem_append.mpr (all r (List.mem_range.mp hr))
  rw[List.length_map,List.length_range,List.length_append] at this
  have hw:wds.length=10:=rfl
  omega
theorem Nm.nmS {p:List Nat}{q:Nat}(hp:p.length<=19)(h:∀c∈p,c<128):Nm (nmS p q):=⟨by unfold Q.nmS;rw[jy];simp;omega,fun c hc=>by
 unfold Q.nmS at hc
 rw[iy,List.mem_append] at hc
 rcases hc with hc|hc
 ·exact h c hc
 ·have:c=97+q % 26:=by simpa using hc
  omega⟩
theorem tK {h:List Ob}{j:Nat}(R:Reel h j):Ok (dM [.loc j,.int 14]) h fun w _=> ∃zs:List Str,w=.tl (zs.map W.str)/\zs.length=14/\ ∀z∈zs,Nm z:=by
 have e0:dM [.loc j,.int 14]=bd (fH [some (.loc j),some (.int 14),none,none,none,none,none,none]) finF:=rfl
 have hj:j≠h.length:=by obtain⟨_,_,e⟩:=R;exact Nat.ne_of_lt (cj e)
 rw[e0]
 unfold fH
 simp!
 refine eB ?_
 simp! only[sFor,aa,du (show (-(2 ^ 62):Int)<=14 by decide) (show (14:Int)<2 ^ 62 by decide)]
 refine eC (I:=fun i ρ h'=> ∃a b c zs,ρ=envN j h.length a b c/\Reel h' j/\h'[h.length]?=some (.lst (zs.map W.str))/\zs.length=i/\ ∀z∈zs,Nm z) ⟨none,none,none,[],rfl,⟨_,_,cL R.choose_spec.choose_spec⟩,bE,rfl,by simp⟩ (fun _ _ _ _=>trivial) (fun i w ρ h1 hw I=>?_) fun ρ h1 I=>?_
 ·obtain⟨a,b,c,zs,rfl,R1,ez,el,hzs⟩:=I
  obtain⟨rfl,hi⟩:=dw _ _ _ _ hw
  have hi:i<14:=hi
  refine⟨_,rfl,?_⟩
  simp! only[envN,aa,catL,pV,gdw]
  refine aK R1 (by decide) (by decide) fun v h2 v0 v1 K2=>?_
  obtain⟨z,hz,e1⟩: ∃z∈menu,atI ([W.str "",W.str "",W.str "zz",W.str "qrst"]++wds.map W.str) v=some (.str z):=by
   obtain⟨y,hy,e⟩:=gA (l:=menu.map W.str) v0 v1
   obtain⟨z,hz,rfl⟩:=List.mem_map.mp hy
   exact⟨z,hz,e⟩
  obtain⟨zl,zc⟩:=vZ z hz
  simp! only[sFor,aa,fj e1,ua (sz (Nat.le_trans zl (by decide))),t5]
  obtain⟨mx,hmx⟩: ∃mx:Int,(if (z.length:Int)>4 then (z.length:Int) else 4)=mx:=⟨_,rfl⟩
  have m0:4<=mx/\mx<=5:=by rw[<-hmx];split<;>omega
  rw[hmx]
  simp!
  refine aK K2.re (by omega) (Int.lt_of_le_of_lt (show 8 - mx<=4 by omega) (by decide)) fun v2 h3 v20 v21 K3=>?_
  simp! only[sFor,aa,du (show (-(2 ^ 62):Int)<=1+v2 by omega) (show (1+v2:Int)<2 ^ 62 by omega)]
  have K13:Kp j h1 h3:=K2.trans K3
  refine eC (I:=fun n ρ h'=> ∃l c,ρ=envN j h.length (some (.int (0+(i:Int)))) (some (.str (mkS l))) c/\Kp j h1 h'/\l.length<=5+n/\(∀c∈l,c<128)/\(0<n-> ∃p q,l=p++[97+q]/\q<26)) ⟨z.cps.toList,c,by rw[yg];rfl,K13,by rw[show z.cps.toList.length=z.length by simp [Str.length]];exact zl,zc,fun n=>absurd n (Nat.lt_irrefl _)⟩ (fun _ _ _ _=>trivial) (fun n w ρ h4 hw I=>?_) fun ρ h4 I=>?_
  ·obtain⟨l,c,rfl,K4,ll,lc,_⟩:=I
   obtain⟨rfl,hn⟩:=dw _ _ _ _ hw
   refine⟨_,rfl,?_⟩
   simp! only[envN,aa]
   refine aK K4.re (by decide) (by decide) fun v5 h5 v50 v51 K5=>?_
   have as:addW (.str (mkS l)) (.str ⟨#[97+v5.toNat]⟩)=pr (.str (mkS (l++[97+v5.toNat]))):=by
    rw[oE (by rw[jy];show l.length+1<=_;exact sz (by omega))]
    exact congrArg (fun x=>pr (W.str x)) (pS l [97+v5.toNat])
   simp! only[aa,eG (sz (Nat.le_trans (Nat.le_of_eq t8) (by decide))) (wU v50 v51),as]
   refine av ⟨_,rfl,l++[97+v5.toNat],_,rfl,K4.trans K5,by rw[List.length_append];show l.length+1<=_;omega,fun c hc=>?_,fun _=>⟨l,v5.toNat,rfl,by omega⟩⟩
   rcases List.mem_append.mp hc with hc|hc
   ·exact lc c hc
   ·have:c=97+v5.toNat:=by simpa using hc
    omega
  ·obtain⟨l,c,rfl,K4,ll,lc,lq⟩:=I
   rw[bK] at ll lq
   obtain⟨p,q,rfl,hq⟩:=lq (by omega)
   have hp:p.length<=19:=by
    rw[List.length_append] at ll
    have:[97+q].length=1:=rfl
    omega
   have ez4:h4[h.length]?=some (.lst (zs.map W.str)):=(K4.fr.eq _ (Ne.symm hj)).trans ez
   obtain⟨r,hr,hg,hb⟩:=least (wz p zs q (by omega))
   have ee:mkS (p++[97+q])=nmS p q:=by unfold nmS;rw[Nat.mod_eq_of_lt hq]
   rw[ee]
   simp!
   refine aY (m6 (a:=some (.int (0+(i:Int)))) (c:=c) ez4 (by omega) r 30 q (by omega) (fun i hi=>Classical.byContradiction (hb i hi)) hg) fun x h5 qq_=>?_
   obtain⟨e3,e4⟩:=qq_
   subst e3 e4
   simp! only[envN,aa]
   refine dQ ez4 ?_
   simp!
   refine fJ ez4 (by rw[List.length_map];exact Nat.lt_of_le_of_lt (show zs.length<=14 by omega) (by decide)) ?_
   simp!
   have hK:=K4.re
   obtain⟨a',b',e5⟩:=hK
   refine av ⟨_,rfl,_,_,_,zs++[nmS p (q+r)],rfl,⟨a',b',by rw[List.getElem?_set_ne (Ne.symm hj)];exact e5⟩,?_,by rw[List.length_append,el];rfl,fun y hy=>?_⟩
   ·rw[bA ez4,List.map_append];rfl
   ·rcases List.mem_append.mp hy with hy|hy
    ·exact hzs y hy
    ·have:y=nmS p (q+r):=by simpa using hy
     rw[this]
     exact Nm.nmS hp fun c hc=>lc c (List.mem_append.mpr (.inl hc))
 ·obtain⟨a,b,c,zs,rfl,R1,ez,el,hzs⟩:=I
  simp! only[envN,aa]
  refine ib ez ?_
  simp!
  exact av ⟨zs,rfl,by rw[el,bK];rfl,hzs⟩
end
set_option maxHeartbeats 1000000
section
noncomputable def bxW (p:Str×Int):W:=.tup [.str p.1,.int p.2]
structure Bx (ps:List (Str×Int)):Prop where
 len:ps.length<=4
 nm: ∀p∈ps,Nm p.1
theorem canS {z:Str}(h:∀c∈z.cps.toList,c<128):PyData.canLay0 (.str z)=true:=by
 rw[PyData.canLay0]
 show z.cps.all (fun x=>decide (x<0x110000))=true
 rw[<-Array.all_toList,List.all_eq_true]
 intro c hc
 have:=h c hc
 exact decide_eq_true (by omega)
theorem yJ {ps:List (Str×Int)}(B:Bx ps)(h:List Ob):eqB (.tl (ps.map bxW)) (.tl []) h=some ps.isEmpty:=by
 rw[rE (ds:=ps.map fun p=>PyData.tuple [.str p.1,.int p.2]) (es:=[]) (eA (f:=dataH h 49) (g:=bxW) (k:=fun p=>PyData.tuple [.str p.1,.int p.2]) (fun a=>rfl) ps) rfl (jf ps fun p hp=>?_) (by rw[PyData.canLayAll0])]
 ·cases ps with
  |nil=>rw[List.map_nil,PyData.eqvAll];rfl
  |cons a b=>rw[List.map_cons,PyData.eqvAll];rfl
 ·rw[PyData.canLay0,PyData.canLayAll0,canS (B.nm p hp).sm,PyData.canLayAll0,PyData.canLay0,PyData.canLayAll0];rfl
theorem bx0 (p:Str×Int):ixW (bxW p) (.int 0)=pr (.str p.1):=dh (l:=[.str p.1,.int p.2]) rfl
def Lb (h:List Ob)(j:Nat)(x:W)(ps:List (Str×Int)):Prop:=x=.tl (ps.map bxW)\/ ∃k,x=.loc k/\k≠j/\h[k]?=some (.lst (ps.map bxW))
section
variable {h h':List Ob}{j:Nat}{x:W}{ps:List (Str×Int)}
theorem Lb.lw (L:Lb h j x ps):Lw h x (ps.map bxW):=by
 rcases L with e|⟨k,e,_,q⟩
 ·exact .inl e
 ·exact .inr ⟨k,e,q⟩
theorem Lb.kp (L:Lb h j x ps)(K:Kp j h h'):Lb h' j x ps:=by
 rcases L with e|⟨k,e,n,q⟩
 ·exact .inl e
 ·exact .inr ⟨k,e,n,(K.fr.eq k n).trans q⟩
theorem wV (B:Bx ps)(L:Lb h j x ps):eqB x (.tl []) h=some ps.isEmpty:=by
 rcases L with rfl|⟨i,rfl,_,e⟩
 ·exact yJ B h
 ·have o1:optL (dataH h 49) (ps.map bxW)=some (ps.map fun p=>PyData.tuple [.str p.1,.int p.2]):=eA (f:=dataH h 49) (g:=bxW) (k:=fun p=>PyData.tuple [.str p.1,.int p.2]) (fun a=>rfl) ps
  have x1:dataH h 50 (.loc i)=some (.list (ps.map fun p=>PyData.tuple [.str p.1,.int p.2])):=by
   show (match h[i]? with
    |some (.lst l)=>(optL (dataH h 49) l).map PyData.list
    |_=>none)=_
   simp only[e,o1];rfl
  have ca:PyData.canLayAll0 (ps.map fun p=>PyData.tuple [.str p.1,.int p.2])=true:=jf ps fun p hp=>by
   rw[PyData.canLay0,PyData.canLayAll0,canS (B.nm p hp).sm,PyData.canLayAll0,PyData.canLay0,PyData.canLayAll0];rfl
  show (match dataH h 50 (.loc i),dataH h 50 (.tl []) with
   |some d,some e=>if d.canLay0=true/\e.canLay0=true then some (PyData.eqv d e) else none
   |_,_=>none)=_
  rw[x1,show dataH h 50 (.tl [])=some (.list []) from rfl]
  show (if (PyData.list (ps.map fun p=>PyData.tuple [.str p.1,.int p.2])).canLay0=true/\(PyData.list []).canLay0=true then some (PyData.eqv (.list (ps.map fun p=>PyData.tuple [.str p.1,.int p.2])) (.list [])) else none)=_
  rw[if_pos ⟨by rw[PyData.canLay0];exact ca,by rw[PyData.canLay0,PyData.canLayAll0]⟩,PyData.eqv]
  cases ps with
  |nil=>rw[List.map_nil,PyData.eqvAll];rfl
  |cons a b=>rw[List.map_cons,PyData.eqvAll];rfl
variable {β:Type}{k:W->M β}{Q:β->List Ob->Prop}
theorem x8 (B:Bx ps)(L:Lb h j x ps)(q:Ok (k (.bl (!ps.isEmpty))) h Q):Ok (bd (neW x (.tl [])) k) h Q:=by
 refine bf (a:=.bl (!ps.isEmpty)) (h':=h) ?_ q
 unfold neW
 rw[wV B L]
theorem ye (B:Bx ps)(L:Lb h j x ps)(q:Ok (k (.bl ps.isEmpty)) h Q):Ok (bd (eqW x (.tl [])) k) h Q:=by
 refine bf (a:=.bl ps.isEmpty) (h':=h) ?_ q
 unfold eqW
 rw[wV B L]
theorem oU {v:Int}(L:Lb h j x ps)(h0:0<=v)(h1:v<(ps.length:Int))(q:∀p∈ps,Ok (k (bxW p)) h Q):Ok (bd (ixW x (.int v)) k) h Q:=by
 obtain⟨y,hy,e⟩:=gA (l:=ps.map bxW) h0 (by rw[List.length_map];exact h1)
 obtain⟨p,hp,rfl⟩:=List.mem_map.mp hy
 exact L.lw.ix e (q p hp)
theorem mh (L:Lb h j x ps)(q:Ok (k (.int ps.length)) h Q):Ok (bd (lenW [x]) k) h Q:=L.lw.len (by rw[List.length_map];exact q)
end
noncomputable def nI (n:Nat):W:=.int n
inductive Xe
 |num (i:Int)
 |box (z:Str)
 |op (c:Str)(a b:Xe)
noncomputable def Xe.w:Xe->W
 |.num i=>.tup [.str "number",.int i]
 |.box z=>.tup [.str "box",.str z]
 |.op c a b=>.tup [.str c,a.w,b.w]
noncomputable def Xe.G (ns:List Str):Nat->Xe->Prop
 |0,_=>False
 |_+1,.num i=>0<=i/\i<1000
 |_+1,.box z=>z∈ns
 |n+1,.op c a b=>(c= "+"\/c= "-"\/c= "*")/\a.G ns n/\b.G ns n
theorem Xe.G.mono {ns:List Str}: ∀ {n:Nat}{e:Xe},e.G ns n->e.G ns (n+1)
 |n+1,.num i,p=>p
 |n+1,.box z,p=>p
 |n+1,.op c a b,p=>⟨p.1,p.2.1.mono,p.2.2.mono⟩
theorem Xe.G.up {ns:List Str}{n m:Nat}{e:Xe}(p:e.G ns n)(h:n<=m):e.G ns m:=by
 induction m with
 |zero=>
  have:n=0:=by omega
  subst this;exact p
 |succ m ih=>
  by_cases z:n=m+1
  ·subst z;exact p
  ·exact (ih (by omega)).mono
theorem sg3 {v:Int}(h0:0<=v)(h1:v<3): ∃s:Str,ixW (.str "+-*") (.int v)=pr (.str s)/\(s= "+"\/s= "-"\/s= "*"):=by
 have:v=0\/v=1\/v=2:=by omega
 rcases this with rfl|rfl|rfl
 ·exact⟨"+",eG (sz (by decide+kernel)) (c:=43) (by decide+kernel),.inl rfl⟩
 ·exact⟨"-",eG (sz (by decide+kernel)) (c:=45) (by decide+kernel),.inr (.inl rfl)⟩
 ·exact⟨"*",eG (sz (by decide+kernel)) (c:=42) (by decide+kernel),.inr (.inr rfl)⟩
theorem sg2 {v:Int}(h0:0<=v)(h1:v<2): ∃s:Str,ixW (.str "+-") (.int v)=pr (.str s)/\(s= "+"\/s= "-"\/s= "*"):=by
 have:v=0\/v=1:=by omega
 rcases this with rfl|rfl
 ·exact⟨"+",eG (sz (by decide+kernel)) (c:=43) (by decide+kernel),.inl rfl⟩
 ·exact⟨"-",eG (sz (by decide+kernel)) (c:=45) (by decide+kernel),.inr (.inl rfl)⟩
inductive Sm
 |say (e:Xe)
 |ask (z:Str)
 |put (z:Str)(e:Xe)
def Sm.w:Sm->W
 |.say e=>.tup [.str "say",e.w]
 |.ask z=>.tup [.str "ask",.str z]
 |.put z e=>.tup [.str "put",.str z,e.w]
def Sm.G (ns:List Str):Sm->Prop
 |.say e=>e.G ns 6
 |.ask z=>z∈ns
 |.put z e=>z∈ns/\e.G ns 6
theorem lh (l:List W):gH [.tl l]=pr (.tup l):=rfl
section
variable {ps:List (Str×Int)}(B:Bx ps)
include B
theorem we {h:List Ob}{j:Nat}{x:W}(R:Reel h j)(L:Lb h j x ps):Ok (fm [.loc j,x]) h fun w h'=>(∃e:Xe,w=e.w/\e.G (ps.map (·.1)) 1)/\Kp j h h':=by
 have e0:fm [.loc j,x]=bd (gv [some (.loc j),some x,none]) finF:=rfl
 rw[e0]
 unfold gv
 have num: ∀ {v8:Int},0<=v8->v8<3-> ∃m:Int,0<m/\m<=1000/\atI [W.int 3,W.int 10,W.int 1000] v8=some (.int m):=fun{v8} v80 v81=>by
  obtain⟨y,hy,e⟩:=gA (l:=([3,10,1000]:List Int).map W.int) v80 v81
  obtain⟨m,hm,rfl⟩:=List.mem_map.mp hy
  have a: ∀m∈([3,10,1000]:List Int),0<m/\m<=1000:=by decide
  exact⟨m,(a m hm).1,(a m hm).2,e⟩
 simp!
 refine x8 B L ?_
 cases hp:ps.isEmpty with
 |true=>
  simp!
  refine aK R (by decide) (by decide) fun v8 h8 v80 v81 K8=>?_
  obtain⟨m,m0,m1,em⟩:=num v80 v81
  simp! only[aa,fj em]
  refine aK K8.re m0 (Int.lt_of_le_of_lt m1 (by decide)) fun v9 h9 v90 v91 K9=>?_
  simp!
  exact av ⟨⟨.num v9,rfl,v90,by omega⟩,K8.trans K9⟩
 |false=>
  simp!
  refine aK R (by decide) (by decide) fun v1 h1 v10 v11 K1=>?_
  by_cases hv:0<v1
  ·have hl:0<ps.length:=List.length_pos_iff.mpr fun z=>by rw[z] at hp;cases hp
   have b4:=B.len
   simp! only[aa,decide_eq_true hv]
   refine mh (L.kp K1) ?_
   simp!
   refine aK K1.re (by omega) (Int.lt_of_le_of_lt (show (ps.length:Int)<=4 by omega) (by decide)) fun v2 h2 v20 v21 K2=>?_
   refine oU ((L.kp K1).kp K2) v20 v21 fun p hp=>?_
   simp! only[aa,bx0]
   exact av ⟨⟨.box p.1,rfl,List.mem_map.mpr ⟨p,hp,rfl⟩⟩,K1.trans K2⟩
  ·simp! only[aa,decide_eq_false hv]
   refine aK K1.re (by decide) (by decide) fun v8 h8 v80 v81 K8=>?_
   obtain⟨m,m0,m1,em⟩:=num v80 v81
   simp! only[aa,fj em]
   refine aK K8.re m0 (Int.lt_of_le_of_lt m1 (by decide)) fun v9 h9 v90 v91 K9=>?_
   simp!
   exact av ⟨⟨.num v9,rfl,v90,by omega⟩,K1.trans (K8.trans K9)⟩
theorem uW (n:Nat): ∀ {h:List Ob}{j:Nat}{x:W}{m:Int},n<=6->1<=m->m<=n->Reel h j->Lb h j x ps->Ok (bn n [.loc j,x,.int m]) h fun w h'=>(∃e:Xe,w=e.w/\e.G (ps.map (·.1)) m.toNat)/\Kp j h h':=by
 induction n with
 |zero=>intro h j x m z a b R L;omega
 |succ n ih=>
  intro h j x m z a b R L
  have e0:bn (n+1) [.loc j,x,.int m]=bd (gp (bn n) [some (.loc j),some x,some (.int m),none,none,none,none]) finF:=rfl
  rw[e0]
  unfold gp
  by_cases hm:m<2
  ·simp! only[aa,decide_eq_true hm]
   refine aY (we B R L) fun w h1 qq_=>?_
   obtain⟨⟨e,ew,p⟩,K⟩:=qq_
   subst ew
   simp!
   exact av ⟨⟨e,rfl,p.up (by omega)⟩,K⟩
  ·simp! only[aa,decide_eq_false hm]
   refine aK R (by omega) (Int.lt_of_le_of_lt (show m - 1<=6 by omega) (by decide)) fun v1 h1 v10 v11 K1=>?_
   simp!
   refine aK K1.re (by decide) (by decide) fun v2 h2 v20 v21 K2=>?_
   obtain⟨c,ec,hc⟩:=sg3 v20 v21
   have Lk2:=(L.kp K1).kp K2
   simp! only[aa,ec]
   refine aY (ih (m:=1+v1) (by omega) (by omega) (by omega) K2.re Lk2) fun w1 h3 qq_=>?_
   obtain⟨⟨e1,q1,p1⟩,K3⟩:=qq_
   subst q1
   simp!
   refine aY (ih (m:=m - (1+v1)) (by omega) (by omega) (by omega) K3.re (Lk2.kp K3)) fun w2 h4 qq_=>?_
   obtain⟨⟨e2,q2,p2⟩,K4⟩:=qq_
   subst q2
   simp!
   exact av ⟨⟨.op c e1 e2,rfl,by obtain⟨q,hq⟩: ∃q,m.toNat=q+1:=⟨m.toNat - 1,by omega⟩;rw[hq];exact⟨hc,p1.up (by omega),p2.up (by omega)⟩⟩,K1.trans (K2.trans (K3.trans K4))⟩
theorem ja {β:Type}{h:List Ob}{k:W->M β}{Q:β->List Ob->Prop}{j:Nat}{x:W}{m:Int}(R:Reel h j)(L:Lb h j x ps)(a:1<=m)(b:m<=6)(q:∀ (e:Xe) h',e.G (ps.map (·.1)) m.toNat->Kp j h h'->Ok (k e.w) h' Q):Ok (bd (bn 6 [.loc j,x,.int m]) k) h Q:=
 aY (uW B 6 (Nat.le_refl _) a b R L) fun w h' ⟨⟨e,ew,p⟩,K⟩=>by subst ew;exact q e h' p K
theorem si {h:List Ob}{j:Nat}{x:W}(R:Reel h j)(L:Lb h j x ps):Ok (bm [.loc j,x]) h fun w h'=>(∃s:Sm,w=s.w/\s.G (ps.map (·.1)))/\Kp j h h':=by
 have e0:bm [.loc j,x]=bd (dB [some (.loc j),some x,none,none,none]) finF:=rfl
 rw[e0]
 unfold dB
 simp!
 refine aK R (by decide) (by decide) fun v1 h1 v10 v11 K1=>?_
 have L1:=L.kp K1
 refine ye B L1 ?_
 cases hp:ps.isEmpty with
 |true=>
  simp!
  refine aK K1.re (by decide) (by decide) fun v8 h8 v80 v81 K8=>?_
  simp!
  refine ja B K8.re (L1.kp K8) (by omega) (by omega) fun w9 h9 p9 K9=>?_
  simp!
  exact av ⟨⟨.say w9,rfl,Xe.G.up p9 (by omega)⟩,K1.trans (K8.trans K9)⟩
 |false=>
  have hl:0<ps.length:=List.length_pos_iff.mpr fun z=>by rw[z] at hp;cases hp
  have b4:=B.len
  by_cases h3:v1<3
  ·simp! only[aa,decide_eq_true h3]
   refine aK K1.re (by decide) (by decide) fun v8 h8 v80 v81 K8=>?_
   simp!
   refine ja B K8.re (L1.kp K8) (by omega) (by omega) fun w9 h9 p9 K9=>?_
   simp!
   exact av ⟨⟨.say w9,rfl,Xe.G.up p9 (by omega)⟩,K1.trans (K8.trans K9)⟩
  ·simp! only[aa,decide_eq_false h3]
   refine mh L1 ?_
   simp!
   refine aK K1.re (by omega) (Int.lt_of_le_of_lt (show (ps.length:Int)<=4 by omega) (by decide)) fun v2 h2 v20 v21 K2=>?_
   have Lk2:=L1.kp K2
   refine oU Lk2 v20 v21 fun p hp=>?_
   by_cases h5:v1<5
   ·simp! only[aa,bx0,decide_eq_true h5]
    exact av ⟨⟨.ask p.1,rfl,List.mem_map.mpr ⟨p,hp,rfl⟩⟩,K1.trans K2⟩
   ·simp! only[aa,bx0,decide_eq_false h5]
    refine mh Lk2 ?_
    simp!
    refine aK K2.re (by omega) (Int.lt_of_le_of_lt (show (ps.length:Int)<=4 by omega) (by decide)) fun v3 h4 v30 v31 K3=>?_
    have L3:=Lk2.kp K3
    refine oU L3 v30 v31 fun p2 hp2=>?_
    by_cases h6:v1=5
    ·simp! only[aa,bx0,decide_eq_true h6]
     refine aK K3.re (by decide) (by decide) fun v4 h5 v40 v41 K4=>?_
     obtain⟨c,ec,hc⟩:=sg2 v40 v41
     simp! only[aa,ec]
     refine aK K4.re (by decide) (by decide) fun v5 h6 v50 v51 K5=>?_
     simp!
     exact av ⟨⟨.put p.1 (.op c (.box p2.1) (.num v5)),rfl,List.mem_map.mpr ⟨p,hp,rfl⟩,Xe.G.up (n:=2) ⟨hc,List.mem_map.mpr ⟨p2,hp2,rfl⟩,v50,by omega⟩ (by decide)⟩,K1.trans (K2.trans (K3.trans (K4.trans K5)))⟩
    ·simp! only[aa,bx0,decide_eq_false h6]
     refine aK K3.re (by decide) (by decide) fun v8 h8 v80 v81 K8=>?_
     simp!
     refine ja B K8.re (L3.kp K8) (by omega) (by omega) fun w9 h9 p9 K9=>?_
     simp!
     exact av ⟨⟨.put p.1 w9,rfl,List.mem_map.mpr ⟨p,hp,rfl⟩,p9.up (by omega)⟩,K1.trans (K2.trans (K3.trans (K8.trans K9)))⟩
end
end
set_option maxHeartbeats 1000000
section
inductive En
 |go (t:Nat)
 |iff (s:Str)(a b:Xe)(x y:Nat)
 |tab (e:Xe)(ts:List Nat)
 |stop
def En.w:En->W
 |.go t=>.tup [.str "go",nI t]
 |.iff s a b x y=>.tup [.str "if",.str s,a.w,b.w,nI x,nI y]
 |.tab e ts=>.tup [.str "table",e.w,.tup (ts.map nI)]
 |.stop=>.tup [.str "stop"]
def En.G (ns:List Str)(m:Nat):En->Prop
 |.go t=>t<m
 |.iff s a b x y=>(s= "<"\/s= "=")/\a.G ns 6/\b.G ns 6/\x<m/\y<m
 |.tab e ts=>e.G ns 6/\1<=ts.length/\ts.length<=6/\ ∀t∈ts,t<m
 |.stop=>True
theorem sg2c {v:Int}(h0:0<=v)(h1:v<2): ∃s:Str,ixW (.str "<=") (.int v)=pr (.str s)/\(s= "<"\/s= "="):=by
 have:v=0\/v=1:=by omega
 rcases this with rfl|rfl
 ·exact⟨"<",eG (sz (by decide+kernel)) (c:=60) (by decide+kernel),.inl rfl⟩
 ·exact⟨"=",eG (sz (by decide+kernel)) (c:=61) (by decide+kernel),.inr rfl⟩
section
variable {ps:List (Str×Int)}(B:Bx ps)
include B
theorem zn {h:List Ob}{j:Nat}{bx x y:W}(R:Reel h j)(L:Lb h j bx ps):Ok (gP [.loc j,bx,x,y]) h fun w h'=>(∃ (s:Str) (a b:Xe),w=.tup [.str "if",.str s,a.w,b.w,x,y]/\(s= "<"\/s= "=")/\a.G (ps.map (·.1)) 6/\b.G (ps.map (·.1)) 6)/\Kp j h h':=by
 have e0:gP [.loc j,bx,x,y]=bd (iF [some (.loc j),some bx,some x,some y,none,none,none,none]) finF:=rfl
 rw[e0]
 unfold iF
 simp!
 refine aK R (by decide) (by decide) fun v1 h1 v10 v11 K1=>?_
 obtain⟨c,ec,hc⟩:=sg2c v10 v11
 simp! only[aa,ec]
 refine aK K1.re (by decide) (by decide) fun v2 h2 v20 v21 K2=>?_
 simp!
 refine ja B K2.re ((L.kp K1).kp K2) (by omega) (by omega) fun w3 h3 q3 K3=>?_
 have p3':w3.G (ps.map (·.1)) 5:=q3.up (by omega)
 have p3:=p3'.mono
 simp!
 refine aK K3.re (by decide) (by decide) fun v4 h4 v40 v41 K4=>?_
 simp!
 refine aK K4.re (by decide) (by decide) fun v5 h5 v50 v51 K5=>?_
 have K15:=K1.trans (K2.trans (K3.trans (K4.trans K5)))
 by_cases w0:v4=0
 ·have w1: ¬v4=1:=by omega
  simp! only[aa,decide_eq_true w0]
  refine aK K5.re (by decide) (by decide) fun v6 h6 v60 v61 K6=>?_
  simp!
  refine ja B K6.re ((L.kp K15).kp K6) (by omega) (by omega) fun w7 h7 p7 K7=>?_
  simp! only[aa,decide_eq_false w1]
  exact av ⟨⟨_,w3,w7,rfl,hc,p3,p7.up (by omega)⟩,K15.trans (K6.trans K7)⟩
 ·by_cases w1:v4=1
  ·simp! only[aa,decide_eq_false w0,decide_eq_true w1]
   refine aK K5.re (by decide) (by decide) fun v6 h6 v60 v61 K6=>?_
   simp!
   exact av ⟨⟨_,w3,.op "+" w3 (.num v6),rfl,hc,p3,.inl rfl,p3',v60,by omega⟩,K15.trans K6⟩
  ·simp! only[aa,decide_eq_false w0,decide_eq_false w1]
   exact av ⟨⟨_,w3,.num v5,rfl,hc,p3,v50,by omega⟩,K15⟩
theorem yM {h:List Ob}{j:Nat}{x:W}{m:Int}(hm:0<m)(hz:m<=100)(R:Reel h j)(L:Lb h j x ps):Ok (eZ [.loc j,x,.int m]) h fun w h'=>(∃e:En,w=e.w/\e.G (ps.map (·.1)) m.toNat)/\Kp j h h':=by
 have e0:eZ [.loc j,x,.int m]=bd (gY [some (.loc j),some x,some (.int m),none,none,none]) finF:=rfl
 have hz2:m<2 ^ 200:=Int.lt_of_le_of_lt hz (by decide)
 rw[e0]
 unfold gY
 simp!
 refine aK R (by decide) (by decide) fun v1 h1 v10 v11 K1=>?_
 simp!
 refine aK K1.re hm hz2 fun v2 h2 v20 v21 K2=>?_
 have K12:=K1.trans K2
 by_cases c3:v1<3
 ·simp! only[aa,decide_eq_true c3]
  exact av ⟨⟨.go v2.toNat,by show _=W.tup [.str "go",.int (v2.toNat:Int)];rw[Int.toNat_of_nonneg v20],by show v2.toNat<m.toNat;omega⟩,K12⟩
 by_cases c8:v1<8
 ·simp! only[aa,decide_eq_false c3,decide_eq_true c8]
  refine aK K2.re hm hz2 fun v3 h3 v30 v31 K3=>?_
  simp!
  refine aY (zn B K3.re ((L.kp K12).kp K3)) fun w h4 qq_=>?_
  obtain⟨⟨s,a,b,e,hs,pa,pb⟩,K4⟩:=qq_
  subst e
  simp!
  exact av ⟨⟨.iff s a b v2.toNat v3.toNat,by show _=W.tup [.str "if",.str s,a.w,b.w,.int (v2.toNat:Int),.int (v3.toNat:Int)];rw[Int.toNat_of_nonneg v20,Int.toNat_of_nonneg v30],hs,pa,pb,by omega,by omega⟩,K12.trans (K3.trans K4)⟩
 by_cases c11:v1=11
 ·simp! only[aa,decide_eq_false c3,decide_eq_false c8,decide_eq_true c11]
  exact av ⟨⟨.stop,rfl,trivial⟩,K12⟩
 ·simp! only[aa,decide_eq_false c3,decide_eq_false c8,decide_eq_false c11]
  refine aK K2.re (by decide) (by decide) fun v3 h3 v30 v31 K3=>?_
  simp!
  refine ja B K3.re ((L.kp K12).kp K3) (by omega) (by omega) fun w4 h4 p4 K4=>?_
  simp! only[aa,aI]
  refine aK K4.re (by decide) (by decide) fun v5 h5 v50 v51 K5=>?_
  have gl: ∀ {α:Type} (q:M α),gd ((intsW 0 (1+v5).toNat).length<=sizeLine) q=q:=fun q=>aG (by rw[bK];exact sz (by omega))
  simp! only[aa,du (show (-(2 ^ 62):Int)<=1+v5 by omega) (show (1+v5:Int)<2 ^ 62 by omega),gl]
  refine fu (I:=fun i a h'=>Kp j h4 h'/\ ∃ts:List Nat,a=ts.map nI/\ts.length=i/\ ∀t∈ts,t<m.toNat) ⟨K5,[],rfl,rfl,fun x hx=>absurd hx List.not_mem_nil⟩ gF (fun _ _ _ _=>trivial) (fun i w a h6 hw I=>?_) fun a h6 I=>?_
  ·obtain⟨K6,ts,rfl,la,ia⟩:=I
   refine⟨_,rfl,?_⟩
   simp! only[List.replicate,List.cons_append,List.nil_append,aa]
   refine Ok.imp (lU K6.re hm hz2) fun w h7 qz=>?_
   obtain⟨v,e,g0,g1,K7⟩:=qz
   subst e
   refine⟨K6.trans K7,ts++[v.toNat],by rw[List.map_append];show _=_++[W.int (v.toNat:Int)];rw[Int.toNat_of_nonneg g0],by rw[List.length_append,la];rfl,fun x hx=>?_⟩
   rcases List.mem_append.mp hx with hx|hx
   ·exact ia x hx
   ·rw[List.mem_singleton.mp hx];omega
  ·obtain⟨K6,ts,rfl,la,ia⟩:=I
   rw[bK] at la
   simp! only[aa,lh]
   exact av ⟨⟨.tab w4 ts,rfl,p4.up (by omega),by omega,by omega,ia⟩,K12.trans (K3.trans (K4.trans K6))⟩
end
end
set_option maxHeartbeats 1000000
section
noncomputable abbrev Sto:=List (Str×Int)
def kz (σ:Sto):List Key:=σ.map fun p=>.inr p.1
def vz (σ:Sto):List W:=σ.map fun p=>.int p.2
def rd:Sto->Str->Option Int
 |[],_=>none
 |p::σ,z=>if p.1=z then some p.2 else rd σ z
def wr (σ:Sto)(z:Str)(v:Int):Sto:=if (σ.any fun p=>decide (p.1=z))=true then σ.map (fun p=>if p.1=z then (p.1,v) else p) else σ++[(z,v)]
theorem uO (z:Str): ∀σ:Sto,atK (kz σ) (vz σ) (.inr z)=(rd σ z).map W.int
 |[]=>rfl
 |p::σ=>by
  show (if (Sum.inr p.1:Key)=.inr z then some (W.int p.2) else atK (kz σ) (vz σ) (.inr z))=((if p.1=z then some p.2 else rd σ z).map W.int)
  by_cases h:p.1=z
  ·rw[if_pos h,if_pos (by rw[h])];rfl
  ·rw[if_neg h,if_neg (fun q=>h (by cases q;rfl)),uO z σ]
theorem n8 (z:Str)(v:Int): ∀σ:Sto,mapAt (kz σ) (vz σ) (.inr z) (.int v)=vz (σ.map fun p=>if p.1=z then (p.1,v) else p)
 |[]=>rfl
 |p::σ=>by
  show (if (Sum.inr p.1:Key)=.inr z then W.int v else .int p.2)::mapAt (kz σ) (vz σ) (.inr z) (.int v)=W.int (if p.1=z then (p.1,v) else p).2::vz (σ.map fun p=>if p.1=z then (p.1,v) else p)
  rw[n8 z v σ]
  by_cases h:p.1=z
  ·rw[if_pos h,if_pos (by rw[h])]
  ·rw[if_neg h,if_neg (fun q=>h (by cases q;rfl))]
theorem yU (z:Str)(σ:Sto):((kz σ).any fun k=>decide (k=(.inr z:Key)))=σ.any fun p=>decide (p.1=z):=by
 unfold kz
 rw[List.any_map]
 congr 1
 funext p
 show decide ((Sum.inr p.1:Key)=.inr z)=_
 by_cases h:p.1=z
 ·rw[decide_eq_true h,decide_eq_true (by rw[h])]
 ·rw[decide_eq_false h,decide_eq_false (fun q=>h (by cases q;rfl))]
theorem lZ (σ:Sto)(z:Str)(v:Int):putW (kz σ) (vz σ) (.inr z) (.int v)=(kz (wr σ z v),vz (wr σ z v)):=by
 unfold putW wr
 rw[yU]
 by_cases h:(σ.any fun p=>decide (p.1=z))=true
 ·rw[if_pos h,if_pos h,n8]
  congr 1
  unfold kz
  rw[List.map_map]
  refine List.map_congr_left fun p _=>?_
  show _=(Sum.inr (if p.1=z then (p.1,v) else p).1:Key)
  by_cases q:p.1=z
  ·rw[if_pos q]
  ·rw[if_neg q]
 ·rw[if_neg h,if_neg h]
  unfold kz vz
  rw[List.map_append,List.map_append];rfl
theorem sG (y z:Str)(v:Int): ∀σ:Sto,rd (σ++[(z,v)]) y=(match rd σ y with
  |some u=>some u
  |none=>if z=y then some v else none)
 |[]=>rfl
 |p::σ=>by
  show (if p.1=y then some p.2 else rd (σ++[(z,v)]) y)=_
  rw[sG y z v σ]
  show _=(match (if p.1=y then some p.2 else rd σ y) with
   |some u=>some u
   |none=>if z=y then some v else none)
  by_cases h:p.1=y
  ·rw[if_pos h,if_pos h]
  ·rw[if_neg h,if_neg h]
theorem sF (y z:Str)(v:Int): ∀σ:Sto,rd (σ.map fun p=>if p.1=z then (p.1,v) else p) y=if z=y then (rd σ y).map (fun _=>v) else rd σ y
 |[]=>by rw[List.map_nil];show none=if z=y then none else none;rw[ite_self]
 |p::σ=>by
  show (if (if p.1=z then (p.1,v) else p).1=y then some (if p.1=z then (p.1,v) else p).2 else rd (σ.map fun p=>if p.1=z then (p.1,v) else p) y)=if z=y then (if p.1=y then some p.2 else rd σ y).map (fun _=>v) else if p.1=y then some p.2 else rd σ y
  rw[sF y z v σ]
  by_cases h:p.1=z
  ·subst h
   by_cases q:p.1=y<;>simp [q]
  ·rw[if_neg h]
   by_cases q:z=y
   ·rw[if_pos q,if_pos q,if_neg (by rw[<-q];exact h),if_neg (by rw[<-q];exact h)]
   ·rw[if_neg q,if_neg q]
theorem lY (z:Str): ∀σ:Sto,¬(σ.any fun p=>decide (p.1=z))=true->rd σ z=none
 |[],_=>rfl
 |p::σ,h=>by
  rw[List.any_cons,Bool.or_eq_true,not_or,decide_eq_true_eq] at h
  show (if p.1=z then some p.2 else rd σ z)=none
  rw[if_neg h.1,lY z σ h.2]
theorem pK (z:Str): ∀σ:Sto,(σ.any fun p=>decide (p.1=z))=true-> ∃v,rd σ z=some v
 |[],h=>by cases h
 |p::σ,h=>by
  show∃v,(if p.1=z then some p.2 else rd σ z)=some v
  by_cases q:p.1=z
  ·exact⟨p.2,if_pos q⟩
  ·rw[if_neg q]
   refine pK z σ ?_
   rw[List.any_cons,decide_eq_false q,Bool.false_or] at h
   exact h
theorem pJ (σ:Sto)(y z:Str)(v:Int):rd (wr σ z v) y=if z=y then some v else rd σ y:=by
 unfold wr
 by_cases h:(σ.any fun p=>decide (p.1=z))=true
 ·rw[if_pos h,sF]
  by_cases q:z=y
  ·obtain⟨u,e⟩:=pK z σ h
   rw[if_pos q,if_pos q,<-q,e];rfl
  ·rw[if_neg q,if_neg q]
 ·rw[if_neg h,sG]
  by_cases q:z=y
  ·subst q;simp [lY z σ h]
  ·rw[if_neg q];cases rd σ y<;>simp [q]
theorem w5 (σ:Sto)(z:Str)(v:Int):(wr σ z v).length<=σ.length+1:=by
 unfold wr
 split
 ·rw[List.length_map];omega
 ·rw[List.length_append];exact Nat.le_refl _
theorem wr_len' {σ:Sto}{z:Str}{u:Int}(v:Int)(e:rd σ z=some u):(wr σ z v).length=σ.length:=by
 unfold wr
 split
 ·rw[List.length_map]
 ·rename_i h
  rw[lY z σ h] at e;cases e
structure Has (ns:List Str)(σ:Sto):Prop where
 has: ∀z∈ns,∃v:Int,rd σ z=some v/\0<=v/\v<1000000
 sz:σ.length<=10
theorem Has.wr {ns:List Str}{σ:Sto}{z:Str}(H:Has ns σ)(hz:z∈ns)(v:Int):Has ns (wr σ z (v % 1000000)):=by
 obtain⟨u,e,_⟩:=H.has z hz
 refine⟨fun y hy=>?_,by rw[wr_len' _ e];exact H.sz⟩
 rw[pJ]
 by_cases q:z=y
 ·rw[if_pos q];exact⟨_,rfl,Int.emod_nonneg _ (by decide),Int.emod_lt_of_pos _ (by decide)⟩
 ·rw[if_neg q];exact H.has y hy
def sto0 (ps:List (Str×Int)):Sto:=ps.foldl (fun σ p=>wr σ p.1 p.2) []
theorem pB: ∀ (ps:List (Str×Int)) (σ:Sto),(ps.foldl (fun σ p=>wr σ p.1 p.2) σ).length<=σ.length+ps.length
 |[],σ=>by simp
 |p::ps,σ=>by
  have:=pB ps (wr σ p.1 p.2)
  have:=w5 σ p.1 p.2
  rw[List.foldl_cons,List.length_cons];omega
theorem pC (P:Int->Prop): ∀ (ps:List (Str×Int)) (σ:Sto) (z:Str),(∀p∈ps,P p.2)->(∀v,rd σ z=some v->P v)->(z∈ps.map (·.1)\/ ∃v,rd σ z=some v)-> ∃v,rd (ps.foldl (fun σ p=>wr σ p.1 p.2) σ) z=some v/\P v
 |[],σ,z,_,h,q=>by
  rcases q with q|⟨v,q⟩
  ·cases q
  ·exact⟨v,q,h v q⟩
 |p::ps,σ,z,hp,h,q=>by
  rw[List.foldl_cons]
  refine pC P ps _ z (fun x hx=>hp x (List.mem_cons_of_mem _ hx)) (fun v e=>?_) ?_
  ·rw[pJ] at e
   by_cases y:p.1=z
   ·rw[if_pos y] at e;cases e;exact hp p List.mem_cons_self
   ·rw[if_neg y] at e;exact h v e
  ·by_cases y:p.1=z
   ·exact .inr ⟨p.2,by rw[pJ,if_pos y]⟩
   ·rcases q with q|⟨v,q⟩
    ·rw[List.map_cons] at q
     rcases List.mem_cons.mp q with q|q
     ·exact absurd q.symm y
     ·exact .inl q
    ·exact .inr ⟨v,by rw[pJ,if_neg y];exact q⟩
theorem Has.first {ps:List (Str×Int)}(l:ps.length<=4)(h:∀p∈ps,0<=p.2/\p.2<1000):Has (ps.map (·.1)) (sto0 ps):=by
 refine⟨fun z hz=>?_,by have:=pB ps [];unfold sto0;rw[List.length_nil] at this;omega⟩
 obtain⟨v,e,a,b⟩:=pC (fun v=>0<=v/\v<1000) ps [] z h (fun v e=>by cases e) (.inl hz)
 exact⟨v,e,a,by omega⟩
def Xe.val (σ:Sto):Xe->Int
 |.num i=>i
 |.box z=>(rd σ z).getD 0
 |.op c a b=>if c= "+" then a.val σ+b.val σ else if c= "-" then a.val σ - b.val σ else a.val σ * b.val σ
theorem zR:decide (("box":Str)= "number")=false:=by decide+kernel
theorem zL:decide (("+":Str)= "number")=false:=by decide+kernel
theorem zM:decide (("+":Str)= "box")=false:=by decide+kernel
theorem zO:decide (("-":Str)= "number")=false:=by decide+kernel
theorem zP:decide (("-":Str)= "box")=false:=by decide+kernel
theorem zN:decide (("-":Str)= "+")=false:=by decide+kernel
theorem zC:decide (("*":Str)= "number")=false:=by decide+kernel
theorem zG:decide (("*":Str)= "box")=false:=by decide+kernel
theorem zB:decide (("*":Str)= "+")=false:=by decide+kernel
theorem zD:decide (("*":Str)= "-")=false:=by decide+kernel
noncomputable def big (n:Nat):Nat:=2 ^ (20 * 2 ^ n)
theorem big0:1000000<=big 0:=by decide
theorem wE (n:Nat):2<=big n:=by
 unfold big
 have h1:1<=20 * 2 ^ n:=by have:1<=2 ^ n:=Nat.one_le_two_pow;omega
 exact Nat.le_trans (by decide:2<=2 ^ 1) (Nat.pow_le_pow_right (by decide) h1)
theorem oC (n:Nat):big (n+1)=big n * big n:=by
 unfold big
 rw[<-Nat.pow_add]
 congr 1
 rw[Nat.pow_succ];omega
theorem qp (n:Nat):big n+big n<=big (n+1):=by
 rw[oC]
 have h:=wE n
 have:2 * big n<=big n * big n:=Nat.mul_le_mul_right _ h
 omega
theorem yS (n:Nat):1000000<=big n:=by
 induction n with
 |zero=>exact big0
 |succ n ih=>have:=qp n;omega
theorem big6 (n:Nat)(h:n<=6):big n<=2 ^ 65536:=by
 unfold big
 refine Nat.pow_le_pow_right (by decide) ?_
 have:2 ^ n<=2 ^ 6:=Nat.pow_le_pow_right (by decide) h
 have:(2:Nat) ^ 6=64:=by decide
 omega
theorem rR {ns:List Str}{σ:Sto}(D:Has ns σ)(n:Nat): ∀ {w:Xe},n<=6->w.G ns n->(w.val σ).natAbs<big n/\ ∀ {h:List Ob}{k:Nat},h[k]?=some (.dic (kz σ) (vz σ))->Ok (cy n [w.w,.loc k]) h fun r h'=>r=.int (w.val σ)/\h'=h:=by
 induction n with
 |zero=>intro w _ p;exact p.elim
 |succ n ih=>
  intro w hn p
  have e0: ∀k:Nat,cy (n+1) [w.w,.loc k]=bd (fD (cy n) [some w.w,some (.loc k),none,none]) finF:=fun k=>rfl
  have b1:=yS (n+1)
  have b2:=qp n
  cases w with
  |num i=>
   obtain⟨i0,i1⟩:=p
   refine⟨by unfold Xe.val;omega,fun{h k} e=>?_⟩
   rw[e0]
   unfold fD Xe.w Xe.val
   simp! only[aa,ix0,ix1,eq_self,decide_true]
   exact av ⟨rfl,rfl⟩
  |box z=>
   obtain⟨v,ev,v0,v1⟩:=D.has z p
   have vv:Xe.val σ (.box z)=v:=by unfold Xe.val;rw[ev];rfl
   refine⟨by rw[vv];omega,fun{h k} e=>?_⟩
   rw[e0,vv]
   unfold fD Xe.w
   simp! only[aa,ix0,ix1,eq_self,decide_true,zR]
   refine yc (v:=.int v) e (by rw[uO,ev];rfl) ?_
   simp!
   exact av ⟨rfl,rfl⟩
  |op c a b=>
   obtain⟨hc,pa,pb⟩:=p
   obtain⟨bx,hx⟩:=ih (by omega) pa
   obtain⟨by',hy⟩:=ih (by omega) pb
   have b6:=big6 n (by omega)
   have cm:CMulA (a.val σ) (b.val σ):=.inr ⟨Nat.lt_of_lt_of_le bx b6,Nat.lt_of_lt_of_le by' b6⟩
   have mb:(a.val σ * b.val σ).natAbs<big (n+1):=by
    rw[Int.natAbs_mul,oC]
    exact Nat.mul_lt_mul'' bx by'
   unfold Xe.w at e0 ⊢
   generalize hX:a.val σ=x at *
   generalize hY:b.val σ=y at *
   generalize a.w=aw at *
   generalize b.w=bw at *
   rcases hc with rfl|rfl|rfl
   ·have vv:Xe.val σ (.op "+" a b)=x+y:=by unfold Xe.val;rw[if_pos rfl,hX,hY]
    refine⟨by rw[vv];omega,fun{h k} e=>?_⟩
    rw[e0,vv]
    unfold fD
    simp! only[aa,ix0,ix1,ix2,zL,zM]
    refine aY (hx e) fun r h1 qq_=>?_
    obtain⟨er,eh⟩:=qq_
    subst er eh
    simp! only[aa,ix0,ix1,ix2]
    refine aY (hy e) fun r h2 qq_=>?_
    obtain⟨er,eh⟩:=qq_
    subst er eh
    simp! only[aa,ix0,eq_self,decide_true]
    exact av ⟨rfl,rfl⟩
   ·have vv:Xe.val σ (.op "-" a b)=x - y:=by unfold Xe.val;rw[if_neg (by decide+kernel),if_pos rfl,hX,hY]
    refine⟨by rw[vv];omega,fun{h k} e=>?_⟩
    rw[e0,vv]
    unfold fD
    simp! only[aa,ix0,ix1,ix2,zO,zP]
    refine aY (hx e) fun r h1 qq_=>?_
    obtain⟨er,eh⟩:=qq_
    subst er eh
    simp! only[aa,ix0,ix1,ix2]
    refine aY (hy e) fun r h2 qq_=>?_
    obtain⟨er,eh⟩:=qq_
    subst er eh
    simp! only[aa,ix0,eq_self,decide_true,zN]
    exact av ⟨rfl,rfl⟩
   ·have vv:Xe.val σ (.op "*" a b)=x * y:=by unfold Xe.val;rw[if_neg (by decide+kernel),if_neg (by decide+kernel),hX,hY]
    refine⟨by rw[vv];exact mb,fun{h k} e=>?_⟩
    rw[e0,vv]
    unfold fD
    simp! only[aa,ix0,ix1,ix2,zC,zG]
    refine aY (hx e) fun r h1 qq_=>?_
    obtain⟨er,eh⟩:=qq_
    subst er eh
    simp! only[aa,ix0,ix1,ix2]
    refine aY (hy e) fun r h2 qq_=>?_
    obtain⟨er,eh⟩:=qq_
    subst er eh
    simp! only[aa,ix0,zB,zD,gK cm]
    exact av ⟨rfl,rfl⟩
theorem gh {β:Type}{ns:List Str}{σ:Sto}{w:Xe}{h:List Ob}{k:Nat}{c:W->M β}{Q:β->List Ob->Prop}(D:Has ns σ)(g:w.G ns 6)(e:h[k]?=some (.dic (kz σ) (vz σ)))(q:Ok (c (.int (w.val σ))) h Q):Ok (bd (cy 6 [w.w,.loc k]) c) h Q:=
 aY ((rR D 6 (Nat.le_refl _) g).2 e) fun r h' ⟨e1,e2⟩=>by subst e1 e2;exact q
end
set_option maxHeartbeats 1000000
section
structure Sta where
 σ:Sto
 taken:Nat
 said:List Int
noncomputable def Sm.asks:Sm->Bool
 |.ask _=>true
 |_=>false
def lacks (nums:List Int)(s:Sta)(st:Sm):Bool:=st.asks && decide (s.taken=nums.length)
def doS (nums:List Int)(s:Sta):Sm->Sta
 |.put z e=>⟨wr s.σ z (e.val s.σ % 1000000),s.taken,s.said⟩
 |.say e=>⟨s.σ,s.taken,s.said++[e.val s.σ]⟩
 |.ask z=>⟨wr s.σ z (nums.getD s.taken 0 % 1000000),s.taken+1,s.said⟩
theorem mS (nums:List Int)(s:Sta)(st:Sm):(doS nums s st).said.length<=s.said.length+1:=by
 cases st with
 |put z e=>exact Nat.le_succ _
 |ask z=>exact Nat.le_succ _
 |say e=>unfold doS;rw[List.length_append];exact Nat.le_refl _
noncomputable def nsD:List Str:=["held", "numbers", "taken", "said"]
structure DoAt (h:List Ob)(d kh kS:Nat)(nums:List Int)(s:Sta):Prop where
 ob:h[d]?=some (.ins "Doing" nsD [.loc kh,.tl (nums.map W.int),.int s.taken,.loc kS])
 held:h[kh]?=some (.dic (kz s.σ) (vz s.σ))
 said:h[kS]?=some (.lst (s.said.map W.int))
 tk:s.taken<=nums.length
theorem DoAt.n1 {h:List Ob}{d kh kS:Nat}{nums:List Int}{s:Sta}(D:DoAt h d kh kS nums s):d≠kh:=fun z=>by have:=D.ob;rw[z,D.held] at this;cases this
theorem DoAt.n2 {h:List Ob}{d kh kS:Nat}{nums:List Int}{s:Sta}(D:DoAt h d kh kS nums s):d≠kS:=fun z=>by have:=D.ob;rw[z,D.said] at this;cases this
theorem DoAt.n3 {h:List Ob}{d kh kS:Nat}{nums:List Int}{s:Sta}(D:DoAt h d kh kS nums s):kh≠kS:=fun z=>by have:=D.held;rw[z,D.said] at this;cases this
theorem DoAt.keep {h h':List Ob}{d kh kS:Nat}{nums:List Int}{s:Sta}(D:DoAt h d kh kS nums s)(f:∀i,i=d\/i=kh\/i=kS->h'[i]?=h[i]?):DoAt h' d kh kS nums s:=⟨(f _ (.inl rfl)).trans D.ob,(f _ (.inr (.inl rfl))).trans D.held,(f _ (.inr (.inr rfl))).trans D.said,D.tk⟩
structure On3 (d kh kS:Nat)(h h':List Ob):Prop where
 len:h'.length=h.length
 eq: ∀i,i≠d->i≠kh->i≠kS->h'[i]?=h[i]?
theorem On3.refl {d kh kS:Nat}{h:List Ob}:On3 d kh kS h h:=⟨rfl,fun _ _ _ _=>rfl⟩
theorem On3.trans {d kh kS:Nat}{a b c:List Ob}(x:On3 d kh kS a b)(y:On3 d kh kS b c):On3 d kh kS a c:=⟨y.len.trans x.len,fun i h1 h2 h3=>(y.eq i h1 h2 h3).trans (x.eq i h1 h2 h3)⟩
theorem eR (a b c d:W):lookF nsD [a,b,c,d] "held"=some a:=by unfold nsD;rfl
theorem kF (a b c d:W):lookF nsD [a,b,c,d] "numbers"=some b:=by unfold nsD;rfl
theorem kE (a b c d:W):lookF nsD [a,b,c,d] "taken"=some c:=by unfold nsD;rfl
theorem gf (a b c d:W):lookF nsD [a,b,c,d] "said"=some d:=by unfold nsD;rfl
theorem sI (a b c d y:W):putN nsD [a,b,c,d] "taken" y=(nsD,[a,b,y,d]):=by unfold nsD;rfl
theorem gR (i j:Int):addI (.int i) (.int j)=pr (.int (i+j)):=rfl
section
variable {ns:List Str}{h:List Ob}{d kh kS:Nat}{nums:List Int}{s:Sta}{β:Type}{k:W->M β}{Q:β->List Ob->Prop}
theorem uc {c:Str}{l:List W}(D:DoAt h d kh kS nums s):Ok (aN [.loc d,.tup (.str c::l)]) h fun w h'=>w=.bl (decide (c= "ask") && decide (s.taken=nums.length))/\h'=h:=by
 have e0:aN [.loc d,.tup (.str c::l)]=bd (cw [some (.loc d),some (.tup (.str c::l))]) finF:=rfl
 rw[e0]
 unfold cw
 by_cases hc:c= "ask"
 ·simp! only[aa,ix0,decide_eq_true hc]
  refine cC D.ob (kE ..) ?_
  simp!
  refine cC D.ob (kF ..) ?_
  simp! only[aa,List.length_map]
  refine av ⟨?_,rfl⟩
  rw[Bool.true_and]
  congr 1
  by_cases e:s.taken=nums.length
  ·rw[decide_eq_true e,decide_eq_true (by rw[e])]
  ·rw[decide_eq_false e,decide_eq_false (by omega)]
 ·simp! only[aa,ix0,decide_eq_false hc,Bool.false_and]
  exact av ⟨rfl,rfl⟩
theorem pY {c:Str}{l:List W}(D:DoAt h d kh kS nums s)(q:Ok (k (.bl (decide (c= "ask") && decide (s.taken=nums.length)))) h Q):Ok (bd (aN [.loc d,.tup (.str c::l)]) k) h Q:=
 aY (uc D) fun w h' ⟨e1,e2⟩=>by subst e1 e2;exact q
theorem zI:decide (("say":Str)= "put")=false:=by decide+kernel
theorem zT:decide (("ask":Str)= "put")=false:=by decide+kernel
theorem zS:decide (("ask":Str)= "say")=false:=by decide+kernel
theorem y7:decide (("say":Str)= "ask")=false:=by decide+kernel
theorem y8:decide (("put":Str)= "ask")=false:=by decide+kernel
theorem wW {st:Sm}(D:DoAt h d kh kS nums s)(H:Has ns s.σ)(g:st.G ns)(nl:lacks nums s st=false)(z:s.said.length<100000):Ok (aR [.loc d,st.w]) h fun w h'=>w=.non/\DoAt h' d kh kS nums (doS nums s st)/\Has ns (doS nums s st).σ/\On3 d kh kS h h':=by
 have e0:aR [.loc d,st.w]=bd (cx [some (.loc d),some st.w]) finF:=rfl
 rw[e0]
 unfold cx
 cases st with
 |put y e=>
  obtain⟨gy,ge⟩:=g
  unfold Sm.w doS
  simp! only[aa,ix0,ix1,ix2,eq_self,decide_true]
  refine cC D.ob (eR ..) ?_
  refine gh H ge D.held ?_
  simp! only[aa,ix0,ix1,ix2,cM (show (0:Int)<1000000 by decide)]
  refine cC D.ob (eR ..) ?_
  simp! only[aa,ix0,ix1,ix2]
  refine tj D.held (by unfold kz;rw[List.length_map];exact Nat.lt_of_le_of_lt H.sz (by decide)) (lZ ..) ?_
  simp!
  refine av ⟨rfl,⟨?_,bA D.held,?_,D.tk⟩,H.wr gy _,List.length_set ..,fun i _ h2 _=>List.getElem?_set_ne (Ne.symm h2)⟩
  ·rw[List.getElem?_set_ne (Ne.symm D.n1)];exact D.ob
  ·rw[List.getElem?_set_ne D.n3];exact D.said
 |say e=>
  unfold Sm.w doS
  simp! only[aa,ix0,ix1,ix2,zI,eq_self,decide_true]
  refine cC D.ob (gf ..) ?_
  refine dQ D.said ?_
  simp! only[aa,ix0,ix1,ix2]
  refine cC D.ob (eR ..) ?_
  simp! only[aa,ix0,ix1,ix2]
  refine gh H g D.held ?_
  simp!
  refine fJ D.said (by rw[List.length_map];exact Nat.lt_of_lt_of_le z (by decide)) ?_
  simp!
  refine av ⟨rfl,⟨?_,?_,?_,D.tk⟩,H,List.length_set ..,fun i _ _ h3=>List.getElem?_set_ne (Ne.symm h3)⟩
  ·rw[List.getElem?_set_ne (Ne.symm D.n2)];exact D.ob
  ·rw[List.getElem?_set_ne (Ne.symm D.n3)];exact D.held
  ·rw[bA D.said,List.map_append];rfl
 |ask y=>
  have ht:s.taken<nums.length:=by
   have t:=D.tk
   have: ¬s.taken=nums.length:=fun q=>by
    unfold lacks Sm.asks at nl
    rw[decide_eq_true q] at nl;cases nl
   omega
  unfold Sm.w doS
  simp! only[aa,ix0,ix1,ix2,zT,zS]
  refine cC D.ob (kF ..) ?_
  simp!
  refine cC D.ob (kE ..) ?_
  simp! only[aa,fj (km W.int nums 0 (i:=(s.taken:Int)) (by omega) (by omega)),cM (show (0:Int)<1000000 by decide),Int.toNat_natCast]
  refine cC D.ob (eR ..) ?_
  simp! only[aa,ix0,ix1,ix2]
  refine tj D.held (by unfold kz;rw[List.length_map];exact Nat.lt_of_le_of_lt H.sz (by decide)) (lZ ..) ?_
  simp! only[sAugW,aa]
  have o1:(h.set kh (.dic (kz (wr s.σ y (nums.getD s.taken 0 % 1000000))) (vz (wr s.σ y (nums.getD s.taken 0 % 1000000)))))[d]?=some (.ins "Doing" nsD [.loc kh,.tl (nums.map W.int),.int s.taken,.loc kS]):=by
   rw[List.getElem?_set_ne (Ne.symm D.n1)];exact D.ob
  refine cC o1 (kE ..) ?_
  simp! only[aa,gR]
  refine j7 o1 (by unfold nsD;decide) (sI ..) ?_
  simp!
  refine av ⟨rfl,⟨bA o1,?_,?_,ht⟩,H.wr g _,by rw[List.length_set,List.length_set],fun i h1 h2 _=>by rw[List.getElem?_set_ne (Ne.symm h1),List.getElem?_set_ne (Ne.symm h2)]⟩
  ·rw[List.getElem?_set_ne D.n1];exact bA D.held
  ·rw[List.getElem?_set_ne D.n2,List.getElem?_set_ne D.n3];exact D.said
def cond (σ:Sto)(c:Str)(a b:Xe):Bool:=if c= "<" then decide (a.val σ<b.val σ) else decide (a.val σ=b.val σ)
theorem um {c:Str}{a b:Xe}(D:DoAt h d kh kS nums s)(H:Has ns s.σ)(ga:a.G ns 6)(gb:b.G ns 6):Ok (bH [.loc d,.str c,a.w,b.w]) h fun w h'=>w=.bl (cond s.σ c a b)/\h'=h:=by
 have e0:bH [.loc d,.str c,a.w,b.w]=bd (eM [some (.loc d),some (.str c),some a.w,some b.w]) finF:=rfl
 rw[e0]
 unfold eM cond
 by_cases hc:c= "<"
 ·rw[if_pos hc]
  simp! only[aa,decide_eq_true hc]
  refine cC D.ob (eR ..) ?_
  refine gh H ga D.held ?_
  refine cC D.ob (eR ..) ?_
  refine gh H gb D.held ?_
  simp!
  exact av ⟨rfl,rfl⟩
 ·rw[if_neg hc]
  simp! only[aa,decide_eq_false hc]
  refine cC D.ob (eR ..) ?_
  refine gh H ga D.held ?_
  refine cC D.ob (eR ..) ?_
  refine gh H gb D.held ?_
  simp!
  exact av ⟨rfl,rfl⟩
theorem mH {c:Str}{a b:Xe}(D:DoAt h d kh kS nums s)(H:Has ns s.σ)(ga:a.G ns 6)(gb:b.G ns 6)(q:Ok (k (.bl (cond s.σ c a b))) h Q):Ok (bd (bH [.loc d,.str c,a.w,b.w]) k) h Q:=
 aY (um D H ga gb) fun w h' ⟨e1,e2⟩=>by subst e1 e2;exact q
theorem om {e:Xe}{m:Int}(D:DoAt h d kh kS nums s)(H:Has ns s.σ)(g:e.G ns 6)(hm:0<m)(q:Ok (k (.int (e.val s.σ % m))) h Q):Ok (bd (cc [.loc d,e.w,.int m]) k) h Q:=by
 refine aY (P:=fun w h'=>w=.int (e.val s.σ % m)/\h'=h) ?_ fun w h' ⟨e1,e2⟩=>by subst e1 e2;exact q
 have e0:cc [.loc d,e.w,.int m]=bd (dS [some (.loc d),some e.w,some (.int m)]) finF:=rfl
 rw[e0]
 unfold dS
 simp!
 refine cC D.ob (eR ..) ?_
 refine gh H g D.held ?_
 simp! only[aa,cM hm]
 exact av ⟨rfl,rfl⟩
end
theorem xD (ps:List (Str×Int)):optL prW (ps.map bxW)=some (ps.map fun p=>((.inr p.1:Key),W.int p.2)):=eA (f:=prW) (g:=bxW) (k:=fun p=>((.inr p.1:Key),W.int p.2)) (fun a=>rfl) ps
theorem nY: ∀ (ps:List (Str×Int)) (σ:Sto),fK (kz σ) (vz σ) (ps.map fun p=>((.inr p.1:Key),W.int p.2))=(kz (ps.foldl (fun σ p=>wr σ p.1 p.2) σ),vz (ps.foldl (fun σ p=>wr σ p.1 p.2) σ))
 |[],σ=>rfl
 |p::ps,σ=>by
  rw[List.map_cons,List.foldl_cons]
  unfold fK
  rw[lZ]
  exact nY ps _
def sta0 (ps:List (Str×Int)):Sta:=⟨sto0 ps,0,[]⟩
theorem ww {h:List Ob}{bx nm:W}{ps:List (Str×Int)}{nums:List Int}(LB:Lw h bx (ps.map bxW))(LN:Lw h nm (nums.map W.int)):Ok (aX [.loc h.length,bx,nm]) (h++[.ins "Doing" [] []]) fun w h'=>w=.non/\DoAt h' h.length (h.length+1) (h.length+2) nums (sta0 ps)/\h'.length=h.length+3/\ ∀i,i<h.length->h'[i]?=h[i]?:=by
 have e0:aX [.loc h.length,bx,nm]=bd (di [some (.loc h.length),some bx,some nm]) finF:=rfl
 rw[e0]
 unfold di
 obtain⟨h0,hh0⟩: ∃h0,h0=h++[Ob.ins "Doing" [] []]:=⟨_,rfl⟩
 have l0:h0.length=h.length+1:=by rw[hh0];simp
 have f0: ∀i,i<h.length->h0[i]?=h[i]?:=fun i hi=>by rw[hh0,List.getElem?_append_left hi]
 have b0:h0[h.length]?=some (.ins "Doing" [] []):=by rw[hh0];exact bE
 rw[<-hh0]
 have LB0:Lw h0 bx (ps.map bxW):=LB.keep f0
 have LN0:Lw h0 nm (nums.map W.int):=LN.keep f0
 clear hh0
 simp! only[sFldW,aa]
 refine zk LB0 (xD ps) (nY ps []) ?_
 rw[l0]
 have b1: ∀x:Ob,(h0++[x])[h.length]?=some (.ins "Doing" [] []):=fun x=>cL b0
 simp!
 refine j7 (b1 _) (by decide) (ns':=["held"]) (ws':=[.loc (h.length+1)]) rfl ?_
 obtain⟨h1,hh1⟩: ∃h1,h1=(h0++[Ob.dic (kz (ps.foldl (fun σ p=>wr σ p.1 p.2) [])) (vz (ps.foldl (fun σ p=>wr σ p.1 p.2) []))]).set h.length (.ins "Doing" ["held"] [.loc (h.length+1)]):=⟨_,rfl⟩
 have l1:h1.length=h.length+2:=by rw[hh1,List.length_set,List.length_append,l0];rfl
 have f1: ∀i,i<h.length->h1[i]?=h0[i]?:=fun i hi=>by rw[hh1,List.getElem?_set_ne (by omega),List.getElem?_append_left (by omega)]
 have c1:h1[h.length]?=some (.ins "Doing" ["held"] [.loc (h.length+1)]):=by rw[hh1];exact bA (b1 _)
 have d1:h1[h.length+1]?=some (.dic (kz (sto0 ps)) (vz (sto0 ps))):=by rw[hh1,List.getElem?_set_ne (by omega),<-l0];exact bE
 rw[show (h0++[Ob.dic (kz (ps.foldl (fun σ p=>wr σ p.1 p.2) [])) (vz (ps.foldl (fun σ p=>wr σ p.1 p.2) []))]).set h.length (.ins "Doing" ["held"] [.loc (h.length+1)])=h1 from hh1.symm]
 clear hh1
 have LN1:Lw h1 nm (nums.map W.int):=by
  rcases LN with rfl|⟨j,rfl,e⟩
  ·exact .inl rfl
  ·exact .inr ⟨j,rfl,by rw[f1 j (cj e),f0 j (cj e)];exact e⟩
 rcases LN with e|⟨j,e,_⟩<;>subst e
 all_goals
  simp! only[sFldW,aa]
  refine nN LN1 ?_
  simp! only[sFldW,aa]
  refine j7 c1 (by decide) (ns':=["held", "numbers"]) (ws':=[.loc (h.length+1),.tl (nums.map W.int)]) rfl ?_
  have c2:=bA (b:=Ob.ins "Doing" ["held", "numbers"] [.loc (h.length+1),.tl (nums.map W.int)]) c1
  simp!
  refine j7 c2 (by decide) (ns':=["held", "numbers", "taken"]) (ws':=[.loc (h.length+1),.tl (nums.map W.int),.int 0]) rfl ?_
  have c3:=bA (b:=Ob.ins "Doing" ["held", "numbers", "taken"] [.loc (h.length+1),.tl (nums.map W.int),.int 0]) c2
  simp!
  refine eB ?_
  simp!
  refine j7 (cL c3) (by decide) (ns':=nsD) (ws':=[.loc (h.length+1),.tl (nums.map W.int),.int 0,.loc (h.length+2)]) (by unfold nsD;rw[List.length_set,List.length_set,l1];rfl) ?_
  have l3:((h1.set h.length (.ins "Doing" ["held", "numbers"] [.loc (h.length+1),.tl (nums.map W.int)])).set h.length (.ins "Doing" ["held", "numbers", "taken"] [.loc (h.length+1),.tl (nums.map W.int),.int 0])).length=h.length+2:=by rw[List.length_set,List.length_set,l1]
  simp!
  refine av ⟨rfl,⟨bA (cL c3),?_,?_,Nat.zero_le _⟩,?_,fun i hi=>?_⟩
  ·rw[List.getElem?_set_ne (by omega),List.getElem?_append_left (by omega),List.getElem?_set_ne (by omega),List.getElem?_set_ne (by omega)];exact d1
  ·rw[List.getElem?_set_ne (by omega),<-l3];exact bE
  ·rw[List.length_set,List.length_append,l3];rfl
  ·rw[List.getElem?_set_ne (by omega),List.getElem?_append_left (by omega),List.getElem?_set_ne (by omega),List.getElem?_set_ne (by omega),f1 i hi,f0 i hi]
theorem uf {β:Type}{h:List Ob}{bx nm:W}{ps:List (Str×Int)}{nums:List Int}{k:W->M β}{Q:β->List Ob->Prop}{l:Env'->M (List W)}{ρ:Env'}(e:l ρ=pr [bx,nm])(LB:Lw h bx (ps.map bxW))(LN:Lw h nm (nums.map W.int))(q:∀h',DoAt h' h.length (h.length+1) (h.length+2) nums (sta0 ps)->h'.length=h.length+3->(∀i,i<h.length->h'[i]?=h[i]?)->Ok (k (.loc h.length)) h' Q):Ok (bd (mMake "Doing" 3 aX l ρ) k) h Q:=by
 unfold mMake
 rw[e,bh]
 exact vN rfl (ww LB LN) fun h' ⟨D,l1,f⟩=>q h' D l1 f
end
set_option maxHeartbeats 1000000
section
inductive Rw
 |st (s:Sm)
 |stop
 |jump (t:Nat)
 |cnd (neg:Bool)(c:Str)(a b:Xe)(t:Nat)
 |tab (e:Xe)(ts:List Nat)
def Rw.w:Rw->W
 |.st s=>s.w
 |.stop=>.tup [.str "stop"]
 |.jump t=>.tup [.str "jump",nI t]
 |.cnd false c a b t=>.tup [.str "when",.str c,a.w,b.w,nI t]
 |.cnd true c a b t=>.tup [.str "unless",.str c,a.w,b.w,nI t]
 |.tab e ts=>.tup [.str "table",e.w,.tup (ts.map nI)]
def Rw.G (ns:List Str)(m:Nat):Rw->Prop
 |.st s=>s.G ns
 |.stop=>True
 |.jump t=>t<m
 |.cnd _ c a b t=>(c= "<"\/c= "=")/\a.G ns 6/\b.G ns 6/\t<m
 |.tab e ts=>e.G ns 6/\1<=ts.length/\ts.length<=6/\ ∀t∈ts,t<m
noncomputable def Rw.falls:Rw->Bool
 |.st _=>true
 |.cnd ..=>true
 |_=>false
def Rw.to (σ:Sto):Rw->Option Nat
 |.jump t=>some t
 |.cnd neg c a b t=>if cond σ c a b=neg then none else some t
 |.tab e ts=>some (ts.getD (e.val σ % ts.length).toNat 0)
 |_=>none
structure RowsG (ns:List Str)(rows:List Rw):Prop where
 ne:0<rows.length
 g: ∀ (p:Nat) (r:Rw),rows[p]?=some r->r.G ns rows.length/\(r.falls=true->p+1<rows.length)
structure OutR where
 said:List Int
 en:Str
 jumps:Nat
def runR (nums:List Int)(rows:List Rw):Nat->Nat->Sta->OutR
 |0,_,s=>⟨s.said, "on",0⟩
 |n+1,p,s=>match rows[p]? with
  |none=>⟨s.said, "",0⟩
  |some .stop=>⟨s.said, "stop",0⟩
  |some (.st st)=>if lacks nums s st=true then⟨s.said, "out",0⟩ else runR nums rows n (p+1) (doS nums s st)
  |some r=>match r.to s.σ with
   |none=>runR nums rows n (p+1) s
   |some t=>⟨(runR nums rows n t s).said,(runR nums rows n t s).en,(runR nums rows n t s).jumps+1⟩
theorem r9 {c:Str}:inW (.str c) (.tup ((["put", "say", "ask"]:List Str).map W.str))=pr (.bl (decide (c∈(["put", "say", "ask"]:List Str)))):=by
 funext h
 unfold inW
 have e:inB (.str c) (.tup ((["put", "say", "ask"]:List Str).map W.str)) h=some (decide (c∈(["put", "say", "ask"]:List Str))):=by
  show (match vOf (.str c),vsOf ((["put", "say", "ask"]:List Str).map W.str) with
   |some v,some vs=>some (inV v vs)
   |_,_=>none)=_
  rw[gG (k:=V.str) (fun a=>rfl)]
  show some (inV (.str c) ((["put", "say", "ask"]:List Str).map V.str))=_
  rw[iD]
 rw[e];rfl
theorem xf {ts:List Nat}{v:Int}(h:1<=ts.length):atI (ts.map nI) (v % (ts.length:Int))=some (nI (ts.getD (v % ts.length).toNat 0)):=km nI ts 0 (Int.emod_nonneg _ (by omega)) (Int.emod_lt_of_pos _ (by omega))
section
variable {ns:List Str}{h:List Ob}{d kh kS:Nat}{nums:List Int}{s:Sta}
def toW:Option Nat->W
 |none=>.non
 |some t=>nI t
theorem p0 {r:Rw}{m:Nat}(D:DoAt h d kh kS nums s)(H:Has ns s.σ)(g:r.G ns m)(n1:r≠.stop):Ok (cT [.loc d,r.w]) h fun w h'=>w=toW (r.to s.σ)/\h'=h:=by
 have e0:cT [.loc d,r.w]=bd (cD [some (.loc d),some r.w]) finF:=rfl
 rw[e0]
 unfold cD
 have no: ∀ {c:Str}{l:List W},c∈(["put", "say", "ask"]:List Str)->Ok (bd (cD [some (.loc d),some (.tup (.str c::l))]) finF) h fun w h'=>w=.non/\h'=h:=fun{c l} hc=>by
  have c1: ∀x∈(["put", "say", "ask"]:List Str),decide (x= "jump")=false/\decide (x= "when")=false/\decide (x= "unless")=false/\decide (x= "table")=false:=by decide+kernel
  obtain⟨a1,a2,a3,a4⟩:=c1 c hc
  unfold cD
  simp! only[aa,ix0,a1,a2,a3,a4]
  exact av ⟨rfl,rfl⟩
 cases r with
 |st st=>
  unfold cD at no
  cases st with
  |put y e=>exact no (by simp)
  |say e=>exact no (by simp)
  |ask y=>exact no (by simp)
 |stop=>exact absurd rfl n1
 |jump t=>
  unfold Rw.w Rw.to toW
  simp! only[aa,ix0,ix1,eq_self,decide_true]
  exact av ⟨rfl,rfl⟩
 |cnd neg c a b t=>
  obtain⟨_,ga,gb,_⟩:=g
  have q1:decide (("when":Str)= "jump")=false:=by decide+kernel
  have q2:decide (("unless":Str)= "jump")=false:=by decide+kernel
  have q3:decide (("unless":Str)= "when")=false:=by decide+kernel
  cases neg with
  |false=>
   unfold Rw.w Rw.to
   simp! only[mMet,aa,ix0,ix1,ix2,ix3,ix4,eq_self,decide_true,q1]
   refine fW D.ob (by unfold nsD;decide+kernel) ?_
   simp! only[aa,ix0,ix1,ix2,ix3,ix4]
   refine mH D H ga gb ?_
   cases hq:cond s.σ c a b<;>(simp! only[aa,ix4])<;>exact av ⟨by simp [toW],rfl⟩
  |true=>
   unfold Rw.w Rw.to
   simp! only[mMet,aa,ix0,ix1,ix2,ix3,ix4,eq_self,decide_true,q2,q3]
   refine fW D.ob (by unfold nsD;decide+kernel) ?_
   simp! only[aa,ix0,ix1,ix2,ix3,ix4]
   refine mH D H ga gb ?_
   cases hq:cond s.σ c a b<;>(simp! only[aa,ix4])<;>exact av ⟨by simp [toW],rfl⟩
 |tab e ts=>
  obtain⟨ge,l1,_,_⟩:=g
  have q1:decide (("table":Str)= "jump")=false:=by decide+kernel
  have q2:decide (("table":Str)= "when")=false:=by decide+kernel
  have q3:decide (("table":Str)= "unless")=false:=by decide+kernel
  unfold Rw.w Rw.to toW
  simp! only[mMet,aa,ix0,ix1,ix2,eq_self,decide_true,q1,q2,q3]
  refine fW D.ob (by unfold nsD;decide+kernel) ?_
  simp! only[aa,ix0,ix1,ix2,List.length_map]
  refine om D H ge (by omega) ?_
  simp! only[aa,dh (xf (ts:=ts) (v:=e.val s.σ) l1)]
  exact av ⟨rfl,rfl⟩
end
def tR:Env'->M Bool:=(mB (m2 ltW (mVar 7) (mVar 3)))
def bR:Env'->M Fl:=(sSeq (sSet 8 (m2 ixW (mVar 1) (mVar 6))) (sSeq (sIf (mB (m2 eqW (m2 ixW (mVar 8) (mC (.int 0))) (mC (.str "stop")))) (sRet (mTup (mCons (m1 (fldG "Doing" "said") (mVar 4)) (mCons (mTup (mCons (mC (.str "stop")) mNil)) (mCons (mVar 5) mNil))))) sNil) (sSeq (sIf (mB (mMet "Doing" "lacks_number" 2 aN (mVar 4) (mCons (mVar 8) mNil))) (sRet (mTup (mCons (m1 (fldG "Doing" "said") (mVar 4)) (mCons (mTup (mCons (mC (.str "out")) mNil)) (mCons (mVar 5) mNil))))) sNil) (sSeq (sIf (mB (m2 inW (m2 ixW (mVar 8) (mC (.int 0))) (mC (.tup ((["put", "say", "ask"]:List Str).map W.str))))) (sEx (mMet "Doing" "do_statement" 2 aR (mVar 4) (mCons (mVar 8) mNil))) sNil) (sSeq (sSet 9 (mCall (arW 2 cT) (mCons (mVar 4) (mCons (mVar 8) mNil)))) (sSeq (sIf (mB (m2 isNW (mVar 9) (mC .non))) (sAug 6 (mC (.int 1))) (sSeq (sSet 6 (mVar 9)) (sAug 5 (mC (.int 1))))) (sAug 7 (mC (.int 1)))))))))
theorem jZ:gn=(sSeq (sSet 4 (mMake "Doing" 3 aX (mCons (mVar 0) (mCons (mVar 2) mNil)))) (sSeq (sSet 5 (mC (.int 0))) (sSeq (sSet 6 (mC (.int 0))) (sSeq (sSet 7 (mC (.int 0))) (sSeq (bM tR bR 502) (sRet (mTup (mCons (m1 (fldG "Doing" "said") (mVar 4)) (mCons (mTup (mCons (mC (.str "on")) mNil)) (mCons (mVar 5) mNil)))))))))):=rfl
def envR (bx rw nm:W)(bound:Int)(d:Nat)(jumps place done:Int)(a8 a9:Option W):Env':=[some bx,some rw,some nm,some (.int bound),some (.loc d),some (.int jumps),some (.int place),some (.int done),a8,a9]
theorem nG {ns:List Str}{m:Nat}{r:Rw}(g:r.G ns m): ∃c l,r.w=.tup (.str c::l)/\(r=.stop↔c= "stop")/\(c∈(["put", "say", "ask"]:List Str)↔ ∃st,r=.st st)/\ ∀st,r=.st st->decide (c= "ask")=st.asks:=by
 cases r with
 |st st=>
  cases st with
  |put y e=>exact⟨_,_,rfl,⟨fun z=>by (cases z),fun z=>absurd z (by decide+kernel)⟩,⟨fun _=>⟨_,rfl⟩,fun _=>by simp⟩,fun st z=>by cases z;exact y8⟩
  |say e=>exact⟨_,_,rfl,⟨fun z=>by (cases z),fun z=>absurd z (by decide+kernel)⟩,⟨fun _=>⟨_,rfl⟩,fun _=>by simp⟩,fun st z=>by cases z;exact y7⟩
  |ask y=>exact⟨_,_,rfl,⟨fun z=>by (cases z),fun z=>absurd z (by decide+kernel)⟩,⟨fun _=>⟨_,rfl⟩,fun _=>by simp⟩,fun st z=>by cases z;exact decide_eq_true rfl⟩
 |stop=>exact⟨_,_,rfl,⟨fun _=>rfl,fun _=>rfl⟩,⟨fun z=>absurd z (by decide+kernel),fun⟨st,z⟩=>by cases z⟩,fun st z=>by cases z⟩
 |jump t=>exact⟨_,_,rfl,⟨fun z=>by (cases z),fun z=>absurd z (by decide+kernel)⟩,⟨fun z=>absurd z (by decide+kernel),fun⟨st,z⟩=>by cases z⟩,fun st z=>by cases z⟩
 |cnd neg c a b t=>cases neg<;>exact⟨_,_,rfl,⟨fun z=>by (cases z),fun z=>absurd z (by decide+kernel)⟩,⟨fun z=>absurd z (by decide+kernel),fun⟨st,z⟩=>by cases z⟩,fun st z=>by cases z⟩
 |tab e ts=>exact⟨_,_,rfl,⟨fun z=>by (cases z),fun z=>absurd z (by decide+kernel)⟩,⟨fun z=>absurd z (by decide+kernel),fun⟨st,z⟩=>by cases z⟩,fun st z=>by cases z⟩
theorem uq {ns:List Str}{m:Nat}{r:Rw}(g:r.G ns m)(n:∀st,r≠.st st){c:Str}{l:List W}(e:r.w=.tup (.str c::l)):decide (c= "ask")=false:=by
 refine decide_eq_false fun z=>?_
 subst z
 obtain⟨c',l',e',_,q,_⟩:=nG g
 rw[e] at e'
 cases e'
 obtain⟨st,h⟩:=q.mp (by simp)
 exact n st h
section
variable {ns:List Str}{d kh kS:Nat}{nums:List Int}{rows:List Rw}{bx rw nm:W}{bound:Int}{B:Nat}{h0:List Ob}
theorem iB (RG:RowsG ns rows)(LR:Lw h0 rw (rows.map Rw.w))(hB:h0.length<=B)(d0:B<=d)(d1:B<=kh)(d2:B<=kS): ∀ (n m:Nat) (p jumps:Nat) (done:Int) (s:Sta) (h:List Ob) (a8 a9:Option W),n<m->done+n=bound->DoAt h d kh kS nums s->Has ns s.σ->p<rows.length->s.said.length+n<=100000->(∀i,i<h0.length->h[i]?=h0[i]?)->Ok (bM tR bR m (envR bx rw nm bound d jumps p done a8 a9)) h fun x h'=>(∀i,i<B->h'[i]?=h[i]?)/\h'[kS]?=some (.lst ((runR nums rows n p s).said.map W.int))/\(x=.rt (.tup [.loc kS,.tup [.str (runR nums rows n p s).en],nI (jumps+(runR nums rows n p s).jumps)])\/ ∃ (p':Nat) (dn:Int) (s':Sta) (b8 b9:Option W),x=.nx (envR bx rw nm bound d ((jumps+(runR nums rows n p s).jumps:Nat):Int) p' dn b8 b9)/\(runR nums rows n p s).en= "on"/\DoAt h' d kh kS nums s')
 |0,m+1,p,jumps,done,s,h,a8,a9,hm,hd,D,H,hp,hz,f=>by
  refine yW ?_ ⟨fun _ _=>rfl,D.said,.inr ⟨p,done,s,a8,a9,rfl,rfl,D⟩⟩
  have hc: ¬done<bound:=by omega
  simp! only[tR,envR,aa,decide_eq_false hc]
  exact av ⟨rfl,rfl⟩
 |n+1,m+1,p,jumps,done,s,h,a8,a9,hm,hd,D,H,hp,hz,f=>by
  refine yV ?_ ?_
  ·have hc:done<bound:=by omega
   simp! only[tR,envR,aa,decide_eq_true hc]
   exact av ⟨rfl,rfl⟩
  obtain⟨r,er⟩: ∃r,rows[p]?=some r:=⟨_,List.getElem?_eq_getElem hp⟩
  obtain⟨g,fa⟩:=RG.g p r er
  have LR':Lw h rw (rows.map Rw.w):=LR.keep f
  obtain⟨c,l,ew,hs,hst,hask⟩:=nG g
  have at0:atI (rows.map Rw.w) (p:Int)=some r.w:=cX (by rw[List.getElem?_map,er];rfl)
  rw[ew] at at0
  simp! only[bR,envR,mMet,aa]
  refine LR'.ix at0 ?_
  by_cases c0:c= "stop"
  ·have:=hs.mpr c0
   subst this
   simp! only[aa,ix0,decide_eq_true c0]
   refine cC D.ob (gf ..) ?_
   simp! only[aa,tupW]
   refine av (.inr ⟨_,rfl,fun _ _=>rfl,?_,?_⟩)
   ·unfold runR;rw[er];exact D.said
   ·unfold runR;rw[er];exact .inl rfl
  have ns0:r≠.stop:=fun z=>c0 (hs.mp z)
  simp! only[aa,ix0,decide_eq_false c0]
  refine fW D.ob (by unfold nsD;decide+kernel) ?_
  simp!
  refine pY D ?_
  by_cases is: ∃st,r=.st st
  ·obtain⟨st,rfl⟩:=is
   have ha:=hask st rfl
   cases hl:lacks nums s st with
   |true=>
    have hl':(decide (c= "ask") && decide (s.taken=nums.length))=true:=by rw[ha];exact hl
    simp! only[aa,hl']
    refine cC D.ob (gf ..) ?_
    simp! only[aa,tupW]
    refine av (.inr ⟨_,rfl,fun _ _=>rfl,?_,?_⟩)
    ·unfold runR;rw[er];dsimp only;rw[if_pos hl];exact D.said
    ·unfold runR;rw[er];dsimp only;rw[if_pos hl];exact .inl rfl
   |false=>
    have hl':(decide (c= "ask") && decide (s.taken=nums.length))=false:=by rw[ha];exact hl
    have er':runR nums rows (n+1) p s=runR nums rows n (p+1) (doS nums s st):=by
     conv=>lhs;unfold runR
     rw[er];dsimp only;rw[hl,if_neg Bool.false_ne_true]
    simp! only[aa,hl',ix0,r9,decide_eq_true (hst.mpr ⟨st,rfl⟩)]
    refine fW D.ob (by unfold nsD;decide+kernel) ?_
    simp!
    rw[<-ew]
    refine aY (wW D H g hl (by omega)) fun w h1 qq_=>?_
    obtain⟨ew1,D1,H1,O1⟩:=qq_
    subst ew1
    simp!
    refine aY (p0 (r:=.st st) D1 H1 g ns0) fun w h2 qq_=>?_
    obtain⟨e1,e2⟩:=qq_
    subst e1 e2
    have to0:Rw.to (doS nums s st).σ (.st st)=none:=rfl
    rw[to0]
    simp! only[aa,toW,isNW,isNon,sAug,gR]
    have ih:=iB RG LR hB d0 d1 d2 n m (p+1) jumps (done+1) (doS nums s st) h2 (some (Rw.st st).w) (some .non) (by omega) (by omega) D1 H1 (fa rfl) (by have:=mS nums s st;omega) fun i hi=>(O1.eq i (by omega) (by omega) (by omega)).trans (f i hi)
    rw[er']
    refine av (.inl ⟨_,rfl,Ok.imp ih fun x h' ⟨q1,q2,q3⟩=>⟨fun i hi=>(q1 i hi).trans (O1.eq i (by omega) (by omega) (by omega)),q2,q3⟩⟩)
  ·have na:decide (c= "ask")=false:=uq g (fun st z=>is ⟨st,z⟩) ew
   simp! only[aa,na,Bool.false_and,ix0,r9,decide_eq_false (fun z=>is (hst.mp z))]
   rw[<-ew]
   refine aY (p0 D H g ns0) fun w h2 qq_=>?_
   obtain⟨e1,e2⟩:=qq_
   subst e1 e2
   cases ht:r.to s.σ with
   |none=>
    have er':runR nums rows (n+1) p s=runR nums rows n (p+1) s:=by
     conv=>lhs;unfold runR
     rw[er]
     cases r with
     |st st=>exact absurd ⟨st,rfl⟩ is
     |stop=>exact absurd rfl ns0
     |jump t=>cases ht
     |cnd neg c a b t=>dsimp only;rw[ht]
     |tab e ts=>cases ht
    have fl:r.falls=true:=by
     cases r with
     |st st=>rfl
     |stop=>exact absurd rfl ns0
     |jump t=>cases ht
     |cnd neg c a b t=>rfl
     |tab e ts=>cases ht
    simp! only[aa,toW,isNW,isNon,sAug,gR]
    have ih:=iB RG LR hB d0 d1 d2 n m (p+1) jumps (done+1) s h2 (some r.w) (some .non) (by omega) (by omega) D H (fa fl) (by omega) f
    rw[er']
    exact av (.inl ⟨_,rfl,ih⟩)
   |some t=>
    have er':runR nums rows (n+1) p s=⟨(runR nums rows n t s).said,(runR nums rows n t s).en,(runR nums rows n t s).jumps+1⟩:=by
     conv=>lhs;unfold runR
     rw[er]
     cases r with
     |st st=>exact absurd ⟨st,rfl⟩ is
     |stop=>exact absurd rfl ns0
     |jump t=>cases ht;rfl
     |cnd neg c a b t=>dsimp only;rw[ht]
     |tab e ts=>dsimp only;rw[ht]
    have hb:t<rows.length:=by
     cases r with
     |st st=>exact absurd ⟨st,rfl⟩ is
     |stop=>exact absurd rfl ns0
     |jump t=>cases ht;exact g
     |cnd neg c a b t'=>
      have ht:(if cond s.σ c a b=neg then none else some t')=some t:=ht
      split at ht
      ·cases ht
      ·cases ht;exact g.2.2.2
     |tab e ts=>
      cases ht
      obtain⟨_,g1,_,g2⟩:=g
      have q1:0<=e.val s.σ % (ts.length:Int):=Int.emod_nonneg _ (by omega)
      have q2:e.val s.σ % (ts.length:Int)<ts.length:=Int.emod_lt_of_pos _ (by omega)
      rw[List.getD_eq_getElem?_getD,List.getElem?_eq_getElem (by omega),Option.getD_some]
      exact g2 _ (List.getElem_mem _)
    simp! only[aa,toW,nI,isNW,isNon,sAug,gR]
    have ih:=iB RG LR hB d0 d1 d2 n m t (jumps+1) (done+1) s h2 (some r.w) (some (nI t)) (by omega) (by omega) D H hb (by omega) f
    rw[er']
    have ej:jumps+1+(runR nums rows n t s).jumps=jumps+((runR nums rows n t s).jumps+1):=by omega
    rw[ej] at ih
    exact av (.inl ⟨_,rfl,ih⟩)
theorem nC {ps:List (Str×Int)}{h:List Ob}{bx rw nm:W}{bound:Nat}(RG:RowsG (ps.map (·.1)) rows)(bl:ps.length<=4)(bv: ∀p∈ps,0<=p.2/\p.2<1000)(LB:Lw h bx (ps.map bxW))(LR:Lw h rw (rows.map Rw.w))(LN:Lw h nm (nums.map W.int))(hb:bound<502):Ok (fk [bx,rw,nm,nI bound]) h fun w h'=>(∀i,i<h.length->h'[i]?=h[i]?)/\ ∃k,h.length<=k/\w=.tup [.loc k,.tup [.str (runR nums rows bound 0 (sta0 ps)).en],nI (runR nums rows bound 0 (sta0 ps)).jumps]/\h'[k]?=some (.lst ((runR nums rows bound 0 (sta0 ps)).said.map W.int)):=by
 have e0:fk [bx,rw,nm,nI bound]=bd (gn [some bx,some rw,some nm,some (nI bound),none,none,none,none,none,none]) finF:=rfl
 rw[e0,jZ]
 simp!
 refine uf (l:=mCons (mVar 0) (mCons (mVar 2) mNil)) rfl LB LN fun h1 D l1 f1=>?_
 simp!
 have lp:=iB (bx:=bx) (nm:=nm) (bound:=(bound:Int)) (B:=h.length) RG LR (Nat.le_refl _) (Nat.le_refl _) (Nat.le_succ _) (Nat.le_add_right _ _) bound 502 0 0 0 (sta0 ps) h1 none none hb (by omega) D (Has.first bl bv) RG.ne (by show 0+bound<=100000;omega) f1
 refine aY lp fun x h2 qq_=>?_
 obtain⟨q1,q2,q3⟩:=qq_
 rcases q3 with rfl|⟨p',dn,s',b8,b9,rfl,q4,q5⟩
 ·simp!
  exact av ⟨fun i hi=>(q1 i hi).trans (f1 i hi),_,Nat.le_add_right _ _,by rw[Nat.zero_add],q2⟩
 ·simp! only[envR,aa]
  refine cC q5.ob (gf ..) ?_
  simp! only[aa,tupW]
  exact av ⟨fun i hi=>(q1 i hi).trans (f1 i hi),_,Nat.le_add_right _ _,by rw[Nat.zero_add,q4];rfl,q2⟩
end
end
set_option maxHeartbeats 1000000
section
structure Bl where
 nm:Str
 sts:List Sm
 en:En
def Bl.G (ns:List Str)(m:Nat)(b:Bl):Prop:=b.sts.length<=8/\(∀s∈b.sts,s.G ns)/\b.en.G ns m
def BlAt (h:List Ob)(bl:W)(bs:List Bl):Prop:= ∃ls:List W,Lw h bl ls/\ls.length=bs.length/\ ∀ (i:Nat) (b:Bl),bs[i]?=some b-> ∃y,ls[i]?=some (.tup [.str b.nm,y,b.en.w])/\Lw h y (b.sts.map Sm.w)
theorem BlAt.keep {h h':List Ob}{x:W}{bs:List Bl}(P:BlAt h x bs)(f:∀i,i<h.length->h'[i]?=h[i]?):BlAt h' x bs:=by
 obtain⟨ls,L1,ll,q⟩:=P
 refine⟨ls,L1.keep f,ll,fun i b hb=>?_⟩
 obtain⟨y,e1,L3⟩:=q i b hb
 exact⟨y,e1,L3.keep f⟩
def PgAt (h:List Ob)(x:W)(ps:List (Str×Int))(bs:List Bl):Prop:= ∃ (bx bl:W) (ls:List W),x=.tup [bx,bl]/\Lw h bx (ps.map bxW)/\Lw h bl ls/\ls.length=bs.length/\ ∀ (i:Nat) (b:Bl),bs[i]?=some b-> ∃y,ls[i]?=some (.tup [.str b.nm,y,b.en.w])/\Lw h y (b.sts.map Sm.w)
theorem PgAt.keep {h h':List Ob}{x:W}{ps:List (Str×Int)}{bs:List Bl}(P:PgAt h x ps bs)(f:∀i,i<h.length->h'[i]?=h[i]?):PgAt h' x ps bs:=by
 obtain⟨bx,bl,ls,e,L1,L2,ll,q⟩:=P
 refine⟨bx,bl,ls,e,L1.keep f,L2.keep f,ll,fun i b hb=>?_⟩
 obtain⟨y,e1,L3⟩:=q i b hb
 exact⟨y,e1,L3.keep f⟩
theorem PgAt.bl {h:List Ob}{x:W}{ps:List (Str×Int)}{bs:List Bl}(P:PgAt h x ps bs): ∃bx bl,x=.tup [bx,bl]/\Lw h bx (ps.map bxW)/\BlAt h bl bs:=by
 obtain⟨bx,bl,ls,e,L1,L2,ll,q⟩:=P
 exact⟨bx,bl,e,L1,ls,L2,ll,q⟩
structure PgG (ps:List (Str×Int))(bs:List Bl):Prop where
 bx:Bx ps
 bv: ∀p∈ps,0<=p.2/\p.2<1000
 l1:1<=bs.length
 l2:bs.length<=10
 g: ∀b∈bs,b.G (ps.map (·.1)) bs.length
end
set_option maxHeartbeats 1000000
section
def doL (nums:List Int):Sta->List Sm->Sta×Bool
 |s,[]=>(s,true)
 |s,st::r=>if lacks nums s st=true then (s,false) else doL nums (doS nums s st) r
def side (σ:Sto):En->Nat
 |.iff c a b _ _=>if cond σ c a b=true then 0 else 1
 |.tab e ts=>(e.val σ % ts.length).toNat
 |_=>0
noncomputable def sides:En->List Nat
 |.go t=>[t]
 |.iff _ _ _ x y=>[x,y]
 |.tab _ ts=>ts
 |.stop=>[]
def to (σ:Sto)(e:En):Nat:=(sides e).getD (side σ e) 0
structure OutB where
 said:List Int
 en:Str
 went:List (Nat×Nat×Nat)
noncomputable abbrev Way:=Nat×Nat×Nat
def wayK (w:Way):List Key:=[.inl w.1,.inl w.2.1,.inl w.2.2]
def wayW (w:Way):W:=.kt (wayK w)
theorem ktN (a b c:Nat):ktW [nI a,nI b,nI c]=pr (wayW (a,b,c)):=by
 show gd (([nI a,nI b,nI c]:List W).length<=sizeLine) (pr (W.kt (wayK (a,b,c))))=_
 exact aG (by show (3:Nat)<=sizeLine;decide)
noncomputable def En.stops:En->Bool
 |.stop=>true
 |_=>false
def runB (nums:List Int)(bs:List Bl):Nat->Nat->Sta->OutB
 |0,_,s=>⟨s.said, "on",[]⟩
 |n+1,p,s=>match bs[p]? with
  |none=>⟨s.said, "",[]⟩
  |some b=>
   if (doL nums s b.sts).2=false then⟨(doL nums s b.sts).1.said, "out",[]⟩
   else if b.en.stops=true then⟨(doL nums s b.sts).1.said, "stop",[]⟩
   else⟨(runB nums bs n (to (doL nums s b.sts).1.σ b.en) (doL nums s b.sts).1).said,(runB nums bs n (to (doL nums s b.sts).1.σ b.en) (doL nums s b.sts).1).en,(p,side (doL nums s b.sts).1.σ b.en,to (doL nums s b.sts).1.σ b.en)::(runB nums bs n (to (doL nums s b.sts).1.σ b.en) (doL nums s b.sts).1).went⟩
theorem mT (nums:List Int): ∀ (l:List Sm) (s:Sta),(doL nums s l).1.said.length<=s.said.length+l.length
 |[],s=>Nat.le_refl _
 |st::r,s=>by
  unfold doL
  split
  ·exact Nat.le_add_right _ _
  ·have:=mT nums r (doS nums s st)
   have:=mS nums s st
   rw[List.length_cons];omega
section
variable {ns:List Str}
theorem Ab:decide (("go":Str)= "if")=false:=by decide+kernel
theorem z9:decide (("go":Str)= "table")=false:=by decide+kernel
theorem Aa:decide (("go":Str)= "stop")=false:=by decide+kernel
theorem z0:decide (("if":Str)= "go")=false:=by decide+kernel
theorem zZ:decide (("if":Str)= "stop")=false:=by decide+kernel
theorem zY:decide (("table":Str)= "go")=false:=by decide+kernel
theorem zu:decide (("table":Str)= "if")=false:=by decide+kernel
theorem zX:decide (("table":Str)= "stop")=false:=by decide+kernel
theorem jw {m:Nat}{e:En}(σ:Sto)(g:e.G ns m)(n:e.stops=false):side σ e<(sides e).length:=by
 cases e with
 |stop=>cases n
 |go t=>exact Nat.zero_lt_one
 |iff c a b x y=>show (if cond σ c a b=true then 0 else 1)<2;split<;>decide
 |tab e ts=>
  obtain⟨_,l1,_,_⟩:=g
  have q1:0<=e.val σ % (ts.length:Int):=Int.emod_nonneg _ (by omega)
  have q2:e.val σ % (ts.length:Int)<ts.length:=Int.emod_lt_of_pos _ (by omega)
  show (e.val σ % ts.length).toNat<ts.length
  omega
theorem su {m:Nat}{e:En}(g:e.G ns m): ∀t∈sides e,t<m:=by
 cases e with
 |stop=>intro t ht;cases ht
 |go t=>intro u hu;rw[List.mem_singleton.mp hu];exact g
 |iff c a b x y=>
  intro u hu
  obtain⟨_,_,_,gx,gy⟩:=g
  rcases List.mem_cons.mp hu with rfl|hu
  ·exact gx
  ·rw[List.mem_singleton.mp hu];exact gy
 |tab e ts=>exact g.2.2.2
theorem nh {m:Nat}{e:En}(σ:Sto)(g:e.G ns m)(n:e.stops=false):to σ e<m:=by
 have h:=jw σ g n
 unfold to
 rw[List.getD_eq_getElem?_getD,List.getElem?_eq_getElem h,Option.getD_some]
 exact su g _ (List.getElem_mem _)
theorem uB {m:Nat}{e:En}(g:e.G ns m): ∃c l,e.w=.tup (.str c::l)/\decide (c= "stop")=e.stops:=by
 cases e with
 |stop=>exact⟨_,_,rfl,decide_eq_true rfl⟩
 |go t=>exact⟨_,_,rfl,Aa⟩
 |iff c a b x y=>exact⟨_,_,rfl,zZ⟩
 |tab e ts=>exact⟨_,_,rfl,zX⟩
end
end
set_option maxHeartbeats 1000000
section
theorem sj {ns:List Str}{st:Sm}(g:st.G ns): ∃c l,st.w=.tup (.str c::l)/\decide (c= "ask")=st.asks:=by
 cases st with
 |put y e=>exact⟨_,_,rfl,y8⟩
 |say e=>exact⟨_,_,rfl,y7⟩
 |ask y=>exact⟨_,_,rfl,decide_eq_true rfl⟩
def bD:Env'->M Fl:=(sSeq (sIf (mB (mMet "Doing" "lacks_number" 2 aN (mVar 0) (mCons (mVar 2) mNil))) (sRet (mC (.bl false))) sNil) (sEx (mMet "Doing" "do_statement" 2 aR (mVar 0) (mCons (mVar 2) mNil))))
theorem g9:dD=(sSeq (sFor (mSrc (mVar 1) srcL) (tgN 2) bD) (sRet (mC (.bl true)))):=rfl
section
variable {ns:List Str}{d kh kS:Nat}{nums:List Int}
theorem qc {x:W}{G:List Ob->Prop}{h0:List Ob}(hG: ∀h,(∀i,i<h0.length->h[i]?=h0[i]?)->G h)(hd:h0.length<=d/\h0.length<=kh/\h0.length<=kS): ∀ (l:List Sm) (s:Sta) (h:List Ob) (a:Option W),(∀st∈l,st.G ns)->DoAt h d kh kS nums s->Has ns s.σ->s.said.length+l.length<=100000->(∀i,i<h0.length->h[i]?=h0[i]?)->Ok (L2.forM G (tgN 2) bD (l.map Sm.w) [some (.loc d),some x,a]) h fun r h'=>DoAt h' d kh kS nums (doL nums s l).1/\Has ns (doL nums s l).1.σ/\On3 d kh kS h h'/\(((doL nums s l).2=true/\ ∃a',r=.nx [some (.loc d),some x,a'])\/((doL nums s l).2=false/\r=.rt (.bl false)))
 |[],s,h,a,_,D,H,_,f=>by
  refine⟨.nx [some (.loc d),some x,a],h,?_,D,H,On3.refl,.inl ⟨rfl,a,rfl⟩⟩
  show L2.forM G (tgN 2) bD [] _ h=_
  unfold L2.forM
  rw[eS (hG h f)];rfl
 |st::l,s,h,a,g,D,H,z,f=>by
  have gst:=g st List.mem_cons_self
  obtain⟨c,m,ew,ha⟩:=sj gst
  have step:Ok (bD [some (.loc d),some x,some st.w]) h fun r h'=>(lacks nums s st=true/\r=.rt (.bl false)/\h'=h)\/(lacks nums s st=false/\r=.nx [some (.loc d),some x,some st.w]/\DoAt h' d kh kS nums (doS nums s st)/\Has ns (doS nums s st).σ/\On3 d kh kS h h'):=by
   rw[ew]
   simp! only[bD,mMet,aa]
   refine fW D.ob (by unfold nsD;decide+kernel) ?_
   simp!
   refine pY D ?_
   cases hl:lacks nums s st with
   |true=>
    have hl':(decide (c= "ask") && decide (s.taken=nums.length))=true:=by rw[ha];exact hl
    simp! only[aa,hl']
    exact av (.inl ⟨by first|rfl|trivial,rfl,rfl⟩)
   |false=>
    have hl':(decide (c= "ask") && decide (s.taken=nums.length))=false:=by rw[ha];exact hl
    simp! only[aa,hl']
    refine fW D.ob (by unfold nsD;decide+kernel) ?_
    simp!
    rw[<-ew]
    refine aY (wW D H gst hl (by rw[List.length_cons] at z;omega)) fun w h1 qq_=>?_
    obtain⟨ew1,D1,H1,O1⟩:=qq_
    subst ew1
    simp!
    exact av (.inr ⟨by first|rfl|trivial,rfl,D1,H1,O1⟩)
  obtain⟨r,h1,e1,q⟩:=step
  have fe:L2.forM G (tgN 2) bD ((st::l).map Sm.w) [some (.loc d),some x,a] h=(match bD [some (.loc d),some x,some st.w] h with
   |.ok (.nx r) h'=>L2.forM G (tgN 2) bD (l.map Sm.w) r h'
   |.ok (.ct r) h'=>L2.forM G (tgN 2) bD (l.map Sm.w) r h'
   |.ok (.bk r) h'=>.ok (.nx r) h'
   |.ok (.rt w) h'=>.ok (.rt w) h'
   |.ex c h'=>.ex c h'
   |.bad=>.bad):=by
   rw[List.map_cons]
   conv=>lhs;unfold L2.forM
   rw[eS (hG h f)]
   show (bd (bD [some (.loc d),some x,some st.w]) _) h=_
   unfold bd
   cases bD [some (.loc d),some x,some st.w] h with
   |ok a h'=>cases a<;>rfl
   |ex c h'=>rfl
   |bad=>rfl
  rcases q with⟨hl,rfl,rfl⟩|⟨hl,rfl,D1,H1,O1⟩
  ·have ed:doL nums s (st::l)=(s,false):=by unfold doL;rw[if_pos hl]
   rw[ed]
   refine⟨.rt (.bl false),_,?_,D,H,On3.refl,.inr ⟨rfl,rfl⟩⟩
   rw[fe,e1]
  ·have ed:doL nums s (st::l)=doL nums (doS nums s st) l:=by
    conv=>lhs;unfold doL
    rw[hl,if_neg Bool.false_ne_true]
   rw[ed]
   have f1: ∀i,i<h0.length->h1[i]?=h0[i]?:=fun i hi=>(O1.eq i (by omega) (by omega) (by omega)).trans (f i hi)
   obtain⟨r2,h2,e2,D2,H2,O2,q2⟩:=qc hG hd l (doS nums s st) h1 (some st.w) (fun y hy=>g y (List.mem_cons_of_mem _ hy)) D1 H1 (by have:=mS nums s st;rw[List.length_cons] at z;omega) f1
   refine⟨r2,h2,?_,D2,H2,O1.trans O2,q2⟩
   rw[fe,e1];exact e2
theorem yO {h h0:List Ob}{s:Sta}{y:W}{l:List Sm}(L:Lw h0 y (l.map Sm.w))(f:∀i,i<h0.length->h[i]?=h0[i]?)(hd:h0.length<=d/\h0.length<=kh/\h0.length<=kS)(g:∀st∈l,st.G ns)(D:DoAt h d kh kS nums s)(H:Has ns s.σ)(z:s.said.length+l.length<=100000):Ok (cq [.loc d,y]) h fun r h'=>r=.bl (doL nums s l).2/\DoAt h' d kh kS nums (doL nums s l).1/\Has ns (doL nums s l).1.σ/\On3 d kh kS h h':=by
 have e0:cq [.loc d,y]=bd (dD [some (.loc d),some y,none]) finF:=rfl
 rw[e0,g9]
 simp! only[sFor,aa]
 refine (L.keep f).src fun G hG=>?_
 refine aY (qc (h0:=h0) (fun h' f'=>hG h' (L.keep f')) hd l s h none g D H z f) fun r h' qq_=>?_
 obtain⟨D1,H1,O1,q⟩:=qq_
 rcases q with⟨q,a,rfl⟩|⟨q,rfl⟩
 ·simp!
  exact av ⟨by rw[q],D1,H1,O1⟩
 ·simp!
  exact av ⟨by rw[q],D1,H1,O1⟩
theorem nq {m:Nat}{e:En}(g:e.G ns m)(n:e.stops=false):cE [e.w]=pr (.tup ((sides e).map nI)):=by
 have e0:cE [e.w]=bd (eE [some e.w]) finF:=rfl
 rw[e0]
 unfold eE
 cases e with
 |stop=>cases n
 |go t=>
  unfold En.w sides
  simp! only[aa,ix0,ix1,eq_self,decide_true,tupW]
  rfl
 |iff s a b x y=>
  unfold En.w sides
  simp! only[aa,ix0,ix1,ix4,ix5,eq_self,decide_true,z0,tupW]
  rfl
 |tab e ts=>
  unfold En.w sides
  simp! only[aa,ix0,ix1,ix2,eq_self,decide_true,zY,zu]
theorem yx {β:Type}{h:List Ob}{s:Sta}{m:Nat}{e:En}{k:W->M β}{Q:β->List Ob->Prop}(D:DoAt h d kh kS nums s)(H:Has ns s.σ)(g:e.G ns m)(n:e.stops=false)(q:Ok (k (nI (side s.σ e))) h Q):Ok (bd (dj [.loc d,e.w]) k) h Q:=by
 refine aY (P:=fun w h'=>w=nI (side s.σ e)/\h'=h) ?_ fun w h' ⟨e1,e2⟩=>by subst e1 e2;exact q
 have e0:dj [.loc d,e.w]=bd (eT [some (.loc d),some e.w]) finF:=rfl
 rw[e0]
 unfold eT
 cases e with
 |stop=>cases n
 |go t=>
  unfold En.w side
  simp! only[aa,ix0,ix1,Ab,z9]
  exact av ⟨rfl,rfl⟩
 |iff c a b x y=>
  obtain⟨_,ga,gb,_⟩:=g
  unfold En.w side
  simp! only[mMet,aa,ix0,ix1,ix2,ix3,eq_self,decide_true]
  refine fW D.ob (by unfold nsD;decide+kernel) ?_
  simp! only[aa,ix0,ix1,ix2,ix3]
  refine mH D H ga gb ?_
  cases hq:cond s.σ c a b<;>(simp!)<;>exact av ⟨rfl,rfl⟩
 |tab e ts=>
  obtain⟨ge,l1,_,_⟩:=g
  have em:e.val s.σ % (ts.length:Int)=(((e.val s.σ % (ts.length:Int)).toNat:Nat):Int):=(Int.toNat_of_nonneg (Int.emod_nonneg _ (by omega))).symm
  unfold En.w side
  simp! only[mMet,aa,ix0,ix1,ix2,eq_self,decide_true,zu]
  refine fW D.ob (by unfold nsD;decide+kernel) ?_
  simp! only[aa,ix0,ix1,ix2,List.length_map]
  refine om D H ge (by omega) ?_
  simp!
  exact av ⟨by rw[em];rfl,rfl⟩
end
def tB:Env'->M Bool:=(mB (m2 ltW (mCall lenW (mCons (mVar 4) mNil)) (mVar 2)))
def bB:Env'->M Fl:=(sSeq (sSet 6 (m2 ixW (m2 ixW (mVar 0) (mC (.int 1))) (mVar 5))) (sSeq (sIf (mNot (mB (mCall (arW 2 cq) (mCons (mVar 3) (mCons (m2 ixW (mVar 6) (mC (.int 1))) mNil))))) (sRet (mTup (mCons (m1 (fldG "Doing" "said") (mVar 3)) (mCons (mTup (mCons (mC (.str "out")) mNil)) (mCons (mVar 4) mNil))))) sNil) (sSeq (sSet 7 (m2 ixW (mVar 6) (mC (.int 2)))) (sSeq (sIf (mB (m2 eqW (m2 ixW (mVar 7) (mC (.int 0))) (mC (.str "stop")))) (sRet (mTup (mCons (m1 (fldG "Doing" "said") (mVar 3)) (mCons (mTup (mCons (mC (.str "stop")) mNil)) (mCons (mVar 4) mNil))))) sNil) (sSeq (sSet 8 (mCall (arW 2 dj) (mCons (mVar 3) (mCons (mVar 7) mNil)))) (sSeq (sSet 9 (m2 ixW (mCall (arW 1 cE) (mCons (mVar 7) mNil)) (mVar 8))) (sSeq (sEx (mMeth isL bJ (mVar 4) (mCons (mKt (mCons (mVar 5) (mCons (mVar 8) (mCons (mVar 9) mNil)))) mNil))) (sSet 5 (mVar 9)))))))))
theorem qJ:p5=(sSeq (sSet 3 (mMake "Doing" 3 aX (mCons (m2 ixW (mVar 0) (mC (.int 0))) (mCons (mVar 1) mNil)))) (sSeq (sSet 4 (mNew (lenG mNil))) (sSeq (sSet 5 (mC (.int 0))) (sSeq (bM tB bB 27) (sRet (mTup (mCons (m1 (fldG "Doing" "said") (mVar 3)) (mCons (mTup (mCons (mC (.str "on")) mNil)) (mCons (mVar 4) mNil))))))))):=rfl
def envB (x nm:W)(bound:Int)(d kw:Nat)(place:Nat)(a6 a7 a8 a9:Option W):Env':=[some x,some nm,some (.int bound),some (.loc d),some (.loc kw),some (nI place),a6,a7,a8,a9]
section
variable {d kh kS kw:Nat}{nums:List Int}{ps:List (Str×Int)}{bs:List Bl}{x nm:W}{bound:Int}{h0:List Ob}
theorem og (PG:PgG ps bs)(PA:PgAt h0 x ps bs)(d0:h0.length<=d)(d1:h0.length<=kh)(d2:h0.length<=kS)(d3:h0.length<=kw)(w1:kw≠d)(w2:kw≠kh)(w3:kw≠kS): ∀ (n m:Nat) (p:Nat) (s:Sta) (went:List (Nat×Nat×Nat)) (h:List Ob) (a6 a7 a8 a9:Option W),n<m->(went.length:Int)+n=bound->DoAt h d kh kS nums s->Has (ps.map (·.1)) s.σ->p<bs.length->s.said.length+8 * n<=100000->went.length+n<=10000->h[kw]?=some (.lst (went.map wayW))->(∀i,i<h0.length->h[i]?=h0[i]?)->Ok (bM tB bB m (envB x nm bound d kw p a6 a7 a8 a9)) h fun r h'=>(∀i,i<h0.length->h'[i]?=h0[i]?)/\h'[kS]?=some (.lst ((runB nums bs n p s).said.map W.int))/\h'[kw]?=some (.lst ((went++(runB nums bs n p s).went).map wayW))/\(r=.rt (.tup [.loc kS,.tup [.str (runB nums bs n p s).en],.loc kw])\/ ∃ (p':Nat) (s':Sta) (b6 b7 b8 b9:Option W),r=.nx (envB x nm bound d kw p' b6 b7 b8 b9)/\(runB nums bs n p s).en= "on"/\DoAt h' d kh kS nums s')
 |0,m+1,p,s,went,h,a6,a7,a8,a9,hm,hb,D,H,hp,hz,hw,ew,f=>by
  refine yW ?_ ⟨f,D.said,by show _=some (Ob.lst ((went++[]).map wayW));rw[List.append_nil];exact ew,.inr ⟨p,s,a6,a7,a8,a9,rfl,rfl,D⟩⟩
  obtain⟨N,hN⟩: ∃N:Int,N=((went.map wayW).length:Int):=⟨_,rfl⟩
  have hN':N=(went.length:Int):=by rw[hN,List.length_map]
  have hc: ¬N<bound:=by omega
  have LW:Lw h (.loc kw) (went.map wayW):=.inr ⟨kw,rfl,ew⟩
  simp! only[tB,envB,aa]
  refine LW.len_eq hN ?_
  simp! only[aa,decide_eq_false hc]
  exact av ⟨rfl,rfl⟩
 |n+1,m+1,p,s,went,h,a6,a7,a8,a9,hm,hb,D,H,hp,hz,hw,ew,f=>by
  refine yV ?_ ?_
  ·obtain⟨N,hN⟩: ∃N:Int,N=((went.map wayW).length:Int):=⟨_,rfl⟩
   have hN':N=(went.length:Int):=by rw[hN,List.length_map]
   have hc:N<bound:=by omega
   have LW:Lw h (.loc kw) (went.map wayW):=.inr ⟨kw,rfl,ew⟩
   simp! only[tB,envB,aa]
   refine LW.len_eq hN ?_
   simp! only[aa,decide_eq_true hc]
   exact av ⟨rfl,rfl⟩
  obtain⟨b,eb⟩: ∃b,bs[p]?=some b:=⟨_,List.getElem?_eq_getElem hp⟩
  obtain⟨g1,g2,g3⟩:=PG.g b (List.mem_of_getElem? eb)
  obtain⟨bx,bl,ls,ex,LB,LL,ll,q⟩:=PA
  obtain⟨y,ey,LY⟩:=q p b eb
  obtain⟨c,l,ec,hc⟩:=uB g3
  have PA':PgAt h0 x ps bs:=⟨bx,bl,ls,ex,LB,LL,ll,q⟩
  have x1:ixW x (.int 1)=pr bl:=by rw[ex];exact ix1 _ _ _
  simp! only[bB,envB,aa,x1]
  refine (LL.keep f).ix (cX ey) ?_
  simp! only[aa,ix1]
  refine aY (yO LY f ⟨d0,d1,d2⟩ g2 D H (by omega)) fun r h1 qq_=>?_
  obtain⟨er,D1,H1,O1⟩:=qq_
  subst er
  have f1: ∀i,i<h0.length->h1[i]?=h0[i]?:=fun i hi=>(O1.eq i (by omega) (by omega) (by omega)).trans (f i hi)
  have ew1:h1[kw]?=some (.lst (went.map wayW)):=(O1.eq kw w1 w2 w3).trans ew
  cases hd:(doL nums s b.sts).2 with
  |false=>
   have er:runB nums bs (n+1) p s=⟨(doL nums s b.sts).1.said, "out",[]⟩:=by
    conv=>lhs;unfold runB
    rw[eb];dsimp only;rw[if_pos hd]
   rw[er]
   simp!
   refine cC D1.ob (gf ..) ?_
   simp! only[aa,tupW]
   exact av (.inr ⟨_,rfl,f1,D1.said,by rw[List.append_nil];exact ew1,.inl rfl⟩)
  |true=>
   simp! only[aa,ix2]
   cases hs:b.en.stops with
   |true=>
    have er:runB nums bs (n+1) p s=⟨(doL nums s b.sts).1.said, "stop",[]⟩:=by
     conv=>lhs;unfold runB
     rw[eb];dsimp only;rw[hd,if_neg (by simp),hs,if_pos rfl]
    rw[er]
    rw[hs] at hc
    simp! only[aa,ec,ix0,hc]
    refine cC D1.ob (gf ..) ?_
    simp! only[aa,tupW]
    exact av (.inr ⟨_,rfl,f1,D1.said,by rw[List.append_nil];exact ew1,.inl rfl⟩)
   |false=>
    have er:runB nums bs (n+1) p s=⟨(runB nums bs n (to (doL nums s b.sts).1.σ b.en) (doL nums s b.sts).1).said,(runB nums bs n (to (doL nums s b.sts).1.σ b.en) (doL nums s b.sts).1).en,(p,side (doL nums s b.sts).1.σ b.en,to (doL nums s b.sts).1.σ b.en)::(runB nums bs n (to (doL nums s b.sts).1.σ b.en) (doL nums s b.sts).1).went⟩:=by
     conv=>lhs;unfold runB
     rw[eb];dsimp only;rw[hd,if_neg (by simp),hs,if_neg (by simp)]
    rw[er]
    rw[hs] at hc
    have sd:=jw (doL nums s b.sts).1.σ g3 hs
    have tl:=nh (doL nums s b.sts).1.σ g3 hs
    have dl:=mT nums b.sts s
    have at0:atI ((sides b.en).map nI) ((side (doL nums s b.sts).1.σ b.en:Nat):Int)=some (nI (to (doL nums s b.sts).1.σ b.en)):=by
     refine cX ?_
     unfold to
     rw[List.getElem?_map,List.getD_eq_getElem?_getD,List.getElem?_eq_getElem sd,Option.getD_some];rfl
    have e1:ixW (.tup ((sides b.en).map nI)) (nI (side (doL nums s b.sts).1.σ b.en))=pr (nI (to (doL nums s b.sts).1.σ b.en)):=dh at0
    rw[ec]
    simp! only[aa,ix0,hc]
    rw[<-ec]
    refine yx D1 H1 g3 hs ?_
    simp! only[aa,nq g3 hs,e1]
    refine dQ ew1 ?_
    simp! only[mKt,aa,ktN]
    refine fJ ew1 (by rw[List.length_map];exact Nat.lt_of_le_of_lt (show went.length<=10000 by omega) (by decide)) ?_
    simp!
    have D2:DoAt (h1.set kw (.lst (went.map wayW++[wayW (p,side (doL nums s b.sts).1.σ b.en,to (doL nums s b.sts).1.σ b.en)]))) d kh kS nums (doL nums s b.sts).1:=D1.keep fun i hi=>by
     rw[List.getElem?_set_ne]
     rcases hi with rfl|rfl|rfl
     ·exact w1
     ·exact w2
     ·exact w3
    have ih:=og PG PA' d0 d1 d2 d3 w1 w2 w3 n m (to (doL nums s b.sts).1.σ b.en) (doL nums s b.sts).1 (went++[(p,side (doL nums s b.sts).1.σ b.en,to (doL nums s b.sts).1.σ b.en)]) (h1.set kw (.lst (went.map wayW++[wayW (p,side (doL nums s b.sts).1.σ b.en,to (doL nums s b.sts).1.σ b.en)]))) (some (.tup [.str b.nm,y,b.en.w])) (some b.en.w) (some (nI (side (doL nums s b.sts).1.σ b.en))) (some (nI (to (doL nums s b.sts).1.σ b.en))) (by omega) (by rw[List.length_append];show ((went.length+1:Nat):Int)+n=bound;omega) D2 H1 tl (by omega) (by rw[List.length_append];show went.length+1+n<=10000;omega) (by rw[bA ew1,List.map_append];rfl) fun i hi=>by rw[List.getElem?_set_ne (by omega)];exact f1 i hi
    refine av (.inl ⟨_,rfl,Ok.imp ih fun r h' ⟨q1,q2,q3,q4⟩=>⟨q1,q2,by rw[List.append_assoc] at q3;exact q3,q4⟩⟩)
theorem sx {h:List Ob}{bound:Nat}(PG:PgG ps bs)(PA:PgAt h x ps bs)(LN:Lw h nm (nums.map W.int))(hb:bound<27):Ok (kJ [x,nm,nI bound]) h fun w h'=>(∀i,i<h.length->h'[i]?=h[i]?)/\ ∃k k',h.length<=k/\h.length<=k'/\k≠k'/\w=.tup [.loc k,.tup [.str (runB nums bs bound 0 (sta0 ps)).en],.loc k']/\h'[k]?=some (.lst ((runB nums bs bound 0 (sta0 ps)).said.map W.int))/\h'[k']?=some (.lst ((runB nums bs bound 0 (sta0 ps)).went.map wayW)):=by
 have e0:kJ [x,nm,nI bound]=bd (p5 [some x,some nm,some (nI bound),none,none,none,none,none,none,none]) finF:=rfl
 rw[e0,qJ]
 obtain⟨bx,bl,ls,ex,LB,LL,ll,q⟩:=PA
 have PA':PgAt h x ps bs:=⟨bx,bl,ls,ex,LB,LL,ll,q⟩
 simp!
 refine uf (bx:=bx) (by rw[ex];simp! only[aa,ix0]) LB LN fun h1 D l1 f1=>?_
 simp!
 refine eB ?_
 simp!
 rw[l1]
 have D':DoAt (h1++[Ob.lst []]) h.length (h.length+1) (h.length+2) nums (sta0 ps):=D.keep fun i hi=>List.getElem?_append_left (by omega)
 have lp:=og (nm:=nm) (bound:=(bound:Int)) (kw:=h.length+3) PG PA' (Nat.le_refl _) (Nat.le_succ _) (Nat.le_add_right _ _) (Nat.le_add_right _ _) (by omega) (by omega) (by omega) bound 27 0 (sta0 ps) [] (h1++[Ob.lst []]) none none none none hb (by show (((([]:List (Nat×Nat×Nat)).length:Nat):Int))+bound=bound;simp) D' (Has.first PG.bx.len PG.bv) PG.l1 (by show 0+8 * bound<=100000;omega) (by show 0+bound<=10000;omega) (by rw[<-l1];exact bE) fun i hi=>by rw[List.getElem?_append_left (by omega)];exact f1 i hi
 refine aY lp fun r h2 qq_=>?_
 obtain⟨q1,q2,q3,q4⟩:=qq_
 rcases q4 with rfl|⟨p',s',b6,b7,b8,b9,rfl,q5,q6⟩
 ·simp!
  exact av ⟨q1,_,_,Nat.le_add_right _ _,Nat.le_add_right _ _,by omega,rfl,q2,q3⟩
 ·simp! only[envB,aa]
  refine cC q6.ob (gf ..) ?_
  simp! only[aa,tupW]
  exact av ⟨q1,_,_,Nat.le_add_right _ _,Nat.le_add_right _ _,by omega,by rw[q5],q2,q3⟩
end
end
set_option maxHeartbeats 1000000
section
noncomputable def T30:Int:=10 ^ (30:Int).toNat
theorem t30a:0<T30:=by decide+kernel
theorem t30b:T30<2 ^ 200:=by decide+kernel
theorem pw30:powW (.int 10) (.int 30)=pr (.int T30):=jW (i:=10) (j:=30) ⟨by decide,by decide,by decide⟩
theorem qO {h:List Ob}{j:Nat}(R:Reel h j):Ok (dm [.loc j]) h fun w h'=>(∃v:Int,w=.int v)/\Kp j h h':=by
 have e0:dm [.loc j]=bd (eU [some (.loc j),none]) finF:=rfl
 rw[e0]
 unfold eU
 simp!
 refine aK R (by decide) (by decide) fun v h1 v0 v1 K1=>?_
 by_cases c0:v=0
 ·simp! only[aa,decide_eq_true c0,pw30]
  refine aK K1.re t30a t30b fun u h2 u0 u1 K2=>?_
  simp!
  exact av ⟨⟨_,rfl⟩,K1.trans K2⟩
 by_cases c1:v=1
 ·simp! only[aa,decide_eq_false c0,decide_eq_true c1,pw30]
  refine aK K1.re t30a t30b fun u h2 u0 u1 K2=>?_
  simp!
  exact av ⟨⟨_,rfl⟩,K1.trans K2⟩
 by_cases c2:v=2
 ·simp! only[aa,decide_eq_false c0,decide_eq_false c1,decide_eq_true c2]
  refine aK K1.re (by decide) (by decide) fun u h2 u0 u1 K2=>?_
  simp!
  exact av ⟨⟨_,rfl⟩,K1.trans K2⟩
 ·simp! only[aa,decide_eq_false c0,decide_eq_false c1,decide_eq_false c2]
  refine aK K1.re (by decide) (by decide) fun u h2 u0 u1 K2=>?_
  simp!
  exact av ⟨⟨_,rfl⟩,K1.trans K2⟩
theorem ij (l:List W):srcL (.tl l)=pr ⟨l,fun _=>True⟩:=rfl
theorem wI (a b:List W)(h:a.length+b.length<=sizeLine):addW (.tl a) (.tl b)=pr (.tl (a++b)):=by
 show gd (a.length+b.length<=sizeLine) (pr (W.tl (a++b)))=_
 exact aG h
theorem pf {α:Type}(l:List α)(lo hi:Option Int):(cutW l lo hi).length<=l.length:=by
 unfold cutW
 rw[List.length_take,List.length_drop]
 omega
theorem wD {α:Type}(ns:List α)(a b:Nat):(cutW ns (some (a:Int)) (some (b:Int))).length<=b - a:=by
 unfold cutW
 rw[List.length_take]
 refine Nat.le_trans (Nat.min_le_left _ _) ?_
 show (if (b:Int)<0 then ((b:Int)+(ns.length:Int)).toNat else min (b:Int).toNat ns.length) - (if (a:Int)<0 then ((a:Int)+(ns.length:Int)).toNat else min (a:Int).toNat ns.length)<=b - a
 rw[if_neg (by omega),if_neg (by omega)]
 omega
theorem iJ {α:Type}(l:List α)(x:α):atI (l++[x]) (-1)=some x:=by
 unfold atI ixN
 rw[if_neg (by decide),if_pos (by rw[List.length_append];show -((l.length+1:Nat):Int)<= -1;omega)]
 show (l++[x])[((-1:Int)+((l++[x]).length:Int)).toNat]?=_
 rw[show ((-1:Int)+((l++[x]).length:Int)).toNat=l.length by rw[List.length_append];show ((-1:Int)+((l.length+1:Nat):Int)).toNat=_;omega]
 simp
end
set_option maxHeartbeats 1000000
section
def bodyP:Env'->M Fl:=(sSeq (sSet 8 (mCall (arW 1 aU) (mCons (mCall (arW 2 aj) (mCons (mVar 2) (mCons (m2 powW (mC (.int 10)) (mC (.int 40))) mNil))) mNil))) (sSeq (sSet 9 (mCall (arW 3 eZ) (mCons (mVar 8) (mCons (mVar 3) (mCons (mVar 6) mNil))))) (sSeq (sSet 10 (mNew (mComp [] (mSrcA (mCons (mCall (arW 2 aj) (mCons (mVar 8) (mCons (mC (.int 3)) mNil))) mNil) rng1) (tgN 0) mYes (mCall (arW 2 bm) (mCons (mVar 10) (mCons (mVar 5) mNil))) 2))) (sEx (mMeth isL bJ (mVar 7) (mCons (mTup (mCons (m2 ixW (mVar 1) (m2 modW (m2 addW (mVar 5) (mVar 4)) (mC (.int 14)))) (mCons (mVar 10) (mCons (mVar 9) mNil)))) mNil))))))
theorem iq:eJ=(sSeq (sSet 1 (mCall (arW 2 dM) (mCons (mCall (arW 1 aU) (mCons (mCall (arW 2 aW) (mCons (mVar 0) (mCons (mC (.int 0)) mNil))) mNil)) (mCons (mC (.int 14)) mNil)))) (sSeq (sSet 2 (mCall (arW 1 aU) (mCons (mCall (arW 2 aW) (mCons (mVar 0) (mCons (mC (.int 1)) mNil))) mNil))) (sSeq (sSet 3 (mNew (lenG mNil))) (sSeq (sFor (mSrcA (mCons (mCall (arW 2 aj) (mCons (mVar 2) (mCons (mC (.int 5)) mNil))) mNil) rng1) (tgN 4) (sEx (mMeth isL bJ (mVar 3) (mCons (mTup (mCons (m2 ixW (mVar 1) (mVar 4)) (mCons (mCall (arW 2 aj) (mCons (mVar 2) (mCons (m2 ixW (mTl (lenG (mCons (mC (.int 4)) (mCons (mC (.int 1000)) mNil)))) (mCall (arW 2 aj) (mCons (mVar 2) (mCons (mC (.int 2)) mNil)))) mNil))) mNil))) mNil)))) (sSeq (sSet 5 (mCall (arW 2 aj) (mCons (mVar 2) (mCons (mC (.int 14)) mNil)))) (sSeq (sSet 6 (m2 addW (mC (.int 1)) (mCall (arW 2 aj) (mCons (mVar 2) (mCons (mC (.int 10)) mNil))))) (sSeq (sSet 7 (mNew (lenG mNil))) (sSeq (sFor (mSrcA (mCons (mVar 6) mNil) rng1) (tgN 4) bodyP) (sRet (mTup (mCons (m1 iceW (mVar 3)) (mCons (m1 iceW (mVar 7)) mNil)))))))))))):=rfl
def bodyF:Env'->M Fl:=(sSeq (sSet 8 (mCall (arW 1 aU) (mCons (mVar 7) mNil))) (sSeq (sSet 9 (m2 ixW (m2 ixW (mVar 3) (mCall (arW 2 aj) (mCons (mVar 8) (mCons (mCall lenW (mCons (mVar 3) mNil)) mNil)))) (mC (.int 1)))) (sIf (mB (m2 ltW (mCall lenW (mCons (mVar 9) mNil)) (mC (.int 8)))) (sEx (mMeth isL iC (mVar 9) (mCons (mCall (arW 2 aj) (mCons (mVar 8) (mCons (m2 addW (mCall lenW (mCons (mVar 9) mNil)) (mC (.int 1))) mNil))) (mCons (mCall (arW 2 bm) (mCons (mVar 8) (mCons (mVar 2) mNil))) mNil)))) sNil)))
theorem iS:eW=(sSeq (sUnp (tgT [2,3]) (mVar 1)) (sSeq (sSet 4 (mCall (arW 1 aU) (mCons (mCall (arW 2 aW) (mCons (mVar 0) (mCons (mC (.int 2)) mNil))) mNil))) (sSeq (sSet 5 (m3 slW (mVar 0) (mPart (mC (.int 3))) (mPart (mC (.int 63))))) (sSeq (sSet 6 (mCall (arW 2 aj) (mCons (mVar 4) (mCons (m2 addW (mCall lenW (mCons (mVar 5) mNil)) (mC (.int 1))) mNil)))) (sSeq (sFor (mSrc (m3 slW (mVar 5) aP (mPart (mVar 6))) srcL) (tgN 7) bodyF) (sSeq (sSet 5 (m2 addW (m3 slW (mVar 5) (mPart (mVar 6)) aP) (mTl (mComp [] (mSrcA (mCons (mCall (arW 2 aj) (mCons (mVar 4) (mCons (mC (.int 6)) mNil))) mNil) rng1) (tgN 0) mYes (mCall (arW 2 aj) (mCons (mVar 6) (mCons (m2 powW (mC (.int 10)) (mC (.int 40))) mNil))) 2)))) (sRet (mTl (mComp [] (mSrc (mVar 5) srcL) (tgN 0) mYes (mCall (arW 1 dm) (mCons (mCall (arW 1 aU) (mCons (mVar 0) mNil)) mNil)) 2))))))))):=rfl
noncomputable def T40:Int:=10 ^ (40:Int).toNat
theorem t40a:0<T40:=by decide+kernel
theorem t40b:T40<2 ^ 200:=by decide+kernel
theorem pw40:powW (.int 10) (.int 40)=pr (.int T40):=jW (i:=10) (j:=40) ⟨by decide,by decide,by decide⟩
structure Bk where
 nm:Str
 k:Nat
 e:En
def Bk.w (b:Bk):W:=.tup [.str b.nm,.loc b.k,b.e.w]
def StsG (ns:List Str)(sts:List Sm):Prop:=sts.length<=8/\ ∀x∈sts,x.G ns
def GoodH (ns:List Str)(h:List Ob)(bl:List Bk):Prop:= ∀b∈bl,∃sts:List Sm,h[b.k]?=some (.lst (sts.map Sm.w))/\StsG ns sts
theorem GoodH.keep {ns:List Str}{h h':List Ob}{bl:List Bk}(G:GoodH ns h bl)(f:∀b∈bl,h'[b.k]?=h[b.k]?):GoodH ns h' bl:=fun b hb=>by rw[f b hb];exact G b hb
def envP (S:W)(zs:List Str)(jr kx:Nat)(a4:Option W)(u N:Int)(kb:Nat)(a8 a9 a10:Option W):Env':=[some S,some (.tl (zs.map W.str)),some (.loc jr),some (.loc kx),a4,some (.int u),some (.int N),some (.loc kb),a8,a9,a10]
theorem uK {h:List Ob}{S:W}{zs:List Str}{jr kx kb i:Nat}{u N:Int}{a8 a9 a10:Option W}{ps:List (Str×Int)}{bl:List Bk}(B:Bx ps)(lz:zs.length=14)(u0:0<=u)(n1:1<=N)(n2:N<=10)(R:Reel h jr)(ex:h[kx]?=some (.lst (ps.map bxW)))(eb:h[kb]?=some (.lst (bl.map Bk.w)))(nx:jr≠kx)(nb:jr≠kb)(bi:bl.length<=10):
  Ok (bodyP (envP S zs jr kx (some (.int i)) u N kb a8 a9 a10)) h fun x h'=> ∃a8 a9 a10 b,x=.nx (envP S zs jr kx (some (.int i)) u N kb a8 a9 a10)/\Reel h' jr/\h'[kb]?=some (.lst ((bl++[b]).map Bk.w))/\(∀j,j<h.length->j≠jr->j≠kb->h'[j]?=h[j]?)/\h.length<b.k/\b.k<h'.length/\b.e.G (ps.map (·.1)) N.toNat/\ ∃sts:List Sm,h'[b.k]?=some (.lst (sts.map Sm.w))/\StsG (ps.map (·.1)) sts:=by
 unfold bodyP
 have bx:=cj ex
 have bb:=cj eb
 obtain⟨ra,rb,re⟩:=R
 have br:=cj re
 simp! only[envP,aa,pw40]
 refine aK ⟨ra,rb,re⟩ t40a t40b fun c h1 c0 c1 K1=>?_
 have l1:=K1.fr.len
 simp!
 refine ii fun a b=>?_
 simp!
 have L:Lb (h1++[.lst [.int a,.int b]]) h1.length (.loc kx) ps:=.inr ⟨kx,rfl,by omega,cL ((K1.fr.eq kx (Ne.symm nx)).trans ex)⟩
 refine aY (yM B (m:=N) (by omega) (by omega) (j:=h1.length) ⟨a,b,bE⟩ L) fun w h2 qq_=>?_
 obtain⟨⟨e,ew,ge⟩,K2⟩:=qq_
 subst ew
 simp! only[aa,aI]
 refine aK K2.re (by decide) (by decide) fun v h3 v0 v1 K3=>?_
 have gl: ∀ {α:Type} (q:M α),gd ((intsW 0 v.toNat).length<=sizeLine) q=q:=fun q=>aG (by rw[bK];exact sz (by omega))
 simp! only[aa,du (show (-(2 ^ 62):Int)<=v by omega) (show (v:Int)<2 ^ 62 by omega),gl]
 refine fu (I:=fun n l h'=>Kp h1.length (h1++[.lst [.int a,.int b]]) h'/\ ∃sts:List Sm,l=sts.map Sm.w/\sts.length=n/\ ∀x∈sts,x.G (ps.map (·.1))) ⟨K2.trans K3,[],rfl,rfl,fun x hx=>absurd hx List.not_mem_nil⟩ gF (fun _ _ _ _=>trivial) (fun n w l h4 hw J=>?_) fun l h4 J=>?_
 ·obtain⟨K4,sts,rfl,ll,pl⟩:=J
  refine⟨_,rfl,?_⟩
  simp! only[List.replicate,List.cons_append,List.nil_append,aa]
  refine Ok.imp (si B K4.re (L.kp K4)) fun w h5 qz=>?_
  obtain⟨⟨st,ew,g⟩,K5⟩:=qz
  refine⟨K4.trans K5,sts++[st],by rw[ew,List.map_append];rfl,by rw[List.length_append,ll];rfl,fun x hx=>?_⟩
  rcases List.mem_append.mp hx with hx|hx
  ·exact pl x hx
  ·rw[List.mem_singleton.mp hx];exact g
 ·obtain⟨K4,sts,rfl,ll,pl⟩:=J
  rw[bK] at ll
  have l4:=K4.fr.len
  rw[List.length_append,List.length_singleton] at l4
  have fr: ∀j,j<h.length->j≠jr->h4[j]?=h[j]?:=fun j hj hr=>by
   rw[K4.fr.eq j (by omega),List.getElem?_append_left (by omega),K1.fr.eq j hr]
  have rr: ∃a b:Int,h4[jr]?=some (.lst [.int a,.int b]):=by
   obtain⟨a',b',e'⟩:=K1.re
   exact⟨a',b',by rw[K4.fr.eq jr (by omega),List.getElem?_append_left (by omega)];exact e'⟩
  have e4:h4[kb]?=some (.lst (bl.map Bk.w)):=(fr kb bb (Ne.symm nb)).trans eb
  simp!
  refine eB ?_
  have e5:(h4++[.lst (sts.map Sm.w)])[kb]?=some (.lst (bl.map Bk.w)):=cL e4
  obtain⟨z,ez⟩: ∃z:Str,ixW (.tl (zs.map W.str)) (.int ((u+(i:Int)) % 14))=pr (.str z):=by
   obtain⟨y,hy,e⟩:=gA (l:=zs.map W.str) (i:=(u+(i:Int)) % 14) (Int.emod_nonneg _ (by decide)) (by rw[List.length_map,lz];exact Int.emod_lt_of_pos _ (by decide))
   obtain⟨z,_,rfl⟩:=List.mem_map.mp hy
   exact⟨z,fj e⟩
  simp!
  refine dQ e5 ?_
  simp! only[aa,cM (i:=u+(i:Int)) (show (0:Int)<14 by decide),ez,tupW]
  refine fJ e5 (by rw[List.length_map];exact Nat.lt_of_le_of_lt bi (by decide)) ?_
  simp!
  refine av ⟨_,_,_,⟨z,h4.length,e⟩,rfl,?_,?_,fun j hj hr hb=>?_,?_,?_,ge,sts,?_,by omega,pl⟩
  ·obtain⟨a',b',e'⟩:=rr
   exact⟨a',b',by rw[List.getElem?_set_ne (Ne.symm nb)];exact cL e'⟩
  ·rw[bA e5,List.map_append];rfl
  ·rw[List.getElem?_set_ne (Ne.symm hb),List.getElem?_append_left (by omega)];exact fr j hj hr
  ·show h.length<h4.length;omega
  ·show h4.length<((h4++[Ob.lst (sts.map Sm.w)]).set kb _).length
   rw[List.length_set,List.length_append];show h4.length<h4.length+1;omega
  ·show ((h4++[Ob.lst (sts.map Sm.w)]).set kb _)[h4.length]?=_
   rw[List.getElem?_set_ne (by omega)];exact bE
structure ProgG (h:List Ob)(ps:List (Str×Int))(bl:List Bk):Prop where
 bx:Bx ps
 bv: ∀p∈ps,0<=p.2/\p.2<1000
 l1:1<=bl.length
 l2:bl.length<=10
 good: ∀b∈bl,b.e.G (ps.map (·.1)) bl.length/\b.k<h.length
 hp:GoodH (ps.map (·.1)) h bl
 nd:(bl.map (·.k)).Nodup
theorem oN (ns:List Int)(hh:List Ob):Ok (dz [.cl (ns.map W.int)]) hh fun w h'=> ∃ps bl,w=.tup [.tl (ps.map bxW),.tl (bl.map Bk.w)]/\ProgG h' ps bl:=by
 have e0:dz [.cl (ns.map W.int)]=bd (eJ [some (.cl (ns.map W.int)),none,none,none,none,none,none,none,none,none,none]) finF:=rfl
 rw[e0,iq]
 obtain⟨c0,ec0⟩:=jC ns 0 (by decide)
 obtain⟨c1,ec1⟩:=jC ns 1 (by decide)
 simp! only[aa,ec0,ec1]
 refine ii fun a b=>?_
 simp!
 refine aY (tK (j:=hh.length) ⟨a,b,bE⟩) fun w h1 qq_=>?_
 obtain⟨zs,e,lz,nz⟩:=qq_
 subst e
 simp!
 refine ii fun a b=>?_
 simp!
 refine eB ?_
 have ex0:(h1++[Ob.lst [.int a,.int b]]++[Ob.lst []])[h1.length+1]?=some (.lst []):=by
  rw[show h1.length+1=(h1++[Ob.lst [.int a,.int b]]).length by simp];exact bE
 have er0:Reel (h1++[Ob.lst [.int a,.int b]]++[Ob.lst []]) h1.length:=⟨a,b,cL bE⟩
 have el0:(h1++[Ob.lst [.int a,.int b]]).length=h1.length+1:=by simp
 rw[el0]
 generalize h1++[Ob.lst [.int a,.int b]]++[Ob.lst []]=h2 at *
 generalize h1.length=jr at *
 simp! only[sFor,aa]
 refine aK er0 (by decide) (by decide) fun v h3 v0 v1 K3=>?_
 simp! only[aa,du (show (-(2 ^ 62):Int)<=v by omega) (show (v:Int)<2 ^ 62 by omega)]
 refine eC (I:=fun i ρ h'=> ∃a4 ps,ρ=[some (.cl (ns.map W.int)),some (.tl (zs.map W.str)),some (.loc jr),some (.loc (jr+1)),a4,none,none,none,none,none,none]/\Reel h' jr/\h'[jr+1]?=some (.lst (ps.map bxW))/\ps.length=i/\ ∀p∈ps,Nm p.1/\0<=p.2/\p.2<1000) ⟨_,[],rfl,K3.re,(K3.fr.eq _ (by omega)).trans ex0,rfl,fun p hp=>absurd hp List.not_mem_nil⟩ (fun _ _ _ _=>trivial) (fun i w ρ h4 hw I=>?_) fun ρ h4 I=>?_
 ·obtain⟨a4,ps,rfl,R4,e4,ll,np⟩:=I
  obtain⟨rfl,hi⟩:=dw _ _ _ _ hw
  have hi:(i:Int)<5:=by omega
  obtain⟨z,hz,ez⟩: ∃z∈zs,ixW (.tl (zs.map W.str)) (.int (0+(i:Int)))=pr (.str z):=by
   obtain⟨y,hy,e⟩:=gA (l:=zs.map W.str) (i:=0+(i:Int)) (by omega) (by rw[List.length_map];omega)
   obtain⟨z,hz,rfl⟩:=List.mem_map.mp hy
   exact⟨z,hz,fj e⟩
  refine⟨_,rfl,?_⟩
  simp!
  refine dQ e4 ?_
  simp! only[aa,ez]
  refine aK R4 (by decide) (by decide) fun x h5 x0 x1 K5=>?_
  obtain⟨m,m0,m1,em⟩: ∃m:Int,0<m/\m<=1000/\atI [W.int 4,W.int 1000] x=some (.int m):=by
   obtain⟨y,hy,e⟩:=gA (l:=([4,1000]:List Int).map W.int) x0 x1
   obtain⟨m,hm,rfl⟩:=List.mem_map.mp hy
   have a: ∀m∈([4,1000]:List Int),0<m/\m<=1000:=by decide
   exact⟨m,(a m hm).1,(a m hm).2,e⟩
  simp! only[aa,fj em]
  refine aK K5.re m0 (Int.lt_of_le_of_lt m1 (by decide)) fun y h6 y0 y1 K6=>?_
  have K56:=K5.trans K6
  have e6:h6[jr+1]?=some (.lst (ps.map bxW)):=(K56.fr.eq _ (by omega)).trans e4
  simp! only[aa,tupW]
  refine fJ e6 (by rw[List.length_map];exact Nat.lt_of_le_of_lt (show ps.length<=5 by omega) (by decide)) ?_
  simp!
  refine av ⟨_,rfl,_,ps++[(z,y)],rfl,?_,?_,by rw[List.length_append,ll];rfl,fun p hp=>?_⟩
  ·obtain⟨a',b',e'⟩:=K6.re
   exact⟨a',b',by rw[List.getElem?_set_ne (by omega)];exact e'⟩
  ·rw[bA e6,List.map_append];rfl
  ·rcases List.mem_append.mp hp with hp|hp
   ·exact np p hp
   ·rw[List.mem_singleton.mp hp];exact⟨nz z hz,y0,by show y<1000;omega⟩
 ·obtain⟨a4,ps,rfl,R4,e4,ll,np⟩:=I
  rw[bK] at ll
  have B:Bx ps:=⟨by omega,fun p hp=>(np p hp).1⟩
  simp!
  refine aK R4 (by decide) (by decide) fun u h5 u0 u1 K5=>?_
  simp!
  refine aK K5.re (by decide) (by decide) fun n h6 n0 n1 K6=>?_
  have K56:=K5.trans K6
  have e6:h6[jr+1]?=some (.lst (ps.map bxW)):=(K56.fr.eq _ (by omega)).trans e4
  have bk:=cj e6
  obtain⟨N,hN⟩: ∃N:Int,N=1+n:=⟨_,rfl⟩
  obtain⟨ra,rb,re⟩:=K6.re
  simp! only[aa,<-hN]
  refine eB ?_
  simp! only[sFor,aa,du (show (-(2 ^ 62):Int)<=N by omega) (show N<2 ^ 62 by omega)]
  refine eC (I:=fun i ρ h'=> ∃a4 a8 a9 a10 bl,ρ=envP (.cl (ns.map W.int)) zs jr (jr+1) a4 u N h6.length a8 a9 a10/\Reel h' jr/\h'[jr+1]?=some (.lst (ps.map bxW))/\h'[h6.length]?=some (.lst (bl.map Bk.w))/\bl.length=i/\GoodH (ps.map (·.1)) h' bl/\(∀b∈bl,b.e.G (ps.map (·.1)) N.toNat/\h6.length<b.k/\b.k<h'.length)/\(bl.map (·.k)).Nodup) ⟨_,_,_,_,[],rfl,⟨ra,rb,cL re⟩,cL e6,bE,rfl,fun b hb=>absurd hb List.not_mem_nil,fun b hb=>absurd hb List.not_mem_nil,List.nodup_nil⟩ (fun _ _ _ _=>trivial) (fun i w ρ h7 hw I=>?_) fun ρ h7 I=>?_
  ·obtain⟨a4,a8,a9,a10,bl,rfl,R7,e7,eb,lq,G,gb,nd⟩:=I
   obtain⟨rfl,hi⟩:=dw _ _ _ _ hw
   rw[show (0:Int)+(i:Int)=(i:Int) by omega]
   refine⟨envP (.cl (ns.map W.int)) zs jr (jr+1) (some (.int i)) u N h6.length a8 a9 a10,rfl,?_⟩
   have b7:=cj eb
   have b71:=cj e7
   refine Ok.imp (uK B lz u0 (by omega) (by omega) R7 e7 eb (by omega) (by omega) (by omega)) fun x h8 qz=>?_
   obtain⟨b8,b9,b10,b,e,R8,eb8,fr,k1,k2,ge,sts,es,sg⟩:=qz
   refine⟨_,e,_,_,_,_,bl++[b],rfl,R8,(fr _ b71 (by omega) (by omega)).trans e7,eb8,by rw[List.length_append,lq];rfl,fun c hc=>?_,fun c hc=>?_,?_⟩
   ·rcases List.mem_append.mp hc with hc|hc
    ·obtain⟨_,q1,q2⟩:=gb c hc
     rw[fr c.k q2 (by omega) (by omega)];exact G c hc
    ·rw[List.mem_singleton.mp hc];exact⟨sts,es,sg⟩
   ·rcases List.mem_append.mp hc with hc|hc
    ·obtain⟨q0,q1,q2⟩:=gb c hc
     refine⟨q0,q1,?_⟩
     obtain⟨s',e',_⟩:=G c hc
     rw[<-fr c.k q2 (by omega) (by omega)] at e'
     exact cj e'
    ·rw[List.mem_singleton.mp hc];exact⟨ge,by omega,k2⟩
   ·rw[List.map_append]
    refine List.nodup_append.mpr ⟨nd,by simp,fun x hx y hy=>?_⟩
    obtain⟨c,hc,rfl⟩:=List.mem_map.mp hx
    rw[List.mem_singleton.mp hy]
    have:=(gb c hc).2.2
    show c.k≠b.k
    omega
  ·obtain⟨a4,a8,a9,a10,bl,rfl,R7,e7,eb,lq,G,gb,nd⟩:=I
   rw[bK] at lq
   have eN:N=(bl.length:Int):=by omega
   have eN':N.toNat=bl.length:=by omega
   simp! only[envP,aa]
   refine ib e7 ?_
   simp!
   refine ib (l:=bl.map Bk.w) (by rw[List.getElem?_set_ne (by omega)];exact eb) ?_
   simp! only[aa,tupW]
   refine av ⟨ps,bl,rfl,B,fun p hp=>(np p hp).2,by omega,by omega,fun b hb=>⟨by rw[<-eN'];exact (gb b hb).1,by rw[List.length_set,List.length_set];exact (gb b hb).2.2⟩,G.keep fun b hb=>?_,nd⟩
   have:=(gb b hb).2.1
   rw[List.getElem?_set_ne (by omega),List.getElem?_set_ne (by omega)]
theorem yd {β:Type}{h:List Ob}{k:W->M β}{Q:β->List Ob->Prop}{j:Nat}{l:List W}{i:Int}{w:W}(e:h[j]?=some (.lst l))(i0:0<=i)(i1:i<=l.length)(z:l.length<sizeLine)(q:Ok (k .non) (h.set j (.lst (l.take i.toNat++[w]++l.drop i.toNat))) Q):Ok (bd (iC (.loc j) [.int i,w]) k) h Q:=by
 refine bf (a:=.non) (h':=h.set j (.lst (l.take i.toNat++[w]++l.drop i.toNat))) ?_ q
 unfold iC
 simp only[e,if_pos (show 0<=i/\i<=(l.length:Int)/\l.length<sizeLine from⟨i0,i1,z⟩)]
theorem bw1 (b:Bk):ixW b.w (.int 1)=pr (.loc b.k):=ix1 _ _ _
def envF (S P:W)(bx:W)(bs:List W)(jr:Nat)(cs:List W)(c:Int)(a7 a8 a9:Option W):Env':=[some S,some P,some bx,some (.tl bs),some (.loc jr),some (.tl cs),some (.int c),a7,a8,a9]
theorem uL {h:List Ob}{S P:W}{ps:List (Str×Int)}{bl:List Bk}{jr:Nat}{cs:List W}{c x:Int}{a8 a9:Option W}(B:Bx ps)(l1:1<=bl.length)(l2:bl.length<=10)(G:GoodH (ps.map (·.1)) h bl)(gk: ∀b∈bl,b.k<jr)(R:Reel h jr):
  Ok (bodyF (envF S P (.tl (ps.map bxW)) (bl.map Bk.w) jr cs c (some (.int x)) a8 a9)) h fun y h'=> ∃a8 a9,y=.nx (envF S P (.tl (ps.map bxW)) (bl.map Bk.w) jr cs c (some (.int x)) a8 a9)/\GoodH (ps.map (·.1)) h' bl/\Reel h' jr:=by
 unfold bodyF
 obtain⟨ra,rb,re⟩:=R
 have br:=cj re
 simp! only[envF,aa]
 refine ii fun a b=>?_
 simp! only[aa,List.length_map]
 refine aK (j:=h.length) ⟨a,b,bE⟩ (by omega) (Int.lt_of_le_of_lt (show (bl.length:Int)<=10 by omega) (by decide)) fun v h1 v0 v1 K1=>?_
 obtain⟨y,hy,ey⟩:=gA (l:=bl.map Bk.w) v0 (by rw[List.length_map];exact v1)
 obtain⟨d,hd,rfl⟩:=List.mem_map.mp hy
 have dk:=gk d hd
 obtain⟨sts,es,sl,sg⟩:=G d hd
 have f1: ∀i,i<h.length->h1[i]?=h[i]?:=fun i hi=>by rw[K1.fr.eq i (by omega),List.getElem?_append_left hi]
 have e1:h1[d.k]?=some (.lst (sts.map Sm.w)):=(f1 _ (by omega)).trans es
 simp! only[aa,fj ey,bw1]
 refine Lw.len_eq (N:=(sts.length:Int)) (.inr ⟨d.k,rfl,e1⟩) (by rw[List.length_map]) ?_
 by_cases h8:(sts.length:Int)<8
 ·simp! only[aa,decide_eq_true h8]
  refine dQ e1 ?_
  simp!
  refine Lw.len_eq (N:=(sts.length:Int)) (.inr ⟨d.k,rfl,e1⟩) (by rw[List.length_map]) ?_
  simp!
  refine aK K1.re (by omega) (Int.lt_of_le_of_lt (show (sts.length:Int)+1<=10 by omega) (by decide)) fun u h2 u0 u1 K2=>?_
  simp!
  refine aY (si B (x:=.tl (ps.map bxW)) K2.re (.inl rfl)) fun w h3 qq_=>?_
  obtain⟨⟨st,ew,g⟩,K3⟩:=qq_
  subst ew
  have K123:=K2.trans K3
  have f3: ∀i,i<h.length->h3[i]?=h[i]?:=fun i hi=>by rw[K123.fr.eq i (by omega)];exact f1 i hi
  have e3:h3[d.k]?=some (.lst (sts.map Sm.w)):=(f3 _ (by omega)).trans es
  simp!
  refine yd e3 u0 (by rw[List.length_map];omega) (by rw[List.length_map];exact Nat.lt_of_le_of_lt sl (by decide)) ?_
  simp!
  refine av ⟨_,_,rfl,fun b' hb=>?_,ra,rb,?_⟩
  ·by_cases hk:b'.k=d.k
   ·refine⟨sts.take u.toNat++[st]++sts.drop u.toNat,by rw[hk,bA e3,List.map_append,List.map_append,List.map_take,List.map_drop];rfl,?_,fun x hx=>?_⟩
    ·rw[List.length_append,List.length_append,List.length_take,List.length_drop,List.length_singleton];omega
    ·rcases List.mem_append.mp hx with hx|hx
     ·rcases List.mem_append.mp hx with hx|hx
      ·exact sg x (List.mem_of_mem_take hx)
      ·rw[List.mem_singleton.mp hx];exact g
     ·exact sg x (List.mem_of_mem_drop hx)
   ·have:=gk b' hb
    rw[List.getElem?_set_ne (Ne.symm hk),f3 _ (by omega)]
    exact G b' hb
  ·rw[List.getElem?_set_ne (by omega),f3 _ br];exact re
 ·simp! only[aa,decide_eq_false h8]
  refine av ⟨_,_,rfl,G.keep fun b' hb=>?_,ra,rb,(f1 _ br).trans re⟩
  have:=gk b' hb
  exact f1 _ (by omega)
theorem rD {h:List Ob}{ps:List (Str×Int)}{bl:List Bk}(ns:List Int)(P:ProgG h ps bl):Ok (dW [.cl (ns.map W.int),.tup [.tl (ps.map bxW),.tl (bl.map Bk.w)]]) h fun w h'=>ProgG h' ps bl/\ ∃nums:List Int,w=.tl (nums.map W.int)/\nums.length<=100:=by
 have e0:dW [.cl (ns.map W.int),.tup [.tl (ps.map bxW),.tl (bl.map Bk.w)]]=bd (eW [some (.cl (ns.map W.int)),some (.tup [.tl (ps.map bxW),.tl (bl.map Bk.w)]),none,none,none,none,none,none,none,none]) finF:=rfl
 rw[e0,iS]
 obtain⟨c2,ec2⟩:=jC ns 2 (by decide)
 obtain⟨B,bv,l1,l2,gd',G,nd⟩:=P
 have gk: ∀b∈bl,b.k<h.length:=fun b hb=>(gd' b hb).2
 have cl:(cutW ns (some 3) (some 63)).length<=60:=wD ns 3 63
 obtain⟨cs,hcs⟩: ∃cs,cutW ns (some 3) (some 63)=cs:=⟨_,rfl⟩
 have ce:cutW (ns.map W.int) (some 3) (some 63)=cs.map W.int:=by rw[iI,hcs]
 rw[hcs] at cl
 simp! only[aa,ec2]
 refine ii fun a b=>?_
 simp! only[aa,ce,List.length_map]
 refine aK (j:=h.length) ⟨a,b,bE⟩ (by omega) (Int.lt_of_le_of_lt (show (cs.length:Int)+1<=100 by omega) (by decide)) fun c h1 c0 c1 K1=>?_
 have G1:GoodH (ps.map (·.1)) h1 bl:=G.keep fun b' hb=>by
  have:=gk b' hb
  rw[K1.fr.eq _ (by omega),List.getElem?_append_left this]
 simp! only[sFor,aa,ij,iI]
 refine eC (I:=fun i ρ h'=>(∃a7 a8 a9,ρ=envF (.cl (ns.map W.int)) (.tup [.tl (ps.map bxW),.tl (bl.map Bk.w)]) (.tl (ps.map bxW)) (bl.map Bk.w) h.length (cs.map W.int) c a7 a8 a9)/\GoodH (ps.map (·.1)) h' bl/\Reel h' h.length) ⟨⟨_,_,_,rfl⟩,G1,K1.re⟩ (fun _ _ _ _=>trivial) (fun i w ρ h2 hw I=>?_) fun ρ h2 I=>?_
 ·obtain⟨⟨a7,a8,a9,rfl⟩,G2,R2⟩:=I
  rw[List.getElem?_map] at hw
  obtain⟨x,_,rfl⟩:=Option.map_eq_some_iff.mp hw
  refine⟨envF (.cl (ns.map W.int)) (.tup [.tl (ps.map bxW),.tl (bl.map Bk.w)]) (.tl (ps.map bxW)) (bl.map Bk.w) h.length (cs.map W.int) c (some (.int x)) a8 a9,rfl,?_⟩
  exact Ok.imp (uL B l1 l2 G2 gk R2) fun y h3 ⟨b8,b9,e,G3,R3⟩=>⟨_,e,⟨_,_,_,rfl⟩,G3,R3⟩
 ·obtain⟨⟨a7,a8,a9,rfl⟩,G2,R2⟩:=I
  simp! only[envF,aa,aI,iI]
  refine aK R2 (by decide) (by decide) fun v h3 v0 v1 K3=>?_
  have gl: ∀ {α:Type} (q:M α),gd ((intsW 0 v.toNat).length<=sizeLine) q=q:=fun q=>aG (by rw[bK];exact sz (by omega))
  have G3:GoodH (ps.map (·.1)) h3 bl:=G2.keep fun b' hb=>K3.fr.eq _ (by have:=gk b' hb;omega)
  simp! only[aa,du (show (-(2 ^ 62):Int)<=v by omega) (show (v:Int)<2 ^ 62 by omega),gl]
  refine fu (I:=fun n l h'=>Kp h.length h3 h'/\ ∃zs:List Int,l=zs.map W.int/\zs.length=n) ⟨Kp.refl K3.re,[],rfl,rfl⟩ gF (fun _ _ _ _=>trivial) (fun n w l h4 hw J=>?_) fun l h4 J=>?_
  ·obtain⟨K4,zs,rfl,ll⟩:=J
   refine⟨_,rfl,?_⟩
   simp! only[List.replicate,List.cons_append,List.nil_append,aa,pw40]
   refine Ok.imp (lU K4.re t40a t40b) fun w h5 qz=>?_
   obtain⟨u,e,_,_,K5⟩:=qz
   subst e
   exact⟨K4.trans K5,zs++[u],by rw[List.map_append];rfl,by rw[List.length_append,ll];rfl⟩
  ·obtain⟨K4,zs,rfl,ll⟩:=J
   rw[bK] at ll
   have G4:GoodH (ps.map (·.1)) h4 bl:=G3.keep fun b' hb=>K4.fr.eq _ (by have:=gk b' hb;omega)
   have b4:h.length<h4.length:=by
    obtain⟨_,_,e⟩:=K4.re
    exact cj e
   have c3:=pf cs (some c) none
   have ad:addW (.tl ((cutW cs (some c) none).map W.int)) (.tl (zs.map W.int))=pr (.tl ((cutW cs (some c) none++zs).map W.int)):=by
    rw[wI _ _ (sz (by rw[List.length_map,List.length_map];omega)),List.map_append]
   have tl:(cutW cs (some c) none++zs).length<=100:=by rw[List.length_append];omega
   generalize cutW cs (some c) none++zs=ds at *
   have gl: ∀ {α:Type} (q:M α),gd ((ds.map W.int).length<=sizeLine) q=q:=fun q=>aG (by rw[List.length_map];exact sz (by omega))
   simp! only[aa,ad,ij,aI,gl]
   refine fu (I:=fun n l h'=>GoodH (ps.map (·.1)) h' bl/\h.length<h'.length/\ ∃us:List Int,l=us.map W.int/\us.length=n) ⟨G4,b4,[],rfl,rfl⟩ gF (fun _ _ _ _=>trivial) (fun n w l h5 hw J=>?_) fun l h5 J=>?_
   ·obtain⟨G5,b5,us,rfl,lu⟩:=J
    rw[List.getElem?_map] at hw
    obtain⟨x,_,rfl⟩:=Option.map_eq_some_iff.mp hw
    refine⟨_,rfl,?_⟩
    simp! only[List.replicate,List.cons_append,List.nil_append,aa]
    refine ii fun a b=>?_
    simp!
    refine Ok.imp (qO (j:=h5.length) ⟨a,b,bE⟩) fun w h6 qz=>?_
    obtain⟨⟨y,ew⟩,K6⟩:=qz
    refine⟨G5.keep fun b' hb=>?_,?_,us++[y],by rw[ew,List.map_append];rfl,by rw[List.length_append,lu];rfl⟩
    ·have:=gk b' hb
     rw[K6.fr.eq _ (by omega),List.getElem?_append_left (by omega)]
    ·rw[K6.fr.len,List.length_append];omega
   ·obtain⟨G5,b5,us,rfl,lu⟩:=J
    simp!
    exact av ⟨⟨B,bv,l1,l2,fun b' hb=>⟨(gd' b' hb).1,by have:=gk b' hb;omega⟩,G5,nd⟩,us,rfl,by rw[List.length_map] at lu;omega⟩
theorem ProgG.pg {h:List Ob}{ps:List (Str×Int)}{bl:List Bk}(P:ProgG h ps bl): ∃bs:List Bl,PgAt h (.tup [.tl (ps.map bxW),.tl (bl.map Bk.w)]) ps bs/\PgG ps bs/\bs.length=bl.length:=by
 obtain⟨B,bv,l1,l2,g,G,nd⟩:=P
 have: ∃bs:List Bl,bs.length=bl.length/\ ∀ (i:Nat) (c:Bk),bl[i]?=some c-> ∃b:Bl,bs[i]?=some b/\b.nm=c.nm/\b.en=c.e/\h[c.k]?=some (.lst (b.sts.map Sm.w))/\StsG (ps.map (·.1)) b.sts:=by
  clear l1 l2 g nd
  induction bl with
  |nil=>exact⟨[],rfl,fun i c hc=>by simp at hc⟩
  |cons c bl ih=>
   obtain⟨bs,e1,q⟩:=ih fun b hb=>G b (List.mem_cons_of_mem _ hb)
   obtain⟨sts,e2,q2⟩:=G c List.mem_cons_self
   refine⟨⟨c.nm,sts,c.e⟩::bs,by rw[List.length_cons,List.length_cons,e1],fun i d hd=>?_⟩
   cases i with
   |zero=>cases hd;exact⟨_,rfl,rfl,rfl,e2,q2⟩
   |succ i=>exact q i d (by simpa using hd)
 obtain⟨bs,e,q⟩:=this
 have back: ∀ (i:Nat) (b:Bl),bs[i]?=some b-> ∃c,bl[i]?=some c:=fun i b hb=>⟨_,List.getElem?_eq_getElem (by have:=(List.getElem?_eq_some_iff.mp hb).1;omega)⟩
 refine⟨bs,⟨_,_,_,rfl,.inl rfl,.inl rfl,by rw[List.length_map,e],fun i b hb=>?_⟩,⟨B,bv,by omega,by omega,fun b hb=>?_⟩,e⟩
 ·obtain⟨c,hc⟩:=back i b hb
  obtain⟨b',h1,h2,h3,h4,h5⟩:=q i c hc
  rw[hb] at h1
  cases h1
  exact⟨.loc c.k,by rw[List.getElem?_map,hc,h2,h3];rfl,.inr ⟨_,rfl,h4⟩⟩
 ·obtain⟨i,hi⟩:=List.getElem?_of_mem hb
  obtain⟨c,hc⟩:=back i b hi
  obtain⟨b',h1,h2,h3,h4,h5⟩:=q i c hc
  rw[hi] at h1
  cases h1
  exact⟨h5.1,h5.2,by rw[h3,e];exact (g c (List.mem_of_getElem? hc)).1⟩
end
set_option maxHeartbeats 1000000
section
theorem nE (nums:List Int){ps:List (Str×Int)}{bs:List Bl}(G:PgG ps bs): ∀ (n p:Nat) (s:Sta),(runB nums bs n p s).said.length<=s.said.length+8 * n/\(runB nums bs n p s).went.length<=n
 |0,p,s=>⟨Nat.le_refl _,Nat.le_refl _⟩
 |n+1,p,s=>by
  unfold runB
  split
  ·exact⟨Nat.le_add_right _ _,Nat.zero_le _⟩
  ·rename_i b hb
   have dl:=mT nums b.sts s
   have:=(G.g b (List.mem_of_getElem? hb)).1
   split
   ·exact⟨by show (doL nums s b.sts).1.said.length<=_;omega,Nat.zero_le _⟩
   ·split
    ·exact⟨by show (doL nums s b.sts).1.said.length<=_;omega,Nat.zero_le _⟩
    ·obtain⟨q1,q2⟩:=nE nums G n (to (doL nums s b.sts).1.σ b.en) (doL nums s b.sts).1
     exact⟨by show (runB nums bs n (to (doL nums s b.sts).1.σ b.en) (doL nums s b.sts).1).said.length<=_;omega,by show (runB nums bs n (to (doL nums s b.sts).1.σ b.en) (doL nums s b.sts).1).went.length+1<=n+1;omega⟩
theorem jU {nums:List Int}{ps:List (Str×Int)}{bs:List Bl}(G:PgG ps bs): ∀ (n p:Nat) (s:Sta),p<bs.length->((runB nums bs n p s).en= "on"/\(runB nums bs n p s).went.length=n)\/(((runB nums bs n p s).en= "stop"\/(runB nums bs n p s).en= "out")/\(runB nums bs n p s).went.length<n)
 |0,p,s,h=>.inl ⟨rfl,rfl⟩
 |n+1,p,s,h=>by
  obtain⟨b,hb⟩: ∃b,bs[p]?=some b:=⟨_,List.getElem?_eq_getElem h⟩
  have g:=(G.g b (List.mem_of_getElem? hb)).2.2
  unfold runB
  rw[hb]
  dsimp only
  split
  ·exact .inr ⟨.inr rfl,Nat.succ_pos _⟩
  ·split
   ·exact .inr ⟨.inl rfl,Nat.succ_pos _⟩
   ·rename_i _ hs
    rcases jU (nums:=nums) G n (to (doL nums s b.sts).1.σ b.en) (doL nums s b.sts).1 (nh _ g (by simpa using hs)) with⟨h1,h2⟩|⟨h1,h2⟩
    ·exact .inl ⟨h1,by rw[List.length_cons,h2]⟩
    ·exact .inr ⟨h1,by rw[List.length_cons];omega⟩
end
set_option maxHeartbeats 1000000
section
structure Nw (h h':List Ob):Prop where
 le:h.length<=h'.length
 eq: ∀i,i<h.length->h'[i]?=h[i]?
theorem Nw.refl (h:List Ob):Nw h h:=⟨Nat.le_refl _,fun _ _=>rfl⟩
theorem Nw.trans {a b c:List Ob}(x:Nw a b)(y:Nw b c):Nw a c:=⟨Nat.le_trans x.le y.le,fun i hi=>(y.eq i (Nat.lt_of_lt_of_le hi x.le)).trans (x.eq i hi)⟩
theorem Nw.get {h h':List Ob}{j:Nat}{b:Ob}(x:Nw h h')(e:h[j]?=some b):h'[j]?=some b:=(x.eq j (cj e)).trans e
structure Nd (h h':List Ob)(j:Nat)(b:Ob):Prop where
 nw:Nw h h'
 ge:h.length<=j
 new:h'[j]?=some b
theorem Nd.put {h h':List Ob}{j:Nat}{b:Ob}(N:Nd h h' j b)(c:Ob):Nd h (h'.set j c) j c:=
 ⟨⟨by rw[List.length_set];exact N.nw.le,fun i hi=>by rw[List.getElem?_set_ne (by have:=N.ge;omega)];exact N.nw.eq i hi⟩,N.ge,bA N.new⟩
theorem Nd.more {h h' h2:List Ob}{j:Nat}{b:Ob}(N:Nd h h' j b)(K:Nw h' h2):Nd h h2 j b:=⟨N.nw.trans K,N.ge,K.get N.new⟩
theorem Nd.mk0 {h:List Ob}{b:Ob}:Nd h (h++[b]) h.length b:=⟨⟨by simp,fun i hi=>by rw[List.getElem?_append_left hi]⟩,Nat.le_refl _,bE⟩
def eQ (k:Nat)(ts:List Nat):List Way:=ts.zipIdx.map fun p=>(k,p.2,p.1)
def waysL (es:List En):List Way:=es.zipIdx.flatMap fun p=>eQ p.2 (sides p.1)
def wyB (bs:List Bl):List Way:=waysL (bs.map Bl.en)
theorem jM (k:Nat)(ts:List Nat)(t:Nat):eQ k (ts++[t])=eQ k ts++[(k,ts.length,t)]:=by
 unfold eQ
 rw[List.zipIdx_append,List.map_append]
 simp
theorem lr (k:Nat)(ts:List Nat):(eQ k ts).length=ts.length:=by unfold eQ;simp
theorem iK (es:List En)(e:En):waysL (es++[e])=waysL es++eQ es.length (sides e):=by
 unfold waysL
 rw[List.zipIdx_append,List.flatMap_append]
 simp
theorem sides_mem {k:Nat}{ts:List Nat}{w:Way}:w∈eQ k ts↔w.1=k/\ts[w.2.1]?=some w.2.2:=by
 unfold eQ
 rw[List.mem_map]
 constructor
 ·rintro⟨⟨t,i⟩,h,rfl⟩
  rw[List.mem_zipIdx_iff_getElem?] at h
  exact⟨rfl,h⟩
 ·rintro⟨rfl,h⟩
  exact⟨(w.2.2,w.2.1),by rw[List.mem_zipIdx_iff_getElem?];exact h,rfl⟩
theorem ways_mem {es:List En}{w:Way}:w∈waysL es↔ ∃e,es[w.1]?=some e/\(sides e)[w.2.1]?=some w.2.2:=by
 unfold waysL
 rw[List.mem_flatMap]
 constructor
 ·rintro⟨⟨e,i⟩,h,hw⟩
  rw[List.mem_zipIdx_iff_getElem?] at h
  obtain⟨rfl,h2⟩:=sides_mem.mp hw
  exact⟨e,h,h2⟩
 ·rintro⟨e,h,h2⟩
  exact⟨(e,w.1),by rw[List.mem_zipIdx_iff_getElem?];exact h,sides_mem.mpr ⟨rfl,h2⟩⟩
theorem cG {α:Type}{l:List α}{i:Nat}{x:α}(h:l[i]?=some x):l.take (i+1)=l.take i++[x]:=by rw[List.take_succ,h];rfl
theorem gS {α:Type}{l:List α}{i:Nat}{x:α}(h:l[i]?=some x):(l.take i).length=i:=by
 have:=(List.getElem?_eq_some_iff.mp h).1
 rw[List.length_take];omega
theorem vS {α:Type}{l:List α}{x:α}(h:l.Nodup)(n:x ∉ l):(l++[x]).Nodup:=by
 rw[List.nodup_append]
 exact⟨h,by simp,fun a ha b hb e=>n (by rw[List.mem_singleton.mp hb] at e;rw[<-e];exact ha)⟩
theorem nk (k:Nat)(ts:List Nat): ∀n,n<=ts.length->(eQ k (ts.take n)).Nodup
 |0,_=>by rw[List.take_zero];exact List.nodup_nil
 |n+1,h=>by
  obtain⟨t,ht⟩: ∃t,ts[n]?=some t:=⟨_,List.getElem?_eq_getElem (by omega)⟩
  rw[cG ht,jM,gS ht]
  refine vS (nk k ts n (by omega)) fun m=>?_
  have:=(List.getElem?_eq_some_iff.mp (sides_mem.mp m).2).1
  rw[gS ht] at this
  exact Nat.lt_irrefl _ this
theorem pk (es:List En): ∀n,n<=es.length->(waysL (es.take n)).Nodup
 |0,_=>by rw[List.take_zero];exact List.nodup_nil
 |n+1,h=>by
  obtain⟨e,he⟩: ∃e,es[n]?=some e:=⟨_,List.getElem?_eq_getElem (by omega)⟩
  rw[cG he,iK,gS he,List.nodup_append]
  refine⟨pk es n (by omega),by have:=nk n (sides e) (sides e).length (Nat.le_refl _);rw[List.take_length] at this;exact this,fun a ha b hb eq=>?_⟩
  subst eq
  obtain⟨e',h1,_⟩:=ways_mem.mp ha
  have l1:=(List.getElem?_eq_some_iff.mp h1).1
  rw[gS he,(sides_mem.mp hb).1] at l1
  exact Nat.lt_irrefl _ l1
theorem wK (bs:List Bl):(wyB bs).Nodup:=by
 have:=pk (bs.map Bl.en) (bs.map Bl.en).length (Nat.le_refl _)
 rw[List.take_length] at this;exact this
theorem oI {ns:List Str}{m:Nat}{e:En}(g:e.G ns m):(sides e).length<=6:=by
 cases e with
 |stop=>exact Nat.zero_le _
 |go t=>show 1<=6;decide
 |iff c a b x y=>show 2<=6;decide
 |tab e ts=>exact g.2.2.1
theorem jF (es:List En)(h:∀e∈es,(sides e).length<=6): ∀n,n<=es.length->(waysL (es.take n)).length<=6 * n
 |0,_=>by rw[List.take_zero];exact Nat.le_refl _
 |n+1,hn=>by
  have ih:=jF es h n (by omega)
  have e1:es[n]?=some es[n]:=List.getElem?_eq_getElem (by omega)
  have h6:=h _ (List.mem_of_getElem? e1)
  rw[cG e1,iK,List.length_append,lr]
  omega
section
variable {ps:List (Str×Int)}{bs:List Bl}
theorem rQ (G:PgG ps bs):(wyB bs).length<=60:=by
 have:=jF (bs.map Bl.en) (fun e he=>by
  obtain⟨b,hb,rfl⟩:=List.mem_map.mp he
  exact oI (G.g b hb).2.2) (bs.map Bl.en).length (Nat.le_refl _)
 rw[List.take_length,List.length_map] at this
 have:=G.l2
 show (waysL (bs.map Bl.en)).length<=60
 omega
theorem jE {nums:List Int}(G:PgG ps bs): ∀ (n p:Nat) (s:Sta),∀w∈(runB nums bs n p s).went,w∈wyB bs
 |0,p,s=>fun w h=>absurd h List.not_mem_nil
 |n+1,p,s=>by
  unfold runB
  split
  ·exact fun w h=>absurd h List.not_mem_nil
  ·rename_i b hb
   have g:=(G.g b (List.mem_of_getElem? hb)).2.2
   split
   ·exact fun w h=>absurd h List.not_mem_nil
   ·split
    ·exact fun w h=>absurd h List.not_mem_nil
    ·rename_i _ hs
     intro w hw
     rcases List.mem_cons.mp hw with rfl|hw
     ·refine ways_mem.mpr ⟨b.en,by rw[List.getElem?_map,hb];rfl,?_⟩
      have sl:=jw (doL nums s b.sts).1.σ g (by simpa using hs)
      show (sides b.en)[side _ b.en]?=some (to _ b.en)
      unfold to
      rw[List.getD_eq_getElem?_getD,List.getElem?_eq_getElem sl,Option.getD_some]
     ·exact jE G n _ _ w hw
theorem qA {ns:List Str}{m:Nat}{e:En}(g:e.G ns m):cE [e.w]=pr (.tup ((sides e).map nI)):=by
 cases hs:e.stops with
 |false=>exact nq g hs
 |true=>
  cases e with
  |stop=>
   have e0:cE [En.stop.w]=bd (eE [some En.stop.w]) finF:=rfl
   rw[e0]
   unfold eE
   unfold En.w sides
   simp! only[aa,ix0,show decide (("stop":Str)= "go")=false by decide+kernel,show decide (("stop":Str)= "if")=false by decide+kernel,show decide (("stop":Str)= "table")=false by decide+kernel,tupW]
   rfl
  |_=>cases hs
theorem Lw.enum {β:Type}{h:List Ob}{Q:β->List Ob->Prop}{x:W}{l:List W}{k:Sr->M β}(p:Lw h x l)(q:∀G,(∀h',Lw h' x l->G h')->Ok (k ⟨numd 0 l,G⟩) h Q):Ok (bd (enumL [x]) k) h Q:=by
 show Ok (bd (bd (srcL x) fun s=>pr ⟨numd 0 s.l,s.G⟩) k) h Q
 rw[aa]
 refine Lw.src p fun G g=>?_
 rw[bh]
 exact q G g
theorem ue {β:Type}{h:List Ob}{k:W->M β}{Q:β->List Ob->Prop}{x:W}(PG:PgG ps bs)(PA:PgAt h x ps bs)(q:∀h',Nw h h'->Ok (k (.tl ((wyB bs).map wayW))) h' Q):Ok (bd (gO [x]) k) h Q:=by
 have e0:gO [x]=bd (mP [some x,none,none,none,none,none]) finF:=rfl
 rw[e0]
 unfold mP
 obtain⟨bx,bl,ls,ex,LB,LL,ll,qb⟩:=PA
 have x1:ixW x (.int 1)=pr bl:=by rw[ex];exact ix1 _ _ _
 simp!
 refine eB ?_
 simp! only[aa,x1]
 refine Lw.enum (LL.keep (Nd.mk0 (h:=h) (b:=.lst [])).nw.eq) fun G hG=>?_
 simp!
 have h6: ∀e∈bs.map Bl.en,(sides e).length<=6:=fun e he=>by
  obtain⟨b,hb,rfl⟩:=List.mem_map.mp he
  exact oI (PG.g b hb).2.2
 have b10:=PG.l2
 refine eC (I:=fun i ρ h'=> ∃a b c d,ρ=[some x,some (.loc h.length),a,b,c,d]/\Nd h h' h.length (.lst ((waysL ((bs.map Bl.en).take i)).map wayW))) ⟨_,_,_,_,rfl,Nd.mk0⟩ (fun _ _ _ I=>by obtain⟨_,_,_,_,_,N⟩:=I;exact hG _ (LL.keep N.nw.eq)) (fun i w ρ h1 hw I=>?_) fun ρ h1 I=>?_
 ·obtain⟨a,b,c,d,rfl,N⟩:=I
  obtain⟨x',hx',rfl⟩:=gJ _ _ _ _ hw
  have hi:i<bs.length:=by rw[<-ll];exact (List.getElem?_eq_some_iff.mp hx').1
  obtain⟨b,hb⟩: ∃b,bs[i]?=some b:=⟨_,List.getElem?_eq_getElem hi⟩
  obtain⟨y,ey,_⟩:=qb i b hb
  rw[hx'] at ey
  cases ey
  have g:=(PG.g b (List.mem_of_getElem? hb)).2.2
  have he:(bs.map Bl.en)[i]?=some b.en:=by rw[List.getElem?_map,hb];rfl
  have w6:=jF (bs.map Bl.en) h6 i (by rw[List.length_map];omega)
  have t6:=oI g
  refine⟨_,rfl,?_⟩
  simp! only[aa,ix2,qA g,rF]
  refine pP (I:=fun m ρ h'=> ∃c d,ρ=[some x,some (.loc h.length),some (.int (0+(i:Int))),some (.tup [.str b.nm,y,b.en.w]),c,d]/\Nd h h' h.length (.lst ((waysL ((bs.map Bl.en).take i)++eQ i ((sides b.en).take m)).map wayW))) ⟨_,_,rfl,by rw[List.take_zero];show Nd h h1 h.length (.lst ((_++[]).map wayW));rw[List.append_nil];exact N⟩ (fun _ _ _ _=>trivial) (fun m w ρ h2 hw I=>?_) fun ρ h2 I=>?_
  ·obtain⟨c,d,rfl,N⟩:=I
   obtain⟨x',hx',rfl⟩:=gJ _ _ _ _ hw
   rw[List.getElem?_map] at hx'
   obtain⟨t,ht,rfl⟩:=Option.map_eq_some_iff.mp hx'
   have hm:=(List.getElem?_eq_some_iff.mp ht).1
   have i0:(W.int (0+(i:Int)))=nI i:=by rw[Int.zero_add];rfl
   have m0:(W.int (0+(m:Int)))=nI m:=by rw[Int.zero_add];rfl
   refine⟨_,rfl,?_⟩
   simp!
   refine dQ N.new ?_
   rw[i0,m0]
   simp! only[mKt,aa,ktN]
   refine fJ N.new (by
    rw[List.length_map,List.length_append,lr,List.length_take]
    exact Nat.lt_of_le_of_lt (show _<=100 by omega) (by decide)) ?_
   simp!
   refine av ⟨_,rfl,_,_,rfl,?_⟩
   have:=N.put (.lst ((waysL ((bs.map Bl.en).take i)++eQ i ((sides b.en).take m)).map wayW++[wayW (i,m,t)]))
   rw[cG ht,jM,gS ht,<-List.append_assoc,List.map_append (l₂:=[(i,m,t)])]
   exact this
  ·obtain⟨c,d,rfl,N⟩:=I
   refine⟨_,rfl,_,_,_,_,rfl,?_⟩
   rw[cG he,iK,gS he]
   have l2:(numd 0 ((sides b.en).map nI)).length=(sides b.en).length:=by rw[gI,List.length_map]
   rw[l2,List.take_length] at N
   exact N
 ·obtain⟨a,b,c,d,rfl,N⟩:=I
  have l2:(numd 0 ls).length=(bs.map Bl.en).length:=by rw[gI,ll,List.length_map]
  rw[l2,List.take_length] at N
  simp!
  refine ib N.new ?_
  simp!
  exact q _ (N.put .gone).nw
end
end
set_option maxHeartbeats 1000000
section
def valsW (wy L:List Way):List W:=wy.map fun w=>W.int (L.count w:Nat)
theorem jG {a b:Way}(h:wayK a=wayK b):a=b:=by
 obtain⟨a1,a2,a3⟩:=a
 obtain⟨b1,b2,b3⟩:=b
 unfold wayK at h
 injection h with h1 h
 injection h with h2 h
 injection h with h3 h
 injection h1 with h1
 injection h2 with h2
 injection h3 with h3
 have g1:a1=b1:=Int.ofNat.inj h1
 have g2:a2=b2:=Int.ofNat.inj h2
 have g3:a3=b3:=Int.ofNat.inj h3
 rw[g1,g2,g3]
theorem uN (f:Way->W){w0:Way}: ∀ {wy:List Way},w0∈wy->atK (wy.map wayK) (wy.map f) (wayK w0)=some (f w0)
 |w::wy,h=>by
  rw[List.map_cons,List.map_cons]
  unfold atK
  by_cases e:w=w0
  ·subst e;rw[if_pos rfl]
  ·rw[if_neg fun z=>e (jG z)]
   rcases List.mem_cons.mp h with z|h
   ·exact absurd z.symm e
   ·exact uN f h
theorem lE (f:Way->W)(w0:Way)(v:W): ∀wy:List Way,mapAt (wy.map wayK) (wy.map f) (wayK w0) v=wy.map fun w=>if w=w0 then v else f w
 |[]=>by unfold mapAt;rfl
 |w::wy=>by
  rw[List.map_cons,List.map_cons,List.map_cons]
  unfold mapAt
  rw[lE f w0 v wy]
  by_cases e:w=w0
  ·subst e;rw[if_pos rfl,if_pos rfl]
  ·rw[if_neg fun z=>e (jG z),if_neg e]
theorem qq {w0:Way}{wy:List Way}:((wy.map wayK).any fun k=>decide (k=wayK w0))=decide (w0∈wy):=by
 rw[Bool.eq_iff_iff,List.any_eq_true,decide_eq_true_eq]
 constructor
 ·rintro⟨k,hk,e⟩
  obtain⟨w,hw,rfl⟩:=List.mem_map.mp hk
  rw[<-jG (of_decide_eq_true e)];exact hw
 ·exact fun h=>⟨_,List.mem_map.mpr ⟨w0,h,rfl⟩,decide_eq_true rfl⟩
theorem sH {w0:Way}{wy L:List Way}(h:w0∈wy):putW (wy.map wayK) (valsW wy L) (wayK w0) (.int ((L.count w0:Nat)+1))=(wy.map wayK,valsW wy (L++[w0])):=by
 unfold putW
 rw[qq,if_pos (decide_eq_true h)]
 unfold valsW
 rw[lE]
 refine congrArg _ (List.map_congr_left fun w hw=>?_)
 rw[List.count_append,List.count_singleton]
 by_cases e:w=w0
 ·subst e
  rw[if_pos rfl,if_pos (by simp)]
  rfl
 ·rw[if_neg e,if_neg (by simpa using fun z=>e z.symm)]
  rfl
theorem vh {w0:Way}{wy:List Way}(h:w0 ∉ wy):putW (wy.map wayK) (valsW wy []) (wayK w0) (.int 0)=((wy++[w0]).map wayK,valsW (wy++[w0]) []):=by
 unfold putW
 rw[qq,if_neg (by rw[decide_eq_false h];simp)]
 unfold valsW
 rw[List.map_append,List.map_append]
 rfl
section
variable {β:Type}{h:List Ob}{Q:β->List Ob->Prop}{j:Nat}{ks ks':List (List Key)}{ws ws':List W}{q:List Key}{v:W}
theorem tD {k:W->M β}{ρ:Env'}(q:Ok (k (.loc h.length)) (h++[.dit [] []]) Q):Ok (bd (o9 ρ) k) h Q:=bf (a:=.loc h.length) (h':=h++[.dit [] []]) rfl q
theorem tf {k:Unit->M β}(e:h[j]?=some (.dit ks ws))(hz:ks.length<sizeLine)(e2:putW ks ws q v=(ks',ws'))(r:Ok (k ()) (h.set j (.dit ks' ws')) Q):Ok (bd (dX (.loc j) (.kt q) v) k) h Q:=by
 refine bf (a:=()) (h':=h.set j (.dit ks' ws')) ?_ r
 unfold dX
 simp only[e,if_pos hz,e2]
theorem yb {k:W->M β}(e:h[j]?=some (.dit ks ws))(e2:atK ks ws q=some v)(r:Ok (k v) h Q):Ok (bd (ixT' (.loc j) (.kt q)) k) h Q:=by
 refine bf (a:=v) (h':=h) ?_ r
 have d:ditOf (.loc j) h=some (ks,ws):=by unfold ditOf;simp only[e]
 have kk:keyT (.kt q)=some q:=rfl
 unfold ixT'
 simp only[d,kk,e2]
theorem zj {k:List W->M β}(e:h[j]?=some (.dit ks ws))(r:Ok (k ws) h Q):Ok (bd (mR (.loc j)) k) h Q:=by
 refine bf (a:=ws) (h':=h) ?_ r
 have d:ditOf (.loc j) h=some (ks,ws):=by unfold ditOf;simp only[e]
 unfold mR
 simp only[d]
end
noncomputable def insW (l:List Int):W:=.tl (l.map W.int)
section
variable {ps:List (Str×Int)}{bs:List Bl}
def goes (ps:List (Str×Int))(bs:List Bl)(n:Nat)(ins:List (List Int)):List Way:=ins.flatMap fun l=>(runB l bs n 0 (sta0 ps)).went
theorem lI {n:Nat}(ins:List (List Int))(l:List Int):goes ps bs n (ins++[l])=goes ps bs n ins++(runB l bs n 0 (sta0 ps)).went:=by
 unfold goes
 rw[List.flatMap_append]
 simp
theorem ug {β:Type}{h:List Ob}{k:W->M β}{Q:β->List Ob->Prop}{x y:W}{ins:List (List Int)}{n:Nat}(PG:PgG ps bs)(PA:PgAt h x ps bs)(LI:Lw h y (ins.map insW))(hn:n<27)(q:∀h',Nw h h'->Ok (k (.tl (valsW (wyB bs) (goes ps bs n ins)))) h' Q):Ok (bd (fS [x,y,nI n]) k) h Q:=by
 have e0:fS [x,y,nI n]=bd (iG [some x,some y,some (nI n),none,none,none]) finF:=rfl
 rw[e0]
 unfold iG
 have wl:=rQ PG
 have nd:=wK bs
 simp!
 refine tD ?_
 have N0:Nd h (h++[Ob.dit [] []]) h.length (.dit [] []):=Nd.mk0
 simp!
 refine ue PG (PA.keep N0.nw.eq) fun h1 K1=>?_
 have N1:=N0.more K1
 clear K1 N0
 simp! only[aa,ij]
 refine eC (I:=fun i ρ h'=> ∃a,ρ=[some x,some y,some (nI n),some (.loc h.length),a,none]/\Nd h h' h.length (.dit (((wyB bs).take i).map wayK) (valsW ((wyB bs).take i) []))) ⟨_,rfl,N1⟩ (fun _ _ _ _=>trivial) (fun i w ρ h2 hw I=>?_) fun ρ h2 I=>?_
 ·obtain⟨a,rfl,N⟩:=I
  rw[List.getElem?_map] at hw
  obtain⟨t,ht,rfl⟩:=Option.map_eq_some_iff.mp hw
  refine⟨_,rfl,?_⟩
  simp! only[be,aa]
  have ni:t ∉ (wyB bs).take i:=fun m=>by
   obtain⟨j,hj⟩:=List.getElem?_of_mem m
   have jl:=(List.getElem?_eq_some_iff.mp hj).1
   rw[List.length_take] at jl
   rw[List.getElem?_take_of_lt (by omega)] at hj
   have il:=(List.getElem?_eq_some_iff.mp ht).1
   have:=(List.getElem?_inj (by omega) nd).mp (hj.trans ht.symm)
   omega
  unfold wayW
  refine tf N.new (by rw[List.length_map,List.length_take];exact Nat.lt_of_le_of_lt (show _<=100 by omega) (by decide)) (vh ni) ?_
  simp!
  refine av ⟨_,rfl,_,rfl,?_⟩
  rw[cG ht]
  exact N.put _
 ·obtain⟨a,rfl,N⟩:=I
  rw[List.length_map,List.take_length] at N
  simp!
  refine Lw.src (LI.keep N.nw.eq) fun G hG=>?_
  simp!
  refine eC (I:=fun i ρ h'=> ∃a b,ρ=[some x,some y,some (nI n),some (.loc h.length),a,b]/\Nd h h' h.length (.dit ((wyB bs).map wayK) (valsW (wyB bs) (goes ps bs n (ins.take i))))) ⟨_,_,rfl,N⟩ (fun _ _ _ I=>by obtain⟨_,_,_,N⟩:=I;exact hG _ (LI.keep N.nw.eq)) (fun i w ρ h3 hw I=>?_) fun ρ h3 I=>?_
  ·obtain⟨a,b,rfl,N⟩:=I
   rw[List.getElem?_map] at hw
   obtain⟨l,hl,rfl⟩:=Option.map_eq_some_iff.mp hw
   refine⟨_,rfl,?_⟩
   simp!
   refine aY (sx (nums:=l) (nm:=insW l) (bound:=n) PG (PA.keep N.nw.eq) (.inl rfl) hn) fun w h4 qq_=>?_
   obtain⟨f4,k1,k2,g1,g2,_,ew,e1,e2⟩:=qq_
   subst ew
   have K4:Nw h3 h4:=⟨by have:=cj e1;omega,f4⟩
   have N4:=N.more K4
   have gj:h.length<h3.length:=cj N.new
   have wm:=jE (nums:=l) PG n 0 (sta0 ps)
   have gs:=lI (ps:=ps) (bs:=bs) (n:=n) (ins.take i) l
   rw[<-cG hl] at gs
   generalize (runB l bs n 0 (sta0 ps)).went=wt at *
   simp! only[aa,ix2]
   refine Lw.src (.inr ⟨_,rfl,e2⟩) fun G2 hG2=>?_
   simp!
   refine pP (I:=fun m ρ h'=> ∃a,ρ=[some x,some y,some (nI n),some (.loc h.length),a,some (insW l)]/\h'[k2]?=some (.lst (wt.map wayW))/\Nd h h' h.length (.dit ((wyB bs).map wayK) (valsW (wyB bs) (goes ps bs n (ins.take i)++wt.take m)))) ⟨_,rfl,e2,by rw[List.take_zero,List.append_nil];exact N4⟩ (fun _ _ _ I=>by obtain⟨_,_,e,_⟩:=I;exact hG2 _ (.inr ⟨_,rfl,e⟩)) (fun m w ρ h5 hw I=>?_) fun ρ h5 I=>?_
   ·obtain⟨a,rfl,e5,N5⟩:=I
    rw[List.getElem?_map] at hw
    obtain⟨t,ht,rfl⟩:=Option.map_eq_some_iff.mp hw
    have tm:=wm t (List.mem_of_getElem? ht)
    refine⟨_,rfl,?_⟩
    simp! only[sAugT,aa]
    unfold wayW
    refine yb N5.new (uN _ tm) ?_
    simp! only[aa,gR]
    refine tf N5.new (by rw[List.length_map];exact Nat.lt_of_le_of_lt wl (by decide)) (sH tm) ?_
    simp!
    refine av ⟨_,rfl,_,rfl,?_,?_⟩
    ·rw[List.getElem?_set_ne (by omega)];exact e5
    ·rw[cG ht,<-List.append_assoc]
     exact N5.put _
   ·obtain⟨a,rfl,e5,N5⟩:=I
    rw[List.length_map,List.take_length,<-gs] at N5
    exact⟨_,rfl,_,_,rfl,N5⟩
  ·obtain⟨a,b,rfl,N⟩:=I
   rw[List.length_map,List.take_length] at N
   simp! only[lvL,aa]
   refine zj N.new ?_
   simp!
   exact q _ N.nw
end
end
set_option maxHeartbeats 1000000
section
structure Ki (h h':List Ob)(j:Nat)(b:Ob):Prop where
 re:Reel h' j
 len:h'.length=h.length+1
 eq: ∀i,i<h.length->i≠j->h'[i]?=h[i]?
 at':h'[h.length]?=some b
theorem Ki.take {h h1 h2:List Ob}{j:Nat}{b:Ob}(K:Ki h h1 j b)(hj:j<h.length)(T:Kp j h1 h2):Ki h h2 j b:=
 ⟨T.re,T.fr.len.trans K.len,fun i hi n=>(T.fr.eq i n).trans (K.eq i hi n),(T.fr.eq _ (by omega)).trans K.at'⟩
theorem Ki.put {h h1:List Ob}{j:Nat}{b:Ob}(K:Ki h h1 j b)(hj:j<h.length)(c:Ob):Ki h (h1.set h.length c) j c:=by
 obtain⟨x,y,e⟩:=K.re
 exact⟨⟨x,y,by rw[List.getElem?_set_ne (by omega)];exact e⟩,by rw[List.length_set];exact K.len,fun i hi n=>by rw[List.getElem?_set_ne (by omega)];exact K.eq i hi n,bA K.at'⟩
noncomputable def InsG (ins:List (List Int))(n:Nat):Prop:=ins.length<=n/\ ∀l∈ins,l.length<=100
theorem InsG.snoc {ins:List (List Int)}{n:Nat}{l:List Int}(g:InsG ins n)(hl:l.length<=100):InsG (ins++[l]) (n+1):=by
 refine⟨by rw[List.length_append];exact Nat.add_le_add_right g.1 1,fun m hm=>?_⟩
 rcases List.mem_append.mp hm with hm|hm
 ·exact g.2 m hm
 ·rw[List.mem_singleton.mp hm];exact hl
def tI:Env'->M Fl:=(sSeq (sIf (mAnd (mB (m2 neW (mVar 3) (mTl (lenG mNil)))) (mB (m2 eqW (mCall (arW 2 aj) (mCons (mVar 0) (mCons (mC (.int 3)) mNil))) (mC (.int 0))))) (sEx (mMeth isL bJ (mVar 3) (mCons (mTl (listL (mCons (m2 ixW (mVar 3) (mCall (arW 2 aj) (mCons (mVar 0) (mCons (mCall lenW (mCons (mVar 3) mNil)) mNil)))) mNil))) mNil))) sNil) (sRet (m1 iceW (mVar 3))))
def bI:Env'->M Fl:=(sSeq (sSet 5 (mCall (arW 2 aj) (mCons (mVar 0) (mCons (m2 addW (m2 ixW (mTl (lenG (mCons (mCall lenW (mCons (mVar 2) mNil)) (mCons (mCall minW (mCons (mCall lenW (mCons (mVar 2) mNil)) (mCons (mC (.int 4)) mNil))) mNil)))) (m2 modW (mVar 4) (mC (.int 2)))) (mC (.int 1))) mNil)))) (sSeq (sEx (mMeth isL bJ (mVar 3) (mCons (m3 slW (mVar 2) aP (mPart (mVar 5))) mNil))) (sSet 2 (m3 slW (mVar 2) (mPart (mVar 5)) aP))))
theorem iR:eV=(sSeq (sSet 2 (mTl (listL (mCons (mVar 1) mNil)))) (sSeq (sSet 3 (mNew (lenG mNil))) (sSeq (sFor (mSrcA (mCons (mCall (arW 2 aj) (mCons (mVar 0) (mCons (mC (.int 7)) mNil))) mNil) rng1) (tgN 4) bI) (sSeq (sIf (mB (m2 eqW (mCall (arW 2 aj) (mCons (mVar 0) (mCons (mC (.int 2)) mNil))) (mC (.int 0)))) (sEx (mMeth isL bJ (mVar 3) (mCons (mVar 2) mNil))) sNil) tI)))):=rfl
theorem zx {h h1:List Ob}{j i:Nat}{x:W}{l:List Int}{ins:List (List Int)}{a5:Option W}(hj:j<h.length)(K:Ki h h1 j (.lst (ins.map insW)))(g:InsG ins i)(hl:l.length<=100)(hi:i<7):
  Ok (bI [some (.loc j),some x,some (insW l),some (.loc h.length),some (.int (0+(i:Int))),a5]) h1 fun r h2=> ∃ (l2:List Int) (ins2:List (List Int)) (b5:Option W),r=.nx [some (.loc j),some x,some (insW l2),some (.loc h.length),some (.int (0+(i:Int))),b5]/\Ki h h2 j (.lst (ins2.map insW))/\InsG ins2 (i+1)/\l2.length<=100:=by
 unfold bI insW
 simp!
 obtain⟨N,hN⟩: ∃N:Int,N=((l.map W.int).length:Int):=⟨_,rfl⟩
 have hN':N=(l.length:Int):=by rw[hN,List.length_map]
 rw[<-hN]
 have mm:minW [.int N,.int 4]=pr (.int (if (4:Int)<N then 4 else N)):=rfl
 have md:modW (.int (0+(i:Int))) (.int 2)=pr (.int ((0+(i:Int)) % 2)):=cM (by decide)
 obtain⟨M,ix,M0,M1⟩: ∃M:Int,ixW (.tl [.int N,.int (if (4:Int)<N then 4 else N)]) (.int ((0+(i:Int)) % 2))=pr (.int M)/\0<=M/\M<=100:=by
  have z:(0+(i:Int)) % 2=0\/(0+(i:Int)) % 2=1:=by omega
  rcases z with z|z
  ·exact⟨N,by rw[z];exact fj rfl,by omega,by omega⟩
  ·refine⟨if (4:Int)<N then 4 else N,by rw[z];exact fj rfl,?_,?_⟩<;>split<;>omega
 simp! only[aa,mm,md,ix]
 refine aK K.re (by omega) (Int.lt_of_le_of_lt (show M+1<=200 by omega) (by decide)) fun v h2 v0 v1 T2=>?_
 have K2:=K.take hj T2
 simp!
 refine dQ K2.at' ?_
 simp!
 refine fJ K2.at' (by rw[List.length_map];exact Nat.lt_of_le_of_lt (show _<=100 by have:=g.1;omega) (by decide)) ?_
 simp!
 have c1:cutW (l.map W.int) none (some v)=(cutW l none (some v)).map W.int:=iI ..
 have c2:cutW (l.map W.int) (some v) none=(cutW l (some v) none).map W.int:=iI ..
 rw[c1,c2]
 refine av ⟨cutW l (some v) none,ins++[cutW l none (some v)],_,rfl,?_,g.snoc (Nat.le_trans (pf ..) hl),Nat.le_trans (pf ..) hl⟩
 have:=K2.put hj (.lst (ins.map insW++[insW (cutW l none (some v))]))
 rw[List.map_append]
 exact this
theorem x9 {β:Type}{h:List Ob}{k:W->M β}{Q:β->List Ob->Prop}{j:Nat}{l:List W}{ds:List PyData}(e:h[j]?=some (.lst l))(o1:optL (dataH h 49) l=some ds)(ca:PyData.canLayAll0 ds=true)(hd:ds.isEmpty=l.isEmpty)(q:Ok (k (.bl (!l.isEmpty))) h Q):Ok (bd (neW (.loc j) (.tl [])) k) h Q:=by
 refine bf (a:=.bl (!l.isEmpty)) (h':=h) ?_ q
 have x1:dataH h 50 (.loc j)=some (.list ds):=by
  show (match h[j]? with
   |some (.lst l)=>(optL (dataH h 49) l).map PyData.list
   |_=>none)=_
  simp only[e,o1];rfl
 have e2:eqB (.loc j) (.tl []) h=some l.isEmpty:=by
  show (match dataH h 50 (.loc j),dataH h 50 (.tl []) with
   |some d,some e=>if d.canLay0=true/\e.canLay0=true then some (PyData.eqv d e) else none
   |_,_=>none)=_
  rw[x1,show dataH h 50 (.tl [])=some (.list []) from rfl]
  show (if (PyData.list ds).canLay0=true/\(PyData.list []).canLay0=true then some (PyData.eqv (.list ds) (.list [])) else none)=_
  rw[if_pos ⟨by rw[PyData.canLay0];exact ca,by rw[PyData.canLay0,PyData.canLayAll0]⟩,PyData.eqv,<-hd]
  cases ds with
  |nil=>rw[PyData.eqvAll];rfl
  |cons a b=>rw[PyData.eqvAll];rfl
 unfold neW
 rw[e2]
theorem tu {β:Type}{h:List Ob}{k:W->M β}{Q:β->List Ob->Prop}{j:Nat}{ins:List (List Int)}(e:h[j]?=some (.lst (ins.map insW)))(q:Ok (k (.bl (!ins.isEmpty))) h Q):Ok (bd (neW (.loc j) (.tl [])) k) h Q:=by
 have em:(ins.map insW).isEmpty=ins.isEmpty:=by cases ins<;>rfl
 refine x9 e (ds:=ins.map fun l=>PyData.list (l.map PyData.int)) (eA (f:=dataH h 49) (g:=insW) (fun a=>?_) ins) (jf ins fun l _=>?_) (by cases ins<;>rfl) (by rw[em];exact q)
 ·show (optL (dataH h 48) (a.map W.int)).map PyData.list=_
  rw[eA (f:=dataH h 48) (g:=W.int) (k:=PyData.int) (fun _=>rfl) a]
  rfl
 ·rw[PyData.canLay0]
  exact jf l fun z _=>by rw[PyData.canLay0]
theorem wM {h h1:List Ob}{j:Nat}{x:W}{y a b:Option W}{ins:List (List Int)}(hj:j<h.length)(K:Ki h h1 j (.lst (ins.map insW)))(g:InsG ins 8):
  Ok (bd (tI [some (.loc j),some x,y,some (.loc h.length),a,b]) finF) h1 fun w h'=> ∃ins:List (List Int),w=.tl (ins.map insW)/\InsG ins 9/\Reel h' j/\h.length<=h'.length/\ ∀i,i<h.length->i≠j->h'[i]?=h[i]?:=by
 have fin: ∀ {h2:List Ob}{ins:List (List Int)},Ki h h2 j (.lst (ins.map insW))->InsG ins 9-> ∃ins':List (List Int),W.tl (ins.map insW)=.tl (ins'.map insW)/\InsG ins' 9/\Reel (h2.set h.length .gone) j/\h.length<=(h2.set h.length .gone).length/\ ∀i,i<h.length->i≠j->(h2.set h.length .gone)[i]?=h[i]?:=fun{h2 ins} K g=>by
  have:=K.put hj .gone
  exact⟨ins,rfl,g,this.re,by rw[this.len];omega,this.eq⟩
 unfold tI
 simp!
 refine tu K.at' ?_
 by_cases e:ins.isEmpty=true
 ·simp! only[aa,e]
  refine ib K.at' ?_
  simp!
  exact av (fin K ⟨Nat.le_succ_of_le g.1,g.2⟩)
 ·have e':ins.isEmpty=false:=by simpa using e
  simp! only[aa,e']
  refine aK K.re (by decide) (by decide) fun u h2 u0 u1 T2=>?_
  have K2:=K.take hj T2
  by_cases c:u=0
  ·simp! only[aa,decide_eq_true c]
   refine dQ K2.at' ?_
   simp!
   have LW:Lw h2 (.loc h.length) (ins.map insW):=.inr ⟨_,rfl,K2.at'⟩
   have lp:0<ins.length:=List.length_pos_iff.mpr (by simpa using e')
   refine LW.len_eq (N:=(ins.length:Int)) (by rw[List.length_map]) ?_
   simp!
   refine aK K2.re (by omega) (Int.lt_of_le_of_lt (show (ins.length:Int)<=100 by have:=g.1;omega) (by decide)) fun v h3 v0 v1 T3=>?_
   have K3:=K2.take hj T3
   obtain⟨n,rfl⟩:=Int.eq_ofNat_of_zero_le v0
   obtain⟨l,hl⟩: ∃l,ins[n]?=some l:=⟨_,List.getElem?_eq_getElem (by omega)⟩
   simp!
   refine jj K3.at' (w:=insW l) (cX (by rw[List.getElem?_map,hl];rfl)) ?_
   unfold insW
   simp! only[aa,gM]
   refine fJ K3.at' (by rw[List.length_map];exact Nat.lt_of_le_of_lt (show _<=100 by have:=g.1;omega) (by decide)) ?_
   have K4:Ki h (h3.set h.length (.lst ((ins++[l]).map insW))) j (.lst ((ins++[l]).map insW)):=K3.put hj _
   have ee:ins.map (fun l=>W.tl (l.map W.int))++[W.tl (l.map W.int)]=(ins++[l]).map insW:=by rw[List.map_append];rfl
   simp!
   first|rw[ee]|rw[show ins.map insW++[W.tl (l.map W.int)]=(ins++[l]).map insW by rw[List.map_append];rfl]
   refine ib K4.at' ?_
   simp!
   exact av (fin K4 (g.snoc (g.2 l (List.mem_of_getElem? hl))))
  ·simp! only[aa,decide_eq_false c]
   refine ib K2.at' ?_
   simp!
   exact av (fin K2 ⟨Nat.le_succ_of_le g.1,g.2⟩)
theorem rn {h:List Ob}{j:Nat}{nums:List Int}(R:Reel h j)(nl:nums.length<=100):Ok (dU [.loc j,insW nums]) h fun w h'=> ∃ins:List (List Int),w=.tl (ins.map insW)/\InsG ins 9/\Reel h' j/\h.length<=h'.length/\ ∀i,i<h.length->i≠j->h'[i]?=h[i]?:=by
 have e0:dU [.loc j,insW nums]=bd (eV [some (.loc j),some (insW nums),none,none,none,none]) finF:=rfl
 rw[e0,iR]
 have hj:j<h.length:=by obtain⟨_,_,e⟩:=R;exact cj e
 unfold insW
 simp! only[aa,gM]
 refine eB ?_
 have K0:Ki h (h++[.lst []]) j (.lst (([]:List (List Int)).map insW)):=by
  obtain⟨x,y,e⟩:=R
  exact⟨⟨x,y,cL e⟩,by simp,fun i hi _=>by rw[List.getElem?_append_left hi],bE⟩
 simp!
 refine aK K0.re (by decide) (by decide) fun v h1 v0 v1 T1=>?_
 have K1:=K0.take hj T1
 simp! only[aa,du (show (-(2 ^ 62):Int)<=v by omega) (show v<2 ^ 62 by omega)]
 refine eC (I:=fun i ρ h'=> ∃ (l:List Int) (ins:List (List Int)) (a b:Option W),ρ=[some (.loc j),some (insW nums),some (insW l),some (.loc h.length),a,b]/\Ki h h' j (.lst (ins.map insW))/\InsG ins i/\l.length<=100) ⟨nums,[],_,_,rfl,K1,⟨Nat.le_refl _,fun l hl=>absurd hl List.not_mem_nil⟩,nl⟩ (fun _ _ _ _=>trivial) (fun i w ρ h2 hw I=>?_) fun ρ h2 I=>?_
 ·obtain⟨l,ins,a,b,rfl,K2,g2,l2⟩:=I
  obtain⟨rfl,hi⟩:=dw _ _ _ _ hw
  refine⟨_,rfl,?_⟩
  exact Ok.imp (zx (x:=insW nums) (a5:=b) hj K2 g2 l2 (by omega)) fun r h3 ⟨l3,ins3,b5,er,K3,g3,ll⟩=>⟨_,er,l3,ins3,_,_,rfl,K3,g3,ll⟩
 ·obtain⟨l,ins,a,b,rfl,K2,g2,l2⟩:=I
  rw[bK] at g2
  have g2:InsG ins 7:=⟨Nat.le_trans g2.1 (by omega),g2.2⟩
  clear K1 T1
  simp!
  refine aK K2.re (by decide) (by decide) fun u h3 u0 u1 T3=>?_
  have K3:=K2.take hj T3
  clear K2 T3
  by_cases c:u=0
  ·simp! only[aa,decide_eq_true c]
   refine dQ K3.at' ?_
   simp!
   refine fJ K3.at' (by rw[List.length_map];exact Nat.lt_of_le_of_lt (show _<=100 by have:=g2.1;omega) (by decide)) ?_
   have K4:Ki h (h3.set h.length (.lst ((ins++[l]).map insW))) j (.lst ((ins++[l]).map insW)):=K3.put hj _
   simp!
   rw[show ins.map insW++[insW l]=(ins++[l]).map insW by rw[List.map_append];rfl]
   exact wM hj K4 (g2.snoc l2)
  ·simp! only[aa,decide_eq_false c]
   exact wM hj K3 ⟨Nat.le_succ_of_le g2.1,g2.2⟩
end
set_option maxHeartbeats 1000000
section
section
variable {β:Type}{h:List Ob}{k:W->M β}{Q:β->List Ob->Prop}{j:Nat}{l:List W}
theorem x6 {ns:List Nat}(e:h[j]?=some (.lst (ns.map nI)))(q:Ok (k (.bl (!ns.isEmpty))) h Q):Ok (bd (neW (.loc j) (.tl [])) k) h Q:=by
 refine bf (a:=.bl (!ns.isEmpty)) (h':=h) ?_ q
 have o1:optL (dataH h 49) (ns.map nI)=some (ns.map fun (n:Nat)=>PyData.int (n:Int)):=eA (f:=dataH h 49) (g:=nI) (k:=fun (n:Nat)=>PyData.int (n:Int)) (fun a=>rfl) ns
 have x1:dataH h 50 (.loc j)=some (.list (ns.map fun (n:Nat)=>PyData.int (n:Int))):=by
  show (match h[j]? with
   |some (.lst l)=>(optL (dataH h 49) l).map PyData.list
   |_=>none)=_
  simp only[e,o1];rfl
 have ca:PyData.canLayAll0 (ns.map fun (n:Nat)=>PyData.int (n:Int))=true:=jf ns fun z hz=>by rw[PyData.canLay0]
 have e2:eqB (.loc j) (.tl []) h=some ns.isEmpty:=by
  show (match dataH h 50 (.loc j),dataH h 50 (.tl []) with
   |some d,some e=>if d.canLay0=true/\e.canLay0=true then some (PyData.eqv d e) else none
   |_,_=>none)=_
  rw[x1,show dataH h 50 (.tl [])=some (.list []) from rfl]
  show (if (PyData.list (ns.map fun (n:Nat)=>PyData.int (n:Int))).canLay0=true/\(PyData.list []).canLay0=true then some (PyData.eqv (.list (ns.map fun (n:Nat)=>PyData.int (n:Int))) (.list [])) else none)=_
  rw[if_pos ⟨by rw[PyData.canLay0];exact ca,by rw[PyData.canLay0,PyData.canLayAll0]⟩,PyData.eqv]
  cases ns with
  |nil=>rw[List.map_nil,PyData.eqvAll];rfl
  |cons a b=>rw[List.map_cons,PyData.eqvAll];rfl
 unfold neW
 rw[e2]
theorem tq {v:Int}{w:W}(e:h[j]?=some (.lst l))(v0:0<=v)(v1:v<2 ^ 63)(ex:l[v.toNat]?=some w)(q:Ok (k w) (h.set j (.lst (l.eraseIdx v.toNat))) Q):Ok (bd (jX (.loc j) [.int v]) k) h Q:=by
 refine bf (a:=w) (h':=h.set j (.lst (l.eraseIdx v.toNat))) ?_ q
 have hl:=(List.getElem?_eq_some_iff.mp ex).1
 have e2:ixN l.length v=some v.toNat:=by
  unfold ixN
  rw[if_pos v0,if_pos (by omega)]
 unfold jX
 simp only[e,if_pos (show -(2 ^ 63)<=v/\v<2 ^ 63 from⟨by omega,v1⟩),e2,ex]
end
theorem lL {α:Type}(f:α->W): ∀ (l:List α) (i:Nat),(l.map f).eraseIdx i=(l.eraseIdx i).map f
 |[],_=>rfl
 |a::l,0=>rfl
 |a::l,i+1=>congrArg (f a:: ·) (lL f l i)
theorem kL {α:Type}: ∀ (l:List α) (i:Nat) (x:α),l[i]?=some x->List.Perm (x::l.eraseIdx i) l
 |[],_,_,h=>by cases h
 |a::l,0,x,h=>by cases h;exact List.Perm.refl _
 |a::l,i+1,x,h=>by
  rw[List.getElem?_cons_succ] at h
  exact (List.Perm.swap a x _).trans (List.Perm.cons a (kL l i x h))
structure Ord (m:Nat)(os:List Nat):Prop where
 pm:List.Perm os (List.range m)
 hd:os[0]?=some 0
def tO:Env'->M Bool:=(mB (m2 neW (mVar 2) (mTl (lenG mNil))))
def bO:Env'->M Fl:=(sEx (mMeth isL bJ (mVar 3) (mCons (mMeth isL jX (mVar 2) (mCons (mCall (arW 2 aj) (mCons (mVar 0) (mCons (mCall lenW (mCons (mVar 2) mNil)) mNil))) mNil)) mNil)))
theorem jp:fG=(sSeq (sSet 2 (mNew (mComp [] (mSrcA (mCons (mC (.int 1)) (mCons (mVar 1) mNil)) rng2) (tgN 0) mYes (mVar 0) 2))) (sSeq (sSet 3 (mNew (lenG (mCons (mC (.int 0)) mNil)))) (sSeq (bM tO bO 12) (sRet (mCall gH (mCons (mVar 3) mNil)))))):=rfl
theorem oQ {j kl ko:Nat}{N:Int}{m:Nat}(k1:j≠kl)(k2:j≠ko)(k3:kl≠ko)(n:Nat): ∀ {h:List Ob}{os ls:List Nat},Reel h j->h[kl]?=some (.lst (ls.map nI))->h[ko]?=some (.lst (os.map nI))->List.Perm (os++ls) (List.range m)->os[0]?=some 0->ls.length<n->os.length+ls.length<=100->
  Ok (bM tO bO n [some (.loc j),some (.int N),some (.loc kl),some (.loc ko)]) h fun x h'=>x=.nx [some (.loc j),some (.int N),some (.loc kl),some (.loc ko)]/\ ∃os':List Nat,h'[ko]?=some (.lst (os'.map nI))/\Ord m os'/\Reel h' j/\ ∀i,i≠j->i≠kl->i≠ko->h'[i]?=h[i]?:=by
 induction n with
 |zero=>intro h os ls R e1 e2 p hd hn hb;exact absurd hn (Nat.not_lt_zero _)
 |succ n ih=>
  intro h os ls R e1 e2 p hd hn hb
  unfold bM tO
  simp!
  refine x6 e1 ?_
  cases ls with
  |nil=>
   simp! only[List.isEmpty_nil,aa]
   rw[List.append_nil] at p
   exact av ⟨rfl,os,e2,⟨p,hd⟩,R,fun _ _ _ _=>rfl⟩
  |cons y ls=>
   simp! only[List.isEmpty_cons,aa]
   unfold bO
   simp!
   refine dQ e2 ?_
   simp!
   refine dQ e1 ?_
   simp!
   refine (Lw.len (.inr ⟨kl,rfl,e1⟩)) ?_
   simp!
   have hl:((y::ls).map nI).length=ls.length+1:=by simp
   refine aK R (by omega) (Int.lt_of_le_of_lt (show ((((y::ls).map nI).length:Nat):Int)<=100 by rw[List.length_cons] at hb;omega) (by decide)) fun v h1 v0 v1 K1=>?_
   have f1:h1[kl]?=some (.lst ((y::ls).map nI)):=(K1.fr.eq _ (Ne.symm k1)).trans e1
   have f2:h1[ko]?=some (.lst (os.map nI)):=(K1.fr.eq _ (Ne.symm k2)).trans e2
   have hv:v.toNat<(y::ls).length:=by rw[List.length_cons];omega
   obtain⟨x,hx⟩: ∃x,(y::ls)[v.toNat]?=some x:=⟨_,List.getElem?_eq_getElem hv⟩
   simp!
   refine tq f1 v0 (by rw[hl] at v1;rw[List.length_cons] at hb;omega) (w:=nI x) (by rw[List.getElem?_map,hx];rfl) ?_
   have g1:(h1.set kl (.lst (((y::ls).map nI).eraseIdx v.toNat)))[kl]?=some (.lst (((y::ls).eraseIdx v.toNat).map nI)):=by rw[bA f1,lL]
   have g2:(h1.set kl (.lst (((y::ls).map nI).eraseIdx v.toNat)))[ko]?=some (.lst (os.map nI)):=by rw[List.getElem?_set_ne k3];exact f2
   have g3:Reel (h1.set kl (.lst (((y::ls).map nI).eraseIdx v.toNat))) j:=by
    obtain⟨a,b,e⟩:=K1.re
    exact⟨a,b,by rw[List.getElem?_set_ne (Ne.symm k1)];exact e⟩
   have g4: ∀i,i≠j->i≠kl->(h1.set kl (.lst (((y::ls).map nI).eraseIdx v.toNat)))[i]?=h[i]?:=fun i a b=>by rw[List.getElem?_set_ne (Ne.symm b)];exact K1.fr.eq i a
   generalize h1.set kl (.lst (((y::ls).map nI).eraseIdx v.toNat))=h2 at *
   simp!
   refine fJ g2 (by rw[List.length_map];exact Nat.lt_of_le_of_lt (show os.length<=100 by omega) (by decide)) ?_
   simp!
   have le:((y::ls).eraseIdx v.toNat).length=ls.length:=by rw[List.length_eraseIdx_of_lt hv,List.length_cons];omega
   refine Ok.imp (ih (os:=os++[x]) (ls:=(y::ls).eraseIdx v.toNat) ?_ ?_ ?_ ?_ (by rw[List.getElem?_append_left (List.getElem?_eq_some_iff.mp hd).1];exact hd) (by rw[le];rw[List.length_cons] at hn;omega) (by rw[le,List.length_append];rw[List.length_cons] at hb;show os.length+1+ls.length<=100;omega)) fun x' h' ⟨e,os',q1,q2,q3,q4⟩=>⟨e,os',q1,q2,q3,fun i a b c=>by rw[q4 i a b c,List.getElem?_set_ne (Ne.symm c)];exact g4 i a b⟩
   ·obtain⟨a,b,e⟩:=g3
    exact⟨a,b,by rw[List.getElem?_set_ne (Ne.symm k2)];exact e⟩
   ·rw[List.getElem?_set_ne (Ne.symm k3)];exact g1
   ·rw[bA g2,List.map_append];rfl
   ·refine List.Perm.trans ?_ p
    rw[List.append_assoc]
    refine List.Perm.append_left os ?_
    exact kL _ _ _ hx
theorem sV {h:List Ob}{j m:Nat}(m1:1<=m)(m2:m<=10)(R:Reel h j):Ok (dL [.loc j,nI m]) h fun w h'=> ∃os,w=.tup (os.map nI)/\Ord m os/\Reel h' j/\ ∀i,i<h.length->i≠j->h'[i]?=h[i]?:=by
 have e0:dL [.loc j,nI m]=bd (fG [some (.loc j),some (nI m),none,none]) finF:=rfl
 rw[e0,jp]
 have jl:j<h.length:=by obtain⟨_,_,e⟩:=R;exact cj e
 have gl: ∀ {α:Type} (q:M α),gd ((intsW 1 ((m:Int) - 1).toNat).length<=sizeLine) q=q:=fun q=>aG (by rw[bK];exact sz (by omega))
 simp! only[nI,aa,aI,sD (i:=1) (j:=(m:Int)) (by decide) (by decide) (by omega) (by omega),gl]
 refine fu (I:=fun n a h'=>a=((List.range n).map fun r=>r+1).map nI/\h'=h) ⟨rfl,rfl⟩ gF (fun _ _ _ _=>trivial) (fun n w a h' hw I=>?_) fun a h' I=>?_
 ·obtain⟨rfl,rfl⟩:=I
  obtain⟨rfl,hn⟩:=dw _ _ _ _ hw
  refine⟨_,rfl,?_⟩
  simp! only[List.replicate,List.cons_append,List.nil_append,aa]
  refine av ⟨?_,rfl⟩
  rw[List.range_succ,List.map_append,List.map_append]
  show _++[W.int (1+(n:Int))]=_++[W.int ((n+1:Nat):Int)]
  rw[show (1+(n:Int))=((n+1:Nat):Int) by omega]
 obtain⟨rfl,rfl⟩:=I
 rw[bK]
 refine eB ?_
 simp!
 refine eB ?_
 simp!
 have e1:(h'++[Ob.lst (((List.range ((m:Int) - 1).toNat).map fun r=>r+1).map nI)]++[Ob.lst [W.int 0]])[h'.length]?=some (.lst (((List.range ((m:Int) - 1).toNat).map fun r=>r+1).map nI)):=cL bE
 have e2:(h'++[Ob.lst (((List.range ((m:Int) - 1).toNat).map fun r=>r+1).map nI)]++[Ob.lst [W.int 0]])[h'.length+1]?=some (.lst (([0]:List Nat).map nI)):=by
  rw[show h'.length+1=(h'++[Ob.lst (((List.range ((m:Int) - 1).toNat).map fun r=>r+1).map nI)]).length by simp];exact bE
 have e3:Reel (h'++[Ob.lst (((List.range ((m:Int) - 1).toNat).map fun r=>r+1).map nI)]++[Ob.lst [W.int 0]]) j:=by
  obtain⟨a,b,e⟩:=R
  exact⟨a,b,cL (cL e)⟩
 have e4: ∀i,i<h'.length->(h'++[Ob.lst (((List.range ((m:Int) - 1).toNat).map fun r=>r+1).map nI)]++[Ob.lst [W.int 0]])[i]?=h'[i]?:=fun i hi=>by rw[List.getElem?_append_left (by simp;omega),List.getElem?_append_left hi]
 have e5:(h'++[Ob.lst (((List.range ((m:Int) - 1).toNat).map fun r=>r+1).map nI)]).length=h'.length+1:=by simp
 rw[e5]
 generalize h'++[Ob.lst (((List.range ((m:Int) - 1).toNat).map fun r=>r+1).map nI)]++[Ob.lst [W.int 0]]=h2 at *
 have pm:List.Perm ([0]++(List.range ((m:Int) - 1).toNat).map fun r=>r+1) (List.range m):=by
  obtain⟨n,rfl⟩: ∃n,m=n+1:=⟨m - 1,by omega⟩
  rw[show (((n+1:Nat):Int) - 1).toNat=n by omega,List.range_succ_eq_map]
  exact List.Perm.refl _
 refine aY (oQ (N:=(m:Int)) (m:=m) (by omega) (by omega) (by omega) 12 e3 e1 e2 pm rfl (by rw[List.length_map,List.length_range];omega) (by rw[List.length_map,List.length_range];show 1+_<=100;omega)) fun x h3 qq_=>?_
 obtain⟨ex,os,q1,q2,q3,q4⟩:=qq_
 subst ex
 simp!
 have tl:gH [.loc (h'.length+1)] h3=.ok (.tup (os.map nI)) h3:=by
  show bd (lstOf (.loc (h'.length+1))) (fun l=>pr (W.tup l)) h3=_
  rw[dP (Lw.of (.inr ⟨_,rfl,q1⟩))];rfl
 refine bf tl ?_
 simp!
 exact av ⟨os,rfl,q2,q3,fun i hi hj=>by rw[q4 i hj (by omega) (by omega)];exact e4 i hi⟩
theorem qK {h:List Ob}{j m:Nat}{N:Int}(hN:N=(m:Int))(m1:1<=m)(m2:m<=10)(R:Reel h j):Ok (dL [.loc j,.int N]) h fun w h'=> ∃os,w=.tup (os.map nI)/\Ord m os/\Reel h' j/\ ∀i,i<h.length->i≠j->h'[i]?=h[i]?:=by
 subst hN
 exact sV m1 m2 R
end
set_option maxHeartbeats 1000000
section
noncomputable def goR (t:Nat)(nx:Option Nat):List Rw:=if nx=some t then [] else [.jump t]
def En.tail (e:En)(nx:Option Nat):List Rw:=match e with
 |.go t=>goR t nx
 |.iff s a b x y=>if x=y then goR x nx else if nx=some x then [.cnd true s a b y] else .cnd false s a b x::goR y nx
 |.tab e ts=>[.tab e ts]
 |.stop=>[.stop]
noncomputable def Rw.fin (f:Nat->Nat):Rw->Rw
 |.st s=>.st s
 |.stop=>.stop
 |.jump t=>.jump (f t)
 |.cnd n c a b t=>.cnd n c a b (f t)
 |.tab e ts=>.tab e (ts.map f)
def secR (bs:List Bl)(os:List Nat)(i:Nat):List Rw:=match os[i]? with
 |some o=>(match bs[o]? with
  |some b=>b.sts.map Rw.st++b.en.tail os[i+1]?
  |none=>[])
 |none=>[]
def rowsR (bs:List Bl)(os:List Nat):Nat->List Rw
 |0=>[]
 |n+1=>rowsR bs os n++secR bs os n
def posR (bs:List Bl)(os:List Nat)(t:Nat):Nat:=match os.findIdx? (fun x=>decide (x=t)) with
 |some i=>(rowsR bs os i).length
 |none=>0
def laidR (bs:List Bl)(os:List Nat):List Rw:=(rowsR bs os bs.length).map (Rw.fin (posR bs os))
theorem mN (t:Nat)(nx:Option Nat):(goR t nx).length<=1:=by unfold goR;split<;>simp
theorem nj (e:En)(nx:Option Nat):(e.tail nx).length<=2:=by
 cases e with
 |go t=>have:=mN t nx;show (goR t nx).length<=2;omega
 |iff s a b x y=>
  show (if x=y then goR x nx else if nx=some x then [Rw.cnd true s a b y] else Rw.cnd false s a b x::goR y nx).length<=2
  have h1:=mN x nx
  have h2:=mN y nx
  split
  ·omega
  ·split
   ·simp
   ·rw[List.length_cons];omega
 |tab e ts=>show ([Rw.tab e ts]:List Rw).length<=2;simp
 |stop=>show ([Rw.stop]:List Rw).length<=2;simp
section
variable {ns:List Str}{m:Nat}
theorem mO {t:Nat}{nx:Option Nat}(h:t<m): ∀r∈goR t nx,r.G ns m:=fun r hr=>by
 unfold goR at hr
 split at hr
 ·exact absurd hr List.not_mem_nil
 ·rw[List.mem_singleton.mp hr];exact h
theorem qw {e:En}{nx:Option Nat}(g:e.G ns m): ∀r∈e.tail nx,r.G ns m:=fun r hr=>by
 cases e with
 |go t=>exact mO g r hr
 |iff s a b x y=>
  obtain⟨hs,ga,gb,gx,gy⟩:=g
  have hr:r∈(if x=y then goR x nx else if nx=some x then [Rw.cnd true s a b y] else Rw.cnd false s a b x::goR y nx):=hr
  split at hr
  ·exact mO gx r hr
  ·split at hr
   ·rw[List.mem_singleton.mp hr];exact⟨hs,ga,gb,gy⟩
   ·rcases List.mem_cons.mp hr with rfl|hr
    ·exact⟨hs,ga,gb,gx⟩
    ·exact mO gy r hr
 |tab e ts=>rw[List.mem_singleton.mp (show r∈[Rw.tab e ts] from hr)];exact g
 |stop=>rw[List.mem_singleton.mp (show r∈[Rw.stop] from hr)];trivial
theorem qv (e:En): ∃l r,e.tail none=l++[r]/\r.falls=false:=by
 cases e with
 |go t=>exact⟨[],.jump t,rfl,rfl⟩
 |iff s a b x y=>
  by_cases h:x=y
  ·exact⟨[],.jump x,by show (if x=y then goR x none else _)=_;rw[if_pos h];rfl,rfl⟩
  ·exact⟨[.cnd false s a b x],.jump y,by show (if x=y then goR x none else if none=some x then _ else Rw.cnd false s a b x::goR y none)=_;rw[if_neg h];rfl,rfl⟩
 |tab e ts=>exact⟨[],.tab e ts,rfl,rfl⟩
 |stop=>exact⟨[],.stop,rfl,rfl⟩
end
theorem dF: ∀ {os:List Nat}{i:Nat}{o:Nat},os.Nodup->os[i]?=some o->os.findIdx? (fun x=>decide (x=o))=some i
 |[],_,_,_,h=>by cases h
 |a::os,0,o,_,h=>by
  cases h
  rw[List.findIdx?_cons,if_pos (by simp)]
 |a::os,i+1,o,nd,h=>by
  rw[List.getElem?_cons_succ] at h
  have nd':=List.nodup_cons.mp nd
  have ne: ¬a=o:=fun z=>nd'.1 (by rw[z];exact List.mem_of_getElem? h)
  rw[List.findIdx?_cons,if_neg (by simpa using ne),dF nd'.2 h];rfl
section
variable {m:Nat}{os:List Nat}
theorem Ord.nodup (P:Ord m os):os.Nodup:=P.pm.nodup_iff.mpr List.nodup_range
theorem Ord.mem (P:Ord m os){x:Nat}:x∈os↔x<m:=by rw[P.pm.mem_iff,List.mem_range]
theorem Ord.len (P:Ord m os):os.length=m:=by rw[P.pm.length_eq,List.length_range]
theorem Ord.ix (P:Ord m os){t:Nat}(h:t<m): ∃i:Nat,os[i]?=some t:=List.mem_iff_getElem?.mp (P.mem.mpr h)
theorem Ord.inj (P:Ord m os){i j o:Nat}(h1:os[i]?=some o)(h2:os[j]?=some o):i=j:=by
 have q1:=dF P.nodup h1
 rw[dF P.nodup h2] at q1
 exact (Option.some.inj q1).symm
end
section
variable {ps:List (Str×Int)}{bs:List Bl}{os:List Nat}
theorem mY (O:Ord bs.length os){i o:Nat}(h:os[i]?=some o): ∃b∈bs,bs[o]?=some b:=by
 have ho:=O.mem.mp (List.mem_of_getElem? h)
 exact⟨bs[o],List.getElem_mem ho,List.getElem?_eq_getElem ho⟩
theorem jP {i o:Nat}{b:Bl}(h:os[i]?=some o)(hb:bs[o]?=some b):secR bs os i=b.sts.map Rw.st++b.en.tail os[i+1]?:=by
 unfold secR
 simp only[h,hb]
theorem u9 (P:PgG ps bs)(O:Ord bs.length os)(n:Nat):(secR bs os n).length<=10:=by
 cases ho:os[n]? with
 |none=>unfold secR;simp only[ho];exact Nat.zero_le _
 |some o=>
  obtain⟨b,mb,hb⟩:=mY O ho
  rw[jP ho hb,List.length_append,List.length_map]
  have:=nj b.en os[n+1]?
  have:=(P.g b mb).1
  omega
theorem jV (P:PgG ps bs)(O:Ord bs.length os): ∀n:Nat,(rowsR bs os n).length<=10 * n
 |0=>Nat.zero_le _
 |n+1=>by
  rw[rowsR,List.length_append]
  have a:=jV P O n
  have b:=u9 P O n
  omega
theorem sv (P:PgG ps bs)(O:Ord bs.length os)(n:Nat): ∀r∈secR bs os n,r.G (ps.map (·.1)) bs.length:=fun r hr=>by
 cases ho:os[n]? with
 |none=>unfold secR at hr;simp only[ho] at hr;exact absurd hr List.not_mem_nil
 |some o=>
  obtain⟨b,mb,hb⟩:=mY O ho
  rw[jP ho hb] at hr
  rcases List.mem_append.mp hr with hr|hr
  ·obtain⟨x,hx,rfl⟩:=List.mem_map.mp hr
   exact (P.g b mb).2.1 x hx
  ·exact qw (P.g b mb).2.2 r hr
theorem iO (P:PgG ps bs)(O:Ord bs.length os): ∀n:Nat,∀r∈rowsR bs os n,r.G (ps.map (·.1)) bs.length
 |0,r,hr=>absurd hr List.not_mem_nil
 |n+1,r,hr=>by
  rw[rowsR] at hr
  rcases List.mem_append.mp hr with hr|hr
  ·exact iO P O n r hr
  ·exact sv P O n r hr
theorem iP (O:Ord bs.length os){i t:Nat}(h:os[i]?=some t):posR bs os t=(rowsR bs os i).length:=by
 unfold posR
 rw[dF O.nodup h]
theorem qE {i j:Nat}(h:i<=j):(rowsR bs os i).length<=(rowsR bs os j).length:=by
 induction j with
 |zero=>have:i=0:=by omega
        subst this;exact Nat.le_refl _
 |succ j ih=>
  by_cases e:i=j+1
  ·subst e;exact Nat.le_refl _
  ·rw[rowsR,List.length_append]
   have:=ih (by omega)
   omega
theorem ly (P:PgG ps bs)(O:Ord bs.length os): ∃l r,rowsR bs os bs.length=l++[r]/\r.falls=false/\(rowsR bs os (bs.length - 1)).length<=l.length:=by
 have l1:=P.l1
 have ol:=O.len
 obtain⟨n,hn⟩: ∃n,bs.length=n+1:=⟨bs.length - 1,by omega⟩
 obtain⟨o,ho⟩: ∃o,os[n]?=some o:=⟨_,List.getElem?_eq_getElem (by omega)⟩
 obtain⟨b,mb,hb⟩:=mY O ho
 obtain⟨l,r,e,f⟩:=qv b.en
 have nn:os[n+1]?=none:=List.getElem?_eq_none (by omega)
 refine⟨rowsR bs os n++(b.sts.map Rw.st++l),r,?_,f,?_⟩
 ·rw[hn,rowsR,jP ho hb,nn,e,List.append_assoc,List.append_assoc]
 ·rw[hn,Nat.add_sub_cancel,List.length_append];omega
theorem oO (P:PgG ps bs)(O:Ord bs.length os){t:Nat}(h:t<bs.length):posR bs os t<(rowsR bs os bs.length).length:=by
 obtain⟨i,hi⟩:=O.ix h
 obtain⟨l,r,e,_,q⟩:=ly P O
 have il:=(List.getElem?_eq_some_iff.mp hi).1
 have ol:=O.len
 rw[iP O hi,e,List.length_append]
 have:=qE (bs:=bs) (os:=os) (show i<=bs.length - 1 by omega)
 show _<l.length+1
 omega
theorem rC (f:Nat->Nat)(r:Rw):(r.fin f).falls=r.falls:=by cases r<;>rfl
theorem oj:(laidR bs os).length=(rowsR bs os bs.length).length:=by unfold laidR;rw[List.length_map]
theorem yq (P:PgG ps bs)(O:Ord bs.length os):RowsG (ps.map (·.1)) (laidR bs os):=by
 obtain⟨l,r0,e,f0,_⟩:=ly P O
 refine⟨by rw[oj,e,List.length_append];exact Nat.succ_pos _,fun p r hr=>?_⟩
 have hr':=hr
 unfold laidR at hr
 rw[List.getElem?_map] at hr
 obtain⟨r1,h1,rfl⟩:=Option.map_eq_some_iff.mp hr
 have g:=iO P O bs.length r1 (List.mem_of_getElem? h1)
 rw[oj]
 refine⟨?_,fun fl=>?_⟩
 ·cases r1 with
  |st s=>exact g
  |stop=>trivial
  |jump t=>exact oO P O g
  |cnd n c a b t=>exact⟨g.1,g.2.1,g.2.2.1,oO P O g.2.2.2⟩
  |tab e ts=>exact⟨g.1,by rw[List.length_map];exact g.2.1,by rw[List.length_map];exact g.2.2.1,fun t ht=>by
   obtain⟨u,hu,rfl⟩:=List.mem_map.mp ht
   exact oO P O (g.2.2.2 u hu)⟩
 ·rw[rC] at fl
  have hl:=(List.getElem?_eq_some_iff.mp h1).1
  rw[e,List.length_append] at hl ⊢
  have hl:p<l.length+1:=hl
  show p+1<l.length+1
  by_cases q:p=l.length
  ·rw[e,List.getElem?_append_right (by omega),q,Nat.sub_self] at h1
   cases h1
   rw[f0] at fl;cases fl
  ·omega
end
def nxW (nx:Option Nat):W:=match nx with
 |none=>.non
 |some t=>nI t
noncomputable def nxI (nx:Option Nat):Int:=match nx with
 |none=> -1
 |some t=>t
theorem nxI_eq {t:Nat}{nx:Option Nat}:((t:Int)=nxI nx)↔nx=some t:=by
 cases nx with
 |none=>
  show (t:Int)= -1↔_
  constructor
  ·intro e;omega
  ·intro e;cases e
 |some x=>
  show (t:Int)=(x:Int)↔some x=some t
  constructor
  ·intro e;rw[show x=t by omega]
  ·intro e;rw[Option.some.inj e]
theorem qa (t:Nat)(nx:Option Nat):eqW (nI t) (nxW nx)=pr (.bl (decide (nx=some t))):=by
 cases nx with
 |none=>
  funext h
  rfl
 |some x=>
  show eqW (.int (t:Int)) (.int (x:Int))=_
  rw[eqW_int]
  congr 2
  rw[decide_eq_decide]
  exact⟨fun z=>by rw[show x=t by omega],fun z=>by rw[Option.some.inj z]⟩
theorem zQ:decide (("if":Str)= "go")=false:=by decide+kernel
theorem zF:decide (("table":Str)= "go")=false:=by decide+kernel
theorem zE:decide (("table":Str)= "if")=false:=by decide+kernel
theorem zK:decide (("stop":Str)= "go")=false:=by decide+kernel
theorem zJ:decide (("stop":Str)= "if")=false:=by decide+kernel
theorem zH:decide (("stop":Str)= "table")=false:=by decide+kernel
theorem sl14 (a b c d e f:W):slW (.tup [a,b,c,d,e,f]) (some 1) (some 4)=pr (.tup [b,c,d]):=by
 show gd (¬(HT.sIx 6 0 (some 1)=0/\HT.sIx 6 6 (some 4)=6)) (pr (W.tup (cutW [a,b,c,d,e,f] (some 1) (some 4))))=_
 rw[aG (by decide)];rfl
theorem addT (a:W)(l m:List W)(h:l.length+m.length<=100):addW (.tup (a::l)) (.tup m)=pr (.tup (a::(l++m))):=by
 show gd ((a::l).isEmpty=false/\(a::l).length+m.length<=sizeLine) (pr (W.tup ((a::l)++m)))=_
 rw[aG ⟨rfl,sz (by rw[List.length_cons];omega)⟩];rfl
theorem add13 (a b c d:W):addW (.tup [a]) (.tup [b,c,d])=pr (.tup [a,b,c,d]):=addT a [] [b,c,d] (by show 0+3<=100;decide)
theorem add41 (a b c d e:W):addW (.tup [a,b,c,d]) (.tup [e])=pr (.tup [a,b,c,d,e]):=addT a [b,c,d] [e] (by show 3+1<=100;decide)
theorem add11 (a b:W):addW (.tup [a]) (.tup [b])=pr (.tup [a,b]):=addT a [] [b] (by show 0+1<=100;decide)
noncomputable abbrev JL:List Str:=["jump", "when", "unless"]
theorem rp (z:Str):inW (.str z) (.tup ((["jump", "when", "unless"]:List Str).map W.str))=pr (.bl (decide (z∈JL))):=by
 funext h
 unfold inW
 have e:inB (.str z) (.tup ((["jump", "when", "unless"]:List Str).map W.str)) h=some (decide (z∈JL)):=by
  show (match vOf (.str z),vsOf ((["jump", "when", "unless"]:List Str).map W.str) with
   |some v,some vs=>some (inV v vs)
   |_,_=>none)=_
  rw[gG (g:=W.str) (k:=V.str) (fun a=>rfl)]
  show some (inV (.str z) ((["jump", "when", "unless"]:List Str).map V.str))=_
  rw[iD]
 rw[e];rfl
theorem yB:decide (("jump":Str)∈JL)=true:=by decide+kernel
theorem yz:decide (("when":Str)∈JL)=true:=by decide+kernel
theorem ui:decide (("unless":Str)∈JL)=true:=by decide+kernel
theorem yA:decide (("stop":Str)∈JL)=false:=by decide+kernel
theorem wq:decide (("table":Str)∈JL)=false:=by decide+kernel
theorem xp {ns:List Str}{st:Sm}(g:st.G ns): ∃z l,st.w=.tup (.str z::l)/\decide (z∈JL)=false/\decide (z= "table")=false:=by
 cases st with
 |put y e=>exact⟨_,_,rfl,by decide+kernel,by decide+kernel⟩
 |say e=>exact⟨_,_,rfl,by decide+kernel,by decide+kernel⟩
 |ask y=>exact⟨_,_,rfl,by decide+kernel,by decide+kernel⟩
theorem sn (l:List W):srcT (.tup l)=pr ⟨l,fun _=>True⟩:=rfl
end
set_option maxHeartbeats 1000000
section
theorem mr {m:Nat}{os:List Nat}{h:List Ob}{i o:Nat}(O:Ord m os)(ho:os[i]?=some o)(hl:m<=10):Ok (dc [.tup (os.map nI),nI o]) h fun w h'=>w=.int (nxI os[i+1]?)/\h'=h:=by
 have e0:dc [.tup (os.map nI),nI o]=bd (gu [some (.tup (os.map nI)),some (nI o),none]) finF:=rfl
 have hi:=(List.getElem?_eq_some_iff.mp ho).1
 have ol:=O.len
 obtain⟨N,hN⟩: ∃N:Int,N=((os.map nI).length:Int):=⟨_,rfl⟩
 have hN':N=(os.length:Int):=by rw[hN,List.length_map]
 rw[e0]
 unfold gu
 simp! only[sFor,aa,<-hN,du (show (-(2 ^ 62):Int)<=N - 1 by omega) (show N - 1<2 ^ 62 by omega)]
 refine vP (I:=fun k ρ h'=>(∃a,ρ=[some (.tup (os.map nI)),some (nI o),a])/\h'=h/\k<=i) (J:=fun v h'=>v=.int (nxI os[i+1]?)/\h'=h) ⟨⟨_,rfl⟩,rfl,Nat.zero_le _⟩ (fun _ _ _ _=>trivial) (fun k w ρ h1 hw I=>?_) (fun ρ h1 I=>?_) (fun v h1 J=>?_)
 ·obtain⟨⟨a,rfl⟩,rfl,ki⟩:=I
  obtain⟨rfl,hk⟩:=dw _ _ _ _ hw
  obtain⟨x,hx⟩: ∃x,os[k]?=some x:=⟨_,List.getElem?_eq_getElem (by omega)⟩
  have ixk:ixW (.tup (os.map nI)) (.int (0+(k:Int)))=pr (nI x):=dh (eO (by omega) (by rw[show ((0:Int)+(k:Int)).toNat=k by omega,List.getElem?_map,hx];rfl))
  refine⟨_,rfl,?_⟩
  by_cases hxo:x=o
  ·subst hxo
   have q1:=O.inj hx ho
   subst q1
   obtain⟨y,hy⟩: ∃y,os[k+1]?=some y:=⟨_,List.getElem?_eq_getElem (by omega)⟩
   have ixn:ixW (.tup (os.map nI)) (.int (0+(k:Int)+1))=pr (nI y):=dh (eO (by omega) (by rw[show ((0:Int)+(k:Int)+1).toNat=k+1 by omega,List.getElem?_map,hy];rfl))
   simp! only[aa,ixk,nI,eq_self,decide_true,ixn]
   exact av (.inr ⟨_,rfl,by rw[hy];rfl,rfl⟩)
  ·have hxo': ¬(x:Int)=(o:Int):=by omega
   simp! only[aa,ixk,nI,decide_eq_false hxo']
   refine av (.inl ⟨_,rfl,⟨_,rfl⟩,rfl,?_⟩)
   have:k≠i:=fun z=>by rw[z,ho] at hx;exact hxo (Option.some.inj hx).symm
   omega
 ·obtain⟨⟨a,rfl⟩,rfl,ki⟩:=I
  rw[bK] at ki
  have hn:os[i+1]?=none:=List.getElem?_eq_none (by omega)
  simp!
  exact av ⟨by rw[hn];rfl,rfl⟩
 ·obtain⟨rfl,rfl⟩:=J
  simp!
  exact av ⟨rfl,rfl⟩
end
set_option maxHeartbeats 1000000
section
theorem uu (t:Nat)(nx:Option Nat):dO [nI t,nxW nx]=pr (.tl ((goR t nx).map Rw.w)):=by
 have e0:dO [nI t,nxW nx]=bd (g6 [some (nI t),some (nxW nx)]) finF:=rfl
 rw[e0]
 unfold g6 goR
 by_cases h:nx=some t
 ·rw[if_pos h]
  simp! only[aa,tupW,qa,decide_eq_true h]
  rfl
 ·rw[if_neg h]
  simp! only[aa,tupW,qa,decide_eq_false h]
  rfl
theorem zo (s:Str)(a b:Xe)(x y:Nat)(nx:Option Nat):fR [.tup [.str "if",.str s,a.w,b.w,nI x,nI y],nxW nx]=pr (.tl (((En.iff s a b x y).tail nx).map Rw.w)):=by
 have e0:fR [.tup [.str "if",.str s,a.w,b.w,nI x,nI y],nxW nx]=bd (gZ [some (.tup [.str "if",.str s,a.w,b.w,nI x,nI y]),some (nxW nx),none,none,none]) finF:=rfl
 rw[e0]
 unfold gZ
 have et:(En.iff s a b x y).tail nx=if x=y then goR x nx else if nx=some x then [.cnd true s a b y] else .cnd false s a b x::goR y nx:=rfl
 rw[et]
 by_cases h:x=y
 ·have h':(x:Int)=(y:Int):=by rw[h]
  rw[if_pos h]
  have hx:eqW (nI x) (nI y)=pr (.bl true):=by show eqW (.int (x:Int)) (.int (y:Int))=_;rw[eqW_int,decide_eq_true h']
  simp! only[aa,sl14,ix4,ix5,hx,uu]
 ·have h': ¬(x:Int)=(y:Int):=by omega
  have hx:eqW (nI x) (nI y)=pr (.bl false):=by show eqW (.int (x:Int)) (.int (y:Int))=_;rw[eqW_int,decide_eq_false h']
  rw[if_neg h]
  by_cases h2:nx=some x
  ·rw[if_pos h2]
   simp! only[aa,sl14,ix4,ix5,hx,qa,decide_eq_true h2,tupW,add13,add41]
   rfl
  ·rw[if_neg h2]
   have gl:=mN y nx
   have g2: ∀ {α:Type} (q:M α),gd (0+1+((goR y nx).map Rw.w).length<=sizeLine) q=q:=fun q=>aG (sz (by rw[List.length_map];omega))
   simp! only[aa,sl14,ix4,ix5,hx,qa,decide_eq_false h2,tupW,add13,add41,uu,catL,pV,g2]
   rfl
theorem yN (e:En)(nx:Option Nat):fq [e.w,nxW nx]=pr (.tl ((e.tail nx).map Rw.w)):=by
 have e0:fq [e.w,nxW nx]=bd (gw [some e.w,some (nxW nx)]) finF:=rfl
 rw[e0]
 unfold gw
 cases e with
 |go t=>
  show bd _ finF=_
  unfold En.w
  simp! only[aa,ix0,ix1,eq_self,decide_true,uu]
  rfl
 |iff s a b x y=>
  unfold En.w
  simp! only[aa,ix0,zQ,eq_self,decide_true,zo]
 |tab e ts=>
  unfold En.w
  simp! only[aa,ix0,zF,zE]
  rfl
 |stop=>
  unfold En.w
  simp! only[aa,ix0,zK,zJ]
  rfl
theorem cut2m (a b:W):slW (.tup [a,b]) none (some (-1))=pr (.tup [a]):=by
 show gd (¬(HT.sIx 2 0 none=0/\HT.sIx 2 2 (some (-1))=2)) (pr (W.tup (cutW [a,b] none (some (-1)))))=_
 rw[aG (by decide)];rfl
theorem cut5m (a b c d e:W):slW (.tup [a,b,c,d,e]) none (some (-1))=pr (.tup [a,b,c,d]):=by
 show gd (¬(HT.sIx 5 0 none=0/\HT.sIx 5 5 (some (-1))=5)) (pr (W.tup (cutW [a,b,c,d,e] none (some (-1)))))=_
 rw[aG (by decide)];rfl
theorem last2 (a b:W):ixW (.tup [a,b]) (.int (-1))=pr b:=dh (iJ [a] b)
theorem last5 (a b c d e:W):ixW (.tup [a,b,c,d,e]) (.int (-1))=pr e:=dh (iJ [a,b,c,d] e)
section
variable {β:Type}{h:List Ob}{Q:β->List Ob->Prop}{j:Nat}
theorem xY {ks:List Key}{ws:List W}{o:Nat}{v:W}{k:Unit->M β}(e:h[j]?=some (.dic ks ws))(nw:ks.any (fun k=>decide (k=(.inl (o:Int):Key)))=false)(hz:ks.length<sizeLine)(q:Ok (k ()) (h.set j (.dic (ks++[.inl (o:Int)]) (ws++[v]))) Q):Ok (bd (dX (.loc j) (nI o) v) k) h Q:=by
 refine bf (a:=()) (h':=h.set j (.dic (ks++[.inl (o:Int)]) (ws++[v]))) ?_ q
 unfold dX
 have pw:putW ks ws (.inl (o:Int)) v=(ks++[.inl (o:Int)],ws++[v]):=by unfold putW;rw[nw];rfl
 have ko:keyOf (nI o)=some (.inl (o:Int)):=rfl
 simp only[e,ko,pw,if_pos hz]
theorem oT {ks:List Key}{ws:List W}{o:Nat}{v:W}{k:W->M β}(e:h[j]?=some (.dic ks ws))(e2:atK ks ws (.inl (o:Int))=some v)(q:Ok (k v) h Q):Ok (bd (ixW (.loc j) (nI o)) k) h Q:=by
 refine bf (a:=v) (h':=h) ?_ q
 have d:dicOf (.loc j) h=some (ks,ws):=by unfold dicOf;simp only[e]
 have:ixO (.loc j) (nI o) h=some v:=by
  unfold ixO
  simp only[d,keyOf,nI,e2]
 unfold ixW
 rw[this]
theorem tw {x:W}{l mm:List W}{k:W->M β}(e:h[j]?=some (.lst l))(L:Lw h x mm)(hz:l.length+mm.length<=sizeLine)(q:Ok (k .non) (h.set j (.lst (l++mm))) Q):Ok (bd (iH (.loc j) [x]) k) h Q:=by
 refine bf (a:=.non) (h':=h.set j (.lst (l++mm))) ?_ q
 unfold iH
 dsimp only
 have lo:lstO x h=.ok mm h:=by
  rcases L with rfl|⟨i,rfl,ei⟩
  ·rfl
  ·unfold lstO;simp only[ei]
 rw[dP lo]
 simp only[e,if_pos hz]
end
theorem rN: ∀ (os:List Nat) (a:Nat),zipW ((a::os).map nI) (os.map nI++[.non])=(List.range (os.length+1)).map fun i=>W.tup [nI ((a::os).getD i 0),nxW (a::os)[i+1]?]
 |[],a=>rfl
 |b::os,a=>by
  have ih:=rN os b
  unfold zipW at ih ⊢
  rw[List.map_cons,List.map_cons,List.cons_append,List.zipWith_cons_cons,<-List.map_cons,ih,List.length_cons,List.range_succ_eq_map (n:=os.length+1),List.map_cons,List.map_map]
  rfl
theorem slos {os:List Nat}(h:1<=os.length):slW (.tup (os.map nI)) (some 1) none=pr (.tup (os.tail.map nI)):=by
 show gd (¬(HT.sIx (os.map nI).length 0 (some 1)=0/\HT.sIx (os.map nI).length (os.map nI).length none=(os.map nI).length)) (pr (W.tup (cutW (os.map nI) (some 1) none)))=_
 have s1:HT.sIx (os.map nI).length 0 (some 1)=1:=by
  show (if (1:Int)<0 then ((1:Int)+((os.map nI).length:Int)).toNat else min (1:Int).toNat (os.map nI).length)=1
  rw[if_neg (by decide),List.length_map]
  show min 1 os.length=1
  omega
 rw[aG (by rw[s1];omega)]
 congr 2
 unfold cutW
 rw[s1,show HT.sIx (os.map nI).length (os.map nI).length none=(os.map nI).length from rfl]
 cases os with
 |nil=>rfl
 |cons a os=>
  rw[List.map_cons,List.drop_one,List.tail_cons,List.tail_cons,List.length_cons,Nat.add_sub_cancel,List.take_length]
theorem yR (l:List W)(h:l.length<=100):catTW (.tup l) (.tup [.non])=pr (.tup (l++[.non])):=by
 cases l with
 |nil=>rfl
 |cons a l=>
  show gd ((a::l).length+([W.non]:List W).length<=sizeLine) (pr (W.tup ((a::l)++[.non])))=_
  exact aG (sz (by show (a::l).length+1<=_;omega))
theorem u4 (a b:List W):srcZ true true [.tup a,.tup b]=pr ⟨zipW a b,fun _=>True/\True⟩:=rfl
def ksW (os:List Nat)(n:Nat):List Key:=(os.take n).map fun (x:Nat)=>(.inl (x:Int):Key)
def wsR (bs:List Bl)(os:List Nat)(n:Nat):List W:=(List.range n).map fun (i:Nat)=>nI (rowsR bs os i).length
theorem uP: ∀ {os:List Nat}{ws:List W}{i:Nat}{t:Nat},os.Nodup->os.length=ws.length->os[i]?=some t->atK (os.map fun (x:Nat)=>(.inl (x:Int):Key)) ws (.inl (t:Int))=ws[i]?
 |[],_,_,_,_,_,h=>by cases h
 |o::os,[],_,_,_,h,_=>by cases h
 |o::os,w::ws,0,t,_,_,h=>by cases h;rw[List.map_cons,atK,if_pos rfl];rfl
 |o::os,w::ws,i+1,t,nd,hl,h=>by
  rw[List.getElem?_cons_succ] at h
  have nd':=List.nodup_cons.mp nd
  have ne: ¬o=t:=fun z=>nd'.1 (by rw[z];exact List.mem_of_getElem? h)
  rw[List.map_cons,atK,if_neg (fun z=>ne (by have:=Sum.inl.inj z;omega)),List.getElem?_cons_succ]
  exact uP nd'.2 (Nat.succ.inj hl) h
section
variable {ps:List (Str×Int)}{bs:List Bl}{os:List Nat}
theorem wZ (n:Nat):(wsR bs os n).length=n:=by unfold wsR;simp
theorem uU (n:Nat):wsR bs os (n+1)=wsR bs os n++[nI (rowsR bs os n).length]:=by
 unfold wsR
 rw[List.range_succ,List.map_append];rfl
theorem wk {n:Nat}{o:Nat}(h:os[n]?=some o):ksW os (n+1)=ksW os n++[.inl (o:Int)]:=by
 unfold ksW
 rw[List.take_add_one,h,List.map_append];rfl
theorem yr (O:Ord bs.length os){n:Nat}{o:Nat}(h:os[n]?=some o):(ksW os n).any (fun k=>decide (k=(.inl (o:Int):Key)))=false:=by
 rw[List.any_eq_false]
 intro k hk
 unfold ksW at hk
 obtain⟨x,hx,rfl⟩:=List.mem_map.mp hk
 intro z
 have z:=Sum.inl.inj (of_decide_eq_true z)
 have z:x=o:=by omega
 subst z
 obtain⟨i,hi,e⟩:=List.mem_take_iff_getElem.mp hx
 have hn:=(List.getElem?_eq_some_iff.mp h)
 obtain⟨hn1,hn2⟩:=hn
 have il:i<os.length:=by omega
 have q1:=dF O.nodup (List.getElem?_eq_some_iff.mpr ⟨il,e⟩)
 have q2:=dF O.nodup h
 rw[q1] at q2
 have:=Option.some.inj q2
 omega
theorem mZ (O:Ord bs.length os){t:Nat}(ht:t<bs.length):atK (ksW os bs.length) (wsR bs os bs.length) (.inl (t:Int))=some (nI (posR bs os t)):=by
 have e:ksW os bs.length=os.map fun (x:Nat)=>(.inl (x:Int):Key):=by unfold ksW;rw[<-O.len,List.take_length]
 obtain⟨i,hi⟩:=O.ix ht
 have il:=(List.getElem?_eq_some_iff.mp hi).1
 rw[e,uP O.nodup (by rw[wZ,O.len]) hi,iP O hi]
 unfold wsR
 rw[List.getElem?_map,List.getElem?_range (by rw[<-O.len];exact il)];rfl
theorem yE {h:List Ob}{j:Nat}{ks:List Key}{ws:List W}{o:Nat}{v:W}(e:h[j]?=some (.dic ks ws))(e2:atK ks ws (.inl (o:Int))=some v):Ok (ixW (.loc j) (nI o)) h fun w h'=>w=v/\h'=h:=by
 have d:dicOf (.loc j) h=some (ks,ws):=by unfold dicOf;simp only[e]
 have:ixO (.loc j) (nI o) h=some v:=by
  unfold ixO
  simp only[d,keyOf,nI,e2]
 refine⟨v,h,?_,rfl,rfl⟩
 unfold ixW
 rw[this]
theorem yp {h:List Ob}{kg:Nat}{r:Rw}(P:PgG ps bs)(O:Ord bs.length os)(ed:h[kg]?=some (.dic (ksW os bs.length) (wsR bs os bs.length)))(g:r.G (ps.map (·.1)) bs.length):Ok (dy [r.w,.loc kg]) h fun w h'=>w=(r.fin (posR bs os)).w/\h'=h:=by
 have e0:dy [r.w,.loc kg]=bd (eI [some r.w,some (.loc kg)]) finF:=rfl
 rw[e0]
 unfold eI
 cases r with
 |st st=>
  obtain⟨z,l',ew,jz,tz⟩:=xp (show st.G (ps.map (·.1)) from g)
  rw[show (Rw.st st).w=.tup (.str z::l') from ew,show ((Rw.st st).fin (posR bs os)).w=.tup (.str z::l') from ew]
  simp! only[aa,ix0,rp,jz,tz]
  exact av ⟨rfl,rfl⟩
 |jump t=>
  unfold Rw.w Rw.fin
  simp! only[aa,ix0,rp,yB,cut2m,last2]
  refine oT ed (mZ O g) ?_
  simp! only[aa,tupW,add11]
  exact av ⟨rfl,rfl⟩
 |cnd neg s a b t=>
  obtain⟨_,_,_,ht⟩:=g
  cases neg with
  |false=>
   unfold Rw.w Rw.fin
   simp! only[aa,ix0,rp,yz,cut5m,last5]
   refine oT ed (mZ O ht) ?_
   simp! only[aa,tupW,add41]
   exact av ⟨rfl,rfl⟩
  |true=>
   unfold Rw.w Rw.fin
   simp! only[aa,ix0,rp,ui,cut5m,last5]
   refine oT ed (mZ O ht) ?_
   simp! only[aa,tupW,add41]
   exact av ⟨rfl,rfl⟩
 |tab e ts=>
  obtain⟨_,_,tl,gt⟩:=g
  have gl: ∀ {α:Type} (q:M α),gd ((ts.map nI).length<=sizeLine) q=q:=fun q=>aG (by rw[List.length_map];exact sz (by omega))
  unfold Rw.w Rw.fin
  simp! only[aa,ix0,ix1,ix2,rp,wq,eq_self,decide_true,aI,sn,gl]
  refine fu (I:=fun n l h'=>h'=h/\l=((ts.take n).map (posR bs os)).map nI) ⟨rfl,rfl⟩ gF (fun _ _ _ _=>trivial) (fun n w l h4 hw J=>?_) fun l' h4 J=>?_
  ·obtain⟨rfl,rfl⟩:=J
   rw[List.getElem?_map] at hw
   obtain⟨t,ht,rfl⟩:=Option.map_eq_some_iff.mp hw
   refine⟨_,rfl,?_⟩
   simp! only[List.replicate,List.cons_append,List.nil_append,aa]
   refine Ok.imp (yE ed (mZ O (gt t (List.mem_of_getElem? ht)))) fun w h5 qz=>?_
   obtain⟨e1,e2⟩:=qz
   refine⟨e2,?_⟩
   rw[e1,List.take_add_one,ht,List.map_append,List.map_append];rfl
  ·obtain⟨rfl,rfl⟩:=J
   rw[List.length_map,List.take_length]
   simp! only[aa,lh,tupW]
   exact av ⟨rfl,rfl⟩
 |stop=>
  unfold Rw.w Rw.fin
  simp! only[aa,ix0,rp,yA,zH]
  exact av ⟨rfl,rfl⟩
theorem wj {h:List Ob}{x:W}(P:PgG ps bs)(O:Ord bs.length os)(PA:PgAt h x ps bs):Ok (kK [x,.tup (os.map nI)]) h fun w h'=>(∀i,i<h.length->h'[i]?=h[i]?)/\ ∃kf,h.length<=kf/\w=.loc kf/\h'[kf]?=some (.lst ((laidR bs os).map Rw.w)):=by
 have e0:kK [x,.tup (os.map nI)]=bd (mQ [some x,some (.tup (os.map nI)),none,none,none,none,none]) finF:=rfl
 have pl:=O.len
 have m1:=P.l1
 have m2:=P.l2
 obtain⟨bx,bl,ls,ex,LB,LL,ll,pq⟩:=PA
 have x1:ixW x (.int 1)=pr bl:=by rw[ex];exact ix1 _ _ _
 rw[e0]
 unfold mQ
 simp!
 refine eB ?_
 simp!
 refine vQ ?_
 have el:(h++[Ob.lst []]).length=h.length+1:=by simp
 simp! only[sFor,aa,tupW,slos (os:=os) (by omega),yR (os.tail.map nI) (by rw[List.length_map,List.length_tail];omega),u4]
 have zz:zipW (os.map nI) (os.tail.map nI++[.non])=(List.range bs.length).map fun i=>W.tup [nI (os.getD i 0),nxW os[i+1]?]:=by
  cases os with
  |nil=>have:0=bs.length:=pl;omega
  |cons a r=>rw[List.tail_cons,rN,<-pl];rfl
 rw[zz]
 refine eC (I:=fun n ρ h'=>(∃a4 a5 a6,ρ=[some x,some (.tup (os.map nI)),some (.loc h.length),some (.loc (h++[Ob.lst []]).length),a4,a5,a6])/\(∀i,i<h.length->h'[i]?=h[i]?)/\h'.length=h.length+2/\h'[h.length]?=some (.lst ((rowsR bs os n).map Rw.w))/\h'[h.length+1]?=some (.dic (ksW os n) (wsR bs os n))) ⟨⟨_,_,_,rfl⟩,fun i hi=>by rw[List.getElem?_append_left (by rw[el];omega),List.getElem?_append_left hi],by simp,cL bE,by rw[<-el];exact bE⟩ (fun _ _ _ _=>⟨trivial,trivial⟩) (fun n w ρ h1 hw I=>?_) fun ρ h1 I=>?_
 ·obtain⟨⟨a4,a5,a6,rfl⟩,fr,hl,er,ed⟩:=I
  rw[List.getElem?_map] at hw
  obtain⟨n',hn',rfl⟩:=Option.map_eq_some_iff.mp hw
  have hn:n<bs.length:=by
   have:=(List.getElem?_eq_some_iff.mp hn').1
   rwa[List.length_range] at this
  have nn:n'=n:=by
   rw[List.getElem?_range hn] at hn'
   exact (Option.some.inj hn').symm
  subst nn
  obtain⟨o,ho⟩: ∃o,os[n']?=some o:=⟨_,List.getElem?_eq_getElem (by omega)⟩
  have go:os.getD n' 0=o:=by rw[List.getD_eq_getElem?_getD,ho];rfl
  rw[go]
  obtain⟨b,mb,hb⟩:=mY O ho
  obtain⟨y,ey,LY⟩:=pq o b hb
  have rl:=jV P O n'
  have tl:=nj b.en os[n'+1]?
  have s8:=(P.g b mb).1
  have kl:(ksW os n').length<=10:=by unfold ksW;rw[List.length_map,List.length_take];omega
  refine⟨_,rfl,?_⟩
  simp! only[aa,x1]
  refine (LL.keep fr).ix (cX ey) ?_
  simp!
  refine Lw.len_eq (N:=((rowsR bs os n').length:Int)) (.inr ⟨h.length,rfl,er⟩) (by rw[List.length_map]) ?_
  simp!
  rw[el]
  refine xY ed (yr O ho) (Nat.lt_of_le_of_lt kl (by decide)) ?_
  obtain⟨h2,hh2⟩: ∃h2,h2=h1.set (h.length+1) (.dic (ksW os n'++[.inl (o:Int)]) (wsR bs os n'++[.int ((rowsR bs os n').length:Int)])):=⟨_,rfl⟩
  have er2:h2[h.length]?=some (.lst ((rowsR bs os n').map Rw.w)):=by rw[hh2,List.getElem?_set_ne (by omega)];exact er
  have ed2:h2[h.length+1]?=some (.dic (ksW os (n'+1)) (wsR bs os (n'+1))):=by rw[hh2,bA ed,wk ho,uU];rfl
  have fr2: ∀i,i<h.length->h2[i]?=h[i]?:=fun i hi=>by rw[hh2,List.getElem?_set_ne (by omega)];exact fr i hi
  have hl2:h2.length=h.length+2:=by rw[hh2,List.length_set];exact hl
  rw[<-hh2]
  clear hh2
  simp!
  refine dQ er2 ?_
  simp! only[aa,ix1]
  refine tw er2 (LY.keep fr2) (sz (by rw[List.length_map,List.length_map];omega)) ?_
  obtain⟨h3,hh3⟩: ∃h3,h3=h2.set h.length (.lst ((rowsR bs os n').map Rw.w++b.sts.map Sm.w)):=⟨_,rfl⟩
  have er3:h3[h.length]?=some (.lst ((rowsR bs os n').map Rw.w++b.sts.map Sm.w)):=by rw[hh3];exact bA er2
  have ed3:h3[h.length+1]?=some (.dic (ksW os (n'+1)) (wsR bs os (n'+1))):=by rw[hh3,List.getElem?_set_ne (by omega)];exact ed2
  have fr3: ∀i,i<h.length->h3[i]?=h[i]?:=fun i hi=>by rw[hh3,List.getElem?_set_ne (by omega)];exact fr2 i hi
  have hl3:h3.length=h.length+2:=by rw[hh3,List.length_set];exact hl2
  rw[<-hh3]
  clear hh3
  simp!
  refine dQ er3 ?_
  simp! only[aa,ix2,yN]
  refine tw er3 (.inl rfl) (sz (by rw[List.length_append,List.length_map,List.length_map,List.length_map];omega)) ?_
  simp!
  refine av ⟨_,rfl,⟨_,_,_,rfl⟩,fun i hi=>by rw[List.getElem?_set_ne (by omega)];exact fr3 i hi,by rw[List.length_set];exact hl3,?_,by rw[List.getElem?_set_ne (by omega)];exact ed3⟩
  have es:b.sts.map Sm.w++(b.en.tail os[n'+1]?).map Rw.w=(secR bs os n').map Rw.w:=by
   rw[jP ho hb,List.map_append,List.map_map];rfl
  rw[bA er3,rowsR,List.map_append,<-es,<-List.append_assoc]
 ·obtain⟨⟨a4,a5,a6,rfl⟩,fr,hl,er,ed⟩:=I
  rw[List.length_map,List.length_range] at er ed
  have rl:=jV P O bs.length
  simp! only[aa,aI]
  refine oR er ?_
  have gl: ∀ {α:Type} (q:M α),gd (((rowsR bs os bs.length).map Rw.w).length<=sizeLine) q=q:=fun q=>aG (sz (by rw[List.length_map];omega))
  simp! only[aa,gl]
  refine fu (I:=fun n a h'=>h'=h1/\a=((rowsR bs os bs.length).take n).map fun r=>(r.fin (posR bs os)).w) ⟨rfl,rfl⟩ gF (fun _ _ h' I=>by rw[I.1];exact er) (fun n w a h' hw I=>?_) fun a h' I=>?_
  ·obtain⟨rfl,rfl⟩:=I
   rw[List.getElem?_map] at hw
   obtain⟨r,hr,rfl⟩:=Option.map_eq_some_iff.mp hw
   refine⟨_,rfl,?_⟩
   rw[el]
   simp! only[List.replicate,List.cons_append,List.nil_append,aa]
   refine Ok.imp (yp P O ed (iO P O bs.length r (List.mem_of_getElem? hr))) fun x h2 qz=>?_
   obtain⟨e1,e2⟩:=qz
   refine⟨e2,?_⟩
   rw[e1,List.take_add_one,hr,List.map_append];rfl
  ·obtain⟨rfl,rfl⟩:=I
   rw[List.length_map,List.take_length]
   simp!
   refine eB ?_
   simp!
   refine av ⟨fun i hi=>by rw[List.getElem?_append_left (by omega)];exact fr i hi,h'.length,by omega,rfl,?_⟩
   rw[bE];unfold laidR;rw[List.map_map];rfl
end
end
set_option maxHeartbeats 1000000
section
noncomputable def nxt (os:List Nat)(p:Nat):Option Nat:=match os.findIdx? (fun x=>decide (x=p)) with
 |some i=>os[i+1]?
 |none=>none
noncomputable def jmp (nx:Option Nat)(t:Nat):Nat:=if nx=some t then 0 else 1
def bz (e:En)(nx:Option Nat)(sd t:Nat):Nat×Nat:=match e with
 |.tab ..=>(1,1)
 |.go _=>(jmp nx t,jmp nx t)
 |.iff _ _ _ x y=>if x=y then (jmp nx t,jmp nx t) else (1+(if sd=1/\nx≠some x/\nx≠some y then 1 else 0),jmp nx t)
 |.stop=>(0,0)
noncomputable def ba (bs:List Bl)(p:Nat):Nat:=match bs[p]? with
 |some b=>b.sts.length
 |none=>0
def aL (bs:List Bl)(os:List Nat)(w:Nat×Nat×Nat):Nat×Nat:=match bs[w.1]? with
 |some b=>bz b.en (nxt os w.1) w.2.1 w.2.2
 |none=>(0,0)
def doneB (bs:List Bl)(os:List Nat):List (Nat×Nat×Nat)->Nat×Nat
 |[]=>(0,0)
 |w::r=>(ba bs w.1+(aL bs os w).1+(doneB bs os r).1,(aL bs os w).2+(doneB bs os r).2)
def lastB:Nat->List (Nat×Nat×Nat)->Nat
 |p,[]=>p
 |_,w::r=>lastB w.2.2 r
section
variable {bs:List Bl}{os:List Nat}
theorem sC {i n:Nat}(h:i<=n): ∃r,rowsR bs os n=rowsR bs os i++r:=by
 induction n with
 |zero=>
  have:i=0:=by omega
  subst this;exact⟨[],by rw[List.append_nil]⟩
 |succ n ih=>
  by_cases e:i=n+1
  ·subst e;exact⟨[],by rw[List.append_nil]⟩
  ·obtain⟨r,hr⟩:=ih (by omega)
   exact⟨r++secR bs os n,by rw[rowsR,hr,List.append_assoc]⟩
theorem pX (O:Ord bs.length os){i p j:Nat}{r:Rw}(hi:os[i]?=some p)(hr:(secR bs os i)[j]?=some r):(laidR bs os)[posR bs os p+j]?=some (r.fin (posR bs os)):=by
 have il:=(List.getElem?_eq_some_iff.mp hi).1
 have ol:=O.len
 obtain⟨l,e⟩:=sC (bs:=bs) (os:=os) (show i+1<=bs.length by omega)
 unfold laidR
 rw[List.getElem?_map,e,rowsR,List.append_assoc,iP O hi,List.getElem?_append_right (by omega),Nat.add_sub_cancel_left,List.getElem?_append_left (List.getElem?_eq_some_iff.mp hr).1,hr];rfl
theorem sO (O:Ord bs.length os){i p t:Nat}(hi:os[i]?=some p)(hn:os[i+1]?=some t):posR bs os t=posR bs os p+(secR bs os i).length:=by
 rw[iP O hi,iP O hn,rowsR,List.length_append]
theorem oX (O:Ord bs.length os){i p:Nat}(hi:os[i]?=some p):nxt os p=os[i+1]?:=by
 unfold nxt
 rw[dF O.nodup hi]
end
section
variable {nums:List Int}{rows:List Rw}
theorem lX {n p:Nat}{s:Sta}{st:Sm}(h:rows[p]?=some (.st st)):runR nums rows (n+1) p s=if lacks nums s st=true then⟨s.said, "out",0⟩ else runR nums rows n (p+1) (doS nums s st):=by
 conv=>lhs;unfold runR
 rw[h]
theorem qD {n p t:Nat}{s:Sta}(h:rows[p]?=some (.jump t)):runR nums rows (n+1) p s=⟨(runR nums rows n t s).said,(runR nums rows n t s).en,(runR nums rows n t s).jumps+1⟩:=by
 conv=>lhs;unfold runR
 rw[h];rfl
theorem sB {n p:Nat}{e:Xe}{ts:List Nat}{s:Sta}(h:rows[p]?=some (.tab e ts)):runR nums rows (n+1) p s=⟨(runR nums rows n (ts.getD (e.val s.σ % ts.length).toNat 0) s).said,(runR nums rows n (ts.getD (e.val s.σ % ts.length).toNat 0) s).en,(runR nums rows n (ts.getD (e.val s.σ % ts.length).toNat 0) s).jumps+1⟩:=by
 conv=>lhs;unfold runR
 rw[h];rfl
theorem nD {n p t:Nat}{neg:Bool}{c:Str}{a b:Xe}{s:Sta}(h:rows[p]?=some (.cnd neg c a b t))(hc: ¬cond s.σ c a b=neg):runR nums rows (n+1) p s=⟨(runR nums rows n t s).said,(runR nums rows n t s).en,(runR nums rows n t s).jumps+1⟩:=by
 conv=>lhs;unfold runR
 rw[h]
 dsimp only
 rw[show (Rw.cnd neg c a b t).to s.σ=some t from if_neg hc]
theorem pI {n p t:Nat}{neg:Bool}{c:Str}{a b:Xe}{s:Sta}(h:rows[p]?=some (.cnd neg c a b t))(hc:cond s.σ c a b=neg):runR nums rows (n+1) p s=runR nums rows n (p+1) s:=by
 conv=>lhs;unfold runR
 rw[h]
 dsimp only
 rw[show (Rw.cnd neg c a b t).to s.σ=none from if_pos hc]
theorem pH: ∀ (l:List Sm) (q:Nat) (s:Sta),(∀j st,l[j]?=some st->rows[q+j]?=some (.st st))->((doL nums s l).2=true-> ∀n,runR nums rows (l.length+n) q s=runR nums rows n (q+l.length) (doL nums s l).1)/\((doL nums s l).2=false-> ∀n,l.length<=n->runR nums rows n q s=⟨(doL nums s l).1.said, "out",0⟩)
 |[],q,s,_=>⟨fun _ n=>by show runR nums rows (0+n) q s=_;rw[Nat.zero_add];rfl,fun h=>by cases h⟩
 |st::l,q,s,hr=>by
  have h0:rows[q]?=some (.st st):=hr 0 st rfl
  have hr': ∀j st',l[j]?=some st'->rows[q+1+j]?=some (.st st'):=fun j st' hj=>by
   have:=hr (j+1) st' (by simpa using hj)
   rwa[show q+(j+1)=q+1+j by omega] at this
  by_cases hl:lacks nums s st=true
  ·have e:doL nums s (st::l)=(s,false):=by unfold doL;rw[if_pos hl]
   rw[e]
   refine⟨fun z=>by (cases z),fun _ n hn=>?_⟩
   obtain⟨m,rfl⟩: ∃m,n=m+1:=⟨n - 1,by rw[List.length_cons] at hn;omega⟩
   rw[lX h0,if_pos hl]
  ·have e:doL nums s (st::l)=doL nums (doS nums s st) l:=by
    conv=>lhs;unfold doL
    rw[if_neg hl]
   rw[e]
   obtain⟨a,b⟩:=pH l (q+1) (doS nums s st) hr'
   refine⟨fun z n=>?_,fun z n hn=>?_⟩
   ·rw[List.length_cons,show l.length+1+n=(l.length+n)+1 by omega,lX h0,if_neg hl,a z n,show q+1+l.length=q+(l.length+1) by omega]
   ·obtain⟨m,rfl⟩: ∃m,n=m+1:=⟨n - 1,by rw[List.length_cons] at hn;omega⟩
    rw[lX h0,if_neg hl,b z m (by rw[List.length_cons] at hn;omega)]
noncomputable def OutR.more (o:OutR)(k:Nat):OutR:=⟨o.said,o.en,o.jumps+k⟩
theorem oK {q t n:Nat}{nx:Option Nat}{f:Nat->Nat}{s:Sta}(hr: ∀j r,(goR t nx)[j]?=some r->rows[q+j]?=some (r.fin f))(hn:nx=some t->f t=q):runR nums rows (jmp nx t+n) q s=(runR nums rows n (f t) s).more (jmp nx t):=by
 unfold goR at hr
 unfold jmp
 by_cases h:nx=some t
 ·rw[if_pos h,Nat.zero_add,hn h];rfl
 ·rw[if_neg h] at hr ⊢
  have h0:rows[q]?=some (.jump (f t)):=hr 0 _ rfl
  rw[Nat.add_comm 1 n]
  exact qD h0
theorem sw {ns:List Str}{m q:Nat}{e:En}{nx:Option Nat}{f:Nat->Nat}{s:Sta}(g:e.G ns m)(st:e.stops=false)(hr: ∀j r,(e.tail nx)[j]?=some r->rows[q+j]?=some (r.fin f))(hn: ∀t,nx=some t->f t=q+(e.tail nx).length)(n:Nat):runR nums rows ((bz e nx (side s.σ e) (to s.σ e)).1+n) q s=(runR nums rows n (f (to s.σ e)) s).more (bz e nx (side s.σ e) (to s.σ e)).2:=by
 cases e with
 |stop=>cases st
 |go t=>
  show runR nums rows (jmp nx t+n) q s=(runR nums rows n (f t) s).more (jmp nx t)
  refine oK hr fun h=>?_
  have:=hn t h
  rw[show (En.go t).tail nx=goR t nx from rfl] at this
  unfold goR at this
  rw[if_pos h] at this
  exact this
 |tab e ts=>
  have h0:rows[q]?=some (.tab e (ts.map f)):=hr 0 _ rfl
  show runR nums rows (1+n) q s=(runR nums rows n (f (to s.σ (.tab e ts))) s).more 1
  have et:(ts.map f).getD (e.val s.σ % (ts.map f).length).toNat 0=f (to s.σ (.tab e ts)):=by
   have sd:=jw s.σ g rfl
   have sd:(e.val s.σ % ts.length).toNat<ts.length:=sd
   show _=f (ts.getD (e.val s.σ % ts.length).toNat 0)
   rw[List.length_map,List.getD_eq_getElem?_getD,List.getD_eq_getElem?_getD,List.getElem?_map,List.getElem?_eq_getElem sd];rfl
  rw[Nat.add_comm 1 n,sB h0,et];rfl
 |iff c a b x y=>
  have tl:(En.iff c a b x y).tail nx=if x=y then goR x nx else if nx=some x then [Rw.cnd true c a b y] else Rw.cnd false c a b x::goR y nx:=rfl
  have sp: ∀sd t,bz (.iff c a b x y) nx sd t=if x=y then (jmp nx t,jmp nx t) else (1+(if sd=1/\nx≠some x/\nx≠some y then 1 else 0),jmp nx t):=fun _ _=>rfl
  rw[tl] at hr hn
  rw[sp]
  by_cases h:x=y
  ·rw[if_pos h] at hr hn ⊢
   have et:to s.σ (.iff c a b x y)=x:=by
    show [x,y].getD (if cond s.σ c a b=true then 0 else 1) 0=x
    rw[<-h]
    split<;>rfl
   rw[et]
   refine oK hr fun z=>?_
   have:=hn x z
   unfold goR at this
   rw[if_pos z] at this
   exact this
  ·rw[if_neg h] at hr hn ⊢
   cases hc:cond s.σ c a b with
   |true=>
    have es:side s.σ (.iff c a b x y)=0:=by show (if cond s.σ c a b=true then 0 else 1)=0;rw[hc];rfl
    have et:to s.σ (.iff c a b x y)=x:=by unfold to;rw[es];rfl
    rw[es,et,if_neg (fun z=>by cases z.1)]
    by_cases h2:nx=some x
    ·rw[if_pos h2] at hr hn
     have h0:rows[q]?=some (.cnd true c a b (f y)):=hr 0 _ rfl
     show runR nums rows (1+n) q s=(runR nums rows n (f x) s).more (jmp nx x)
     rw[Nat.add_comm 1 n,pI h0 hc,hn x h2]
     unfold jmp
     rw[if_pos h2];rfl
    ·rw[if_neg h2] at hr hn
     have h0:rows[q]?=some (.cnd false c a b (f x)):=hr 0 _ rfl
     show runR nums rows (1+n) q s=(runR nums rows n (f x) s).more (jmp nx x)
     rw[Nat.add_comm 1 n,nD h0 (by rw[hc];simp)]
     unfold jmp
     rw[if_neg h2];rfl
   |false=>
    have es:side s.σ (.iff c a b x y)=1:=by show (if cond s.σ c a b=true then 0 else 1)=1;rw[hc];rfl
    have et:to s.σ (.iff c a b x y)=y:=by unfold to;rw[es];rfl
    rw[es,et]
    by_cases h2:nx=some x
    ·rw[if_pos h2] at hr hn
     have h0:rows[q]?=some (.cnd true c a b (f y)):=hr 0 _ rfl
     have ny: ¬nx=some y:=fun z=>h (by rw[h2] at z;exact Option.some.inj z)
     rw[if_neg (fun z=>z.2.1 h2)]
     show runR nums rows (1+n) q s=(runR nums rows n (f y) s).more (jmp nx y)
     rw[Nat.add_comm 1 n,nD h0 (by rw[hc];simp)]
     unfold jmp
     rw[if_neg ny];rfl
    ·rw[if_neg h2] at hr hn
     have h0:rows[q]?=some (.cnd false c a b (f x)):=hr 0 _ rfl
     have hr': ∀j r,(goR y nx)[j]?=some r->rows[q+1+j]?=some (r.fin f):=fun j r hj=>by
      have:=hr (j+1) r (by simpa using hj)
      rwa[show q+(j+1)=q+1+j by omega] at this
     have go:=oK (nums:=nums) (n:=n) (s:=s) hr' fun z=>by
      have:=hn y z
      unfold goR at this
      rw[if_pos z] at this
      exact this
     have e1:(1+(if (1:Nat)=1/\nx≠some x/\nx≠some y then 1 else 0))=jmp nx y+1:=by
      unfold jmp
      by_cases h3:nx=some y
      ·rw[if_pos h3,if_neg (fun z=>z.2.2 h3)]
      ·rw[if_neg h3,if_pos ⟨rfl,h2,h3⟩]
     rw[e1]
     show runR nums rows (jmp nx y+1+n) q s=_
     rw[show jmp nx y+1+n=(jmp nx y+n)+1 by omega,pI h0 hc]
     exact go
end
section
variable {ps:List (Str×Int)}{bs:List Bl}{os:List Nat}{nums:List Int}
theorem uM (P:PgG ps bs)(O:Ord bs.length os){p:Nat}{b:Bl}(hb:bs[p]?=some b):(∀j st,b.sts[j]?=some st->(laidR bs os)[posR bs os p+j]?=some (.st st))/\(∀j r,(b.en.tail (nxt os p))[j]?=some r->(laidR bs os)[posR bs os p+b.sts.length+j]?=some (r.fin (posR bs os)))/\ ∀t,nxt os p=some t->posR bs os t=posR bs os p+b.sts.length+(b.en.tail (nxt os p)).length:=by
 obtain⟨i,hi⟩:=O.ix (List.getElem?_eq_some_iff.mp hb).1
 have se:=jP hi hb
 rw[oX O hi]
 refine⟨fun j st hj=>?_,fun j r hj=>?_,fun t ht=>?_⟩
 ·refine pX O (r:=.st st) hi ?_
  rw[se,List.getElem?_append_left (by rw[List.length_map];exact (List.getElem?_eq_some_iff.mp hj).1),List.getElem?_map,hj];rfl
 ·rw[Nat.add_assoc]
  refine pX O (r:=r) hi ?_
  rw[se,List.getElem?_append_right (by rw[List.length_map];omega),List.length_map,Nat.add_sub_cancel_left]
  exact hj
 ·rw[sO O hi ht,se,List.length_append,List.length_map];omega
theorem sim (P:PgG ps bs)(O:Ord bs.length os): ∀ (n p:Nat) (s:Sta),p<bs.length->
  ((runB nums bs n p s).en= "on"->runR nums (laidR bs os) (doneB bs os (runB nums bs n p s).went).1 (posR bs os p) s=⟨(runB nums bs n p s).said, "on",(doneB bs os (runB nums bs n p s).went).2⟩)/\
  ((runB nums bs n p s).en= "stop"-> ∀m,(doneB bs os (runB nums bs n p s).went).1+ba bs (lastB p (runB nums bs n p s).went)+1<=m->runR nums (laidR bs os) m (posR bs os p) s=⟨(runB nums bs n p s).said, "stop",(doneB bs os (runB nums bs n p s).went).2⟩)/\
  ((runB nums bs n p s).en= "out"-> ∀m,(doneB bs os (runB nums bs n p s).went).1+ba bs (lastB p (runB nums bs n p s).went)<=m->runR nums (laidR bs os) m (posR bs os p) s=⟨(runB nums bs n p s).said, "out",(doneB bs os (runB nums bs n p s).went).2⟩)
 |0,p,s,hp=>⟨fun _=>rfl,fun z=>absurd z (show¬(("on":Str)= "stop") by decide+kernel),fun z=>absurd z (show¬(("on":Str)= "out") by decide+kernel)⟩
 |n+1,p,s,hp=>by
  obtain⟨b,hb⟩: ∃b,bs[p]?=some b:=⟨_,List.getElem?_eq_getElem hp⟩
  obtain⟨_,_,g⟩:=P.g b (List.mem_of_getElem? hb)
  obtain⟨r1,r2,r3⟩:=uM P O hb
  obtain⟨q1,q2⟩:=pH (nums:=nums) (rows:=laidR bs os) b.sts (posR bs os p) s r1
  have sl:ba bs p=b.sts.length:=by unfold ba;rw[hb]
  cases hd:(doL nums s b.sts).2 with
  |false=>
   have er:runB nums bs (n+1) p s=⟨(doL nums s b.sts).1.said, "out",[]⟩:=by
    conv=>lhs;unfold runB
    rw[hb];dsimp only;rw[if_pos hd]
   rw[er]
   refine⟨fun z=>absurd z (show¬(("out":Str)= "on") by decide+kernel),fun z=>absurd z (show¬(("out":Str)= "stop") by decide+kernel),fun _ m hm=>?_⟩
   exact q2 hd m (by have hm:0+ba bs p<=m:=hm;omega)
  |true=>
   cases hs:b.en.stops with
   |true=>
    have er:runB nums bs (n+1) p s=⟨(doL nums s b.sts).1.said, "stop",[]⟩:=by
     conv=>lhs;unfold runB
     rw[hb];dsimp only;rw[hd,if_neg (by simp),hs,if_pos rfl]
    rw[er]
    refine⟨fun z=>absurd z (show¬(("stop":Str)= "on") by decide+kernel),fun _ m hm=>?_,fun z=>absurd z (show¬(("stop":Str)= "out") by decide+kernel)⟩
    have hm:0+ba bs p+1<=m:=hm
    obtain⟨k,rfl⟩: ∃k,m=b.sts.length+(k+1):=⟨m - b.sts.length - 1,by omega⟩
    rw[q1 hd]
    have h0:(laidR bs os)[posR bs os p+b.sts.length]?=some .stop:=by
     have eb:b.en=.stop:=by
      cases h:b.en with
      |stop=>rfl
      |go t=>rw[h] at hs;cases hs
      |iff c a b x y=>rw[h] at hs;cases hs
      |tab e ts=>rw[h] at hs;cases hs
     rw[eb] at r2
     exact r2 0 .stop rfl
    conv=>lhs;unfold runR
    rw[h0];rfl
   |false=>
    have er:runB nums bs (n+1) p s=⟨(runB nums bs n (to (doL nums s b.sts).1.σ b.en) (doL nums s b.sts).1).said,(runB nums bs n (to (doL nums s b.sts).1.σ b.en) (doL nums s b.sts).1).en,(p,side (doL nums s b.sts).1.σ b.en,to (doL nums s b.sts).1.σ b.en)::(runB nums bs n (to (doL nums s b.sts).1.σ b.en) (doL nums s b.sts).1).went⟩:=by
     conv=>lhs;unfold runB
     rw[hb];dsimp only;rw[hd,if_neg (by simp),hs,if_neg (by simp)]
    have sp:aL bs os (p,side (doL nums s b.sts).1.σ b.en,to (doL nums s b.sts).1.σ b.en)=bz b.en (nxt os p) (side (doL nums s b.sts).1.σ b.en) (to (doL nums s b.sts).1.σ b.en):=by
     unfold aL
     dsimp only
     rw[hb]
    have rt:=fun k=>sw (nums:=nums) (rows:=laidR bs os) (q:=posR bs os p+b.sts.length) (f:=posR bs os) (s:=(doL nums s b.sts).1) g hs r2 r3 k
    obtain⟨i1,i2,i3⟩:=sim P O n (to (doL nums s b.sts).1.σ b.en) (doL nums s b.sts).1 (nh _ g hs)
    rw[er]
    have dn: ∀r,doneB bs os ((p,side (doL nums s b.sts).1.σ b.en,to (doL nums s b.sts).1.σ b.en)::r)=(b.sts.length+(bz b.en (nxt os p) (side (doL nums s b.sts).1.σ b.en) (to (doL nums s b.sts).1.σ b.en)).1+(doneB bs os r).1,(bz b.en (nxt os p) (side (doL nums s b.sts).1.σ b.en) (to (doL nums s b.sts).1.σ b.en)).2+(doneB bs os r).2):=fun r=>by
     show (ba bs p+(aL bs os _).1+_,(aL bs os _).2+_)=_
     rw[sl,sp]
    dsimp only
    rw[dn]
    generalize runB nums bs n (to (doL nums s b.sts).1.σ b.en) (doL nums s b.sts).1=o at *
    generalize bz b.en (nxt os p) (side (doL nums s b.sts).1.σ b.en) (to (doL nums s b.sts).1.σ b.en)=sq at *
    have lb:lastB p ((p,side (doL nums s b.sts).1.σ b.en,to (doL nums s b.sts).1.σ b.en)::o.went)=lastB (to (doL nums s b.sts).1.σ b.en) o.went:=rfl
    rw[lb]
    have mv: ∀ {o2:OutR}{w:Str},o2=⟨o.said,w,(doneB bs os o.went).2⟩->o2.more sq.2=⟨o.said,w,sq.2+(doneB bs os o.went).2⟩:=fun{o2 w} h=>by
     rw[h];unfold OutR.more;rw[Nat.add_comm]
    refine⟨fun z=>?_,fun z m hm=>?_,fun z m hm=>?_⟩
    ·show runR nums (laidR bs os) (b.sts.length+sq.1+(doneB bs os o.went).1) (posR bs os p) s=_
     rw[Nat.add_assoc,q1 hd,rt]
     exact mv (i1 z)
    ·have hm:b.sts.length+sq.1+(doneB bs os o.went).1+ba bs (lastB (to (doL nums s b.sts).1.σ b.en) o.went)+1<=m:=hm
     obtain⟨k,rfl⟩: ∃k,m=b.sts.length+(sq.1+k):=⟨m - b.sts.length - sq.1,by omega⟩
     rw[q1 hd,rt]
     exact mv (i2 z k (by omega))
    ·have hm:b.sts.length+sq.1+(doneB bs os o.went).1+ba bs (lastB (to (doL nums s b.sts).1.σ b.en) o.went)<=m:=hm
     obtain⟨k,rfl⟩: ∃k,m=b.sts.length+(sq.1+k):=⟨m - b.sts.length - sq.1,by omega⟩
     rw[q1 hd,rt]
     exact mv (i3 z k (by omega))
theorem pos0 (O:Ord bs.length os):posR bs os 0=0:=by rw[iP O O.hd];rfl
end
end
set_option maxHeartbeats 1000000
section
theorem mK (nx:Option Nat)(t:Nat):(if (!decide ((t:Int)=nxI nx))=true then (1:Int) else 0)=(jmp nx t:Int):=by
 unfold jmp
 by_cases h:nx=some t
 ·rw[if_pos h,decide_eq_true (nxI_eq.mpr h)];rfl
 ·rw[if_neg h,decide_eq_false (fun z=>h (nxI_eq.mp z))];rfl
section
variable {ps:List (Str×Int)}{bs:List Bl}{os:List Nat}{bl:W}
theorem so {h:List Ob}{p sd t:Nat}{b:Bl}(P:PgG ps bs)(O:Ord bs.length os)(H:BlAt h bl bs)(hb:bs[p]?=some b)(hs:b.en.stops=false):Ok (dJ [bl,.tup (os.map nI),nI p,nI sd,nI t]) h fun w h'=>w=.tup [nI (bz b.en (nxt os p) sd t).1,nI (bz b.en (nxt os p) sd t).2]/\h'=h:=by
 have e0:dJ [bl,.tup (os.map nI),nI p,nI sd,nI t]=bd (fF [some bl,some (.tup (os.map nI)),some (nI p),some (nI sd),some (nI t),none,none,none]) finF:=rfl
 obtain⟨ls,LL,ll,pq⟩:=H
 obtain⟨y,ey,LY⟩:=pq p b hb
 obtain⟨i,hi⟩:=O.ix (List.getElem?_eq_some_iff.mp hb).1
 rw[e0]
 unfold fF
 simp!
 refine LL.ix (cX ey) ?_
 simp! only[aa,ix2]
 refine aY (mr O hi P.l2) fun w h2 qq_=>?_
 obtain⟨e1,e2⟩:=qq_
 subst e1 e2
 rw[<-oX O hi]
 generalize nxt os p=nx
 cases hE:b.en with
 |stop=>rw[hE] at hs;cases hs
 |tab e ts=>
  simp! only[En.w,aa,ix0,eq_self,decide_true]
  exact av ⟨rfl,rfl⟩
 |go t'=>
  have c1:decide (("go":Str)= "table")=false:=by decide+kernel
  simp! only[En.w,aa,nI,ix0,c1,int_bl',mK,eq_self,decide_true]
  exact av ⟨rfl,rfl⟩
 |iff c a b' x y=>
  have c1:decide (("if":Str)= "table")=false:=by decide+kernel
  have c2:decide (("if":Str)= "go")=false:=by decide+kernel
  have sp:bz (.iff c a b' x y) nx sd t=if x=y then (jmp nx t,jmp nx t) else (1+(if sd=1/\nx≠some x/\nx≠some y then 1 else 0),jmp nx t):=rfl
  rw[sp]
  by_cases hxy:x=y
  ·have hxy':(x:Int)=(y:Int):=by rw[hxy]
   rw[if_pos hxy]
   simp! only[En.w,aa,nI,ix0,ix4,ix5,c1,c2,int_bl',mK,decide_eq_true hxy']
   exact av ⟨rfl,rfl⟩
  ·have hxy': ¬(x:Int)=(y:Int):=by omega
   rw[if_neg hxy]
   simp! only[En.w,aa,nI,ix0,ix4,ix5,c1,c2,int_bl',mK,decide_eq_false hxy']
   by_cases h1:sd=1
   ·have h1':(sd:Int)=1:=by omega
    by_cases h2:nx=some x
    ·have d2:decide (nxI nx=(x:Int))=true:=decide_eq_true (nxI_eq.mpr h2).symm
     rw[show (if sd=1/\nx≠some x/\nx≠some y then 1 else 0:Nat)=0 from if_neg (fun z=>z.2.1 h2)]
     simp! only[aa,decide_eq_true h1',d2,ix4,int_bl']
     exact av ⟨rfl,rfl⟩
    ·have d2:decide (nxI nx=(x:Int))=false:=decide_eq_false fun z=>h2 (nxI_eq.mp z.symm)
     by_cases h3:nx=some y
     ·have d3:decide (nxI nx=(y:Int))=true:=decide_eq_true (nxI_eq.mpr h3).symm
      rw[show (if sd=1/\nx≠some x/\nx≠some y then 1 else 0:Nat)=0 from if_neg (fun z=>z.2.2 h3)]
      simp! only[aa,decide_eq_true h1',d2,d3,ix4,ix5,int_bl']
      exact av ⟨rfl,rfl⟩
     ·have d3:decide (nxI nx=(y:Int))=false:=decide_eq_false fun z=>h3 (nxI_eq.mp z.symm)
      rw[show (if sd=1/\nx≠some x/\nx≠some y then 1 else 0:Nat)=1 from if_pos ⟨h1,h2,h3⟩]
      simp! only[aa,decide_eq_true h1',d2,d3,ix4,ix5,int_bl']
      exact av ⟨rfl,rfl⟩
   ·have h1': ¬(sd:Int)=1:=by omega
    rw[show (if sd=1/\nx≠some x/\nx≠some y then 1 else 0:Nat)=0 from if_neg (fun z=>h1 z.1)]
    simp! only[aa,decide_eq_false h1',int_bl']
    exact av ⟨rfl,rfl⟩
theorem lN (w:Nat×Nat×Nat): ∀l:List (Nat×Nat×Nat),doneB bs os (l++[w])=((doneB bs os l).1+ba bs w.1+(aL bs os w).1,(doneB bs os l).2+(aL bs os w).2)
 |[]=>by
  show (ba bs w.1+(aL bs os w).1+0,(aL bs os w).2+0)=(0+ba bs w.1+(aL bs os w).1,0+(aL bs os w).2)
  rw[Nat.add_zero,Nat.add_zero,Nat.zero_add,Nat.zero_add]
 |v::l=>by
  show (ba bs v.1+(aL bs os v).1+(doneB bs os (l++[w])).1,(aL bs os v).2+(doneB bs os (l++[w])).2)=_
  rw[lN w l]
  show _=(ba bs v.1+(aL bs os v).1+(doneB bs os l).1+ba bs w.1+(aL bs os w).1,(aL bs os v).2+(doneB bs os l).2+(aL bs os w).2)
  refine Prod.ext ?_ ?_
  ·show ba bs v.1+(aL bs os v).1+((doneB bs os l).1+ba bs w.1+(aL bs os w).1)=ba bs v.1+(aL bs os v).1+(doneB bs os l).1+ba bs w.1+(aL bs os w).1
   omega
  ·show (aL bs os v).2+((doneB bs os l).2+(aL bs os w).2)=(aL bs os v).2+(doneB bs os l).2+(aL bs os w).2
   omega
theorem lG (w:Nat×Nat×Nat): ∀ (l:List (Nat×Nat×Nat)) (p:Nat),lastB p (l++[w])=w.2.2
 |[],p=>rfl
 |v::l,p=>lG w l v.2.2
def WayG (bs:List Bl)(w:Nat×Nat×Nat):Prop:=(∃b,bs[w.1]?=some b/\b.en.stops=false)/\w.2.2<bs.length
theorem sr {b:En}{nx:Option Nat}{sd t:Nat}:(bz b nx sd t).1<=2:=by
 unfold bz
 have j1:jmp nx t<=1:=by unfold jmp;split<;>omega
 cases b with
 |stop=>exact Nat.zero_le _
 |tab e ts=>show 1<=2;decide
 |go t'=>show jmp nx t<=2;omega
 |iff c a b x y=>
  dsimp only
  split
  ·show jmp nx t<=2;omega
  ·show 1+(if _ then 1 else 0)<=2
   split<;>omega
theorem qd (P:PgG ps bs): ∀l:List (Nat×Nat×Nat),(doneB bs os l).1<=10 * l.length
 |[]=>Nat.zero_le _
 |v::l=>by
  have ih:=qd P l
  have h1:ba bs v.1<=8:=by
   unfold ba
   cases hb:bs[v.1]? with
   |none=>exact Nat.zero_le _
   |some b=>exact (P.g b (List.mem_of_getElem? hb)).1
  have h2:(aL bs os v).1<=2:=by
   unfold aL
   cases hb:bs[v.1]? with
   |none=>exact Nat.zero_le _
   |some b=>exact sr
  show ba bs v.1+(aL bs os v).1+(doneB bs os l).1<=_
  rw[List.length_cons];omega
theorem kZ {nums:List Int}(P:PgG ps bs): ∀ (n p:Nat) (s:Sta),p<bs.length->(∀w∈(runB nums bs n p s).went,WayG bs w)/\lastB p (runB nums bs n p s).went<bs.length
 |0,p,s,hp=>⟨fun w hw=>absurd hw List.not_mem_nil,hp⟩
 |n+1,p,s,hp=>by
  obtain⟨b,hb⟩: ∃b,bs[p]?=some b:=⟨_,List.getElem?_eq_getElem hp⟩
  obtain⟨_,_,g⟩:=P.g b (List.mem_of_getElem? hb)
  unfold runB
  rw[hb]
  dsimp only
  split
  ·exact⟨fun w hw=>absurd hw List.not_mem_nil,hp⟩
  ·split
   ·exact⟨fun w hw=>absurd hw List.not_mem_nil,hp⟩
   ·rename_i _ hs
    have hs:b.en.stops=false:=by simpa using hs
    obtain⟨i1,i2⟩:=kZ (nums:=nums) P n (to (doL nums s b.sts).1.σ b.en) (doL nums s b.sts).1 (nh _ g hs)
    refine⟨fun w hw=>?_,i2⟩
    rcases List.mem_cons.mp hw with rfl|hw
    ·exact⟨⟨b,hb,hs⟩,nh _ g hs⟩
    ·exact i1 w hw
end
def bW:Env'->M Fl:=(sSeq (sUnp (tgT [10,11]) (mCall (arW 5 dJ) (mCons (m2 ixW (mVar 0) (mC (.int 1))) (mCons (mVar 1) (mCons (mVar 7) (mCons (mVar 8) (mCons (mVar 9) mNil))))))) (sSeq (sSet 4 (m2 addW (m2 addW (mVar 4) (mCall lenW (mCons (m2 ixW (m2 ixW (m2 ixW (mVar 0) (mC (.int 1))) (mVar 7)) (mC (.int 1))) mNil))) (mVar 10))) (sSeq (sSet 5 (m2 addW (mVar 5) (mVar 11))) (sSet 6 (mVar 9)))))
theorem g8:dC=(sSeq (sSet 4 (mC (.int 0))) (sSeq (sSet 5 (mC (.int 0))) (sSeq (sSet 6 (mC (.int 0))) (sSeq (sFor (mSrc (m2 ixW (mVar 2) (mC (.int 2))) srcL) (tgK [7,8,9]) bW) (sSeq (sIf (mB (m2 eqW (m2 ixW (mVar 2) (mC (.int 1))) (mTup (mCons (mC (.str "stop")) mNil)))) (sSet 4 (m2 addW (m2 addW (mVar 4) (mCall lenW (mCons (m2 ixW (m2 ixW (m2 ixW (mVar 0) (mC (.int 1))) (mVar 6)) (mC (.int 1))) mNil))) (mC (.int 1)))) sNil) (sSeq (sIf (mB (m2 eqW (m2 ixW (mVar 2) (mC (.int 1))) (mTup (mCons (mC (.str "out")) mNil)))) (sSet 4 (m2 addW (mVar 4) (mCall lenW (mCons (m2 ixW (m2 ixW (m2 ixW (mVar 0) (mC (.int 1))) (mVar 6)) (mC (.int 1))) mNil)))) sNil) (sRet (mTup (mCons (mVar 4) (mCons (mVar 5) mNil)))))))))):=rfl
section
variable {ps:List (Str×Int)}{bs:List Bl}{os:List Nat}{x:W}
def dE (bs:List Bl)(o:OutB):Nat:=if o.en= "stop" then ba bs (lastB 0 o.went)+1 else if o.en= "out" then ba bs (lastB 0 o.went) else 0
theorem nF {h:List Ob}{k k':Nat}{o:OutB}{bd':W}(P:PgG ps bs)(O:Ord bs.length os)(PA:PgAt h x ps bs)(he:o.en∈(["on", "stop", "out"]:List Str))(e2:h[k']?=some (.lst (o.went.map wayW)))(hw: ∀w∈o.went,WayG bs w)(hl:lastB 0 o.went<bs.length):Ok (cN [x,.tup (os.map nI),.tup [.loc k,.tup [.str o.en],.loc k'],bd']) h fun w h'=>w=.tup [nI ((doneB bs os o.went).1+dE bs o),nI (doneB bs os o.went).2]/\h'=h:=by
 have e0:cN [x,.tup (os.map nI),.tup [.loc k,.tup [.str o.en],.loc k'],bd']=bd (dC [some x,some (.tup (os.map nI)),some (.tup [.loc k,.tup [.str o.en],.loc k']),some bd',none,none,none,none,none,none,none,none]) finF:=rfl
 obtain⟨bx,bl,ex,_,BA⟩:=PA.bl
 have x1:ixW x (.int 1)=pr bl:=by rw[ex];exact ix1 _ _ _
 have BA':=BA
 obtain⟨ls,LL,ll,pq⟩:=BA'
 rw[e0,g8]
 simp! only[aa,ix2]
 refine oR e2 ?_
 refine eC (I:=fun n ρ h'=>(∃a7 a8 a9 a10 a11,ρ=[some x,some (.tup (os.map nI)),some (.tup [.loc k,.tup [.str o.en],.loc k']),some bd',some (nI (doneB bs os (o.went.take n)).1),some (nI (doneB bs os (o.went.take n)).2),some (nI (lastB 0 (o.went.take n))),a7,a8,a9,a10,a11])/\h'=h) ⟨⟨_,_,_,_,_,rfl⟩,rfl⟩ (fun _ _ h' I=>by rw[I.2];exact e2) (fun n w ρ h' hw' I=>?_) fun ρ h' I=>?_
 ·obtain⟨⟨a7,a8,a9,a10,a11,rfl⟩,rfl⟩:=I
  rw[List.getElem?_map] at hw'
  obtain⟨v,hv,rfl⟩:=Option.map_eq_some_iff.mp hw'
  obtain⟨⟨b,hb,hs⟩,_⟩:=hw v (List.mem_of_getElem? hv)
  obtain⟨y,ey,LY⟩:=pq v.1 b hb
  have tk:o.went.take (n+1)=o.went.take n++[v]:=by rw[List.take_add_one,hv];rfl
  have sl:ba bs v.1=b.sts.length:=by unfold ba;rw[hb]
  have sp:aL bs os v=bz b.en (nxt os v.1) v.2.1 v.2.2:=by unfold aL;rw[hb]
  refine⟨_,rfl,?_⟩
  simp! only[bW,aa,x1]
  refine aY (so P O BA hb hs) fun w h2 qq_=>?_
  obtain⟨e1,e3⟩:=qq_
  subst e1 e3
  simp! only[aa,x1]
  refine LL.ix (cX ey) ?_
  simp! only[aa,ix1]
  refine LY.len_eq (N:=(b.sts.length:Int)) (by rw[List.length_map]) ?_
  simp! only[aa,nI]
  refine av ⟨_,rfl,⟨some (nI v.1),some (nI v.2.1),some (nI v.2.2),some (nI (bz b.en (nxt os v.1) v.2.1 v.2.2).1),some (nI (bz b.en (nxt os v.1) v.2.1 v.2.2).2),?_⟩,rfl⟩
  rw[tk,lN,lG,sl,sp]
  first
   |(simp only[nI,Int.natCast_add];done)
   |(simp only[nI,Int.natCast_add];rfl)
 ·obtain⟨⟨a7,a8,a9,a10,a11,rfl⟩,rfl⟩:=I
  rw[List.length_map,List.take_length]
  obtain⟨b,hb⟩: ∃b,bs[lastB 0 o.went]?=some b:=⟨_,List.getElem?_eq_getElem hl⟩
  obtain⟨y,ey,LY⟩:=pq _ b hb
  have sl:ba bs (lastB 0 o.went)=b.sts.length:=by unfold ba;rw[hb]
  unfold dE
  rw[sl]
  by_cases c1:o.en= "stop"
  ·have c2: ¬o.en= "out":=by rw[c1];decide+kernel
   rw[if_pos c1]
   simp! only[aa,ix1,lM he mL,decide_eq_true c1,x1]
   refine LL.ix (cX ey) ?_
   simp! only[aa,ix1]
   refine LY.len_eq (N:=(b.sts.length:Int)) (by rw[List.length_map]) ?_
   simp! only[aa,nI,ix1,lM he pc,decide_eq_false c2]
   exact av ⟨by simp only[Int.natCast_add,Int.add_assoc];rfl,rfl⟩
  ·rw[if_neg c1]
   by_cases c2:o.en= "out"
   ·rw[if_pos c2]
    simp! only[aa,ix1,lM he mL,decide_eq_false c1,lM he pc,decide_eq_true c2,x1]
    refine LL.ix (cX ey) ?_
    simp! only[aa,ix1]
    refine LY.len_eq (N:=(b.sts.length:Int)) (by rw[List.length_map]) ?_
    simp! only[aa,nI]
    exact av ⟨by simp only[Int.natCast_add],rfl⟩
   ·rw[if_neg c2]
    simp! only[aa,ix1,lM he mL,decide_eq_false c1,lM he pc,decide_eq_false c2]
    exact av ⟨rfl,rfl⟩
end
end
set_option maxHeartbeats 1000000
section
section
variable {ps:List (Str×Int)}{bs:List Bl}{os:List Nat}
def js (bs:List Bl)(os:List Nat)(L:List Way):Nat:=(L.map fun w=>(aL bs os w).2).sum
theorem yy (L L':List Way):js bs os (L++L')=js bs os L+js bs os L':=by unfold js;rw[List.map_append,List.sum_append]
theorem done2: ∀l:List Way,(doneB bs os l).2=js bs os l
 |[]=>rfl
 |w::l=>by
  show (aL bs os w).2+(doneB bs os l).2=_
  rw[done2 l];rfl
theorem u5 {b:En}{nx:Option Nat}{sd t:Nat}:(bz b nx sd t).2<=(bz b nx sd t).1:=by
 unfold bz
 have j1:jmp nx t<=1:=by unfold jmp;split<;>omega
 cases b with
 |stop=>exact Nat.le_refl _
 |tab e ts=>exact Nat.le_refl _
 |go t'=>exact Nat.le_refl _
 |iff c a b x y=>
  dsimp only
  split
  ·exact Nat.le_refl _
  ·show jmp nx t<=1+(if _ then 1 else 0);omega
theorem uE: ∀l:List Way,(doneB bs os l).2<=(doneB bs os l).1
 |[]=>Nat.le_refl _
 |w::l=>by
  have ih:=uE l
  have h:(aL bs os w).2<=(aL bs os w).1:=by
   unfold aL
   cases bs[w.1]? with
   |none=>exact Nat.le_refl _
   |some b=>exact u5
  show (aL bs os w).2+(doneB bs os l).2<=ba bs w.1+(aL bs os w).1+(doneB bs os l).1
  omega
theorem r6 {w0:Way}(f:Way->Nat): ∀ {wy:List Way},wy.Nodup->(wy.map fun w=>f w * (if w0=w then 1 else 0)).sum=if w0∈wy then f w0 else 0
 |[],_=>rfl
 |w::wy,nd=>by
  obtain⟨n1,n2⟩:=List.nodup_cons.mp nd
  rw[List.map_cons,List.sum_cons,r6 f n2]
  by_cases e:w0=w
  ·subst e
   rw[if_pos rfl,if_neg n1,if_pos List.mem_cons_self];omega
  ·rw[if_neg e]
   by_cases m:w0∈wy
   ·rw[if_pos m,if_pos (List.mem_cons_of_mem _ m)];omega
   ·rw[if_neg m,if_neg (by simp [e,m])];rfl
theorem jh (f g:Way->Nat): ∀wy:List Way,(wy.map fun w=>f w+g w).sum=(wy.map f).sum+(wy.map g).sum
 |[]=>rfl
 |w::wy=>by
  rw[List.map_cons,List.sum_cons,jh f g wy,List.map_cons,List.sum_cons,List.map_cons,List.sum_cons];omega
theorem oo {wy:List Way}(nd:wy.Nodup): ∀ {L:List Way},(∀w∈L,w∈wy)->(wy.map fun w=>(aL bs os w).2 * L.count w).sum=js bs os L
 |[],_=>by
  have:(wy.map fun w=>(aL bs os w).2 * ([]:List Way).count w)=wy.map fun _=>0:=List.map_congr_left fun w _=>by rw[List.count_nil,Nat.mul_zero]
  rw[this]
  clear this nd
  induction wy with
  |nil=>rfl
  |cons w wy ih=>rw[List.map_cons,List.sum_cons,ih fun _ h=>nomatch h];rfl
 |v::L,h=>by
  have e:(wy.map fun w=>(aL bs os w).2 * (v::L).count w)=wy.map fun w=>(aL bs os w).2 * L.count w+(aL bs os w).2 * (if v=w then 1 else 0):=List.map_congr_left fun w _=>by
   rw[List.count_cons,Nat.mul_add]
   by_cases e:v=w
   ·subst e;simp
   ·rw[if_neg e,if_neg (by simpa using e)]
  rw[e,jh,oo nd fun w hw=>h w (List.mem_cons_of_mem _ hw),r6 (fun w=>(aL bs os w).2) nd,if_pos (h v List.mem_cons_self)]
  show _=(aL bs os v).2+js bs os L
  omega
theorem ur {n:Nat}(G:PgG ps bs)(ins:List (List Int)): ∀w∈goes ps bs n ins,w∈wyB bs:=fun w hw=>by
 obtain⟨l,_,h⟩:=List.mem_flatMap.mp hw
 exact jE (nums:=l) G n 0 (sta0 ps) w h
end
theorem rS {β:Type}{h:List Ob}{k:W->M β}{Q:β->List Ob->Prop}{n:Nat}(q:Ok (k (.bl true)) h Q):Ok (bd (eP [nI n]) k) h Q:=by
 have e0:eP [nI n]=bd (fE [some (nI n)]) finF:=rfl
 rw[e0]
 unfold fE
 simp! only[aa,nI,pZ (i:=(n:Int)) (c:= "int") (b:=true) (by decide) (by decide),pZ (i:=(n:Int)) (c:= "bool") (b:=false) (by decide) (by decide)]
 exact q
def bC:Env'->M Fl:=(sSeq (sUnp (tgT [8,9,10]) (m1 unkW (m2 ixW (mVar 4) (mVar 7)))) (sIf (mOr (mB (m2 eqW (m2 ixW (m2 ixW (m2 ixW (m2 ixW (mVar 0) (mC (.int 1))) (mVar 8)) (mC (.int 2))) (mC (.int 0))) (mC (.str "table")))) (mB (m2 neW (mCall (arW 2 dc) (mCons (mVar 1) (mCons (mVar 8) mNil))) (mVar 10)))) (sSet 6 (m2 addW (mVar 6) (m2 ixW (mVar 5) (mVar 7)))) sNil))
theorem ir:eK=(sSeq (sSet 4 (mCall (arW 1 gO) (mCons (mVar 0) mNil))) (sSeq (sSet 5 (mCall (arW 3 fS) (mCons (mVar 0) (mCons (mTl (mComp [] (mSrc (mVar 2) srcL) (tgN 0) mYes (mTl (listL (mCons (mVar 0) mNil))) 2)) (mCons (mVar 3) mNil))))) (sSeq (sSet 6 (mC (.int 0))) (sSeq (sFor (mSrcA (mCons (mCall lenW (mCons (mVar 4) mNil)) mNil) rng1) (tgN 7) bC) (sRet (mVar 6)))))):=rfl
section
variable {ps:List (Str×Int)}{bs:List Bl}{os:List Nat}
theorem q9 {β:Type}{h:List Ob}{k:W->M β}{Q:β->List Ob->Prop}{x:W}{ins:List (List Int)}{n:Nat}(PG:PgG ps bs)(O:Ord bs.length os)(PA:PgAt h x ps bs)(hi:ins.length<=100)(hn:n<27)(q:∀h',Ok (k (nI (js bs os (goes ps bs n ins)))) h' Q):Ok (bd (dA [x,.tup (os.map nI),.tl (ins.map insW),nI n]) k) h Q:=by
 have e0:dA [x,.tup (os.map nI),.tl (ins.map insW),nI n]=bd (eK [some x,some (.tup (os.map nI)),some (.tl (ins.map insW)),some (nI n),none,none,none,none,none,none,none]) finF:=rfl
 rw[e0,ir]
 have wl:=rQ PG
 have nd:=wK bs
 obtain⟨bx,bl,ex,_,BA⟩:=PA.bl
 have x1:ixW x (.int 1)=pr bl:=by rw[ex];exact ix1 _ _ _
 clear ex
 simp!
 refine ue PG PA fun h1 K1=>?_
 have gi: ∀ {α:Type} (q:M α),gd ((ins.map insW).length<=sizeLine) q=q:=fun q=>aG (by rw[List.length_map];exact Nat.le_trans hi (by decide))
 simp! only[aa,ij,aI,gi]
 refine fu (I:=fun i a h'=>h'=h1/\a=(ins.take i).map insW) ⟨rfl,rfl⟩ gF (fun _ _ _ _=>trivial) (fun i w a h' hw I=>?_) fun a h' I=>?_
 ·obtain⟨rfl,rfl⟩:=I
  rw[List.getElem?_map] at hw
  obtain⟨t,ht,rfl⟩:=Option.map_eq_some_iff.mp hw
  refine⟨_,rfl,?_⟩
  have li:insW t=.tl (t.map W.int):=rfl
  rw[li]
  simp! only[List.replicate,List.cons_append,List.nil_append,aa,gM]
  exact av ⟨rfl,by rw[cG ht,List.map_append];rfl⟩
 ·obtain⟨rfl,rfl⟩:=I
  rw[List.length_map,List.take_length]
  simp!
  refine ug PG (PA.keep K1.eq) (.inl rfl) hn fun h2 K2=>?_
  have gm:=ur (n:=n) PG ins
  have jc:=oo (bs:=bs) (os:=os) nd gm
  generalize goes ps bs n ins=L at *
  obtain⟨N,hN⟩: ∃N:Int,N=(((wyB bs).map wayW).length:Int):=⟨_,rfl⟩
  have hN':N=((wyB bs).length:Int):=by rw[hN,List.length_map]
  have BA2:BlAt h2 bl bs:=(BA.keep K1.eq).keep K2.eq
  have BA2':=BA2
  obtain⟨ls,LL,ll,pq⟩:=BA2'
  have vl:(valsW (wyB bs) L).length=(wyB bs).length:=by unfold valsW;rw[List.length_map]
  simp! only[aa,<-hN,du (show (-(2 ^ 62):Int)<=N by omega) (show N<2 ^ 62 by omega)]
  have eN:N.toNat=(wyB bs).length:=by omega
  refine eC (I:=fun i ρ h'=>h'=h2/\ ∃a b c d,ρ=[some x,some (.tup (os.map nI)),some (.tl (ins.map insW)),some (nI n),some (.tl ((wyB bs).map wayW)),some (.tl (valsW (wyB bs) L)),some (nI (((wyB bs).take i).map fun w=>(aL bs os w).2 * L.count w).sum),a,b,c,d]) ⟨rfl,_,_,_,_,rfl⟩ (fun _ _ _ _=>trivial) (fun i w ρ h3 hw I=>?_) fun ρ h3 I=>?_
  ·obtain⟨rfl,a,b,c,d,rfl⟩:=I
   obtain⟨rfl,hi⟩:=dw _ _ _ _ hw
   rw[eN] at hi
   obtain⟨v,hv⟩: ∃v,(wyB bs)[i]?=some v:=⟨_,List.getElem?_eq_getElem hi⟩
   obtain⟨en,h1',h2'⟩:=ways_mem.mp (show v∈waysL (bs.map Bl.en) from List.mem_of_getElem? hv)
   rw[List.getElem?_map] at h1'
   obtain⟨b0,hb,rfl⟩:=Option.map_eq_some_iff.mp h1'
   obtain⟨y,ey,LY⟩:=pq v.1 b0 hb
   obtain⟨o,ho⟩:=O.ix (List.getElem?_eq_some_iff.mp hb).1
   have iv:atI ((wyB bs).map wayW) (0+(i:Int))=some (wayW v):=by rw[Int.zero_add];exact cX (by rw[List.getElem?_map,hv];rfl)
   have ic:atI (valsW (wyB bs) L) (0+(i:Int))=some (.int (L.count v:Nat)):=by rw[Int.zero_add];exact cX (by unfold valsW;rw[List.getElem?_map,hv];rfl)
   have sb:aL bs os v=bz b0.en (nxt os v.1) v.2.1 v.2.2:=by unfold aL;rw[hb]
   have nx:nxt os v.1=os[o+1]?:=oX O ho
   rw[nx] at sb
   have ts:(((wyB bs).take (i+1)).map fun w=>(aL bs os w).2 * L.count w).sum=(((wyB bs).take i).map fun w=>(aL bs os w).2 * L.count w).sum+(bz b0.en os[o+1]? v.2.1 v.2.2).2 * L.count v:=by
    rw[cG hv,List.map_append,List.sum_append,<-sb];simp
   rw[ts]
   generalize (((wyB bs).take i).map fun w=>(aL bs os w).2 * L.count w).sum=S
   refine⟨_,rfl,?_⟩
   unfold bC
   simp!
   refine Lw.ix (.inl rfl) iv ?_
   have uw:unkW (wayW v)=pr (.tup [nI v.1,nI v.2.1,nI v.2.2]):=rfl
   simp! only[aa,uw]
   simp! only[aa,x1]
   refine LL.ix (cX ey) ?_
   cases hE:b0.en with
   |stop=>rw[hE] at h2';cases h2'
   |tab e ts=>
    simp! only[En.w,aa,ix2,ix0,eq_self,decide_true]
    refine Lw.ix (.inl rfl) ic ?_
    simp! only[aa,nI]
    refine av ⟨_,rfl,rfl,some (.int (0+(i:Int))),some (.int v.1),some (.int v.2.1),some (.int v.2.2),?_⟩
    rw[show (bz (.tab e ts) os[o+1]? v.2.1 v.2.2).2=1 from rfl,Nat.one_mul,Int.natCast_add]
   |go t'=>
    have c1:decide (("go":Str)= "table")=false:=by decide+kernel
    simp! only[En.w,aa,ix2,ix0,c1]
    refine aY (mr O ho PG.l2) fun w h2 qq_=>?_
    obtain⟨e1,e2⟩:=qq_
    subst e1 e2
    by_cases hz:os[o+1]?=some v.2.2
    ·have d1:decide (nxI os[o+1]?=(v.2.2:Int))=true:=decide_eq_true (nxI_eq.mpr hz).symm
     rw[show (bz (.go t') os[o+1]? v.2.1 v.2.2).2=jmp os[o+1]? v.2.2 from rfl,show jmp os[o+1]? v.2.2=0 from if_pos hz,Nat.zero_mul,Nat.add_zero]
     simp! only[aa,nI,d1]
     exact av ⟨_,rfl,rfl,some (.int (0+(i:Int))),some (.int v.1),some (.int v.2.1),some (.int v.2.2),rfl⟩
    ·have d1:decide (nxI os[o+1]?=(v.2.2:Int))=false:=decide_eq_false fun z=>hz (nxI_eq.mp z.symm)
     rw[show (bz (.go t') os[o+1]? v.2.1 v.2.2).2=jmp os[o+1]? v.2.2 from rfl,show jmp os[o+1]? v.2.2=1 from if_neg hz,Nat.one_mul]
     simp! only[aa,nI,d1]
     refine Lw.ix (.inl rfl) ic ?_
     simp! only[aa,nI]
     refine av ⟨_,rfl,rfl,some (.int (0+(i:Int))),some (.int v.1),some (.int v.2.1),some (.int v.2.2),?_⟩
     rw[Int.natCast_add]
   |iff c2 a1 b1 x1' y1=>
    have c1:decide (("if":Str)= "table")=false:=by decide+kernel
    simp! only[En.w,aa,ix2,ix0,c1]
    refine aY (mr O ho PG.l2) fun w h2 qq_=>?_
    obtain⟨e1,e2⟩:=qq_
    subst e1 e2
    by_cases hz:os[o+1]?=some v.2.2
    ·have d1:decide (nxI os[o+1]?=(v.2.2:Int))=true:=decide_eq_true (nxI_eq.mpr hz).symm
     rw[show (bz (.iff c2 a1 b1 x1' y1) os[o+1]? v.2.1 v.2.2).2=jmp os[o+1]? v.2.2 from by unfold bz;dsimp only;split<;>rfl,show jmp os[o+1]? v.2.2=0 from if_pos hz,Nat.zero_mul,Nat.add_zero]
     simp! only[aa,nI,d1]
     exact av ⟨_,rfl,rfl,some (.int (0+(i:Int))),some (.int v.1),some (.int v.2.1),some (.int v.2.2),rfl⟩
    ·have d1:decide (nxI os[o+1]?=(v.2.2:Int))=false:=decide_eq_false fun z=>hz (nxI_eq.mp z.symm)
     rw[show (bz (.iff c2 a1 b1 x1' y1) os[o+1]? v.2.1 v.2.2).2=jmp os[o+1]? v.2.2 from by unfold bz;dsimp only;split<;>rfl,show jmp os[o+1]? v.2.2=1 from if_neg hz,Nat.one_mul]
     simp! only[aa,nI,d1]
     refine Lw.ix (.inl rfl) ic ?_
     simp! only[aa,nI]
     refine av ⟨_,rfl,rfl,some (.int (0+(i:Int))),some (.int v.1),some (.int v.2.1),some (.int v.2.2),?_⟩
     rw[Int.natCast_add]
  ·obtain⟨rfl,a,b,c,d,rfl⟩:=I
   rw[bK,eN,List.take_length,jc]
   simp!
   exact q _
end
theorem wf (ns:List Int)(hh:List Ob):Ok (lK [.cl (ns.map W.int)]) hh fun w _=>w=.bl true:=by
 have e0:lK [.cl (ns.map W.int)]=bd (p6 [some (.cl (ns.map W.int)),none,none,none,none,none,none,none,none,none,none,none]) finF:=rfl
 rw[e0]
 unfold p6
 obtain⟨c2,ec2⟩:=jC ns 2 (by decide)
 simp!
 refine aY (oN ns hh) fun w h1 qq_=>?_
 obtain⟨ps,bl,ew,P1⟩:=qq_
 subst ew
 simp!
 refine aY (rD ns P1) fun w h2 qq_=>?_
 obtain⟨P2,nums,ew,nl⟩:=qq_
 subst ew
 obtain⟨bs,PA,PG,eb⟩:=P2.pg
 obtain⟨N,hN⟩: ∃N:Int,N=((bl.map Bk.w).length:Int):=⟨_,rfl⟩
 have hN':N=(bs.length:Int):=by rw[hN,List.length_map,eb]
 clear P1 P2
 simp! only[aa,ec2,jd (i:=c2) (show (0:Int)<3 by decide) (by decide)]
 refine ii fun a b=>?_
 simp!
 refine aK (m:=25) (j:=h2.length) ⟨a,b,bE⟩ (by decide) (by decide) fun v h3 v0 v1 K3=>?_
 obtain⟨bound,hb⟩: ∃bound:Nat,1+v=(bound:Int):=⟨(1+v).toNat,by omega⟩
 have bb:bound<27:=by omega
 simp! only[aa,hb]
 refine aY (rn (nums:=nums) K3.re nl) fun w h4 qq_=>?_
 obtain⟨ins,ew,gi,R4,l4,f4⟩:=qq_
 subst ew
 have l3:h2.length<h3.length:=by obtain⟨_,_,e⟩:=K3.re;exact cj e
 have g4: ∀i,i<h2.length->h4[i]?=h2[i]?:=fun i hi=>by rw[f4 i (by omega) (by omega),K3.fr.eq i (by omega),List.getElem?_append_left hi]
 simp! only[aa,ix1,<-hN]
 refine aY (qK (h:=h4) (j:=h2.length) (m:=bs.length) hN' PG.l1 PG.l2 R4) fun w h5 qq_=>?_
 obtain⟨os,ew,O,R5,f5⟩:=qq_
 subst ew
 have bx0:ixW (.tup [.tl (ps.map bxW),.tl (bl.map Bk.w)]) (.int 0)=pr (.tl (ps.map bxW)):=ix0 _ _
 have l5:h2.length<h4.length:=by omega
 have PA5:PgAt h5 (.tup [.tl (ps.map bxW),.tl (bl.map Bk.w)]) ps bs:=PA.keep fun i hi=>(f5 i (by omega) (by omega)).trans (g4 i hi)
 clear K3 f4 f5 PA R4 R5 g4 l4 l3 l5
 generalize W.tup [.tl (ps.map bxW),.tl (bl.map Bk.w)]=x at *
 simp!
 have RG:=yq PG O
 refine aY (wj PG O PA5) fun w h6 qq_=>?_
 obtain⟨f6,kf,hkf,ew,ef⟩:=qq_
 subst ew
 have PA6:=PA5.keep f6
 clear PA5 f6
 simp! only[aa,ij]
 refine eC (I:=fun i ρ h'=> ∃a b c,ρ=[some (.cl (ns.map W.int)),some x,some (insW nums),some (.loc h2.length),some (nI bound),some (.tl (ins.map insW)),some (.tup (os.map nI)),some (.loc kf),some (nI (js bs os (goes ps bs bound (ins.take i)))),a,b,c]/\Nw h6 h') ⟨_,_,_,rfl,Nw.refl _⟩ (fun _ _ _ _=>trivial) (fun i w ρ h7 hw I=>?_) fun ρ h7 I=>?_
 ·obtain⟨a,b,c,rfl,K7⟩:=I
  rw[List.getElem?_map] at hw
  obtain⟨l,hl,rfl⟩:=Option.map_eq_some_iff.mp hw
  refine⟨_,rfl,?_⟩
  have li:insW l=.tl (l.map W.int):=rfl
  rw[li]
  simp! only[aa,gM]
  refine aY (sx (nums:=l) (nm:=.tl (l.map W.int)) (bound:=bound) PG (PA6.keep K7.eq) (.inl rfl) bb) fun w h8 qq_=>?_
  obtain⟨f8,k1,k2,g1,g2,_,ew,e1,e2⟩:=qq_
  subst ew
  have K8:Nw h7 h8:=⟨by have:=cj e1;omega,f8⟩
  have K68:=K7.trans K8
  have gs:=lI (ps:=ps) (bs:=bs) (n:=bound) (ins.take i) l
  rw[<-cG hl] at gs
  rw[gs,yy]
  have sm:=sim (nums:=l) PG O bound 0 (sta0 ps) PG.l1
  rw[pos0 O] at sm
  have sh:=jU (nums:=l) PG bound 0 (sta0 ps) PG.l1
  obtain⟨wg,wl⟩:=kZ (nums:=l) PG bound 0 (sta0 ps) PG.l1
  obtain⟨_,l2⟩:=nE l PG bound 0 (sta0 ps)
  generalize runB l bs bound 0 (sta0 ps)=o at *
  generalize js bs os (goes ps bs bound (ins.take i))=S
  have he:o.en∈(["on", "stop", "out"]:List Str):=by
   rcases sh with⟨e,_⟩|⟨e|e,_⟩<;>(rw[e];simp)
  have dl:=qd (os:=os) PG o.went
  have d21:=uE (bs:=bs) (os:=os) o.went
  have sl:ba bs (lastB 0 o.went)<=8:=by
   obtain⟨b,hb⟩: ∃b,bs[lastB 0 o.went]?=some b:=⟨_,List.getElem?_eq_getElem wl⟩
   unfold ba
   rw[hb]
   exact (PG.g b (List.mem_of_getElem? hb)).1
  have er:runR l (laidR bs os) ((doneB bs os o.went).1+dE bs o) 0 (sta0 ps)=⟨o.said,o.en,(doneB bs os o.went).2⟩:=by
   rcases sh with⟨e,_⟩|⟨e|e,_⟩
   ·rw[show dE bs o=0 from by unfold dE;rw[e,if_neg (by decide+kernel),if_neg (by decide+kernel)],Nat.add_zero,sm.1 e,e]
   ·rw[show dE bs o=ba bs (lastB 0 o.went)+1 from by unfold dE;rw[if_pos e],sm.2.1 e _ (by omega),e]
   ·rw[show dE bs o=ba bs (lastB 0 o.went) from by unfold dE;rw[if_neg (by rw[e];decide+kernel),if_pos e],sm.2.2 e _ (by omega),e]
  have el:dE bs o<=9:=by unfold dE;split<;>(try split)<;>omega
  rw[done2] at er d21
  simp!
  refine aY (nF PG O (PA6.keep K68.eq) he e2 wg wl) fun w h9 qq_=>?_
  obtain⟨ew,eh⟩:=qq_
  subst ew eh
  simp! only[aa,ix0]
  generalize hm:(doneB bs os o.went).1+dE bs o=m at *
  by_cases z:m=0
  ·have z': ¬(0:Int)<(m:Int):=by omega
   have j0:js bs os o.went=0:=by omega
   simp! only[aa,nI,decide_eq_false z']
   exact av ⟨_,rfl,_,_,_,by rw[j0];rfl,K68⟩
  ·have z':(0:Int)<(m:Int):=by omega
   simp! only[aa,nI,decide_eq_true z',bx0,gM]
   refine nN (.inr ⟨_,rfl,K68.get ef⟩) ?_
   simp!
   refine aY (nC (nums:=l) (bx:=.tl (ps.map bxW)) (rw:=.tl ((laidR bs os).map Rw.w)) (nm:=.tl (l.map W.int)) (bound:=m) RG PG.bx.len PG.bv (.inl rfl) (.inl rfl) (.inl rfl) (by omega)) fun w h10 qq_=>?_
   obtain⟨f10,k3,hk3,ew,ek⟩:=qq_
   subst ew
   rw[er] at ek ⊢
   have K10:Nw h9 h10:=⟨by have:=cj ek;omega,f10⟩
   simp! only[aa,ix2]
   refine rS ?_
   simp! only[aa,ix2,nI]
   exact av ⟨_,rfl,_,_,_,by rw[Int.natCast_add],K68.trans K10⟩
 ·obtain⟨a,b,c,rfl,K7⟩:=I
  rw[List.length_map,List.take_length]
  simp!
  refine q9 PG O (PA6.keep K7.eq) (by have:=gi.1;omega) bb fun h8=>?_
  simp! only[aa,nI,decide_true]
  exact av rfl
theorem law_true (ns:List Int)(hh:List Ob): ∃h',lK [.cl (ns.map W.int)] hh=.ok (.bl true) h':=by
 obtain⟨w,h',e,rfl⟩:=wf ns hh
 exact⟨h',e⟩
end
end Q
namespace Q
open PySem L2
theorem ln1 {α:Type}: ∀ {us:List α},us.length=1-> ∃a0,us=[a0]
 |[a0],_=>⟨a0,rfl⟩
theorem ln2 {α:Type}: ∀ {us:List α},us.length=2-> ∃a0 a1,us=[a0,a1]
 |[a0,a1],_=>⟨a0,a1,rfl⟩
theorem ln3 {α:Type}: ∀ {us:List α},us.length=3-> ∃a0 a1 a2,us=[a0,a1,a2]
 |[a0,a1,a2],_=>⟨a0,a1,a2,rfl⟩
theorem ln4 {α:Type}: ∀ {us:List α},us.length=4-> ∃a0 a1 a2 a3,us=[a0,a1,a2,a3]
 |[a0,a1,a2,a3],_=>⟨a0,a1,a2,a3,rfl⟩
theorem ln5 {α:Type}: ∀ {us:List α},us.length=5-> ∃a0 a1 a2 a3 a4,us=[a0,a1,a2,a3,a4]
 |[a0,a1,a2,a3,a4],_=>⟨a0,a1,a2,a3,a4,rfl⟩
def spLaw (K:PySem.W.Frag):Sp:=fun vs H Q _=> ∃ (a:Addr) (ns:List Int),vs=[.ref a]/\SqL K H a (ns.map V.int)/\ns.length<=63/\ ∀H',Q (.bl true) H'
theorem nB {K:PySem.W.Frag}{o:Wo}: ∀ns:List Int,Rvs K o (ns.map W.int) (ns.map V.int)
 |[]=>Rvs.nil
 |n::r=>Rvs.cons (rv_int.mpr rfl) (nB r)
theorem law_ok {P:Program}{w:World}{K:PySem.W.Frag}{mg:Str->Option Value}{base:Heap}{f:Addr}{fd:FuncData}(C:CG P w K mg base 13 "law" f fd ["script"] 1 lK):FnOk P w K mg base CX0 13 f fd ["script"] (spLaw K):=
 C.ok.imp fun vs H Q E h=>by
  obtain⟨a,ns,rfl,sq,hn,q⟩:=h
  have nl: ¬Lv ⟨fun _=>0,[],H⟩ a:=fun⟨k,b,hk,_⟩=>by simp at hk
  refine⟨⟨fun _=>0,[],H⟩,[.cl (ns.map W.int)],rfl,rfl,⟨fun k b hk=>by simp at hk,fun j k b c hj=>by simp at hj⟩,Rvs.cons ?_ Rvs.nil,?_⟩
  ·unfold Rv
   exact⟨a,_,rfl,sq.imp (fun r=>⟨r,nl⟩) id,nB ns⟩
  ·obtain⟨h',e⟩:=law_true ns []
   show Ps _ _ _ (lK [.cl (ns.map W.int)] []) Q
   rw[e]
   intro p b _ _ _ rb
   rw[rv_bl.mp rb]
   exact q _
theorem all_mk {l:PySem.W.OpenLaw}{w:World}{K:PySem.W.Frag}{h:Heap}{mg:Str->Option Value}{fa f1 f2 f3 f4 f5 f6 f7 f8 f9 f10 f11 f12 f13 f14 f15 f16 f17 f18 f19 f20 f21 f22 f23 f24 f25 f26 f27 f28 f29 f30 f31 f32 f33 f34 f35 f36 f37 f38 f39 c_Doing c_JUMPS c_STATEMENTS:Addr}(X:K.In h)(G:h.Ns mainGlobals mg)(hfa:mg "law"=some (.ref fa))
  {od1 an1 od2 an2 od3 an3 od4 an4 od5 an5 od6 an6 od7 an7 od8 an8 od9 an9 od10 an10 od11 an11 od12 an12 od13 an13 od14 an14 od15 an15 od16 an16 od17 an17 od18 an18 od19 an19 od20 an20 od21 an21 od22 an22 od23 an23 od24 an24 od25 an25 od26 an26 od27 an27 od28 an28 od29 an29 od30 an30 od31 an31 od32 an32 od33 an33 od34 an34 od35 an35 od36 an36 od37 an37 od38 an38 od39 an39:Option Addr}{sl1 sl2 sl3 sl4 sl5 sl6 sl7 sl8 sl9 sl10 sl11 sl12 sl13 sl14 sl15 sl16 sl17 sl18 sl19 sl20 sl21 sl22 sl23 sl24 sl25 sl26 sl27 sl28 sl29 sl30 sl31 sl32 sl33 sl34 sl35 sl36 sl37 sl38 sl39:Array (Option Value)}{oc1 kV1 dc1 pm1 cd1 ct1 oc2 kV2 dc2 pm2 cd2 ct2 oc3 kV3 dc3 pm3 cd3 ct3 oc4 kV4 dc4 pm4 cd4 ct4 oc5 kV5 dc5 pm5 cd5 ct5 oc6 kV6 dc6 pm6 cd6 ct6 oc7 kV7 dc7 pm7 cd7 ct7 oc8 kV8 dc8 pm8 cd8 ct8 oc9 kV9 dc9 pm9 cd9 ct9 oc10 kV10 dc10 pm10 cd10 ct10 oc11 kV11 dc11 pm11 cd11 ct11 oc12 kV12 dc12 pm12 cd12 ct12 oc13 kV13 dc13 pm13 cd13 ct13 oc14 kV14 dc14 pm14 cd14 ct14 oc15 kV15 dc15 pm15 cd15 ct15 oc16 kV16 dc16 pm16 cd16 ct16 oc17 kV17 dc17 pm17 cd17 ct17 oc18 kV18 dc18 pm18 cd18 ct18 oc19 kV19 dc19 pm19 cd19 ct19 oc20 kV20 dc20 pm20 cd20 ct20 oc21 kV21 dc21 pm21 cd21 ct21 oc22 kV22 dc22 pm22 cd22 ct22 oc23 kV23 dc23 pm23 cd23 ct23 oc24 kV24 dc24 pm24 cd24 ct24 oc25 kV25 dc25 pm25 cd25 ct25 oc26 kV26 dc26 pm26 cd26 ct26 oc27 kV27 dc27 pm27 cd27 ct27 oc28 kV28 dc28 pm28 cd28 ct28 oc29 kV29 dc29 pm29 cd29 ct29 oc30 kV30 dc30 pm30 cd30 ct30 oc31 kV31 dc31 pm31 cd31 ct31 oc32 kV32 dc32 pm32 cd32 ct32 oc33 kV33 dc33 pm33 cd33 ct33 oc34 kV34 dc34 pm34 cd34 ct34 oc35 kV35 dc35 pm35 cd35 ct35 oc36 kV36 dc36 pm36 cd36 ct36 oc37 kV37 dc37 pm37 cd37 ct37 oc38 kV38 dc38 pm38 cd38 ct38 oc39 kV39 dc39 pm39 cd39 ct39:Value}
  {od_JUMPS:Option Addr}{nn_JUMPS:Nat}{sl_JUMPS:Array (Option Value)}{tt_JUMPS_0 tt_JUMPS_1 tt_JUMPS_2:Tok}
  {od_STATEMENTS:Option Addr}{nn_STATEMENTS:Nat}{sl_STATEMENTS:Array (Option Value)}{tt_STATEMENTS_0 tt_STATEMENTS_1 tt_STATEMENTS_2:Tok}
  {t_BOX_RANGE:Tok}
  (n_Doing:nsIn K mainGlobals "Doing"=some (some (.ref c_Doing)))
  (a1:nsIn K mainGlobals "worth"=some (some (.ref f1)))
  (l1:K.lookup f1=some ⟨oc1,od1,.func (fnOf "worth" "worth" (aJ gU) (aH gU) (aq gU) .none kV1 dc1 pm1 an1 cd1 ct1),sl1⟩)
  (c1:codeIn K cd1 "worth"=true)
  (k1:keepIn K (.ref f1)=true)
  (a2:findIn K (.ref c_Doing) "__init__"=some (some (.ref f2)))
  (i2:isFn K (.ref f2)=true)
  (l2:K.lookup f2=some ⟨oc2,od2,.func (fnOf "__init__" "Doing.__init__" (aJ cb) (aH cb) (aq cb) .none kV2 dc2 pm2 an2 cd2 ct2),sl2⟩)
  (c2:codeIn K cd2 "Doing.__init__"=true)
  (k2:keepIn K (.ref f2)=true)
  (a3:findIn K (.ref c_Doing) "lacks_number"=some (some (.ref f3)))
  (i3:isFn K (.ref f3)=true)
  (l3:K.lookup f3=some ⟨oc3,od3,.func (fnOf "lacks_number" "Doing.lacks_number" (aJ bo) (aH bo) (aq bo) .none kV3 dc3 pm3 an3 cd3 ct3),sl3⟩)
  (c3:codeIn K cd3 "Doing.lacks_number"=true)
  (k3:keepIn K (.ref f3)=true)
  (a4:findIn K (.ref c_Doing) "do_statement"=some (some (.ref f4)))
  (i4:isFn K (.ref f4)=true)
  (l4:K.lookup f4=some ⟨oc4,od4,.func (fnOf "do_statement" "Doing.do_statement" (aJ bp) (aH bp) (aq bp) .none kV4 dc4 pm4 an4 cd4 ct4),sl4⟩)
  (c4:codeIn K cd4 "Doing.do_statement"=true)
  (k4:keepIn K (.ref f4)=true)
  (a5:findIn K (.ref c_Doing) "holds"=some (some (.ref f5)))
  (i5:isFn K (.ref f5)=true)
  (l5:K.lookup f5=some ⟨oc5,od5,.func (fnOf "holds" "Doing.holds" (aJ cQ) (aH cQ) (aq cQ) .none kV5 dc5 pm5 an5 cd5 ct5),sl5⟩)
  (c5:codeIn K cd5 "Doing.holds"=true)
  (k5:keepIn K (.ref f5)=true)
  (a6:findIn K (.ref c_Doing) "chosen"=some (some (.ref f6)))
  (i6:isFn K (.ref f6)=true)
  (l6:K.lookup f6=some ⟨oc6,od6,.func (fnOf "chosen" "Doing.chosen" (aJ cH) (aH cH) (aq cH) .none kV6 dc6 pm6 an6 cd6 ct6),sl6⟩)
  (c6:codeIn K cd6 "Doing.chosen"=true)
  (k6:keepIn K (.ref f6)=true)
  (a7:nsIn K mainGlobals "sides_of"=some (some (.ref f7)))
  (l7:K.lookup f7=some ⟨oc7,od7,.func (fnOf "sides_of" "sides_of" (aJ dY) (aH dY) (aq dY) .none kV7 dc7 pm7 an7 cd7 ct7),sl7⟩)
  (c7:codeIn K cd7 "sides_of"=true)
  (k7:keepIn K (.ref f7)=true)
  (a8:nsIn K mainGlobals "side_taken"=some (some (.ref f8)))
  (l8:K.lookup f8=some ⟨oc8,od8,.func (fnOf "side_taken" "side_taken" (aJ de) (aH de) (aq de) .none kV8 dc8 pm8 an8 cd8 ct8),sl8⟩)
  (c8:codeIn K cd8 "side_taken"=true)
  (k8:keepIn K (.ref f8)=true)
  (a9:nsIn K mainGlobals "do_statements"=some (some (.ref f9)))
  (l9:K.lookup f9=some ⟨oc9,od9,.func (fnOf "do_statements" "do_statements" (aJ cp) (aH cp) (aq cp) .none kV9 dc9 pm9 an9 cd9 ct9),sl9⟩)
  (c9:codeIn K cd9 "do_statements"=true)
  (k9:keepIn K (.ref f9)=true)
  (a10:nsIn K mainGlobals "run"=some (some (.ref f10)))
  (l10:K.lookup f10=some ⟨oc10,od10,.func (fnOf "run" "run" (aJ lx) (aH lx) (aq lx) .none kV10 dc10 pm10 an10 cd10 ct10),sl10⟩)
  (c10:codeIn K cd10 "run"=true)
  (k10:keepIn K (.ref f10)=true)
  (a11:nsIn K mainGlobals "ways"=some (some (.ref f11)))
  (l11:K.lookup f11=some ⟨oc11,od11,.func (fnOf "ways" "ways" (aJ iN) (aH iN) (aq iN) .none kV11 dc11 pm11 an11 cd11 ct11),sl11⟩)
  (c11:codeIn K cd11 "ways"=true)
  (k11:keepIn K (.ref f11)=true)
  (a12:nsIn K mainGlobals "counts"=some (some (.ref f12)))
  (l12:K.lookup f12=some ⟨oc12,od12,.func (fnOf "counts" "counts" (aJ fM) (aH fM) (aq fM) .none kV12 dc12 pm12 an12 cd12 ct12),sl12⟩)
  (c12:codeIn K cd12 "counts"=true)
  (k12:keepIn K (.ref f12)=true)
  (a13:nsIn K mainGlobals "row_gone_to"=some (some (.ref f13)))
  (l13:K.lookup f13=some ⟨oc13,od13,.func (fnOf "row_gone_to" "row_gone_to" (aJ cO) (aH cO) (aq cO) .none kV13 dc13 pm13 an13 cd13 ct13),sl13⟩)
  (c13:codeIn K cd13 "row_gone_to"=true)
  (k13:keepIn K (.ref f13)=true)
  (a14:nsIn K mainGlobals "run_rows"=some (some (.ref f14)))
  (l14:K.lookup f14=some ⟨oc14,od14,.func (fnOf "run_rows" "run_rows" (aJ dZ) (aH dZ) (aq dZ) .none kV14 dc14 pm14 an14 cd14 ct14),sl14⟩)
  (c14:codeIn K cd14 "run_rows"=true)
  (k14:keepIn K (.ref f14)=true)
  (a15:nsIn K mainGlobals "go_rows"=some (some (.ref f15)))
  (l15:K.lookup f15=some ⟨oc15,od15,.func (fnOf "go_rows" "go_rows" (aJ eY) (aH eY) (aq eY) .none kV15 dc15 pm15 an15 cd15 ct15),sl15⟩)
  (c15:codeIn K cd15 "go_rows"=true)
  (k15:keepIn K (.ref f15)=true)
  (a16:nsIn K mainGlobals "if_rows"=some (some (.ref f16)))
  (l16:K.lookup f16=some ⟨oc16,od16,.func (fnOf "if_rows" "if_rows" (aJ eX) (aH eX) (aq eX) .none kV16 dc16 pm16 an16 cd16 ct16),sl16⟩)
  (c16:codeIn K cd16 "if_rows"=true)
  (k16:keepIn K (.ref f16)=true)
  (a17:nsIn K mainGlobals "end_rows"=some (some (.ref f17)))
  (l17:K.lookup f17=some ⟨oc17,od17,.func (fnOf "end_rows" "end_rows" (aJ eg) (aH eg) (aq eg) .none kV17 dc17 pm17 an17 cd17 ct17),sl17⟩)
  (c17:codeIn K cd17 "end_rows"=true)
  (k17:keepIn K (.ref f17)=true)
  (a18:nsIn K mainGlobals "led_to_rows"=some (some (.ref f18)))
  (l18:K.lookup f18=some ⟨oc18,od18,.func (fnOf "led_to_rows" "led_to_rows" (aJ cz) (aH cz) (aq cz) .none kV18 dc18 pm18 an18 cd18 ct18),sl18⟩)
  (c18:codeIn K cd18 "led_to_rows"=true)
  (k18:keepIn K (.ref f18)=true)
  (a19:nsIn K mainGlobals "laid"=some (some (.ref f19)))
  (l19:K.lookup f19=some ⟨oc19,od19,.func (fnOf "laid" "laid" (aJ hU) (aH hU) (aq hU) .none kV19 dc19 pm19 an19 cd19 ct19),sl19⟩)
  (c19:codeIn K cd19 "laid"=true)
  (k19:keepIn K (.ref f19)=true)
  (a20:nsIn K mainGlobals "_law_cell_at"=some (some (.ref f20)))
  (l20:K.lookup f20=some ⟨oc20,od20,.func (fnOf "_law_cell_at" "_law_cell_at" (aJ cP) (aH cP) (aq cP) .none kV20 dc20 pm20 an20 cd20 ct20),sl20⟩)
  (c20:codeIn K cd20 "_law_cell_at"=true)
  (k20:keepIn K (.ref f20)=true)
  (a21:nsIn K mainGlobals "_law_reel"=some (some (.ref f21)))
  (l21:K.lookup f21=some ⟨oc21,od21,.func (fnOf "_law_reel" "_law_reel" (aJ d6) (aH d6) (aq d6) .none kV21 dc21 pm21 an21 cd21 ct21),sl21⟩)
  (c21:codeIn K cd21 "_law_reel"=true)
  (k21:keepIn K (.ref f21)=true)
  (a22:nsIn K mainGlobals "_law_take"=some (some (.ref f22)))
  (l22:K.lookup f22=some ⟨oc22,od22,.func (fnOf "_law_take" "_law_take" (aJ d5) (aH d5) (aq d5) .none kV22 dc22 pm22 an22 cd22 ct22),sl22⟩)
  (c22:codeIn K cd22 "_law_take"=true)
  (k22:keepIn K (.ref f22)=true)
  (a23:nsIn K mainGlobals "_law_names"=some (some (.ref f23)))
  (l23:K.lookup f23=some ⟨oc23,od23,.func (fnOf "_law_names" "_law_names" (aJ dI) (aH dI) (aq dI) .none kV23 dc23 pm23 an23 cd23 ct23),sl23⟩)
  (c23:codeIn K cd23 "_law_names"=true)
  (k23:keepIn K (.ref f23)=true)
  (a24:nsIn K mainGlobals "_law_leaf"=some (some (.ref f24)))
  (l24:K.lookup f24=some ⟨oc24,od24,.func (fnOf "_law_leaf" "_law_leaf" (aJ d8) (aH d8) (aq d8) .none kV24 dc24 pm24 an24 cd24 ct24),sl24⟩)
  (c24:codeIn K cd24 "_law_leaf"=true)
  (k24:keepIn K (.ref f24)=true)
  (a25:nsIn K mainGlobals "_law_tree"=some (some (.ref f25)))
  (l25:K.lookup f25=some ⟨oc25,od25,.func (fnOf "_law_tree" "_law_tree" (aJ d4) (aH d4) (aq d4) .none kV25 dc25 pm25 an25 cd25 ct25),sl25⟩)
  (c25:codeIn K cd25 "_law_tree"=true)
  (k25:keepIn K (.ref f25)=true)
  (a26:nsIn K mainGlobals "_law_statement"=some (some (.ref f26)))
  (l26:K.lookup f26=some ⟨oc26,od26,.func (fnOf "_law_statement" "_law_statement" (aJ ck) (aH ck) (aq ck) .none kV26 dc26 pm26 an26 cd26 ct26),sl26⟩)
  (c26:codeIn K cd26 "_law_statement"=true)
  (k26:keepIn K (.ref f26)=true)
  (a27:nsIn K mainGlobals "_law_if"=some (some (.ref f27)))
  (l27:K.lookup f27=some ⟨oc27,od27,.func (fnOf "_law_if" "_law_if" (aJ fL) (aH fL) (aq fL) .none kV27 dc27 pm27 an27 cd27 ct27),sl27⟩)
  (c27:codeIn K cd27 "_law_if"=true)
  (k27:keepIn K (.ref f27)=true)
  (a28:nsIn K mainGlobals "_law_end"=some (some (.ref f28)))
  (l28:K.lookup f28=some ⟨oc28,od28,.func (fnOf "_law_end" "_law_end" (aJ d9) (aH d9) (aq d9) .none kV28 dc28 pm28 an28 cd28 ct28),sl28⟩)
  (c28:codeIn K cd28 "_law_end"=true)
  (k28:keepIn K (.ref f28)=true)
  (a29:nsIn K mainGlobals "_law_number"=some (some (.ref f29)))
  (l29:K.lookup f29=some ⟨oc29,od29,.func (fnOf "_law_number" "_law_number" (aJ df) (aH df) (aq df) .none kV29 dc29 pm29 an29 cd29 ct29),sl29⟩)
  (c29:codeIn K cd29 "_law_number"=true)
  (k29:keepIn K (.ref f29)=true)
  (a30:nsIn K mainGlobals "_law_program"=some (some (.ref f30)))
  (l30:K.lookup f30=some ⟨oc30,od30,.func (fnOf "_law_program" "_law_program" (aJ cA) (aH cA) (aq cA) .none kV30 dc30 pm30 an30 cd30 ct30),sl30⟩)
  (c30:codeIn K cd30 "_law_program"=true)
  (k30:keepIn K (.ref f30)=true)
  (a31:nsIn K mainGlobals "_law_filled"=some (some (.ref f31)))
  (l31:K.lookup f31=some ⟨oc31,od31,.func (fnOf "_law_filled" "_law_filled" (aJ cr) (aH cr) (aq cr) .none kV31 dc31 pm31 an31 cd31 ct31),sl31⟩)
  (c31:codeIn K cd31 "_law_filled"=true)
  (k31:keepIn K (.ref f31)=true)
  (a32:nsIn K mainGlobals "_law_inputs"=some (some (.ref f32)))
  (l32:K.lookup f32=some ⟨oc32,od32,.func (fnOf "_law_inputs" "_law_inputs" (aJ dg) (aH dg) (aq dg) .none kV32 dc32 pm32 an32 cd32 ct32),sl32⟩)
  (c32:codeIn K cd32 "_law_inputs"=true)
  (k32:keepIn K (.ref f32)=true)
  (a33:nsIn K mainGlobals "_law_whole"=some (some (.ref f33)))
  (l33:K.lookup f33=some ⟨oc33,od33,.func (fnOf "_law_whole" "_law_whole" (aJ dG) (aH dG) (aq dG) .none kV33 dc33 pm33 an33 cd33 ct33),sl33⟩)
  (c33:codeIn K cd33 "_law_whole"=true)
  (k33:keepIn K (.ref f33)=true)
  (a34:nsIn K mainGlobals "_law_order"=some (some (.ref f34)))
  (l34:K.lookup f34=some ⟨oc34,od34,.func (fnOf "_law_order" "_law_order" (aJ cY) (aH cY) (aq cY) .none kV34 dc34 pm34 an34 cd34 ct34),sl34⟩)
  (c34:codeIn K cd34 "_law_order"=true)
  (k34:keepIn K (.ref f34)=true)
  (a35:nsIn K mainGlobals "_law_next"=some (some (.ref f35)))
  (l35:K.lookup f35=some ⟨oc35,od35,.func (fnOf "_law_next" "_law_next" (aJ d7) (aH d7) (aq d7) .none kV35 dc35 pm35 an35 cd35 ct35),sl35⟩)
  (c35:codeIn K cd35 "_law_next"=true)
  (k35:keepIn K (.ref f35)=true)
  (a36:nsIn K mainGlobals "_law_spent"=some (some (.ref f36)))
  (l36:K.lookup f36=some ⟨oc36,od36,.func (fnOf "_law_spent" "_law_spent" (aJ dH) (aH dH) (aq dH) .none kV36 dc36 pm36 an36 cd36 ct36),sl36⟩)
  (c36:codeIn K cd36 "_law_spent"=true)
  (k36:keepIn K (.ref f36)=true)
  (a37:nsIn K mainGlobals "_law_rows_done"=some (some (.ref f37)))
  (l37:K.lookup f37=some ⟨oc37,od37,.func (fnOf "_law_rows_done" "_law_rows_done" (aJ cn) (aH cn) (aq cn) .none kV37 dc37 pm37 an37 cd37 ct37),sl37⟩)
  (c37:codeIn K cd37 "_law_rows_done"=true)
  (k37:keepIn K (.ref f37)=true)
  (a38:nsIn K mainGlobals "_law_counted"=some (some (.ref f38)))
  (l38:K.lookup f38=some ⟨oc38,od38,.func (fnOf "_law_counted" "_law_counted" (aJ cB) (aH cB) (aq cB) .none kV38 dc38 pm38 an38 cd38 ct38),sl38⟩)
  (c38:codeIn K cd38 "_law_counted"=true)
  (k38:keepIn K (.ref f38)=true)
  (a39:nsIn K mainGlobals "law"=some (some (.ref f39)))
  (l39:K.lookup f39=some ⟨oc39,od39,.func (fnOf "law" "law" (aJ io) (aH io) (aq io) .none kV39 dc39 pm39 an39 cd39 ct39),sl39⟩)
  (c39:codeIn K cd39 "law"=true)
  (k39:keepIn K (.ref f39)=true)
  (pg_Doing:plainGet K c_Doing Str.empty=true)
  (hd_Doing:PySem.W.hasDictIn K c_Doing=true)
  (po_Doing:PySem.W.plainOver K c_Doing=true)
  (sa_Doing:findIn K (.ref c_Doing) "__setattr__"=some (some (.builtin "object.__setattr__")))
  (mk_Doing:PySem.W.makesIn K c_Doing=true)
  (kc_Doing:keepIn K (.ref c_Doing)=true)
  (na_Doing_held:findIn K (.ref c_Doing) "held"=some none)
  (na_Doing_numbers:findIn K (.ref c_Doing) "numbers"=some none)
  (na_Doing_said:findIn K (.ref c_Doing) "said"=some none)
  (na_Doing_taken:findIn K (.ref c_Doing) "taken"=some none)
  (g_JUMPS:nsIn K mainGlobals "JUMPS"=some (some (.ref c_JUMPS)))
  (l_JUMPS:K.lookup c_JUMPS=some ⟨.type "tuple",od_JUMPS,.seq #[.str "jump" tt_JUMPS_0,.str "when" tt_JUMPS_1,.str "unless" tt_JUMPS_2] nn_JUMPS,sl_JUMPS⟩)
  (g_STATEMENTS:nsIn K mainGlobals "STATEMENTS"=some (some (.ref c_STATEMENTS)))
  (l_STATEMENTS:K.lookup c_STATEMENTS=some ⟨.type "tuple",od_STATEMENTS,.seq #[.str "put" tt_STATEMENTS_0,.str "say" tt_STATEMENTS_1,.str "ask" tt_STATEMENTS_2] nn_STATEMENTS,sl_STATEMENTS⟩)
  (h_BOX_RANGE:nsIn K mainGlobals "BOX_RANGE"=some (some (.int 1000000 t_BOX_RANGE)))
  (z_abs:nsIn K mainGlobals "abs"=some none)
  (z_bool:nsIn K mainGlobals "bool"=some none)
  (z_dict:nsIn K mainGlobals "dict"=some none)
  (z_enumerate:nsIn K mainGlobals "enumerate"=some none)
  (z_int:nsIn K mainGlobals "int"=some none)
  (z_isinstance:nsIn K mainGlobals "isinstance"=some none)
  (z_len:nsIn K mainGlobals "len"=some none)
  (z_list:nsIn K mainGlobals "list"=some none)
  (z_max:nsIn K mainGlobals "max"=some none)
  (z_min:nsIn K mainGlobals "min"=some none)
  (z_range:nsIn K mainGlobals "range"=some none)
  (z_tuple:nsIn K mainGlobals "tuple"=some none)
  (z_zip:nsIn K mainGlobals "zip"=some none):
  ∃fd:FuncData,(∀ (s:Shared) (v:Value),BindsTo s fd ⟨[v],[]⟩ [("script",v)])/\ ∀base:Heap,K.In base->base.Ns mainGlobals mg->FnOk l.prog w K mg base CX0 13 fa fd ["script"] (spLaw K):=by
 have e:=hfa.symm.trans (mg_of X G a39)
 cases e
 have y_abs:=mg_none_of X G z_abs
 have y_bool:=mg_none_of X G z_bool
 have y_dict:=mg_none_of X G z_dict
 have y_enumerate:=mg_none_of X G z_enumerate
 have y_int:=mg_none_of X G z_int
 have y_isinstance:=mg_none_of X G z_isinstance
 have y_len:=mg_none_of X G z_len
 have y_list:=mg_none_of X G z_list
 have y_max:=mg_none_of X G z_max
 have y_min:=mg_none_of X G z_min
 have y_range:=mg_none_of X G z_range
 have y_tuple:=mg_none_of X G z_tuple
 have y_zip:=mg_none_of X G z_zip
 have cl_Doing:Cls K c_Doing:=⟨pg_Doing,hd_Doing,po_Doing,sa_Doing⟩
 have m_Doing:=mg_of X G n_Doing
 have m_JUMPS:=mg_of X G g_JUMPS
 have q_JUMPS: ∀H,SqT K H c_JUMPS ((["jump", "when", "unless"]:List Str).map V.str):=fun H=>.inr ⟨_,_,_,l_JUMPS,rfl,rfl,by show 3<=sizeLine;decide,.cons ⟨_,rfl⟩ (.cons ⟨_,rfl⟩ (.cons ⟨_,rfl⟩ (.nil)))⟩
 have m_STATEMENTS:=mg_of X G g_STATEMENTS
 have q_STATEMENTS: ∀H,SqT K H c_STATEMENTS ((["put", "say", "ask"]:List Str).map V.str):=fun H=>.inr ⟨_,_,_,l_STATEMENTS,rfl,rfl,by show 3<=sizeLine;decide,.cons ⟨_,rfl⟩ (.cons ⟨_,rfl⟩ (.cons ⟨_,rfl⟩ (.nil)))⟩
 have c_BOX_RANGE:=mg_of X G h_BOX_RANGE
 have F1:=aT (st:=gU) l1 c1 k1
 have b1:=F1.binds (ps:=["e", "values"]) fun _ _ _ _ _ _ us hl=>by obtain⟨_,_,rfl⟩:=ln2 hl;rfl
 have m1:=mg_of X G a1
 have F2:=aT (st:=cb) l2 c2 k2
 have b2:=F2.binds (ps:=["self", "boxes", "numbers"]) fun _ _ _ _ _ _ us hl=>by obtain⟨_,_,_,rfl⟩:=ln3 hl;rfl
 have F3:=aT (st:=bo) l3 c3 k3
 have b3:=F3.binds (ps:=["self", "row"]) fun _ _ _ _ _ _ us hl=>by obtain⟨_,_,rfl⟩:=ln2 hl;rfl
 have F4:=aT (st:=bp) l4 c4 k4
 have b4:=F4.binds (ps:=["self", "statement"]) fun _ _ _ _ _ _ us hl=>by obtain⟨_,_,rfl⟩:=ln2 hl;rfl
 have F5:=aT (st:=cQ) l5 c5 k5
 have b5:=F5.binds (ps:=["self", "sign", "left", "right"]) fun _ _ _ _ _ _ us hl=>by obtain⟨_,_,_,_,rfl⟩:=ln4 hl;rfl
 have F6:=aT (st:=cH) l6 c6 k6
 have b6:=F6.binds (ps:=["self", "e", "many"]) fun _ _ _ _ _ _ us hl=>by obtain⟨_,_,_,rfl⟩:=ln3 hl;rfl
 have F7:=aT (st:=dY) l7 c7 k7
 have b7:=F7.binds (ps:=["end"]) fun _ _ _ _ _ _ us hl=>by obtain⟨_,rfl⟩:=ln1 hl;rfl
 have m7:=mg_of X G a7
 have F8:=aT (st:=de) l8 c8 k8
 have b8:=F8.binds (ps:=["doing", "end"]) fun _ _ _ _ _ _ us hl=>by obtain⟨_,_,rfl⟩:=ln2 hl;rfl
 have m8:=mg_of X G a8
 have F9:=aT (st:=cp) l9 c9 k9
 have b9:=F9.binds (ps:=["doing", "statements"]) fun _ _ _ _ _ _ us hl=>by obtain⟨_,_,rfl⟩:=ln2 hl;rfl
 have m9:=mg_of X G a9
 have F10:=aT (st:=lx) l10 c10 k10
 have b10:=F10.binds (ps:=["program", "numbers", "bound"]) fun _ _ _ _ _ _ us hl=>by obtain⟨_,_,_,rfl⟩:=ln3 hl;rfl
 have m10:=mg_of X G a10
 have F11:=aT (st:=iN) l11 c11 k11
 have b11:=F11.binds (ps:=["program"]) fun _ _ _ _ _ _ us hl=>by obtain⟨_,rfl⟩:=ln1 hl;rfl
 have m11:=mg_of X G a11
 have F12:=aT (st:=fM) l12 c12 k12
 have b12:=F12.binds (ps:=["program", "inputs", "bound"]) fun _ _ _ _ _ _ us hl=>by obtain⟨_,_,_,rfl⟩:=ln3 hl;rfl
 have m12:=mg_of X G a12
 have F13:=aT (st:=cO) l13 c13 k13
 have b13:=F13.binds (ps:=["doing", "row"]) fun _ _ _ _ _ _ us hl=>by obtain⟨_,_,rfl⟩:=ln2 hl;rfl
 have m13:=mg_of X G a13
 have F14:=aT (st:=dZ) l14 c14 k14
 have b14:=F14.binds (ps:=["boxes", "rows", "numbers", "bound"]) fun _ _ _ _ _ _ us hl=>by obtain⟨_,_,_,_,rfl⟩:=ln4 hl;rfl
 have m14:=mg_of X G a14
 have F15:=aT (st:=eY) l15 c15 k15
 have b15:=F15.binds (ps:=["to", "behind"]) fun _ _ _ _ _ _ us hl=>by obtain⟨_,_,rfl⟩:=ln2 hl;rfl
 have m15:=mg_of X G a15
 have F16:=aT (st:=eX) l16 c16 k16
 have b16:=F16.binds (ps:=["end", "behind"]) fun _ _ _ _ _ _ us hl=>by obtain⟨_,_,rfl⟩:=ln2 hl;rfl
 have m16:=mg_of X G a16
 have F17:=aT (st:=eg) l17 c17 k17
 have b17:=F17.binds (ps:=["end", "behind"]) fun _ _ _ _ _ _ us hl=>by obtain⟨_,_,rfl⟩:=ln2 hl;rfl
 have m17:=mg_of X G a17
 have F18:=aT (st:=cz) l18 c18 k18
 have b18:=F18.binds (ps:=["row", "begins"]) fun _ _ _ _ _ _ us hl=>by obtain⟨_,_,rfl⟩:=ln2 hl;rfl
 have m18:=mg_of X G a18
 have F19:=aT (st:=hU) l19 c19 k19
 have b19:=F19.binds (ps:=["program", "order"]) fun _ _ _ _ _ _ us hl=>by obtain⟨_,_,rfl⟩:=ln2 hl;rfl
 have m19:=mg_of X G a19
 have F20:=aT (st:=cP) l20 c20 k20
 have b20:=F20.binds (ps:=["script", "k"]) fun _ _ _ _ _ _ us hl=>by obtain⟨_,_,rfl⟩:=ln2 hl;rfl
 have m20:=mg_of X G a20
 have F21:=aT (st:=d6) l21 c21 k21
 have b21:=F21.binds (ps:=["cell"]) fun _ _ _ _ _ _ us hl=>by obtain⟨_,rfl⟩:=ln1 hl;rfl
 have m21:=mg_of X G a21
 have F22:=aT (st:=d5) l22 c22 k22
 have b22:=F22.binds (ps:=["reel", "many"]) fun _ _ _ _ _ _ us hl=>by obtain⟨_,_,rfl⟩:=ln2 hl;rfl
 have m22:=mg_of X G a22
 have F23:=aT (st:=dI) l23 c23 k23
 have b23:=F23.binds (ps:=["reel", "many"]) fun _ _ _ _ _ _ us hl=>by obtain⟨_,_,rfl⟩:=ln2 hl;rfl
 have m23:=mg_of X G a23
 have F24:=aT (st:=d8) l24 c24 k24
 have b24:=F24.binds (ps:=["reel", "boxes"]) fun _ _ _ _ _ _ us hl=>by obtain⟨_,_,rfl⟩:=ln2 hl;rfl
 have m24:=mg_of X G a24
 have F25:=aT (st:=d4) l25 c25 k25
 have b25:=F25.binds (ps:=["reel", "boxes", "leaves"]) fun _ _ _ _ _ _ us hl=>by obtain⟨_,_,_,rfl⟩:=ln3 hl;rfl
 have m25:=mg_of X G a25
 have F26:=aT (st:=ck) l26 c26 k26
 have b26:=F26.binds (ps:=["reel", "boxes"]) fun _ _ _ _ _ _ us hl=>by obtain⟨_,_,rfl⟩:=ln2 hl;rfl
 have m26:=mg_of X G a26
 have F27:=aT (st:=fL) l27 c27 k27
 have b27:=F27.binds (ps:=["reel", "boxes", "x", "y"]) fun _ _ _ _ _ _ us hl=>by obtain⟨_,_,_,_,rfl⟩:=ln4 hl;rfl
 have m27:=mg_of X G a27
 have F28:=aT (st:=d9) l28 c28 k28
 have b28:=F28.binds (ps:=["reel", "boxes", "many"]) fun _ _ _ _ _ _ us hl=>by obtain⟨_,_,_,rfl⟩:=ln3 hl;rfl
 have m28:=mg_of X G a28
 have F29:=aT (st:=df) l29 c29 k29
 have b29:=F29.binds (ps:=["reel"]) fun _ _ _ _ _ _ us hl=>by obtain⟨_,rfl⟩:=ln1 hl;rfl
 have m29:=mg_of X G a29
 have F30:=aT (st:=cA) l30 c30 k30
 have b30:=F30.binds (ps:=["script"]) fun _ _ _ _ _ _ us hl=>by obtain⟨_,rfl⟩:=ln1 hl;rfl
 have m30:=mg_of X G a30
 have F31:=aT (st:=cr) l31 c31 k31
 have b31:=F31.binds (ps:=["script", "program"]) fun _ _ _ _ _ _ us hl=>by obtain⟨_,_,rfl⟩:=ln2 hl;rfl
 have m31:=mg_of X G a31
 have F32:=aT (st:=dg) l32 c32 k32
 have b32:=F32.binds (ps:=["reel", "numbers"]) fun _ _ _ _ _ _ us hl=>by obtain⟨_,_,rfl⟩:=ln2 hl;rfl
 have m32:=mg_of X G a32
 have F33:=aT (st:=dG) l33 c33 k33
 have b33:=F33.binds (ps:=["found"]) fun _ _ _ _ _ _ us hl=>by obtain⟨_,rfl⟩:=ln1 hl;rfl
 have m33:=mg_of X G a33
 have F34:=aT (st:=cY) l34 c34 k34
 have b34:=F34.binds (ps:=["reel", "many"]) fun _ _ _ _ _ _ us hl=>by obtain⟨_,_,rfl⟩:=ln2 hl;rfl
 have m34:=mg_of X G a34
 have F35:=aT (st:=d7) l35 c35 k35
 have b35:=F35.binds (ps:=["order", "block"]) fun _ _ _ _ _ _ us hl=>by obtain⟨_,_,rfl⟩:=ln2 hl;rfl
 have m35:=mg_of X G a35
 have F36:=aT (st:=dH) l36 c36 k36
 have b36:=F36.binds (ps:=["blocks", "order", "block", "side", "to"]) fun _ _ _ _ _ _ us hl=>by obtain⟨_,_,_,_,_,rfl⟩:=ln5 hl;rfl
 have m36:=mg_of X G a36
 have F37:=aT (st:=cn) l37 c37 k37
 have b37:=F37.binds (ps:=["program", "order", "found", "bound"]) fun _ _ _ _ _ _ us hl=>by obtain⟨_,_,_,_,rfl⟩:=ln4 hl;rfl
 have m37:=mg_of X G a37
 have F38:=aT (st:=cB) l38 c38 k38
 have b38:=F38.binds (ps:=["program", "order", "inputs", "bound"]) fun _ _ _ _ _ _ us hl=>by obtain⟨_,_,_,_,rfl⟩:=ln4 hl;rfl
 have m38:=mg_of X G a38
 have F39:=aT (st:=io) l39 c39 k39
 have b39:=F39.binds (ps:=["script"]) fun _ _ _ _ _ _ us hl=>by obtain⟨_,rfl⟩:=ln1 hl;rfl
 have m39:=mg_of X G a39
 refine⟨fnOf "law" "law" (aJ io) (aH io) (aq io) .none kV39 dc39 pm39 an39 cd39 ct39,fun s v=>.of_eq rfl,fun base _ _=>?_⟩
 have M_Doing:Mk K c_Doing f2:=⟨mk_Doing,a2,i2,kc_Doing⟩
 have C_worth:=nK (P:=l.prog) (w:=w) (K:=K) (mg:=mg) (base:=base) F1 b1 m1 6
 have C_Doing___init__:=iu (P:=l.prog) (w:=w) (K:=K) (mg:=mg) (base:=base) y_dict y_list n_Doing cl_Doing na_Doing_held na_Doing_numbers na_Doing_said na_Doing_taken F2 b2 ⟨a2,i2,k2⟩
 have C_Doing_lacks_number:=gD (P:=l.prog) (w:=w) (K:=K) (mg:=mg) (base:=base) y_len n_Doing cl_Doing na_Doing_numbers na_Doing_taken F3 b3 ⟨a3,i3,k3⟩
 have C_Doing_do_statement:=gE (P:=l.prog) (w:=w) (K:=K) (mg:=mg) (base:=base) c_BOX_RANGE n_Doing cl_Doing na_Doing_held na_Doing_numbers na_Doing_said na_Doing_taken C_worth F4 b4 ⟨a4,i4,k4⟩
 have C_Doing_holds:=kd (P:=l.prog) (w:=w) (K:=K) (mg:=mg) (base:=base) n_Doing cl_Doing na_Doing_held C_worth F5 b5 ⟨a5,i5,k5⟩
 have C_Doing_chosen:=jq (P:=l.prog) (w:=w) (K:=K) (mg:=mg) (base:=base) n_Doing cl_Doing na_Doing_held C_worth F6 b6 ⟨a6,i6,k6⟩
 have C_sides_of:=nL (P:=l.prog) (w:=w) (K:=K) (mg:=mg) (base:=base) F7 b7 m7
 have C_side_taken:=kQ (P:=l.prog) (w:=w) (K:=K) (mg:=mg) (base:=base) y_len n_Doing cl_Doing C_Doing_holds C_Doing_chosen F8 b8 m8
 have C_do_statements:=iV (P:=l.prog) (w:=w) (K:=K) (mg:=mg) (base:=base) n_Doing cl_Doing C_Doing_lacks_number C_Doing_do_statement F9 b9 m9
 have C_run:=xZ (P:=l.prog) (w:=w) (K:=K) (mg:=mg) (base:=base) y_len n_Doing cl_Doing na_Doing_said m_Doing M_Doing C_Doing___init__ C_do_statements C_side_taken C_sides_of F10 b10 m10
 have C_ways:=vM (P:=l.prog) (w:=w) (K:=K) (mg:=mg) (base:=base) y_enumerate C_sides_of F11 b11 m11
 have C_counts:=qM (P:=l.prog) (w:=w) (K:=K) (mg:=mg) (base:=base) y_list C_ways C_run F12 b12 m12
 have C_row_gone_to:=j6 (P:=l.prog) (w:=w) (K:=K) (mg:=mg) (base:=base) y_len n_Doing cl_Doing C_Doing_holds C_Doing_chosen F13 b13 m13
 have C_run_rows:=nM (P:=l.prog) (w:=w) (K:=K) (mg:=mg) (base:=base) m_STATEMENTS q_STATEMENTS n_Doing cl_Doing na_Doing_said m_Doing M_Doing C_Doing___init__ C_Doing_lacks_number C_Doing_do_statement C_row_gone_to F14 b14 m14
 have C_go_rows:=oW (P:=l.prog) (w:=w) (K:=K) (mg:=mg) (base:=base) F15 b15 m15
 have C_if_rows:=oV (P:=l.prog) (w:=w) (K:=K) (mg:=mg) (base:=base) C_go_rows F16 b16 m16
 have C_end_rows:=nS (P:=l.prog) (w:=w) (K:=K) (mg:=mg) (base:=base) C_go_rows C_if_rows F17 b17 m17
 have C_led_to_rows:=j8 (P:=l.prog) (w:=w) (K:=K) (mg:=mg) (base:=base) y_tuple m_JUMPS q_JUMPS F18 b18 m18
 have C_laid:=vO (P:=l.prog) (w:=w) (K:=K) (mg:=mg) (base:=base) y_len y_zip C_end_rows C_led_to_rows F19 b19 m19
 have C_law_cell_at:=kc (P:=l.prog) (w:=w) (K:=K) (mg:=mg) (base:=base) y_len F20 b20 m20
 have C_law_reel:=nP (P:=l.prog) (w:=w) (K:=K) (mg:=mg) (base:=base) y_abs F21 b21 m21
 have C_law_take:=nO (P:=l.prog) (w:=w) (K:=K) (mg:=mg) (base:=base) F22 b22 m22
 have C_law_names:=mo (P:=l.prog) (w:=w) (K:=K) (mg:=mg) (base:=base) y_len y_max y_range C_law_take F23 b23 m23
 have C_law_leaf:=nR (P:=l.prog) (w:=w) (K:=K) (mg:=mg) (base:=base) y_len C_law_take F24 b24 m24
 have C_law_tree:=ji (P:=l.prog) (w:=w) (K:=K) (mg:=mg) (base:=base) C_law_leaf C_law_take F25 b25 m25 6
 have C_law_statement:=iT (P:=l.prog) (w:=w) (K:=K) (mg:=mg) (base:=base) y_len C_law_take C_law_tree F26 b26 m26
 have C_law_if:=qL (P:=l.prog) (w:=w) (K:=K) (mg:=mg) (base:=base) C_law_take C_law_tree F27 b27 m27
 have C_law_end:=oS (P:=l.prog) (w:=w) (K:=K) (mg:=mg) (base:=base) y_range y_tuple C_law_take C_law_if C_law_tree F28 b28 m28
 have C_law_number:=kR (P:=l.prog) (w:=w) (K:=K) (mg:=mg) (base:=base) C_law_take F29 b29 m29
 have C_law_program:=j9 (P:=l.prog) (w:=w) (K:=K) (mg:=mg) (base:=base) y_range C_law_names C_law_reel C_law_cell_at C_law_take C_law_end C_law_statement F30 b30 m30
 have C_law_filled:=kU (P:=l.prog) (w:=w) (K:=K) (mg:=mg) (base:=base) y_len y_range C_law_reel C_law_cell_at C_law_take C_law_statement C_law_number F31 b31 m31
 have C_law_inputs:=kT (P:=l.prog) (w:=w) (K:=K) (mg:=mg) (base:=base) y_len y_list y_min y_range C_law_take F32 b32 m32
 have C_law_whole:=mi (P:=l.prog) (w:=w) (K:=K) (mg:=mg) (base:=base) y_bool y_int y_isinstance F33 b33 m33
 have C_law_order:=mn (P:=l.prog) (w:=w) (K:=K) (mg:=mg) (base:=base) y_len y_range y_tuple C_law_take F34 b34 m34
 have C_law_next:=nQ (P:=l.prog) (w:=w) (K:=K) (mg:=mg) (base:=base) y_len y_range F35 b35 m35
 have C_law_spent:=mj (P:=l.prog) (w:=w) (K:=K) (mg:=mg) (base:=base) y_int C_law_next F36 b36 m36
 have C_law_rows_done:=iU (P:=l.prog) (w:=w) (K:=K) (mg:=mg) (base:=base) y_len C_law_spent F37 b37 m37
 have C_law_counted:=ka (P:=l.prog) (w:=w) (K:=K) (mg:=mg) (base:=base) y_len y_list y_range C_ways C_counts C_law_next F38 b38 m38
 have C_law:=ya (P:=l.prog) (w:=w) (K:=K) (mg:=mg) (base:=base) y_len y_list C_law_program C_law_filled C_law_reel C_law_cell_at C_law_take C_law_inputs C_law_order C_laid C_law_rows_done C_run C_run_rows C_law_whole C_law_counted F39 b39 m39
 exact law_ok C_law
theorem walk {l:PySem.W.OpenLaw}{q:Program}{loose:List Str}{XP:(Str->Option Value)->Heap->Prop}{YP:World->Heap->Prop}{d:DefRec}{K:Params->PySem.W.Frag}(hn:l.most=some 63)(hdf:d.params.defaults=[])
  (hY: ∀ (w:World) (h:Heap),YP w h->(K w.params).In h)
  (F:∀ (w:World) (mg:Str->Option Value) (fa:Addr) (h:Heap),(K w.params).In h->h.Ns mainGlobals mg->mg d.name=some (.ref fa)->
    ∃fd:FuncData,(∀ (s:Shared) (u:Value),BindsTo s fd ⟨[u],[]⟩ [("script",u)])/\ ∀base:Heap,(K w.params).In base->base.Ns mainGlobals mg->FnOk l.prog w (K w.params) mg base CX0 13 fa fd ["script"] (spLaw (K w.params))):
  PySem.W.WalkO q loose XP YP l.row.toRowW d [] (fun f vs=>PySem.call f vs):=
 L2.walk_of (n:=63) (k:=13) (x:= "script") (CX:=fun _=>CX0) (sp:=fun w=>spLaw (K w.params)) hn (by decide) hdf ⟨rfl,by decide,by decide⟩ hY F (fun _ _ a ns hl _ hS=>⟨a,ns,rfl,hS,hl,fun _=>rfl⟩) fun _ _ _ _ _ z=>z
theorem walk_x {q:Program}{loose:List Str}{XP:(Str->Option Value)->Heap->Prop}{K:Params->PySem.W.Frag}{as:List Addr}{n t:Nat}{r:PySem.W.RowW}{d:DefRec}{kwd:List (Str×Expr)}{run:Value->List Value->Sem Value}(e:∀P,as=(K P).map (·.1))
  (W:PySem.W.WalkO q loose XP (fun w h=>(K w.params).In h) r d kwd run):PySem.W.WalkX q loose XP (PySem.W.X.obsZ as) (PySem.W.X.valZ K n t) r d kwd run:=
 fun w s₀ s₁ mg mb G y a o pm cd doc dV kV ho hd hcd hD hmg hg args vals bs L hpre hlay hrd hwl hlo=>
  W w s₀ s₁ mg mb G (PySem.W.InK.keeps w _ _ (PySem.W.X.z_facts e y).2.1 L.keeps) a o pm cd doc dV kV ho hd hcd hD hmg hg args vals bs hpre hlay hrd hwl hlo
end Q
def PySem.W.Fast.tw16814291396851155126:=0
def PySem.W.Fast.tw762851368344925327:=0
def PySem.W.Fast.tw11847544767422165932:=0
def PySem.W.Fast.tw13028816831326096153:=0
def PySem.W.Fast.tw13862279504873133387:=0
def PySem.W.Fast.tw15007558170349504371:=0
def PySem.W.Fast.tw18319489620819690370:=0
def PySem.W.Fast.tw18386678947433563238:=0
def PySem.W.Fast.tw5705629978158436748:=0
def PySem.W.Fast.tw17162749930644299484:=0
def PySem.W.Fast.tw15489625686988385974:=0
def PySem.W.Fast.tw527619567179125573:=0
def PySem.W.Fast.tw10694786341330318813:=0
def PySem.W.Fast.tw1485009937192954144:=0
def PySem.W.Fast.tw12421438351186531460:=0
def PySem.W.Fast.tw11381510819057611433:=0
def PySem.W.Fast.tw18049976650458358566:=0
def PySem.W.Fast.tw17644739641246377855:=0
def PySem.W.Fast.tw11752295737296968253:=0
def PySem.W.Fast.tw12600550890996223109:=0
def PySem.W.Fast.tw10836092393113979844:=0
def PySem.W.Fast.tw141970055393299895:=0
def PySem.W.Fast.tw15639247086411298462:=0
def PySem.W.Fast.tw12103069538598470811:=0
def PySem.W.Fast.tw3803562234349170037:=0
def PySem.W.Fast.tw12889159773121846378:=0
def PySem.W.Fast.tw8407877792508055462:=0
def PySem.W.Fast.tw3712429448879734690:=0
def PySem.W.Fast.tw4749862802998976825:=0
def PySem.W.Fast.tw2851919274265471504:=0
open PySem PySem.W PyProof.Rows
set_option maxRecDepth 100000 in
set_option maxHeartbeats 0 in
theorem PySem.Challenge.cw_blockfall_k22_whole_jumps_by_counts_holds : PySem.Challenge.rw_blockfall_k22_whole_jumps_by_counts.Holds := by
 w_on;o_law;z_head;(case hw=>w_witness2)
 k_fill
 refine Q.walk_x (fun _=>by kernel_rfl) (Q.walk (l:=PySem.Challenge.rw_blockfall_k22_whole_jumps_by_counts) rfl rfl (fun w h Y=>Y) ?F)
 case F=>
  intro w mg fa h KX G hmg
  refine' Q.all_mk KX G hmg ?n_Doing ?a1 ?l1 ?c1 ?k1 ?a2 ?i2 ?l2 ?c2 ?k2 ?a3 ?i3 ?l3 ?c3 ?k3 ?a4 ?i4 ?l4 ?c4 ?k4 ?a5 ?i5 ?l5 ?c5 ?k5 ?a6 ?i6 ?l6 ?c6 ?k6 ?a7 ?l7 ?c7 ?k7 ?a8 ?l8 ?c8 ?k8 ?a9 ?l9 ?c9 ?k9 ?a10 ?l10 ?c10 ?k10 ?a11 ?l11 ?c11 ?k11 ?a12 ?l12 ?c12 ?k12 ?a13 ?l13 ?c13 ?k13 ?a14 ?l14 ?c14 ?k14 ?a15 ?l15 ?c15 ?k15 ?a16 ?l16 ?c16 ?k16 ?a17 ?l17 ?c17 ?k17 ?a18 ?l18 ?c18 ?k18 ?a19 ?l19 ?c19 ?k19 ?a20 ?l20 ?c20 ?k20 ?a21 ?l21 ?c21 ?k21 ?a22 ?l22 ?c22 ?k22 ?a23 ?l23 ?c23 ?k23 ?a24 ?l24 ?c24 ?k24 ?a25 ?l25 ?c25 ?k25 ?a26 ?l26 ?c26 ?k26 ?a27 ?l27 ?c27 ?k27 ?a28 ?l28 ?c28 ?k28 ?a29 ?l29 ?c29 ?k29 ?a30 ?l30 ?c30 ?k30 ?a31 ?l31 ?c31 ?k31 ?a32 ?l32 ?c32 ?k32 ?a33 ?l33 ?c33 ?k33 ?a34 ?l34 ?c34 ?k34 ?a35 ?l35 ?c35 ?k35 ?a36 ?l36 ?c36 ?k36 ?a37 ?l37 ?c37 ?k37 ?a38 ?l38 ?c38 ?k38 ?a39 ?l39 ?c39 ?k39 ?pg_Doing ?hd_Doing ?po_Doing ?sa_Doing ?mk_Doing ?kc_Doing ?na_Doing_held ?na_Doing_numbers ?na_Doing_said ?na_Doing_taken ?g_JUMPS ?l_JUMPS ?g_STATEMENTS ?l_STATEMENTS ?h_BOX_RANGE ?z_abs ?z_bool ?z_dict ?z_enumerate ?z_int ?z_isinstance ?z_len ?z_list ?z_max ?z_min ?z_range ?z_tuple ?z_zip
  (case n_Doing=>k_is)
  (case a1=>k_is)
  (case l1=>k_is)
  (case c1=>k_is)
  (case k1=>k_is)
  (case a2=>k_is)
  (case i2=>k_is)
  (case l2=>k_is)
  (case c2=>k_is)
  (case k2=>k_is)
  (case a3=>k_is)
  (case i3=>k_is)
  (case l3=>k_is)
  (case c3=>k_is)
  (case k3=>k_is)
  (case a4=>k_is)
  (case i4=>k_is)
  (case l4=>k_is)
  (case c4=>k_is)
  (case k4=>k_is)
  (case a5=>k_is)
  (case i5=>k_is)
  (case l5=>k_is)
  (case c5=>k_is)
  (case k5=>k_is)
  (case a6=>k_is)
  (case i6=>k_is)
  (case l6=>k_is)
  (case c6=>k_is)
  (case k6=>k_is)
  (case a7=>k_is)
  (case l7=>k_is)
  (case c7=>k_is)
  (case k7=>k_is)
  (case a8=>k_is)
  (case l8=>k_is)
  (case c8=>k_is)
  (case k8=>k_is)
  (case a9=>k_is)
  (case l9=>k_is)
  (case c9=>k_is)
  (case k9=>k_is)
  (case a10=>k_is)
  (case l10=>k_is)
  (case c10=>k_is)
  (case k10=>k_is)
  (case a11=>k_is)
  (case l11=>k_is)
  (case c11=>k_is)
  (case k11=>k_is)
  (case a12=>k_is)
  (case l12=>k_is)
  (case c12=>k_is)
  (case k12=>k_is)
  (case a13=>k_is)
  (case l13=>k_is)
  (case c13=>k_is)
  (case k13=>k_is)
  (case a14=>k_is)
  (case l14=>k_is)
  (case c14=>k_is)
  (case k14=>k_is)
  (case a15=>k_is)
  (case l15=>k_is)
  (case c15=>k_is)
  (case k15=>k_is)
  (case a16=>k_is)
  (case l16=>k_is)
  (case c16=>k_is)
  (case k16=>k_is)
  (case a17=>k_is)
  (case l17=>k_is)
  (case c17=>k_is)
  (case k17=>k_is)
  (case a18=>k_is)
  (case l18=>k_is)
  (case c18=>k_is)
  (case k18=>k_is)
  (case a19=>k_is)
  (case l19=>k_is)
  (case c19=>k_is)
  (case k19=>k_is)
  (case a20=>k_is)
  (case l20=>k_is)
  (case c20=>k_is)
  (case k20=>k_is)
  (case a21=>k_is)
  (case l21=>k_is)
  (case c21=>k_is)
  (case k21=>k_is)
  (case a22=>k_is)
  (case l22=>k_is)
  (case c22=>k_is)
  (case k22=>k_is)
  (case a23=>k_is)
  (case l23=>k_is)
  (case c23=>k_is)
  (case k23=>k_is)
  (case a24=>k_is)
  (case l24=>k_is)
  (case c24=>k_is)
  (case k24=>k_is)
  (case a25=>k_is)
  (case l25=>k_is)
  (case c25=>k_is)
  (case k25=>k_is)
  (case a26=>k_is)
  (case l26=>k_is)
  (case c26=>k_is)
  (case k26=>k_is)
  (case a27=>k_is)
  (case l27=>k_is)
  (case c27=>k_is)
  (case k27=>k_is)
  (case a28=>k_is)
  (case l28=>k_is)
  (case c28=>k_is)
  (case k28=>k_is)
  (case a29=>k_is)
  (case l29=>k_is)
  (case c29=>k_is)
  (case k29=>k_is)
  (case a30=>k_is)
  (case l30=>k_is)
  (case c30=>k_is)
  (case k30=>k_is)
  (case a31=>k_is)
  (case l31=>k_is)
  (case c31=>k_is)
  (case k31=>k_is)
  (case a32=>k_is)
  (case l32=>k_is)
  (case c32=>k_is)
  (case k32=>k_is)
  (case a33=>k_is)
  (case l33=>k_is)
  (case c33=>k_is)
  (case k33=>k_is)
  (case a34=>k_is)
  (case l34=>k_is)
  (case c34=>k_is)
  (case k34=>k_is)
  (case a35=>k_is)
  (case l35=>k_is)
  (case c35=>k_is)
  (case k35=>k_is)
  (case a36=>k_is)
  (case l36=>k_is)
  (case c36=>k_is)
  (case k36=>k_is)
  (case a37=>k_is)
  (case l37=>k_is)
  (case c37=>k_is)
  (case k37=>k_is)
  (case a38=>k_is)
  (case l38=>k_is)
  (case c38=>k_is)
  (case k38=>k_is)
  (case a39=>k_is)
  (case l39=>k_is)
  (case c39=>k_is)
  (case k39=>k_is)
  (case pg_Doing=>k_is)
  (case hd_Doing=>k_is)
  (case po_Doing=>k_is)
  (case sa_Doing=>k_is)
  (case mk_Doing=>k_is)
  (case kc_Doing=>k_is)
  (case na_Doing_held=>k_is)
  (case na_Doing_numbers=>k_is)
  (case na_Doing_said=>k_is)
  (case na_Doing_taken=>k_is)
  (case g_JUMPS=>k_is)
  (case l_JUMPS=>k_is)
  (case g_STATEMENTS=>k_is)
  (case l_STATEMENTS=>k_is)
  (case h_BOX_RANGE=>k_is)
  (case z_abs=>k_is)
  (case z_bool=>k_is)
  (case z_dict=>k_is)
  (case z_enumerate=>k_is)
  (case z_int=>k_is)
  (case z_isinstance=>k_is)
  (case z_len=>k_is)
  (case z_list=>k_is)
  (case z_max=>k_is)
  (case z_min=>k_is)
  (case z_range=>k_is)
  (case z_tuple=>k_is)
  (case z_zip=>k_is)
#print axioms PySem.Challenge.cw_blockfall_k22_whole_jumps_by_counts_holds
