import PyProof.Rows.All
import Wide.All
import OpenK.AllK
import Wide.FinOn
import Lean
import PyProof.EqAt
import PyProof.EqKinds
import PyProof.TupleCall
import PyProof.ZipIter
import PySem.Challenge.RW_blockfall_k19_whole_runs_of_rows
set_option bootstrap.genMatcherCode false
set_option genSizeOf false
set_option genSizeOfSpec false
set_option Elab.async false
set_option linter.all false
set_option maxRecDepth 100000
set_option maxHeartbeats 4000000
namespace L2
open PySem PySem.Spec PyProof.Rows
noncomputable abbrev Key := Sum Int Str
noncomputable def keyIs : Key → Value → Bool
  | .inl k,v => Value.isInt k v
  | .inr x,v => Value.isStrOf x v
noncomputable def keyH (w:World) : Key → Int
  | .inl k => hashInt k
  | .inr x => hashStr w x
theorem bP : ∀ {k:Key}{v:Value},keyIs k v = true → (∃ i t,k = Sum.inl i ∧ v = Value.int i t) ∨ (∃ x t,k = Sum.inr x ∧ v = Value.str x t)
  | .inl i,v,h => by
    obtain ⟨t,e⟩ := Value.isInt_shape (k := i) (v := v) h
    exact .inl ⟨i,t,rfl,e⟩
  | .inr x,v,h => by
    obtain ⟨t,e⟩ := Value.isStrOf_shape (x := x) (v := v) h
    exact .inr ⟨x,t,rfl,e⟩
theorem nY (i:Int) (t:Tok) : keyIs (.inl i) (.int i t) = true :=by simp [keyIs,Value.isInt]
theorem nX (x:Str) (t:Tok) : keyIs (.inr x) (.str x t) = true :=by simp [keyIs,Value.isStrOf]
theorem sW (a b : Int) : decide ((Sum.inl a : Key) = Sum.inl b) = (a == b) :=by
  by_cases e : a = b
  · subst e; simp
  · have h : ¬ (Sum.inl a : Key) = Sum.inl b := fun q => e (Sum.inl.inj q)
    rw [decide_eq_false h]
    exact (beq_eq_false_iff_ne.mpr e).symm
theorem sT (a b : Str) : decide ((Sum.inr a : Key) = Sum.inr b) = decide (a = b) :=by
  by_cases e : a = b
  · subst e; simp
  · have h : ¬ (Sum.inr a : Key) = Sum.inr b := fun q => e (Sum.inr.inj q)
    rw [decide_eq_false h,decide_eq_false e]
theorem sV (a:Int) (b:Str) : decide ((Sum.inl a : Key) = Sum.inr b) = false := decide_eq_false (fun q => nomatch q)
theorem sU (a:Str) (b:Int) : decide ((Sum.inr a : Key) = Sum.inl b) = false := decide_eq_false (fun q => nomatch q)
noncomputable def cj (prog : Program) (w:World) : PySem.KeyKind prog w Key where
  is := keyIs
  hash := keyH w
  inj := fun v a b ha hb => by
    rcases bP ha with ⟨i,t,rfl,rfl⟩ | ⟨x,t,rfl,rfl⟩
    · rcases bP hb with ⟨j,u,rfl,e⟩ | ⟨y,u,rfl,e⟩
      · injection e with e1 _; rw [e1]
      · exact nomatch e
    · rcases bP hb with ⟨j,u,rfl,e⟩ | ⟨y,u,rfl,e⟩
      · exact nomatch e
      · injection e with e1 _; rw [e1]
  byValue := fun k v h => by
    rcases bP h with ⟨i,t,rfl,rfl⟩ | ⟨x,t,rfl,rfl⟩ <;> rfl
  pyHash := fun hv h => by
    rcases bP hv with ⟨i,t,rfl,rfl⟩ | ⟨x,t,rfl,rfl⟩
    · exact wpAny_pyHash_int h
    · exact wpAny_pyHash_str h
  eqBool := fun hu hv h => by
    rcases bP hu with ⟨i,t,rfl,rfl⟩ | ⟨x,t,rfl,rfl⟩
    · rcases bP hv with ⟨j,u,rfl,rfl⟩ | ⟨y,u,rfl,rfl⟩
      · rw [sW] at h; exact wpAny_eqBool_int h
      · rw [sV] at h; exact SeqAt.EqAt.int_str i t y u _ _ _ _ h
    · rcases bP hv with ⟨j,u,rfl,rfl⟩ | ⟨y,u,rfl,rfl⟩
      · rw [sU] at h; exact SeqAt.EqAt.str_int x t j u _ _ _ _ h
      · rw [sT] at h; exact wpAny_eqBool_str h
  «strs» := fun k x t v h => by
    rcases bP h with ⟨i,u,rfl,e⟩ | ⟨y,u,rfl,e⟩
    · exact nomatch e
    · injection e with e1 _
      subst e1
      cases v <;> rfl
theorem lB (prog : Program) (w:World) (i:Int) (t:Tok) : (cj prog w).is (.inl i) (.int i t) = true := nY i t
theorem lA (prog : Program) (w:World) (x:Str) (t:Tok) : (cj prog w).is (.inr x) (.str x t) = true := nX x t
end L2
namespace L2
open PySem PySem.Spec PyProof.Rows
inductive V where
  | non | bl (b:Bool) | int (i:Int) | str (x:Str) | byt (b:Array UInt8) | flt (b:UInt64) | ref (a:Addr) | ty (n:String)
  deriving DecidableEq
noncomputable def RelV : V → Value → Prop
  | .non,u => u = Value.none
  | .bl b,u => u = Value.bool b
  | .int i,u => ∃ t,u = Value.int i t
  | .str x,u => ∃ t,u = Value.str x t
  | .byt b,u => ∃ t,u = Value.bytes b t
  | .flt b,u => ∃ t,u = Value.float b t
  | .ref a,u => u = Value.ref a
  | .ty n,u => u = Value.type n
noncomputable abbrev Vals : List V → List Value → Prop := Paired RelV
theorem Vals.length {xs : List V}{us : List Value} (r:Vals xs us) : xs.length = us.length := Paired.length r
theorem Vals.get : ∀ {xs : List V}{us : List Value}{i:Nat}{x:V},Vals xs us → xs[i]? = some x → ∃ u,us[i]? = some u ∧ RelV x u
  | _,_,_,_,.nil,e => by simp at e
  | _,_,0,_,.cons r _,e => by simp at e; subst e; exact ⟨_,rfl,r⟩
  | _,_,i + 1,x,.cons _ t,e => by
    obtain ⟨u,h1,h2⟩ := Vals.get (i := i) (x := x) t (by simpa using e)
    exact ⟨u,by simpa using h1,h2⟩
theorem Vals.set {x:V}{u:Value} (r:RelV x u) : ∀ {xs : List V}{us : List Value} (i:Nat),Vals xs us → Vals (xs.set i x) (us.set i u)
  | _,_,_,.nil => .nil
  | _,_,0,.cons _ t => .cons r t
  | _,_,i + 1,.cons q t => .cons q (Vals.set r i t)
theorem Vals.append : ∀ {xs ys : List V}{us ws : List Value},Vals xs us → Vals ys ws → Vals (xs ++ ys) (us ++ ws)
  | _,_,_,_,.nil,s => s
  | _,_,_,_,.cons r t,s => .cons r (Vals.append t s)
theorem Vals.take : ∀ {xs : List V}{us : List Value} (n:Nat),Vals xs us → Vals (xs.take n) (us.take n)
  | _,_,0,_ => .nil
  | _,_,_ + 1,.nil => .nil
  | _,_,n + 1,.cons r t => .cons r (Vals.take n t)
theorem Vals.drop : ∀ {xs : List V}{us : List Value} (n:Nat),Vals xs us → Vals (xs.drop n) (us.drop n)
  | _,_,0,r => r
  | _,_,_ + 1,.nil => .nil
  | _,_,n + 1,.cons _ t => Vals.drop n t
noncomputable def RelO : Option V → Option Value → Prop
  | some v,some u => RelV v u
  | none,none => True
  | _,_ => False
noncomputable def KV {κ : Type} : List (κ × V) → List (κ × Value) → Prop := Paired fun (p:κ × V) (q:κ × Value) => p.1 = q.1 ∧ RelV p.2 q.2
noncomputable def kV : Key → V
  | .inl i => .int i
  | .inr x => .str x
inductive HO where
  | lst (xs : List V)
  | tup (xs : List V)
  | dK (kvs : List (Key × V)) | dT (kvs : List (List Key × V))
  | set (S:Int → Bool) (n:Nat)
  | ins (C dx : Addr) (fs : List (Str × V))
  | own (x:Addr)
  | xd (fs : List (Str × V))
  | met (f x : Addr)
  | rng (lo hi : Int)
  | frz (o:Obj) (u:HO)
  | tbl (ps : Array Value)
  | ext (φ : Heap → Prop)
noncomputable abbrev Hp := Addr → Option HO
noncomputable def upd (H:Hp) (a:Addr) (o:HO) : Hp := fun b => if b = a then some o else H b
theorem cn {H:Hp}{a:Addr}{o:HO} : upd H a o a = some o :=by unfold upd; rw [if_pos rfl]
theorem aX {H:Hp}{a b : Addr}{o:HO} (h:b ≠ a) : upd H a o b = H b :=by unfold upd; rw [if_neg h]
theorem ut {H:Hp}{a b : Addr}{o u : HO} (h:H a = some o) (h' : H b = some u) (d:o ≠ u) : a ≠ b :=by
  intro e; subst e; rw [h] at h'; exact d (Option.some.inj h')
theorem cE {H:Hp}{a b : Addr}{o:HO} (h:H a = some o) (h' : H b = none) : a ≠ b :=by
  intro e; subst e; rw [h] at h'; cases h'
noncomputable def IsTupD (h:Heap) (a:Addr) (its : Array Value) : Prop := IsTup h a its ∧ ∃ o,h.get? a = some o ∧ o.dict = none
theorem IsTupD.new (h:Heap) (its : Array Value) : IsTupD (h.push { cls := .type "tuple",data := .seq its }) h.objs.size its := ⟨IsTup.new _ _,_,Heap.get?_push_size _ rfl,rfl⟩
section
variable (P:Program) (w:World)
noncomputable def ObjOk (H:Hp) (h:Heap) (a:Addr) : HO → Prop
  | .lst xs => xs.length ≤ sizeLine ∧ ∃ (its : List Value) (n:Nat),Vals xs its ∧ h.get? a = some { cls := .type "list",data := .seq its.toArray n }
  | .tup xs => xs.length ≤ sizeLine ∧ ∃ its : List Value,Vals xs its ∧ IsTupD h a its.toArray
  | .dK kvs => kvs.length ≤ sizeLine ∧ (a == sysModules) = false ∧ ∃ vs,KV kvs vs ∧ h.DictOf (cj P w) a vs
  | .dT kvs => kvs.length ≤ sizeLine ∧ (a == sysModules) = false ∧ ∃ xs : List (List Key × Addr × Value),
      Paired (fun (p:List Key × V) (q:List Key × Addr × Value) => p.1 = q.1 ∧ H q.2.1 = some (.tup (p.1.map kV)) ∧ RelV p.2 q.2.2) kvs xs ∧
      ∃ o es ep,h.get? a = some o ∧ o.ExactDict ∧ o.data = .dict es ep ∧ es.toList = xs.map (entryOfKey (tupleKind (cj P w))) ∧ (xs.map (·.1)).Nodup
  | .set S n => h.SetOf (intKind P w) a S n
  | .ins C dx fs => H dx = some (.own a) ∧ fs.length ≤ 1000 ∧ dx ≠ a ∧ h.get? a = some (PySem.W.instObj C dx) ∧
      ∃ mA,h.Ns1 dx mA ∧ (∀ f,RelO (fs.lookup f) (mA f)) ∧ PySem.Within mA (fs.map (·.1))
  | .own _ => ∃ o,h.get? a = some o
  | .xd fs => ∃ mA,h.Ns1 a mA ∧ ∀ f,RelO (fs.lookup f) (mA f)
  | .rng lo hi => ∃ t u v,h.get? a = some { cls := .type "range",data := .fields #[.int lo t,.int hi u,.int 1 v] }
  | .frz o u => h.get? a = some o ∧ ObjOk H h a u
  | .tbl ps => h.get? a = some { cls := .none,data := .fields ps }
  | .met f x => h.get? a = some (PySem.W.methodObj (.ref f) (.ref x))
  | .ext φ => φ h ∧ (∃ o,h.get? a = some o) ∧ ∀ h1 h2 : Heap,φ h1 → (∀ o,h1.get? a = some o → h2.get? a = some o) → φ h2
noncomputable def HOk (H:Hp) (h:Heap) : Prop := ∀ a o,H a = some o → ObjOk P w H h a o
end
section
variable {P:Program}{w:World}{H H' : Hp}{h h' : Heap}{a:Addr}{o:HO}
theorem ObjOk.lt (x:ObjOk P w H h a o) : a < h.objs.size :=by
  cases o with
  | lst xs => obtain ⟨_,_,_,_,e⟩ := x; exact Heap.lt_size e
  | tup xs => obtain ⟨_,_,_,p⟩ := x; exact p.1.lt
  | dK kvs => obtain ⟨_,_,_,_,o,_,_,e,_⟩ := x; exact Heap.lt_size e
  | dT kvs => obtain ⟨_,_,_,_,o,_,_,e,_⟩ := x; exact Heap.lt_size e
  | set S n => obtain ⟨o,_,_,_,e,_⟩ := x; exact Heap.lt_size e
  | ins C dx fs => obtain ⟨_,_,_,e,_⟩ := x; exact Heap.lt_size e
  | own y => obtain ⟨_,e⟩ := x; exact Heap.lt_size e
  | xd fs => obtain ⟨_,⟨_,_,_,e,_⟩,_⟩ := x; exact Heap.lt_size e
  | rng lo hi => obtain ⟨_,_,_,e⟩ := x; exact Heap.lt_size e
  | frz ob u => obtain ⟨e,_⟩ := x; exact Heap.lt_size e
  | tbl ps => exact Heap.lt_size (show h.get? a = some _ from x)
  | met f y => exact Heap.lt_size (show h.get? a = some _ from x)
  | ext φ => obtain ⟨_,⟨_,e⟩,_⟩ := x; exact Heap.lt_size e
theorem Paired.mapP {α β : Type}{F G : α → β → Prop} : ∀ {l₁ : List α}{l₂ : List β},Paired F l₁ l₂ → (∀ a b,F a b → G a b) → Paired G l₁ l₂
  | _,_,.nil,_ => .nil
  | _,_,.cons r t,f => .cons (f _ _ r) (Paired.mapP t f)
theorem ObjOk.stay (x:ObjOk P w H h a o) (k:∀ b u,(b = a ∨ H b = some (.own a)) → h.get? b = some u → h'.get? b = some u)
    (ho : ∀ b,H b = some (.own a) → H' b = some (.own a)) (ht : ∀ b xs,H b = some (.tup xs) → H' b = some (.tup xs)) : ObjOk P w H' h' a o :=by
  induction o with
  | lst xs => obtain ⟨z,its,n,r,e⟩ := x; exact ⟨z,its,n,r,k _ _ (.inl rfl) e⟩
  | tup xs => obtain ⟨z,its,r,⟨ob,e,c⟩,o2,e2,c2⟩ := x; exact ⟨z,its,r,⟨ob,k _ _ (.inl rfl) e,c⟩,o2,k _ _ (.inl rfl) e2,c2⟩
  | dK kvs => obtain ⟨z,y,vs,r,ob,es,ep,e,c⟩ := x; exact ⟨z,y,vs,r,ob,es,ep,k _ _ (.inl rfl) e,c⟩
  | dT kvs =>
    obtain ⟨z,y,xs,r,ob,es,ep,e,c⟩ := x
    exact ⟨z,y,xs,Paired.mapP r fun p q z => ⟨z.1,ht _ _ z.2.1,z.2.2⟩,ob,es,ep,k _ _ (.inl rfl) e,c⟩
  | set S n => obtain ⟨ob,es,ep,t,e,c⟩ := x; exact ⟨ob,es,ep,t,k _ _ (.inl rfl) e,c⟩
  | ins C dx fs =>
    obtain ⟨d,z,ne,e,mA,⟨od,es,ep,e2,c⟩,r⟩ := x
    exact ⟨ho _ d,z,ne,k _ _ (.inl rfl) e,mA,⟨od,es,ep,k _ _ (.inr d) e2,c⟩,r⟩
  | own y => obtain ⟨ob,e⟩ := x; exact ⟨ob,k _ _ (.inl rfl) e⟩
  | xd fs => obtain ⟨mA,⟨od,es,ep,e,c⟩,r⟩ := x; exact ⟨mA,⟨od,es,ep,k _ _ (.inl rfl) e,c⟩,r⟩
  | rng lo hi => obtain ⟨t,u,v,e⟩ := x; exact ⟨t,u,v,k _ _ (.inl rfl) e⟩
  | frz ob u ih => obtain ⟨e,q⟩ := x; exact ⟨k _ _ (.inl rfl) e,ih q⟩
  | tbl ps =>
    have e : h.get? a = some { cls := .none,data := .fields ps } := x
    show h'.get? a = some { cls := .none,data := .fields ps }
    exact k a _ (.inl rfl) e
  | met f y =>
    have e : h.get? a = some (PySem.W.methodObj (.ref f) (.ref y)) := x
    show h'.get? a = some (PySem.W.methodObj (.ref f) (.ref y))
    exact k a _ (.inl rfl) e
  | ext φ => obtain ⟨p,⟨o,e⟩,st⟩ := x; exact ⟨st _ _ p fun o q => k _ _ (.inl rfl) q,⟨o,k _ _ (.inl rfl) e⟩,st⟩
theorem HOk.lt (x:HOk P w H h) (e:H a = some o) : a < h.objs.size := (x a o e).lt
theorem HOk.fresh (x:HOk P w H h) (e:h.objs.size ≤ a) : H a = none :=by
  cases q : H a with
  | none => rfl
  | some u => exact absurd (Nat.lt_of_lt_of_le (x.lt q) e) (Nat.lt_irrefl _)
theorem HOk.kept (x:HOk P w H h) (k:∀ b u,h.get? b = some u → h'.get? b = some u) : HOk P w H h' := fun a o e =>
  (x a o e).stay (fun b u _ q => k b u q) (fun _ q => q) fun _ _ q => q
theorem HOk.laid (x:HOk P w H h) (k:∀ b u,h.get? b = some u → h'.get? b = some u) (hp : h.objs.size ≤ a) (new : ObjOk P w (upd H a o) h' a o) : HOk P w (upd H a o) h' := fun b u e => by
  have hn := x.fresh hp
  by_cases hb : b = a
  · subst hb; rw [cn] at e; cases e; exact new
  · rw [aX hb] at e
    exact (x b u e).stay (fun c v _ q => k c v q) (fun c q => by rw [aX (cE q hn)]; exact q) fun c xs q => by rw [aX (cE q hn)]; exact q
end
noncomputable def Rd (H:Hp) (a:Addr) (u:HO) : Prop := H a = some u ∨ ∃ o,H a = some (.frz o u)
theorem Rd.ok {P:Program}{w:World}{H:Hp}{h:Heap}{a:Addr}{u:HO} (r:Rd H a u) (x:HOk P w H h) : ObjOk P w H h a u :=by
  rcases r with r | ⟨o,r⟩
  · exact x a u r
  · obtain ⟨_,q⟩ := x a _ r
    exact q
noncomputable def Mut : Option HO → Prop
  | some (.lst _) => True
  | some (.dK _) => True
  | some (.dT _) => True
  | some (.set _ _) => True
  | some (.ins _ _ _) => True
  | some (.ext _) => True
  | _ => False
section
variable {P:Program}{w:World}{H:Hp}{h h' : Heap}{x e : Addr}{o' : HO}
theorem HOk.write (ok : HOk P w H h) (mu : Mut (H x)) (he : e = x ∨ H e = some (.own x)) (k:∀ b u,b ≠ e → h.get? b = some u → h'.get? b = some u) (heo : ∃ u,h'.get? e = some u)
    (new : ObjOk P w (upd H x o') h' x o') : HOk P w (upd H x o') h' := fun b u q => by
  have nown : ∀ c y,H c = some (.own y) → c ≠ x := fun c y r z => by subst z; rw [r] at mu; exact mu
  have ntup : ∀ c xs,H c = some (.tup xs) → c ≠ x := fun c xs r z => by subst z; rw [r] at mu; exact mu
  by_cases hb : b = x
  · subst hb; rw [cn] at q; cases q; exact new
  · rw [aX hb] at q
    by_cases hbe : b = e
    · have q' : H b = some (.own x) :=by
        rcases he with z | z
        · exact absurd (hbe.trans z) hb
        · rw [hbe]; exact z
      rw [q] at q'; cases q'
      obtain ⟨v,hv⟩ := heo
      exact ⟨v,by rw [hbe]; exact hv⟩
    · refine (ok b u q).stay (fun c v hc r => k c v ?_ r) (fun c r => by rw [aX (nown c b r)]; exact r) fun c xs r => by rw [aX (ntup c xs r)]; exact r
      rcases hc with rfl | hc
      · exact hbe
      · rintro rfl
        rcases he with z | z
        · exact nown c b hc z
        · rw [hc] at z; cases z; exact hb rfl
end
structure Un (fs ex : List Addr) (H H' : Hp) (h h' : Heap) : Prop where
  keep : ∀ b o,h.get? b = some o → H b = none → b ∉ fs → b ∉ ex → h'.get? b = some o
  slot : ∀ b o,h.get? b = some o → H b = none → b ∈ fs → b ∉ ex → ∃ sl,h'.get? b = some { o with slots := sl }
  free : ∀ b o,h.get? b = some o → H b = none → b ∉ ex → H' b = none
  there : ∀ b o,h.get? b = some o → b ∉ ex → ∃ o',h'.get? b = some o'
  tups : ∀ b xs,H b = some (.tup xs) → H' b = some (.tup xs)
  frzs : ∀ b o u,H b = some (.frz o u) → H' b = some (.frz o u)
  tbls : ∀ b ps,H b = some (.tbl ps) → ∃ more,H' b = some (.tbl (ps ++ more))
section
variable {fs fs' ex ex' : List Addr}{H H1 H2 : Hp}{h h1 h2 h' : Heap}{a x e : Addr}{o:HO}
theorem Un.any (u:Un fs ex H H1 h h1) {b:Addr}{ob : Obj} (q:h.get? b = some ob) (n:H b = none) (hx : b ∉ ex) : ∃ sl,h1.get? b = some { ob with slots := sl } :=by
  by_cases hb : b ∈ fs
  · exact u.slot b ob q n hb hx
  · exact ⟨ob.slots,u.keep b ob q n hb hx⟩
theorem Un.kept (k:∀ b u,h.get? b = some u → h'.get? b = some u) : Un fs ex H H h h' :=
  ⟨fun b ob q _ _ _ => k b ob q,fun b ob q _ _ _ => ⟨ob.slots,k b ob q⟩,fun _ _ _ n _ => n,fun b ob q _ => ⟨ob,k b ob q⟩,fun _ _ q => q,fun _ _ _ q => q,fun _ ps q => ⟨#[],by rw [q]; simp⟩⟩
theorem Un.refl : Un fs ex H H h h := Un.kept fun _ _ q => q
theorem Un.laid (k:∀ b u,h.get? b = some u → h'.get? b = some u) (hp : h.objs.size ≤ a) (hn : H a = none) : Un fs ex H (upd H a o) h h' where
  keep := fun b u q _ _ _ => k b u q
  slot := fun b u q _ _ _ => ⟨u.slots,k b u q⟩
  free := fun b u q n _ => by rw [aX (Nat.ne_of_lt (Nat.lt_of_lt_of_le (Heap.lt_size q) hp))]; exact n
  there := fun b u q _ => ⟨u,k b u q⟩
  tups := fun b xs q => by rw [aX (cE q hn)]; exact q
  frzs := fun b u xs q => by rw [aX (cE q hn)]; exact q
  tbls := fun b ps q => ⟨#[],by rw [aX (cE q hn),q]; simp⟩
theorem Un.write (mu : Mut (H x)) (he : e = x ∨ H e = some (.own x)) (k:∀ b u,b ≠ e → h.get? b = some u → h'.get? b = some u) (heo : ∃ u,h'.get? e = some u) : Un fs ex H (upd H x o) h h' :=by
  have hx : ∀ b,H b = none → b ≠ x := fun b n z => by subst z; rw [n] at mu; exact mu
  have hb : ∀ b,H b = none → b ≠ e := fun b n z => by
    subst z
    rcases he with r | r
    · exact hx b n r
    · rw [n] at r; cases r
  have hm : ∀ b u,H b = some u → ¬ Mut (some u) → b ≠ x := fun b u q nm z => by subst z; rw [q] at mu; exact nm mu
  refine ⟨fun b u q n _ _ => k b u (hb b n) q,fun b u q n _ _ => ⟨u.slots,k b u (hb b n) q⟩,fun b u q n _ => by rw [aX (hx b n)]; exact n,fun b u q _ => ?_,
    fun b xs q => by rw [aX (hm b _ q fun z => z)]; exact q,fun b u xs q => by rw [aX (hm b _ q fun z => z)]; exact q,fun b ps q => ⟨#[],by rw [aX (hm b _ q fun z => z),q]; simp⟩⟩
  by_cases hbe : b = e
  · subst hbe; exact heo
  · exact ⟨u,k b u hbe q⟩
end
noncomputable def trk (h:Heap) (H:Hp) : List Addr := (List.range h.objs.size).filter fun a => (H a).isSome
noncomputable def hidT (h:Heap) (H:Hp) : Heap := PySem.W.hideAll h (trk h H)
theorem n6 (h:Heap) (H:Hp) : (hidT h H).objs.size = h.objs.size := PySem.W.hideAll_size _ _
theorem pA {h:Heap}{H:Hp}{b:Addr}{o:Obj} (e:h.get? b = some o) (n:H b = none) : (hidT h H).get? b = some o :=
  PySem.W.hideAll_get _ e fun hm => by
    have q : (H b).isSome = true := (List.mem_filter.mp hm).2
    rw [n] at q; simp at q
theorem qB {h:Heap}{H:Hp}{b:Addr}{o:Obj} (e:(hidT h H).get? b = some o) : h.get? b = some o ∧ H b = none :=by
  have e' : h.get? b = some o := PySem.W.of_hideAll (trk h H) e
  refine ⟨e',?_⟩
  cases q : H b with
  | none => rfl
  | some x =>
    have hm : b ∈ trk h H := List.mem_filter.mpr ⟨List.mem_range.mpr (Heap.lt_size e'),by simp [q]⟩
    have z : (hidT h H).get? b = none := PySem.W.hideAll_none (trk h H) hm
    rw [z] at e; cases e
noncomputable def qZ (g h : Heap) (L:Addr) : List (Addr × Obj) := (List.range h.objs.size).filterMap fun a => if a = L ∨ (g.get? a).isSome = true then none else (h.get? a).map fun o => (a,o)
noncomputable def rest (g h : Heap) (L d : Addr) : List (Addr × Obj) := (qZ g h L).filter fun p => decide (p.1 ≠ d)
end L2
namespace L2
open PySem PySem.Spec PyProof.Rows
structure Mod (K:PySem.W.Frag) (mg : Str → Option Value) (base : Heap) : Prop where
  kin : K.In base
  glob : base.Ns mainGlobals mg
  blt : ∃ mb,base.Ns builtinsNs mb ∧ ∀ x : Str,x ≠ "__name__" → mb x = bootBuiltins x
  nolimit : base.NoLimit
structure Cx where
  prog : Program
  w : World
  K : PySem.W.Frag
  mg : Str → Option Value
  base : Heap
  A : Around
  N : List Str
  s₀ : Shared
  H₀ : Hp
  env : Env
  outer : List Env
  stack : List Env
  ex : List Addr
  fn : Str → Bool
  calm : Bool
  pn : List (Addr × Obj)
  xe : Value → Shared → Prop
noncomputable def frs (l:List Env) : List Addr := l.filterMap (·.frame)
noncomputable abbrev Cx.fs (X:Cx) : List Addr := frs X.outer
noncomputable def Vis (sc : Scope) (x:Str) : Prop := sc.names.lookup x = some .local ∨ sc.names.lookup x = some .cell ∨ sc.names.lookup x = some .free
noncomputable def Loc (sc : Scope) (x:Str) : Prop := sc.names.lookup x = some .local ∨ sc.names.lookup x = some .cell
noncomputable def Look (env : Env) (h:Heap) (m:Str → Option Value) (x:Str) (u:Value) : Prop :=
  (env.kindOf x = some .local ∧ m x = some u) ∨ ((env.kindOf x = some .cell ∨ env.kindOf x = some .free) ∧ ∃ c,env.cells.lookup x = some c ∧ h.IsCell c (some u))
structure Cx.Ok (X:Cx) : Prop where
  mod : Mod X.K X.mg X.base
  kind : X.env.scope.kind = .function
  glob : X.env.globals = mainGlobals
  blt : X.env.builtins = builtinsNs
  above : X.s₀.heap.objs.size ≤ X.env.locals
  inj : ∀ x y c,X.env.cells.lookup x = some c → X.env.cells.lookup y = some c → x = y
  has : ∀ x,(X.env.kindOf x = some .cell ∨ X.env.kindOf x = some .free) → ∃ c,X.env.cells.lookup x = some c
  cab : ∀ x c,X.fn x = true → X.env.cells.lookup x = some c → X.s₀.heap.objs.size ≤ c
  hd : X.calm = true → X.A.handled = none
  frames : X.A.frames = some X.stack
  stk : X.stack = X.outer ∨ (X.stack = X.env :: X.outer ∧ X.env.frame = some X.env.locals)
  exf : ∀ b ∈ X.ex,b ≠ X.env.locals ∧ ∀ x c,X.env.cells.lookup x = some c → c ≠ b
  bs : ∀ b o,X.base.get? b = some o → X.s₀.heap.get? b = some o ∧ X.H₀ b = none
  bsz : X.base.objs.size ≤ X.s₀.heap.objs.size
  noex : ∀ b o,X.base.get? b = some o → b ∉ X.ex
  exfs : ∀ b ∈ X.ex,b ∉ X.fs
  funs : X.s₀.heap.FunFrames X.base X.outer
  frf : ∀ b ∈ X.fs,X.H₀ b = none
structure Inv (X:Cx) (pins : List (Addr × Obj)) (σ : List (Option V)) (H:Hp) (s:Shared) : Prop where
  ok : X.Ok
  os : s.os = X.s₀.os
  bare : AllBare s.gens
  base : Un X.fs X.ex X.H₀ H X.s₀.heap s.heap
  loc : ∃ m,s.heap.Ns X.env.locals m ∧ ∀ (i:Nat) (x:Str) (v:V),X.N[i]? = some x → σ[i]? = some (some v) → Vis X.env.scope x → ∃ u,RelV v u ∧ Look X.env s.heap m x u
  cell : ∀ x c,X.env.cells.lookup x = some c → ∃ v,s.heap.IsCell c v
  free : H X.env.locals = none
  freeC : ∀ x c,X.env.cells.lookup x = some c → H c = none
  pin : ∀ p ∈ X.pn ++ pins,s.heap.get? p.1 = some p.2 ∧ H p.1 = none ∧ p.1 ≠ X.env.locals ∧ p.1 ∉ X.fs ∧ ∀ v,p.2.data ≠ .cell v
  hok : HOk X.prog X.w H s.heap
  len : σ.length = X.N.length
section
variable {X:Cx}{pins : List (Addr × Obj)}{σ : List (Option V)}{H H' : Hp}{s:Shared}{h' : Heap}
theorem Cx.Ok.nofr (ok : X.Ok) {b:Addr}{o:Obj} (e:X.base.get? b = some o) : b ∉ X.fs := fun hb => by
  have := (ok.funs.mem hb).1
  rw [e] at this; cases this
theorem Inv.bs (I:Inv X pins σ H s) : ∀ b o,X.base.get? b = some o → s.heap.get? b = some o ∧ H b = none := fun b o e =>
  ⟨I.base.keep b o (I.ok.bs b o e).1 (I.ok.bs b o e).2 (I.ok.nofr e) (I.ok.noex b o e),I.base.free b o (I.ok.bs b o e).1 (I.ok.bs b o e).2 (I.ok.noex b o e)⟩
theorem Inv.bk (I:Inv X pins σ H s) : ∀ b o,X.base.get? b = some o → s.heap.get? b = some o := fun b o e => (I.bs b o e).1
theorem Inv.mod (I:Inv X pins σ H s) : Mod X.K X.mg X.base := I.ok.mod
theorem Inv.kIn (I:Inv X pins σ H s) : X.K.In s.heap := I.ok.mod.kin.keeps I.bk
theorem Inv.fr (I:Inv X pins σ H s) : ∃ m,Fr X.base X.env.locals s.heap m :=
  let ⟨m,hn,_⟩ := I.loc
  ⟨m,hn,I.bk,Nat.le_trans I.ok.bsz I.ok.above⟩
theorem Inv.lt (I:Inv X pins σ H s) : X.env.locals < s.heap.objs.size := let ⟨_,hn,_⟩ := I.loc; hn.lt
theorem Inv.sz (I:Inv X pins σ H s) : X.s₀.heap.objs.size ≤ s.heap.objs.size := Nat.le_trans I.ok.above (Nat.le_of_lt I.lt)
theorem Inv.nofs (I:Inv X pins σ H s) {a:Addr} (h:s.heap.objs.size ≤ a) : a ∉ X.fs := fun hb => by
  obtain ⟨_,o,ho,_⟩ := I.ok.funs.mem hb
  exact absurd (Nat.lt_of_lt_of_le (Heap.lt_size ho) (Nat.le_trans I.sz h)) (Nat.lt_irrefl _)
theorem Inv.cne (I:Inv X pins σ H s) : ∀ x c,X.env.cells.lookup x = some c → c ≠ X.env.locals := fun x c e z => by
  obtain ⟨v,o,ho,hd⟩ := I.cell x c e
  obtain ⟨m,⟨o',es,ep,ho',hd',_⟩,_⟩ := I.loc
  rw [z,ho'] at ho; cases ho; rw [hd'] at hd; cases hd
theorem Inv.funs (I:Inv X pins σ H s) : s.heap.FunFrames X.base X.outer :=by
  have all : ∀ (l:List Env),(∀ b ∈ frs l,b ∈ X.fs) → X.s₀.heap.FunFrames X.base l → s.heap.FunFrames X.base l :=by
    intro l
    induction l with
    | nil => intro _ _; trivial
    | cons env r ih =>
      intro hs hl
      obtain ⟨hk,⟨L,o,hf,hn,ho,hd⟩,hr⟩ := hl
      have hL : L ∈ X.fs := hs L (by unfold frs; rw [List.filterMap_cons,hf]; exact List.mem_cons_self)
      obtain ⟨sl,e⟩ := I.base.slot L o ho (I.ok.frf L hL) hL fun z => I.ok.exfs L z hL
      exact ⟨hk,⟨L,_,hf,hn,e,hd⟩,ih (fun b hb => hs b (by unfold frs; rw [List.filterMap_cons,hf]; exact List.mem_cons_of_mem _ hb)) hr⟩
  exact all X.outer (fun _ hb => hb) I.ok.funs
theorem Inv.stack (I:Inv X pins σ H s) : s.heap.FunFrames X.base X.stack :=by
  rcases I.ok.stk with e | ⟨e,hf⟩
  · rw [e]; exact I.funs
  · rw [e]
    obtain ⟨m,hn,_⟩ := I.loc
    refine .cons (by rw [I.ok.kind]; decide) hf hn ?_ I.funs
    exact Heap.get?_none_of_le (Nat.le_trans I.ok.bsz I.ok.above)
theorem Inv.stkSub (I:Inv X pins σ H s) : ∀ b ∈ frs X.stack,b ∈ X.env.locals :: X.fs := fun b hb => by
  rcases I.ok.stk with e | ⟨e,hf⟩
  · rw [e] at hb; exact List.mem_cons_of_mem _ hb
  · rw [e] at hb
    unfold frs at hb
    rw [List.filterMap_cons,hf] at hb
    exact hb
theorem Inv.stkFree (I:Inv X pins σ H s) : ∀ b ∈ frs X.stack,H b = none := fun b hb => by
  rcases List.mem_cons.mp (I.stkSub b hb) with e | hb
  · rw [e]; exact I.free
  · obtain ⟨_,o,ho,_⟩ := I.ok.funs.mem hb
    exact I.base.free b o ho (I.ok.frf b hb) fun z => I.ok.exfs b z hb
theorem Inv.step {g' : Array GenState}{t' : Nat}{d' : Drawn}{ch : List Addr} (I:Inv X pins σ H s)
    (hch : ∀ b ∈ ch,(b ∈ X.ex ∨ X.s₀.heap.objs.size ≤ b) ∧ b ≠ X.env.locals ∧ (∀ x c,X.env.cells.lookup x = some c → c ≠ b) ∧ ∀ p ∈ X.pn ++ pins,p.1 ≠ b)
    (keep : ∀ b o,b ≠ X.env.locals → b ∉ X.fs → b ∉ ch → s.heap.get? b = some o → H b = none → h'.get? b = some o)
    (slot : ∀ b o,b ≠ X.env.locals → b ∈ X.fs → b ∉ ch → s.heap.get? b = some o → H b = none → ∃ sl,h'.get? b = some { o with slots := sl }) (free : ∀ b o,b ∉ ch → s.heap.get? b = some o → H b = none → H' b = none)
    (there : ∀ b o,b ∉ ch → s.heap.get? b = some o → ∃ o',h'.get? b = some o')
    (tups : ∀ b xs,H b = some (.tup xs) → H' b = some (.tup xs)) (frzs : ∀ b o u,H b = some (.frz o u) → H' b = some (.frz o u)) (tbls : ∀ b ps,H b = some (.tbl ps) → ∃ more,H' b = some (.tbl (ps ++ more)))
    (ns : ∀ m,s.heap.Ns X.env.locals m → h'.Ns X.env.locals m) (hok : HOk X.prog X.w H' h') (hg : AllBare g') :
    Inv X pins σ H' { s with heap := h',gens := g',drawn := d',toks := t' } :=by
  have neL : ∀ b o,X.s₀.heap.get? b = some o → b ≠ X.env.locals := fun b o e => Nat.ne_of_lt (Nat.lt_of_lt_of_le (Heap.lt_size e) I.ok.above)
  have neC : ∀ b o,X.s₀.heap.get? b = some o → b ∉ X.ex → b ∉ ch := fun b o e hx hb => by
    rcases (hch b hb).1 with z | z
    · exact hx z
    · exact absurd (Nat.lt_of_lt_of_le (Heap.lt_size e) z) (Nat.lt_irrefl _)
  have cellK : ∀ x c,X.env.cells.lookup x = some c → ∀ v,s.heap.IsCell c v → h'.IsCell c v := fun x c e v ⟨o,ho,hd⟩ => by
    have nch : c ∉ ch := fun z => (hch c z).2.2.1 x c e rfl
    by_cases hc : c ∈ X.fs
    · obtain ⟨sl,q⟩ := slot c o (I.cne x c e) hc nch ho (I.freeC x c e)
      exact ⟨_,q,hd⟩
    · exact ⟨o,keep c o (I.cne x c e) hc nch ho (I.freeC x c e),hd⟩
  refine ⟨I.ok,I.os,hg,⟨fun b o e n hb hx => ?_,fun b o e n hb hx => ?_,fun b o e n hx => ?_,fun b o e hx => ?_,fun b xs e => tups b xs (I.base.tups b xs e),fun b o xs e => frzs b o xs (I.base.frzs b o xs e),fun b ps e => ?_⟩,?_,fun x c e => ?_,?_,fun x c e => ?_,fun p hp => ?_,hok,I.len⟩
  · exact keep b o (neL b o e) hb (neC b o e hx) (I.base.keep b o e n hb hx) (I.base.free b o e n hx)
  · obtain ⟨sl,e1⟩ := I.base.slot b o e n hb hx
    obtain ⟨sl',e2⟩ := slot b _ (neL b o e) hb (neC b o e hx) e1 (I.base.free b o e n hx)
    exact ⟨sl',e2⟩
  · obtain ⟨o',e1⟩ := I.base.there b o e hx
    exact free b o' (neC b o e hx) e1 (I.base.free b o e n hx)
  · obtain ⟨o',e1⟩ := I.base.there b o e hx
    exact there b o' (neC b o e hx) e1
  · obtain ⟨m1,e1⟩ := I.base.tbls b ps e
    obtain ⟨m2,e2⟩ := tbls b _ e1
    exact ⟨m1 ++ m2,by rw [e2,Array.append_assoc]⟩
  · obtain ⟨m,hn,hl⟩ := I.loc
    refine ⟨m,ns m hn,fun i x v e1 e2 e3 => ?_⟩
    obtain ⟨u,r,l⟩ := hl i x v e1 e2 e3
    refine ⟨u,r,?_⟩
    rcases l with l | ⟨k,c,e,z⟩
    · exact .inl l
    · exact .inr ⟨k,c,e,cellK x c e _ z⟩
  · obtain ⟨v,z⟩ := I.cell x c e
    exact ⟨v,cellK x c e v z⟩
  · obtain ⟨m,⟨o,_,_,ho,_⟩,_⟩ := I.loc
    exact free _ o (fun z => (hch _ z).2.1 rfl) ho I.free
  · obtain ⟨v,o,ho,hd⟩ := I.cell x c e
    exact free c o (fun z => (hch c z).2.2.1 x c e rfl) ho (I.freeC x c e)
  · obtain ⟨e,n,ne,nf,d⟩ := I.pin p hp
    have nch : p.1 ∉ ch := fun z => (hch p.1 z).2.2.2 p hp rfl
    exact ⟨keep p.1 p.2 ne nf nch e n,free p.1 p.2 nch e n,ne,nf,d⟩
theorem Inv.un {t' : Nat} (I:Inv X pins σ H s) (u:Un X.fs [] H H' s.heap h') (hok : HOk X.prog X.w H' h') : Inv X pins σ H' { s with heap := h',toks := t' } :=by
  obtain ⟨m,⟨o,es,ep,ho,r⟩,_⟩ := id I.loc
  obtain ⟨sl,hL⟩ := u.any ho I.free (by simp)
  exact I.step (g' := s.gens) (d' := s.drawn) (ch := []) (fun _ z => nomatch z) (fun b o _ hb _ e n => u.keep b o e n hb (by simp)) (fun b o _ hb _ e n => u.slot b o e n hb (by simp)) (fun b o _ e n => u.free b o e n (by simp)) (fun b o _ e => u.there b o e (by simp)) u.tups u.frzs u.tbls (fun m' hm => by
    obtain ⟨o',es',ep',ho',r'⟩ := hm
    rw [ho] at ho'; cases ho'
    exact ⟨_,es',ep',hL,r'⟩) hok I.bare
theorem Inv.call {g' : Array GenState}{t' : Nat}{d' : Drawn}{ch : List Addr} (I:Inv X pins σ H s) (u:Un (frs X.stack) ch H H' s.heap h') (hok : HOk X.prog X.w H' h') (hg : AllBare g')
    (hch : ∀ b ∈ ch,(b ∈ X.ex ∨ X.s₀.heap.objs.size ≤ b) ∧ b ≠ X.env.locals ∧ (∀ x c,X.env.cells.lookup x = some c → c ≠ b) ∧ ∀ p ∈ X.pn ++ pins,p.1 ≠ b) :
    Inv X pins σ H' { s with heap := h',gens := g',drawn := d',toks := t' } :=by
  obtain ⟨m,⟨o,es,ep,ho,r⟩,_⟩ := id I.loc
  obtain ⟨sl,hL⟩ := u.any ho I.free fun z => (hch _ z).2.1 rfl
  exact I.step (ch := ch) hch (fun b o hL hb hc e n => u.keep b o e n (fun z => (List.mem_cons.mp (I.stkSub b z)).elim hL hb) hc) (fun b o _ _ hc e n => u.any e n hc) (fun b o hc e n => u.free b o e n hc) (fun b o hc e => u.there b o e hc) u.tups u.frzs u.tbls (fun m' hm => by
    obtain ⟨o',es',ep',ho',r'⟩ := hm
    rw [ho] at ho'; cases ho'
    exact ⟨_,es',ep',hL,r'⟩) hok hg
theorem Inv.turned {t' : Nat}{it : Addr} (I:Inv X pins σ H s) (k:∀ b o,b ≠ it → s.heap.get? b = some o → h'.get? b = some o) (hn : H it = none) (hL : it ≠ X.env.locals)
    (h1 : it ∈ X.ex ∨ X.s₀.heap.objs.size ≤ it) (h2 : ∀ x c,X.env.cells.lookup x = some c → c ≠ it) (h3 : ∀ p ∈ X.pn ++ pins,p.1 ≠ it) : Inv X pins σ H { s with heap := h',toks := t' } :=by
  have nit : ∀ b u,H b = some u → b ≠ it := fun b u e z => by rw [z,hn] at e; cases e
  refine I.step (g' := s.gens) (d' := s.drawn) (ch := [it]) (fun b hb => ?_) (fun b o _ _ hc e _ => k b o (fun z => hc (by simp [z])) e) (fun b o _ _ hc e _ => ⟨o.slots,k b o (fun z => hc (by simp [z])) e⟩) (fun _ _ _ _ n => n)
    (fun b o hc e => ⟨o,k b o (fun z => hc (by simp [z])) e⟩) (fun _ _ e => e) (fun _ _ _ e => e) (fun b ps e => ⟨#[],by rw [e]; simp⟩) (fun m hm => ?_) (fun b u e => ?_) I.bare
  · have e : b = it :=by simpa using hb
    subst e
    exact ⟨h1,hL,h2,h3⟩
  · obtain ⟨o,es,ep,ho,r⟩ := hm
    exact ⟨o,es,ep,k _ o (Ne.symm hL) ho,r⟩
  · refine (I.hok b u e).stay (fun c v hc q => k c v ?_ q) (fun _ q => q) fun _ _ q => q
    rcases hc with z | z
    · rw [z]; exact nit b u e
    · exact nit c _ z
theorem Inv.tok (I:Inv X pins σ H s) (t:Nat) : Inv X pins σ H { s with toks := t } := I.un (h' := s.heap) (t' := t) Un.refl I.hok
theorem Inv.kept {t' : Nat} (I:Inv X pins σ H s) (k:∀ b u,s.heap.get? b = some u → h'.get? b = some u) : Inv X pins σ H { s with heap := h',toks := t' } := I.un (Un.kept k) (I.hok.kept k)
theorem Inv.laid {a:Addr}{o:HO}{t' : Nat} (I:Inv X pins σ H s) (k:∀ b u,s.heap.get? b = some u → h'.get? b = some u) (hp : s.heap.objs.size ≤ a) (new : ObjOk X.prog X.w (upd H a o) h' a o) :
    Inv X pins σ (upd H a o) { s with heap := h',toks := t' } := I.un (Un.laid k hp (I.hok.fresh hp)) (I.hok.laid k hp new)
theorem Inv.write {x e : Addr}{o:HO}{t' : Nat} (I:Inv X pins σ H s) (mu : Mut (H x)) (he : e = x ∨ H e = some (.own x)) (k:∀ b u,b ≠ e → s.heap.get? b = some u → h'.get? b = some u) (heo : ∃ u,h'.get? e = some u)
    (new : ObjOk X.prog X.w (upd H x o) h' x o) : Inv X pins σ (upd H x o) { s with heap := h',toks := t' } := I.un (Un.write mu he k heo) (I.hok.write mu he k heo new)
theorem Inv.weak {σ' : List (Option V)} (I:Inv X pins σ H s) (hl : σ'.length = σ.length) (w:∀ (i:Nat) v,σ'[i]? = some (some v) → σ[i]? = some (some v)) : Inv X pins σ' H s :=
  ⟨I.ok,I.os,I.bare,I.base,let ⟨m,hn,hl'⟩ := I.loc; ⟨m,hn,fun i x v e1 e2 e3 => hl' i x v e1 (w i v e2) e3⟩,I.cell,I.free,I.freeC,I.pin,I.hok,hl.trans I.len⟩
theorem Inv.pins_of {pins' : List (Addr × Obj)} (I:Inv X pins σ H s) (h:∀ p ∈ pins',s.heap.get? p.1 = some p.2 ∧ H p.1 = none ∧ p.1 ≠ X.env.locals ∧ p.1 ∉ X.fs ∧ ∀ v,p.2.data ≠ .cell v) : Inv X pins' σ H s :=
  ⟨I.ok,I.os,I.bare,I.base,I.loc,I.cell,I.free,I.freeC,fun p hp => (List.mem_append.mp hp).elim (fun z => I.pin p (List.mem_append_left _ z)) (h p),I.hok,I.len⟩
theorem ly {N:List Str} (hN : N.Nodup) {i j : Nat}{x:Str} (a:N[i]? = some x) (b:N[j]? = some x) : i = j :=by
  obtain ⟨h1,e1⟩ := List.getElem?_eq_some_iff.mp a
  obtain ⟨h2,e2⟩ := List.getElem?_eq_some_iff.mp b
  exact (List.getElem_inj hN).mp (e1.trans e2.symm)
theorem jB {M:Model}{A:Around}{E:Value → Shared → Prop}{i:Nat}{x:Str}{v:V}{u:Value}{Q:Unit → Shared → Prop} (I:Inv X pins σ H s) (hN : X.N.Nodup) (hi : X.N[i]? = some x) (hx : Loc X.env.scope x) (r:RelV v u)
    (h:∀ s',Inv X pins (σ.set i (some v)) H s' → (∃ a,Heap.SameBut a s.heap s'.heap ∧ (a = X.env.locals ∨ X.env.cells.lookup x = some a)) → Q () s') (hf : X.fn x = true ∨ X.env.scope.names.lookup x = some .local :=by first | exact .inl rfl | exact .inr rfl | assumption) : wpAny M A (storeName X.env x u) Q E s :=by
  obtain ⟨m,hn,hl⟩ := id I.loc
  have hcls : (X.env.scope.kind == .class || (X.env.scope.kind == .module && X.env.locals != X.env.globals)) = false :=by rw [I.ok.kind]; rfl
  have hiσ : i < σ.length :=by rw [I.len]; exact (List.getElem?_eq_some_iff.mp hi).1
  have cne := I.cne
  have tracked : ∀ {a:Addr}{h' : Heap},(∃ o,s.heap.get? a = some o ∧ H a = none) → Heap.SameBut a s.heap h' → HOk X.prog X.w H h' := fun {a h'} ha hs b ob e => by
    obtain ⟨_,_,hfree⟩ := ha
    refine (I.hok b ob e).stay (fun c w' hc q => (hs.2 c ?_).trans q) (fun _ q => q) fun _ _ q => q
    rintro rfl
    rcases hc with rfl | hc
    · rw [hfree] at e; cases e
    · rw [hfree] at hc; cases hc
  rcases hx with hk | hk
  · refine wpAny_storeName_local hk hn (fun h' hn' hs => ?_) hcls
    obtain ⟨oL,_,_,hoL,_⟩ := id hn
    refine h _ ⟨I.ok,I.os,I.bare,⟨fun b o e n hb hx => ?_,fun b o e n hb hx => ?_,I.base.free,fun b o e hx => ?_,I.base.tups,I.base.frzs,I.base.tbls⟩,⟨_,hn',fun j y v' e1 e2 e3 => ?_⟩,fun y c e => ?_,I.free,I.freeC,fun p hp => ?_,tracked ⟨oL,hoL,I.free⟩ hs,by simpa using I.len⟩ ⟨_,hs,.inl rfl⟩
    · exact (hs.2 b (Nat.ne_of_lt (Nat.lt_of_lt_of_le (Heap.lt_size e) I.ok.above))).trans (I.base.keep b o e n hb hx)
    · obtain ⟨sl,e1⟩ := I.base.slot b o e n hb hx
      exact ⟨sl,(hs.2 b (Nat.ne_of_lt (Nat.lt_of_lt_of_le (Heap.lt_size e) I.ok.above))).trans e1⟩
    · obtain ⟨o',e1⟩ := I.base.there b o e hx
      exact ⟨o',(hs.2 b (Nat.ne_of_lt (Nat.lt_of_lt_of_le (Heap.lt_size e) I.ok.above))).trans e1⟩
    · by_cases hj : j = i
      · subst hj
        rw [hi] at e1; cases e1
        rw [List.getElem?_set_self hiσ] at e2
        cases e2
        exact ⟨u,r,.inl ⟨hk,by simp⟩⟩
      · rw [List.getElem?_set_ne (Ne.symm hj)] at e2
        obtain ⟨u',r',q⟩ := hl j y v' e1 e2 e3
        refine ⟨u',r',?_⟩
        rcases q with ⟨k,e⟩ | ⟨k,c,e,z⟩
        · refine .inl ⟨k,?_⟩
          have : y ≠ x := fun e => hj (ly hN e1 (e ▸ hi))
          simp [this,e]
        · exact .inr ⟨k,c,e,z.sameBut hs (cne y c e)⟩
    · obtain ⟨w',z⟩ := I.cell y c e
      exact ⟨w',z.sameBut hs (cne y c e)⟩
    · obtain ⟨e,n,ne,nf,d⟩ := I.pin p hp
      exact ⟨(hs.2 p.1 ne).trans e,n,ne,nf,d⟩
  · have hfn : X.fn x = true :=by
      rcases hf with z | z
      · exact z
      · rw [z] at hk; cases hk
    obtain ⟨c,hc⟩ := I.ok.has x (.inl hk)
    obtain ⟨w',z⟩ := I.cell x c hc
    refine wpAny_storeName_cell I.ok.kind hk hc z (fun h' hc' hs => ?_)
    obtain ⟨oc,hoc,hocd⟩ := id z
    refine h { s with heap := h' } ⟨I.ok,I.os,I.bare,⟨fun b o e n hb hx => ?_,fun b o e n hb hx => ?_,I.base.free,fun b o e hx => ?_,I.base.tups,I.base.frzs,I.base.tbls⟩,⟨m,hn.sameBut hs (Ne.symm (cne x c hc)),fun j y v' e1 e2 e3 => ?_⟩,fun y c' e => ?_,I.free,I.freeC,fun p hp => ?_,tracked ⟨oc,hoc,I.freeC x c hc⟩ hs,by simpa using I.len⟩ ⟨c,hs,.inr hc⟩
    · exact (hs.2 b (Nat.ne_of_lt (Nat.lt_of_lt_of_le (Heap.lt_size e) (I.ok.cab x c hfn hc)))).trans (I.base.keep b o e n hb hx)
    · obtain ⟨sl,e1⟩ := I.base.slot b o e n hb hx
      exact ⟨sl,(hs.2 b (Nat.ne_of_lt (Nat.lt_of_lt_of_le (Heap.lt_size e) (I.ok.cab x c hfn hc)))).trans e1⟩
    · obtain ⟨o',e1⟩ := I.base.there b o e hx
      exact ⟨o',(hs.2 b (Nat.ne_of_lt (Nat.lt_of_lt_of_le (Heap.lt_size e) (I.ok.cab x c hfn hc)))).trans e1⟩
    · by_cases hj : j = i
      · subst hj
        rw [hi] at e1; cases e1
        rw [List.getElem?_set_self hiσ] at e2
        cases e2
        exact ⟨u,r,.inr ⟨.inl hk,c,hc,hc'⟩⟩
      · rw [List.getElem?_set_ne (Ne.symm hj)] at e2
        obtain ⟨u',r',q⟩ := hl j y v' e1 e2 e3
        refine ⟨u',r',?_⟩
        rcases q with q | ⟨k,c',e,z'⟩
        · exact .inl q
        · refine .inr ⟨k,c',e,z'.sameBut hs ?_⟩
          rintro rfl
          exact hj (ly hN e1 (I.ok.inj _ _ _ e hc ▸ hi))
    · by_cases hcc : c' = c
      · subst hcc; exact ⟨_,hc'⟩
      · obtain ⟨w2,z2⟩ := I.cell y c' e
        exact ⟨w2,z2.sameBut hs hcc⟩
    · obtain ⟨e,n,ne,nf,d⟩ := I.pin p hp
      refine ⟨(hs.2 p.1 ?_).trans e,n,ne,nf,d⟩
      intro q
      rw [q,hoc] at e
      have q' : oc = p.2 := Option.some.inj e
      exact d w' (by rw [← q']; exact hocd)
theorem ip {M:Model}{A:Around}{E:Value → Shared → Prop}{i:Nat}{x:Str}{v:V}{u:Value}{Q:Unit → Shared → Prop} (I:Inv X pins σ H s) (hN : X.N.Nodup) (hi : X.N[i]? = some x) (hx : Loc X.env.scope x) (r:RelV v u)
    (h:∀ s',Inv X pins (σ.set i (some v)) H s' → Q () s') (hf : X.fn x = true ∨ X.env.scope.names.lookup x = some .local :=by first | exact .inl rfl | exact .inr rfl | assumption) : wpAny M A (storeName X.env x u) Q E s :=
  jB I hN hi hx r (fun s' I' _ => h s' I') hf
theorem Inv.call' {s' : Shared}{ch : List Addr} (I:Inv X pins σ H s) (ho : s'.os = s.os) (u:Un (frs X.stack) ch H H' s.heap s'.heap) (hok : HOk X.prog X.w H' s'.heap) (hg : AllBare s'.gens)
    (hch : ∀ b ∈ ch,(b ∈ X.ex ∨ X.s₀.heap.objs.size ≤ b) ∧ b ≠ X.env.locals ∧ (∀ x c,X.env.cells.lookup x = some c → c ≠ b) ∧ ∀ p ∈ X.pn ++ pins,p.1 ≠ b) : Inv X pins σ H' s' :=by
  obtain ⟨h',g',d',t',o'⟩ := s'
  have e : o' = s.os := ho
  subst e
  exact I.call (g' := g') (t' := t') (d' := d') u hok hg hch
end
noncomputable abbrev XK := Value → Option Addr → Hp → Prop
noncomputable abbrev St := List (Option V)
noncomputable abbrev VK := V → Hp → Prop
noncomputable abbrev TE := St → Hp → VK → Prop
noncomputable abbrev TT := St → Hp → (Bool → Hp → Prop) → Prop
noncomputable abbrev TA := St → Hp → (List V → Hp → Prop) → Prop
structure Ends where
  nx : St → Hp → Prop
  rt : VK
  bk : St → Hp → Prop := fun _ _ => False
  ct : St → Hp → Prop := fun _ _ => False
noncomputable abbrev TS := Ends → St → Hp → Prop
noncomputable def EP (X:Cx) (pins : List (Addr × Obj)) (σ : St) (Q:VK) (u:Value) (s' : Shared) : Prop := ∃ v H',Inv X pins σ H' s' ∧ RelV v u ∧ Q v H'
noncomputable def TP (X:Cx) (pins : List (Addr × Obj)) (σ : St) (Q:Bool → Hp → Prop) (b:Bool) (s' : Shared) : Prop := ∃ H',Inv X pins σ H' s' ∧ Q b H'
noncomputable def AP (X:Cx) (pins : List (Addr × Obj)) (σ : St) (Q:List V → Hp → Prop) (us : List Value) (s' : Shared) : Prop := ∃ vs H',Inv X pins σ H' s' ∧ Vals vs us ∧ Q vs H'
noncomputable def SP (X:Cx) (pins : List (Addr × Obj)) (D:Ends) (f:Flow) (s' : Shared) : Prop :=
  match f with
  | .next => ∃ σ' H',Inv X pins σ' H' s' ∧ D.nx σ' H'
  | .brk => ∃ σ' H',Inv X pins σ' H' s' ∧ D.bk σ' H'
  | .cont => ∃ σ' H',Inv X pins σ' H' s' ∧ D.ct σ' H'
  | .ret u => ∃ v σ' H',Inv X pins σ' H' s' ∧ RelV v u ∧ D.rt v H'
noncomputable def PE (X:Cx) (e:Expr) (t:TE) : Prop :=
  ∀ (pins : List (Addr × Obj)) (s:Shared) (σ : St) (H:Hp) (Q:VK),Inv X pins σ H s → t σ H Q → wpAny (model X.prog X.w) X.A (eval e X.env) (EP X pins σ Q) X.xe s
noncomputable def PT (X:Cx) (e:Expr) (t:TT) : Prop :=
  ∀ (pins : List (Addr × Obj)) (s:Shared) (σ : St) (H:Hp) (Q:Bool → Hp → Prop),Inv X pins σ H s → t σ H Q → wpAny (model X.prog X.w) X.A (isTrue e X.env (eval e X.env)) (TP X pins σ Q) X.xe s
noncomputable def PW (X:Cx) (e:Expr) (t:TT) : Prop :=
  ∀ (whole : Sem Value) (pins : List (Addr × Obj)) (s:Shared) (σ : St) (H:Hp) (Q:Bool → Hp → Prop),Inv X pins σ H s → t σ H Q → wpAny (model X.prog X.w) X.A (isTrue e X.env whole) (TP X pins σ Q) X.xe s
theorem PW.pt {X:Cx}{e:Expr}{t:TT} (h:PW X e t) : PT X e t := h _
noncomputable def PA (X:Cx) (es : List Expr) (t:TA) : Prop :=
  ∀ (pos : Pos) (pins : List (Addr × Obj)) (s:Shared) (σ : St) (H:Hp) (Q:List V → Hp → Prop),Inv X pins σ H s → t σ H Q → wpAny (model X.prog X.w) X.A (spliced (backTo pos (starEach es X.env))) (AP X pins σ Q) X.xe s
noncomputable def PS (X:Cx) (st : Stmt) (t:TS) : Prop :=
  ∀ (pins : List (Addr × Obj)) (s:Shared) (σ : St) (H:Hp) (D:Ends),Inv X pins σ H s → t D σ H → wpAny (model X.prog X.w) X.A (exec st X.env) (SP X pins D) X.xe s
noncomputable def PSs (X:Cx) (st : List Stmt) (t:TS) : Prop :=
  ∀ (pins : List (Addr × Obj)) (s:Shared) (σ : St) (H:Hp) (D:Ends),Inv X pins σ H s → t D σ H → wpAny (model X.prog X.w) X.A (execs st X.env) (SP X pins D) X.xe s
theorem thn {α : Type}{t:Sem α}{Q Q' : α → Shared → Prop}{M:Model}{A:Around}{E:Value → Shared → Prop}{s:Shared} (h:wpAny M A t Q E s) (hQ : ∀ a s,Q a s → Q' a s) : wpAny M A t Q' E s := wpAny_mono h hQ fun _ _ x => x
end L2
namespace L2
open PySem PySem.Spec PyProof.Rows
section
variable {X:Cx}
theorem bin {a b : Expr}{ta tb : TE} (ha : PE X a ta) (hb : PE X b tb) {pins : List (Addr × Obj)}{s:Shared}{σ : St}{H:Hp}{R:V → V → Hp → Prop} (I:Inv X pins σ H s) (h:ta σ H fun x H1 => tb σ H1 fun y H2 => R x y H2)
    {α : Type}{Q:α → Shared → Prop}{f:Value → Value → Sem α}
    (hf : ∀ v u s2 x y H2,Inv X pins σ H2 s2 → RelV x v → RelV y u → R x y H2 → wpAny (model X.prog X.w) X.A (f v u) Q X.xe s2) :
    wpAny (model X.prog X.w) X.A (eval a X.env) (fun v s₁ => wpAny (model X.prog X.w) X.A (eval b X.env) (fun u s₂ => wpAny (model X.prog X.w) X.A (f v u) Q X.xe s₂) X.xe s₁) X.xe s :=by
  refine thn (ha pins s σ H _ I h) fun v s1 ⟨x,H1,I1,r1,q1⟩ => ?_
  refine thn (hb pins s1 σ H1 _ I1 q1) fun u s2 ⟨y,H2,I2,r2,q2⟩ => ?_
  exact hf v u s2 x y H2 I2 r1 r2 q2
noncomputable def tVar (i:Nat) : TE := fun σ H Q => ∃ v,σ[i]? = some (some v) ∧ Q v H
noncomputable def tC (v:V) : TE := fun _ H Q => Q v H
theorem si {i:Nat}{x:Str}{pos : Pos} (hN : X.N[i]? = some x) (hv : Vis X.env.scope x) (hd : (x == ("__debug__" : Str)) = false :=by decide) (hcd : (x == ("__classdict__" : Str)) = false :=by decide) : PE X (.Name x pos) (tVar i) :=by
  intro pins s σ H Q I h
  obtain ⟨v,e,h⟩ := h
  obtain ⟨m,hn,hl⟩ := I.loc
  obtain ⟨u,r,l⟩ := hl i x v hN e hv
  have fin : EP X pins σ Q u s := ⟨v,H,I,r,h⟩
  rcases l with ⟨hk,hm⟩ | ⟨hk,c,hc,hcell⟩
  · exact wpAny_Name (wpAny_loadName_local I.ok.kind hk hn hm fin) hd
  · rcases hk with hk | hk
    · exact wpAny_Name (wpAny_loadName_cell I.ok.kind hk hc hcell fin) hd
    · exact wpAny_Name (wpAny_loadName_free I.ok.kind hk hc hcell fin hcd) hd
theorem pe_int {i j pos} : PE X (.Constant (.int i) j pos) (tC (.int i)) := fun _ _ _ H _ I h => wpAny_Constant_int ⟨.int i,H,I.tok _,⟨_,rfl⟩,h⟩
theorem pe_bl {b j pos} : PE X (.Constant (.bool b) j pos) (tC (.bl b)) := fun _ _ _ H _ I h => Constant_bool ⟨.bl b,H,I,rfl,h⟩
theorem pe_non {j pos} : PE X (.Constant .none j pos) (tC .non) := fun _ _ _ H _ I h => Constant_none ⟨.non,H,I,rfl,h⟩
theorem pe_str {x j pos} : PE X (.Constant (.str x) j pos) (tC (.str x)) := fun _ _ _ H _ I h => Calls.Constant_str ⟨.str x,H,I.tok _,⟨_,rfl⟩,h⟩
noncomputable def Gl (X:Cx) (x:Str) : Prop := X.env.kindOf x = some .globalImplicit
theorem kq {E:Value → Shared → Prop}{pins : List (Addr × Obj)}{s:Shared}{σ : St}{H:Hp}{x:Str}{u:Value}{pos : Pos}{Q:Value → Shared → Prop} (I:Inv X pins σ H s) (hg : Gl X x) (hm : X.mg x = some u) (h:Q u s)
    (hd : (x == ("__debug__" : Str)) = false :=by decide) : wpAny (model X.prog X.w) X.A (eval (.Name x pos) X.env) Q E s :=
  Calls.Name_function_global I.ok.kind hg (Calls.loadGlobal_global (by rw [I.ok.glob]; exact I.mod.glob.keeps I.bk) hm h) hd
theorem je {E:Value → Shared → Prop}{pins : List (Addr × Obj)}{s:Shared}{σ : St}{H:Hp}{x:Str}{u:Value}{pos : Pos}{Q:Value → Shared → Prop} (I:Inv X pins σ H s) (hg : Gl X x) (hm : X.mg x = none) (hv : bootBuiltins x = some u) (h:Q u s)
    (hn : x ≠ "__name__" := by decide) (hd : (x == ("__debug__" : Str)) = false :=by decide) : wpAny (model X.prog X.w) X.A (eval (.Name x pos) X.env) Q E s :=by
  obtain ⟨mb,h1,h2⟩ := I.mod.blt
  exact Calls.Name_function_global I.ok.kind hg (Calls.loadGlobal_builtin (by rw [I.ok.glob]; exact I.mod.glob.keeps I.bk) hm (by rw [I.ok.blt]; exact h1.keeps I.bk) ((h2 x hn).trans hv) h) hd
theorem qo {x:Str}{v:V}{u:Value}{pos : Pos} (hg : Gl X x) (hm : X.mg x = some u) (r:RelV v u) (hd : (x == ("__debug__" : Str)) = false :=by decide) : PE X (.Name x pos) (tC v) :=
  fun _ _ _ H _ I h => kq I hg hm ⟨v,H,I,r,h⟩ hd
theorem qt {x:Str}{v:V}{u:Value}{pos : Pos} (hg : Gl X x) (hm : X.mg x = none) (hv : bootBuiltins x = some u) (r:RelV v u) (hn : x ≠ "__name__" := by decide) (hd : (x == ("__debug__" : Str)) = false :=by decide) : PE X (.Name x pos) (tC v) :=
  fun _ _ _ H _ I h => je I hg hm hv ⟨v,H,I,r,h⟩ hn hd
variable {a b : Expr}{ta tb : TE}{pos : Pos}
noncomputable def PC (X:Cx) (op : CmpOp) (a b : Expr) (t:TE) : Prop :=
  ∀ (pins : List (Addr × Obj)) (s:Shared) (σ : St) (H:Hp) (Q:VK),Inv X pins σ H s → t σ H Q →
    wpAny (model X.prog X.w) X.A (eval a X.env) (fun v s₁ => wpAny (model X.prog X.w) X.A (eval b X.env) (fun u s₂ => wpAny (model X.prog X.w) X.A (compareOp op v u) (EP X pins σ Q) X.xe s₂) X.xe s₁) X.xe s
noncomputable def tB (t:TE) : TT := fun σ H Q => t σ H fun x H1 => ∃ c,x = .bl c ∧ Q c H1
theorem uW {op : CmpOp}{t:TE} (h:PC X op a b t) (h1 : behindInMarks op b = false :=by first | exact nobehind _ (by decide) (by decide) | rfl) : PT X (.Compare a [op] [b] pos) (tB t) :=by
  intro pins s σ H Q I hw
  refine wpAny_isTrue_Compare1 (thn (h pins s σ H _ I hw) fun v s1 h1 => thn h1 fun u s2 h2 => thn h2 fun c s3 ⟨x,H1,I1,r1,q1⟩ => ?_) h1
  obtain ⟨d,rfl,q⟩ := q1
  cases r1
  exact wpAny_truthy_bool ⟨H1,I1,q⟩
theorem rW {e:Expr}{t:TE} (h:PE X e t) (he : ∀ whole,isTrue e X.env whole = (do let v ← whole; standAt e.pos; holding [v] (truthy v)) :=by intro _; rfl) : PT X e (tB t) :=by
  intro pins s σ H Q I hw
  refine isTrue_plain (thn (h pins s σ H _ I hw) fun v s1 ⟨x,H1,I1,r1,q1⟩ => ?_) (he _)
  obtain ⟨d,rfl,q⟩ := q1
  cases r1
  exact wpAny_truthy_bool ⟨H1,I1,q⟩
variable {tA tB' : TT}{rest : List Expr}
noncomputable def tAnd (t u : TT) : TT := fun σ H Q => t σ H fun c H1 => if c = true then u σ H1 Q else Q false H1
noncomputable def tOr (t u : TT) : TT := fun σ H Q => t σ H fun c H1 => if c = true then Q true H1 else u σ H1 Q
noncomputable def tNot (t:TT) : TT := fun σ H Q => t σ H fun c H1 => Q (!c) H1
theorem qd (ha : PT X a tA) : PW X (.BoolOp .And [a] pos) tA :=by
  intro wh pins s σ H Q I h
  refine isTrue_and (thn (ha pins s σ H Q I h) fun c s1 e => ?_)
  cases c with
  | true => exact isTrue_and_nil e
  | false => exact e
theorem rT (ha : PT X a tA) : PW X (.BoolOp .Or [a] pos) tA :=by
  intro wh pins s σ H Q I h
  refine isTrue_or (thn (ha pins s σ H Q I h) fun c s1 e => ?_)
  cases c with
  | false => exact isTrue_or_nil e
  | true => exact e
theorem rV (ha : PT X a tA) (hb : PW X (.BoolOp .And (b :: rest) pos) tB') : PW X (.BoolOp .And (a :: b :: rest) pos) (tAnd tA tB') :=by
  intro wh pins s σ H Q I h
  refine isTrue_and (thn (ha pins s σ H _ I h) fun c s1 ⟨H1,I1,q1⟩ => ?_)
  cases c with
  | true => exact hb wh pins s1 σ H1 Q I1 q1
  | false => exact ⟨H1,I1,q1⟩
theorem uf (ha : PT X a tA) (hb : PW X (.BoolOp .Or (b :: rest) pos) tB') : PW X (.BoolOp .Or (a :: b :: rest) pos) (tOr tA tB') :=by
  intro wh pins s σ H Q I h
  refine isTrue_or (thn (ha pins s σ H _ I h) fun c s1 ⟨H1,I1,q1⟩ => ?_)
  cases c with
  | true => exact ⟨H1,I1,q1⟩
  | false => exact hb wh pins s1 σ H1 Q I1 q1
theorem rX (ha : PT X a tA) : PT X (.UnaryOp .Not a pos) (tNot tA) :=by
  intro pins s σ H Q I h
  exact isTrue_not (ha pins s σ H (fun c H1 => Q (!c) H1) I h)
noncomputable def tAndV (ta tb : TE) : TE := fun σ H Q => ta σ H fun x H1 => ∃ c,x = .bl c ∧ if c = true then tb σ H1 Q else Q (.bl false) H1
noncomputable def tOrV (ta tb : TE) : TE := fun σ H Q => ta σ H fun x H1 => ∃ c,x = .bl c ∧ if c = true then Q (.bl true) H1 else tb σ H1 Q
noncomputable def tNotV (ta : TE) : TE := fun σ H Q => ta σ H fun x H1 => ∃ c,x = .bl c ∧ Q (.bl (!c)) H1
theorem sn {op}{t:TE} (h:PE X a t) : PE X (.BoolOp op [a] pos) t := fun pins s σ H Q I hw => BoolOp_one (h pins s σ H Q I hw)
theorem sv (ha : PE X a ta) (hb : PE X (.BoolOp .And (b :: rest) pos) tb) : PE X (.BoolOp .And (a :: b :: rest) pos) (tAndV ta tb) :=by
  intro pins s σ H Q I h
  refine BoolOp_and (thn (ha pins s σ H _ I h) fun v s1 ⟨x,H1,I1,r1,q1⟩ => ?_)
  obtain ⟨c,rfl,q1⟩ := q1
  cases r1
  refine wpAny_truthy_bool ?_
  cases c with
  | true => exact hb pins s1 σ H1 Q I1 q1
  | false => exact ⟨.bl false,H1,I1,rfl,q1⟩
theorem ui (ha : PE X a ta) (hb : PE X (.BoolOp .Or (b :: rest) pos) tb) : PE X (.BoolOp .Or (a :: b :: rest) pos) (tOrV ta tb) :=by
  intro pins s σ H Q I h
  refine BoolOp_or (thn (ha pins s σ H _ I h) fun v s1 ⟨x,H1,I1,r1,q1⟩ => ?_)
  obtain ⟨c,rfl,q1⟩ := q1
  cases r1
  refine wpAny_truthy_bool ?_
  cases c with
  | false => exact hb pins s1 σ H1 Q I1 q1
  | true => exact ⟨.bl true,H1,I1,rfl,q1⟩
theorem so (ha : PE X a ta) : PE X (.UnaryOp .Not a pos) (tNotV ta) :=by
  intro pins s σ H Q I h
  refine UnaryOp_ (thn (ha pins s σ H _ I h) fun v s1 ⟨x,H1,I1,r1,q1⟩ => ?_)
  obtain ⟨c,rfl,q1⟩ := q1
  cases r1
  exact not_of (wpAny_truthy_bool ⟨.bl (!c),H1,I1,rfl,q1⟩)
noncomputable def tIf (t:TT) (ta tb : TE) : TE := fun σ H Q => t σ H fun c H1 => if c = true then ta σ H1 Q else tb σ H1 Q
theorem oN {c:Expr} (hc : PT X c tA) (ha : PE X a ta) (hb : PE X b tb) : PE X (.IfExp c a b pos) (tIf tA ta tb) :=by
  intro pins s σ H Q I h
  refine wpAny_IfExp (thn (hc pins s σ H _ I h) fun d s1 ⟨H1,I1,q1⟩ => ?_)
  cases d with
  | true => exact ha pins s1 σ H1 Q I1 q1
  | false => exact hb pins s1 σ H1 Q I1 q1
end
end L2
namespace L2
open PySem PySem.Spec PyProof.Rows
noncomputable def SqL (K:PySem.W.Frag) (H:Hp) (a:Addr) (xs : List V) : Prop :=
  Rd H a (.lst xs) ∨
    ∃ (o:Obj) (its : Array Value) (n:Nat),K.lookup a = some o ∧ o.cls = .type "list" ∧ o.dict = none ∧ o.data = .seq its n ∧ its.size ≤ sizeLine ∧ Vals xs its.toList
noncomputable def SqT (K:PySem.W.Frag) (H:Hp) (a:Addr) (xs : List V) : Prop :=
  Rd H a (.tup xs) ∨
    ∃ (o:Obj) (its : Array Value) (n:Nat),K.lookup a = some o ∧ o.cls = .type "tuple" ∧ o.data = .seq its n ∧ its.size ≤ sizeLine ∧ Vals xs its.toList
noncomputable def absV : Value → Option V
  | .none => some .non
  | .bool b => some (.bl b)
  | .int i _ => some (.int i)
  | .str x _ => some (.str x)
  | .bytes b _ => some (.byt b)
  | .float b _ => some (.flt b)
  | .ref a => some (.ref a)
  | .type n => some (.ty n)
  | _ => none
theorem RelV.abs {x:V}{u:Value} (r:RelV x u) : absV u = some x :=by
  cases x with
  | non => cases r; rfl
  | bl _ => cases r; rfl
  | int _ => obtain ⟨t,rfl⟩ := r; rfl
  | str _ => obtain ⟨t,rfl⟩ := r; rfl
  | byt _ => obtain ⟨t,rfl⟩ := r; rfl
  | flt _ => obtain ⟨t,rfl⟩ := r; rfl
  | ref _ => cases r; rfl
  | ty _ => cases r; rfl
theorem RelV.inj {x y : V}{u:Value} (r:RelV x u) (q:RelV y u) : x = y := Option.some.inj (r.abs.symm.trans q.abs)
theorem Vals.inj : ∀ {xs ys : List V}{us : List Value},Vals xs us → Vals ys us → xs = ys
  | _,_,_,.nil,.nil => rfl
  | _,_,_,.cons r t,.cons r' t' => by rw [r.inj r',Vals.inj t t']
section
variable {X:Cx}{pins : List (Addr × Obj)}{σ : St}{H:Hp}{s:Shared}{a:Addr}{xs ys : List V}
theorem SqL.of {K:PySem.W.Frag} (h:H a = some (.lst xs)) : SqL K H a xs := .inl (.inl h)
theorem SqT.of {K:PySem.W.Frag} (h:H a = some (.tup xs)) : SqT K H a xs := .inl (.inl h)
theorem Inv.list (I:Inv X pins σ H s) (h:SqL X.K H a xs) : ∃ its : List Value,Vals xs its ∧ PlainL s.heap a its.toArray ∧ xs.length ≤ sizeLine :=by
  rcases h with h | ⟨o,its,n,hk,hc,hd,hs,hz,r⟩
  · obtain ⟨z,its,n,r,e⟩ := h.ok I.hok
    exact ⟨its,r,⟨_,n,e,rfl,rfl,rfl⟩,z⟩
  · refine ⟨its.toList,r,⟨o,n,I.kIn a o hk,hc,hd,by simpa using hs⟩,?_⟩
    have e := r.length
    simp only [Array.length_toList] at e
    omega
theorem Inv.tuple (I:Inv X pins σ H s) (h:SqT X.K H a xs) : ∃ its : List Value,Vals xs its ∧ IsTup s.heap a its.toArray ∧ xs.length ≤ sizeLine :=by
  rcases h with h | ⟨o,its,n,hk,hc,hs,hz,r⟩
  · obtain ⟨z,its,r,p⟩ := h.ok I.hok
    exact ⟨its,r,p.1,z⟩
  · refine ⟨its.toList,r,⟨o,I.kIn a o hk,hc,n,by simpa using hs⟩,?_⟩
    have e := r.length
    simp only [Array.length_toList] at e
    omega
theorem Inv.list_inj (I:Inv X pins σ H s) (h:SqL X.K H a xs) (h' : SqL X.K H a ys) : xs = ys :=by
  obtain ⟨its,r,⟨o,n,e,_,_,d⟩,_⟩ := I.list h
  obtain ⟨its',r',⟨o',n',e',_,_,d'⟩,_⟩ := I.list h'
  rw [e] at e'; cases e'
  rw [d] at d'
  injection d' with d1 _
  have : its = its' :=by simpa using congrArg Array.toList d1
  subst this
  exact r.inj r'
theorem Inv.tuple_inj (I:Inv X pins σ H s) (h:SqT X.K H a xs) (h' : SqT X.K H a ys) : xs = ys :=by
  obtain ⟨its,r,⟨o,e,_,n,d⟩,_⟩ := I.tuple h
  obtain ⟨its',r',⟨o',e',_,n',d'⟩,_⟩ := I.tuple h'
  rw [e] at e'; cases e'
  rw [d] at d'
  injection d' with d1 _
  have : its = its' :=by simpa using congrArg Array.toList d1
  subst this
  exact r.inj r'
end
noncomputable abbrev Cx.wish (X:Cx) (E:Value → Shared → Prop) : Cx := { X with xe := E }
noncomputable abbrev Cx.nox (X:Cx) : Cx := X.wish fun _ _ => False
theorem Cx.Ok.wish {X:Cx} (ok : X.Ok) (E:Value → Shared → Prop) : (X.wish E).Ok :=
  ⟨ok.mod,ok.kind,ok.glob,ok.blt,ok.above,ok.inj,ok.has,ok.cab,ok.hd,ok.frames,ok.stk,ok.exf,ok.bs,ok.bsz,ok.noex,ok.exfs,ok.funs,ok.frf⟩
theorem Cx.Ok.unwish {X:Cx}{E:Value → Shared → Prop} (ok : (X.wish E).Ok) : X.Ok :=
  ⟨ok.mod,ok.kind,ok.glob,ok.blt,ok.above,ok.inj,ok.has,ok.cab,ok.hd,ok.frames,ok.stk,ok.exf,ok.bs,ok.bsz,ok.noex,ok.exfs,ok.funs,ok.frf⟩
section
variable {X:Cx}{pins : List (Addr × Obj)}{σ : St}{H:Hp}{s:Shared}{E:Value → Shared → Prop}
theorem Inv.wish (I:Inv X pins σ H s) (E:Value → Shared → Prop) : Inv (X.wish E) pins σ H s := ⟨I.ok.wish E,I.os,I.bare,I.base,I.loc,I.cell,I.free,I.freeC,I.pin,I.hok,I.len⟩
theorem Inv.unwish (I:Inv (X.wish E) pins σ H s) : Inv X pins σ H s := ⟨I.ok.unwish,I.os,I.bare,I.base,I.loc,I.cell,I.free,I.freeC,I.pin,I.hok,I.len⟩
theorem SP.unwish {D:Ends}{f:Flow}{s' : Shared} (h:SP (X.wish E) pins D f s') : SP X pins D f s' :=by
  cases f with
  | next => obtain ⟨σ',H',I,q⟩ := h; exact ⟨σ',H',I.unwish,q⟩
  | brk => obtain ⟨σ',H',I,q⟩ := h; exact ⟨σ',H',I.unwish,q⟩
  | cont => obtain ⟨σ',H',I,q⟩ := h; exact ⟨σ',H',I.unwish,q⟩
  | ret u => obtain ⟨v,σ',H',I,r,q⟩ := h; exact ⟨v,σ',H',I.unwish,r,q⟩
theorem PSs.nox {st : List Stmt}{t:TS} (h:PSs X.nox st t) : PSs X st t := fun pins s σ H D I hw =>
  wpAny_mono (h pins s σ H D (I.wish _) hw) (fun _ _ q => q.unwish) fun _ _ z => False.elim z
end
section
variable {X:Cx}{st : Stmt}{rest : List Stmt}{t u : TS}{e:Expr}{te : TE}{pos : Pos}
noncomputable def tNext : TS := fun D σ H => D.nx σ H
noncomputable def tSeq (t u : TS) : TS := fun D σ H => t { D with nx := u D } σ H
theorem pss_nil : PSs X [] tNext := fun _ _ σ H _ I h => wpAny_execs_nil ⟨σ,H,I,h⟩
theorem oE (h1 : PS X st t) (h2 : PSs X rest u) : PSs X (st :: rest) (tSeq t u) :=by
  intro pins s σ H D I h
  refine wpAny_execs_cons (thn (h1 pins s σ H { D with nx := u D } I h) fun f s1 q => ?_)
  cases f with
  | next =>
    obtain ⟨σ',H',I',q⟩ := q
    exact h2 pins s1 σ' H' D I' q
  | ret v => exact q
  | brk => exact q
  | cont => exact q
theorem qf (h1 : PS X st t) : PSs X [st] t :=by
  intro pins s σ H D I h
  refine wpAny_execs_cons (thn (h1 pins s σ H D I h) fun f s1 q => ?_)
  cases f with
  | next => exact wpAny_execs_nil q
  | ret v => exact q
  | brk => exact q
  | cont => exact q
theorem Inv.quiet {pins : List (Addr × Obj)}{σ : St}{H:Hp}{s:Shared} (I:Inv X pins σ H s) : interactive X.env = false :=by simp [interactive,I.ok.kind]
noncomputable def tDrop (te : TE) : TS := fun D σ H => te σ H fun _ H1 => D.nx σ H1
theorem qg (he : PE X e te) (hs : swapsWith e none pos.line X.env = pure false :=by rfl) : PS X (.Expr e pos) (tDrop te) :=by
  intro pins s σ H D I h
  exact wpAny_Expr_any (thn (he pins s σ H _ I h) fun v s1 ⟨x,H1,I1,r1,q1⟩ => ⟨σ,H1,I1,q1⟩) I.quiet hs
noncomputable def tRet (te : TE) : TS := fun D σ H => te σ H D.rt
theorem rZ (he : PE X e te) : PS X (.Return (some e) pos) (tRet te) :=by
  intro pins s σ H D I h
  exact wpAny_Return_some (thn (he pins s σ H _ I h) fun v s1 ⟨x,H1,I1,r1,q1⟩ => ⟨x,σ,H1,I1,r1,q1⟩)
noncomputable def tIfS (c:TT) (t u : TS) : TS := fun D σ H => c σ H fun b H1 => if b = true then t D σ H1 else u D σ H1
theorem ug {c:Expr}{a b : List Stmt}{tc : TT} (hc : PT X c tc) (ha : PSs X a t) (hb : PSs X b u) : PS X (.If c a b pos) (tIfS tc t u) :=by
  intro pins s σ H D I h
  refine wpAny_If (thn (hc pins s σ H _ I h) fun d s1 ⟨H1,I1,q1⟩ => ?_)
  cases d with
  | true => exact ha pins s1 σ H1 D I1 q1
  | false => exact hb pins s1 σ H1 D I1 q1
end
noncomputable abbrev TG := V → St → Hp → (St → Hp → Prop) → Prop
noncomputable abbrev TGs := List V → St → Hp → (St → Hp → Prop) → Prop
noncomputable def PG (X:Cx) (target : Expr) (t:TG) : Prop :=
  ∀ (pins : List (Addr × Obj)) (s:Shared) (σ : St) (H:Hp) (v:V) (u:Value) (Q:St → Hp → Prop),Inv X pins σ H s → RelV v u → t v σ H Q →
    wpAny (model X.prog X.w) X.A (assign target X.env u) (fun _ s' => ∃ σ' H',Inv X pins σ' H' s' ∧ Q σ' H') X.xe s
noncomputable def PGs (X:Cx) (ts : List Expr) (t:TGs) : Prop :=
  ∀ (pins : List (Addr × Obj)) (s:Shared) (σ : St) (H:Hp) (vs : List V) (us : List Value) (Q:St → Hp → Prop),Inv X pins σ H s → Vals vs us → t vs σ H Q →
    wpAny (model X.prog X.w) X.A (assignInOrder ((assignEach ts X.env).map (·.2)) us) (fun _ s' => ∃ σ' H',Inv X pins σ' H' s' ∧ Q σ' H') X.xe s
noncomputable abbrev TSet := V → V → V → Hp → (Hp → Prop) → Prop
noncomputable def PSet (X:Cx) (t:TSet) : Prop :=
  ∀ (pins : List (Addr × Obj)) (s:Shared) (σ : St) (H:Hp) (o i v : V) (ov iv u : Value) (Q:Hp → Prop),Inv X pins σ H s → RelV o ov → RelV i iv → RelV v u → t o i v H Q →
    wpAny (model X.prog X.w) X.A (setItem ov iv u) (fun _ s' => ∃ H',Inv X pins σ H' s' ∧ Q H') X.xe s
noncomputable abbrev TIp := V → V → Hp → VK → Prop
noncomputable def PIp (X:Cx) (op : Operator) (t:TIp) : Prop :=
  ∀ (pins : List (Addr × Obj)) (s:Shared) (σ : St) (H:Hp) (x y : V) (v u : Value) (Q:VK),Inv X pins σ H s → RelV x v → RelV y u → t x y H Q →
    wpAny (model X.prog X.w) X.A (inplaceOp op v u) (EP X pins σ Q) X.xe s
section
variable {X:Cx}{pos : Pos}
noncomputable def gName (i:Nat) : TG := fun v σ H Q => Q (σ.set i (some v)) H
theorem bm {i:Nat}{x:Str} (hN : X.N.Nodup) (hi : X.N[i]? = some x) (hx : Loc X.env.scope x) (hf : X.fn x = true ∨ X.env.scope.names.lookup x = some .local :=by first | exact .inl rfl | exact .inr rfl | assumption) : PG X (.Name x pos) (gName i) :=by
  intro pins s σ H v u Q I r h
  exact wpAny_assign_Name (ip I hN hi hx r (fun s' I' => ⟨_,H,I',h⟩) hf)
noncomputable def gNil : TGs := fun vs σ H Q => vs = [] ∧ Q σ H
noncomputable def gCons (t:TG) (u:TGs) : TGs := fun vs σ H Q => ∃ v r,vs = v :: r ∧ t v σ H fun σ' H' => u r σ' H' Q
theorem j4 : PGs X [] gNil :=by
  intro pins s σ H vs us Q I r h
  obtain ⟨e,h⟩ := h
  subst e
  cases r
  exact assignInOrder_nil ⟨σ,H,I,h⟩
theorem eJ {e:Expr}{es : List Expr}{t:TG}{u:TGs} (h1 : PG X e t) (h2 : PGs X es u)
    (hs : (assignEach (e :: es) X.env).map (·.2) = assign e X.env :: (assignEach es X.env).map (·.2) :=by rfl) : PGs X (e :: es) (gCons t u) :=by
  intro pins s σ H vs us Q I r h
  obtain ⟨v,vr,e1,h⟩ := h
  subst e1
  cases r with
  | cons r rr =>
    rw [hs]
    refine assignInOrder_cons (thn (h1 pins s σ H _ _ _ I r h) fun _ s1 ⟨σ1,H1,I1,q1⟩ => ?_)
    exact h2 pins s1 σ1 H1 _ _ Q I1 rr q1
noncomputable def gTup (K:PySem.W.Frag) (n:Nat) (t:TGs) : TG := fun v σ H Q => ∃ a xs,v = .ref a ∧ SqT K H a xs ∧ xs.length = n ∧ t xs σ H Q
theorem lZ {es : List Expr}{k:Nat}{t:TGs}{n:Nat} (hc : X.calm = true) (h:PGs X es t)
    (hn : (assignEach es X.env).length = n :=by rfl) (hst : (assignEach es X.env).findIdx? (·.1) = none :=by rfl) : PG X (.Tuple es k pos) (gTup X.K n t) :=by
  intro pins s σ H v u Q I r hw
  obtain ⟨a,xs,e1,hq,hl,hw⟩ := hw
  subst e1
  cases r
  obtain ⟨its,rv,ht,hz⟩ := I.tuple hq
  refine assign_Tuple_tuple (I.ok.hd hc) ht (by simp [hn,← hl,rv.length]) hst fun h' hx => ?_
  have I1 : Inv X pins σ H { s with heap := h' } := I.kept (t' := s.toks) fun b o e => hx b o (Nat.ne_of_lt (Heap.lt_size e)) e
  exact h pins _ σ H xs _ Q I1 (by simpa using rv) hw
noncomputable def gSub (to ti : TE) (t:TSet) : TG := fun v σ H Q => to σ H fun o H1 => ti σ H1 fun i H2 => t o i v H2 fun H3 => Q σ H3
theorem sh {o i : Expr}{to ti : TE}{t:TSet} (ho : PE X o to) (hi : PE X i ti) (hs : PSet X t)
    (ha : ∀ v,assign (.Subscript o i pos) X.env v = (do
      let ov ← holding [v] (eval o X.env)
      let iv ← holding [v,ov] (eval i X.env)
      standAt pos
      holding [v,ov,iv] (setItem ov iv v)
      release [v,ov,iv] []) :=by intro _; rfl) : PG X (.Subscript o i pos) (gSub to ti t) :=by
  intro pins s σ H v u Q I r h
  rw [ha]
  refine wpAny_bind (wpAny_holding (thn (ho pins s σ H _ I h) fun ov s1 ⟨x,H1,I1,r1,q1⟩ => ?_))
  refine wpAny_bind (wpAny_holding (thn (hi pins s1 σ H1 _ I1 q1) fun iv s2 ⟨y,H2,I2,r2,q2⟩ => ?_))
  refine wpAny_bind (wpAny_standAt (wpAny_bind (wpAny_holding (thn (hs pins s2 σ H2 x y v ov iv u _ I2 r1 r2 r q2) fun _ s3 ⟨H3,I3,q3⟩ => ?_))))
  exact wpAny_release ⟨σ,H3,I3,q3⟩
noncomputable def tAsg (te : TE) (g:TG) : TS := fun D σ H => te σ H fun x H1 => g x σ H1 D.nx
theorem oG {tg e : Expr}{te : TE}{g:TG} (he : PE X e te) (hg : PG X tg g) (hs : swapsWithSole [tg] e pos.line X.env = pure false :=by rfl) (hw : swappedStores [tg] e X.env = pure none :=by rfl)
    (h1 : (assignEach [tg] X.env).map (·.2) = [assign tg X.env] :=by rfl) : PS X (.Assign [tg] e pos) (tAsg te g) :=by
  intro pins s σ H D I h
  refine wpAny_Assign_stores (thn (he pins s σ H _ I h) fun v s1 ⟨x,H1,I1,r1,q1⟩ => ?_) hs hw
  rw [h1]
  exact thn (hg pins s1 σ H1 x v _ I1 r1 q1) fun _ s2 q => q
theorem rY {i:Nat}{x:Str}{e:Expr}{te : TE}{pos' : Pos} (hN : X.N.Nodup) (hi : X.N[i]? = some x) (hx : Loc X.env.scope x) (he : PE X e te) (hs : swapsWith e (some (.Name x pos')) pos.line X.env = pure false :=by rfl) (hf : X.fn x = true ∨ X.env.scope.names.lookup x = some .local :=by first | exact .inl rfl | exact .inr rfl | assumption) :
    PS X (.Assign [.Name x pos'] e pos) (tAsg te (gName i)) :=by
  intro pins s σ H D I h
  refine wpAny_Assign_Name (thn (he pins s σ H _ I h) fun v s1 ⟨y,H1,I1,r1,q1⟩ => ?_) hs
  exact ip I1 hN hi hx r1 (fun s2 I2 => ⟨_,H1,I2,q1⟩) hf
noncomputable def tAug (i:Nat) (te : TE) (ti : TIp) : TS := fun D σ H => ∃ x,σ[i]? = some (some x) ∧ te σ H fun y H1 => ti x y H1 fun z H2 => D.nx (σ.set i (some z)) H2
theorem sd {i:Nat}{x:Str}{e:Expr}{te : TE}{op : Operator}{ti : TIp}{pos' : Pos} (hN : X.N.Nodup) (hi : X.N[i]? = some x) (hx : Loc X.env.scope x) (he : PE X e te) (ho : PIp X op ti) (hf : X.fn x = true ∨ X.env.scope.names.lookup x = some .local :=by first | exact .inl rfl | exact .inr rfl | assumption) :
    PS X (.AugAssign (.Name x pos') op e pos) (tAug i te ti) :=by
  intro pins s σ H D I h
  obtain ⟨v,e1,h⟩ := h
  obtain ⟨m,hn,hl⟩ := I.loc
  have vis : Vis X.env.scope x :=by rcases hx with k | k; exact .inl k; exact .inr (.inl k)
  obtain ⟨u,r,l⟩ := hl i x v hi e1 vis
  refine wpAny_AugAssign_Name ?_
  have go : wpAny (model X.prog X.w) X.A (eval e X.env) (fun w s₂ => wpAny (model X.prog X.w) X.A (inplaceOp op u w) (fun r s₃ => wpAny (model X.prog X.w) X.A (storeName X.env x r) (fun _ => SP X pins D .next) X.xe s₃) X.xe s₂) X.xe s :=by
    refine thn (he pins s σ H _ I h) fun w s1 ⟨y,H1,I1,r1,q1⟩ => ?_
    refine thn (ho pins s1 σ H1 v y u w _ I1 r r1 q1) fun z s2 ⟨zv,H2,I2,r2,q2⟩ => ?_
    exact ip I2 hN hi hx r2 (fun s3 I3 => ⟨_,H2,I3,q2⟩) hf
  rcases l with ⟨hk,hm⟩ | ⟨hk,c,hc,hcell⟩
  · exact wpAny_loadName_local I.ok.kind hk hn hm go
  · rcases hk with hk | hk
    · exact wpAny_loadName_cell I.ok.kind hk hc hcell go
    · rcases hx with k | k
      · have : X.env.scope.names.lookup x = some .free := hk
        rw [k] at this; cases this
      · have : X.env.scope.names.lookup x = some .free := hk
        rw [k] at this; cases this
end
section
variable {X:Cx}{pos : Pos}
noncomputable def rG (c:TT) (tb : TS) : TS := fun D σ H => ∃ W : Nat → St → Hp → Prop,(∃ m,W m σ H) ∧ ∀ m σ H,W m σ H →
  c σ H fun b H1 => if b = true then ∃ N : St → Hp → Prop,(∀ σ' H',N σ' H' → ∃ m',m' < m ∧ W m' σ' H') ∧ tb { D with nx := N,ct := N,bk := D.nx } σ H1 else D.nx σ H1
theorem oF {c:Expr}{body : List Stmt}{tc : TT}{tb : TS} (hp : PassesOwn (model X.prog X.w) X.A X.env X.xe) (hc : PT X c tc) (hb : PSs X body tb) : PS X (.While c body [] pos) (rG tc tb) :=by
  intro pins s σ H D I h
  obtain ⟨W,⟨m0,w0⟩,turn⟩ := h
  refine wpAny_While (codeAny_whileLoop (fun n s' => ∃ σ' H',Inv X pins σ' H' s' ∧ W n σ' H') ?_ m0 ⟨σ,H,I,w0⟩)
  rintro n s1 ⟨σ1,H1,I1,w1⟩
  refine wpAny_passesOwn hp (thn (hc pins s1 σ1 H1 _ I1 (turn n σ1 H1 w1)) fun b s2 ⟨H2,I2,q2⟩ => ?_)
  cases b with
  | true =>
    obtain ⟨N,hN,q2⟩ := q2
    rw [if_pos rfl]
    refine wpAny_passesOwn hp (thn (hb pins s2 σ1 H2 _ I2 q2) fun f s3 q3 => ?_)
    cases f with
    | next =>
      obtain ⟨σ3,H3,I3,n3⟩ := q3
      obtain ⟨m',hm,w3⟩ := hN σ3 H3 n3
      exact ⟨m',hm,σ3,H3,I3,w3⟩
    | cont =>
      obtain ⟨σ3,H3,I3,n3⟩ := q3
      obtain ⟨m',hm,w3⟩ := hN σ3 H3 n3
      exact ⟨m',hm,σ3,H3,I3,w3⟩
    | brk => exact q3
    | ret v => exact q3
  | false =>
    rw [if_neg Bool.false_ne_true]
    exact wpAny_execs_nil ⟨σ1,H2,I2,q2⟩
end
structure It where
  go : Nat → Hp → Prop
  yld : Nat → Hp → V → Hp → Prop
  stop : Nat → Hp → Prop
noncomputable def FpOk (X:Cx) (pins : List (Addr × Obj)) (H:Hp) (b:Addr) : Prop :=
  H b = none ∧ b ≠ X.env.locals ∧ b ∉ X.fs ∧ (b ∈ X.ex ∨ X.s₀.heap.objs.size ≤ b) ∧ (∀ x c,X.env.cells.lookup x = some c → c ≠ b) ∧ ∀ p ∈ X.pn ++ pins,p.1 ≠ b
theorem Inv.fpOk {X:Cx}{pins : List (Addr × Obj)}{σ : St}{H H' : Hp}{s:Shared}{b:Addr} (I:Inv X pins σ H s) (hb : s.heap.objs.size ≤ b) (hn : H' b = none) : FpOk X pins H' b :=by
  refine ⟨hn,Nat.ne_of_gt (Nat.lt_of_lt_of_le I.lt hb),I.nofs hb,.inr (Nat.le_trans I.sz hb),fun x c e z => ?_,fun p hp z => ?_⟩
  · obtain ⟨v,q⟩ := I.cell x c e
    exact absurd (Nat.lt_of_lt_of_le q.lt (by rw [z]; exact hb)) (Nat.lt_irrefl _)
  · exact absurd (Nat.lt_of_lt_of_le (Heap.lt_size (I.pin p hp).1) (by rw [z]; exact hb)) (Nat.lt_irrefl _)
structure Turn (P:Program) (w:World) (K:PySem.W.Frag) (tg : Expr) (J:It) (fp : List Addr) (it : Addr) (tn : Nat → Heap → Prop) : Prop where
  mem : it ∈ fp
  obj : ∀ i h,tn i h → ∀ b ∈ fp,∃ o,h.get? b = some o ∧ ∀ v,o.data ≠ .cell v
  keep : ∀ i h h',tn i h → (∀ b ∈ fp,∀ o,h.get? b = some o → h'.get? b = some o) → tn i h'
  item : ∀ (X:Cx),X.prog = P → X.w = w → X.K = K → X.calm = true → ∀ (i:Nat) (pins : List (Addr × Obj)) (s:Shared) (σ : St) (H:Hp) (E:Value → Shared → Prop),Inv X pins σ H s → (∀ b ∈ fp,FpOk X pins H b) → tn i s.heap → J.go i H →
    wpAny (model P w) X.A (pyNext (.ref it)) (fun r s1 => ∃ u,r = some u ∧
      wpAny (model P w) X.A (letOwnedTupleGo tg (.ref it) u) (fun _ s2 => ∃ x H',Inv X pins σ H' s2 ∧ RelV x u ∧ J.yld i H x H' ∧ tn (i + 1) s2.heap ∧ ∀ b ∈ fp,H' b = none) E s1) E s
  done : ∀ (X:Cx),X.prog = P → X.w = w → X.K = K → X.calm = true → ∀ (i:Nat) (pins : List (Addr × Obj)) (s:Shared) (σ : St) (H:Hp) (E:Value → Shared → Prop),Inv X pins σ H s → (∀ b ∈ fp,FpOk X pins H b) → tn i s.heap → J.stop i H →
    wpAny (model P w) X.A (pyNext (.ref it)) (fun r s1 => r = none ∧ Inv X pins σ H s1) E s
  self : ∀ (A:Around) (i:Nat) (s:Shared) (Q:Value → Shared → Prop) (E:Value → Shared → Prop),tn i s.heap → Q (.ref it) s → wpAny (model P w) A (pyIter (.ref it)) Q E s
noncomputable abbrev TI := St → Hp → (It → Hp → Prop) → Prop
noncomputable def PIE (X:Cx) (pins : List (Addr × Obj)) (σ : St) (tg : Expr) (R:It → Hp → Prop) (itv : Value) (s2 : Shared) : Prop :=
  ∃ (it : Addr) (fp : List Addr) (tn : Nat → Heap → Prop) (J:It) (H' : Hp),itv = .ref it ∧ Inv X pins σ H' s2 ∧ Turn X.prog X.w X.K tg J fp it tn ∧ tn 0 s2.heap ∧ (∀ b ∈ fp,FpOk X pins H' b) ∧ R J H'
noncomputable def PI (X:Cx) (tg iter : Expr) (wi : TI) : Prop :=
  ∀ (pins : List (Addr × Obj)) (s:Shared) (σ : St) (H:Hp) (R:It → Hp → Prop),Inv X pins σ H s → wi σ H R →
    wpAny (model X.prog X.w) X.A (eval iter X.env) (fun v s1 => wpAny (model X.prog X.w) X.A (pyIter v) (PIE X pins σ tg R) X.xe s1) X.xe s
theorem pB {M:Model}{A:Around}{E:Value → Shared → Prop}{s:Shared}{tg : Expr}{it : Addr}{u:Value}{o:Obj}{n:String}{vs : Array Value}{Q:Unit → Shared → Prop} (ho : s.heap.get? it = some o) (hc : o.cls = .type n) (hd : o.data = .fields vs)
    (hn : ["enumerate", "zip", "dict_itemiterator", "dict_reverseitemiterator", "odict_iterator", "itertools.zip_longest", "itertools.pairwise"].contains n = false) (hQ : Q () s) : wpAny M A (letOwnedTupleGo tg (.ref it) u) Q E s :=by
  unfold letOwnedTupleGo
  cases tg <;> first
    | exact wpAny_pure hQ
    | (cases u <;> first
        | exact wpAny_pure hQ
        | (refine wpAny_bind (wpAny_load ho ?_)
           rw [hc,hd]
           show wpAny M A (if (["enumerate", "zip", "dict_itemiterator", "dict_reverseitemiterator", "odict_iterator", "itertools.zip_longest", "itertools.pairwise"].contains n && vs[0]? == some (rawInt _)) = true then _ else _) Q E s
           rw [if_neg (by intro h; rw [hn,Bool.false_and] at h; cases h)]
           exact wpAny_pure hQ))
noncomputable def Itl (K:PySem.W.Frag) (a:Addr) : It :=
  ⟨fun i H => ∃ xs x,SqL K H a xs ∧ xs[i]? = some x,fun i H x H' => H' = H ∧ ∀ xs,SqL K H a xs → xs[i]? = some x,fun i H => ∃ xs,SqL K H a xs ∧ xs.length ≤ i⟩
noncomputable def Itt (K:PySem.W.Frag) (a:Addr) : It :=
  ⟨fun i H => ∃ xs x,SqT K H a xs ∧ xs[i]? = some x,fun i H x H' => H' = H ∧ ∀ xs,SqT K H a xs → xs[i]? = some x,fun i H => ∃ xs,SqT K H a xs ∧ xs.length ≤ i⟩
noncomputable def Itr (lo : Int) (n:Nat) : It := ⟨fun i _ => i < n,fun i H x H' => H' = H ∧ x = .int (lo + i),fun i _ => n ≤ i⟩
theorem nA {P:Program}{w:World}{K:PySem.W.Frag}{tg : Expr} (a it : Addr) : Turn P w K tg (Itl K a) [it] it (fun i h => h.IsListIter it a i) where
  mem :=by simp
  obj := fun i h st b hb => by
    have e : b = it :=by simpa using hb
    subst e
    obtain ⟨o,e,c,d⟩ := st
    exact ⟨o,e,fun v z => by rw [d] at z; cases z⟩
  keep := fun i h h' st k => st.at fun o e => k it (by simp) o e
  item :=by
    intro X hP hw hK hc i pins s σ H E I hf st hg
    subst hP hw hK
    obtain ⟨xs,x,hq,hx⟩ := hg
    obtain ⟨its,rv,p,hz⟩ := I.list hq
    obtain ⟨u,hu,ru⟩ := rv.get hx
    obtain ⟨f0,f1,f2,f3,f4,f5⟩ := hf it (by simp)
    refine wpAny_pyNext_list_item st p.isList (x := u) (by simpa using hu) fun h' st' sb => ?_
    have I1 : Inv X pins σ H { s with heap := h' } := I.turned (t' := s.toks) (fun b o hb e => (sb.2 b hb).trans e) f0 f1 f3 f4 f5
    obtain ⟨o,e,c,d⟩ := id st'
    exact ⟨u,rfl,pB (s := { s with heap := h' }) e c d (by decide) ⟨x,H,I1,ru,⟨rfl,fun ys hy => by rw [I.list_inj hy hq]; exact hx⟩,st',fun b hb => (hf b hb).1⟩⟩
  done :=by
    intro X hP hw hK hc i pins s σ H E I hf st hg
    subst hP hw hK
    obtain ⟨xs,hq,hx⟩ := hg
    obtain ⟨its,rv,p,hz⟩ := I.list hq
    obtain ⟨f0,f1,f2,f3,f4,f5⟩ := hf it (by simp)
    have hl := rv.length
    exact wpAny_pyNext_list_end (I.ok.hd hc) st p.isList (by simp; omega) fun h' eb => ⟨rfl,I.turned (t' := s.toks) (fun b o hb e => eb b o hb e) f0 f1 f3 f4 f5⟩
  self := fun _ _ _ _ _ st h => wpAny_pyIter_listiter st h
theorem lS {P:Program}{w:World}{K:PySem.W.Frag}{tg : Expr} (a it : Addr) : Turn P w K tg (Itt K a) [it] it (fun i h => h.IsTupleIter it a i) where
  mem :=by simp
  obj := fun i h st b hb => by
    have e : b = it :=by simpa using hb
    subst e
    obtain ⟨o,e,c,d⟩ := st
    exact ⟨o,e,fun v z => by rw [d] at z; cases z⟩
  keep := fun i h h' st k => st.at fun o e => k it (by simp) o e
  item :=by
    intro X hP hw hK hc i pins s σ H E I hf st hg
    subst hP hw hK
    obtain ⟨xs,x,hq,hx⟩ := hg
    obtain ⟨its,rv,p,hz⟩ := I.tuple hq
    obtain ⟨u,hu,ru⟩ := rv.get hx
    obtain ⟨f0,f1,f2,f3,f4,f5⟩ := hf it (by simp)
    refine wpAny_pyNext_tuple_item st (show s.heap.IsTuple a its.toArray from p) (x := u) (by simpa using hu) fun h' st' sb => ?_
    have I1 : Inv X pins σ H { s with heap := h' } := I.turned (t' := s.toks) (fun b o hb e => (sb.2 b hb).trans e) f0 f1 f3 f4 f5
    obtain ⟨o,e,c,d⟩ := id st'
    exact ⟨u,rfl,pB (s := { s with heap := h' }) e c d (by decide) ⟨x,H,I1,ru,⟨rfl,fun ys hy => by rw [I.tuple_inj hy hq]; exact hx⟩,st',fun b hb => (hf b hb).1⟩⟩
  done :=by
    intro X hP hw hK hc i pins s σ H E I hf st hg
    subst hP hw hK
    obtain ⟨xs,hq,hx⟩ := hg
    obtain ⟨its,rv,p,hz⟩ := I.tuple hq
    obtain ⟨f0,f1,f2,f3,f4,f5⟩ := hf it (by simp)
    have hl := rv.length
    exact wpAny_pyNext_tuple_end (I.ok.hd hc) st (show s.heap.IsTuple a its.toArray from p) (by simp; omega) fun h' eb => ⟨rfl,I.turned (t' := s.toks) (fun b o hb e => eb b o hb e) f0 f1 f3 f4 f5⟩
  self := fun _ _ _ _ _ st h => wpAny_pyIter_tupleiter st h
theorem lT {P:Program}{w:World}{K:PySem.W.Frag}{tg : Expr} (it : Addr) (lo : Int) (n:Nat) : Turn P w K tg (Itr lo n) [it] it (fun i h => IsRangeIter h it (lo + (i:Nat) * 1) ((n:Int) - (i:Nat)) 1) where
  mem :=by simp
  obj := fun i h st b hb => by
    have e : b = it :=by simpa using hb
    subst e
    exact ⟨_,st,fun v z => by
      have z' : Data.fields _ = Data.cell v := z
      cases z'⟩
  keep := fun i h h' st k => k it (by simp) _ st
  item :=by
    intro X hP hw hK hc i pins s σ H E I hf st hg
    subst hP hw hK
    obtain ⟨f0,f1,f2,f3,f4,f5⟩ := hf it (by simp)
    have W := Walks.range (prog := X.prog) (w := X.w) (I.ok.hd hc) it lo 1 n
    refine W.item i s _ _ hg st fun v h' tk hv st' kk => ?_
    obtain ⟨t,rfl⟩ := hv
    have I1 : Inv X pins σ H { s with heap := h',toks := tk } := I.turned (fun b o hb e => kk b o (by simpa using hb) e) f0 f1 f3 f4 f5
    refine ⟨_,rfl,pB (s := { s with heap := h',toks := tk }) (n := "range_iterator") st' rfl rfl (by decide) ⟨.int (lo + i),H,I1,⟨t,?_⟩,⟨rfl,rfl⟩,st',fun b hb => (hf b hb).1⟩⟩
    rw [Int.mul_one]
  done :=by
    intro X hP hw hK hc i pins s σ H E I hf st hg
    subst hP hw hK
    obtain ⟨f0,f1,f2,f3,f4,f5⟩ := hf it (by simp)
    exact wpAny_pyNext_range_end (I.ok.hd hc) st (by have : n ≤ i := hg; omega) fun h' eb => ⟨rfl,I.turned (t' := s.toks) (fun b o hb e => eb b o hb e) f0 f1 f3 f4 f5⟩
  self := fun _ _ _ _ _ st h => wpAny_pyIter_rangeiter st h
end L2
namespace L2
open PySem PySem.Spec PyProof.Rows
section
variable {X:Cx}{tg : Expr}
noncomputable def iList (K:PySem.W.Frag) (tl : TE) : TI := fun σ H R => tl σ H fun x H1 => ∃ a,x = .ref a ∧ (∃ xs,SqL K H1 a xs) ∧ R (Itl K a) H1
noncomputable def iTup (K:PySem.W.Frag) (tl : TE) : TI := fun σ H R => tl σ H fun x H1 => ∃ a,x = .ref a ∧ (∃ xs,SqT K H1 a xs) ∧ R (Itt K a) H1
theorem qk {l:Expr}{tl : TE} (hl : PE X l tl) : PI X tg l (iList X.K tl) :=by
  intro pins s σ H R I h
  refine thn (hl pins s σ H _ I h) fun v s1 ⟨x,H1,I1,r1,q1⟩ => ?_
  obtain ⟨a,e,⟨xs,hq⟩,q⟩ := q1
  subst e
  cases r1
  obtain ⟨its,rv,p,hz⟩ := I1.list hq
  refine wpAny_pyIter_list p.isList ?_
  refine ⟨s1.heap.objs.size,[s1.heap.objs.size],_,_,H1,rfl,I1.kept (t' := s1.toks) fun b o e => Heap.get?_push_of_some _ e,nA a _,⟨_,Heap.get?_push_size _ rfl,rfl,rfl⟩,fun b hb => ?_,q⟩
  have e : b = s1.heap.objs.size :=by simpa using hb
  subst e
  exact I1.fpOk (Nat.le_refl _) (I1.hok.fresh (Nat.le_refl _))
theorem sf {l:Expr}{tl : TE} (hl : PE X l tl) : PI X tg l (iTup X.K tl) :=by
  intro pins s σ H R I h
  refine thn (hl pins s σ H _ I h) fun v s1 ⟨x,H1,I1,r1,q1⟩ => ?_
  obtain ⟨a,e,⟨xs,hq⟩,q⟩ := q1
  subst e
  cases r1
  obtain ⟨its,rv,p,hz⟩ := I1.tuple hq
  refine wpAny_pyIter_tuple (show s1.heap.IsTuple a its.toArray from p) ?_
  refine ⟨s1.heap.objs.size,[s1.heap.objs.size],_,_,H1,rfl,I1.kept (t' := s1.toks) fun b o e => Heap.get?_push_of_some _ e,lS a _,⟨_,Heap.get?_push_size _ rfl,rfl,rfl⟩,fun b hb => ?_,q⟩
  have e : b = s1.heap.objs.size :=by simpa using hb
  subst e
  exact I1.fpOk (Nat.le_refl _) (I1.hok.fresh (Nat.le_refl _))
theorem kY {pins : List (Addr × Obj)}{σ : St}{H:Hp}{s:Shared}{R:It → Hp → Prop}{E:Value → Shared → Prop}{lo hi : Int}{t u v : Tok}{tk : Nat} (I:Inv X pins σ H s) (h1 : -(2 ^ 62) ≤ lo) (h2 : lo < 2 ^ 62) (h3 : -(2 ^ 62) ≤ hi) (h4 : hi < 2 ^ 62)
    (q:R (Itr lo (hi - lo).toNat) H) : wpAny (model X.prog X.w) X.A (pyIter (.ref s.heap.objs.size)) (PIE X pins σ tg R) E { s with heap := s.heap.push { cls := .type "range",data := .fields #[.int lo t,.int hi u,.int 1 v] },toks := tk } :=by
  refine wpAny_pyIter_range (IsRange.new ..) (small_one h1 h2 h3 h4) ?_
  have I1 : Inv X pins σ H { s with heap := s.heap.push { cls := .type "range",data := .fields #[.int lo t,.int hi u,.int 1 v] },toks := tk } := I.kept fun b o e => Heap.get?_push_of_some _ e
  refine ⟨(s.heap.push { cls := .type "range",data := .fields #[.int lo t,.int hi u,.int 1 v] }).objs.size,[(s.heap.push { cls := .type "range",data := .fields #[.int lo t,.int hi u,.int 1 v] }).objs.size],_,_,H,rfl,
    I1.kept (t' := tk) fun b o e => Heap.get?_push_of_some _ e,lT _ lo (hi - lo).toNat,?_,fun b hb => ?_,q⟩
  · have e1 : lo + ((0 : Nat) : Int) * 1 = lo :=by simp
    have e2 : (((hi - lo).toNat : Nat) : Int) - ((0 : Nat) : Int) = Builtin.Range.rangeSize lo hi 1 :=by rw [rangeSize_one]; split <;> omega
    show IsRangeIter _ _ (lo + ((0 : Nat) : Int) * 1) ((((hi - lo).toNat : Nat) : Int) - ((0 : Nat) : Int)) 1
    rw [e1,e2]
    exact Heap.get?_push_size _ rfl
  · have e : b = (s.heap.push { cls := .type "range",data := .fields #[.int lo t,.int hi u,.int 1 v] }).objs.size :=by simpa using hb
    subst e
    exact I1.fpOk (Nat.le_refl _) (I1.hok.fresh (Nat.le_refl _))
noncomputable def iRng1 (ta : TA) : TI := fun σ H R => ta σ H fun vs H1 => ∃ j : Int,vs = [.int j] ∧ -(2 ^ 62) ≤ j ∧ j < 2 ^ 62 ∧ R (Itr 0 j.toNat) H1
noncomputable def iRng2 (ta : TA) : TI := fun σ H R => ta σ H fun vs H1 => ∃ i j : Int,vs = [.int i,.int j] ∧ (-(2 ^ 62) ≤ i ∧ i < 2 ^ 62 ∧ -(2 ^ 62) ≤ j ∧ j < 2 ^ 62) ∧ R (Itr i (j - i).toNat) H1
theorem nK {a:Expr}{ta : TA}{p pos : Pos} (hg : Gl X "range") (hm : X.mg "range" = none) (ha : PA X [a] ta) (hs : starEach [a] X.env = [(false,eval a X.env)] :=by rfl) : PI X tg (.Call (.Name "range" p) [a] [] pos) (iRng1 ta) :=by
  intro pins s σ H R I h
  refine Call_ (je I hg hm boot_range (PyProof.Rows.callWith_type1 (thn (ha pos pins s σ H _ I h) fun us s1 ⟨vs,H1,I1,r1,q1⟩ => ?_) hs rfl))
  obtain ⟨j,e,q1,q2,q⟩ := q1
  subst e
  cases r1 with
  | cons r rr =>
    cases rr
    obtain ⟨t,rfl⟩ := r
    exact call_range_1 (kY I1 (by omega) (by omega) q1 q2 (by simpa using q))
theorem nJ {a b : Expr}{ta : TA}{p pos : Pos} (hg : Gl X "range") (hm : X.mg "range" = none) (ha : PA X [a,b] ta) (hs : starEach [a,b] X.env = [(false,eval a X.env),(false,eval b X.env)] :=by rfl) (hs2 : starEach [b] X.env = [(false,eval b X.env)] :=by rfl) :
    PI X tg (.Call (.Name "range" p) [a,b] [] pos) (iRng2 ta) :=by
  intro pins s σ H R I h
  refine Call_ (je I hg hm boot_range (PyProof.Rows.callWith_type1 (thn (ha pos pins s σ H _ I h) fun us s1 ⟨vs,H1,I1,r1,q1⟩ => ?_) (by rw [hs,hs2]) (by rw [hs2]; rfl)))
  obtain ⟨i,j,e,⟨q1,q2,q3,q4⟩,q⟩ := q1
  subst e
  cases r1 with
  | cons r rr =>
    cases rr with
    | cons r' rr =>
      cases rr
      obtain ⟨t,rfl⟩ := r
      obtain ⟨t',rfl⟩ := r'
      exact call_range_2 (kY I1 q1 q2 q3 q4 q)
noncomputable def tFor (wi : TI) (g:TG) (tb : TS) : TS := fun D σ H => wi σ H fun J H1 => ∃ W : Nat → Nat → St → Hp → Prop,(∃ m,W 0 m σ H1) ∧ ∀ i m σ H,W i m σ H →
  (J.stop i H ∧ D.nx σ H) ∨ (J.go i H ∧ ∃ N : St → Hp → Prop,(∀ σ' H',N σ' H' → ∃ m',m' < m ∧ W (i + 1) m' σ' H') ∧ ∀ x H',J.yld i H x H' → g x σ H' fun σ2 H2 => tb { D with nx := N,ct := N,bk := D.nx } σ2 H2)
noncomputable def iF (fp : List Addr) (h:Heap) : List (Addr × Obj) := fp.filterMap fun b => (h.get? b).map fun o => (b,o)
theorem fY {fp : List Addr}{h:Heap}{b:Addr}{o:Obj} (hb : b ∈ fp) (e:h.get? b = some o) : (b,o) ∈ iF fp h := List.mem_filterMap.mpr ⟨b,hb,by rw [e]; rfl⟩
theorem nN {fp : List Addr}{h:Heap}{p:Addr × Obj} (hp : p ∈ iF fp h) : p.1 ∈ fp ∧ h.get? p.1 = some p.2 :=by
  obtain ⟨b,hb,e⟩ := List.mem_filterMap.mp hp
  cases q : h.get? b with
  | none => rw [q] at e; cases e
  | some o =>
    rw [q] at e
    have e' : (b,o) = p := Option.some.inj e
    subst e'
    exact ⟨hb,q⟩
theorem Inv.pinned {pins : List (Addr × Obj)}{σ : St}{H:Hp}{s:Shared}{fp : List Addr} (I:Inv X pins σ H s) (hf : ∀ b ∈ fp,FpOk X pins H b) (ho : ∀ b ∈ fp,∃ o,s.heap.get? b = some o ∧ ∀ v,o.data ≠ .cell v) : Inv X (pins ++ iF fp s.heap) σ H s :=
  I.pins_of fun p hp => (List.mem_append.mp hp).elim (fun z => I.pin p (List.mem_append_right _ z)) fun z => by
    obtain ⟨hb,e⟩ := nN z
    obtain ⟨f0,f1,f2,_⟩ := hf p.1 hb
    obtain ⟨o,e',d⟩ := ho p.1 hb
    rw [e] at e'; cases e'
    exact ⟨e,f0,f1,f2,d⟩
theorem Inv.unpinned {pins pl : List (Addr × Obj)}{σ : St}{H:Hp}{s:Shared} (I:Inv X (pins ++ pl) σ H s) : Inv X pins σ H s := I.pins_of fun p hp => I.pin p (List.mem_append_right _ (List.mem_append_left _ hp))
theorem r6 {iter : Expr}{body : List Stmt}{wi : TI}{g:TG}{tb : TS}{pos : Pos} (hp : PassesOwn (model X.prog X.w) X.A X.env X.xe) (hc : X.calm = true) (hi : PI X tg iter wi) (hg : PG X tg g) (hb : PSs X body tb)
    (hs : ∀ x,foldedSetIterable iter X.env x = pure x :=by intro _; rfl) : PS X (.For tg iter body [] pos) (tFor wi g tb) :=by
  intro pins s σ H D I h
  refine wpAny_For (thn (hi pins s σ H _ I h) fun v s1 h1 => thn h1 fun itv s2 h2 => ?_) hs
  obtain ⟨it,fp,tn,J,H2,e,I2,T,st2,f2,W,⟨m0,w0⟩,turn⟩ := h2
  subst e
  have stat : ∀ {H' : Hp},(∀ b ∈ fp,H' b = none) → ∀ b ∈ fp,FpOk X pins H' b := fun hn b hb => ⟨hn b hb,(f2 b hb).2⟩
  refine codeAny_forLoop_any (fun n s' => ∃ i σ' H',Inv X pins σ' H' s' ∧ tn i s'.heap ∧ (∀ b ∈ fp,H' b = none) ∧ W i n σ' H') ?_ m0 ⟨0,σ,H2,I2,st2,fun b hb => (f2 b hb).1,w0⟩
  rintro n s3 ⟨i,σ3,H3,I3,st3,fr3,w3⟩
  rcases turn i n σ3 H3 w3 with ⟨stop,qn⟩ | ⟨go,N,hN,step⟩
  · refine wpAny_passesOwn hp (thn (T.done X rfl rfl rfl hc i pins s3 σ3 H3 X.xe I3 (stat fr3) st3 stop) fun r s4 ⟨hr,I4⟩ => ?_)
    subst hr
    exact wpAny_execs_nil ⟨σ3,H3,I4,qn⟩
  · refine wpAny_passesOwn hp (thn (T.item X rfl rfl rfl hc i pins s3 σ3 H3 X.xe I3 (stat fr3) st3 go) fun r s4 ⟨u,hr,h4⟩ => ?_)
    subst hr
    refine wpAny_passesOwn hp (thn h4 fun _ s5 ⟨x,H5,I5,r5,y5,st5,fr5⟩ => ?_)
    have I5' := I5.pinned (stat fr5) (T.obj _ _ st5)
    refine wpAny_passesOwn hp (thn (hg _ s5 σ3 H5 x u _ I5' r5 (step x H5 y5)) fun _ s6 ⟨σ6,H6,I6,q6⟩ => ?_)
    refine wpAny_passesOwn hp (thn (hb _ s6 σ6 H6 _ I6 q6) fun f s7 q7 => ?_)
    have again : ∀ {σ7 : St}{H7 : Hp},Inv X (pins ++ iF fp s5.heap) σ7 H7 s7 → N σ7 H7 → ∃ m,m < n ∧ ∃ i σ' H',Inv X pins σ' H' s7 ∧ tn i s7.heap ∧ (∀ b ∈ fp,H' b = none) ∧ W i m σ' H' := fun {σ7 H7} I7 n7 => by
      obtain ⟨m',hm,w7⟩ := hN σ7 H7 n7
      refine ⟨m',hm,i + 1,σ7,H7,I7.unpinned,T.keep _ _ _ st5 fun b hb o e => (I7.pin (b,o) (List.mem_append_right _ (List.mem_append_right _ (fY hb e)))).1,fun b hb => ?_,w7⟩
      obtain ⟨o,e,d⟩ := T.obj _ _ st5 b hb
      exact (I7.pin (b,o) (List.mem_append_right _ (List.mem_append_right _ (fY hb e)))).2.1
    cases f with
    | next => obtain ⟨σ7,H7,I7,n7⟩ := q7; exact again I7 n7
    | cont => obtain ⟨σ7,H7,I7,n7⟩ := q7; exact again I7 n7
    | brk => obtain ⟨σ7,H7,I7,q7⟩ := q7; exact ⟨σ7,H7,I7.unpinned,q7⟩
    | ret v => obtain ⟨x7,σ7,H7,I7,r7,q7⟩ := q7; exact ⟨x7,σ7,H7,I7.unpinned,r7,q7⟩
end
end L2
namespace L2
open PySem PySem.Spec PyProof.Rows
noncomputable abbrev R2 := V → V → Hp → VK → Prop
noncomputable def OpR (X:Cx) (f:Value → Value → Sem Value) (r:R2) : Prop :=
  ∀ (pins : List (Addr × Obj)) (s:Shared) (σ : St) (H:Hp) (x y : V) (v u : Value) (Q:VK),Inv X pins σ H s → RelV x v → RelV y u → r x y H Q →
    wpAny (model X.prog X.w) X.A (f v u) (EP X pins σ Q) X.xe s
noncomputable def UnR (X:Cx) (f:Value → Sem Value) (r:V → Hp → VK → Prop) : Prop :=
  ∀ (pins : List (Addr × Obj)) (s:Shared) (σ : St) (H:Hp) (x:V) (v:Value) (Q:VK),Inv X pins σ H s → RelV x v → r x H Q →
    wpAny (model X.prog X.w) X.A (f v) (EP X pins σ Q) X.xe s
noncomputable def CallR (X:Cx) (f:Value) (r:List V → Hp → VK → Prop) : Prop :=
  ∀ (pins : List (Addr × Obj)) (s:Shared) (σ : St) (H:Hp) (xs : List V) (us : List Value) (Q:VK),Inv X pins σ H s → Vals xs us → r xs H Q →
    wpAny (model X.prog X.w) X.A (call f us) (EP X pins σ Q) X.xe s
noncomputable def tOp (r:R2) (ta tb : TE) : TE := fun σ H Q => ta σ H fun x H1 => tb σ H1 fun y H2 => r x y H2 Q
noncomputable def tUn (r:V → Hp → VK → Prop) (ta : TE) : TE := fun σ H Q => ta σ H fun x H1 => r x H1 Q
noncomputable def rI (C:Int → Int → Prop) (g:Int → Int → V) : R2 := fun x y H Q => ∃ i j,x = .int i ∧ y = .int j ∧ C i j ∧ Q (g i j) H
noncomputable def rI0 (g:Int → Int → V) : R2 := fun x y H Q => ∃ i j,x = .int i ∧ y = .int j ∧ Q (g i j) H
noncomputable def rU (g:Int → V) : V → Hp → VK → Prop := fun x H Q => ∃ i,x = .int i ∧ Q (g i) H
section
variable {X:Cx}{a b c : Expr}{ta tb tc : TE}{pos : Pos}
theorem binT (ha : PE X a ta) (hb : PE X b tb) {pins : List (Addr × Obj)}{s:Shared}{σ : St}{H:Hp}{R:V → V → Hp → Prop} (I:Inv X pins σ H s)
    (h:ta σ H fun x H1 => tb σ H1 fun y H2 => R x y H2) {Q:Value → Shared → Prop}{f:Value → Value → Sem Value}
    (hf : ∀ v u s2 x y H2,Inv X pins σ H2 s2 → RelV x v → RelV y u → R x y H2 → wpAny (model X.prog X.w) X.A (f v u) Q X.xe s2) :
    wpAny (model X.prog X.w) X.A (eval a X.env) (fun v s₁ => wpAny (model X.prog X.w) X.A (eval b X.env) (fun u s₂ => wpAny (model X.prog X.w) X.A (f v u) Q X.xe s₂) X.xe s₁) X.xe s :=by
  refine thn (ha pins s σ H _ I h) fun v s1 ⟨x,H1,I1,r1,q1⟩ => ?_
  refine thn (hb pins s1 σ H1 _ I1 q1) fun u s2 ⟨y,H2,I2,r2,q2⟩ => ?_
  exact hf v u s2 x y H2 I2 r1 r2 q2
theorem rj {op : Operator}{r:R2} (ho : OpR X (binaryOp op) r) (ha : PE X a ta) (hb : PE X b tb) : PE X (.BinOp a op b pos) (tOp r ta tb) :=by
  intro pins s σ H Q I h
  exact wpAny_BinOp (binT ha hb I h fun v u s2 x y H2 I2 rx ry q => ho pins s2 σ H2 x y v u Q I2 rx ry q)
theorem uh {op : UnaryOp}{r:V → Hp → VK → Prop} (ho : UnR X (unaryOp op) r) (ha : PE X a ta) : PE X (.UnaryOp op a pos) (tUn r ta) :=by
  intro pins s σ H Q I h
  exact UnaryOp_ (thn (ha pins s σ H _ I h) fun v s1 ⟨x,H1,I1,r1,q1⟩ => ho pins s1 σ H1 x v Q I1 r1 q1)
theorem opI {f:Value → Value → Sem Value}{C:Int → Int → Prop}{g:Int → Int → Int}
    (rule : ∀ (i j : Int) (t u : Tok) (s:Shared) (Q:Value → Shared → Prop) (E:Value → Shared → Prop),C i j → Q (.int (g i j) s.toks) { s with toks := s.toks + 1 } → wpAny (model X.prog X.w) X.A (f (.int i t) (.int j u)) Q E s) :
    OpR X f (rI C fun i j => .int (g i j)) :=by
  intro pins s σ H x y v u Q I rx ry h
  obtain ⟨i,j,rfl,rfl,hc,q⟩ := h
  obtain ⟨t,rfl⟩ := rx
  obtain ⟨t',rfl⟩ := ry
  exact rule i j t t' s _ _ hc ⟨.int (g i j),H,I.tok _,⟨_,rfl⟩,q⟩
theorem opI0 {f:Value → Value → Sem Value}{g:Int → Int → Int}
    (rule : ∀ (i j : Int) (t u : Tok) (s:Shared) (Q:Value → Shared → Prop) (E:Value → Shared → Prop),Q (.int (g i j) s.toks) { s with toks := s.toks + 1 } → wpAny (model X.prog X.w) X.A (f (.int i t) (.int j u)) Q E s) :
    OpR X f (rI0 fun i j => .int (g i j)) :=by
  intro pins s σ H x y v u Q I rx ry h
  obtain ⟨i,j,rfl,rfl,q⟩ := h
  obtain ⟨t,rfl⟩ := rx
  obtain ⟨t',rfl⟩ := ry
  exact rule i j t t' s _ _ ⟨.int (g i j),H,I.tok _,⟨_,rfl⟩,q⟩
theorem opB0 {f:Value → Value → Sem Value}{g:Int → Int → Bool}
    (rule : ∀ (i j : Int) (t u : Tok) (s:Shared) (Q:Value → Shared → Prop) (E:Value → Shared → Prop),Q (.bool (g i j)) s → wpAny (model X.prog X.w) X.A (f (.int i t) (.int j u)) Q E s) :
    OpR X f (rI0 fun i j => .bl (g i j)) :=by
  intro pins s σ H x y v u Q I rx ry h
  obtain ⟨i,j,rfl,rfl,q⟩ := h
  obtain ⟨t,rfl⟩ := rx
  obtain ⟨t',rfl⟩ := ry
  exact rule i j t t' s _ _ ⟨.bl (g i j),H,I,rfl,q⟩
noncomputable def CPow (i j : Int) : Prop := 0 ≤ j ∧ j ≤ 1000000 ∧ i.natAbs < 2 ^ 64
noncomputable def CMul (i j : Int) : Prop := (-(2 ^ 64) < i ∧ i < 2 ^ 64) ∨ (-(2 ^ 64) < j ∧ j < 2 ^ 64)
theorem CMul.ok {i j : Int} (h:CMul i j) : IntMulOk i j :=by
  rcases h with ⟨h1,h2⟩ | ⟨h1,h2⟩
  · exact .of_left (intBits_le_64 h1 h2)
  · exact .of_right (intBits_le_64 h1 h2)
theorem op_add : OpR X (binaryOp .Add) (rI0 fun i j => .int (i + j)) := opI0 fun _ _ _ _ _ _ _ q => add_int q
theorem sy : OpR X (binaryOp .Sub) (rI0 fun i j => .int (i - j)) := opI0 fun _ _ _ _ _ _ _ q => sub_int q
theorem sD : OpR X (binaryOp .Mod) (rI (fun _ j => 0 < j) fun i j => .int (i % j)) := opI fun i j _ _ _ _ _ hc q => by
  have h1 : (0 : Int) < j := hc
  exact mod_int' (by omega) (by rw [Int.fmod_eq_emod_of_nonneg i (by omega)]; exact q)
theorem sB : OpR X (binaryOp .Pow) (rI CPow fun i j => .int (i ^ j.toNat)) := opI fun _ _ _ _ _ _ _ hc q => pow_int_small hc.1 hc.2.1 hc.2.2 q
theorem unI {f:Value → Sem Value}{g:Int → Int}
    (rule : ∀ (i:Int) (t:Tok) (s:Shared) (Q:Value → Shared → Prop) (E:Value → Shared → Prop),Q (.int (g i) s.toks) { s with toks := s.toks + 1 } → wpAny (model X.prog X.w) X.A (f (.int i t)) Q E s) :
    UnR X f (rU fun i => .int (g i)) :=by
  intro pins s σ H x v Q I rx h
  obtain ⟨i,rfl,q⟩ := h
  obtain ⟨t,rfl⟩ := rx
  exact rule i t s _ _ ⟨.int (g i),H,I.tok _,⟨_,rfl⟩,q⟩
theorem rD : UnR X (unaryOp .USub) (rU fun i => .int (-i)) := unI fun _ _ _ _ _ q => neg_int q
end
noncomputable def scal : V → V → Bool
  | .non,.non => true | .non,.int _ => true | .int _,.non => true | .non,.bl _ => true | .bl _,.non => true | .non,.str _ => true | .str _,.non => true
  | .int _,.int _ => true | .bl _,.bl _ => true | .str _,.str _ => true | .byt _,.byt _ => true
  | .int _,.str _ => true | .str _,.int _ => true | .bl _,.str _ => true | .str _,.bl _ => true
  | _,_ => false
noncomputable def rEq : R2 := fun x y H Q => scal x y = true ∧ Q (.bl (decide (x = y))) H
noncomputable def rNe : R2 := fun x y H Q => scal x y = true ∧ Q (.bl (!decide (x = y))) H
theorem nh {i j : Int} : decide (V.int i = V.int j) = (i == j) :=by
  rw [Bool.eq_iff_iff]
  simp
theorem pM {i j : Bool} : decide (V.bl i = V.bl j) = (i == j) :=by
  rw [Bool.eq_iff_iff]
  simp
theorem ng {i j : Str} : decide (V.str i = V.str j) = (i == j) :=by
  rw [Bool.eq_iff_iff]
  simp
theorem ni {i j : Array UInt8} : decide (V.byt i = V.byt j) = (i.toList == j.toList) :=by
  rw [Bool.eq_iff_iff]
  cases i
  cases j
  simp
section
variable {X:Cx}{a b c : Expr}{ta tb tc : TE}{pos : Pos}
theorem aY {pins : List (Addr × Obj)}{σ : St}{H:Hp}{s:Shared}{Q:VK}{k k' : Bool} (I:Inv X pins σ H s) (q:Q (.bl k) H) (e:k = k') : EP X pins σ Q (.bool k') s :=by
  subst e
  exact ⟨.bl k,H,I,rfl,q⟩
theorem op_eq : OpR X (compareOp .Eq) rEq :=by
  intro pins s σ H x y v u Q I rx ry h
  obtain ⟨hs,q⟩ := h
  cases x with
  | non =>
    cases rx
    cases y with
    | non => cases ry; exact PySem.EqNone.eq_none_none (aY I q (by simp))
    | bl j => cases ry; exact PySem.EqNone.eq_none_bool (aY I q (by simp))
    | int j => obtain ⟨t',rfl⟩ := ry; exact PySem.EqNone.eq_none_int (aY I q (by simp))
    | str j => obtain ⟨t',rfl⟩ := ry; exact PySem.EqNone.eq_none_str (aY I q (by simp))
    | _ => exact absurd (show false = true from hs) Bool.false_ne_true
  | bl i =>
    cases rx
    cases y with
    | non => cases ry; exact PySem.EqNone.eq_bool_none (aY I q (by simp))
    | bl j => cases ry; exact eq_bool (aY I q pM)
    | str j => obtain ⟨t',rfl⟩ := ry; exact PySem.EqMixed.eq_bool_str (aY I q (by simp))
    | _ => exact absurd (show false = true from hs) Bool.false_ne_true
  | int i =>
    obtain ⟨t,rfl⟩ := rx
    cases y with
    | non => cases ry; exact PySem.EqNone.eq_int_none (aY I q (by simp))
    | int j => obtain ⟨t',rfl⟩ := ry; exact eq_int (aY I q nh)
    | str j => obtain ⟨t',rfl⟩ := ry; exact PySem.EqMixed.eq_int_str (aY I q (by simp))
    | _ => exact absurd (show false = true from hs) Bool.false_ne_true
  | str i =>
    obtain ⟨t,rfl⟩ := rx
    cases y with
    | non => cases ry; exact PySem.EqNone.eq_str_none (aY I q (by simp))
    | bl j => cases ry; exact PySem.EqMixed.eq_str_bool (aY I q (by simp))
    | int j => obtain ⟨t',rfl⟩ := ry; exact PySem.EqMixed.eq_str_int (aY I q (by simp))
    | str j => obtain ⟨t',rfl⟩ := ry; exact eq_str (aY I q ng)
    | _ => exact absurd (show false = true from hs) Bool.false_ne_true
  | byt i =>
    obtain ⟨t,rfl⟩ := rx
    cases y with
    | byt j => obtain ⟨t',rfl⟩ := ry; exact PySem.W.eq_bytes (aY I q ni)
    | _ => exact absurd (show false = true from hs) Bool.false_ne_true
  | _ => cases y <;> exact absurd (show false = true from hs) Bool.false_ne_true
theorem op_ne : OpR X (compareOp .NotEq) rNe :=by
  intro pins s σ H x y v u Q I rx ry h
  obtain ⟨hs,q⟩ := h
  cases x with
  | non =>
    cases rx
    cases y with
    | non => cases ry; exact PySem.EqNone.ne_none_none (aY I q (by simp))
    | bl j => cases ry; exact PySem.EqNone.ne_none_bool (aY I q (by simp))
    | int j => obtain ⟨t',rfl⟩ := ry; exact PySem.EqNone.ne_none_int (aY I q (by simp))
    | str j => obtain ⟨t',rfl⟩ := ry; exact PySem.EqNone.ne_none_str (aY I q (by simp))
    | _ => exact absurd (show false = true from hs) Bool.false_ne_true
  | bl i =>
    cases rx
    cases y with
    | non => cases ry; exact PySem.EqNone.ne_bool_none (aY I q (by simp))
    | bl j => cases ry; exact ne_bool (aY I q (congrArg not pM))
    | str j => obtain ⟨t',rfl⟩ := ry; exact PySem.EqMixed.ne_bool_str (aY I q (by simp))
    | _ => exact absurd (show false = true from hs) Bool.false_ne_true
  | int i =>
    obtain ⟨t,rfl⟩ := rx
    cases y with
    | non => cases ry; exact PySem.EqNone.ne_int_none (aY I q (by simp))
    | int j => obtain ⟨t',rfl⟩ := ry; exact ne_int (aY I q (congrArg not nh))
    | str j => obtain ⟨t',rfl⟩ := ry; exact PySem.EqMixed.ne_int_str (aY I q (by simp))
    | _ => exact absurd (show false = true from hs) Bool.false_ne_true
  | str i =>
    obtain ⟨t,rfl⟩ := rx
    cases y with
    | non => cases ry; exact PySem.EqNone.ne_str_none (aY I q (by simp))
    | bl j => cases ry; exact PySem.EqMixed.ne_str_bool (aY I q (by simp))
    | int j => obtain ⟨t',rfl⟩ := ry; exact PySem.EqMixed.ne_str_int (aY I q (by simp))
    | str j => obtain ⟨t',rfl⟩ := ry; exact ne_str (aY I q (congrArg not ng))
    | _ => exact absurd (show false = true from hs) Bool.false_ne_true
  | byt i =>
    obtain ⟨t,rfl⟩ := rx
    cases y with
    | byt j => obtain ⟨t',rfl⟩ := ry; exact PySem.W.ne_bytes (aY I q (congrArg not ni))
    | _ => exact absurd (show false = true from hs) Bool.false_ne_true
  | _ => cases y <;> exact absurd (show false = true from hs) Bool.false_ne_true
theorem ul : OpR X (compareOp .Lt) (rI0 fun i j => .bl (decide (i < j))) := opB0 fun _ _ _ _ _ _ _ q => lt_int q
theorem um : OpR X (compareOp .Gt) (rI0 fun i j => .bl (decide (j < i))) := opB0 fun _ _ _ _ _ _ _ q => gt_int q
theorem uo : OpR X (compareOp .GtE) (rI0 fun i j => .bl (decide (j ≤ i))) := opB0 fun _ _ _ _ _ _ _ q => ge_int q
theorem op_in_str : OpR X (compareOp .In) (fun x y H Q => ∃ i j,x = .str i ∧ y = .str j ∧ Q (.bl (!(Builtin.Str.occurrences j i 0 j.length 1).isEmpty)) H) :=by
  intro pins s σ H x y v u Q I rx ry h
  obtain ⟨i,j,rfl,rfl,q⟩ := h
  obtain ⟨t,rfl⟩ := rx
  obtain ⟨t',rfl⟩ := ry
  exact in_str (aY I q rfl)
theorem md : OpR X (compareOp .Is) (fun x y H Q => y = .non ∧ Q (.bl (decide (x = .non))) H) :=by
  intro pins s σ H x y v u Q I rx ry h
  obtain ⟨rfl,q⟩ := h
  cases ry
  refine is_none_gen (aY I q ?_)
  cases x <;> first
    | (cases rx; rfl)
    | (obtain ⟨t,rfl⟩ := rx; rfl)
theorem OpR.or {f:Value → Value → Sem Value}{r r' : R2} (h:OpR X f r) (h' : OpR X f r') : OpR X f (fun x y H Q => r x y H Q ∨ r' x y H Q) :=by
  intro pins s σ H x y v u Q I rx ry q
  rcases q with q | q
  · exact h pins s σ H x y v u Q I rx ry q
  · exact h' pins s σ H x y v u Q I rx ry q
theorem aA (b:Expr) {op : CmpOp} (h:op ≠ .In :=by decide) (h2 : op ≠ .NotIn :=by decide) : behindInMarks op b = false :=by
  have e1 : (op == CmpOp.In) = false :=by cases op <;> first | rfl | exact absurd rfl h
  have e2 : (op == CmpOp.NotIn) = false :=by cases op <;> first | rfl | exact absurd rfl h2
  cases b <;> simp [behindInMarks,e1,e2]
theorem qq {op : CmpOp}{r:R2} (ho : OpR X (compareOp op) r) (ha : PE X a ta) (hb : PE X b tb) (hm : behindInMarks op b = false) : PE X (.Compare a [op] [b] pos) (tOp r ta tb) :=by
  intro pins s σ H Q I h
  exact wpAny_Compare1 (binT ha hb I h fun v u s2 x y H2 I2 rx ry q => ho pins s2 σ H2 x y v u Q I2 rx ry q) hm
noncomputable def tTest (t:TE) : TT := fun σ H Q => t σ H fun x H' => ∃ k,x = .bl k ∧ Q k H'
theorem qe {op : CmpOp}{r:R2} (ho : OpR X (compareOp op) r) (ha : PE X a ta) (hb : PE X b tb) (hm : behindInMarks op b = false) : PT X (.Compare a [op] [b] pos) (tTest (tOp r ta tb)) :=by
  intro pins s σ H Q I h
  refine wpAny_isTrue_Compare1 (thn (ha pins s σ H _ I h) fun v s1 ⟨x,H1,I1,r1,q1⟩ => thn (hb pins s1 σ H1 _ I1 q1) fun u s2 ⟨y,H2,I2,r2,q2⟩ =>
    thn (ho pins s2 σ H2 x y v u _ I2 r1 r2 q2) fun c s3 ⟨z,H3,I3,r3,k,e,q3⟩ => ?_) hm
  subst e
  cases r3
  exact wpAny_truthy_bool ⟨H3,I3,q3⟩
theorem gQ : (sizeLine : Nat) < 2 ^ 63 :=by rw [sizeLine_eq]; decide
theorem op_add_str : OpR X (binaryOp .Add) (fun x y H Q => ∃ i j,x = .str i ∧ y = .str j ∧ i.length + j.length ≤ sizeLine ∧ Q (.str (i ++ j)) H) :=by
  intro pins s σ H x y v u Q I rx ry h
  obtain ⟨i,j,rfl,rfl,hz,q⟩ := h
  obtain ⟨t,rfl⟩ := rx
  obtain ⟨t',rfl⟩ := ry
  exact add_str (fun t' tk => ⟨.str (i ++ j),H,I.tok _,⟨_,rfl⟩,q⟩) hz
theorem vals1 {x:V}{us : List Value} (r:Vals [x] us) : ∃ u,us = [u] ∧ RelV x u :=by
  cases r with
  | cons r1 r2 => cases r2; exact ⟨_,rfl,r1⟩
theorem vals2 {x y : V}{us : List Value} (r:Vals [x,y] us) : ∃ u w',us = [u,w'] ∧ RelV x u ∧ RelV y w' :=by
  cases r with
  | cons r1 r2 =>
    cases r2 with
    | cons r3 r4 => cases r4; exact ⟨_,_,rfl,r1,r3⟩
theorem pN : CallR X (.builtin "abs") (fun xs H Q => ∃ i,xs = [.int i] ∧ Q (.int (if i < 0 then -i else i)) H) :=by
  intro pins s σ H xs us Q I r h
  obtain ⟨i,rfl,q⟩ := h
  obtain ⟨u,rfl,t,rfl⟩ := vals1 r
  exact call_abs_int fun u tk => ⟨.int (if i < 0 then -i else i),H,I.tok _,⟨_,rfl⟩,q⟩
theorem oi (hc : X.calm = true) : CallR X (.builtin "max") (fun xs H Q => ∃ i j,xs = [.int i,.int j] ∧ Q (.int (if j > i then j else i)) H) :=by
  intro pins s σ H xs us Q I r h
  obtain ⟨i,j,rfl,q⟩ := h
  obtain ⟨u,w',rfl,⟨t,rfl⟩,⟨t',rfl⟩⟩ := vals2 r
  refine max_two_ints (I.ok.hd hc) fun h' tk k => ⟨_,H,I.kept k,?_,q⟩
  by_cases hj : j > i
  · rw [if_pos hj,if_pos hj]; exact ⟨_,rfl⟩
  · rw [if_neg hj,if_neg hj]; exact ⟨_,rfl⟩
theorem call_int1 : CallR X (.type "int") (fun xs H Q => (∃ i,xs = [.int i] ∧ Q (.int i) H) ∨ ∃ k,xs = [.bl k] ∧ Q (.int (if k then 1 else 0)) H) :=by
  intro pins s σ H xs us Q I r h
  rcases h with ⟨i,rfl,q⟩ | ⟨k,rfl,q⟩
  · obtain ⟨u,rfl,t,rfl⟩ := vals1 r
    exact call_int_int ⟨.int i,H,I,⟨_,rfl⟩,q⟩
  · obtain ⟨u,rfl,r1⟩ := vals1 r
    cases r1
    exact call_int_bool ⟨.int (if k then 1 else 0),H,I.tok _,⟨_,rfl⟩,q⟩
end
end L2
namespace L2
open PySem PySem.Spec PyProof.Rows
structure ObjM (h:Heap) (x dx C : Addr) (mA : Str → Option Value) : Prop where
  obj : h.get? x = some (PySem.W.instObj C dx)
  ns : h.Ns1 dx mA
  ne : dx ≠ x
theorem nV {h:Heap}{dx : Addr}{mA : Str → Option Value} (n:h.Ns1 dx mA) : ∃ od,h.get? dx = some od ∧ ∀ name,PySem.W.lookIn name od = some (mA name) :=by
  obtain ⟨o,es,ep,ho,hd,hk,_,hm⟩ := n
  refine ⟨o,ho,fun name => ?_⟩
  have e := hm name
  unfold nsFind findBy at e
  rw [← Array.find?_toList] at e
  unfold PySem.W.lookIn
  rw [hd]
  dsimp only
  split
  · rename_i y q
    rw [q] at e
    exact congrArg some e
  · rename_i q
    rw [q] at e
    have a : es.toList.any (·.refKey) = false :=by
      rw [List.any_eq_false]
      intro y hy
      obtain ⟨z,t,hkey⟩ := hk y (Array.mem_toList_iff.mp hy)
      simp [DictEntry.refKey,hkey]
    have a' : ¬ es.toList.any (·.refKey) = true :=by rw [a]; exact Bool.false_ne_true
    rw [if_neg a']
    exact congrArg some e
theorem ObjM.look {h:Heap}{x dx C : Addr}{mA : Str → Option Value} (I:ObjM h x dx C mA) : ∃ od,PySem.W.InstAt h x (PySem.W.instObj C dx) C (some od) ∧ ∀ name,PySem.W.lookIn name od = some (mA name) :=
  let ⟨od,ho,hl⟩ := nV I.ns
  ⟨od,⟨I.obj,rfl,rfl,ho⟩,hl⟩
section
variable {prog : Program}{w:World}{A:Around}{E:Value → Shared → Prop}{s:Shared}{K:PySem.W.Frag}{x dx C f : Addr}{mA : Str → Option Value}{name : Str}{v:Value}
theorem qV {expr : Bool}{Q:Value → Shared → Prop} (X:K.In s.heap) (I:ObjM s.heap x dx C mA) (hg : PySem.W.plainGet K C name = true) (hh : PySem.W.hasDictIn K C = true)
    (ha : PySem.W.findIn K (.ref C) name = some none) (hv : mA name = some v) (hv' : PySem.W.handedIn v = true) (h:Q v { s with toks := s.toks + 1 }) :
    wpAny (model prog w) A (getAttr (.ref x) name expr) Q E s :=by
  obtain ⟨od,J,hl⟩ := I.look
  exact PySem.W.get_value X J (PySem.W.plainGet_of hg).1 (PySem.W.findObj_own hh ha rfl (by rw [hl,hv])) hv' h
theorem pC {pl : Sem Bool}{Q:Value × List Value → Shared → Prop} (X:K.In s.heap) (I:ObjM s.heap x dx C mA) (hg : PySem.W.plainGet K C name = true)
    (hf : PySem.W.findIn K (.ref C) name = some (some (.ref f))) (ht : PySem.W.isFn K (.ref f) = true) (hv : mA name = none) (h:Q (.ref f,[.ref x]) s) :
    wpAny (model prog w) A (getMethod (.ref x) name pl) Q E s :=by
  obtain ⟨od,J,hl⟩ := I.look
  exact PySem.W.method_fn X J (PySem.W.plainGet_of hg).1 (PySem.W.plainGet_of hg).2 hf (beq_iff_eq.mp ht) (by show (PySem.W.lookIn name od).map (·.isSome) = some false; rw [hl,hv]; rfl) h
theorem pZ {ns : List Str}{Q:Unit → Shared → Prop} (X:K.In s.heap) (I:ObjM s.heap x dx C mA)
    (hs : PySem.W.findIn K (.ref C) "__setattr__" = some (some (.builtin "object.__setattr__"))) (hp : PySem.W.plainOver K C = true) (ht : PySem.W.takerIn K C name = some none) (hh : PySem.W.hasDictIn K C = true)
    (hw : PySem.Within mA ns) (hsz : ns.length ≤ sizeLine)
    (h:∀ h',ObjM h' x dx C (fun y => if y = name then some v else mA y) → Heap.SameBut dx s.heap h' → Q () { s with heap := h',toks := s.toks + 2 }) :
    wpAny (model prog w) A (setAttr (.ref x) name v) Q E s :=by
  obtain ⟨od,J,hl⟩ := I.look
  refine PySem.W.set_plain X J hs (PySem.W.osa_open (s := { s with toks := s.toks + 1 }) (r := none) X J hp ht fun b => ?_)
  obtain ⟨cd,hc,hd'⟩ := PySem.W.any_some hh
  have hx : s.heap.get? x = some ⟨.ref C,some dx,.plain,#[]⟩ := I.obj
  refine wpAny_bind (wpAny_pure (wpAny_bind (wpAny_bind (wpAny_loadPart hx (wpAny_bind (PySem.W.Looks.here (s := { s with toks := s.toks + 1 }) (PySem.W.looks_clsIn X hc) ?_))))))
  rw [hd']
  refine wpAny_pure (a := some dx) (wpAny_bind (wpAny_pure (wpAny_bind ?_)))
  refine wpAny_nsSet1 (s := { s with toks := s.toks + 1 }) I.ns fun h' hn2 hs2 => ?_
  obtain ⟨oD,esD,epD,hoD,hdD,hcD⟩ := hn2.count (PySem.Within.cons name v hw)
  refine wpAny_bind (wpAny_lookBehind hoD (by rw [hdD]; exact pastItsLine_dict (Nat.le_trans hcD (by rw [List.length_cons]; omega))) ?_)
  exact wpAny_pure (h _ ⟨(hs2.2 _ (Ne.symm I.ne)).trans I.obj,hn2,I.ne⟩ hs2)
theorem o7 {R:Result → Shared → Prop}{vs : List Value}{kw : List (Str × Value)} (X:K.In s.heap) (hm : PySem.W.makesIn K C = true)
    (hi : PySem.W.findIn K (.ref C) "__init__" = some (some (.ref f))) (hf : PySem.W.typeIn K (.ref f) = some (.type "function"))
    (h:codeAny (model prog w) (A.under (.builtin "type.__call__" ⟨.ref C :: vs,kw⟩)) (.call (.ref f) ⟨.ref (s.heap.objs.size + 1) :: vs,kw⟩) (PySem.W.InitBack (s.heap.objs.size + 1) R)
      { s with heap := (s.heap.push PySem.W.emptyDict).push (PySem.W.instObj C s.heap.objs.size) }) :
    codeAny (model prog w) A (.call (.ref C) ⟨vs,kw⟩) R s :=by
  obtain ⟨hh,g,d,t,os⟩ := s
  exact PySem.W.make_core (PySem.W.makes_of X hm) (PySem.W.looks_findIn X hi) (fun self => PySem.W.bind_fn X self hf) (.inl rfl) h
end
noncomputable def putF (f:Str) (v:V) : List (Str × V) → List (Str × V)
  | [] => [(f,v)]
  | (g,x) :: r => if g = f then (g,v) :: r else (g,x) :: putF f v r
theorem g5 (f g : Str) (v:V) : ∀ fs : List (Str × V),(putF f v fs).lookup g = if g = f then some v else fs.lookup g
  | [] => by
    show List.lookup g [(f,v)] = _
    by_cases h : g = f
    · have hb : (g == f) = true := beq_iff_eq.mpr h
      simp only [List.lookup,hb,if_pos h]
    · have hb : (g == f) = false := beq_eq_false_iff_ne.mpr h
      simp only [List.lookup,hb,if_neg h]
  | (k,x) :: r => by
    have ih := g5 f g v r
    rw [show putF f v ((k,x) :: r) = (if k = f then (k,v) :: r else (k,x) :: putF f v r) from rfl]
    by_cases hk : k = f
    · rw [if_pos hk]
      by_cases h : g = k
      · have hb : (g == k) = true := beq_iff_eq.mpr h
        simp only [List.lookup,hb,if_pos (h.trans hk)]
      · have hb : (g == k) = false := beq_eq_false_iff_ne.mpr h
        simp only [List.lookup,hb,if_neg (fun e : g = f => h (e.trans hk.symm))]
    · rw [if_neg hk]
      by_cases h : g = k
      · have hb : (g == k) = true := beq_iff_eq.mpr h
        simp only [List.lookup,hb,if_neg (fun e : g = f => hk (h.symm.trans e))]
      · have hb : (g == k) = false := beq_eq_false_iff_ne.mpr h
        simp only [List.lookup,hb]
        exact ih
theorem gR (f:Str) (v:V) : ∀ fs : List (Str × V),f ∈ (putF f v fs).map (·.1) ∧ ∀ g,g ∈ fs.map (·.1) → g ∈ (putF f v fs).map (·.1)
  | [] => ⟨by simp [putF],fun g h => by simp at h⟩
  | (k,x) :: r => by
    obtain ⟨i1,i2⟩ := gR f v r
    rw [show putF f v ((k,x) :: r) = (if k = f then (k,v) :: r else (k,x) :: putF f v r) from rfl]
    by_cases hk : k = f
    · rw [if_pos hk]
      subst hk
      exact ⟨by simp,fun g h => by simpa using h⟩
    · rw [if_neg hk]
      refine ⟨?_,fun g h => ?_⟩
      · rw [List.map_cons]
        exact List.mem_cons_of_mem _ i1
      · rw [List.map_cons] at h ⊢
        rcases List.mem_cons.mp h with e | e
        · exact List.mem_cons.mpr (.inl e)
        · exact List.mem_cons_of_mem _ (i2 g e)
theorem g6 (f:Str) (v:V) : ∀ fs : List (Str × V),(putF f v fs).length ≤ fs.length + 1
  | [] => by simp [putF]
  | (k,x) :: r => by
    have ih := g6 f v r
    rw [show putF f v ((k,x) :: r) = (if k = f then (k,v) :: r else (k,x) :: putF f v r) from rfl]
    by_cases hk : k = f
    · rw [if_pos hk,List.length_cons,List.length_cons]; omega
    · rw [if_neg hk,List.length_cons,List.length_cons]; omega
theorem RelO.some_of {v:V}{o:Option Value} (r:RelO (some v) o) : ∃ u,o = some u ∧ RelV v u :=by
  cases o with
  | none => exact (show False from r).elim
  | some u => exact ⟨u,rfl,r⟩
theorem RelO.none_of {o:Option Value} (r:RelO none o) : o = none :=by
  cases o with
  | none => rfl
  | some u => exact (show False from r).elim
theorem n8 {v:V}{u:Value} (r:RelV v u) : PySem.W.handedIn u = true :=by
  cases v with
  | non => cases (show u = Value.none from r); rfl
  | bl b => cases (show u = Value.bool b from r); rfl
  | int i => obtain ⟨t,e⟩ := (show ∃ t,u = Value.int i t from r); cases e; rfl
  | str x => obtain ⟨t,e⟩ := (show ∃ t,u = Value.str x t from r); cases e; rfl
  | byt b => obtain ⟨t,e⟩ := (show ∃ t,u = Value.bytes b t from r); cases e; rfl
  | flt b => obtain ⟨t,e⟩ := (show ∃ t,u = Value.float b t from r); cases e; rfl
  | ref a => cases (show u = Value.ref a from r); rfl
  | ty n => cases (show u = Value.type n from r); rfl
section
variable {P:Program}{w:World}{H H' : Hp}{h h' : Heap}{a C dx : Addr}{fs fs' : List (Str × V)}
theorem ii (hok : HOk P w H h) (e:H a = some (.ins C dx fs)) : ∃ mA,ObjM h a dx C mA ∧ (∀ f,RelO (fs.lookup f) (mA f)) ∧ PySem.Within mA (fs.map (·.1)) ∧ fs.length ≤ 1000 ∧ H dx = some (.own a) :=by
  obtain ⟨d,z,ne,ob,mA,n,r,q⟩ := (show ObjOk P w H h a (.ins C dx fs) from hok a _ e)
  exact ⟨mA,⟨ob,n,ne⟩,r,q,z,d⟩
end
structure Cls (K:PySem.W.Frag) (C:Addr) : Prop where
  pg : PySem.W.plainGet K C Str.empty = true
  hd : PySem.W.hasDictIn K C = true
  po : PySem.W.plainOver K C = true
  sa : PySem.W.findIn K (.ref C) "__setattr__" = some (some (.builtin "object.__setattr__"))
theorem Cls.get {K:PySem.W.Frag}{C:Addr} (c:Cls K C) (f:Str) : PySem.W.plainGet K C f = true := c.pg
noncomputable def NoAttr (K:PySem.W.Frag) (C:Addr) (f:Str) : Prop := PySem.W.findIn K (.ref C) f = some none
theorem NoAttr.taker {K:PySem.W.Frag}{C:Addr}{f:Str} (n:NoAttr K C f) : PySem.W.takerIn K C f = some none :=by
  unfold PySem.W.takerIn
  rw [show PySem.W.findIn K (.ref C) f = some none from n]
  rfl
structure Meth (K:PySem.W.Frag) (C:Addr) (m:Str) (f:Addr) : Prop where
  at_ : PySem.W.findIn K (.ref C) m = some (some (.ref f))
  fn : PySem.W.isFn K (.ref f) = true
  kp : PySem.W.keepIn K (.ref f) = true
section
variable {X:Cx}{pins : List (Addr × Obj)}{σ : St}{H:Hp}{s:Shared}{a C dx : Addr}{fs : List (Str × V)}{f:Str}{v:V}{A:Around}{E:Value → Shared → Prop}
theorem jh {b:Bool}{Q:Value → Shared → Prop} (I:Inv X pins σ H s) (e:H a = some (.ins C dx fs)) (c:Cls X.K C) (n:NoAttr X.K C f) (l:fs.lookup f = some v)
    (h:∀ u s',Inv X pins σ H s' → RelV v u → Q u s') : wpAny (model X.prog X.w) A (getAttr (.ref a) f b) Q E s :=by
  obtain ⟨mA,O,r,_,_,_⟩ := ii I.hok e
  obtain ⟨u,hu,ru⟩ := RelO.some_of (v := v) (o := mA f) (by rw [← l]; exact r f)
  exact qV I.kIn O (c.get f) c.hd n hu (n8 ru) (h u _ (I.tok _) ru)
theorem jg {m:Str}{g:Addr}{pl : Sem Bool}{Q:Value × List Value → Shared → Prop} (I:Inv X pins σ H s) (e:H a = some (.ins C dx fs)) (c:Cls X.K C) (k:Meth X.K C m g) (l:fs.lookup m = none)
    (h:Q (.ref g,[.ref a]) s) : wpAny (model X.prog X.w) A (getMethod (.ref a) m pl) Q E s :=by
  obtain ⟨mA,O,r,_,_,_⟩ := ii I.hok e
  have hn : mA m = none := RelO.none_of (by rw [← l]; exact r m)
  exact pC I.kIn O (c.get m) k.at_ k.fn hn h
theorem iw {y:V}{u:Value}{Q:Unit → Shared → Prop} (I:Inv X pins σ H s) (e:H a = some (.ins C dx fs)) (c:Cls X.K C) (n:NoAttr X.K C f) (hl : fs.length < 1000) (ry : RelV y u)
    (h:∀ s',Inv X pins σ (upd H a (.ins C dx (putF f y fs))) s' → Q () s') : wpAny (model X.prog X.w) A (setAttr (.ref a) f u) Q E s :=by
  obtain ⟨mA,O,r,wi,_,ho⟩ := ii I.hok e
  have hz : (fs.map (·.1)).length ≤ sizeLine :=by rw [List.length_map,sizeLine_eq]; omega
  refine pZ I.kIn O c.sa c.po n.taker c.hd wi hz fun h' O' sb => h _ ?_
  have hd : ∃ o,h'.get? dx = some o := let ⟨o,_,_,e',_⟩ := O'.ns; ⟨o,e'⟩
  refine I.write (x := a) (e := dx) (by rw [e]; exact True.intro) (.inr ho) (fun b q hb z => (sb.2 b hb).trans z) hd ?_
  refine ⟨by rw [aX O.ne]; exact ho,?_,O.ne,O'.obj,_,O'.ns,fun g => ?_,fun g hg => ?_⟩
  · have := g6 f y fs; omega
  · show RelO ((putF f y fs).lookup g) (if g = f then some u else mA g)
    rw [g5]
    by_cases q : g = f
    · rw [if_pos q,if_pos q]; exact ry
    · rw [if_neg q,if_neg q]; exact r g
  · by_cases q : g = f
    · rw [q]; exact (gR f y fs).1
    · refine (gR f y fs).2 g (wi g fun z => hg ?_)
      show (if g = f then some u else mA g) = none
      rw [if_neg q]; exact z
theorem Inv.made (I:Inv X pins σ H s) : Inv X pins σ (upd (upd H s.heap.objs.size (.own (s.heap.objs.size + 1))) (s.heap.objs.size + 1) (.ins C s.heap.objs.size []))
    { s with heap := (s.heap.push PySem.W.emptyDict).push (PySem.W.instObj C s.heap.objs.size) } :=by
  have e1 : (s.heap.push PySem.W.emptyDict).get? s.heap.objs.size = some PySem.W.emptyDict := Heap.get?_push_size s.heap rfl
  have e2 : ((s.heap.push PySem.W.emptyDict).push (PySem.W.instObj C s.heap.objs.size)).get? (s.heap.objs.size + 1) = some (PySem.W.instObj C s.heap.objs.size) :=by
    have := Heap.get?_push_size (s.heap.push PySem.W.emptyDict) (o := PySem.W.instObj C s.heap.objs.size) rfl
    rwa [Heap.size_push] at this
  have e3 : (s.heap.push PySem.W.emptyDict).Ns s.heap.objs.size (fun _ => none) := ⟨PySem.W.emptyDict,#[],_,e1,rfl,(fun e he => absurd he (by simp)),fun _ => rfl⟩
  have I1 := I.laid (a := s.heap.objs.size) (o := .own (s.heap.objs.size + 1)) (h' := s.heap.push PySem.W.emptyDict) (t' := s.toks) (fun b u q => Heap.get?_push_of_some _ q) (Nat.le_refl _) ⟨_,e1⟩
  refine I1.laid (a := s.heap.objs.size + 1) (o := .ins C s.heap.objs.size []) (t' := s.toks) (fun b u q => Heap.get?_push_of_some _ q) (Nat.le_of_eq (Heap.size_push _ _)) ?_
  have ne : s.heap.objs.size ≠ s.heap.objs.size + 1 := Nat.ne_of_lt (Nat.lt_succ_self _)
  refine ⟨by rw [aX ne,cn],Nat.zero_le _,ne,e2,fun _ => none,(Heap.Ns1.of_empty e3).at fun o q => Heap.get?_push_of_some _ q,fun _ => True.intro,fun y hy => absurd rfl hy⟩
theorem qY {prog : Program}{w:World}{env : Env}{e:Expr}{f:Str}{pos : Pos}{s:Shared}{Q:Value → Shared → Prop} (hb : attributeBase e f env (eval e env) = eval e env)
    (h:wpAny (model prog w) A (eval e env) (fun o s₁ => wpAny (model prog w) A (getAttr o f true) Q E s₁) E s) : wpAny (model prog w) A (eval (.Attribute e f pos) env) Q E s :=
  Attribute_any_ h (by rw [arm_eval_Attribute,hb])
end
noncomputable def tFld (K:PySem.W.Frag) (ta : TE) (f:Str) : TE := fun σ H Q => ta σ H fun x H1 => ∃ a C dx fs v,x = .ref a ∧ H1 a = some (.ins C dx fs) ∧ Cls K C ∧ NoAttr K C f ∧ fs.lookup f = some v ∧ Q v H1
noncomputable def sFld (K:PySem.W.Frag) (ta tv : TE) (f:Str) : TS := fun D σ H => tv σ H fun y H1 => ta σ H1 fun x H2 => ∃ a C dx fs,x = .ref a ∧ H2 a = some (.ins C dx fs) ∧ Cls K C ∧ NoAttr K C f ∧ fs.length < 1000 ∧
  D.nx σ (upd H2 a (.ins C dx (putF f y fs)))
noncomputable def InOp (X:Cx) (op : Operator) (rd : V → V → Hp → VK → Prop) : Prop :=
  ∀ (pins : List (Addr × Obj)) (s:Shared) (σ : St) (H:Hp) (x y : V) (u v : Value) (Q:VK),Inv X pins σ H s → RelV x u → RelV y v → rd x y H Q → wpAny (model X.prog X.w) X.A (inplaceOp op u v) (EP X pins σ Q) X.xe s
noncomputable def p6 (K:PySem.W.Frag) (ta tv : TE) (rd : V → V → Hp → VK → Prop) (f:Str) : TS := fun D σ H => ta σ H fun x H1 => ∃ a C dx fs v,x = .ref a ∧ H1 a = some (.ins C dx fs) ∧ Cls K C ∧ NoAttr K C f ∧ fs.lookup f = some v ∧
  tv σ H1 fun y H2 => rd v y H2 fun z H3 => ∃ dx' fs',H3 a = some (.ins C dx' fs') ∧ fs'.length < 1000 ∧ D.nx σ (upd H3 a (.ins C dx' (putF f z fs')))
section
variable {X:Cx}{o e value : Expr}{f:Str}{pos pos' tpos : Pos}{ta tv : TE}
theorem su (he : PE X e ta) (hb : attributeBase e f X.env (eval e X.env) = eval e X.env) : PE X (.Attribute e f pos) (tFld X.K ta f) :=by
  intro pins s σ H Q I h
  refine qY hb (thn (he pins s σ H _ I h) fun u s1 ⟨x,H1,I1,rx,a,C,dx,fs,v,ex,ea,c,n,l,q⟩ => ?_)
  subst ex
  obtain rfl : u = Value.ref a := rx
  exact jh I1 ea c n l fun u' s2 I2 ru => ⟨v,H1,I2,ru,q⟩
theorem r9 (ha : PE X o ta) (hv : PE X value tv) (hs : swapsWith value (some (.Attribute o f pos')) pos.line X.env = pure false) : PS X (.Assign [.Attribute o f pos'] value pos) (sFld X.K ta tv f) :=by
  intro pins s σ H D I h
  refine plainObj_wpAny_Assign_Attribute (thn (hv pins s σ H _ I h) fun u s1 ⟨y,H1,I1,ry,q⟩ => thn (ha pins s1 σ H1 _ I1 q) fun ov s2 ⟨x,H2,I2,rx,a,C,dx,fs,ex,ea,c,n,l,q2⟩ => ?_) hs
  subst ex
  obtain rfl : ov = Value.ref a := rx
  exact iw I2 ea c n l ry fun s3 I3 => ⟨σ,_,I3,q2⟩
theorem nG {op : Operator}{rd : V → V → Hp → VK → Prop} (ha : PE X o ta) (hv : PE X value tv) (hop : InOp X op rd) : PS X (.AugAssign (.Attribute o f tpos) op value pos) (p6 X.K ta tv rd f) :=by
  intro pins s σ H D I h
  refine wpAny_AugAssign_AttributeAny (thn (ha pins s σ H _ I h) fun ov s1 ⟨x,H1,I1,rx,a,C,dx,fs,v,ex,ea,c,n,l,q⟩ => ?_)
  subst ex
  obtain rfl : ov = Value.ref a := rx
  refine jh I1 ea c n l fun u s2 I2 ru => thn (hv pins s2 σ H1 _ I2 q) fun w3 s3 ⟨y,H2,I3,ry,q3⟩ => thn (hop pins s3 σ H2 v y u w3 _ I3 ru ry q3) fun w4 s4 ⟨z,H3,I4,rz,dx',fs',ea',l',q4⟩ => ?_
  exact iw I4 ea' c n l' rz fun s5 I5 => ⟨σ,_,I5,q4⟩
noncomputable def rAdd : V → V → Hp → VK → Prop := fun x y H Q => ∃ i j,x = .int i ∧ y = .int j ∧ Q (.int (i + j)) H
theorem py : InOp X .Add rAdd :=by
  rintro pins s σ H x y u v Q I rx ry ⟨i,j,rfl,rfl,q⟩
  obtain ⟨t,rfl⟩ := (show ∃ t,u = Value.int i t from rx)
  obtain ⟨t',rfl⟩ := (show ∃ t',v = Value.int j t' from ry)
  exact PyProof.Rows.iadd_int ⟨.int (i + j),H,I.tok _,⟨_,rfl⟩,q⟩
theorem rp {pl : Sem Bool}{m:Str}{apos : Pos}{args : List Expr}{pins : List (Addr × Obj)}{s:Shared}{σ : St}{H:Hp}{Q:Value → Shared → Prop}{te : TE} (he : PE X e te) (I:Inv X pins σ H s)
    (h:te σ H fun x H1 => ∃ a C dx fs g,x = .ref a ∧ H1 a = some (.ins C dx fs) ∧ Cls X.K C ∧ Meth X.K C m g ∧ fs.lookup m = none ∧
      ∀ s1,Inv X pins σ H1 s1 → wpAny (model X.prog X.w) X.A (callWith pos (.ref g) [.ref a] (backTo pos (starEach args X.env)) (backToKw pos (keywordEach [] X.env))) Q X.xe s1)
    (ht : eval (.Call (.Attribute e m apos) args [] pos) X.env = (do
      let ov ← eval e X.env
      standAt apos.atName
      let (f,first) ← holding [ov] (getMethod ov m pl)
      callWith pos f first (backTo pos (starEach args X.env)) (backToKw pos (keywordEach [] X.env)))) :
    wpAny (model X.prog X.w) X.A (eval (.Call (.Attribute e m apos) args [] pos) X.env) Q X.xe s :=by
  refine PySem.W.methodCall_KW (pl := pl) (thn (he pins s σ H _ I h) fun u s1 ⟨x,H1,I1,rx,a,C,dx,fs,g,ex,ea,c,k,l,q⟩ => ?_) ht
  subst ex
  obtain rfl : u = Value.ref a := rx
  exact jg I1 ea c k l (q s1 I1)
end
section
variable {X:Cx}{pins : List (Addr × Obj)}{σ : St}{H:Hp}{s:Shared}{A:Around}{E:Value → Shared → Prop}{Q:Value → Shared → Prop}{c:Value}{b:Bool}
inductive TyOf (K:PySem.W.Frag) (H:Hp) : V → Value → Prop where
  | non : TyOf K H .non (.type "NoneType")
  | bl (x:Bool) : TyOf K H (.bl x) (.type "bool")
  | int (i:Int) : TyOf K H (.int i) (.type "int")
  | str (x:Str) : TyOf K H (.str x) (.type "str")
  | flt (x:UInt64) : TyOf K H (.flt x) (.type "float")
  | lst {a:Addr}{xs : List V} (e:H a = some (.lst xs)) : TyOf K H (.ref a) (.type "list")
  | frz {a:Addr}{o:Obj}{xs : List V} (e:H a = some (.frz o (.lst xs))) : TyOf K H (.ref a) (.type "list")
  | tup {a:Addr}{xs : List V} (e:H a = some (.tup xs)) : TyOf K H (.ref a) (.type "tuple")
  | dK {a:Addr}{kvs : List (Key × V)} (e:H a = some (.dK kvs)) : TyOf K H (.ref a) (.type "dict")
  | dT {a:Addr}{kvs : List (List Key × V)} (e:H a = some (.dT kvs)) : TyOf K H (.ref a) (.type "dict")
  | ins {a C dx : Addr}{fs : List (Str × V)} (e:H a = some (.ins C dx fs)) (cl : Cls K C) (ha : PySem.W.findIn K (.ref C) "__class__" = some (some (.builtin "object.__class__")))
      (hn : PySem.W.specialIn K (.builtin "object.__class__") "__get__" = some (some (.builtin "getset_descriptor.__get__"))) (htk : PySem.W.takesIn K (.builtin "object.__class__") = some true)
      (hm : PySem.W.mroIn K C (.type "object") = some true) : TyOf K H (.ref a) (.ref C)
theorem nZ {x:V}{u t : Value} (I:Inv X pins σ H s) (rx : RelV x u) (ty : TyOf X.K H x t) (e:PySem.W.kitOne X.K t c = some b) (h:∀ tk,Q (.bool b) { s with toks := tk }) :
    wpAny (model X.prog X.w) A (call (.builtin "isinstance") [u,c]) Q E s :=by
  cases ty with
  | non => cases (show u = Value.none from rx); exact PySem.W.kia_one PySem.W.kitx_none I.kIn True.intro e (fun z => nomatch z) h
  | bl y => cases (show u = Value.bool y from rx); exact PySem.W.kia_one PySem.W.kitx_bool I.kIn True.intro e (fun z => nomatch z) h
  | int i => obtain ⟨t,q⟩ := (show ∃ t,u = Value.int i t from rx); cases q; exact PySem.W.kia_one PySem.W.kitx_int I.kIn True.intro e (fun z => nomatch z) h
  | str y => obtain ⟨t,q⟩ := (show ∃ t,u = Value.str y t from rx); cases q; exact PySem.W.kia_one PySem.W.kitx_str I.kIn True.intro e (fun z => nomatch z) h
  | flt y => obtain ⟨t,q⟩ := (show ∃ t,u = Value.float y t from rx); cases q; exact PySem.W.kia_one PySem.W.kitx_float I.kIn True.intro e (fun z => nomatch z) h
  | @lst a xs ea =>
    cases (show u = Value.ref a from rx)
    obtain ⟨_,_,n,_,h1⟩ := (show ObjOk X.prog X.w H s.heap a (.lst xs) from I.hok a _ ea)
    exact PySem.W.kia_one PySem.W.kitx_list I.kIn ⟨_,h1,rfl⟩ e (fun z => nomatch z) h
  | @frz a ob xs ea =>
    cases (show u = Value.ref a from rx)
    obtain ⟨_,_,_,n,_,h1⟩ := (show ObjOk X.prog X.w H s.heap a (.frz ob (.lst xs)) from I.hok a _ ea)
    exact PySem.W.kia_one PySem.W.kitx_list I.kIn ⟨_,h1,rfl⟩ e (fun z => nomatch z) h
  | @tup a xs ea =>
    cases (show u = Value.ref a from rx)
    obtain ⟨_,_,_,p⟩ := (show ObjOk X.prog X.w H s.heap a (.tup xs) from I.hok a _ ea)
    obtain ⟨o,h1,h2,_⟩ := p.1
    exact PySem.W.kia_one PySem.W.kitx_tuple I.kIn ⟨o,h1,h2⟩ e (fun z => nomatch z) h
  | @dK a kvs ea =>
    cases (show u = Value.ref a from rx)
    obtain ⟨_,_,vs,_,p⟩ := (show ObjOk X.prog X.w H s.heap a (.dK kvs) from I.hok a _ ea)
    obtain ⟨o,es,ep,h1,h2,_⟩ := p
    exact PySem.W.kia_one PySem.W.kitx_dict I.kIn ⟨o,h1,h2.1⟩ e (fun z => nomatch z) h
  | @dT a kvs ea =>
    cases (show u = Value.ref a from rx)
    obtain ⟨_,_,xs,_,o,es,ep,h1,h2,_⟩ := (show ObjOk X.prog X.w H s.heap a (.dT kvs) from I.hok a _ ea)
    exact PySem.W.kia_one PySem.W.kitx_dict I.kIn ⟨o,h1,h2.1⟩ e (fun z => nomatch z) h
  | @ins a C dx fs ea cl ha hn htk hm =>
    cases (show u = Value.ref a from rx)
    obtain ⟨mA,O,_⟩ := ii I.hok ea
    obtain ⟨od,J,_⟩ := O.look
    exact PySem.W.kia_one (PySem.W.kitx_own (cl.get _) cl.hd ha hn htk hm) I.kIn J e (fun z => nomatch z) h
end
end L2
namespace L2
open PySem PySem.Spec PyProof.Rows
structure Room (k:Nat) (A:Around) : Prop where
  hd : A.handled = none
  dp : A.depth + 3 * k + 5 < recursionLimit
  un : A.units + 16 * k + 200 < cLine
theorem Room.mono {j k : Nat}{A:Around} (r:Room k A) (h:j ≤ k) : Room j A := ⟨r.hd,by have := r.dp; omega,by have := r.un; omega⟩
theorem Room.deeper {k:Nat}{A:Around} (r:Room (k + 1) A) (env : Env) : Room k (A.deeper env) :=
  ⟨r.hd,by have := r.dp; show A.depth + 1 + 3 * k + 5 < _; omega,by have := r.un; show A.units + 3 + 16 * k + 200 < _; omega⟩
theorem mv {A:Around}{C:Addr}{us : List Value}{kw : List (Str × Value)} : (A.under (.builtin "type.__call__" ⟨.ref C :: us,kw⟩)).depth = A.depth + 1 :=by
  first | rfl | simp [Around.under,Code.weight,Code.isCreation,Code.isGuard,Code.isCaller,Code.frames,Code.isFrame,guardIds]
theorem mt {A:Around}{C:Addr}{us : List Value}{kw : List (Str × Value)} : (A.under (.builtin "type.__call__" ⟨.ref C :: us,kw⟩)).units = A.units + 1 :=by
  first | rfl | simp [Around.under,Code.cUnits,Code.frames,Code.isFrame]
theorem Room.make {k:Nat}{A:Around} (r:Room (k + 1) A) (C:Addr) (us : List Value) (kw : List (Str × Value)) : Room k (A.under (.builtin "type.__call__" ⟨.ref C :: us,kw⟩)) :=
  ⟨r.hd,by have := r.dp; rw [mv]; omega,by have := r.un; rw [mt]; omega⟩
theorem Room.depth {k:Nat}{A:Around} (r:Room k A) : A.depth < recursionLimit :=by have := r.dp; omega
theorem Room.units {k:Nat}{A:Around} (r:Room k A) : A.units + 64 < cLine :=by have := r.un; omega
noncomputable def tNil : TA := fun _ H Q => Q [] H
noncomputable def tCons (ta : TE) (tr : TA) : TA := fun σ H Q => ta σ H fun x H1 => tr σ H1 fun xs H2 => Q (x :: xs) H2
section
variable {X:Cx}{e:Expr}{es : List Expr}{te : TE}{t:TA}{pos : Pos}
theorem pa_nil : PA X [] tNil := fun _ _ _ _ H Q I h => Calls.spliced_nil ⟨[],H,I,.nil,h⟩
theorem qu (ha : PE X e te) (hr : PA X es t) (hs : starEach (e :: es) X.env = (false,eval e X.env) :: starEach es X.env :=by rfl) : PA X (e :: es) (tCons te t) :=by
  intro pos pins s σ H Q I h
  rw [hs]
  show wpAny _ _ (spliced ((false,eval e X.env) :: backTo pos (starEach es X.env))) _ _ s
  refine Calls.spliced_cons (thn (ha pins s σ H _ I h) fun u s1 ⟨x,H1,I1,r1,q1⟩ => ?_)
  exact thn (hr pos pins s1 σ H1 _ I1 q1) fun us s2 ⟨xs,H2,I2,r2,q2⟩ => ⟨x :: xs,H2,I2,.cons r1 r2,q2⟩
noncomputable def tTup (t:TA) : TE := fun σ H Q => t σ H fun xs H1 => xs.length ≤ sizeLine ∧ ∀ p,H1 p = none → Q (.ref p) (upd H1 p (.tup xs))
noncomputable def tLst (t:TA) : TE := fun σ H Q => t σ H fun xs H1 => xs.length ≤ sizeLine ∧ ∀ p,H1 p = none → Q (.ref p) (upd H1 p (.lst xs))
theorem sj {x1} (h:PA X es t) : PE X (.Tuple es x1 pos) (tTup t) :=by
  intro pins s σ H Q I hq
  refine wpAny_Tuple_spliced (thn (h pos pins s σ H _ I hq) fun us s1 ⟨xs,H1,I1,r,z,q⟩ => ⟨by rw [← r.length]; exact z,?_⟩)
  have hf : H1 s1.heap.objs.size = none := I1.hok.fresh (Nat.le_refl _)
  refine ⟨.ref s1.heap.objs.size,upd H1 s1.heap.objs.size (.tup xs),I1.laid (t' := s1.toks) (fun b u e => Heap.get?_push_of_some _ e) (Nat.le_refl _) ?_,rfl,q _ hf⟩
  exact ⟨z,us,r,IsTupD.new _ _⟩
theorem sr (h:PA X es t) : PE X (.List es pos) (tLst t) :=by
  intro pins s σ H Q I hq
  refine wpAny_List_spliced (thn (h pos pins s σ H _ I hq) fun us s1 ⟨xs,H1,I1,r,z,q⟩ => ⟨by rw [← r.length]; exact z,?_⟩)
  have hf : H1 s1.heap.objs.size = none := I1.hok.fresh (Nat.le_refl _)
  refine ⟨.ref s1.heap.objs.size,upd H1 s1.heap.objs.size (.lst xs),I1.laid (t' := s1.toks) (fun b u e => Heap.get?_push_of_some _ e) (Nat.le_refl _) ?_,rfl,q _ hf⟩
  exact ⟨z,us,0,r,Heap.get?_push_size _ rfl⟩
end
noncomputable abbrev Sp := List V → Hp → VK → XK → Prop
noncomputable abbrev CXT := List Env → Hp → Shared → XK → Value → Shared → Prop
structure Env0 (P:Program) (w:World) (K:PySem.W.Frag) (mg : Str → Option Value) (base : Heap) (A:Around) (outer : List Env) (s:Shared) (H:Hp) : Prop where
  frames : A.frames = some outer
  mod : Mod K mg base
  bs : ∀ b o,base.get? b = some o → s.heap.get? b = some o ∧ H b = none
  bsz : base.objs.size ≤ s.heap.objs.size
  funs : s.heap.FunFrames base outer
  frf : ∀ b ∈ frs outer,H b = none
  hok : HOk P w H s.heap
  bare : AllBare s.gens
noncomputable def CE (outer : List Env) (P:Program) (w:World) (H:Hp) (s:Shared) (Q:VK) (u:Value) (s' : Shared) : Prop :=
  ∃ v H',s'.os = s.os ∧ AllBare s'.gens ∧ Un (frs outer) [] H H' s.heap s'.heap ∧ HOk P w H' s'.heap ∧ RelV v u ∧ Q v H'
noncomputable def CR (CX : CXT) (outer : List Env) (P:Program) (w:World) (H:Hp) (s:Shared) (Q:VK) (E:XK) (r:Result) (s' : Shared) : Prop :=
  match r with
  | .ok (.ret u) => CE outer P w H s Q u s'
  | .ok _ => False
  | .error e => CX outer H s E e s'
structure FnOk (P:Program) (w:World) (K:PySem.W.Frag) (mg : Str → Option Value) (base : Heap) (CX : CXT) (k:Nat) (f:Addr) (fd : FuncData) (ps : List Str) (sp : Sp) : Prop where
  len : ∀ vs H Q E,sp vs H Q E → vs.length = ps.length
  run : ∀ (A:Around) (outer : List Env) (s:Shared) (H:Hp) (args : Args) (us : List Value) (vs : List V) (Q:VK) (E:XK),Room k A → Env0 P w K mg base A outer s H → BindsTo s fd args (ps.zip us) → Vals vs us → sp vs H Q E →
    codeAny (model P w) A (.call (.ref f) args) (CR CX outer P w H s Q E) s
theorem FnOk.imp {P:Program}{w:World}{K:PySem.W.Frag}{mg : Str → Option Value}{base : Heap}{CX : CXT}{k:Nat}{f:Addr}{fd : FuncData}{ps : List Str}{sp sp' : Sp} (F:FnOk P w K mg base CX k f fd ps sp)
    (h:∀ vs H Q E,sp' vs H Q E → sp vs H Q E) : FnOk P w K mg base CX k f fd ps sp' :=
  ⟨fun vs H Q E q => F.len vs H Q E (h _ _ _ _ q),fun A outer s H args us vs Q E hr he hb hv hs => F.run A outer s H args us vs Q E hr he hb hv (h _ _ _ _ hs)⟩
theorem Env0.make {P:Program}{w:World}{K:PySem.W.Frag}{mg : Str → Option Value}{base : Heap}{A:Around}{outer : List Env}{s:Shared}{H:Hp} (e:Env0 P w K mg base A outer s H) (C:Addr) (us : List Value) (kw : List (Str × Value)) :
    Env0 P w K mg base (A.under (.builtin "type.__call__" ⟨.ref C :: us,kw⟩)) outer s H := ⟨by first | exact e.frames | (simpa [Around.under,Code.envs,Code.isFrame,pushEnvs] using e.frames),e.mod,e.bs,e.bsz,e.funs,e.frf,e.hok,e.bare⟩
section
variable {X:Cx}{pins : List (Addr × Obj)}{σ : St}{H:Hp}{s s' : Shared}
theorem Inv.env0 (I:Inv X pins σ H s) : Env0 X.prog X.w X.K X.mg X.base X.A X.stack s H :=
  ⟨I.ok.frames,I.ok.mod,I.bs,Nat.le_trans I.ok.bsz I.sz,I.stack,I.stkFree,I.hok,I.bare⟩
theorem Inv.after {Q:VK}{u:Value} (I:Inv X pins σ H s) (h:CE X.stack X.prog X.w H s Q u s') : EP X pins σ Q u s' :=by
  obtain ⟨v,H',os,bare,un,hok,r,q⟩ := h
  obtain ⟨hh,g,d,t,os'⟩ := s'
  obtain rfl : os' = s.os := os
  exact ⟨v,H',I.call (h' := hh) (g' := g) (d' := d) (t' := t) (ch := []) un hok bare (fun b z => absurd z (by simp)),r,q⟩
end
noncomputable def tCall (sp : Sp) (dvs : List V) (E:XK) (t:TA) : TE := fun σ H Q => t σ H fun vs H1 => sp (vs ++ dvs) H1 Q E
noncomputable def tMeth (C:Addr) (m:Str) (sp : Sp) (dvs : List V) (E:XK) (ta : TE) (t:TA) : TE := fun σ H Q => ta σ H fun x H1 => ∃ a dx fs,x = .ref a ∧ H1 a = some (.ins C dx fs) ∧ fs.lookup m = none ∧
  t σ H1 fun vs H2 => sp (x :: (vs ++ dvs)) H2 Q E
noncomputable def tMake (C:Addr) (sp : Sp) (dvs : List V) (E:XK) (t:TA) : TE := fun σ H Q => t σ H fun vs H1 => ∀ x dx,H1 x = none → H1 dx = none → dx ≠ x →
  sp (.ref x :: (vs ++ dvs)) (upd (upd H1 dx (.own x)) x (.ins C dx [])) (fun v H2 => v = .non ∧ Q (.ref x) H2) E
noncomputable def Binds (K:PySem.W.Frag) (fd : FuncData) (ps : List Str) (ds : List Value) : Prop :=
  ∀ (s:Shared) (us : List Value),K.In s.heap → (us ++ ds).length = ps.length → BindsTo s fd ⟨us,[]⟩ (ps.zip (us ++ ds))
theorem Binds.all {K:PySem.W.Frag}{fd : FuncData}{ps : List Str} (h:∀ us : List Value,us.length = ps.length → bindArgs fd ⟨us,[]⟩ = pure (ps.zip us)) : Binds K fd ps [] := fun s us _ hl => by
  rw [List.append_nil] at hl ⊢
  exact .of_eq (h us hl)
noncomputable def gY (CX : CXT) (X:Cx) (E:XK) : Prop := ∀ (pins : List (Addr × Obj)) (σ : St) (H:Hp) (s:Shared) (e:Value) (s' : Shared),Inv X pins σ H s → CX X.stack H s E e s' → X.xe e s'
section
variable {X:Cx}{CX : CXT}{k:Nat}{f C : Addr}{fd : FuncData}{ps : List Str}{sp : Sp}{dvs : List V}{ds : List Value}{E:XK}{x m : Str}{p pos apos : Pos}{e o : Expr}{es : List Expr}{ta : TE}{t:TA}
theorem oy {pins : List (Addr × Obj)}{σ : St}{H:Hp}{s:Shared}{Q:VK}{us : List Value}{vs : List V} (F:FnOk X.prog X.w X.K X.mg X.base CX k f fd ps sp) (hr : Room k X.A) (hb : Binds X.K fd ps ds) (hd : Vals dvs ds) (hx : gY CX X E)
    (I:Inv X pins σ H s) (r:Vals vs us) (h:sp (vs ++ dvs) H Q E) : wpAny (model X.prog X.w) X.A (call (.ref f) us) (EP X pins σ Q) X.xe s :=by
  have r2 : Vals (vs ++ dvs) (us ++ ds) := r.append hd
  have hl : (us ++ ds).length = ps.length :=by rw [← r2.length]; exact F.len _ _ _ _ h
  refine wpAny_call (codeAny_mono (F.run X.A X.stack s H ⟨us,[]⟩ (us ++ ds) (vs ++ dvs) Q E hr I.env0 (hb s us I.kIn hl) r2 h) fun r s' hq => ?_)
  cases r with
  | error e => exact hx pins σ H s e s' I hq
  | ok fl =>
    cases fl with
    | ret u => exact I.after hq
    | next => exact False.elim hq
    | brk => exact False.elim hq
    | cont => exact False.elim hq
theorem qr (F:FnOk X.prog X.w X.K X.mg X.base CX k f fd ps sp) (hr : Room k X.A) (hg : Gl X x) (hm : X.mg x = some (.ref f)) (hk : PySem.W.keepIn X.K (.ref f) = true) (hb : Binds X.K fd ps ds) (hd : Vals dvs ds) (hx : gY CX X E)
    (ha : PA X (e :: es) t) (hdb : (x == ("__debug__" : Str)) = false :=by decide) (he : starEach (e :: es) X.env = (false,eval e X.env) :: starEach es X.env :=by rfl) (hpl : (backTo pos (starEach es X.env)).any (·.1) = false :=by rfl) :
    PE X (.Call (.Name x p) (e :: es) [] pos) (tCall sp dvs E t) :=by
  intro pins s σ H Q I h
  refine wpAny_Call_Name_kw (kq I hg hm ?_ hdb)
  refine PySem.W.callWith_K (h₀ := X.base) I.ok.mod.kin hk (thn (ha pos pins s σ H _ I h) fun us s1 ⟨vs,H1,I1,r,q⟩ => ⟨I1.kIn,?_⟩) he hpl
  exact oy F hr hb hd hx I1 r q
theorem ql {pl : Sem Bool} (he : PE X o ta) (c:Cls X.K C) (hm : Meth X.K C m f) (F:FnOk X.prog X.w X.K X.mg X.base CX k f fd ps sp) (hr : Room k X.A) (hb : Binds X.K fd ps ds) (hd : Vals dvs ds) (hx : gY CX X E) (ha : PA X (e :: es) t)
    (hst : starEach (e :: es) X.env = (false,eval e X.env) :: starEach es X.env :=by rfl) (hpl : (backTo pos (starEach es X.env)).any (·.1) = false :=by rfl)
    (ht : eval (.Call (.Attribute o m apos) (e :: es) [] pos) X.env = (do
      let ov ← eval o X.env
      standAt apos.atName
      let (f,first) ← holding [ov] (getMethod ov m pl)
      callWith pos f first (backTo pos (starEach (e :: es) X.env)) (backToKw pos (keywordEach [] X.env))) :=by rfl) :
    PE X (.Call (.Attribute o m apos) (e :: es) [] pos) (tMeth C m sp dvs E ta t) :=by
  intro pins s σ H Q I h
  refine PySem.W.methodCall_KW (pl := pl) (thn (he pins s σ H _ I h) fun u s1 ⟨x,H1,I1,rx,a,dx,fs,ex,ea,l,q⟩ => ?_) ht
  subst ex
  obtain rfl : u = Value.ref a := rx
  refine jg I1 ea c hm l ?_
  refine PySem.W.callWith_K (first := [.ref a]) (h₀ := X.base) I.ok.mod.kin hm.kp (thn (ha pos pins s1 σ H1 _ I1 q) fun us s2 ⟨vs,H2,I2,r,q2⟩ => ⟨I2.kIn,?_⟩) hst hpl
  exact oy (us := .ref a :: us) (vs := .ref a :: vs) F hr hb hd hx I2 (.cons rfl r) q2
structure Mk (K:PySem.W.Frag) (C f : Addr) : Prop where
  makes : PySem.W.makesIn K C = true
  init : PySem.W.findIn K (.ref C) "__init__" = some (some (.ref f))
  fn : PySem.W.isFn K (.ref f) = true
  kp : PySem.W.keepIn K (.ref C) = true
theorem ox {pins : List (Addr × Obj)}{σ : St}{H:Hp}{s:Shared}{Q:VK}{us : List Value}{vs : List V} (M:Mk X.K C f) (F:FnOk X.prog X.w X.K X.mg X.base CX k f fd ps sp) (hr : Room (k + 1) X.A) (hb : Binds X.K fd ps ds) (hd : Vals dvs ds)
    (hx : gY CX X E) (I:Inv X pins σ H s) (r:Vals vs us)
    (h:∀ x dx,H x = none → H dx = none → dx ≠ x → sp (.ref x :: (vs ++ dvs)) (upd (upd H dx (.own x)) x (.ins C dx [])) (fun v H2 => v = .non ∧ Q (.ref x) H2) E) :
    wpAny (model X.prog X.w) X.A (call (.ref C) us) (EP X pins σ Q) X.xe s :=by
  have hq := h (s.heap.objs.size + 1) s.heap.objs.size (I.hok.fresh (Nat.le_succ _)) (I.hok.fresh (Nat.le_refl _)) (Nat.ne_of_lt (Nat.lt_succ_self _))
  have I2 := Inv.made (C := C) I
  have r2 : Vals (V.ref (s.heap.objs.size + 1) :: (vs ++ dvs)) (Value.ref (s.heap.objs.size + 1) :: (us ++ ds)) := .cons rfl (r.append hd)
  have hl : (Value.ref (s.heap.objs.size + 1) :: us ++ ds).length = ps.length :=by
    have e := r2.length
    rw [F.len _ _ _ _ hq] at e
    exact e.symm
  refine wpAny_call (o7 (f := f) I.kIn M.makes M.init (beq_iff_eq.mp M.fn) (codeAny_mono (F.run _ X.stack _ _ ⟨Value.ref (s.heap.objs.size + 1) :: us,[]⟩ (Value.ref (s.heap.objs.size + 1) :: (us ++ ds)) _ _ E (hr.make C us [])
    (I2.env0.make C us []) (hb _ (Value.ref (s.heap.objs.size + 1) :: us) I2.kIn hl) r2 hq) fun r s' hq' => ?_))
  cases r with
  | error e => exact hx pins σ _ _ e s' I2 hq'
  | ok fl =>
    cases fl with
    | ret u =>
      obtain ⟨v,H',I3,rv,ev,q3⟩ := I2.after hq'
      subst ev
      exact ⟨rv,⟨V.ref (s.heap.objs.size + 1),H',I3,rfl,q3⟩⟩
    | next => exact False.elim hq'
    | brk => exact False.elim hq'
    | cont => exact False.elim hq'
theorem qm (M:Mk X.K C f) (F:FnOk X.prog X.w X.K X.mg X.base CX k f fd ps sp) (hr : Room (k + 1) X.A) (hg : Gl X x) (hm : X.mg x = some (.ref C)) (hb : Binds X.K fd ps ds) (hd : Vals dvs ds) (hx : gY CX X E)
    (ha : PA X (e :: es) t) (hdb : (x == ("__debug__" : Str)) = false :=by decide) (he : starEach (e :: es) X.env = (false,eval e X.env) :: starEach es X.env :=by rfl) (hpl : (backTo pos (starEach es X.env)).any (·.1) = false :=by rfl) :
    PE X (.Call (.Name x p) (e :: es) [] pos) (tMake C sp dvs E t) :=by
  intro pins s σ H Q I h
  refine wpAny_Call_Name_kw (kq I hg hm ?_ hdb)
  refine PySem.W.callWith_K (h₀ := X.base) I.ok.mod.kin M.kp (thn (ha pos pins s σ H _ I h) fun us s1 ⟨vs,H1,I1,r,q⟩ => ⟨I1.kIn,?_⟩) he hpl
  exact ox M F hr hb hd hx I1 r q
end
section
variable {X:Cx}{CX : CXT}{k:Nat}{f C : Addr}{fd : FuncData}{ps ks : List Str}{sp : Sp}{E:XK}{x m : Str}{p pos apos kpos : Pos}{e o : Expr}{es : List Expr}{kws : List Keyword}{te ta : TE}{t tk : TA}{nm : Option Str}
variable {g:List Value → List Value → List Value}{gV : List V → List V → List V}
end
structure FnScope (N P : List Str) (sc : Scope) : Prop where
  kind : sc.kind = .function
  co : sc.isCoroutine = false
  gen : sc.isGenerator = false
  nd : N.Nodup
  pre : N.take P.length = P
  par : ∀ x ∈ P,sc.names.lookup x = some .local ∨ sc.names.lookup x = some .cell
  nofree : ∀ y ∈ sc.names,y.2 ≠ .free
theorem jT {kindOf : Str → Option NameKind}{x:Str} : ∀ {binds : List (Str × Value)}{m:Str → Option Value},(∀ v,(x,v) ∉ binds) → bindL kindOf binds m x = m x
  | [],_,_ => rfl
  | (n,v) :: r,m,h => by
    unfold bindL
    rw [jT fun w hw => h w (List.mem_cons_of_mem _ hw)]
    split
    · have : x ≠ n :=by rintro rfl; exact h v List.mem_cons_self
      simp [this]
    · rfl
theorem jV {kindOf : Str → Option NameKind}{x:Str} : ∀ {binds : List (Str × Value)}{m:Str → Option Value},(∀ v,(x,v) ∉ binds) → bindC kindOf binds m x = m x
  | [],_,_ => rfl
  | (n,v) :: r,m,h => by
    unfold bindC
    rw [jV fun w hw => h w (List.mem_cons_of_mem _ hw)]
    split
    · rfl
    · have : x ≠ n :=by rintro rfl; exact h v List.mem_cons_self
      simp [this]
theorem jU {kindOf : Str → Option NameKind}{x:Str}{v:Value} : ∀ {P:List Str}{vs : List Value}{i:Nat}{m:Str → Option Value},P.Nodup → P[i]? = some x → vs[i]? = some v → kindOf x = some .local →
    bindL kindOf (P.zip vs) m x = some v
  | [],_,_,_,_,h,_,_ => by simp at h
  | _ :: _,[],_,_,_,_,h,_ => by simp at h
  | p :: P,w :: vs,0,m,nd,h1,h2,hk => by
    simp at h1 h2; subst h1; subst h2
    show bindL kindOf ((p,w) :: P.zip vs) m p = _
    unfold bindL
    rw [jT fun v hv => (List.nodup_cons.mp nd).1 (List.of_mem_zip hv).1,if_pos hk]
    simp
  | p :: P,w :: vs,i + 1,m,nd,h1,h2,hk => by
    show bindL kindOf ((p,w) :: P.zip vs) m x = _
    unfold bindL
    exact jU (i := i) (List.nodup_cons.mp nd).2 (by simpa using h1) (by simpa using h2) hk
theorem jW {kindOf : Str → Option NameKind}{x:Str}{v:Value} : ∀ {P:List Str}{vs : List Value}{i:Nat}{m:Str → Option Value},P.Nodup → P[i]? = some x → vs[i]? = some v → kindOf x ≠ some .local →
    bindC kindOf (P.zip vs) m x = some v
  | [],_,_,_,_,h,_,_ => by simp at h
  | _ :: _,[],_,_,_,_,h,_ => by simp at h
  | p :: P,w :: vs,0,m,nd,h1,h2,hk => by
    simp at h1 h2; subst h1; subst h2
    show bindC kindOf ((p,w) :: P.zip vs) m p = _
    unfold bindC
    rw [jV fun v hv => (List.nodup_cons.mp nd).1 (List.of_mem_zip hv).1,if_neg hk]
    simp
  | p :: P,w :: vs,i + 1,m,nd,h1,h2,hk => by
    show bindC kindOf ((p,w) :: P.zip vs) m x = _
    unfold bindC
    exact jW (i := i) (List.nodup_cons.mp nd).2 (by simpa using h1) (by simpa using h2) hk
noncomputable def start (N:List Str) (vs : List V) : St := vs.map some ++ List.replicate (N.length - vs.length) none
noncomputable def cxOf (CX : CXT) (P:Program) (w:World) (K:PySem.W.Frag) (mg : Str → Option Value) (base : Heap) (N:List Str) (qual : Str) (scope : Scope) (f:Addr) (cd : Value) (A:Around) (outer : List Env) (s:Shared) (H:Hp) (E:XK) : Cx where
  prog := P
  w := w
  K := K
  mg := mg
  base := base
  A := A.deeper (envOfC qual scope s.heap.objs.size f cd)
  N := N
  s₀ := s
  H₀ := H
  env := envOfC qual scope s.heap.objs.size f cd
  outer := outer
  stack := envOfC qual scope s.heap.objs.size f cd :: outer
  ex := []
  calm := true
  fn := fun _ => true
  pn := []
  xe := fun e s' => wpAny (model P w) (A.deeper (envOfC qual scope s.heap.objs.size f cd)) (leaving (envOfC qual scope s.heap.objs.size f cd) e) (fun _ s'' => CX outer H s E e s'') (fun e' s'' => CX outer H s E e' s'') s'
theorem lQ {sc : Scope}{n:Nat}{x:Str} (h:sc.names.lookup x = some .cell) : ∃ c,(cellsFrom n sc.names []).lookup x = some c :=by
  have q := PySem.W.cellsFrom_some sc.names n [] (.inl h)
  exact Option.isSome_iff_exists.mp q
theorem n4 {CX : CXT}{P:Program}{w:World}{K:PySem.W.Frag}{mg : Str → Option Value}{base : Heap}{N ps : List Str}{qual : Str}{scope : Scope}{f:Addr}{cd : Value}{A:Around}{outer : List Env}{s s1 : Shared}{H:Hp}{E:XK}{us : List Value}{vs : List V}
    (S:FnScope N ps scope) (hd : A.handled = none) (e0 : Env0 P w K mg base A outer s H) (hl : vs.length = ps.length) (r:Vals vs us)
    (x:InCallC s s.heap.objs.size (bindL (envOfC qual scope s.heap.objs.size f cd).kindOf (ps.zip us) fun _ => none) (cellsFrom (s.heap.objs.size + 1) scope.names []) (bindC (envOfC qual scope s.heap.objs.size f cd).kindOf (ps.zip us) fun _ => none) s1) :
    Inv (cxOf CX P w K mg base N qual scope f cd A outer s H E) [] (start N vs) H s1 :=by
  have hpl : ps.length ≤ N.length :=by have := congrArg List.length S.pre; rw [List.length_take] at this; omega
  obtain ⟨h1,tk,rfl,hk⟩ := x.done
  have noA : ∀ b : Addr,b ∉ (cxOf CX P w K mg base N qual scope f cd A outer s H E).ex := fun b z => absurd (show b ∈ ([] : List Addr) from z) (by simp)
  refine ⟨⟨e0.mod,S.kind,rfl,rfl,Nat.le_refl _,fun y z c h1 h2 => ?_,fun y hy => ?_,fun y c _ h => ?_,fun _ => hd,Around.frames_deeper e0.frames,.inr ⟨rfl,rfl⟩,fun b z => absurd z (noA b),e0.bs,e0.bsz,fun b _ _ => noA b,fun b z => absurd z (noA b),e0.funs,e0.frf⟩,
    rfl,e0.bare,Un.kept hk,⟨_,x.toInCall.ns,fun i y v h1 h2 h3 => ?_⟩,fun y c h => ⟨_,x.cell y c h⟩,e0.hok.fresh (Nat.le_refl _),fun y c h => ?_,fun p hp => absurd (show p ∈ ([] : List (Addr × Obj)) from hp) (by simp),e0.hok.kept hk,?_⟩
  · exact name_of_addr x.apart (PySem.mem_of_lookup h1) (PySem.mem_of_lookup h2)
  · have hy : scope.names.lookup y = some .cell ∨ scope.names.lookup y = some .free := hy
    rcases hy with hy | hy
    · exact lQ hy
    · exact absurd rfl (S.nofree _ (PySem.mem_of_lookup hy))
  · exact Nat.le_of_lt (x.above y c (PySem.mem_of_lookup h))
  · have hi : i < vs.length :=by
      unfold start at h2
      by_cases hi : i < vs.length
      · exact hi
      · rw [List.getElem?_append_right (by simpa using hi)] at h2
        rw [List.getElem?_replicate] at h2
        split at h2 <;> cases h2
    have ha : vs[i]? = some v :=by
      unfold start at h2
      rw [List.getElem?_append_left (by simpa using hi),List.getElem?_map] at h2
      cases e : vs[i]? with
      | none => rw [e] at h2; cases h2
      | some a => rw [e] at h2; cases h2; rfl
    obtain ⟨u,hu,rv⟩ := r.get ha
    have hp : ps[i]? = some y :=by
      rw [← S.pre,List.getElem?_take_of_lt (by omega)]; exact h1
    have ndP : ps.Nodup :=by rw [← S.pre]; exact S.nd.sublist (List.take_sublist _ _)
    refine ⟨u,rv,?_⟩
    rcases S.par y (List.mem_of_getElem? hp) with k | k
    · exact .inl ⟨k,jU ndP hp hu k⟩
    · obtain ⟨c,e⟩ := lQ (n := s.heap.objs.size + 1) k
      refine .inr ⟨.inl k,c,e,?_⟩
      have q := x.cell y c e
      rw [jW ndP hp hu (by show scope.names.lookup y ≠ _; rw [k]; decide)] at q
      exact q
  · exact e0.hok.fresh (Nat.le_of_lt (x.above y c (PySem.mem_of_lookup h)))
  · unfold start
    show _ = N.length
    rw [List.length_append,List.length_map,List.length_replicate]
    omega
theorem uw {CX : CXT}{P:Program}{w:World}{K:PySem.W.Frag}{mg : Str → Option Value}{base : Heap}{k:Nat}{f:Addr}{name qual : Str}{params : Arguments}{body : List Stmt}{scope : Scope}{dV kV doc pm cdv ct oc : Value}{an od : Option Addr}
    {osl : Array (Option Value)}{N ps : List Str}{sp : Sp} (lk : K.lookup f = some ⟨oc,od,.func (PySem.W.fnOf name qual params body scope dV kV doc pm an cdv ct),osl⟩) (hcd : PySem.W.codeIn K cdv qual = true) (S:FnScope N ps scope)
    (len : ∀ vs H Q E,sp vs H Q E → vs.length = ps.length)
    (hbody : ∀ (A:Around) (outer : List Env) (s:Shared) (H:Hp) (vs : List V) (Q:VK) (E:XK),Room k (A.deeper (envOfC qual scope s.heap.objs.size f cdv)) → sp vs H Q E →
      ∃ t,PSs (cxOf CX P w K mg base N qual scope f cdv A outer s H E) body t ∧ t { nx := fun _ H' => Q .non H',rt := Q } (start N vs) H) :
    FnOk P w K mg base CX (k + 1) f (PySem.W.fnOf name qual params body scope dV kV doc pm an cdv ct) ps sp :=by
  refine ⟨len,fun A outer s H args us vs Q E hr e0 hb r hsp => ?_⟩
  have hl := len _ _ _ _ hsp
  have KX : K.In s.heap := e0.mod.kin.keeps fun b o e => (e0.bs b o e).1
  have lim : s.heap.NoLimit := e0.mod.nolimit.keeps fun b o e => (e0.bs b o e).1
  have hkind : ∀ y ∈ ps.zip us,scope.names.lookup y.1 = some .local ∨ (scope.names.lookup y.1 = some .cell ∧ ((cellsFrom (s.heap.objs.size + 1) scope.names []).lookup y.1).isSome = true) := fun ⟨n,v⟩ hy => by
    rcases S.par n (List.of_mem_zip hy).1 with q | q
    · exact .inl q
    · exact .inr ⟨q,PySem.W.cellsFrom_some _ _ _ (.inl q)⟩
  refine codeAny_call_function hr.depth (KX _ _ lk) rfl S.co S.gen rfl (PySem.W.codeRec_of KX hcd) (hb _ _ _ _ ?_)
  refine wpAny_newFunctionEnv_cells S.kind hkind fun env he s1 x => ?_
  subst he
  refine ⟨lim.keeps x.toInCall.keep,codeAny_func ?_⟩
  obtain ⟨t,ht,hq⟩ := hbody A outer s H vs Q E (hr.deeper _) hsp
  have I : Inv (cxOf CX P w K mg base N qual scope f cdv A outer s H E) [] (start N vs) H s1 := n4 S hr.hd e0 hl r x
  refine wpAny_mono (ht [] s1 (start N vs) H _ I hq) (fun fl s' hs => ?_) fun e s' hs => hs
  have fin : ∀ {σ' : St}{H' : Hp}{v:V}{u:Value},Inv (cxOf CX P w K mg base N qual scope f cdv A outer s H E) [] σ' H' s' → RelV v u → Q v H' → CE outer P w H s Q u s' :=
    fun {σ' H' v u} J rv q => ⟨v,H',J.os,J.bare,J.base,J.hok,rv,q⟩
  cases fl with
  | ret u =>
    obtain ⟨v,σ',H',J,rv,q⟩ := hs
    exact fin J rv q
  | next =>
    obtain ⟨σ',H',J,q⟩ := hs
    exact fin (v := V.non) (u := Value.none) J rfl q
  | brk =>
    obtain ⟨_,_,_,q⟩ := hs
    exact False.elim q
  | cont =>
    obtain ⟨_,_,_,q⟩ := hs
    exact False.elim q
end L2
namespace L2
open PySem PySem.Spec PyProof.Rows
section
variable {X:Cx}{x:Str}{p pos : Pos}{e:Expr}{es : List Expr}{t:TA}{id T : String}{r:List V → Hp → VK → Prop}
noncomputable def tCB (r:List V → Hp → VK → Prop) (t:TA) : TE := fun σ H Q => t σ H fun vs H1 => r vs H1 Q
theorem oO (hc : CallR X (.builtin id) r) (hg : Gl X x) (hm : X.mg x = none) (hv : bootBuiltins x = some (.builtin id)) (ha : PA X (e :: es) t) (hn : x ≠ "__name__" := by decide) (hdb : (x == ("__debug__" : Str)) = false :=by decide)
    (he : starEach (e :: es) X.env = (false,eval e X.env) :: starEach es X.env :=by rfl) (hpl : (backTo pos (starEach es X.env)).any (·.1) = false :=by rfl) : PE X (.Call (.Name x p) (e :: es) [] pos) (tCB r t) :=by
  intro pins s σ H Q I h
  refine wpAny_Call_Name_kw (je I hg hm hv ?_ hn hdb)
  exact PyProof.Rows.callWith_builtin1 (thn (ha pos pins s σ H _ I h) fun us s1 ⟨vs,H1,I1,r1,q1⟩ => hc pins s1 σ H1 vs us Q I1 r1 q1) he hpl
theorem gK (hc : CallR X (.type T) r) (hg : Gl X x) (hm : X.mg x = none) (hv : bootBuiltins x = some (.type T)) (ha : PA X (e :: es) t) (hn : x ≠ "__name__" := by decide) (hdb : (x == ("__debug__" : Str)) = false :=by decide)
    (he : starEach (e :: es) X.env = (false,eval e X.env) :: starEach es X.env :=by rfl) (hpl : (backTo pos (starEach es X.env)).any (·.1) = false :=by rfl) : PE X (.Call (.Name x p) (e :: es) [] pos) (tCB r t) :=by
  intro pins s σ H Q I h
  refine wpAny_Call_Name_kw (je I hg hm hv ?_ hn hdb)
  exact PyProof.Rows.callWith_type1 (thn (ha pos pins s σ H _ I h) fun us s1 ⟨vs,H1,I1,r1,q1⟩ => hc pins s1 σ H1 vs us Q I1 r1 q1) he hpl
end
end L2
namespace HT
open PySem PyProof.Rows
section
open PySem.SeqAt
open PySem.AutoSeq1 (wpAny_loadPart')
open PySem.MeetsSeq PySem.MeetsSeq2 PySem.MeetsSeq3
end
section
variable {prog : Program}{w:World}{A:Around}{E:Value → Shared → Prop}{s:Shared}
theorem cat_tup {t b : Addr}{vs ws : List Value}{Q:Value → Shared → Prop} (ht : IsTup s.heap t vs.toArray) (hb : IsTup s.heap b ws.toArray) (hv : vs ≠ [])
    (h1 : ws = [] → Q (.ref t) s) (h2 : ws ≠ [] → Q (.ref s.heap.objs.size) { s with heap := s.heap.push { cls := .type "tuple",data := .seq (vs ++ ws).toArray } })
    (hsz : vs.length + ws.length ≤ sizeLine) : wpAny (model prog w) A (binaryOp .Add (.ref t) (.ref b)) Q E s :=by
  obtain ⟨⟨cls,dd,data,sl⟩,ho,hc,n,hd⟩ := id ht
  obtain ⟨⟨cls2,dd2,data2,sl2⟩,ho2,hc2,n2,hd2⟩ := id hb
  simp only at hc hd hc2 hd2
  subst hc hd hc2 hd2
  have e : vs.toArray ++ ws.toArray = (vs ++ ws).toArray :=by simp
  by_cases hw : ws = []
  · exact concat_meets ⟨_,ho,rfl⟩ ⟨_,ho2,rfl⟩ noFill_tuple_add seq_tuple_add PySem.F.slot_tuple_add PySem.F.entry_tuple_add (PySem.F.args_tuple_add_2 _ _)
      (tuple_addW1 t b vs.toArray ws.toArray n n2 dd dd2 sl sl2 (by simpa using hv) (by simp [hw])) ⟨ho,ho2,h1 hw⟩
  · refine concat_meets ⟨_,ho,rfl⟩ ⟨_,ho2,rfl⟩ noFill_tuple_add seq_tuple_add PySem.F.slot_tuple_add PySem.F.entry_tuple_add (PySem.F.args_tuple_add_2 _ _)
      (tuple_addW2 t b vs.toArray ws.toArray n n2 dd dd2 sl sl2 (by simpa using hv) (by simpa using hw) (by rw [List.size_toArray,List.size_toArray]; exact hsz)) ⟨ho,ho2,?_⟩
    rw [e]
    exact h2 hw
noncomputable def sIx (n d : Nat) : Option Int → Nat
  | none => d
  | some v => if v < 0 then (v + (n:Int)).toNat else min v.toNat n
theorem rQ (n d : Nat) (hd : d ≤ n) (o:Option Int) : sIx n d o ≤ n :=by
  cases o with
  | none => exact hd
  | some v =>
    show (if v < 0 then (v + (n:Int)).toNat else min v.toNat n) ≤ n
    by_cases hv : v < 0
    · rw [if_pos hv]; omega
    · rw [if_neg hv]; exact Nat.min_le_right _ _
theorem nt (v:Int) (n d : Nat) : (if v < 0 then max (v + (n:Int)) 0 else min v (n:Int)) = ((sIx n d (some v) : Nat) : Int) :=by
  show (if v < 0 then max (v + (n:Int)) 0 else min v (n:Int)) = (((if v < 0 then (v + (n:Int)).toNat else min v.toNat n) : Nat) : Int)
  by_cases hv : v < 0
  · simp only [if_pos hv]; omega
  · simp only [if_neg hv]; omega
theorem mH (lo hi : Option Int) (n:Nat) : Builtin.Slice.sliceAdjust lo hi 1 (n:Int) = (((sIx n 0 lo : Nat) : Int),((sIx n n hi : Nat) : Int)) :=by
  have h1 : ¬ ((1 : Int) < 0) :=by omega
  unfold Builtin.Slice.sliceAdjust
  simp only [h1,if_false]
  refine Prod.ext ?_ ?_
  · cases lo with
    | none => rfl
    | some v => exact nt v n 0
  · cases hi with
    | none => rfl
    | some v => exact nt v n n
theorem lY (i j : Nat) : Builtin.Slice.slicePlaces (i:Int) (j:Int) 1 = j - i :=by
  unfold Builtin.Slice.slicePlaces
  have h1 : (1 : Int) > 0 :=by omega
  simp only [h1,if_true,Int.ediv_one]
  split <;> omega
theorem iu {v:Value}{o:Option Int}{Q:Option Int → Shared → Prop} (p:IsPart v o) (h:Q o s) : wpAny (model prog w) A (Builtin.Slice.slicePartIndex v) Q E s :=by
  cases p with
  | none => exact slicePart_none h
  | int i t => exact slicePart_int h
theorem gJ {sl : Addr}{vl vu : Value}{lo hi : Option Int}{n:Nat}{Q:Int × Int × Nat → Shared → Prop} (hs : s.heap.IsSliceOf sl vl vu .none) (pl : IsPart vl lo) (pu : IsPart vu hi)
    (h:Q (((sIx n 0 lo : Nat) : Int),1,sIx n n hi - sIx n 0 lo) s) : wpAny (model prog w) A (Builtin.Slice.sliceApplied (.ref sl) (pure (n:Int))) Q E s :=by
  obtain ⟨os,hos,hcs,hds⟩ := id hs
  unfold Builtin.Slice.sliceApplied Builtin.Slice.sliceFields
  refine wpAny_bind (wpAny_bind (wpAny_field hos hds (x := vl) rfl (wpAny_bind (wpAny_field hos hds (x := vu) rfl (wpAny_bind (wpAny_field hos hds (x := .none) rfl (wpAny_pure ?_)))))))
  refine wpAny_bind (slicePart_none ?_)
  show wpAny _ _ (if ((1 : Int) == 0) = true then _ else _) _ _ s
  rw [if_neg (by decide)]
  refine wpAny_bind (iu pl (wpAny_bind (iu pu (wpAny_bind (wpAny_pure ?_)))))
  show wpAny _ _ (match Builtin.Slice.sliceAdjust lo hi 1 (n:Int) with | (lo,hi) => pure (lo,(1 : Int),Builtin.Slice.slicePlaces lo hi 1)) _ _ s
  rw [mH lo hi n]
  show wpAny _ _ (pure (((sIx n 0 lo : Nat) : Int),(1 : Int),Builtin.Slice.slicePlaces ((sIx n 0 lo : Nat) : Int) ((sIx n n hi : Nat) : Int) 1)) _ _ s
  rw [lY]
  exact wpAny_pure h
theorem oK (xs : Array Value) (i k : Nat) : ((List.range k).filterMap fun (m:Nat) => xs[((i:Int) + (m:Int) * 1).toNat]?).toArray = ((xs.toList.drop i).take k).toArray :=by
  have e : (fun (m:Nat) => xs[((i:Int) + (m:Int) * 1).toNat]?) = fun m => xs[i + m]? := by
    funext m
    have : ((i:Int) + (m:Int) * 1).toNat = i + m :=by omega
    rw [this]
  rw [e]
  have := pick_run xs i k
  rw [List.filterMap_map] at this
  have e2 : ((fun x => xs[x]?) ∘ fun x => i + x) = fun m => xs[i + m]? := rfl
  rw [e2] at this
  rw [this]
theorem getItem_tuple_cut {t sl : Addr}{items : Array Value}{vl vu : Value}{lo hi : Option Int}{Q:Value → Shared → Prop} (ht : IsTup s.heap t items) (hs : s.heap.IsSliceOf sl vl vu .none) (pl : IsPart vl lo) (pu : IsPart vu hi)
    (hw : ¬ (sIx items.size 0 lo = 0 ∧ sIx items.size items.size hi = items.size))
    (h:Q (.ref s.heap.objs.size) { s with heap := s.heap.push { cls := .type "tuple",data := .seq ((items.toList.drop (sIx items.size 0 lo)).take (sIx items.size items.size hi - sIx items.size 0 lo)).toArray } })
    (hsz : items.size ≤ sizeLine) : wpAny (model prog w) A (getItem (.ref t) (.ref sl)) Q E s :=by
  have htake : sizeOk (.seq ((items.toList.drop (sIx items.size 0 lo)).take (sIx items.size items.size hi - sIx items.size 0 lo)).toArray) :=by
    show ((items.toList.drop (sIx items.size 0 lo)).take (sIx items.size items.size hi - sIx items.size 0 lo)).toArray.size ≤ sizeLine
    rw [List.size_toArray,List.length_take,List.length_drop,Array.length_toList]
    omega
  have hj : sIx items.size items.size hi ≤ items.size := rQ _ _ (Nat.le_refl _) hi
  obtain ⟨os,hos,hcs,hds⟩ := id hs
  have hTs : s.TypeIs (.ref sl) "slice" := ⟨os,hos,hcs⟩
  unfold getItem
  try with_reducible refine wpAny_holding ?_
  first | refine wpAny_bind (wpAny_pure ?_) | skip
  refine wpAny_bind (wpAny_sequenceKey ht.typeIs (by decide) ?_)
  refine wpAny_bind (wpAny_callSpecial?_slot (name := Str.ofString "__getitem__") ht.typeIs PyProof.Rows.slot_tuple_getitem
    (wpAny_call_entry PyProof.Rows.slot_tuple_getitem ht.typeIs entry_tuple_getitem ?_ (args_tuple_getitem _ _)))
  show wpAny _ _ (Builtin.Tuple.tupleItemsOf (.ref t) >>= _) _ _ s
  refine wpAny_bind (tupleItemsOf_ ht ?_)
  refine wpAny_bind (wpAny_typeOf hTs ?_)
  rw [if_pos (by decide)]
  refine wpAny_bind (gJ hs pl pu ?_)
  have hno : ¬ ((((sIx items.size 0 lo : Nat) : Int) == 0 && (1 : Int) == 1 && (sIx items.size items.size hi - sIx items.size 0 lo) == items.size) = true) :=by
    intro q
    rw [Bool.and_eq_true,Bool.and_eq_true] at q
    have q1 : ((sIx items.size 0 lo : Nat) : Int) = 0 := eq_of_beq q.1.1
    have q2 : sIx items.size items.size hi - sIx items.size 0 lo = items.size := eq_of_beq q.2
    exact hw ⟨by omega,by omega⟩
  show wpAny _ _ (if (((sIx items.size 0 lo : Nat) : Int) == 0 && (1 : Int) == 1 && (sIx items.size items.size hi - sIx items.size 0 lo) == items.size) = true then _ else _) _ _ s
  rw [if_neg hno,oK]
  first
    | exact wpAny_bind (m := Builtin.Tuple.tupleExact _) (wpAny_newObj_type (wpAny_pure ⟨_,rfl,wpAny_pure h⟩) htake)
    | exact wpAny_bind (m := Builtin.Tuple.tupleExact _) (wpAny_newObj_type (wpAny_bind (wpAny_pure (wpAny_pure ⟨_,rfl,wpAny_pure h⟩))) htake)
    | exact wpAny_bind (wpAny_bind (m := Builtin.Tuple.tupleExact _) (wpAny_newObj_type (wpAny_pure (wpAny_pure ⟨_,rfl,wpAny_pure h⟩)) htake))
    | exact wpAny_bind (wpAny_bind (m := Builtin.Tuple.tupleExact _) (wpAny_newObj_type (wpAny_pure ⟨_,rfl,wpAny_pure h⟩) htake))
end
end HT
namespace L2
open PySem PySem.Spec PyProof.Rows
noncomputable abbrev TO := St → Hp → (Option Int → Hp → Prop) → Prop
noncomputable def PO (X:Cx) (e:Option Expr) (t:TO) : Prop :=
  ∀ (pins : List (Addr × Obj)) (s:Shared) (σ : St) (H:Hp) (Q:Option Int → Hp → Prop),Inv X pins σ H s → t σ H Q →
    wpAny (model X.prog X.w) X.A (evalPart e X.env) (fun u s' => ∃ o H',Inv X pins σ H' s' ∧ IsPart u o ∧ Q o H') X.xe s
noncomputable def pV : TO := fun _ H Q => Q none H
noncomputable def tPart (t:TE) : TO := fun σ H Q => t σ H fun x H1 => ∃ i,x = .int i ∧ Q (some i) H1
section
variable {X:Cx}{e:Expr}{te : TE}{lo hi : Option Expr}{tl th : TO}{pos p2 : Pos}
theorem po_none : PO X none pV :=by
  intro pins s σ H Q I h
  rw [evalPart_none]
  exact wpAny_pure ⟨none,H,I,.none,h⟩
theorem qh (h:PE X e te) : PO X (some e) (tPart te) :=by
  intro pins s σ H Q I hw
  rw [evalPart_some]
  refine thn (h pins s σ H _ I hw) fun u s1 ⟨x,H1,I1,r1,q1⟩ => ?_
  obtain ⟨i,rfl,q⟩ := q1
  obtain ⟨t,rfl⟩ := r1
  exact ⟨some i,H1,I1,.int i t,q⟩
noncomputable def SlR (X:Cx) (r:V → Option Int → Option Int → Hp → VK → Prop) : Prop :=
  ∀ (pins : List (Addr × Obj)) (s:Shared) (σ : St) (H:Hp) (x:V) (v vl vu : Value) (lo hi : Option Int) (sl : Addr) (Q:VK),Inv X pins σ H s → RelV x v → s.heap.IsSliceOf sl vl vu .none → IsPart vl lo → IsPart vu hi → r x lo hi H Q →
    ∃ T id,typeLookup (.type T) "__getitem__" = pure (some (.builtin id)) ∧ s.TypeIs v T ∧ wpAny (model X.prog X.w) X.A (getItem v (.ref sl)) (EP X pins σ Q) X.xe s
theorem SlR.or {r r' : V → Option Int → Option Int → Hp → VK → Prop} (h:SlR X r) (h' : SlR X r') : SlR X (fun x lo hi H Q => r x lo hi H Q ∨ r' x lo hi H Q) :=by
  intro pins s σ H x v vl vu lo hi sl Q I rx hs pl pu q
  rcases q with q | q
  · exact h pins s σ H x v vl vu lo hi sl Q I rx hs pl pu q
  · exact h' pins s σ H x v vl vu lo hi sl Q I rx hs pl pu q
noncomputable def tSl (r:V → Option Int → Option Int → Hp → VK → Prop) (te : TE) (tl th : TO) : TE := fun σ H Q => te σ H fun x H1 => tl σ H1 fun l H2 => th σ H2 fun u H3 => r x l u H3 Q
theorem oM {r:V → Option Int → Option Int → Hp → VK → Prop} (hr : SlR X r) (he : PE X e te) (hl : PO X lo tl) (hu : PO X hi th) : PE X (.Subscript e (.Slice lo hi none p2) pos) (tSl r te tl th) :=by
  intro pins s σ H Q I h
  refine Subscript_ (thn (he pins s σ H _ I h) fun v s1 ⟨x,H1,I1,r1,q1⟩ => ?_)
  refine wpAny_Slice (thn (hl pins s1 σ H1 _ I1 q1) fun vl s2 ⟨l,H2,I2,pl,q2⟩ => thn (hu pins s2 σ H2 _ I2 q2) fun vu s3 ⟨u,H3,I3,pu,q3⟩ => ?_)
  rw [evalPart_none]
  refine wpAny_pure ?_
  have I4 : Inv X pins σ H3 { s3 with heap := s3.heap.push { cls := .type "slice",data := .fields #[vl,vu,.none] } } := I3.kept (t' := s3.toks) fun b ob q => Heap.get?_push_of_some _ q
  obtain ⟨T,id,hT,ht,hg⟩ := hr pins { s3 with heap := s3.heap.push { cls := .type "slice",data := .fields #[vl,vu,.none] } } σ H3 x v vl vu l u s3.heap.objs.size Q I4 r1 (Heap.IsSliceOf.new ..) pl pu q3
  show wpAny (model X.prog X.w) X.A (subscriptTail e (.Slice lo hi none p2) v (.ref s3.heap.objs.size)) (EP X pins σ Q) X.xe { s3 with heap := s3.heap.push { cls := .type "slice",data := .fields #[vl,vu,.none] } }
  exact tail_any (ops := [.ref s3.heap.objs.size,v]) ht hT hg (by with_unfolding_all rfl)
noncomputable def cutV (xs : List V) (lo hi : Option Int) : List V := (xs.drop (HT.sIx xs.length 0 lo)).take (HT.sIx xs.length xs.length hi - HT.sIx xs.length 0 lo)
theorem g7 (xs : List V) (lo hi : Option Int) : (cutV xs lo hi).length ≤ xs.length :=by
  unfold cutV
  rw [List.length_take,List.length_drop]
  omega
noncomputable def rSlT (K:PySem.W.Frag) : V → Option Int → Option Int → Hp → VK → Prop := fun x lo hi H Q => ∃ a xs,x = .ref a ∧ SqT K H a xs ∧
  ¬ (HT.sIx xs.length 0 lo = 0 ∧ HT.sIx xs.length xs.length hi = xs.length) ∧ ∀ p,H p = none → Q (.ref p) (upd H p (.tup (cutV xs lo hi)))
theorem sl_tup : SlR X (rSlT X.K) :=by
  intro pins s σ H x v vl vu lo hi sl Q I rx hs pl pu h
  obtain ⟨a,xs,rfl,hx,hw,q⟩ := h
  cases rx
  obtain ⟨its,r,ht,hz⟩ := I.tuple hx
  have hlen : its.toArray.size = xs.length :=by rw [List.size_toArray]; exact r.length.symm
  refine ⟨"tuple",_,PyProof.Rows.slot_tuple_getitem.lookup,ht.typeIs,?_⟩
  refine HT.getItem_tuple_cut ht hs pl pu (by rw [hlen]; exact hw) ?_ (by rw [hlen]; exact hz)
  rw [hlen]
  refine ⟨.ref s.heap.objs.size,_,I.laid (t' := s.toks) (o := .tup (cutV xs lo hi)) (fun b ob q => Heap.get?_push_of_some _ q) (Nat.le_refl _) ?_,rfl,q _ (I.hok.fresh (Nat.le_refl _))⟩
  exact ⟨Nat.le_trans (g7 xs lo hi) hz,_,(r.drop (HT.sIx xs.length 0 lo)).take (HT.sIx xs.length xs.length hi - HT.sIx xs.length 0 lo),IsTupD.new _ _⟩
noncomputable def rCatT (K:PySem.W.Frag) : R2 := fun x y H Q => ∃ a b xs ys,x = .ref a ∧ y = .ref b ∧ SqT K H a xs ∧ SqT K H b ys ∧ xs ≠ [] ∧ xs.length + ys.length ≤ sizeLine ∧
  (ys = [] → Q (.ref a) H) ∧ (ys ≠ [] → ∀ p,H p = none → Q (.ref p) (upd H p (.tup (xs ++ ys))))
theorem Vals.nil_iff {xs : List V}{us : List Value} (r:Vals xs us) : us = [] ↔ xs = [] :=by
  cases r with
  | nil => simp
  | cons _ _ => simp
theorem op_catT : OpR X (binaryOp .Add) (rCatT X.K) :=by
  intro pins s σ H x y v u Q I rx ry h
  obtain ⟨a,b,xs,ys,rfl,rfl,ha,hb,hx,hz,q1,q2⟩ := h
  cases rx
  cases ry
  obtain ⟨its,r1,p1,_⟩ := I.tuple ha
  obtain ⟨its2,r2,p2,_⟩ := I.tuple hb
  refine HT.cat_tup p1 p2 (fun z => hx (r1.nil_iff.mp z)) (fun z => ⟨.ref a,H,I,rfl,q1 (r2.nil_iff.mp z)⟩) (fun z => ?_) (by rw [← r1.length,← r2.length]; exact hz)
  refine ⟨.ref s.heap.objs.size,_,I.laid (t' := s.toks) (o := .tup (xs ++ ys)) (fun b ob q => Heap.get?_push_of_some _ q) (Nat.le_refl _) ?_,rfl,q2 (fun w => z (r2.nil_iff.mpr w)) _ (I.hok.fresh (Nat.le_refl _))⟩
  exact ⟨by rw [List.length_append]; exact hz,_,r1.append r2,IsTupD.new _ _⟩
end
end L2
namespace L2
open PySem PySem.Spec PyProof.Rows
noncomputable def ixN (n:Nat) (i:Int) : Option Nat := if 0 ≤ i then (if i < n then some i.toNat else none) else if -(n:Int) ≤ i then some (i + n).toNat else none
noncomputable def atI {α : Type} (xs : List α) (i:Int) : Option α := (ixN xs.length i).bind fun j => xs[j]?
theorem ku {n:Nat}{i:Int}{j:Nat} (h:ixN n i = some j) : seqIndex? i n = some j ∧ j < n ∧ -(n:Int) ≤ i ∧ i < n :=by
  unfold ixN at h
  by_cases h0 : 0 ≤ i
  · rw [if_pos h0] at h
    by_cases h1 : i < n
    · rw [if_pos h1] at h
      have e : i.toNat = j := Option.some.inj h
      exact ⟨by rw [seqIndex_of h0 h1,e],by omega,by omega,h1⟩
    · rw [if_neg h1] at h; cases h
  · rw [if_neg h0] at h
    by_cases h1 : -(n:Int) ≤ i
    · rw [if_pos h1] at h
      have e : (i + n).toNat = j := Option.some.inj h
      exact ⟨by rw [seqIndex_neg (by omega) h1,e],by omega,h1,by omega⟩
    · rw [if_neg h1] at h; cases h
theorem kL {α : Type}{xs : List α}{i:Int}{v:α} (h:atI xs i = some v) : ∃ j,seqIndex? i xs.length = some j ∧ xs[j]? = some v ∧ j < xs.length ∧ -(xs.length : Int) ≤ i ∧ i < xs.length :=by
  unfold atI at h
  cases e : ixN xs.length i with
  | none => rw [e] at h; cases h
  | some j =>
    rw [e] at h
    obtain ⟨h1,h2,h3,h4⟩ := ku e
    exact ⟨j,h1,h,h2,h3,h4⟩
theorem da {α : Type}{xs : List α}{j:Nat}{v:α} (h:xs[j]? = some v) : atI xs (j:Int) = some v :=by
  have hj : j < xs.length := (List.getElem?_eq_some_iff.mp h).1
  have e : ixN xs.length (j:Int) = some j :=by
    unfold ixN
    rw [if_pos (by omega),if_pos (by omega)]; simp
  unfold atI; rw [e]; exact h
theorem pR {α : Type} (xs : List α) (v:α) : atI (xs ++ [v]) (-1) = some v :=by
  have hl : (xs ++ [v]).length = xs.length + 1 :=by simp
  have e : ixN (xs ++ [v]).length (-1) = some xs.length :=by
    unfold ixN
    rw [hl,if_neg (by decide),if_pos (by omega)]
    congr 1
    omega
  unfold atI
  rw [e]
  show (xs ++ [v])[xs.length]? = some v
  simp
noncomputable def nw (b:Expr) : Prop := ∀ o i,subscripted b false o i = operate [o,i] (getItem o i)
noncomputable def IxR (X:Cx) (r:R2) : Prop :=
  ∀ (value slice : Expr) (pins : List (Addr × Obj)) (s:Shared) (σ : St) (H:Hp) (x y : V) (v u : Value) (Q:VK),Inv X pins σ H s → RelV x v → RelV y u → r x y H Q →
    subscripted slice false v u = operate [v,u] (getItem v u) → wpAny (model X.prog X.w) X.A (subscriptTail value slice v u) (EP X pins σ Q) X.xe s
noncomputable def MtR (X:Cx) (id : String) (r:V → List V → Hp → VK → Prop) : Prop :=
  ∀ (pins : List (Addr × Obj)) (s:Shared) (σ : St) (H:Hp) (x:V) (xs : List V) (v:Value) (us : List Value) (Q:VK),Inv X pins σ H s → RelV x v → Vals xs us → r x xs H Q →
    wpAny (model X.prog X.w) X.A (call (.builtin id) (v :: us)) (EP X pins σ Q) X.xe s
section
variable {X:Cx}{a b : Expr}{ta tb : TE}{pos : Pos}
theorem IxR.or {r r' : R2} (h:IxR X r) (h' : IxR X r') : IxR X (fun x y H Q => r x y H Q ∨ r' x y H Q) :=by
  intro value slice pins s σ H x y v u Q I rx ry q hs
  rcases q with q | q
  · exact h value slice pins s σ H x y v u Q I rx ry q hs
  · exact h' value slice pins s σ H x y v u Q I rx ry q hs
theorem uj {r:R2} (hr : IxR X r) (ha : PE X a ta) (hb : PE X b tb) (hs : nw b) : PE X (.Subscript a b pos) (tOp r ta tb) :=by
  intro pins s σ H Q I h
  exact Subscript_ (binT ha hb I h fun v u s2 x y H2 I2 rx ry q => hr a b pins s2 σ H2 x y v u Q I2 rx ry q (hs _ _))
noncomputable def rIxL (K:PySem.W.Frag) : R2 := fun x y H Q => ∃ p xs i v,x = .ref p ∧ y = .int i ∧ SqL K H p xs ∧ atI xs i = some v ∧ Q v H
noncomputable def rIxT (K:PySem.W.Frag) : R2 := fun x y H Q => ∃ p xs i v,x = .ref p ∧ y = .int i ∧ SqT K H p xs ∧ atI xs i = some v ∧ Q v H
noncomputable def rIxS : R2 := fun x y H Q => ∃ z i c,x = .str z ∧ y = .int i ∧ z.length ≤ sizeLine ∧ atI z.cps.toList i = some c ∧ Q (.str ⟨#[c]⟩) H
theorem ix_list : IxR X (rIxL X.K) :=by
  intro value slice pins s σ H x y v u Q I rx ry h hs
  obtain ⟨p,xs,i,z,rfl,rfl,hq,he,q⟩ := h
  cases rx
  obtain ⟨t,rfl⟩ := ry
  obtain ⟨its,r,pl,hz⟩ := I.list hq
  obtain ⟨j,h1,h2,h3,h4,h5⟩ := kL he
  obtain ⟨w,ew,rw'⟩ := r.get h2
  have hl := r.length
  have hn := gQ
  have fin : EP X pins σ Q w s := ⟨z,H,I,rw',q⟩
  by_cases h0 : 0 ≤ i
  · have hj : i.toNat = j :=by
      rw [seqIndex_of h0 h5] at h1
      exact Option.some.inj h1
    exact item_listR pl.isList h0 (by omega) (by rw [hj]; simpa using ew) fin hs
  · have hj : (i + (its.toArray.size : Int)).toNat = j :=by
      rw [seqIndex_neg (by omega) h4] at h1
      rw [List.size_toArray,← hl]
      exact Option.some.inj h1
    exact subscriptTail_builtinR (x := w) pl.isList.typeIs slot_list_getitem.lookup
      (wpAny_getItem_list_neg (Q := fun r s' => r = w ∧ EP X pins σ Q r s') pl.isList (by omega) (by rw [List.size_toArray] <;> omega) (by omega) (by rw [hj]; simpa using ew) ⟨rfl,fin⟩) hs
theorem ix_tup : IxR X (rIxT X.K) :=by
  intro value slice pins s σ H x y v u Q I rx ry h hs
  obtain ⟨p,xs,i,z,rfl,rfl,hq,he,q⟩ := h
  cases rx
  obtain ⟨t,rfl⟩ := ry
  obtain ⟨its,r,pl,hz⟩ := I.tuple hq
  obtain ⟨j,h1,h2,h3,h4,h5⟩ := kL he
  obtain ⟨w,ew,rw'⟩ := r.get h2
  have hl := r.length
  have hn := gQ
  have fin : EP X pins σ Q w s := ⟨z,H,I,rw',q⟩
  exact subscriptTail_builtinR (x := w) pl.typeIs slot_tuple_getitem.lookup
    (getItem_tuple (j := j) (Q := fun r s' => r = w ∧ EP X pins σ Q r s') pl (by omega) (by omega) (by rw [List.size_toArray,← hl]; exact h1) (by simpa using ew) ⟨rfl,fin⟩) hs
theorem tf : IxR X rIxS :=by
  intro value slice pins s σ H x y v u Q I rx ry h hs
  obtain ⟨z,i,c,rfl,rfl,hz,he,q⟩ := h
  obtain ⟨t,rfl⟩ := rx
  obtain ⟨t',rfl⟩ := ry
  obtain ⟨j,h1,h2,h3,h4,h5⟩ := kL he
  have hl : z.cps.toList.length = z.length :=by simp [Str.length]
  rw [hl] at h1 h4 h5
  have hn := gQ
  exact tail_any (typeIs_str s z t) slot_str_getitem.lookup (getItem_str (c := c) (by
    have e1 : decide (i < -(2 ^ 63 : Int)) = false := decide_eq_false (by omega)
    have e2 : decide (i ≥ 2 ^ 63) = false := decide_eq_false (by omega)
    rw [e1,e2,Bool.or_false]) (by rw [h1]; simpa using h2) ⟨.str ⟨#[c]⟩,H,I.tok _,⟨_,rfl⟩,q⟩) hs
noncomputable def rIx (K:PySem.W.Frag) : R2 := fun x y H Q => rIxL K x y H Q ∨ rIxT K x y H Q ∨ rIxS x y H Q
theorem ix_seq : IxR X (rIx X.K) := ix_list.or (ix_tup.or tf)
theorem ms (its : List Value) (n j : Nat) (u:Value) : Obj.mapSeq (·.setIfInBounds j u) { cls := .type "list",data := .seq its.toArray n } = { cls := .type "list",data := .seq (its.set j u).toArray n } :=by
  simp [Obj.mapSeq]
theorem Inv.lst {pins : List (Addr × Obj)}{σ : St}{H:Hp}{s:Shared}{p:Addr}{xs : List V} (I:Inv X pins σ H s) (h:H p = some (.lst xs)) :
    ∃ (its : List Value) (n:Nat),Vals xs its ∧ s.heap.get? p = some { cls := .type "list",data := .seq its.toArray n } ∧ xs.length ≤ sizeLine :=by
  obtain ⟨z,its,n,r,e⟩ := I.hok p _ h
  exact ⟨its,n,r,e,z⟩
theorem Inv.lstUpd {pins : List (Addr × Obj)}{σ : St}{H:Hp}{s:Shared}{p:Addr}{xs ys : List V}{its its' : List Value}{n n' : Nat}{f:Obj → Obj} (I:Inv X pins σ H s) (h:H p = some (.lst xs))
    (ho : s.heap.get? p = some { cls := .type "list",data := .seq its.toArray n }) (hf : f { cls := .type "list",data := .seq its.toArray n } = { cls := .type "list",data := .seq its'.toArray n' }) (r:Vals ys its') (hz : ys.length ≤ sizeLine) (t:Nat) :
    Inv X pins σ (upd H p (.lst ys)) { s with heap := s.heap.update p f,toks := t } :=by
  have e : (s.heap.update p f).get? p = some { cls := .type "list",data := .seq its'.toArray n' } :=by
    rw [Heap.get?_update_self f ho (by rw [hf] <;> rfl),hf]
  refine I.write (x := p) (e := p) (by rw [h]; trivial) (.inl rfl) (fun b u hb q => (Heap.get?_update_other _ _ (Ne.symm hb)).trans q) ⟨_,e⟩ ?_
  exact ⟨hz,its',n',r,e⟩
noncomputable def rSetL : V → V → V → Hp → (Hp → Prop) → Prop := fun o i v H Q => ∃ p xs k j,o = .ref p ∧ i = .int k ∧ H p = some (.lst xs) ∧ ixN xs.length k = some j ∧ Q (upd H p (.lst (xs.set j v)))
theorem set_list : PSet X rSetL :=by
  intro pins s σ H o i v ov iv u Q I ro ri rv h
  obtain ⟨p,xs,k,j,rfl,rfl,hp,hj,q⟩ := h
  cases ro
  obtain ⟨t,rfl⟩ := ri
  obtain ⟨its,n,r,ho,hz⟩ := I.lst hp
  obtain ⟨h1,h2,h3,h4⟩ := ku hj
  have hl := r.length
  have hn := gQ
  have I' : Inv X pins σ (upd H p (.lst (xs.set j v))) { s with heap := s.heap.update p (Obj.mapSeq (·.setIfInBounds j u)) } :=
    I.lstUpd hp ho (ms its n j u) (r.set rv j) (by rw [List.length_set]; exact hz) s.toks
  by_cases h0 : 0 ≤ k
  · have hk : k.toNat = j :=by
      rw [seqIndex_of h0 h4] at h1
      exact Option.some.inj h1
    exact PySem.W.ki_setAt ho h0 (by omega) (by rw [List.size_toArray,← hl]; exact h4) (by rw [hk]; exact ⟨_,I',q⟩)
  · have hk : (k + (its.toArray.size : Int)).toNat = j :=by
      rw [seqIndex_neg (by omega) h3] at h1
      rw [List.size_toArray,← hl]
      exact Option.some.inj h1
    exact PySem.W.ki_setBack ho (by omega) (by rw [List.size_toArray,← hl]; exact h3) (by omega) (by rw [hk]; exact ⟨_,I',q⟩)
theorem j0 (lo hi : Option Int) (n:Nat) : (sliceBounds lo hi none n).1 = ((HT.sIx n 0 lo : Nat) : Int) ∧ (sliceBounds lo hi none n).2.1 = ((HT.sIx n n hi : Nat) : Int) ∧ (sliceBounds lo hi none n).2.2 = 1 :=by
  refine ⟨?_,?_,rfl⟩
  · cases lo with
    | none => simp [sliceBounds,HT.sIx]
    | some i =>
      simp only [sliceBounds,HT.sIx,Option.getD_none,show (1 : Int) > 0 by decide,if_true]
      by_cases h : i < 0
      · simp only [h,if_true] <;> omega
      · simp only [h,if_false] <;> omega
  · cases hi with
    | none => simp [sliceBounds,HT.sIx]
    | some i =>
      simp only [sliceBounds,HT.sIx,Option.getD_none,show (1 : Int) > 0 by decide,if_true]
      by_cases h : i < 0
      · simp only [h,if_true] <;> omega
      · simp only [h,if_false] <;> omega
theorem jp (its : List Value) (lo hi : Option Int) : slicePick its.toArray lo hi none = ((its.drop (HT.sIx its.length 0 lo)).take (HT.sIx its.length its.length hi - HT.sIx its.length 0 lo)).toArray :=by
  obtain ⟨h1,h2,h3⟩ := j0 lo hi its.toArray.size
  unfold slicePick
  rw [h1,h2,h3]
  simp only [sliceRange_one,pick_run,List.size_toArray] <;> rfl
noncomputable def rSlL (K:PySem.W.Frag) : V → Option Int → Option Int → Hp → VK → Prop := fun x lo hi H Q => ∃ a xs,x = .ref a ∧ SqL K H a xs ∧ ∀ p,H p = none → Q (.ref p) (upd H p (.lst (cutV xs lo hi)))
theorem pX : SlR X (rSlL X.K) :=by
  intro pins s σ H x v vl vu lo hi sl Q I rx hs pl pu h
  obtain ⟨a,xs,rfl,hx,q⟩ := h
  cases rx
  obtain ⟨its,r,ht,hz⟩ := I.list hx
  have hlen := r.length
  refine ⟨"list",_,slot_list_getitem.lookup,ht.isList.typeIs,?_⟩
  refine wpAny_getItem_list_slice ht.isList hs pl pu .none (by simp) ?_ (by rw [List.size_toArray] <;> omega)
  rw [jp,← hlen]
  refine ⟨.ref s.heap.objs.size,_,I.laid (t' := s.toks) (o := .lst (cutV xs lo hi)) (fun b ob q => Heap.get?_push_of_some _ q) (Nat.le_refl _) ?_,rfl,q _ (I.hok.fresh (Nat.le_refl _))⟩
  exact ⟨Nat.le_trans (g7 xs lo hi) hz,_,0,(r.drop (HT.sIx xs.length 0 lo)).take (HT.sIx xs.length xs.length hi - HT.sIx xs.length 0 lo),Heap.get?_push_size _ rfl⟩
noncomputable def flatV : V → Bool
  | .non => true
  | .bl _ => true
  | .int _ => true
  | .str _ => true
  | _ => false
noncomputable def eqV : V → V → Bool
  | .non,.non => true
  | .bl a,.bl b => a == b
  | .bl a,.int b => (if a then 1 else 0) == b
  | .int a,.bl b => a == (if b then 1 else 0)
  | .int a,.int b => a == b
  | .str a,.str b => a == b
  | _,_ => false
theorem tw {A:Around}{s:Shared}{y x : V}{u v : Value} (ry : RelV y u) (rx : RelV x v) (fy : flatV y = true) (fx : flatV x = true) : SeqAt.EqAt A s u v (eqV y x) :=by
  cases y with
  | non =>
    cases ry
    cases x with
    | non => cases rx; exact SeqAt.EqAt.same _
    | bl b => cases rx; exact SeqAt.EqAt.none_bool b
    | int b => obtain ⟨t,rfl⟩ := rx; exact SeqAt.EqAt.none_int b t
    | str b => obtain ⟨t,rfl⟩ := rx; exact SeqAt.EqAt.none_str b t
    | _ => exact absurd (show false = true from fx) Bool.false_ne_true
  | bl a =>
    cases ry
    cases x with
    | non => cases rx; exact SeqAt.EqAt.bool_none a
    | bl b => cases rx; exact SeqAt.EqAt.bool_bool a b
    | int b => obtain ⟨t,rfl⟩ := rx; exact SeqAt.EqAt.bool_int a b t
    | str b => obtain ⟨t,rfl⟩ := rx; exact SeqAt.EqAt.bool_str a b t
    | _ => exact absurd (show false = true from fx) Bool.false_ne_true
  | int a =>
    obtain ⟨t',rfl⟩ := ry
    cases x with
    | non => cases rx; exact SeqAt.EqAt.int_none a t'
    | bl b => cases rx; exact SeqAt.EqAt.int_bool a t' b
    | int b => obtain ⟨t,rfl⟩ := rx; exact SeqAt.EqAt.int_int a t' b t
    | str b => obtain ⟨t,rfl⟩ := rx; exact SeqAt.EqAt.int_str a t' b t
    | _ => exact absurd (show false = true from fx) Bool.false_ne_true
  | str a =>
    obtain ⟨t',rfl⟩ := ry
    cases x with
    | non => cases rx; exact SeqAt.EqAt.str_none a t'
    | bl b => cases rx; exact SeqAt.EqAt.str_bool a t' b
    | int b => obtain ⟨t,rfl⟩ := rx; exact SeqAt.EqAt.str_int a t' b t
    | str b => obtain ⟨t,rfl⟩ := rx; exact SeqAt.EqAt.str_str a t' b t
    | _ => exact absurd (show false = true from fx) Bool.false_ne_true
  | _ => exact absurd (show false = true from fy) Bool.false_ne_true
noncomputable def eqU (x:V) (u:Value) : Bool := match u with
  | .none => eqV .non x
  | .bool b => eqV (.bl b) x
  | .int i _ => eqV (.int i) x
  | .str z _ => eqV (.str z) x
  | _ => false
theorem pH {x y : V}{u:Value} (r:RelV y u) (f:flatV y = true) : eqU x u = eqV y x :=by
  cases y with
  | non => cases r; rfl
  | bl b => cases r; rfl
  | int i => obtain ⟨t,rfl⟩ := r; rfl
  | str z => obtain ⟨t,rfl⟩ := r; rfl
  | _ => exact absurd (show false = true from f) Bool.false_ne_true
theorem kM {x:V} : ∀ {xs : List V}{us : List Value},Vals xs us → xs.all flatV = true → us.any (eqU x) = xs.any fun y => eqV y x
  | _,_,.nil,_ => rfl
  | y :: xs,u :: us,.cons r t,f => by
    rw [List.all_cons,Bool.and_eq_true] at f
    rw [List.any_cons,List.any_cons,pH r f.1,kM t f.2]
theorem iX {A:Around}{s:Shared}{x:V}{v:Value} (rx : RelV x v) (fx : flatV x = true) : ∀ {xs : List V}{us : List Value},Vals xs us → xs.all flatV = true → ∀ u ∈ us,SeqAt.EqAt A s u v (eqU x u)
  | _,_,.nil,_ => fun u hu => by cases hu
  | y :: xs,u :: us,.cons r t,f => fun u' hu => by
    rw [List.all_cons,Bool.and_eq_true] at f
    rcases List.mem_cons.mp hu with rfl | hu
    · rw [pH r f.1]; exact tw r rx f.1 fx
    · exact iX rx fx t f.2 u' hu
noncomputable def inV (x:V) (xs : List V) : Bool := xs.any fun y => eqV y x
noncomputable def rIn (K:PySem.W.Frag) (neg : Bool) : R2 := fun x y H Q => ∃ p xs,y = .ref p ∧ (SqL K H p xs ∨ SqT K H p xs) ∧ flatV x = true ∧ xs.all flatV = true ∧ Q (.bl (if neg then !inV x xs else inV x xs)) H
theorem op_in_seq : OpR X (compareOp .In) (rIn X.K false) :=by
  intro pins s σ H x y v u Q I rx ry h
  obtain ⟨p,xs,rfl,hq,fx,fs,q⟩ := h
  cases ry
  rcases hq with hq | hq
  · obtain ⟨its,r,pl,hz⟩ := I.list hq
    refine SeqAt.in_listAt (eqU x) pl.isList (fun w hw => iX rx fx r fs w (by simpa using hw)) ⟨.bl _,H,I,rfl,?_⟩
    rw [show its.toArray.any (eqU x) = its.any (eqU x) by simp,kM r fs]
    exact q
  · obtain ⟨its,r,pl,hz⟩ := I.tuple hq
    refine SeqAt.in_tupleAt (eqU x) pl (fun w hw => iX rx fx r fs w (by simpa using hw)) ⟨.bl _,H,I,rfl,?_⟩
    rw [show its.toArray.any (eqU x) = its.any (eqU x) by simp,kM r fs]
    exact q
theorem kG : CallR X (.builtin "len") (fun xs H Q => ∃ p ys,xs = [.ref p] ∧ (SqL X.K H p ys ∨ SqT X.K H p ys) ∧ Q (.int ys.length) H) :=by
  intro pins s σ H xs us Q I r h
  obtain ⟨p,ys,rfl,hq,q⟩ := h
  obtain ⟨u,rfl,rx⟩ := vals1 r
  cases rx
  have hn := gQ
  rcases hq with hq | hq
  · obtain ⟨its,r',pl,hz⟩ := I.list hq
    have hlen := r'.length
    exact Calls.call_len_list pl.isList (by simp only [List.size_toArray] <;> omega) ⟨.int ys.length,H,I.tok _,⟨s.toks + 1,by rw [List.size_toArray,hlen]⟩,q⟩
  · obtain ⟨its,r',pl,hz⟩ := I.tuple hq
    have hlen := r'.length
    exact len_tuple pl (by simp only [List.size_toArray] <;> omega) ⟨.int ys.length,H,I.tok _,⟨s.toks + 1,by rw [List.size_toArray,hlen]⟩,q⟩
theorem call_len_str : CallR X (.builtin "len") (fun xs H Q => ∃ z,xs = [.str z] ∧ z.length ≤ sizeLine ∧ Q (.int z.length) H) :=by
  intro pins s σ H xs us Q I r h
  obtain ⟨z,rfl,hz,q⟩ := h
  obtain ⟨u,rfl,t,rfl⟩ := vals1 r
  have hn := gQ
  exact len_str (by omega) ⟨.int z.length,H,I.tok _,⟨_,rfl⟩,q⟩
theorem CallR.or {f:Value}{r r' : List V → Hp → VK → Prop} (h:CallR X f r) (h' : CallR X f r') : CallR X f (fun xs H Q => r xs H Q ∨ r' xs H Q) :=by
  intro pins s σ H xs us Q I rs q
  rcases q with q | q
  · exact h pins s σ H xs us Q I rs q
  · exact h' pins s σ H xs us Q I rs q
theorem kF : CallR X (.type "list") (fun xs H Q => ∃ p ys,xs = [.ref p] ∧ (SqL X.K H p ys ∨ SqT X.K H p ys) ∧ ∀ l,H l = none → Q (.ref l) (upd H l (.lst ys))) :=by
  intro pins s σ H xs us Q I r h
  obtain ⟨p,ys,rfl,hq,q⟩ := h
  obtain ⟨u,rfl,rx⟩ := vals1 r
  cases rx
  have fin : ∀ (its : List Value),Vals ys its → ys.length ≤ sizeLine → ∀ (h' : Heap) (c' : Nat),(∀ b o',s.heap.get? b = some o' → h'.get? b = some o') →
      h'.get? s.heap.objs.size = some { cls := .type "list",dict := none,data := .seq its.toArray c',slots := #[] } → EP X pins σ Q (.ref s.heap.objs.size) { s with heap := h' } := fun its r' hz h' c' kp e =>
    ⟨.ref s.heap.objs.size,_,I.laid (t' := s.toks) kp (Nat.le_refl _) (show ObjOk X.prog X.w _ h' _ (.lst ys) from ⟨hz,its,c',r',e⟩),rfl,q _ (I.hok.fresh (Nat.le_refl _))⟩
  rcases hq with hq | hq
  · obtain ⟨its,r',pl,hz⟩ := I.list hq
    have hlen := r'.length
    obtain ⟨o,ho,hc,n,hd⟩ := pl.isList
    exact call_list_seq p (.inl rfl) ho hc hd (fun h' c' kp e => fin its r' hz h' c' kp e) (by simp only [List.size_toArray] <;> omega)
  · obtain ⟨its,r',pl,hz⟩ := I.tuple hq
    have hlen := r'.length
    obtain ⟨o,ho,hc,n,hd⟩ := pl
    exact call_list_seq p (.inr rfl) ho hc hd (fun h' c' kp e => fin its r' hz h' c' kp e) (by simp only [List.size_toArray] <;> omega)
theorem jv : CallR X (.type "tuple") (fun xs H Q => ∃ p ys,xs = [.ref p] ∧ ((SqL X.K H p ys ∧ ∀ l,H l = none → Q (.ref l) (upd H l (.tup ys))) ∨ (SqT X.K H p ys ∧ Q (.ref p) H))) :=by
  intro pins s σ H xs us Q I r h
  obtain ⟨p,ys,rfl,h⟩ := h
  obtain ⟨u,rfl,rx⟩ := vals1 r
  cases rx
  rcases h with ⟨hq,q⟩ | ⟨hq,q⟩
  · obtain ⟨its,r',pl,hz⟩ := I.list hq
    have hlen := r'.length
    refine call_tuple_list pl.isList (fun h' kp => ?_) (by simp only [List.size_toArray] <;> omega)
    have I1 : Inv X pins σ H { s with heap := h' } := I.kept (t' := s.toks) kp
    have I2 : Inv X pins σ (upd H h'.objs.size (.tup ys)) { s with heap := h'.push { cls := .type "tuple",data := .seq its.toArray } } :=
      I1.laid (t' := s.toks) (fun b o e => Heap.get?_push_of_some _ e) (Nat.le_refl _) (show ObjOk X.prog X.w _ _ _ (.tup ys) from ⟨hz,its,r',IsTupD.new _ _⟩)
    exact ⟨.ref h'.objs.size,_,I2,rfl,q _ (I1.hok.fresh (Nat.le_refl _))⟩
  · obtain ⟨its,r',pl,hz⟩ := I.tuple hq
    exact call_tuple_same pl ⟨.ref p,H,I,rfl,q⟩
noncomputable def tyV (K:PySem.W.Frag) (T:String) (x:V) (H:Hp) : Prop := match x with
  | .str _ => T = "str"
  | .int _ => T = "int"
  | .ref p => (T = "list" ∧ ∃ xs,SqL K H p xs) ∨ (T = "tuple" ∧ ∃ o,K.lookup p = some o ∧ o.cls = .type "tuple" ∧ o.dict = none) ∨
      (T = "dict" ∧ ((∃ kvs,H p = some (.dK kvs)) ∨ ∃ kvs,H p = some (.dT kvs))) ∨ (T = "set" ∧ ∃ S n,H p = some (.set S n))
  | _ => False
theorem rE {pins : List (Addr × Obj)}{σ : St}{H:Hp}{s:Shared}{T:String}{x:V}{v:Value} (I:Inv X pins σ H s) (r:RelV x v) (ty : tyV X.K T x H) :
    s.TypeIs v T ∧ ∀ a,v = .ref a → ∃ ob,s.heap.get? a = some ob ∧ ob.dict = none :=by
  cases x with
  | str z =>
    obtain ⟨t,rfl⟩ := r
    cases (show T = "str" from ty)
    exact ⟨typeIs_str s z t,fun _ e => nomatch e⟩
  | int i =>
    obtain ⟨t,rfl⟩ := r
    cases (show T = "int" from ty)
    exact ⟨typeIs_int s i t,fun _ e => nomatch e⟩
  | ref p =>
    cases r
    rcases ty with ⟨rfl,xs,hq⟩ | ⟨rfl,o,hk,hc,hd⟩ | ⟨rfl,hk⟩ | ⟨rfl,S,n,hk⟩
    · obtain ⟨its,_,pl,_⟩ := I.list hq
      refine ⟨pl.isList.typeIs,fun a e => ?_⟩
      cases e
      obtain ⟨o,n,e,c,hd,_⟩ := pl
      exact ⟨o,e,hd⟩
    · refine ⟨⟨o,I.kIn p o hk,hc⟩,fun a e => ?_⟩
      cases e
      exact ⟨o,I.kIn _ o hk,hd⟩
    · have z : ∃ o,s.heap.get? p = some o ∧ o.ExactDict :=by
        rcases hk with ⟨kvs,hk⟩ | ⟨kvs,hk⟩
        · obtain ⟨_,_,_,_,o,_,_,e,ex,_⟩ := I.hok p _ hk
          exact ⟨o,e,ex⟩
        · obtain ⟨_,_,_,_,o,_,_,e,ex,_⟩ := I.hok p _ hk
          exact ⟨o,e,ex⟩
      obtain ⟨o,e,ex⟩ := z
      refine ⟨⟨o,e,ex.1⟩,fun a e2 => ?_⟩
      cases e2
      exact ⟨o,e,ex.2.1⟩
    · obtain ⟨o,_,_,_,e,ex,_⟩ := I.hok p _ hk
      refine ⟨⟨o,e,ex.1⟩,fun a e2 => ?_⟩
      cases e2
      exact ⟨o,e,ex.2.1⟩
  | _ => exact False.elim ty
noncomputable def tBM (K:PySem.W.Frag) (T:String) (r:V → List V → Hp → VK → Prop) (to : TE) (t:TA) : TE := fun σ H Q => to σ H fun x H1 => tyV K T x H1 ∧ t σ H1 fun xs H2 => r x xs H2 Q
variable {o e : Expr}{es : List Expr}{to : TE}{t:TA}{name : Str}{apos cpos : Pos}{T id : String}{r:V → List V → Hp → VK → Prop}
theorem mR (pa : PlainAttrs T) (slot : Slot T name id) (hty : typeOf (.builtin id) = pure (.type "method_descriptor")) (hm : MtR X id r) (ho : PE X o to) (ha : PA X (e :: es) t)
    (hbase : attributeBase o name X.env (eval o X.env) = eval o X.env :=by rfl)
    (hfew : ((backTo cpos (starEach (e :: es) X.env)).all (fun x => !x.1) && (backToKw cpos (keywordEach [] X.env)).all (fun x => x.1.isSome)
      && decide ((e :: es).length + ([] : List Keyword).length + (if ([] : List Keyword).isEmpty then 0 else 1) < 30)) = true :=by rfl)
    (hline : (apos.endLine == cpos.line) = true :=by rfl) (hs : starEach (e :: es) X.env = (false,eval e X.env) :: starEach es X.env :=by rfl) (hplain : (backTo cpos (starEach es X.env)).any (·.1) = false :=by rfl) :
    PE X (.Call (.Attribute o name apos) (e :: es) [] cpos) (tBM X.K T r to t) :=by
  intro pins s σ H Q I h
  refine wpAny_Call_method_late hbase hfew hline rfl (thn (ho pins s σ H _ I h) fun v s1 ⟨x,H1,I1,r1,ty,q1⟩ => ?_)
  obtain ⟨h1,h2⟩ := rE I1 r1 ty
  refine ⟨T,id,pa,slot,hty,h1,h2,?_⟩
  have hA := ha cpos pins s1 σ H1 _ I1 q1
  rw [hs] at hA ⊢
  refine Calls.callWith_builtin (by show (false || (backTo cpos (starEach es X.env)).any (·.1)) = false; rw [hplain] <;> rfl) (Calls.evalArgs_plain ?_)
  exact thn hA fun us s2 ⟨vs,H2,I2,r2,q2⟩ => hm pins s2 σ H2 x vs v us Q I2 r1 r2 q2
end
end L2
namespace L2
open PySem PySem.Spec PyProof.Rows
noncomputable def MtM (X:Cx) (id : String) (r:V → List V → Hp → VK → Prop) : Prop :=
  ∀ (pins : List (Addr × Obj)) (s:Shared) (σ : St) (H:Hp) (x:V) (xs : List V) (v:Value) (us : List Value) (Q:VK),Inv X pins σ H s → RelV x v → Vals xs us → r x xs H Q →
    wpAny (model X.prog X.w) X.A (call (.builtin id) (v :: us)) (EP X pins σ Q) X.xe s
theorem Vals.one : ∀ {x:V}{us : List Value},Vals [x] us → ∃ u,us = [u] ∧ RelV x u
  | _,_,.cons r .nil => ⟨_,rfl,r⟩
theorem Vals.two : ∀ {x y : V}{us : List Value},Vals [x,y] us → ∃ u v,us = [u,v] ∧ RelV x u ∧ RelV y v
  | _,_,_,.cons r (.cons q .nil) => ⟨_,_,rfl,r,q⟩
theorem Vals.eraseIdx : ∀ {xs : List V}{us : List Value} (i:Nat),Vals xs us → Vals (xs.eraseIdx i) (us.eraseIdx i)
  | _,_,_,.nil => .nil
  | _,_,0,.cons _ t => t
  | _,_,i + 1,.cons r t => .cons r (Vals.eraseIdx i t)
theorem Vals.rep {xs : List V}{us : List Value} (h:Vals xs us) : ∀ k : Nat,Vals (List.replicate k xs).flatten (List.replicate k us).flatten
  | 0 => .nil
  | k + 1 => by
    rw [List.replicate_succ,List.replicate_succ,List.flatten_cons,List.flatten_cons]
    exact Vals.append h (Vals.rep h k)
theorem jL {α : Type} : ∀ (l:List α) (i:Nat),(l.eraseIdx i).length ≤ l.length
  | [],_ => Nat.le_refl _
  | _ :: _,0 => Nat.le_succ _
  | _ :: r,i + 1 => Nat.succ_le_succ (jL r i)
theorem jP (its : List Value) : ∀ (k:Nat) (acc : List Value),
    List.foldl (fun x1 x2 => x1 ++ x2) acc.toArray (List.replicate k its.toArray) = (acc ++ (List.replicate k its).flatten).toArray
  | 0,acc => by simp
  | k + 1,acc => by
    have e : acc.toArray ++ its.toArray = (acc ++ its).toArray :=by simp
    have e2 : (acc ++ its) ++ (List.replicate k its).flatten = acc ++ (List.replicate (k + 1) its).flatten :=by
      rw [List.replicate_succ,List.flatten_cons,List.append_assoc]
    rw [← e2,← jP its k (acc ++ its),← e,List.replicate_succ,List.foldl_cons]
section
variable {X:Cx}{pins : List (Addr × Obj)}{σ : St}{H:Hp}{s:Shared}{l b : Addr}{xs ys zs : List V}
theorem Inv.lset {its its' : List Value}{n:Nat}{f:Array Value → Array Value}{t' : Nat} (I:Inv X pins σ H s) (hH : H l = some (.lst xs))
    (e:s.heap.get? l = some { cls := .type "list",data := .seq its.toArray n }) (hf : f its.toArray = its'.toArray) (hv : Vals ys its') (hz : ys.length ≤ sizeLine) :
    Inv X pins σ (upd H l (.lst ys)) { s with heap := s.heap.update l (Obj.mapSeq f),toks := t' } :=by
  have q := PySem.IsL.update e f
  rw [hf] at q
  refine I.write (x := l) (e := l) (by rw [hH]; exact trivial) (.inl rfl) (fun b' u hb hu => (Heap.get?_update_other s.heap (Obj.mapSeq f) (Ne.symm hb)).trans hu) ⟨_,q⟩ ?_
  exact ⟨hz,its',_,hv,q⟩
theorem Inv.lnew {its : List Value}{t' : Nat} (I:Inv X pins σ H s) (hv : Vals ys its) (hz : ys.length ≤ sizeLine) :
    Inv X pins σ (upd H s.heap.objs.size (.lst ys)) { s with heap := s.heap.push { cls := .type "list",data := .seq its.toArray },toks := t' } :=
  I.laid (fun _ _ q => Heap.get?_push_of_some _ q) (Nat.le_refl _) ⟨hz,its,0,hv,Heap.get?_push_size _ rfl⟩
theorem Inv.fresh (I:Inv X pins σ H s) : H s.heap.objs.size = none := I.hok.fresh (Nat.le_refl _)
theorem Inv.lstM (I:Inv X pins σ H s) (hH : H l = some (.lst xs)) : xs.length ≤ sizeLine ∧ ∃ (its : List Value) (n:Nat),Vals xs its ∧ xs.length = its.length ∧ s.heap.get? l = some { cls := .type "list",data := .seq its.toArray n } :=by
  obtain ⟨z,its,n,r,e⟩ := I.hok l _ hH
  exact ⟨z,its,n,r,r.length,e⟩
theorem lx {n:Nat} (h:n ≤ sizeLine) : Builtin.List.listTooLong n = false :=by
  unfold Builtin.List.listTooLong
  exact decide_eq_false (by omega)
end
section
variable {X:Cx}
noncomputable def qc : V → List V → Hp → VK → Prop := fun x vs H Q => ∃ l xs y,x = .ref l ∧ vs = [y] ∧ H l = some (.lst xs) ∧ xs.length < sizeLine ∧ Q .non (upd H l (.lst (xs ++ [y])))
theorem nQ : MtM X "list.append" qc :=by
  intro pins s σ H x vs v us Q I rx rv h
  obtain ⟨l,xs,y,rfl,rfl,hH,hz,q⟩ := h
  cases rx
  obtain ⟨u,rfl,ru⟩ := rv.one
  obtain ⟨z,its,n,r,hl,e⟩ := I.lstM hH
  refine call_meets F.slot_list_append ⟨_,e,rfl⟩ F.entry_list_append (F.args_list_append_2 _ _) (PySem.list_append l its.toArray n u (by rw [List.size_toArray]; omega)) ⟨e,?_⟩
  refine ⟨.non,_,I.lset (its' := its ++ [u]) hH e (by simp) (r.append (.cons ru .nil)) ?_,rfl,q⟩
  rw [List.length_append,List.length_singleton]
  omega
noncomputable def qb : V → List V → Hp → VK → Prop := fun x vs H Q => ∃ l b xs zs,x = .ref l ∧ vs = [.ref b] ∧ H l = some (.lst xs) ∧ H b = some (.lst zs) ∧ xs.length + zs.length ≤ sizeLine ∧ Q .non (upd H l (.lst (xs ++ zs)))
theorem tX : MtM X "list.extend" qb :=by
  intro pins s σ H x vs v us Q I rx rv h
  obtain ⟨l,b,xs,zs,rfl,rfl,hH,hB,hz,q⟩ := h
  cases rx
  obtain ⟨u,rfl,ru⟩ := rv.one
  cases ru
  obtain ⟨z,its,n,r,hl,e⟩ := I.lstM hH
  obtain ⟨z2,its2,n2,r2,hl2,e2⟩ := I.lstM hB
  have hsz : its.toArray.size + its2.toArray.size ≤ sizeLine :=by rw [List.size_toArray,List.size_toArray]; omega
  have hlong : ¬ (!its.toArray.isEmpty && Builtin.List.listTooLong (its.toArray.size + its2.toArray.size)) = true :=by
    rw [lx hsz,Bool.and_false]
    exact Bool.false_ne_true
  refine call_meets F.slot_list_extend ⟨_,e,rfl⟩ F.entry_list_extend (F.args_list_extend_2 _ _)
    (AutoSeq1.list_extend_list_list_0 l its.toArray n b its2.toArray n2 hlong (by rw [List.size_toArray]; omega) (by omega)) ⟨e,e2,?_⟩
  refine ⟨.non,_,I.lset (its' := its ++ its2) hH e (by simp) (r.append r2) ?_,rfl,q⟩
  rw [List.length_append]
  omega
noncomputable def rS : V → List V → Hp → VK → Prop := fun x vs H Q => ∃ l xs i k y,x = .ref l ∧ vs = [.int i] ∧ H l = some (.lst xs) ∧ -(2 ^ 63) ≤ i ∧ i < 2 ^ 63 ∧ seqIndex? i xs.length = some k ∧ xs[k]? = some y ∧ Q y (upd H l (.lst (xs.eraseIdx k)))
theorem oY : MtM X "list.pop" rS :=by
  intro pins s σ H x vs v us Q I rx rv h
  obtain ⟨l,xs,i,k,y,rfl,rfl,hH,h1,h2,hk,hy,q⟩ := h
  cases rx
  obtain ⟨u,rfl,ru⟩ := rv.one
  obtain ⟨t,rfl⟩ := ru
  obtain ⟨z,its,n,r,hl,e⟩ := I.lstM hH
  obtain ⟨w,hw,rw'⟩ := r.get hy
  refine call_meets F.slot_list_pop ⟨_,e,rfl⟩ F.entry_list_pop (F.args_list_pop_2 _ _)
    (MeetsSeq.list_pop_at l its.toArray n i t k w (fitsIndex_both h1 h2) (by rw [List.size_toArray,← hl]; exact hk) (by rw [← Array.getElem?_toList]; exact hw) (by rw [List.size_toArray]; omega)) ⟨e,?_⟩
  refine ⟨y,_,I.lset (its' := its.eraseIdx k) hH e ?_ (r.eraseIdx k) ?_,rw',q⟩
  · show its.toArray.eraseIdxIfInBounds k = (its.eraseIdx k).toArray
    rw [List.eraseIdxIfInBounds_toArray]
  · have := jL xs k
    omega
noncomputable def rCat : R2 := fun x y H Q => ∃ l b xs zs,x = .ref l ∧ y = .ref b ∧ H l = some (.lst xs) ∧ H b = some (.lst zs) ∧ xs.length + zs.length ≤ sizeLine ∧ ∀ p,H p = none → Q (.ref p) (upd H p (.lst (xs ++ zs)))
theorem oT : OpR X (binaryOp .Add) rCat :=by
  intro pins s σ H x y v u Q I rx ry h
  obtain ⟨l,b,xs,zs,rfl,rfl,hH,hB,hz,q⟩ := h
  cases rx
  cases ry
  obtain ⟨z,its,n,r,hl,e⟩ := I.lstM hH
  obtain ⟨z2,its2,n2,r2,hl2,e2⟩ := I.lstM hB
  refine PySem.P.add_list e e2 ?_ (by rw [List.size_toArray,List.size_toArray]; omega)
  have ea : its.toArray ++ its2.toArray = (its ++ its2).toArray :=by simp
  rw [ea]
  exact ⟨.ref _,_,I.lnew (t' := s.toks) (r.append r2) (by rw [List.length_append]; omega),rfl,q _ I.fresh⟩
noncomputable def rRep : R2 := fun x y H Q => ∃ l k xs,x = .ref l ∧ y = .int k ∧ H l = some (.lst xs) ∧ -(2 ^ 63) ≤ k ∧ k < 2 ^ 63 ∧ xs.length * k.toNat ≤ sizeLine ∧
  ∀ p,H p = none → Q (.ref p) (upd H p (.lst (List.replicate k.toNat xs).flatten))
theorem qK {α : Type} (xs : List α) (k:Nat) : (List.replicate k xs).flatten.length = k * xs.length :=by
  induction k with
  | zero => simp
  | succ k ih => rw [List.replicate_succ,List.flatten_cons,List.length_append,ih,Nat.succ_mul,Nat.add_comm]
theorem sA : OpR X (binaryOp .Mult) rRep :=by
  intro pins s σ H x y v u Q I rx ry h
  obtain ⟨l,k,xs,rfl,rfl,hH,h1,h2,hz,q⟩ := h
  cases rx
  obtain ⟨t,rfl⟩ := ry
  obtain ⟨z,its,n,r,hl,e⟩ := I.lstM hH
  have hlen : its.toArray.size * k.toNat ≤ sizeLine :=by rw [List.size_toArray,← hl]; exact hz
  have hcap : ¬ its.toArray.size * k.toNat > (2 ^ 63 - 1) / 8 :=by
    have : (sizeLine : Nat) ≤ (2 ^ 63 - 1) / 8 :=by decide
    omega
  have hfit : ¬ (!Builtin.List.listFitsIndex k) = true :=by
    rw [fitsIndex_both h1 h2]
    exact Bool.false_ne_true
  have hlong : ¬ Builtin.List.listTooLong (its.toArray.size * k.toNat) = true :=by
    rw [lx hlen]
    exact Bool.false_ne_true
  have hnew : List.foldl (fun x1 x2 => x1 ++ x2) #[] (List.replicate (if its.toArray.isEmpty = true then 0 else k.toNat) its.toArray) = (List.replicate k.toNat its).flatten.toArray :=by
    have f0 : ∀ m : Nat,List.foldl (fun x1 x2 => x1 ++ x2) #[] (List.replicate m its.toArray) = (List.replicate m its).flatten.toArray := fun m => by
      have := jP its m []
      rw [List.nil_append] at this
      exact this
    rw [f0]
    cases its with
    | nil => simp
    | cons a r' => rw [if_neg (by simp)]
  refine wpAny_binaryOp_repeat_ref (T := "list") (U := "int") (by decide) ⟨_,e,rfl⟩ (fun s' => typeIs_int s' k t) noFill_list_mul F.fills_int_mul F.slot_int_rmul repeat_list F.slot_int_index.lookup
    (call_meets F.slot_int_rmul (typeIs_int s k t) F.entry_int_rmul (F.args_int_rmul_2 _ _) (int___rmul___int_list k t l its.toArray n)
      ⟨e,rfl,⟨_,e,rfl⟩,call_meets F.slot_list_mul ⟨_,e,rfl⟩ F.entry_list_mul (F.args_list_mul_2 _ _) (AutoListH.list___mul___list_int_3 l its.toArray n k t hfit hcap hlong) ⟨e,?_⟩⟩)
  rw [hnew]
  exact ⟨.ref _,_,I.lnew (t' := s.toks) (r.rep k.toNat) (by rw [qK,Nat.mul_comm]; exact hz),rfl,q _ I.fresh⟩
end
section
variable {prog : Program}{w:World}{A:Around}{E:Value → Shared → Prop}{s:Shared}
end
section
variable {X:Cx}
end
end L2
namespace L2
open PySem PySem.Spec PyProof.Rows
section
variable {κ : Type} [DecidableEq κ]
noncomputable def valV (kvs : List (κ × V)) (k:κ) : Option V := (kvs.find? fun kv => decide (kv.1 = k)).map (·.2)
noncomputable def putK (kvs : List (κ × V)) (k:κ) (v:V) : List (κ × V) :=
  if (kvs.any fun kv => decide (kv.1 = k)) = true then kvs.map (fun kv => if kv.1 = k then (kv.1,v) else kv) else kvs ++ [(k,v)]
theorem im {p:κ × V}{r:List (κ × V)}{k:κ} (e:p.1 = k) : valV (p :: r) k = some p.2 :=by simp [valV,List.find?_cons,e]
theorem io {p:κ × V}{r:List (κ × V)}{k:κ} (e:¬ p.1 = k) : valV (p :: r) k = valV r k :=by simp [valV,List.find?_cons,e]
theorem kO (k:κ) : ∀ kvs : List (κ × V),(kvs.any fun kv => decide (kv.1 = k)) = (valV kvs k).isSome
  | [] => rfl
  | p :: r => by
    rw [List.any_cons]
    by_cases e : p.1 = k
    · simp only [im e,decide_eq_true e,Bool.true_or,Option.isSome_some]
    · rw [io e,decide_eq_false e,Bool.false_or]; exact kO k r
theorem fH (kvs : List (κ × V)) (k:κ) (v:V) : (putK kvs k v).length ≤ kvs.length + 1 :=by
  unfold putK
  split
  · rw [List.length_map]; omega
  · rw [List.length_append,List.length_cons,List.length_nil]; omega
theorem RelO.isSome_eq {o:Option V}{u:Option Value} (r:RelO o u) : o.isSome = u.isSome :=by
  cases o with
  | none => cases u with
    | none => rfl
    | some _ => exact (show False from r).elim
  | some _ => cases u with
    | none => exact (show False from r).elim
    | some _ => rfl
theorem KV.val {kvs : List (κ × V)}{vs : List (κ × Value)} (r:KV kvs vs) (k:κ) : RelO (valV kvs k) (valueAt vs k) :=by
  unfold KV at r
  induction r with
  | nil => exact True.intro
  | @cons p q ps qs h t ih =>
    obtain ⟨h1,h2⟩ := h
    by_cases e : p.1 = k
    · have e' : q.1 = k := h1.symm.trans e
      have b : valueAt (q :: qs) k = some q.2 :=by simp [valueAt,List.find?_cons,e']
      rw [im e,b]; exact h2
    · have e' : ¬ q.1 = k := fun z => e (h1.trans z)
      have b : valueAt (q :: qs) k = valueAt qs k :=by simp [valueAt,List.find?_cons,e']
      rw [io e,b]; exact ih
theorem KV.any {kvs : List (κ × V)}{vs : List (κ × Value)} (r:KV kvs vs) (k:κ) : (kvs.any fun kv => decide (kv.1 = k)) = vs.any fun kv => decide (kv.1 = k) :=by
  unfold KV at r
  induction r with
  | nil => rfl
  | cons h t ih => rw [List.any_cons,List.any_cons,ih,h.1]
theorem KV.repl {kvs : List (κ × V)}{vs : List (κ × Value)} (r:KV kvs vs) (k:κ) {y:V}{u:Value} (ry : RelV y u) :
    KV (kvs.map fun kv => if kv.1 = k then (kv.1,y) else kv) (vs.map fun kv => if kv.1 = k then (kv.1,u) else kv) :=by
  unfold KV at r ⊢
  induction r with
  | nil => exact .nil
  | @cons p q ps qs h t ih =>
    rw [List.map_cons,List.map_cons]
    refine .cons ?_ ih
    obtain ⟨h1,h2⟩ := h
    by_cases e : p.1 = k
    · rw [if_pos e,if_pos (h1.symm.trans e)]; exact ⟨h1,ry⟩
    · rw [if_neg e,if_neg (fun z => e (h1.trans z))]; exact ⟨h1,h2⟩
theorem KV.put {kvs : List (κ × V)}{vs : List (κ × Value)} (r:KV kvs vs) (k:κ) {y:V}{u:Value} (ry : RelV y u) : KV (putK kvs k y) (stored vs k u) :=by
  unfold putK stored
  rw [r.any k]
  by_cases e : (vs.any fun kv => decide (kv.1 = k)) = true
  · rw [if_pos e,if_pos e]; exact r.repl k ry
  · rw [if_neg e,if_neg e]; exact Paired.snoc r ⟨rfl,ry⟩
theorem KV.length {kvs : List (κ × V)}{vs : List (κ × Value)} (r:KV kvs vs) : kvs.length = vs.length := Paired.length r
end
theorem lL {P:Program}{w:World}{k:Key}{u:Value} (r:RelV (kV k) u) : (cj P w).is k u = true :=by
  cases k with
  | inl i => obtain ⟨t,e⟩ := (show ∃ t,u = Value.int i t from r); subst e; exact lB P w i t
  | inr x => obtain ⟨t,e⟩ := (show ∃ t,u = Value.str x t from r); subst e; exact lA P w x t
theorem jN {P:Program}{w:World} : ∀ {ks : List Key}{us : List Value},Vals (ks.map kV) us → ItemsAre (cj P w) ks us
  | [],_,r => by rw [List.map_nil] at r; cases r; exact .nil
  | k :: ks,_,r => by
    rw [List.map_cons] at r
    cases r with
    | cons h t => exact .cons (lL h) (jN t)
noncomputable abbrev KT (H:Hp) : List (List Key × V) → List (List Key × Addr × Value) → Prop := Paired fun p q => p.1 = q.1 ∧ H q.2.1 = some (.tup (p.1.map kV)) ∧ RelV p.2 q.2.2
theorem KT.val {H:Hp}{kvs : List (List Key × V)}{xs : List (List Key × Addr × Value)} (r:KT H kvs xs) (k:List Key) : RelO (valV kvs k) ((atKey xs k).map (·.2)) :=by
  induction r with
  | nil => exact True.intro
  | @cons p q ps qs h t ih =>
    obtain ⟨h1,_,h2⟩ := h
    by_cases e : p.1 = k
    · have e' : q.1 = k := h1.symm.trans e
      have b : atKey (q :: qs) k = some q.2 :=by simp [atKey,List.find?_cons,e']
      rw [im e,b]; exact h2
    · have e' : ¬ q.1 = k := fun z => e (h1.trans z)
      have b : atKey (q :: qs) k = atKey qs k :=by simp [atKey,List.find?_cons,e']
      rw [io e,b]; exact ih
theorem KT.repl {H:Hp}{kvs : List (List Key × V)}{xs : List (List Key × Addr × Value)} (r:KT H kvs xs) (k:List Key) {y:V}{u:Value} (ry : RelV y u) :
    KT H (kvs.map fun kv => if kv.1 = k then (kv.1,y) else kv) (xs.map (putAt k u)) :=by
  induction r with
  | nil => exact .nil
  | @cons p q ps qs h t ih =>
    rw [List.map_cons,List.map_cons]
    refine .cons ?_ ih
    obtain ⟨h1,h2,h3⟩ := h
    unfold putAt
    by_cases e : p.1 = k
    · rw [if_pos e,if_pos (h1.symm.trans e)]; exact ⟨h1,h2,ry⟩
    · rw [if_neg e,if_neg (fun z => e (h1.trans z))]; exact ⟨h1,h2,h3⟩
theorem KT.put {H:Hp}{kvs : List (List Key × V)}{xs : List (List Key × Addr × Value)} (r:KT H kvs xs) (k:List Key) {b:Addr}{y:V}{u:Value} (hb : H b = some (.tup (k.map kV))) (ry : RelV y u) :
    KT H (putK kvs k y) (storedH xs k b u) :=by
  have e : (kvs.any fun kv => decide (kv.1 = k)) = (atKey xs k).isSome :=by
    rw [kO,(r.val k).isSome_eq,Option.isSome_map]
  unfold putK storedH
  rw [e]
  by_cases q : (atKey xs k).isSome = true
  · rw [if_pos q,if_pos q]; exact r.repl k ry
  · rw [if_neg q,if_neg q]; exact Paired.snoc r ⟨rfl,hb,ry⟩
theorem KT.keeps {H H' : Hp}{kvs : List (List Key × V)}{xs : List (List Key × Addr × Value)} (r:KT H kvs xs) (ht : ∀ b ys,H b = some (.tup ys) → H' b = some (.tup ys)) : KT H' kvs xs :=
  Paired.mapP r fun _ _ z => ⟨z.1,ht _ _ z.2.1,z.2.2⟩
section
variable {P:Program}{w:World}{H:Hp}{h:Heap}{a:Addr}
theorem rh {u:HO} (ok : HOk P w H h) (e:Rd H a u) : ObjOk P w H h a u := e.ok ok
theorem nc {kvs : List (Key × V)} (ok : HOk P w H h) (e:Rd H a (.dK kvs)) : kvs.length ≤ sizeLine ∧ (a == sysModules) = false ∧ ∃ vs,KV kvs vs ∧ h.DictOf (cj P w) a vs :=
  show ObjOk P w H h a (.dK kvs) from rh ok e
theorem uz {kvs : List (Key × V)} (ok : HOk P w H h) (e:H a = some (.dK kvs)) : kvs.length ≤ sizeLine ∧ (a == sysModules) = false ∧ ∃ vs,KV kvs vs ∧ h.DictOf (cj P w) a vs := nc ok (.inl e)
theorem kr {ks : List Key} (ok : HOk P w H h) (e:H a = some (.tup (ks.map kV))) : (tupleKind (cj P w)).is h ks a :=by
  obtain ⟨_,its,r,⟨o,h1,h2,n,h3⟩,_⟩ := (show ObjOk P w H h a (.tup (ks.map kV)) from ok a _ e)
  exact ⟨o,its.toArray,n,h1,h2,h3,by simpa using jN r⟩
theorem m6 {kvs : List (List Key × V)} (ok : HOk P w H h) (e:Rd H a (.dT kvs)) : kvs.length ≤ sizeLine ∧ (a == sysModules) = false ∧
    ∃ xs,KT H kvs xs ∧ h.DictOfH (tupleKind (cj P w)) a xs :=by
  obtain ⟨z,y,xs,r,o,es,ep,h1,h2,h3,h4,h5⟩ := (show ObjOk P w H h a (.dT kvs) from rh ok e)
  refine ⟨z,y,xs,r,o,es,ep,h1,h2,h3,h4,fun x hx => ?_,h5⟩
  have all : ∀ {l:List (List Key × V)}{m:List (List Key × Addr × Value)},KT H l m → ∀ x ∈ m,(tupleKind (cj P w)).is h x.1 x.2.1 :=by
    intro l m q
    induction q with
    | nil => intro x hx; exact nomatch hx
    | @cons p q ps qs hq t ih =>
      intro x hx
      rcases List.mem_cons.mp hx with e | hx
      · subst e
        exact kr ok (by rw [← hq.1]; exact hq.2.1)
      · exact ih x hx
  exact all r x hx
theorem ux {kvs : List (List Key × V)} (ok : HOk P w H h) (e:H a = some (.dT kvs)) : kvs.length ≤ sizeLine ∧ (a == sysModules) = false ∧
    ∃ xs,KT H kvs xs ∧ h.DictOfH (tupleKind (cj P w)) a xs := m6 ok (.inl e)
end
noncomputable def DGet (H:Hp) (a:Addr) (y:V) (r:Option V) : Prop :=
  (∃ kvs k,Rd H a (.dK kvs) ∧ y = kV k ∧ r = valV kvs k) ∨ ∃ kvs k b,Rd H a (.dT kvs) ∧ y = .ref b ∧ H b = some (.tup (k.map kV)) ∧ r = valV kvs k
noncomputable def DPut (H:Hp) (a:Addr) (y v : V) (H' : Hp) : Prop :=
  (∃ kvs k,H a = some (.dK kvs) ∧ y = kV k ∧ kvs.length < sizeLine ∧ H' = upd H a (.dK (putK kvs k v))) ∨
  ∃ kvs k b,H a = some (.dT kvs) ∧ y = .ref b ∧ H b = some (.tup (k.map kV)) ∧ kvs.length < sizeLine ∧ H' = upd H a (.dT (putK kvs k v))
section
variable {X:Cx}{pins : List (Addr × Obj)}{σ : St}{H:Hp}{s:Shared}{a:Addr}{y v : V}{u r : Value}{o:Option V}{A:Around}{E:Value → Shared → Prop}
theorem Inv.big (I:Inv X pins σ H s) : sysModules < s.heap.objs.size :=by
  have h : mainGlobals < s.heap.objs.size := (I.mod.glob.keeps I.bk).lt
  exact Nat.lt_trans (by decide) h
theorem oh {Q:Value → Shared → Prop} (hu : A.units + 1 < cLine) (I:Inv X pins σ H s) (g:DGet H a y (some v)) (ry : RelV y u) (h:∀ w' s',Inv X pins σ H s' → RelV v w' → Q w' s') :
    wpAny (model X.prog X.w) A (getItem (.ref a) u) Q E s :=by
  rcases g with ⟨kvs,k,e,ey,l⟩ | ⟨kvs,k,b,e,ey,eb,l⟩
  · subst ey
    obtain ⟨z,hd,vs,rel,dd⟩ := nc I.hok e
    obtain ⟨w',hw,rw'⟩ := RelO.some_of (v := v) (o := valueAt vs k) (by rw [l]; exact rel.val k)
    exact wpAny_getItem_of (lL ry) dd.mapOf hw (h w' _ (I.tok _) rw')
  · subst ey
    cases (show u = Value.ref b from ry)
    obtain ⟨z,hd,xs,rel,dd⟩ := m6 I.hok e
    obtain ⟨w',hw,rw'⟩ := RelO.some_of (v := v) (o := (atKey xs k).map (·.2)) (by rw [l]; exact rel.val k)
    obtain ⟨p,hp,hp2⟩ := Option.map_eq_some_iff.mp hw
    refine wpAny_getItem_heap (tupleKind_room_in1 hu) (kr I.hok eb) dd hp ?_
    rw [hp2]
    exact h w' _ (I.tok _) rw'
theorem uZ {Q:Value → Shared → Prop} (hu : A.units + 1 < cLine) (I:Inv X pins σ H s) (g:DGet H a y o) (ry : RelV y u) (h:∀ s',Inv X pins σ H s' → Q (.bool o.isSome) s') :
    wpAny (model X.prog X.w) A (compareOp .In u (.ref a)) Q E s :=by
  rcases g with ⟨kvs,k,e,ey,l⟩ | ⟨kvs,k,b,e,ey,eb,l⟩
  · subst ey
    obtain ⟨z,hd,vs,rel,dd⟩ := nc I.hok e
    refine wpAny_in_of (lL ry) hd dd.mapOf ?_
    rw [← (rel.val k).isSome_eq,← l]
    exact h _ (I.tok _)
  · subst ey
    cases (show u = Value.ref b from ry)
    obtain ⟨z,hd,xs,rel,dd⟩ := m6 I.hok e
    refine wpAny_in_heap (tupleKind_room_in1 hu) (kr I.hok eb) hd dd ?_
    have q := (rel.val k).isSome_eq
    rw [Option.isSome_map] at q
    rw [← q,← l]
    exact h _ (I.tok _)
theorem nj {h' : Heap}{t' : Nat}{ob : HO} (I:Inv X pins σ H s) (mu : Mut (H a)) (hs : Heap.SameBut a s.heap h') (he : ∃ q,h'.get? a = some q) (new : ObjOk X.prog X.w (upd H a ob) h' a ob) :
    Inv X pins σ (upd H a ob) { s with heap := h',toks := t' } :=
  I.write (x := a) (e := a) mu (.inl rfl) (fun b q hb z => (hs.2 b hb).trans z) he new
theorem pK {P:Program}{w:World}{H' : Hp}{h' : Heap}{kvs : List (Key × V)}{vs : List (Key × Value)} (z:kvs.length ≤ sizeLine) (hd : (a == sysModules) = false) (rel : KV kvs vs) (dd : h'.DictOf (cj P w) a vs) :
    ObjOk P w H' h' a (.dK kvs) := ⟨z,hd,vs,rel,dd⟩
theorem og {H' : Hp}{Q:Unit → Shared → Prop} (hu : A.units + 1 < cLine) (I:Inv X pins σ H s) (g:DPut H a y v H') (ry : RelV y u) (rv : RelV v r) (h:∀ s',Inv X pins σ H' s' → Q () s') :
    wpAny (model X.prog X.w) A (setItem (.ref a) u r) Q E s :=by
  rcases g with ⟨kvs,k,e,ey,l,eH⟩ | ⟨kvs,k,b,e,ey,eb,l,eH⟩
  · subst ey eH
    obtain ⟨z,hd,vs,rel,dd⟩ := uz I.hok e
    have hz : vs.length ≤ sizeLine :=by rw [← rel.length]; exact z
    have hl : (putK kvs k v).length ≤ sizeLine :=by have := fH kvs k v; omega
    refine wpAny_setItem_pairs (hsz := hz) (lL ry) dd fun h' dd' hs => h _ ?_
    have he : ∃ q,h'.get? a = some q := let ⟨q,_,_,hq,_⟩ := dd'; ⟨q,hq⟩
    exact nj I (by rw [e]; exact True.intro) hs he (pK hl hd (rel.put k rv) dd')
  · subst ey eH
    cases (show u = Value.ref b from ry)
    obtain ⟨z,hd,xs,rel,dd⟩ := ux I.hok e
    have hz : xs.length ≤ sizeLine :=by rw [← Paired.length rel]; exact z
    have hl : (putK kvs k v).length ≤ sizeLine :=by have := fH kvs k v; omega
    refine wpAny_setItem_heap (hsz := hz) (tupleKind_room_in1 hu) (kr I.hok eb) dd fun h' dd' hs => h _ ?_
    obtain ⟨q,es,ep,hq,h2,h3,h4,_,h5⟩ := dd'
    refine nj I (by rw [e]; exact True.intro) hs ⟨q,hq⟩ ⟨hl,hd,_,(rel.put k eb rv).keeps fun c ys ec => ?_,q,es,ep,hq,h2,h3,h4,h5⟩
    rw [aX (ut ec e (fun z => nomatch z))]
    exact ec
end
section
variable {X:Cx}{pins : List (Addr × Obj)}{σ : St}{H:Hp}{s:Shared}{a:Addr}{kvs : List (Key × V)}{k:Key}{u:Value}{A:Around}{E:Value → Shared → Prop}
end
theorem lN {X:Cx}{pins : List (Addr × Obj)}{σ : St}{H:Hp}{s:Shared}{a:Addr}{y:V}{o:Option V} (I:Inv X pins σ H s) (g:DGet H a y o) : s.TypeIs (.ref a) "dict" := by
  rcases g with ⟨kvs,k,e,_,_⟩ | ⟨kvs,k,b,e,_,_,_⟩
  · obtain ⟨_,_,vs,_,dd⟩ := nc I.hok e
    exact dd.typeIs
  · obtain ⟨_,_,xs,_,dd⟩ := m6 I.hok e
    exact dd.typeIs
section
variable {X:Cx}{o i e value : Expr}{pos pos' tpos : Pos}{td ty tv : TE}
end
theorem pL {P:Program}{w:World}{H:Hp} (h:Heap) (hb : sysModules < h.objs.size) : ObjOk P w H (h.push { cls := .type "dict",data := .dict #[] }) h.objs.size (.dK []) :=
  ⟨Nat.zero_le _,beq_eq_false_iff_ne.mpr (Ne.symm (Nat.ne_of_lt hb)),[],.nil,Heap.DictOf.new h⟩
noncomputable def rO : TE := fun _ H Q => ∀ p,H p = none → Q (.ref p) (upd H p (.dK []))
section
variable {X:Cx}{pos : Pos}
theorem pe_dnewK : PE X (.Dict [] [] pos) rO := fun pins s σ H Q I h =>
  wpAny_Dict_empty ⟨.ref s.heap.objs.size,_,I.laid (a := s.heap.objs.size) (o := .dK []) (t' := s.toks) (fun _ _ q => Heap.get?_push_of_some _ q) (Nat.le_refl _) (pL s.heap I.big),rfl,h _ (I.hok.fresh (Nat.le_refl _))⟩
end
noncomputable def eT (kvs more : List (Key × V)) : List (Key × V) := more.foldl (fun acc kv => putK acc kv.1 kv.2) kvs
section
variable {X:Cx}{pins : List (Addr × Obj)}{σ : St}{H:Hp}{s:Shared}{a:Addr}{y d : V}{u r : Value}{o:Option V}{A:Around}{E:Value → Shared → Prop}
end
section
variable {X:Cx}{o e f : Expr}{apos cpos : Pos}{td ty tx : TE}
end
section
variable {X:Cx}{pins : List (Addr × Obj)}{σ : St}{H:Hp}{s:Shared}{a:Addr}{kvs : List (Key × V)}{A:Around}{E:Value → Shared → Prop}
end
section
variable {X:Cx}{pins : List (Addr × Obj)}{σ : St}{H:Hp}{s:Shared}{a:Addr}{y:V}{u:Value}{A:Around}{E:Value → Shared → Prop}
end
end L2
namespace Att
open PySem PySem.W PySem.Calls PyProof.Rows
theorem hV {P:Params}{h:Heap} : ∀ (ns : List Int) (vs : List Value),WellAll P h vs (ns.map WData.int) → IntsAre vs ns :=by
  intro ns
  induction ns with
  | nil =>
    intro vs w
    rw [List.map_nil] at w
    cases w
    exact .nil
  | cons n ns ih =>
    intro vs w
    rw [List.map_cons] at w
    cases w with
    | cons a b =>
      cases a
      exact .cons _ _ (ih _ b)
theorem nE {l:OpenLaw}{n:Nat} (hn : l.most = some n) {P:Params}{h:Heap}{args : List WData}{vals : List Value}
    (hpre : l.row.toRowW.claim.pre args = true) (hwl : WellAll P h vals args) :
    ∃ a vs ns,vals = [Value.ref a] ∧ args = [WData.list (ns.map WData.int)] ∧ h.get? a = some { cls := .type "list",data := .seq vs.toArray } ∧ IntsAre vs ns ∧ ns.length ≤ n :=by
  have hsh : WShape.hasAll [] args [.list .int] = true := (pre_splitW hpre).1
  have hc : l.pre.holds [] { args := args } = true := (pre_splitW hpre).2
  obtain ⟨d,r,rfl,h1,h2⟩ := hasAllW_cons hsh
  obtain rfl := hasAllW_nil h2
  obtain ⟨xs,rfl,h3⟩ := hasW_list h1
  obtain ⟨ns,rfl⟩ := items_int h3
  have hlen : ns.length ≤ n :=by
    unfold OpenLaw.pre at hc
    have h4 : (WTm.not (.lt (.lit (.int (n:Int))) (.len (.arg 0)))).holds [] { args := [.list (ns.map .int)] } = true :=by
      have h4 := (holds_andW hc).1
      rw [hn] at h4
      exact h4
    have h5 := condW_of h4 (w_not (w_lt w_lit (w_len_list (w_arg rfl))))
    rw [List.length_map] at h5
    refine Nat.le_of_not_lt fun q => ?_
    have q' : (n:Int) < ((ns.length : Nat) : Int) :=by omega
    first
      | (rw [decide_eq_true q'] at h5; exact absurd h5 (by decide))
      | (simp at h5; omega)
  cases hwl with
  | cons w1 w2 =>
    cases w2
    cases w1 with
    | list ho hall => exact ⟨_,_,ns,rfl,rfl,ho,hV ns _ hall,hlen⟩
theorem nH (l:OpenLaw) (args : List WData) : l.row.toRowW.claim.post args (.bool true) args = true :=
  postW_of (r := l.row.toRowW) (X := (true == true))
    (show WShape.has [] (.bool true) .bool = true by first | rfl | decide | simp [WShape.has,WShape.arms,WShape.armsAll])
    (show (WTm.eq .res (.lit (.bool true))).value [] { args := args,res := some (.bool true),after := args } = some (.bool (true == true)) from w_eq_bool (w_res rfl) w_lit) rfl
theorem attach_call {l:OpenLaw}{n:Nat}{q:Program}{loose : List Str}{XP : (Str → Option Value) → Heap → Prop}{YP : World → Heap → Prop}{d:DefRec}
    (hn : l.most = some n) (hdf : d.params.defaults = [])
    (call : ∀ (w:World) (s₀ s₁ : Shared) (mg mb : Str → Option Value) (fa : Addr) (o:Obj) (pm cd doc : Value) (a:Addr) (vs : List Value) (ns : List Int),
      Ground q loose [] XP w s₀ mg mb s₁.heap → YP w s₁.heap →
      s₁.heap.get? fa = some o → o.data = .func (docDef d.name d.params d.body d.scope pm cd doc) → s₁.heap.CodeRec cd d.name → mg d.name = some (.ref fa) →
      s₁.heap.get? a = some { cls := .type "list",data := .seq vs.toArray } → IntsAre vs ns → ns.length ≤ n → s₁.gens = #[] →
      codeAny (model l.prog w) callerA (.call (.ref fa) ⟨[.ref a],[]⟩) (fun r s' => r = .ok (.ret (.bool true)) ∧ OldK s₁.heap s'.heap ∧ s'.os = s₁.os ∧ AllBare s'.gens) s₁) :
    WalkO q loose XP YP l.row.toRowW d [] (fun f vs => PySem.call f vs) :=by
  intro w s₀ s₁ mg mb G Y fa o pm cd doc dV kV ho hd hcd hD hmg hg args vals as hpre hlay hrd hwl hlo
  obtain rfl : dV = .none := Dflts.none hD hdf
  obtain rfl : kV = .none := Dflts.noKw hD
  obtain ⟨a,vs,ns,rfl,rfl,hobj,hints,hlen⟩ := nE hn hpre hwl
  refine enter_call (codeAny_mono (call w s₀ s₁ mg mb fa o pm cd doc a vs ns G Y ho (fd_plain hd) hcd hmg hobj hints hlen hg) fun r s' hq => ?_)
  obtain ⟨rfl,h2,h3,h4⟩ := hq
  exact ⟨.inl ⟨.bool true,.bool true,[],rfl,fun _ => rfl,.bool true,nH l _,fun _ => ⟨List.Pairwise.nil,fun _ hm => (nomatch hm)⟩⟩,h2,h3,h4⟩
section
variable {prog : Program}{w:World}{A:Around}{E:Value → Shared → Prop}{s:Shared}{K:Frag}
noncomputable def uX (h:Heap) (L d : Addr) : List (Addr × Obj) := (List.range h.objs.size).filterMap fun a => if a = L ∨ a = d then none else (h.get? a).map fun o => (a,o)
end
end Att
namespace L2
open PySem PySem.Spec PyProof.Rows
theorem jy : ∀ {vs : List Value}{ns : List Int},IntsAre vs ns → Vals (ns.map V.int) vs
  | _,_,.nil => .nil
  | _,_,.cons n t h => .cons ⟨t,rfl⟩ (jy h)
noncomputable def Only (H:Hp) : Prop := ∀ b,H b = none ∨ ∃ o xs,H b = some (.frz o (.lst xs))
theorem pe {P:Program}{w:World}{K:PySem.W.Frag}{mg mb : Str → Option Value}{CX : CXT}{k:Nat}{fa a : Addr}{fd : FuncData}{x:Str}{sp : Sp}{s₁ : Shared}{vs : List Value}{ns : List Int}
    (KX : K.In s₁.heap) (hns : s₁.heap.Ns mainGlobals mg) (hb : s₁.heap.Ns builtinsNs mb) (hbb : ∀ x : Str,x ≠ "__name__" → mb x = bootBuiltins x) (hlim : s₁.heap.NoLimit) (hg : s₁.gens = #[])
    (ha : s₁.heap.get? a = some { cls := .type "list",data := .seq vs.toArray }) (hi : IntsAre vs ns) (hl : ns.length ≤ sizeLine) (hr : Room k callerA)
    (F:∀ base : Heap,K.In base → base.Ns mainGlobals mg → FnOk P w K mg base CX k fa fd [x] sp) (hbind : ∀ (s:Shared) (u:Value),BindsTo s fd ⟨[u],[]⟩ [(x,u)])
    (hsp : ∀ H : Hp,Only H → SqL K H a (ns.map V.int) → sp [.ref a] H (fun v _ => v = .bl true) fun _ _ _ => False)
    (hCX : ∀ H e s',CX [] H s₁ (fun _ _ _ => False) e s' → False) :
    codeAny (model P w) callerA (.call (.ref fa) ⟨[.ref a],[]⟩) (fun r s' => r = .ok (.ret (.bool true)) ∧ OldK s₁.heap s'.heap ∧ s'.os = s₁.os ∧ AllBare s'.gens) s₁ := by
  have rv := jy hi
  have lenV := hi.length
  have core : ∀ H : Hp,Only H → SqL K H a (ns.map V.int) → HOk P w H s₁.heap → (∀ b,H b ≠ none → b = a) → (H a ≠ none → K.lookup a = none) →
      codeAny (model P w) callerA (.call (.ref fa) ⟨[.ref a],[]⟩) (fun r s' => r = .ok (.ret (.bool true)) ∧ OldK s₁.heap s'.heap ∧ s'.os = s₁.os ∧ AllBare s'.gens) s₁ := by
    intro H hO hS hok hA hK
    have base_of : ∀ {b:Addr}{o:Obj},s₁.heap.get? b = some o → H b = none → (hidT s₁.heap H).get? b = some o := fun e n => pA e n
    have noA : ∀ {b:Addr}{o:Obj}{es : Array DictEntry}{ep : Nat},s₁.heap.get? b = some o → o.data = .dict es ep → H b = none := fun {b o es ep} e d => by
      cases q : H b with
      | none => rfl
      | some u =>
        have e' : b = a := hA b (by rw [q]; simp)
        subst e'
        rw [ha] at e; cases e
        have d' : Data.seq vs.toArray _ = Data.dict es ep := d
        cases d'
    have nsK : ∀ {b:Addr}{m:Str → Option Value},s₁.heap.Ns b m → (hidT s₁.heap H).Ns b m := fun {b m} ⟨o,es,ep,e,d,r⟩ => ⟨o,es,ep,base_of e (noA e d),d,r⟩
    have hKb : K.In (hidT s₁.heap H) := fun b o e => base_of (KX b o e) (by
      cases q : H b with
      | none => rfl
      | some u =>
        have e' : b = a := hA b (by rw [q]; simp)
        subst e'
        rw [hK (by rw [q]; simp)] at e; cases e)
    have hM : Mod K mg (hidT s₁.heap H) := ⟨hKb,nsK hns,⟨mb,nsK hb,hbb⟩,let ⟨mc,h1,h2⟩ := hlim; ⟨mc,nsK h1,h2⟩⟩
    have e0 : Env0 P w K mg (hidT s₁.heap H) callerA [] s₁ H := ⟨rfl,hM,fun b o e => qB e,Nat.le_of_eq (n6 _ _),trivial,fun b hb => absurd (show b ∈ ([] : List Addr) from hb) (by simp),hok,.of_eq hg⟩
    refine codeAny_mono ((F _ hKb (nsK hns)).run callerA [] s₁ H ⟨[.ref a],[]⟩ [.ref a] [.ref a] _ _ hr e0 (hbind s₁ (.ref a)) (.cons rfl .nil) (hsp H hO hS)) fun r s' h => ?_
    cases r with
    | error e => exact (hCX H e s' h).elim
    | ok fl =>
      cases fl with
      | next => exact False.elim h
      | brk => exact False.elim h
      | cont => exact False.elim h
      | ret u =>
        obtain ⟨v,H',os,bare,un,hok',r',q⟩ := h
        have q' : v = .bl true := q
        subst q'
        obtain rfl : u = Value.bool true := r'
        refine ⟨rfl,OldK.of_keep fun b o e => ?_,os,bare⟩
        cases q : H b with
        | none => exact un.keep b o e q (by intro z; exact absurd (show b ∈ ([] : List Addr) from z) (by simp)) (by simp)
        | some u =>
          rcases hO b with z | ⟨ob,xs,z⟩
          · rw [q] at z; cases z
          · have z2 := un.frzs b ob _ z
            obtain ⟨e1,_⟩ := hok b _ z
            obtain ⟨e2,_⟩ := hok' b _ z2
            rw [e] at e1; cases e1
            exact e2
  cases hk : K.lookup a with
  | some o =>
    have e := KX a o hk
    rw [ha] at e
    cases e
    refine core (fun _ => none) (fun _ => .inl rfl) (.inr ⟨_,vs.toArray,_,hk,rfl,rfl,rfl,by rw [List.size_toArray,lenV]; exact hl,by simpa using rv⟩) (fun b u z => by have z' : (none : Option HO) = some u := z; cases z') (fun b z => absurd rfl z) fun z => absurd rfl z
  | none =>
    refine core (fun b => if b = a then some (.frz { cls := .type "list",data := .seq vs.toArray } (.lst (ns.map V.int))) else none) (fun b => ?_) (.inl (.inr ⟨{ cls := .type "list",data := .seq vs.toArray },if_pos rfl⟩)) (fun b u z => ?_) (fun b z => ?_) fun _ => hk
    · by_cases hb : b = a
      · exact .inr ⟨_,_,if_pos hb⟩
      · exact .inl (if_neg hb)
    · by_cases hb : b = a
      · have z' := (if_pos hb).symm.trans z
        cases z'
        subst hb
        exact ⟨ha,by rw [List.length_map]; exact hl,vs,_,rv,ha⟩
      · have z' := (if_neg hb).symm.trans z
        cases z'
    · by_cases hb : b = a
      · exact hb
      · exact absurd (if_neg hb) z
end L2
namespace L2
open PySem PySem.Spec PyProof.Rows
noncomputable abbrev KOf {K:PySem.W.Frag}{h:Heap} (_:K.In h) : PySem.W.Frag := K
theorem walk_of {l:PySem.W.OpenLaw}{n k : Nat}{q:Program}{loose : List Str}{XP : (Str → Option Value) → Heap → Prop}{YP : World → Heap → Prop}{d:DefRec}{K:Params → PySem.W.Frag}{CX : World → CXT}{sp : World → Sp}{x:Str}
    (hn : l.most = some n) (hn2 : n ≤ sizeLine) (hdf : d.params.defaults = []) (hr : Room k callerA)
    (hY : ∀ (w:World) (h:Heap),YP w h → (K w.params).In h)
    (F:∀ (w:World) (mg : Str → Option Value) (fa : Addr) (h:Heap),(K w.params).In h → h.Ns mainGlobals mg → mg d.name = some (.ref fa) →
      ∃ fd : FuncData,(∀ (s:Shared) (u:Value),BindsTo s fd ⟨[u],[]⟩ [(x,u)]) ∧
        ∀ base : Heap,(K w.params).In base → base.Ns mainGlobals mg → FnOk l.prog w (K w.params) mg base (CX w) k fa fd [x] (sp w))
    (hsp : ∀ (w:World) (H:Hp) (a:Addr) (ns : List Int),ns.length ≤ n → Only H → SqL (K w.params) H a (ns.map V.int) → sp w [.ref a] H (fun v _ => v = .bl true) fun _ _ _ => False)
    (hCX : ∀ (w:World) (H:Hp) (s:Shared) (e:Value) (s' : Shared),CX w [] H s (fun _ _ _ => False) e s' → False) :
    PySem.W.WalkO q loose XP YP l.row.toRowW d [] (fun f vs => PySem.call f vs) :=by
  refine Att.attach_call hn hdf fun w s₀ s₁ mg mb fa o pm cd doc a vs ns G Y ho hd hcd hmg hobj hints hlen hg => ?_
  have KX := hY w _ Y
  obtain ⟨fd,hb,hF⟩ := F w mg fa _ KX G.T.g hmg
  exact pe KX G.T.g G.T.b G.T.builtins G.T.nolimit hg hobj hints (Nat.le_trans hlen hn2) hr hF hb (fun H hO hS => hsp w H a ns hlen hO hS) fun H e s' => hCX w H s₁ e s'
end L2
namespace L2
open PySem PySem.Spec PyProof.Rows
noncomputable def gD (s:Stmt) (j:Nat) : Stmt := match s with
  | .ClassDef _ _ _ body _ _ _ _ _ _ _ => body.getD j (.Pass ⟨0,0,0,0⟩)
  | _ => .Pass ⟨0,0,0,0⟩
noncomputable def aK (s:Stmt) : Arguments := match s with
  | .FunctionDef _ a _ _ _ _ _ _ _ _ => a
  | _ => { posonlyargs := [],args := [],vararg := none,kwonlyargs := [],kw_defaults := [],kwarg := none,defaults := [] }
noncomputable def aI (s:Stmt) : List Stmt := match s with
  | .FunctionDef _ _ b _ _ _ _ _ _ _ => b
  | _ => []
noncomputable def ap (s:Stmt) : Scope := match s with
  | .FunctionDef _ _ _ _ _ _ sc _ _ _ => sc
  | _ => { kind := .function,names := [],isGenerator := false,isCoroutine := false }
noncomputable abbrev CX0 : CXT := fun _ _ _ _ _ _ => False
noncomputable abbrev E0 : XK := fun _ _ _ => False
theorem pass0 {X:Cx} : gY CX0 X E0 := fun _ _ _ _ _ _ _ h => h.elim
structure Fun (K:PySem.W.Frag) (x qual : Str) (st : Stmt) (f:Addr) (fd : FuncData) : Prop where
  ex : ∃ (oc : Value) (od : Option Addr) (kV doc pm : Value) (an : Option Addr) (cdv ct : Value) (osl : Array (Option Value)),
    fd = PySem.W.fnOf x qual (aK st) (aI st) (ap st) .none kV doc pm an cdv ct ∧ K.lookup f = some ⟨oc,od,.func fd,osl⟩ ∧ PySem.W.codeIn K cdv qual = true
  kp : PySem.W.keepIn K (.ref f) = true
section
variable {P:Program}{w:World}{K:PySem.W.Frag}{mg : Str → Option Value}{base : Heap}
theorem Fun.ok {x qual : Str}{st : Stmt}{f:Addr}{fd : FuncData}{N ps : List Str}{k:Nat}{sp : Sp} (F:Fun K x qual st f fd) (S:FnScope N ps (ap st)) (len : ∀ vs H Q E,sp vs H Q E → vs.length = ps.length)
    (hbody : ∀ (cdv : Value) (A:Around) (outer : List Env) (s:Shared) (H:Hp) (vs : List V) (Q:VK) (E:XK),Room k (A.deeper (envOfC qual (ap st) s.heap.objs.size f cdv)) → sp vs H Q E →
      ∃ t,PSs (cxOf CX0 P w K mg base N qual (ap st) f cdv A outer s H E).nox (aI st) t ∧ t { nx := fun _ H' => Q .non H',rt := Q } (start N vs) H) : FnOk P w K mg base CX0 (k + 1) f fd ps sp :=by
  obtain ⟨oc,od,kV,doc,pm,an,cdv,ct,osl,rfl,lk,hcd⟩ := F.ex
  refine uw lk hcd S len fun A outer s H vs Q E hr hsp => ?_
  obtain ⟨t,h,q⟩ := hbody cdv A outer s H vs Q E hr hsp
  exact ⟨t,h.nox,q⟩
theorem Fun.binds {x qual : Str}{st : Stmt}{f:Addr}{fd : FuncData}{ps : List Str} (F:Fun K x qual st f fd)
    (h:∀ (kV doc pm : Value) (an : Option Addr) (cdv ct : Value) (us : List Value),us.length = ps.length → bindArgs (PySem.W.fnOf x qual (aK st) (aI st) (ap st) .none kV doc pm an cdv ct) ⟨us,[]⟩ = pure (ps.zip us)) : Binds K fd ps [] :=by
  obtain ⟨oc,od,kV,doc,pm,an,cdv,ct,osl,rfl,lk,hcd⟩ := F.ex
  exact .all (h kV doc pm an cdv ct)
theorem bj {x qual : Str}{st : Stmt}{f:Addr}{oc : Value}{od an : Option Addr}{osl : Array (Option Value)}{kV doc pm cdv ct : Value} (l:K.lookup f = some ⟨oc,od,.func (PySem.W.fnOf x qual (aK st) (aI st) (ap st) .none kV doc pm an cdv ct),osl⟩)
    (c:PySem.W.codeIn K cdv qual = true) (k:PySem.W.keepIn K (.ref f) = true) : Fun K x qual st f (PySem.W.fnOf x qual (aK st) (aI st) (ap st) .none kV doc pm an cdv ct) := ⟨⟨oc,od,kV,doc,pm,an,cdv,ct,osl,rfl,l,c⟩,k⟩
end
theorem bD {A:Around}{k:Nat} (hr : Room k A) : A.units + 1 < cLine := Nat.lt_of_le_of_lt (Nat.add_le_add_left (by decide : 1 ≤ 64) _) hr.units
section
variable {X:Cx}
theorem pv (i:Nat) {x:Str}{pos : Pos} (hN : X.N[i]? = some x :=by rfl) (hv : Vis X.env.scope x :=by first | exact Or.inl rfl | exact Or.inr (Or.inl rfl) | exact Or.inr (Or.inr rfl)) (hd : (x == ("__debug__" : Str)) = false :=by decide)
    (hcd : (x == ("__classdict__" : Str)) = false :=by decide) : PE X (.Name x pos) (tVar i) := si hN hv hd hcd
end
theorem iteF {A B : Prop} (h:B) : if false = true then A else B :=by
  rw [if_neg Bool.false_ne_true]
  exact h
theorem iteT {A B : Prop} (h:A) : if true = true then A else B :=by
  rw [if_pos rfl]
  exact h
section
variable {κ : Type} [DecidableEq κ]
end
end L2
namespace L2
open PySem PySem.Spec PyProof.Rows
theorem ji {α β : Type}{f:α → β → Sem (ForInStep β)} (g:α → β → β) : ∀ (l:List α) (c:β),(∀ x ∈ l,∀ c,f x c = pure (.yield (g x c))) → forIn l c f = pure (l.foldl (fun c x => g x c) c)
  | [],_,_ => rfl
  | x :: l,c,h => by
    rw [List.forIn_cons,h x List.mem_cons_self,pure_bind]
    exact ji g l (g x c) fun y hy => h y (List.mem_cons_of_mem _ hy)
noncomputable def cT (env : Env) (p:Str × NameKind) (cs : List (Str × Addr)) : List (Str × Addr) := if (p.2 == NameKind.free) = true then (p.1,(env.cells.lookup p.1).getD 0) :: cs else cs
noncomputable def cloOf (scope : Scope) (env : Env) : List (Str × Addr) := scope.names.foldl (fun c x => cT env x c) []
theorem mE {scope : Scope}{env : Env} (h:∀ p ∈ scope.names,p.2 = .free → ∃ c,env.cells.lookup p.1 = some c) : closureFor scope env = pure (cloOf scope env) :=by
  unfold cloOf
  simp only [closureFor]
  rw [ji (cT env)]
  · rfl
  · intro x hx c
    obtain ⟨n,k⟩ := x
    by_cases hk : k = .free
    · subst hk
      obtain ⟨a,ha⟩ := h _ hx rfl
      have ha : env.cells.lookup n = some a := ha
      simp [cT,cellOf,ha]
    · have : (k == NameKind.free) = false :=by simpa using hk
      simp [cT,this]
theorem jk (env : Env) : ∀ (l:List (Str × NameKind)) (c:List (Str × Addr)),(∀ p ∈ l,p.2 = .free → ∃ a,env.cells.lookup p.1 = some a) →
    (∀ y a,c.lookup y = some a → env.cells.lookup y = some a) → ∀ y a,(l.foldl (fun c x => cT env x c) c).lookup y = some a → env.cells.lookup y = some a
  | [],_,_,h,y,a,e => h y a e
  | (n,k) :: r,c,hf,h,y,a,e => by
    refine jk env r (cT env (n,k) c) (fun p hp => hf p (List.mem_cons_of_mem _ hp)) (fun z b q => ?_) y a e
    unfold cT at q
    split at q
    · rename_i hk
      obtain ⟨d,hd⟩ := hf (n,k) List.mem_cons_self (by simpa using hk)
      have hd : env.cells.lookup n = some d := hd
      rw [List.lookup_cons] at q
      split at q
      · rename_i hz
        have : z = n :=by simpa using hz
        subst this
        rw [hd] at q ⊢
        simpa using q
      · exact h z b q
    · exact h z b q
theorem lP (env : Env) : ∀ (l:List (Str × NameKind)) (c:List (Str × Addr)) (y:Str),(∃ a,c.lookup y = some a) → ∃ a,(l.foldl (fun c x => cT env x c) c).lookup y = some a
  | [],_,_,h => h
  | (n,k) :: r,c,y,h => by
    refine lP env r _ y ?_
    show ∃ a,(cT env (n,k) c).lookup y = some a
    unfold cT
    split
    · rw [List.lookup_cons]
      split
      · exact ⟨_,rfl⟩
      · exact h
    · exact h
theorem nr (env : Env) : ∀ (l:List (Str × NameKind)) (c:List (Str × Addr)) (y:Str),(y,NameKind.free) ∈ l → ∃ a,(l.foldl (fun c x => cT env x c) c).lookup y = some a
  | (n,k) :: r,c,y,h => by
    rcases List.mem_cons.mp h with e | h
    · obtain ⟨rfl,rfl⟩ := Prod.mk.inj e
      refine lP env r _ y ⟨(env.cells.lookup y).getD 0,?_⟩
      show (cT env (y,.free) c).lookup y = _
      unfold cT
      rw [if_pos (by rfl),List.lookup_cons]
      simp
    · exact nr env r _ y h
structure CScope (X:Cx) (ls : List Str) (scope : Scope) : Prop where
  kind : scope.kind = .function
  nocell : ∀ y ∈ scope.names,y.2 ≠ .cell
  names : ∀ y ∈ scope.names,y.2 = .local → scope.names.lookup y.1 = some .local
  loc : ∀ y,scope.names.lookup y = some .local → y ∈ ls
  free : ∀ y ∈ scope.names,y.2 = .free → X.env.kindOf y.1 = some .cell ∨ X.env.kindOf y.1 = some .free
  noq : ∀ y ∈ ls,∀ k,scope.names.lookup ⟨#[63] ++ y.cps⟩ ≠ some k
noncomputable def hid (ls : List Str) (y:Str) : Str := if ls.contains y then ⟨#[63] ++ y.cps⟩ else y
noncomputable def cxC (X:Cx) (ls : List Str) (scope : Scope) (C:Addr) (s2 : Shared) (H2 : Hp) (fp : List Addr) : Cx where
  prog := X.prog
  w := X.w
  K := X.K
  mg := X.mg
  base := X.base
  A := X.A
  N := ls ++ X.N.map (hid ls)
  s₀ := s2
  H₀ := H2
  env := compEnvC scope (cloOf scope X.env) C X.env
  outer := X.stack
  stack := X.stack
  ex := fp
  calm := X.calm
  fn := fun _ => false
  pn := []
  xe := fun _ _ => False
theorem cD {env : Env}{y:Str} : ∀ {names : List (Str × NameKind)}{k:NameKind},(names.map fun (n,k) => if (k == NameKind.free && env.scope.kind == .function && env.kindOf n == some .cell) then (n,NameKind.cell) else (n,k)).lookup y = some k →
    names.lookup y = some k ∨ (names.lookup y = some .free ∧ k = .cell)
  | [],_,h => by simp at h
  | (n,j) :: r,k,h => by
    have ih := @cD env y r k
    replace h : List.lookup y ((if (j == NameKind.free && env.scope.kind == .function && env.kindOf n == some .cell) = true then (n,NameKind.cell) else (n,j)) :: (r.map fun (n,k) => if (k == NameKind.free && env.scope.kind == .function && env.kindOf n == some .cell) then (n,NameKind.cell) else (n,k))) = some k := h
    by_cases hc : (j == NameKind.free && env.scope.kind == .function && env.kindOf n == some .cell) = true
    · rw [if_pos hc,List.lookup_cons] at h
      rw [List.lookup_cons]
      cases hx : y == n with
      | true =>
        rw [hx] at h
        simp only [Bool.and_eq_true] at hc
        have hj : j = .free :=by simpa using hc.1.1
        subst hj
        have h : some NameKind.cell = some k := h
        cases h
        exact .inr ⟨rfl,rfl⟩
      | false =>
        rw [hx] at h
        exact ih h
    · rw [if_neg hc,List.lookup_cons] at h
      rw [List.lookup_cons]
      cases hx : y == n with
      | true => rw [hx] at h; exact .inl h
      | false => rw [hx] at h; exact ih h
noncomputable def hides (N ls : List Str) (σ : St) : Bool := true
theorem n5 {X:Cx}{pins : List (Addr × Obj)}{σ : St}{H2 : Hp}{s2 : Shared}{ls : List Str}{scope : Scope}{fp : List Addr}{C:Addr}{h1 : Heap}{m:Str → Option Value}{tk : Nat}
    (I:Inv X pins σ H2 s2) (S:CScope X ls scope) (hh : hides X.N ls σ = true) (f2 : ∀ b ∈ fp,FpOk X pins H2 b) (ho : ∀ b ∈ fp,∃ o,s2.heap.get? b = some o) (hC : s2.heap.objs.size ≤ C) (hn : h1.Ns C m)
    (old : ∀ b o,s2.heap.get? b = some o → h1.get? b = some o) :
    Inv (cxC X ls scope C s2 H2 fp) [] (List.replicate ls.length none ++ σ) H2 { s2 with heap := h1,toks := tk } :=by
  have cf : ∀ p ∈ scope.names,p.2 = .free → ∃ c,X.env.cells.lookup p.1 = some c := fun p hp e => I.ok.has _ (S.free p hp e)
  have c1 : ∀ y a,(cloOf scope X.env).lookup y = some a → X.env.cells.lookup y = some a := jk X.env scope.names [] cf (fun y a e => by simp at e)
  have c2 : ∀ y,scope.names.lookup y = some .free → ∃ a,(cloOf scope X.env).lookup y = some a := fun y hy => nr X.env scope.names [] y (PySem.mem_of_lookup hy)
  have lt2 : ∀ b ∈ fp,b < s2.heap.objs.size := fun b hb => let ⟨o,e⟩ := ho b hb; Heap.lt_size e
  have kinds : ∀ y k,(relabel scope X.env).names.lookup y = some k → k = .cell ∨ k = .free → scope.names.lookup y = some .free := fun y k h hk => by
    rcases cD (env := X.env) h with q | ⟨q,_⟩
    · rcases hk with rfl | rfl
      · exact absurd rfl (S.nocell _ (PySem.mem_of_lookup q))
      · exact q
    · exact q
  refine ⟨⟨I.ok.mod,S.kind,I.ok.glob,I.ok.blt,hC,fun x y c e1 e2 => I.ok.inj x y c (c1 x c e1) (c1 y c e2),fun x hx => ?_,fun x c h => absurd h Bool.false_ne_true,I.ok.hd,I.ok.frames,.inl rfl,fun b hb => ⟨?_,fun x c e => (f2 b hb).2.2.2.2.1 x c (c1 x c e)⟩,I.bs,Nat.le_trans I.ok.bsz I.sz,fun b o e hb => ?_,fun b hb hz => ?_,I.stack,I.stkFree⟩,
    rfl,I.bare,Un.kept old,⟨m,hn,fun i y v e1 e2 e3 => ?_⟩,fun x c e => ?_,I.hok.fresh hC,fun x c e => I.freeC x c (c1 x c e),fun p hp => absurd (show p ∈ ([] : List (Addr × Obj)) from hp) (by simp),I.hok.kept old,?_⟩
  · have hx : (relabel scope X.env).names.lookup x = some .cell ∨ (relabel scope X.env).names.lookup x = some .free := hx
    rcases hx with hx | hx
    · exact c2 x (kinds x _ hx (.inl rfl))
    · exact c2 x (kinds x _ hx (.inr rfl))
  · exact Nat.ne_of_lt (Nat.lt_of_lt_of_le (lt2 b hb) hC)
  · rcases (f2 b hb).2.2.2.1 with z | z
    · exact I.ok.noex b o e z
    · exact absurd (Nat.lt_of_lt_of_le (Heap.lt_size e) (Nat.le_trans I.ok.bsz z)) (Nat.lt_irrefl _)
  · rcases List.mem_cons.mp (I.stkSub b hz) with z | z
    · exact (f2 b hb).2.1 z
    · exact (f2 b hb).2.2.1 z
  · have e1 : (ls ++ X.N.map (hid ls))[i]? = some y := e1
    by_cases hi : i < ls.length
    · rw [List.getElem?_append_left (by simpa using hi),List.getElem?_replicate] at e2
      rw [if_pos hi] at e2
      cases e2
    · rw [List.getElem?_append_right (by omega)] at e1
      rw [List.getElem?_append_right (by simpa using hi),List.length_replicate] at e2
      rw [List.getElem?_map] at e1
      obtain ⟨y0,e1',ey⟩ := Option.map_eq_some_iff.mp e1
      have e3 : (relabel scope X.env).names.lookup y = some .local ∨ (relabel scope X.env).names.lookup y = some .cell ∨ (relabel scope X.env).names.lookup y = some .free := e3
      have ny : y0 ∉ ls := fun hm => by
        unfold hid at ey
        rw [if_pos (by simpa using hm)] at ey
        subst ey
        have no : ∀ k,(relabel scope X.env).names.lookup ⟨#[63] ++ y0.cps⟩ = some k → False := fun k q => by
          rcases cD (env := X.env) q with z | ⟨z,_⟩
          · exact S.noq y0 hm _ z
          · exact S.noq y0 hm _ z
        rcases e3 with q | q | q <;> exact no _ q
      unfold hid at ey
      rw [if_neg (by simpa using ny)] at ey
      rw [ey] at e1' ny
      have e1 := e1'
      have fr : scope.names.lookup y = some .free :=by
        rcases e3 with q | q | q
        · rcases cD (env := X.env) q with z | ⟨_,z⟩
          · exact absurd (S.loc y z) ny
          · cases z
        · exact kinds y _ q (.inl rfl)
        · exact kinds y _ q (.inr rfl)
      have kx := S.free _ (PySem.mem_of_lookup fr) rfl
      obtain ⟨m2,_,hl⟩ := I.loc
      obtain ⟨u,r,l⟩ := hl _ y v e1 e2 (.inr kx)
      refine ⟨u,r,?_⟩
      have knd : (relabel scope X.env).names.lookup y = some .cell ∨ (relabel scope X.env).names.lookup y = some .free :=by
        rcases e3 with q | q
        · rcases cD (env := X.env) q with z | ⟨_,z⟩
          · exact absurd (S.loc y z) ny
          · cases z
        · exact q
      rcases l with ⟨k1,_⟩ | ⟨_,c,hc,hcell⟩
      · have kx : X.env.kindOf y = some .cell ∨ X.env.kindOf y = some .free := kx
        rcases kx with z | z <;> (rw [k1] at z; cases z)
      · obtain ⟨c',hc'⟩ := c2 y fr
        have := c1 y c' hc'
        rw [hc] at this
        cases this
        refine .inr ⟨knd,c,hc',?_⟩
        obtain ⟨o,ho,hd⟩ := hcell
        exact ⟨o,old _ _ ho,hd⟩
  · obtain ⟨v,o,ho,hd⟩ := I.cell x c (c1 x c e)
    exact ⟨v,o,old _ _ ho,hd⟩
  · show (List.replicate ls.length none ++ σ).length = (ls ++ X.N.map (hid ls)).length
    rw [List.length_append,List.length_append,List.length_replicate,List.length_map,I.len]
theorem pw {X:Cx}{pins : List (Addr × Obj)}{σ σ' : St}{H2 H3 : Hp}{s2 s' : Shared}{ls : List Str}{scope : Scope}{fp : List Addr}{C D : Addr}{h' : Heap}{ys : List V}{its : List Value}{n:Nat}{pl : List (Addr × Obj)}
    (I:Inv X pins σ H2 s2) (f2 : ∀ b ∈ fp,FpOk X pins H2 b) (J:Inv (cxC X ls scope C s2 H2 fp) pl σ' H3 s') (hD : s2.heap.objs.size ≤ D) (hC : s2.heap.objs.size ≤ C) (hDC : D ≠ C)
    (sb : Heap.SameBut C s'.heap h') (hD3 : H3 D = none) (e:s'.heap.get? D = some { cls := .type "list",data := .seq its.toArray n }) (r:Vals ys its) (z:ys.length ≤ sizeLine) : Inv X pins σ (upd H3 D (.lst ys)) { s' with heap := h' } :=by
  have ext : ∀ b o,b ≠ C → s'.heap.get? b = some o → h'.get? b = some o := fun b o hb e => sb.extBut b o hb e
  have neD : ∀ b,b < s2.heap.objs.size → b ≠ D := fun b hb => Nat.ne_of_lt (Nat.lt_of_lt_of_le hb hD)
  have neC : ∀ b,b < s2.heap.objs.size → b ≠ C := fun b hb => Nat.ne_of_lt (Nat.lt_of_lt_of_le hb hC)
  have lt : ∀ b u,H2 b = some u → b < s2.heap.objs.size := fun b u q => by
    apply Classical.byContradiction
    intro hb
    have := I.hok.fresh (Nat.le_of_not_lt hb)
    rw [this] at q
    cases q
  have fC : H3 C = none := J.free
  refine I.call' (s' := { s' with heap := h' }) (ch := fp) J.os ⟨fun b o q n hb hx => ?_,fun b o q n hb hx => ?_,fun b o q n hx => ?_,fun b o q hx => ?_,fun b xs q => ?_,fun b o u q => ?_,fun b ps q => ?_⟩ (fun b u q => ?_) J.bare fun b hb => ?_
  · exact ext b o (neC b (Heap.lt_size q)) (J.base.keep b o q n hb hx)
  · obtain ⟨sl,w⟩ := J.base.slot b o q n hb hx
    exact ⟨sl,ext b _ (neC b (Heap.lt_size q)) w⟩
  · rw [aX (neD b (Heap.lt_size q))]
    exact J.base.free b o q n hx
  · obtain ⟨o',w⟩ := J.base.there b o q hx
    exact ⟨o',ext b _ (neC b (Heap.lt_size q)) w⟩
  · rw [aX (neD b (lt b _ q))]; exact J.base.tups b xs q
  · rw [aX (neD b (lt b _ q))]; exact J.base.frzs b o u q
  · rw [aX (neD b (lt b _ q))]; exact J.base.tbls b ps q
  · by_cases hb : b = D
    · subst hb
      rw [cn] at q
      cases q
      exact ⟨z,its,n,r,ext _ _ hDC e⟩
    · rw [aX hb] at q
      have ne1 : b ≠ C := fun w => by rw [w,fC] at q; cases q
      have ow : ∀ c u,H3 c = some u → c ≠ D := fun c u w z => by rw [z,hD3] at w; cases w
      have oc : ∀ c u,H3 c = some u → c ≠ C := fun c u w z => by rw [z,fC] at w; cases w
      refine (J.hok b u q).stay (fun c v hc w => ext c v ?_ w) (fun c w => by rw [aX (ow c _ w)]; exact w) fun c xs w => by rw [aX (ow c _ w)]; exact w
      rcases hc with rfl | hc
      · exact ne1
      · exact oc c _ hc
  · obtain ⟨a1,a2,a3,a4,a5,a6⟩ := f2 b hb
    exact ⟨a4,a2,a5,a6⟩
noncomputable def PIfs (X:Cx) (ifs : List Expr) (t:TT) : Prop :=
  ∀ (pins : List (Addr × Obj)) (s:Shared) (σ : St) (H:Hp) (Q:Bool → Hp → Prop),Inv X pins σ H s → t σ H Q →
    wpAny (model X.prog X.w) X.A (forIn ifs true fun c r => if r = true then do let ok ← isTrue c X.env (eval c X.env); pure (ForInStep.yield ok) else pure (ForInStep.yield r)) (TP X pins σ Q) X.xe s
noncomputable def tYes : TT := fun _ H Q => Q true H
theorem qj {X:Cx} : PIfs X [] tYes := fun _ _ _ H _ I h => wpAny_tests_nil ⟨H,I,h⟩
noncomputable def CompW (J:It) (ls : List Str) (g:TG) (tt : TT) (te : TE) (σ : St) (H1 : Hp) (Q:VK) : Prop := ∃ W : Nat → Nat → List V → Hp → Prop,(∃ m,W 0 m [] H1) ∧ ∀ i m ys H,W i m ys H →
  (J.stop i H ∧ ∀ D,H D = none → Q (.ref D) (upd H D (.lst ys))) ∨
  (J.go i H ∧ ∃ R : List V → Hp → Prop,(∀ ys' H',R ys' H' → ∃ m',m' < m ∧ W (i + 1) m' ys' H') ∧ ∀ y H',J.yld i H y H' →
    g y (List.replicate ls.length none ++ σ) H' fun σ2 H2 => σ2.drop ls.length = σ ∧ σ2.length = ls.length + σ.length ∧ tt σ2 H2 fun b H3 => if b = true then te σ2 H3 fun v H4 => ys.length < sizeLine ∧ R (ys ++ [v]) H4 else R ys H3)
noncomputable def tComp (N ls : List Str) (wi : TI) (g:TG) (tt : TT) (te : TE) : TE := fun σ H Q => hides N ls σ = true ∧ wi σ H fun J H1 => CompW J ls g tt te σ H1 Q
theorem fK {prog : Program}{w:World}{A:Around}{R:Result → Shared → Prop}{s:Shared}{elt target iter : Expr}{ifs : List Expr}{scope : Scope}{pos : Pos}{it acc : Value}{env : Env} (I:Nat → Shared → Prop)
    (turn : ∀ n s,I n s → wpAny (model prog w) A (pyNext it) (fun r s₁ => match r with
      | none => R (.ok .next) s₁
      | some v => wpAny (model prog w) A (letOwnedTupleGo target it v) (fun _ s₁ => wpAny (model prog w) A (assign target env v) (fun _ s₂ =>
          wpAny (model prog w) A (forIn ifs true fun c r => if r = true then do let ok ← isTrue c env (eval c env); pure (ForInStep.yield ok) else pure (ForInStep.yield r)) (fun ok s₃ =>
            if ok = true then wpAny (model prog w) A (eval elt env) (fun x s₄ =>
              wpAny (model prog w) A (call (.builtin "list.append") [acc,x]) (fun _ s₅ => ∃ m,m < n ∧ I m s₅) (notedBy (model prog w) A env fun e s' => R (.error e) s') s₄) (notedBy (model prog w) A env fun e s' => R (.error e) s') s₃
            else ∃ m,m < n ∧ I m s₃) (notedBy (model prog w) A env fun e s' => R (.error e) s') s₂) (notedBy (model prog w) A env fun e s' => R (.error e) s') s₁) (notedBy (model prog w) A env fun e s' => R (.error e) s') s₁) (notedBy (model prog w) A env fun e s' => R (.error e) s') s)
    (n:Nat) (h:I n s) :
    codeAny (model prog w) A (.compLoop (.ListComp elt [⟨target,iter,ifs,0⟩] scope pos) 0 it acc env) R s :=by
  refine codeAny_loop rfl I (fun n s hI => ?_) n h
  show wpAny _ A ((compTurn (.ListComp elt [⟨target,iter,ifs,0⟩] scope pos) 0 it acc env).onRaise (fun x => do noteFrame x env; theTreesLotGoes x)) _ _ s
  refine wpAny_noted ?_
  rw [compTurn_list]
  refine wpAny_bind (wpAny_standAt (wpAny_bind (wpAny_mono (turn n s hI) (fun r s₁ h₁ => ?_) fun _ _ h' => h')))
  cases r with
  | none => exact wpAny_pure h₁
  | some v =>
    refine wpAny_bind (wpAny_mono h₁ (fun _ s₁ h₁ => ?_) fun _ _ h' => h')
    refine wpAny_bind (wpAny_mono h₁ (fun _ s₂ h₂ => wpAny_bind (wpAny_mono h₂ (fun ok s₃ h₃ => ?_) fun _ _ h' => h')) fun _ _ h' => h')
    cases ok with
    | false => exact wpAny_pure ⟨rfl,h₃⟩
    | true =>
      exact wpAny_bind (wpAny_bind (wpAny_mono h₃ (fun x s₄ h₄ => wpAny_bind (wpAny_mono h₄ (fun _ s₅ h₅ => wpAny_pure (wpAny_pure ⟨rfl,h₅⟩)) fun _ _ h' => h')) fun _ _ h' => h'))
theorem thx {α : Type}{t:Sem α}{Q Q' : α → Shared → Prop}{M:Model}{A:Around}{E:Value → Shared → Prop}{s:Shared} (h:wpAny M A t Q (fun _ _ => False) s) (hQ : ∀ a s,Q a s → Q' a s) : wpAny M A t Q' E s := wpAny_mono h hQ fun _ _ x => x.elim
section
variable {X:Cx}{elt iter tg : Expr}{ifs : List Expr}{scope : Scope}{pos : Pos}{ls : List Str}{wi : TI}{g:TG}{tt : TT}{te : TE}
theorem jS {use : Option (Value → Sem Unit)}{pins : List (Addr × Obj)}{s:Shared}{σ : St}{H:Hp}{Q:VK}{QQ : Value → Shared → Prop}{pos' : Pos} (hcalm : X.calm = true) (S:CScope X ls scope) (hi : PI X tg iter wi)
    (hg : ∀ C s2 H2 fp,PG (cxC X ls scope C s2 H2 fp) tg g) (ht : ∀ C s2 H2 fp,PIfs (cxC X ls scope C s2 H2 fp) ifs tt) (he : ∀ C s2 H2 fp,PE (cxC X ls scope C s2 H2 fp) elt te)
    (hs : ∀ x,foldedSetIterable iter X.env x = pure x) (I:Inv X pins σ H s) (h:tComp X.N ls wi g tt te σ H Q)
    (hQQ : ∀ (D C : Addr) (s' : Shared) (H' : Hp),(∃ m,s'.heap.Ns C m) → FpOk X pins H' C → (∀ h',Heap.SameBut C s'.heap h' → Inv X pins σ H' { s' with heap := h' }) → Q (.ref D) H' → compPost (model X.prog X.w) X.A X.xe use QQ (.ref D) C (.ok .next) s') :
    wpAny (model X.prog X.w) X.A (comprehension (.ListComp elt [⟨tg,iter,ifs,0⟩] scope pos) scope X.env pos' (newList []) false (eval iter X.env) use) QQ X.xe s :=by
  obtain ⟨hh,h⟩ := h
  have cf : ∀ p ∈ scope.names,p.2 = .free → ∃ c,X.env.cells.lookup p.1 = some c := fun p hp e => I.ok.has _ (S.free p hp e)
  refine wpAny_comprehension_free (use := use) rfl hs (mE cf) S.kind S.names (thn (hi pins s σ H _ I h) fun v s1 h1 => thn h1 fun itv s2 h2 => ?_)
  obtain ⟨it,fp,tn,J,H2,rfl,I2,T,st2,f2,W,⟨m0,w0⟩,turn⟩ := h2
  refine wpAny_newObj_type (wpAny_newFunctionEnv S.nocell (by intro y hy; simp at hy) (fun h₁ hns₁ hsb₁ => ?_) S.kind)
  dsimp only at hns₁ hsb₁ ⊢
  generalize hH2 : s2.heap.push { cls := .type "list",dict := none,data := .seq ([] : List Value).toArray } = G2 at hns₁ hsb₁ ⊢
  have hC : G2.objs.size = s2.heap.objs.size + 1 :=by rw [← hH2,Heap.size_push]
  have hDC : s2.heap.objs.size ≠ G2.objs.size :=by rw [hC]; exact Nat.ne_of_lt (Nat.lt_succ_self _)
  have hCle : s2.heap.objs.size ≤ G2.objs.size :=by rw [hC]; exact Nat.le_succ _
  have old : ∀ b o,s2.heap.get? b = some o → h₁.get? b = some o := fun b o e => hsb₁.extBut b o (Nat.ne_of_lt (Nat.lt_of_lt_of_le (Heap.lt_size e) hCle)) (Heap.get?_push_of_some _ (hH2 ▸ Heap.get?_push_of_some _ e))
  have hacc : h₁.get? s2.heap.objs.size = some { cls := .type "list",data := .seq ([] : List Value).toArray } := hsb₁.extBut _ _ hDC (Heap.get?_push_of_some _ (hH2 ▸ Heap.get?_push_size _ rfl))
  have hobj : ∀ b ∈ fp,∃ o,s2.heap.get? b = some o := fun b hb => let ⟨o,e,_⟩ := T.obj 0 _ st2 b hb; ⟨o,e⟩
  have ltf : ∀ b ∈ fp,b < s2.heap.objs.size := fun b hb => let ⟨o,e⟩ := hobj b hb; Heap.lt_size e
  have nofD : s2.heap.objs.size ∉ (cxC X ls scope G2.objs.size s2 H2 fp).fs := fun z => by
    rcases List.mem_cons.mp (I2.stkSub _ z) with z | z
    · exact absurd I2.lt (by rw [← z]; exact Nat.lt_irrefl _)
    · exact I2.nofs (Nat.le_refl _) z
  have st1 : tn 0 h₁ := T.keep 0 _ _ st2 fun b _ o e => old b o e
  have J0 : ∀ tk,Inv (cxC X ls scope G2.objs.size s2 H2 fp) [] (List.replicate ls.length none ++ σ) H2 { s2 with heap := h₁,toks := tk } := fun tk => n5 I2 S hh f2 hobj hCle hns₁ old
  have fpY : ∀ (Hx : Hp) (pl : List (Addr × Obj)),(∀ b ∈ fp,Hx b = none) → (∀ p ∈ pl,s2.heap.objs.size ≤ p.1) → ∀ b ∈ fp,FpOk (cxC X ls scope G2.objs.size s2 H2 fp) pl Hx b := fun Hx pl hx hp b hb =>
    ⟨hx b hb,((J0 0).ok.exf b hb).1,(J0 0).ok.exfs b hb,.inl hb,((J0 0).ok.exf b hb).2,fun p hpp => by
      have hpp : p ∈ pl :=by simpa [cxC] using hpp
      exact Nat.ne_of_gt (Nat.lt_of_lt_of_le (ltf b hb) (hp p hpp))⟩
  have loop : ∀ s₃ : Shared,s₃ = { s2 with heap := h₁,toks := s2.toks + ([] : List (Str × Value)).length } →
      codeAny (model X.prog X.w) X.A (.compLoop (.ListComp elt [⟨tg,iter,ifs,0⟩] scope pos) 0 (.ref it) (.ref s2.heap.objs.size) (compEnvC scope (cloOf scope X.env) G2.objs.size X.env))
        (compPost (model X.prog X.w) X.A X.xe use QQ (.ref s2.heap.objs.size) G2.objs.size) s₃ := by
    rintro s₃ rfl
    refine fK (fun n s' => ∃ (i:Nat) (ys : List V) (its : List Value) (k:Nat) (H' : Hp),Inv (cxC X ls scope G2.objs.size s2 H2 fp) [] (List.replicate ls.length none ++ σ) H' s' ∧ tn i s'.heap ∧ (∀ b ∈ fp,H' b = none) ∧ H' s2.heap.objs.size = none ∧
      s'.heap.get? s2.heap.objs.size = some { cls := .type "list",data := .seq its.toArray k } ∧ Vals ys its ∧ ys.length ≤ sizeLine ∧ W i n ys H') ?_ m0
      ⟨0,[],[],0,H2,J0 _,st1,fun b hb => (f2 b hb).1,I2.hok.fresh (Nat.le_refl _),hacc,.nil,Nat.zero_le _,w0⟩
    rintro n s3 ⟨i,ys,its,k,H3,I3,st3,fr3,d3,e3,r3,z3,w3⟩
    have big : ∀ p ∈ [((s2.heap.objs.size : Addr),({ cls := .type "list",data := .seq its.toArray k } : Obj))],s2.heap.objs.size ≤ p.1 := fun p hp => by
      have this := List.mem_singleton.mp hp
      subst this
      exact Nat.le_refl _
    rcases turn i n ys H3 w3 with ⟨stop,qn⟩ | ⟨go,R,hR,step⟩
    ·
      have P3 : Inv (cxC X ls scope G2.objs.size s2 H2 fp) [(s2.heap.objs.size,{ cls := .type "list",data := .seq its.toArray k })] (List.replicate ls.length none ++ σ) H3 s3 := I3.pins_of fun p hp => by
        have this := List.mem_singleton.mp hp
        subst this
        exact ⟨e3,d3,hDC,nofD,fun v z => by cases z⟩
      refine thx (T.done (cxC X ls scope G2.objs.size s2 H2 fp) rfl rfl rfl hcalm i _ s3 _ H3 (fun _ _ => False) P3 (fpY H3 _ fr3 big) st3 stop) fun r s4 ⟨hr,I4⟩ => ?_
      subst hr
      obtain ⟨m,hm,_⟩ := I4.loc
      have e4 := (I4.pin _ (List.mem_append_right _ (List.mem_singleton.mpr rfl))).1
      exact hQQ _ _ s4 _ ⟨m,hm⟩ (I2.fpOk hCle (by rw [aX (Ne.symm hDC)]; exact I4.free)) (fun h' sb => pw I2 f2 I4 (Nat.le_refl _) hCle hDC sb d3 e4 r3 z3) (qn _ d3)
    ·
      have P3 : Inv (cxC X ls scope G2.objs.size s2 H2 fp) [(s2.heap.objs.size,{ cls := .type "list",data := .seq its.toArray k })] (List.replicate ls.length none ++ σ) H3 s3 := I3.pins_of fun p hp => by
        have this := List.mem_singleton.mp hp
        subst this
        exact ⟨e3,d3,hDC,nofD,fun v z => by cases z⟩
      refine thx (T.item (cxC X ls scope G2.objs.size s2 H2 fp) rfl rfl rfl hcalm i _ s3 _ H3 (fun _ _ => False) P3 (fpY H3 _ fr3 big) st3 go) fun r s4 ⟨u,hr,h4⟩ => ?_
      subst hr
      refine thx h4 fun _ s5 ⟨x,H5,I5,r5,y5,st5,fr5⟩ => ?_
      have I5' := I5.pinned (fpY H5 _ fr5 big) (T.obj _ _ st5)
      refine thx (hg _ _ _ _ _ s5 _ H5 x u _ I5' r5 (step x H5 y5)) fun _ s6 ⟨σ6,H6,I6,q6⟩ => ?_
      obtain ⟨dr,ln,q6⟩ := q6
      have back : ∀ {s7 : Shared}{H7 : Hp},Inv (cxC X ls scope G2.objs.size s2 H2 fp) ([((s2.heap.objs.size : Addr),({ cls := .type "list",data := .seq its.toArray k } : Obj))] ++ iF fp s5.heap) σ6 H7 s7 →
          Inv (cxC X ls scope G2.objs.size s2 H2 fp) [] (List.replicate ls.length none ++ σ) H7 s7 ∧ tn (i + 1) s7.heap ∧ (∀ b ∈ fp,H7 b = none) ∧ H7 s2.heap.objs.size = none ∧ s7.heap.get? s2.heap.objs.size = some { cls := .type "list",data := .seq its.toArray k } := fun {s7 H7} I7 => by
        have pD := I7.pin _ (List.mem_append_right _ (List.mem_append_left _ (List.mem_singleton.mpr rfl)))
        have pF : ∀ b ∈ fp,∀ o,s5.heap.get? b = some o → s7.heap.get? b = some o ∧ H7 b = none := fun b hb o e => by
          have q := I7.pin (b,o) (List.mem_append_right _ (List.mem_append_right _ (fY hb e)))
          exact ⟨q.1,q.2.1⟩
        refine ⟨(I7.pins_of (pins' := []) fun p hp => absurd hp (by simp)).weak ?_ ?_,T.keep _ _ _ st5 fun b hb o e => (pF b hb o e).1,fun b hb => ?_,pD.2.1,pD.1⟩
        · rw [ln,List.length_append,List.length_replicate]
        · intro j v ej
          by_cases hj : j < ls.length
          · rw [List.getElem?_append_left (by simpa using hj),List.getElem?_replicate,if_pos hj] at ej
            cases ej
          · rw [List.getElem?_append_right (by simpa using hj),List.length_replicate,← dr,List.getElem?_drop] at ej
            rw [← ej]
            congr 1
            omega
        · obtain ⟨o,e,_⟩ := T.obj _ _ st5 b hb
          exact (pF b hb o e).2
      refine thx (ht _ _ _ _ _ s6 σ6 H6 _ I6 q6) fun b s7 ⟨H7,I7,q7⟩ => ?_
      cases b with
      | false =>
        rw [if_neg Bool.false_ne_true] at q7 ⊢
        obtain ⟨m',hm,w7⟩ := hR _ _ q7
        obtain ⟨a1,a2,a3,a4,a5⟩ := back I7
        exact ⟨m',hm,i + 1,ys,its,k,H7,a1,a2,a3,a4,a5,r3,z3,w7⟩
      | true =>
        rw [if_pos rfl] at q7 ⊢
        refine thx (he _ _ _ _ _ s7 σ6 H7 _ I7 q7) fun y s8 ⟨v,H8,I8,r8,z8,q8⟩ => ?_
        obtain ⟨m',hm,w8⟩ := hR _ _ q8
        obtain ⟨a1,a2,a3,a4,a5⟩ := back I8
        have pl : s8.heap.PlainList s2.heap.objs.size its.toArray := ⟨k,a5⟩
        refine wpAny_list_append_plain (hsz :=by rw [List.size_toArray,← r3.length]; exact z3) pl fun h9 hl9 hs9 => ?_
        obtain ⟨k9,e9⟩ := hl9
        have cellN : ∀ (y:Str) (c:Addr),(cxC X ls scope G2.objs.size s2 H2 fp).env.cells.lookup y = some c → c ≠ s2.heap.objs.size := fun y c e => by
          have e1 : X.env.cells.lookup y = some c := jk X.env scope.names [] cf (fun y a e => by simp at e) y c e
          obtain ⟨v,o,ho,_⟩ := I2.cell y c e1
          exact Nat.ne_of_lt (Heap.lt_size ho)
        have I9 : Inv (cxC X ls scope G2.objs.size s2 H2 fp) [] (List.replicate ls.length none ++ σ) H8 { s8 with heap := h9 } :=
          a1.turned (t' := s8.toks) (fun b o hb e => hs9.extBut b o hb e) a4 hDC (.inr (Nat.le_refl _)) cellN (fun p hp => absurd (show p ∈ ([] : List (Addr × Obj)) from hp) (by simp))
        refine ⟨m',hm,i + 1,ys ++ [v],its ++ [y],k9,H8,I9,T.keep _ _ _ a2 fun b hb o e => hs9.extBut b o (Nat.ne_of_lt (ltf b hb)) e,a3,a4,?_,r3.append (.cons r8 .nil),?_,w8⟩
        · simpa using e9
        · rw [List.length_append,List.length_singleton]; exact z8
  exact codeAny_compStart_list (loop _ rfl) (T.self _ 0 _ _ _ st1 (loop _ rfl))
theorem qp (hcalm : X.calm = true) (S:CScope X ls scope) (hi : PI X tg iter wi)
    (hg : ∀ C s2 H2 fp,PG (cxC X ls scope C s2 H2 fp) tg g) (ht : ∀ C s2 H2 fp,PIfs (cxC X ls scope C s2 H2 fp) ifs tt) (he : ∀ C s2 H2 fp,PE (cxC X ls scope C s2 H2 fp) elt te)
    (hs : ∀ x,foldedSetIterable iter X.env x = pure x :=by intro _; rfl) : PE X (.ListComp elt [⟨tg,iter,ifs,0⟩] scope pos) (tComp X.N ls wi g tt te) :=by
  intro pins s σ H Q I h
  rw [eval_ListComp]
  refine jS (use := none) hcalm S hi hg ht he hs I h fun D C s' H' hm _ hI q => ?_
  obtain ⟨m,hm⟩ := hm
  exact ⟨m,hm,fun h' sb => ⟨.ref D,H',hI h' sb,rfl,q⟩⟩
theorem lV {i:Nat}{x:Str}{px spos : Pos} (hN : X.N.Nodup) (hx1 : X.N[i]? = some x) (hx : X.env.scope.names.lookup x = some .local) (hcalm : X.calm = true) (S:CScope X ls scope) (hi : PI X tg iter wi)
    (hg : ∀ C s2 H2 fp,PG (cxC X ls scope C s2 H2 fp) tg g) (ht : ∀ C s2 H2 fp,PIfs (cxC X ls scope C s2 H2 fp) ifs tt) (he : ∀ C s2 H2 fp,PE (cxC X ls scope C s2 H2 fp) elt te)
    (hsw : swapsWith (.ListComp elt [⟨tg,iter,ifs,0⟩] scope pos) (some (.Name x px)) spos.line X.env = pure true :=by rfl)
    (hs : ∀ x,foldedSetIterable iter X.env x = pure x :=by intro _; rfl) : PS X (.Assign [.Name x px] (.ListComp elt [⟨tg,iter,ifs,0⟩] scope pos) spos) (tAsg (tComp X.N ls wi g tt te) (gName i)) :=by
  intro pins s σ H D I h
  rw [exec_Assign_Name_used _ _ _ _ hsw]
  refine wpAny_bind (wpAny_standAt (wpAny_bind ?_))
  show wpAny _ X.A (do let _ ← comprehension (.ListComp elt [⟨tg,iter,ifs,0⟩] scope pos) scope X.env _ (newList []) false (eval iter X.env) (some (assign (.Name x px) X.env))) _ _ s
  refine wpAny_bind (wpAny_mono (jS (use := some (assign (.Name x px) X.env)) (QQ := fun _ s' => SP X pins D .next s') hcalm S hi hg ht he hs I h fun Dd C s' H' hm hf hI q => ?_) (fun _ s' hq => wpAny_pure (wpAny_pure hq)) fun _ _ e => e)
  obtain ⟨m,hm⟩ := hm
  have I1 : Inv X pins σ H' s' := hI s'.heap (.refl ..)
  show wpAny _ X.A (assign (.Name x px) X.env (.ref Dd)) _ _ _
  refine wpAny_assign_Name (jB (v := .ref Dd) I1 hN hx1 (.inl hx) rfl (fun s2 I2 ch => ?_) (.inr hx))
  obtain ⟨f0,f1,f2,f3,f4,f5⟩ := hf
  obtain ⟨a,sb,ha⟩ := ch
  have hne : C ≠ a :=by
    rcases ha with ha | ha
    · rw [ha]; exact f1
    · exact Ne.symm (f4 _ _ ha)
  refine ⟨m,hm.sameBut sb hne,fun h' sb' => ?_⟩
  exact ⟨_,H',I2.turned (t' := s2.toks) (fun b o hb e => sb'.extBut b o hb e) f0 f1 f3 f4 f5,q⟩
end
end L2
namespace L2
open PySem PySem.Spec PyProof.Rows
noncomputable def nk (ls : List Str) (sc outer : Scope) : Bool := (sc.kind == .function && ls.all fun y => (sc.names.lookup ⟨#[63] ++ y.cps⟩).isNone) && sc.names.all fun y => (y.2 != .cell) && (y.2 != .local || (sc.names.lookup y.1 == some .local && ls.contains y.1)) && (y.2 != .free || outer.names.lookup y.1 == some .cell || outer.names.lookup y.1 == some .free)
theorem CScope.of {X:Cx}{ls : List Str}{scope : Scope} (outer : Scope) (h:nk ls scope outer = true :=by decide +kernel) (ho : X.env.scope = outer :=by rfl) : CScope X ls scope :=by
  unfold nk at h
  rw [Bool.and_eq_true,List.all_eq_true] at h
  obtain ⟨h0,h⟩ := h
  rw [Bool.and_eq_true,List.all_eq_true] at h0
  obtain ⟨h0,hq⟩ := h0
  refine ⟨by simpa using h0,fun y hy e => ?_,fun y hy e => ?_,fun y hy => ?_,fun y hy e => ?_,fun y hy k e => by have q := hq y hy; rw [e] at q; cases q⟩
  · have q := h y hy
    simp [e] at q
  · have q := h y hy
    simp [e] at q
    exact q.1
  · have q := h _ (PySem.mem_of_lookup hy)
    simp at q
    exact q.2
  · have q := h y hy
    simp [e] at q
    show X.env.scope.names.lookup y.1 = _ ∨ X.env.scope.names.lookup y.1 = _
    rw [ho]
    exact q
noncomputable def CMulB (i j : Int) : Prop := i.natAbs < 2 ^ 65536 ∧ j.natAbs < 2 ^ 65536
theorem nu {i:Int}{n:Nat} (h:i.natAbs < 2 ^ n) : Builtin.Int.intBits i ≤ n :=by
  unfold Builtin.Int.intBits
  split
  · exact Nat.zero_le _
  · rename_i hz
    have hz' : i.natAbs ≠ 0 :=by
      intro e
      exact hz (by simp_all)
    have := (Nat.log2_lt hz').mpr h
    omega
theorem CMulB.ok {i j : Int} (h:CMulB i j) : IntMulOk i j := .of_bits (Nat.le_trans (nu h.1) (by decide)) (Nat.le_trans (nu h.2) (by decide))
section
variable {X:Cx}
theorem call_isinst : CallR X (.builtin "isinstance") (fun xs H Q => ∃ (x c : V) (cv t : Value) (b:Bool),xs = [x,c] ∧ RelV c cv ∧ TyOf X.K H x t ∧ PySem.W.kitOne X.K t cv = some b ∧ Q (.bl b) H) :=by
  intro pins s σ H xs us Q I r h
  obtain ⟨x,c,cv,t,b,rfl,rc,ty,e,q⟩ := h
  obtain ⟨u,u',rfl,ru,ru'⟩ := vals2 r
  have : u' = cv :=by
    cases c with
    | ref a => cases rc; cases ru'; rfl
    | ty n => cases rc; cases ru'; rfl
    | non => cases rc; cases ru'; rfl
    | bl _ => cases rc; cases ru'; rfl
    | int _ => obtain ⟨t1,rfl⟩ := rc; exact absurd e (by simp [PySem.W.kitOne,PySem.W.kitCls]; intro h; cases ty <;> cases h)
    | str _ => obtain ⟨t1,rfl⟩ := rc; exact absurd e (by simp [PySem.W.kitOne,PySem.W.kitCls]; intro h; cases ty <;> cases h)
    | byt _ => obtain ⟨t1,rfl⟩ := rc; exact absurd e (by simp [PySem.W.kitOne,PySem.W.kitCls]; intro h; cases ty <;> cases h)
    | flt _ => obtain ⟨t1,rfl⟩ := rc; exact absurd e (by simp [PySem.W.kitOne,PySem.W.kitCls]; intro h; cases ty <;> cases h)
  subst this
  exact nZ I ru ty e fun tk => ⟨.bl b,H,I.tok tk,rfl,q⟩
mutual
inductive Den (K:PySem.W.Frag) (H:Hp) : V → PyData → Prop
  | non : Den K H .non .none
  | bl (b) : Den K H (.bl b) (.bool b)
  | int (i) : Den K H (.int i) (.int i)
  | str (x) : Den K H (.str x) (.str x)
  | lst {a xs ds} : SqL K H a xs → DenAll K H xs ds → Den K H (.ref a) (.list ds)
  | tup {a xs ds} : SqT K H a xs → DenAll K H xs ds → Den K H (.ref a) (.tuple ds)
inductive DenAll (K:PySem.W.Frag) (H:Hp) : List V → List PyData → Prop
  | nil : DenAll K H [] []
  | cons {x xs d ds} : Den K H x d → DenAll K H xs ds → DenAll K H (x :: xs) (d :: ds)
end
mutual
theorem eO {pins : List (Addr × Obj)}{σ : St}{H:Hp}{s:Shared} (I:Inv X pins σ H s) : ∀ {x:V}{d:PyData}{u:Value},Den X.K H x d → RelV x u → ∃ as,Reads s.heap u d as
  | _,_,_,.non,r => by cases r; exact ⟨_,.none⟩
  | _,_,_,.bl b,r => by cases r; exact ⟨_,.bool b⟩
  | _,_,_,.int i,r => by obtain ⟨t,rfl⟩ := r; exact ⟨_,.int i t⟩
  | _,_,_,.str i,r => by obtain ⟨t,rfl⟩ := r; exact ⟨_,.str i t⟩
  | _,_,_,.lst hq ha,r => by
    cases r
    obtain ⟨its,rv,⟨o,n,e1,e2,e3,e4⟩,hz⟩ := I.list hq
    obtain ⟨as,h⟩ := fm I ha rv
    exact ⟨_,.list e1 e2 e4 (by simpa using h)⟩
  | _,_,_,.tup hq ha,r => by
    cases r
    obtain ⟨its,rv,⟨o,e1,e2,n,e3⟩,hz⟩ := I.tuple hq
    obtain ⟨as,h⟩ := fm I ha rv
    exact ⟨_,.tuple e1 e2 e3 (by simpa using h)⟩
theorem fm {pins : List (Addr × Obj)}{σ : St}{H:Hp}{s:Shared} (I:Inv X pins σ H s) : ∀ {xs : List V}{ds : List PyData}{us : List Value},DenAll X.K H xs ds → Vals xs us → ∃ as,ReadsAll s.heap us ds as
  | _,_,_,.nil,.nil => ⟨_,.nil⟩
  | _,_,_,.cons h t,.cons r rs => by
    obtain ⟨as,h1⟩ := eO I h r
    obtain ⟨bs,h2⟩ := fm I t rs
    exact ⟨_,.cons h1 h2⟩
end
noncomputable def rEqD (K:PySem.W.Frag) (A:Around) (neg : Bool) : R2 := fun x y H Q => ∃ d e,Den K H x d ∧ Den K H y e ∧ d.canLay0 = true ∧ e.canLay0 = true ∧ A.units + min d.depth e.depth < cLine ∧ Q (.bl (if neg then !PyData.eqv d e else PyData.eqv d e)) H
theorem sF : OpR X (compareOp .Eq) (rEqD X.K X.A false) :=by
  intro pins s σ H x y v u Q I rx ry h
  obtain ⟨d,e,hd,he,cd,ce,hu,q⟩ := h
  obtain ⟨as,ra⟩ := eO I hd rx
  obtain ⟨bs,rb⟩ := eO I he ry
  exact SeqAt.compareEq_reads ra rb cd ce hu ⟨.bl _,H,I,rfl,q⟩
theorem sC : OpR X (compareOp .NotEq) (rEqD X.K X.A true) :=by
  intro pins s σ H x y v u Q I rx ry h
  obtain ⟨d,e,hd,he,cd,ce,hu,q⟩ := h
  obtain ⟨as,ra⟩ := eO I hd rx
  obtain ⟨bs,rb⟩ := eO I he ry
  exact SeqAt.compareNe_reads ra rb cd ce hu ⟨.bl _,H,I,rfl,q⟩
end
end L2
namespace L2
open PySem PySem.Spec PyProof.Rows
section
variable {X:Cx}{pins : List (Addr × Obj)}{σ : St}{H:Hp}{s:Shared}
end
section
variable {P:Program}{w:World}{K:PySem.W.Frag}{mg : Str → Option Value}{base : Heap}{N:List Str}{qual : Str}{scope : Scope}{f:Addr}{cd : Value}{A:Around}{outer : List Env}{s:Shared}{H:Hp}{E:XK}
end
end L2
namespace L2
open PySem PySem.Spec PyProof.Rows
section
variable {X:Cx}{tg : Expr}
end
section
variable {X:Cx}
theorem sl_str : SlR X (fun x lo hi H Q => ∃ z,x = .str z ∧ z.length ≤ sizeLine ∧ Q (.str (StrLaws.sliceText z lo hi)) H) :=by
  intro pins s σ H x v vl vu lo hi sl Q I rx hs pl pu h
  obtain ⟨z,rfl,hz,q⟩ := h
  obtain ⟨t,rfl⟩ := rx
  have part : ∀ {v:Value}{o:Option Int},IsPart v o → ∃ p : Option (Int × Tok),v = partValue p ∧ p.map (·.1) = o := fun {v o} h => by
    cases h with
    | none => exact ⟨none,rfl,rfl⟩
    | int i t => exact ⟨some (i,t),rfl,rfl⟩
  obtain ⟨l,rfl,el⟩ := part pl
  obtain ⟨u,rfl,eu⟩ := part pu
  refine ⟨"str",_,slot_str_getitem.lookup,typeIs_str s z t,?_⟩
  obtain ⟨o,h1,h2,h3⟩ := hs
  refine wpAny_getItem_str_slice (l := l) (u := u) (st := none) ⟨o,h1,h2,h3⟩ rfl ?_
  subst el eu
  unfold sliceMade slicePicked
  unfold StrLaws.sliceText at q
  simp only [Option.map_none,Option.getD_none]
  split
  · rename_i hc
    rw [if_pos hc] at q
    exact ⟨.str z,H,I,⟨t,rfl⟩,q⟩
  · rename_i hc
    rw [if_neg hc] at q
    refine ⟨?_,.str _,H,I.tok _,⟨_,rfl⟩,q⟩
    show ((_:List Nat).toArray).size ≤ sizeLine
    rw [List.size_toArray]
    exact Nat.le_trans (List.length_filterMap_le _ _) (Nat.le_trans (sliceIndices_le _ _ _) hz)
theorem kH : CallR X (.type "int") (fun xs H Q => ∃ (z:Str) (n:Int),xs = [.str z] ∧ PySem.intText? z = some n ∧ z.length ≤ 640 ∧ Q (.int n) H) :=by
  intro pins s σ H xs us Q I r h
  obtain ⟨z,n,rfl,hn,hl,q⟩ := h
  obtain ⟨u,rfl,t,rfl⟩ := vals1 r
  exact PySem.W.KIN.call_text hn hl ⟨.int n,H,I.tok _,⟨_,rfl⟩,q⟩
theorem op_mul_str : OpR X (binaryOp .Mult) (fun x y H Q => ∃ (z:Str) (n:Int),x = .str z ∧ y = .int n ∧ MulOk z n ∧ Q (.str (Txt.mul z n)) H) :=by
  intro pins s σ H x y v u Q I rx ry h
  obtain ⟨z,n,rfl,rfl,ho,q⟩ := h
  obtain ⟨t,rfl⟩ := rx
  obtain ⟨t',rfl⟩ := ry
  exact SB.mul ho fun t' k => ⟨.str _,H,I.tok k,⟨_,rfl⟩,q⟩
end
section
variable {X:Cx}{C:Addr}{E:XK}{x:Str}{np cpos pos : Pos}{a:Expr}{es : List Expr}{t:TA}
end
end L2
namespace L2
open PySem PySem.Spec PyProof.Rows
noncomputable def excO (ea : Addr) (cls : Value) : HO := .ext fun h => ∃ o vs,h.get? ea = some o ∧ o.cls = cls ∧ o.data = .fields vs
section
variable {X:Cx}{pins : List (Addr × Obj)}{σ : St}{H:Hp}{s:Shared}{pn : List (Addr × Obj)}{xe : Value → Shared → Prop}
end
section
variable {X:Cx}{CX : CXT}{k:Nat}{f C : Addr}{fd : FuncData}{ps : List Str}{sp : Sp}{dvs : List V}{ds : List Value}{Z:St → XK}{x m : Str}{p pos apos : Pos}{e o : Expr}{es : List Expr}{ta : TE}{t:TA}
end
section
variable {X:Cx}{x:Str}{C:Value}{body suite : List Stmt}{b0 : Stmt}{np hpos pos : Pos}{tb : (St → XK) → TS}{ts : TS}
end
section
variable {P:Program}{w:World}{K:PySem.W.Frag}{mg : Str → Option Value}{base : Heap}
end
end L2
namespace L2
open PySem PySem.Spec PyProof.Rows
section
variable {X:Cx}
end
end L2
namespace L2
open PySem PySem.Spec PyProof.Rows
section
variable {X:Cx}
end
section
variable {X:Cx}
end
end L2
set_option maxHeartbeats 1000000
namespace L2
open PySem PySem.Spec PyProof.Rows PySem.W
section
variable {prog : Program}{w:World}{A:Around}{E:Value → Shared → Prop}{h:Heap}{g:Array GenState}{d:Drawn}{t:Nat}{os : OsState}{a C : Addr}{o:Obj}{K:PySem.W.Frag}
end
section
variable {X:Cx}
end
end L2
set_option maxHeartbeats 1000000
namespace L2
open PySem PySem.Spec PyProof.Rows PySem.W
section
variable {X:Cx}{pins : List (Addr × Obj)}{σ : St}{H:Hp}{s:Shared}
end
section
variable {X:Cx}{x n : Str}{C:Value}{body suite : List Stmt}{b0 : Stmt}{np hpos pos : Pos}{tb : (St → XK) → TS}{ts : TS}{i:Nat}
end
end L2
set_option maxHeartbeats 1000000
namespace L2
open PySem PySem.Spec PyProof.Rows
section
variable {X:Cx}
end
section
variable {X:Cx}
end
end L2
namespace L2
open PySem
end L2
set_option maxHeartbeats 1000000
namespace L2
open PySem PySem.Spec PyProof.Rows
open Sem (wp)
open Builtin
section
variable {prog : Program}{w:World}{A:Around}{E:Value → Shared → Prop}{s:Shared}
end
section
variable {prog : Program}{w:World}{A:Around}{E:Value → Shared → Prop}{s:Shared}
end
section
variable {X:Cx}
noncomputable def rFind : V → List V → Hp → VK → Prop := fun x vs H Q => ∃ (a b : Str),x = .str a ∧ vs = [.str b] ∧ Q (.int (Txt.find a b)) H
theorem qD : MtM X "str.find" rFind :=by
  intro pins s σ H x vs v us Q I rx rv h
  obtain ⟨a,b,rfl,rfl,q⟩ := h
  obtain ⟨t,rfl⟩ := rx
  obtain ⟨u,rfl,ru⟩ := rv.one
  obtain ⟨tb,rfl⟩ := ru
  exact call_gives F.slot_str_find (typeIs_str _ _ _) F.entry_str_find (F.args_str_find_2 _ _) (gives_str_find a b t tb) ⟨.int (Txt.find a b),H,I.tok _,⟨_,rfl⟩,q⟩
end
end L2
set_option maxHeartbeats 2000000
namespace L2
open PySem PySem.Spec PyProof.Rows
open Sem (wp)
open Builtin
noncomputable def SeqAt (h:Heap) (T:String) (l:Addr) (its : Array Value) : Prop := (T = "list_iterator" ∧ h.IsList l its) ∨ (T = "tuple_iterator" ∧ h.IsTuple l its)
section
variable {prog : Program}{w:World}{A:Around}{E:Value → Shared → Prop}{s:Shared}
end
section
variable {prog : Program}{w:World}{A:Around}{E:Value → Shared → Prop}{s:Shared}
end
end L2
set_option maxHeartbeats 2000000
namespace L2
open PySem PySem.Spec PyProof.Rows
section
variable {X:Cx}{pins : List (Addr × Obj)}{σ : St}{H:Hp}{s:Shared}{a:Addr}{xs ys : List V}{k:Bool}
end
section
variable {X:Cx}
end
end L2
set_option maxHeartbeats 2000000
namespace L2
open PySem PySem.Spec PyProof.Rows
open Builtin
section
variable {prog : Program}{w:World}{A:Around}{E:Value → Shared → Prop}
end
section
variable {X:Cx}
end
end L2
namespace L2
open PySem PySem.Spec PyProof.Rows
section
variable {X:Cx}
variable {o e : Expr}{es : List Expr}{to : TE}{t:TA}{name : Str}{apos cpos : Pos}{id : String}{r:V → List V → Hp → VK → Prop}
end
end L2
set_option maxHeartbeats 2000000
namespace L2
open PySem PySem.Spec PyProof.Rows
section
variable {X:Cx}
noncomputable def qa : V → List V → Hp → VK → Prop := fun x vs H Q => ∃ l xs i y,x = .ref l ∧ vs = [.int i,y] ∧ H l = some (.lst xs) ∧ 0 ≤ i ∧ i ≤ xs.length ∧ xs.length < sizeLine ∧ Q .non (upd H l (.lst (xs.take i.toNat ++ [y] ++ xs.drop i.toNat)))
theorem Vals.take' : ∀ {xs : List V}{us : List Value} (n:Nat),Vals xs us → Vals (xs.take n) (us.take n)
  | _,_,0,_ => by rw [List.take_zero,List.take_zero]; exact .nil
  | _,_,_ + 1,.nil => .nil
  | _,_,n + 1,.cons r t => .cons r (Vals.take' n t)
theorem Vals.drop' : ∀ {xs : List V}{us : List Value} (n:Nat),Vals xs us → Vals (xs.drop n) (us.drop n)
  | _,_,0,h => h
  | _,_,_ + 1,.nil => .nil
  | _,_,n + 1,.cons _ t => Vals.drop' n t
theorem nP : MtM X "list.insert" qa :=by
  intro pins s σ H x vs v us Q I rx rv h
  obtain ⟨l,xs,i,y,rfl,rfl,hH,h0,h1,hz,q⟩ := h
  cases rx
  obtain ⟨u,w,rfl,ru,rw'⟩ := rv.two
  obtain ⟨t,rfl⟩ := ru
  obtain ⟨z,its,n,r,hl,e⟩ := I.lstM hH
  have zl : its.length = xs.length := r.length.symm
  have sl : sizeLine < 2 ^ 62 :=by decide
  refine call_meets F.slot_list_insert ⟨_,e,rfl⟩ F.entry_list_insert (F.args_list_insert_3 _ _ _) (AutoSeq1.list_insert_list_int_val_1 l its.toArray n i t w (by rw [fitsIndex_both (by omega) (by omega)]; simp) (by rw [List.size_toArray]; omega)) ⟨e,?_⟩
  refine ⟨.non,_,I.lset (its' := its.take i.toNat ++ [w] ++ its.drop i.toNat) hH e ?_ (((r.take' i.toNat).append (.cons rw' .nil)).append (r.drop' i.toNat)) ?_,rfl,q⟩
  · have k : (if i < 0 then (i + ((its.toArray.size : Nat) : Int)).toNat else min i.toNat its.toArray.size) = i.toNat :=by
      rw [if_neg (by omega),List.size_toArray]; omega
    show ((its.toArray.extract 0 (if i < 0 then (i + ((its.toArray.size : Nat) : Int)).toNat else min i.toNat its.toArray.size)).push w ++ its.toArray.extract (if i < 0 then (i + ((its.toArray.size : Nat) : Int)).toNat else min i.toNat its.toArray.size)) = _
    rw [k]
    simp [List.extract_eq_drop_take]
    exact List.take_of_length_le (by rw [List.length_drop]; exact Nat.le_refl _)
  · rw [List.length_append,List.length_append,List.length_take,List.length_drop]
    show min i.toNat xs.length + 1 + (xs.length - i.toNat) ≤ sizeLine
    omega
end
end L2
set_option maxHeartbeats 1000000
namespace L2
open PySem PySem.Spec PyProof.Rows
inductive W where
  | ty (n:String) | exc (c:Str) | cls (c:Str) | non | bl (b:Bool) | int (i:Int) | str (x:Str)
  | tup (l:List W) | tl (l:List W) | cl (l:List W) | dv (ks : List Key) (ws : List W) | loc (k:Nat)
inductive Ob where
  | lst (l:List W) | dic (ks : List Key) (ws : List W) | ins (c:Str) (ns : List Str) (ws : List W) | gone
structure Wo where
  mu : Nat → Addr
  h : List Ob
  H : Hp
noncomputable def Lv (o:Wo) (a:Addr) : Prop := ∃ k b,o.h[k]? = some b ∧ b ≠ .gone ∧ o.mu k = a
noncomputable def FrL (K:PySem.W.Frag) (a:Addr) (xs : List V) : Prop := ∃ (o:Obj) (its : Array Value) (n:Nat),K.lookup a = some o ∧ o.cls = .type "list" ∧ o.dict = none ∧ o.data = .seq its n ∧ its.size ≤ sizeLine ∧ Vals xs its.toList
mutual
noncomputable def Rv (K:PySem.W.Frag) (o:Wo) : W → V → Prop
  | .ty n,v => v = .ty n
  | .exc c,v => ∃ a C,v = .ref a ∧ PySem.W.nsIn K mainGlobals c = some (some (.ref C)) ∧ o.H a = some (excO a (.ref C))
  | .cls c,v => ∃ C,v = .ref C ∧ PySem.W.nsIn K mainGlobals c = some (some (.ref C))
  | .non,v => v = .non
  | .bl b,v => v = .bl b
  | .int i,v => v = .int i
  | .str x,v => v = .str x
  | .tup l,v => ∃ a vs,v = .ref a ∧ SqT K o.H a vs ∧ Rvs K o l vs
  | .tl l,v => ∃ a vs,v = .ref a ∧ o.H a = some (.lst vs) ∧ ¬ Lv o a ∧ Rvs K o l vs
  | .cl l,v => ∃ a vs,v = .ref a ∧ ((Rd o.H a (.lst vs) ∧ ¬ Lv o a) ∨ FrL K a vs) ∧ Rvs K o l vs
  | .dv ks ws,v => ∃ a kvs,v = .ref a ∧ Rd o.H a (.dK kvs) ∧ ¬ Lv o a ∧ kvs.map (·.1) = ks ∧ Rvs K o ws (kvs.map (·.2))
  | .loc k,v => k < o.h.length ∧ v = .ref (o.mu k)
noncomputable def Rvs (K:PySem.W.Frag) (o:Wo) : List W → List V → Prop
  | [],vs => vs = []
  | w :: l,vs => ∃ v r,vs = v :: r ∧ Rv K o w v ∧ Rvs K o l r
end
noncomputable def Ro (K:PySem.W.Frag) (o:Wo) (a:Addr) : Ob → Prop
  | .lst l => ∃ vs,o.H a = some (.lst vs) ∧ Rvs K o l vs
  | .dic ks ws => ∃ kvs,o.H a = some (.dK kvs) ∧ kvs.map (·.1) = ks ∧ Rvs K o ws (kvs.map (·.2))
  | .ins c ns ws => ∃ C dx fs,PySem.W.nsIn K mainGlobals c = some (some (.ref C)) ∧ o.H a = some (.ins C dx fs) ∧ fs.map (·.1) = ns ∧ Rvs K o ws (fs.map (·.2))
  | .gone => True
structure Rel (K:PySem.W.Frag) (o:Wo) : Prop where
  ob : ∀ k b,o.h[k]? = some b → Ro K o (o.mu k) b
  inj : ∀ j k b c,o.h[j]? = some b → o.h[k]? = some c → b ≠ .gone → c ≠ .gone → o.mu j = o.mu k → j = k
structure Ex (o p : Wo) : Prop where
  le : o.h.length ≤ p.h.length
  mu : ∀ k,k < o.h.length → p.mu k = o.mu k
  fr : ∀ a u,o.H a = some u → ¬ Lv o a → p.H a = some u ∧ ¬ Lv p a
theorem Ex.refl (o:Wo) : Ex o o := ⟨Nat.le_refl _,fun _ _ => rfl,fun _ _ h n => ⟨h,n⟩⟩
theorem Ex.trans {o p q : Wo} (a:Ex o p) (b:Ex p q) : Ex o q := ⟨Nat.le_trans a.le b.le,fun k h => (b.mu k (Nat.lt_of_lt_of_le h a.le)).trans (a.mu k h),fun c u h n => let ⟨h1,n1⟩ := a.fr c u h n; b.fr c u h1 n1⟩
section
variable {K:PySem.W.Frag}{o p : Wo}
theorem Lv.kind (R:Rel K o) {a:Addr} (h:Lv o a) : (∃ vs,o.H a = some (.lst vs)) ∨ (∃ kvs,o.H a = some (.dK kvs)) ∨ ∃ C dx fs,o.H a = some (.ins C dx fs) :=by
  obtain ⟨k,b,hk,hb,rfl⟩ := h
  have q := R.ob k b hk
  cases b with
  | lst l => exact .inl (let ⟨vs,e,_⟩ := q; ⟨vs,e⟩)
  | dic ks ws => exact .inr (.inl (let ⟨vs,e,_⟩ := q; ⟨vs,e⟩))
  | ins c ns ws => exact .inr (.inr (let ⟨C,dx,fs,_,e,_⟩ := q; ⟨C,dx,fs,e⟩))
  | gone => exact absurd rfl hb
theorem Ex.keep (X:Ex o p) (R:Rel K o) {a:Addr}{u:HO} (h:o.H a = some u) (n1 : ∀ vs,u ≠ .lst vs) (n2 : ∀ kvs,u ≠ .dK kvs) (n3 : ∀ C dx fs,u ≠ .ins C dx fs) : p.H a = some u :=by
  refine (X.fr a u h fun l => ?_).1
  rcases l.kind R with ⟨vs,e⟩ | ⟨vs,e⟩ | ⟨C,dx,fs,e⟩
  · rw [h] at e; exact n1 vs (Option.some.inj e)
  · rw [h] at e; exact n2 vs (Option.some.inj e)
  · rw [h] at e; exact n3 C dx fs (Option.some.inj e)
theorem Ex.rdT (X:Ex o p) (R:Rel K o) {a:Addr}{vs : List V} (h:SqT K o.H a vs) : SqT K p.H a vs :=by
  rcases h with (h | ⟨ob,h⟩) | h
  · exact .inl (.inl (X.keep R h (fun _ z => nomatch z) (fun _ z => nomatch z) fun _ _ _ z => nomatch z))
  · exact .inl (.inr ⟨ob,X.keep R h (fun _ z => nomatch z) (fun _ z => nomatch z) fun _ _ _ z => nomatch z⟩)
  · exact .inr h
theorem Ex.rd (X:Ex o p) {a:Addr}{u:HO} (h:Rd o.H a u) (n:¬ Lv o a) : Rd p.H a u ∧ ¬ Lv p a :=by
  rcases h with h | ⟨ob,h⟩
  · exact ⟨.inl (X.fr a _ h n).1,(X.fr a _ h n).2⟩
  · exact ⟨.inr ⟨ob,(X.fr a _ h n).1⟩,(X.fr a _ h n).2⟩
mutual
theorem Rv.mono (R:Rel K o) (X:Ex o p) : ∀ (w:W) (v:V),Rv K o w v → Rv K p w v
  | .ty n,v,h => h
  | .exc c,v,h => by
    unfold Rv at h ⊢
    obtain ⟨a,C,e,h1,h2⟩ := h
    exact ⟨a,C,e,h1,X.keep R h2 (fun _ z => nomatch z) (fun _ z => nomatch z) fun _ _ _ z => nomatch z⟩
  | .cls c,v,h => by
    unfold Rv at h ⊢
    exact h
  | .non,v,h => h
  | .bl b,v,h => h
  | .int i,v,h => h
  | .str x,v,h => h
  | .tup l,v,h => by
    unfold Rv at h ⊢
    obtain ⟨a,vs,e,h1,h2⟩ := h
    exact ⟨a,vs,e,X.rdT R h1,Rvs.mono R X l vs h2⟩
  | .tl l,v,h => by
    unfold Rv at h ⊢
    obtain ⟨a,vs,e,h1,n,h2⟩ := h
    exact ⟨a,vs,e,(X.fr a _ h1 n).1,(X.fr a _ h1 n).2,Rvs.mono R X l vs h2⟩
  | .cl l,v,h => by
    unfold Rv at h ⊢
    obtain ⟨a,vs,e,h1,h2⟩ := h
    refine ⟨a,vs,e,?_,Rvs.mono R X l vs h2⟩
    rcases h1 with ⟨h1,n⟩ | h1
    · exact .inl (X.rd h1 n)
    · exact .inr h1
  | .dv ks ws,v,h => by
    unfold Rv at h ⊢
    obtain ⟨a,vs,e,h1,n,h2,h3⟩ := h
    exact ⟨a,vs,e,(X.rd h1 n).1,(X.rd h1 n).2,h2,Rvs.mono R X ws _ h3⟩
  | .loc k,v,h => by
    unfold Rv at h ⊢
    exact ⟨Nat.lt_of_lt_of_le h.1 X.le,by rw [X.mu k h.1]; exact h.2⟩
theorem Rvs.mono (R:Rel K o) (X:Ex o p) : ∀ (l:List W) (vs : List V),Rvs K o l vs → Rvs K p l vs
  | [],vs,h => h
  | w :: l,vs,h => by
    unfold Rvs at h ⊢
    obtain ⟨v,r,e,h1,h2⟩ := h
    exact ⟨v,r,e,Rv.mono R X w v h1,Rvs.mono R X l r h2⟩
end
theorem Rel.keep (R:Rel K o) (X:Ex o p) (e1 : p.h = o.h) (e2 : p.mu = o.mu) (e3 : ∀ k b,o.h[k]? = some b → b ≠ .gone → p.H (o.mu k) = o.H (o.mu k)) : Rel K p :=by
  refine ⟨fun k b hk => ?_,fun j k b c h1 h2 => ?_⟩
  · rw [e1] at hk
    rw [e2]
    have q := R.ob k b hk
    cases b with
    | lst l => obtain ⟨vs,h1,h2⟩ := q; exact ⟨vs,by rw [e3 k _ hk (by simp)]; exact h1,h2.mono R X⟩
    | dic ks ws => obtain ⟨vs,h1,h2,h3⟩ := q; exact ⟨vs,by rw [e3 k _ hk (by simp)]; exact h1,h2,h3.mono R X⟩
    | ins c ns ws => obtain ⟨C,dx,fs,h0,h1,h2,h3⟩ := q; exact ⟨C,dx,fs,h0,by rw [e3 k _ hk (by simp)]; exact h1,h2,h3.mono R X⟩
    | gone => trivial
  · rw [e1] at h1 h2
    rw [e2]
    exact R.inj j k b c h1 h2
theorem Lv.there (R:Rel K o) {a:Addr} (h:Lv o a) : o.H a ≠ none :=by
  rcases h.kind R with ⟨vs,e⟩ | ⟨vs,e⟩ | ⟨C,dx,fs,e⟩ <;> (rw [e]; simp)
theorem Ex.new {q:Addr}{u:HO} (h:o.H q = none) : Ex o ⟨o.mu,o.h,upd o.H q u⟩ :=by
  refine ⟨Nat.le_refl _,fun _ _ => rfl,fun a w e n => ⟨?_,n⟩⟩
  show upd o.H q u a = some w
  rw [aX (cE e h)]; exact e
theorem Rel.new (R:Rel K o) {q:Addr}{u:HO} (h:o.H q = none) : Rel K ⟨o.mu,o.h,upd o.H q u⟩ :=by
  refine R.keep (Ex.new h) rfl rfl fun k b hk hb => ?_
  have l : Lv o (o.mu k) := ⟨k,b,hk,hb,rfl⟩
  show upd o.H q u (o.mu k) = _
  rw [aX fun z => l.there R (by rw [z]; exact h)]
noncomputable def Wo.add (o:Wo) (q:Addr) (b:Ob) (u:HO) : Wo := ⟨fun k => if k = o.h.length then q else o.mu k,o.h ++ [b],upd o.H q u⟩
theorem Ex.add {q:Addr}{b:Ob}{u:HO} (h:o.H q = none) : Ex o (o.add q b u) :=by
  refine ⟨by show _ ≤ (o.h ++ [b]).length; simp,fun k hk => ?_,fun a w e n => ⟨?_,fun l => ?_⟩⟩
  · show (if k = o.h.length then q else o.mu k) = _
    rw [if_neg (by omega)]
  · show upd o.H q u a = some w
    rw [aX (cE e h)]; exact e
  · obtain ⟨k,c,hk,hc,ha⟩ := l
    have ha : (if k = o.h.length then q else o.mu k) = a := ha
    have hk : (o.h ++ [b])[k]? = some c := hk
    by_cases z : k = o.h.length
    · rw [if_pos z] at ha
      exact absurd ha.symm (cE e h)
    · rw [if_neg z] at ha
      have hl : k < o.h.length :=by
        have := (List.getElem?_eq_some_iff.mp hk).1
        rw [List.length_append,List.length_singleton] at this
        omega
      rw [List.getElem?_append_left hl] at hk
      exact n ⟨k,c,hk,hc,ha⟩
theorem Rel.add (R:Rel K o) {q:Addr}{b:Ob}{u:HO} (h:o.H q = none) (hb : Ro K (o.add q b u) q b) : Rel K (o.add q b u) :=by
  have X : Ex o (o.add q b u) := Ex.add h
  have old : ∀ {k:Nat}{c:Ob},(o.add q b u).h[k]? = some c → k ≠ o.h.length → o.h[k]? = some c ∧ (o.add q b u).mu k = o.mu k := fun {k c} hk z => by
    have hk : (o.h ++ [b])[k]? = some c := hk
    have hl : k < o.h.length :=by
      have := (List.getElem?_eq_some_iff.mp hk).1
      rw [List.length_append,List.length_singleton] at this
      omega
    rw [List.getElem?_append_left hl] at hk
    exact ⟨hk,X.mu k hl⟩
  have new : ∀ {k:Nat}{c:Ob},(o.add q b u).h[k]? = some c → k = o.h.length → c = b ∧ (o.add q b u).mu k = q := fun {k c} hk z => by
    subst z
    have hk : (o.h ++ [b])[o.h.length]? = some c := hk
    rw [List.getElem?_append_right (Nat.le_refl _),Nat.sub_self] at hk
    exact ⟨(Option.some.inj hk).symm,if_pos rfl⟩
  have ne : ∀ {k:Nat}{c:Ob},o.h[k]? = some c → c ≠ .gone → o.mu k ≠ q := fun {k c} hk hc z => Lv.there R ⟨k,c,hk,hc,rfl⟩ (by rw [z]; exact h)
  refine ⟨fun k c hk => ?_,fun j k c d h1 h2 n1 n2 e => ?_⟩
  · by_cases z : k = o.h.length
    · obtain ⟨rfl,e⟩ := new hk z
      rw [e]; exact hb
    · obtain ⟨hk,e⟩ := old hk z
      rw [e]
      have r := R.ob k c hk
      have st : ∀ {w:HO},c ≠ .gone → o.H (o.mu k) = some w → (o.add q b u).H (o.mu k) = some w := fun {w} hc e => by
        show upd o.H q u (o.mu k) = some w
        rw [aX (ne hk hc)]; exact e
      cases c with
      | lst l => obtain ⟨vs,h1,h2⟩ := r; exact ⟨vs,st (by simp) h1,h2.mono R X⟩
      | dic ks ws => obtain ⟨vs,h1,h2,h3⟩ := r; exact ⟨vs,st (by simp) h1,h2,h3.mono R X⟩
      | ins c ns ws => obtain ⟨C,dx,fs,h0,h1,h2,h3⟩ := r; exact ⟨C,dx,fs,h0,st (by simp) h1,h2,h3.mono R X⟩
      | gone => trivial
  · by_cases z1 : j = o.h.length
    · by_cases z2 : k = o.h.length
      · omega
      · obtain ⟨_,e1⟩ := new h1 z1
        obtain ⟨hk,e2⟩ := old h2 z2
        rw [e1,e2] at e
        exact absurd e.symm (ne hk n2)
    · obtain ⟨hj,e1⟩ := old h1 z1
      by_cases z2 : k = o.h.length
      · obtain ⟨_,e2⟩ := new h2 z2
        rw [e1,e2] at e
        exact absurd e (ne hj n1)
      · obtain ⟨hk,e2⟩ := old h2 z2
        rw [e1,e2] at e
        exact R.inj j k c d hj hk n1 n2 e
theorem Rel.addL (R:Rel K o) {q:Addr}{l:List W}{vs : List V} (h:o.H q = none) (hl : Rvs K o l vs) : Rel K (o.add q (.lst l) (.lst vs)) := R.add h ⟨vs,cn,hl.mono R (Ex.add h)⟩
theorem Rel.addD (R:Rel K o) {q:Addr}{ks : List Key}{ws : List W}{kvs : List (Key × V)} (h:o.H q = none) (hk : kvs.map (·.1) = ks) (hl : Rvs K o ws (kvs.map (·.2))) : Rel K (o.add q (.dic ks ws) (.dK kvs)) := R.add h ⟨kvs,cn,hk,hl.mono R (Ex.add h)⟩
noncomputable def Wo.put (o:Wo) (k:Nat) (b:Ob) (u:HO) : Wo := ⟨o.mu,o.h.set k b,upd o.H (o.mu k) u⟩
theorem Lv.put {k:Nat}{b c : Ob}{u:HO}{a:Addr} (hk : o.h[k]? = some c) (hc : c ≠ .gone) (h:Lv (o.put k b u) a) : Lv o a :=by
  obtain ⟨j,d,hj,hd,rfl⟩ := h
  have hj : (o.h.set k b)[j]? = some d := hj
  by_cases z : j = k
  · subst z; exact ⟨j,c,hk,hc,rfl⟩
  · rw [List.getElem?_set_ne (Ne.symm z)] at hj
    exact ⟨j,d,hj,hd,rfl⟩
theorem Ex.put {k:Nat}{b c : Ob}{u:HO} (hk : o.h[k]? = some c) (hc : c ≠ .gone) : Ex o (o.put k b u) :=by
  refine ⟨by show _ ≤ (o.h.set k b).length; simp,fun _ _ => rfl,fun a w e n => ⟨?_,fun l => n (l.put hk hc)⟩⟩
  show upd o.H (o.mu k) u a = some w
  rw [aX fun z => n ⟨k,c,hk,hc,z.symm⟩]; exact e
theorem Rel.put (R:Rel K o) {k:Nat}{b c : Ob}{u:HO} (hk : o.h[k]? = some c) (hc : c ≠ .gone) (hb : Ro K (o.put k b u) (o.mu k) b) : Rel K (o.put k b u) :=by
  have X : Ex o (o.put k b u) := Ex.put hk hc
  have old : ∀ {j:Nat}{d:Ob},(o.put k b u).h[j]? = some d → j ≠ k → o.h[j]? = some d := fun {j d} hj z => by
    have hj : (o.h.set k b)[j]? = some d := hj
    rw [List.getElem?_set_ne (Ne.symm z)] at hj
    exact hj
  refine ⟨fun j d hj => ?_,fun i j d e h1 h2 n1 n2 q => ?_⟩
  · by_cases z : j = k
    · subst z
      have hl := (List.getElem?_eq_some_iff.mp hk).1
      have hj : (o.h.set j b)[j]? = some d := hj
      rw [List.getElem?_set_self hl] at hj
      cases hj
      exact hb
    · have hj := old hj z
      have r := R.ob j d hj
      have st : ∀ {w:HO},d ≠ .gone → o.H (o.mu j) = some w → (o.put k b u).H (o.mu j) = some w := fun {w} hd e => by
        show upd o.H (o.mu k) u (o.mu j) = some w
        rw [aX fun q => z (R.inj j k d c hj hk hd hc q)]; exact e
      cases d with
      | lst l => obtain ⟨vs,h1,h2⟩ := r; exact ⟨vs,st (by simp) h1,h2.mono R X⟩
      | dic ks ws => obtain ⟨vs,h1,h2,h3⟩ := r; exact ⟨vs,st (by simp) h1,h2,h3.mono R X⟩
      | ins c ns ws => obtain ⟨C,dx,fs,h0,h1,h2,h3⟩ := r; exact ⟨C,dx,fs,h0,st (by simp) h1,h2,h3.mono R X⟩
      | gone => trivial
  · have ex : ∀ {j:Nat}{d:Ob},(o.put k b u).h[j]? = some d → d ≠ .gone → ∃ d',o.h[j]? = some d' ∧ d' ≠ .gone := fun {j d} hj n => by
      by_cases z : j = k
      · subst z; exact ⟨c,hk,hc⟩
      · exact ⟨d,old hj z,n⟩
    obtain ⟨d',h1',n1'⟩ := ex h1 n1
    obtain ⟨e',h2',n2'⟩ := ex h2 n2
    exact R.inj i j d' e' h1' h2' n1' n2' q
theorem Rel.putL (R:Rel K o) {k:Nat}{c:Ob}{l:List W}{vs : List V} (hk : o.h[k]? = some c) (hc : c ≠ .gone) (hl : Rvs K o l vs) : Rel K (o.put k (.lst l) (.lst vs)) := R.put hk hc ⟨vs,cn,hl.mono R (Ex.put hk hc)⟩
theorem Rel.putD (R:Rel K o) {k:Nat}{c:Ob}{ks : List Key}{ws : List W}{kvs : List (Key × V)} (hk : o.h[k]? = some c) (hc : c ≠ .gone) (h1 : kvs.map (·.1) = ks) (hl : Rvs K o ws (kvs.map (·.2))) : Rel K (o.put k (.dic ks ws) (.dK kvs)) := R.put hk hc ⟨kvs,cn,h1,hl.mono R (Ex.put hk hc)⟩
noncomputable def Wo.ice (o:Wo) (k:Nat) : Wo := ⟨o.mu,o.h.set k .gone,o.H⟩
theorem Lv.ice {k:Nat}{a:Addr} (h:Lv (o.ice k) a) : ∃ j b,j ≠ k ∧ o.h[j]? = some b ∧ b ≠ .gone ∧ o.mu j = a :=by
  obtain ⟨j,d,hj,hd,e⟩ := h
  have hj : (o.h.set k .gone)[j]? = some d := hj
  by_cases z : j = k
  · subst z
    have hl := (List.getElem?_eq_some_iff.mp hj).1
    rw [List.length_set] at hl
    rw [List.getElem?_set_self hl] at hj
    cases hj
    exact absurd rfl hd
  · rw [List.getElem?_set_ne (Ne.symm z)] at hj
    exact ⟨j,d,z,hj,hd,e⟩
theorem Ex.ice {k:Nat} : Ex o (o.ice k) :=by
  refine ⟨by show _ ≤ (o.h.set k .gone).length; simp,fun _ _ => rfl,fun a w e n => ⟨e,fun l => ?_⟩⟩
  obtain ⟨j,b,_,h1,h2,h3⟩ := l.ice
  exact n ⟨j,b,h1,h2,h3⟩
theorem Rel.ice (R:Rel K o) {k:Nat} : Rel K (o.ice k) :=by
  have X : Ex o (o.ice k) := Ex.ice
  have old : ∀ {j:Nat}{d:Ob},(o.ice k).h[j]? = some d → d ≠ .gone → o.h[j]? = some d := fun {j d} hj n => by
    have hj : (o.h.set k .gone)[j]? = some d := hj
    by_cases z : j = k
    · subst z
      have hl := (List.getElem?_eq_some_iff.mp hj).1
      rw [List.length_set] at hl
      rw [List.getElem?_set_self hl] at hj
      cases hj
      exact absurd rfl n
    · rw [List.getElem?_set_ne (Ne.symm z)] at hj
      exact hj
  refine ⟨fun j d hj => ?_,fun i j d e h1 h2 n1 n2 q => R.inj i j d e (old h1 n1) (old h2 n2) n1 n2 q⟩
  cases d with
  | lst l => obtain ⟨vs,h1,h2⟩ := R.ob j _ (old hj (by simp)); exact ⟨vs,h1,h2.mono R X⟩
  | dic ks ws => obtain ⟨vs,h1,h2,h3⟩ := R.ob j _ (old hj (by simp)); exact ⟨vs,h1,h2,h3.mono R X⟩
  | ins c ns ws => obtain ⟨C,dx,fs,h0,h1,h2,h3⟩ := R.ob j _ (old hj (by simp)); exact ⟨C,dx,fs,h0,h1,h2,h3.mono R X⟩
  | gone => trivial
theorem Rv.iceL (R:Rel K o) {k:Nat}{l:List W} (hk : o.h[k]? = some (.lst l)) : Rv K (o.ice k) (.tl l) (.ref (o.mu k)) :=by
  obtain ⟨vs,h1,h2⟩ := R.ob k _ hk
  unfold Rv
  refine ⟨_,vs,rfl,h1,fun z => ?_,h2.mono R Ex.ice⟩
  obtain ⟨j,b,n,q1,q2,q3⟩ := z.ice
  exact n (R.inj j k b _ q1 hk q2 (by simp) q3)
theorem Rv.iceD (R:Rel K o) {k:Nat}{ks : List Key}{ws : List W} (hk : o.h[k]? = some (.dic ks ws)) : Rv K (o.ice k) (.dv ks ws) (.ref (o.mu k)) :=by
  obtain ⟨vs,h1,h0,h2⟩ := R.ob k _ hk
  unfold Rv
  refine ⟨_,vs,rfl,.inl h1,fun z => ?_,h0,h2.mono R Ex.ice⟩
  obtain ⟨j,b,n,q1,q2,q3⟩ := z.ice
  exact n (R.inj j k b _ q1 hk q2 (by simp) q3)
theorem Rvs.len : ∀ {l:List W}{vs : List V},Rvs K o l vs → vs.length = l.length
  | [],_,h => by unfold Rvs at h; rw [h]; rfl
  | w :: l,_,h => by unfold Rvs at h; obtain ⟨v,r,rfl,_,h2⟩ := h; rw [List.length_cons,List.length_cons,Rvs.len h2]
theorem Rvs.get : ∀ {l:List W}{vs : List V}{i:Nat}{w:W},Rvs K o l vs → l[i]? = some w → ∃ v,vs[i]? = some v ∧ Rv K o w v
  | [],_,_,_,_,e => by simp at e
  | x :: l,_,0,w,h,e => by unfold Rvs at h; obtain ⟨v,r,rfl,h1,h2⟩ := h; cases e; exact ⟨v,rfl,h1⟩
  | x :: l,_,i + 1,w,h,e => by unfold Rvs at h; obtain ⟨v,r,rfl,h1,h2⟩ := h; obtain ⟨u,q1,q2⟩ := Rvs.get (l := l) (i := i) (w := w) h2 (by simpa using e); exact ⟨u,by simpa using q1,q2⟩
theorem Rvs.nil : Rvs K o [] [] :=by unfold Rvs; rfl
theorem Rvs.cons {w:W}{v:V}{l:List W}{vs : List V} (h:Rv K o w v) (t:Rvs K o l vs) : Rvs K o (w :: l) (v :: vs) :=by unfold Rvs; exact ⟨v,vs,rfl,h,t⟩
theorem Rvs.app : ∀ {l m : List W}{vs us : List V},Rvs K o l vs → Rvs K o m us → Rvs K o (l ++ m) (vs ++ us)
  | [],_,_,_,h,t => by unfold Rvs at h; rw [h]; exact t
  | w :: l,m,_,us,h,t => by unfold Rvs at h; obtain ⟨v,r,rfl,h1,h2⟩ := h; exact Rvs.cons h1 (Rvs.app h2 t)
theorem Rvs.take : ∀ {l:List W}{vs : List V} (n:Nat),Rvs K o l vs → Rvs K o (l.take n) (vs.take n)
  | [],_,n,h => by unfold Rvs at h; rw [h,List.take_nil,List.take_nil]; exact Rvs.nil
  | w :: l,_,0,h => by rw [List.take_zero,List.take_zero]; exact Rvs.nil
  | w :: l,_,n + 1,h => by unfold Rvs at h; obtain ⟨v,r,rfl,h1,h2⟩ := h; exact Rvs.cons h1 (Rvs.take n h2)
theorem Rvs.drop : ∀ {l:List W}{vs : List V} (n:Nat),Rvs K o l vs → Rvs K o (l.drop n) (vs.drop n)
  | [],_,n,h => by unfold Rvs at h; rw [h,List.drop_nil,List.drop_nil]; exact Rvs.nil
  | w :: l,_,0,h => h
  | w :: l,_,n + 1,h => by unfold Rvs at h; obtain ⟨v,r,rfl,h1,h2⟩ := h; exact Rvs.drop n h2
theorem Rvs.set {x:W}{y:V} (hx : Rv K o x y) : ∀ {l:List W}{vs : List V} (i:Nat),Rvs K o l vs → Rvs K o (l.set i x) (vs.set i y)
  | [],_,n,h => by unfold Rvs at h; rw [h]; exact Rvs.nil
  | w :: l,_,0,h => by unfold Rvs at h; obtain ⟨v,r,rfl,h1,h2⟩ := h; exact Rvs.cons hx h2
  | w :: l,_,n + 1,h => by unfold Rvs at h; obtain ⟨v,r,rfl,h1,h2⟩ := h; exact Rvs.cons h1 (Rvs.set hx n h2)
noncomputable abbrev Env' := List (Option W)
noncomputable def RvO (K:PySem.W.Frag) (o:Wo) : Option W → Option V → Prop
  | some w,s => ∃ v,s = some v ∧ Rv K o w v
  | none,s => s = none
noncomputable def Re (K:PySem.W.Frag) (o:Wo) : Env' → St → Prop
  | [],s => s = []
  | w :: r,s => ∃ x t,s = x :: t ∧ RvO K o w x ∧ Re K o r t
theorem RvO.mono (R:Rel K o) (X:Ex o p) : ∀ {w:Option W}{s:Option V},RvO K o w s → RvO K p w s
  | some w,_,⟨v,e,h⟩ => ⟨v,e,h.mono R X⟩
  | none,_,h => h
theorem Re.mono (R:Rel K o) (X:Ex o p) : ∀ {r:Env'}{s:St},Re K o r s → Re K p r s
  | [],_,h => h
  | w :: r,_,⟨x,t,e,h1,h2⟩ => ⟨x,t,e,h1.mono R X,Re.mono R X h2⟩
theorem Re.get : ∀ {r:Env'}{s:St}{i:Nat}{w:W},Re K o r s → r[i]? = some (some w) → ∃ v,s[i]? = some (some v) ∧ Rv K o w v
  | [],_,_,_,_,e => by simp at e
  | x :: r,_,0,w,⟨y,t,rfl,h1,h2⟩,e => by cases e; obtain ⟨v,rfl,q⟩ := h1; exact ⟨v,rfl,q⟩
  | x :: r,_,i + 1,w,⟨y,t,rfl,h1,h2⟩,e => by obtain ⟨u,q1,q2⟩ := Re.get (r := r) (i := i) (w := w) h2 (by simpa using e); exact ⟨u,by simpa using q1,q2⟩
theorem Re.set {w:W}{v:V} (q:Rv K o w v) : ∀ {r:Env'}{s:St} (i:Nat),Re K o r s → Re K o (r.set i (some w)) (s.set i (some v))
  | [],_,_,h => by rw [show _ = [] from h]; rfl
  | x :: r,_,0,⟨y,t,rfl,h1,h2⟩ => ⟨_,_,rfl,⟨v,rfl,q⟩,h2⟩
  | x :: r,_,i + 1,⟨y,t,rfl,h1,h2⟩ => ⟨_,_,rfl,h1,Re.set q i h2⟩
theorem Re.front : ∀ {r:Env'}{s:St} (n:Nat),Re K o r s → Re K o (List.replicate n none ++ r) (List.replicate n none ++ s)
  | _,_,0,h => h
  | _,_,n + 1,h => ⟨none,_,rfl,rfl,Re.front n h⟩
theorem Re.args : ∀ {ws : List W}{vs : List V} (n:Nat),Rvs K o ws vs → Re K o (ws.map some ++ List.replicate n none) (vs.map some ++ List.replicate n none)
  | [],_,n,h => by
    unfold Rvs at h; rw [h]
    induction n with
    | zero => rfl
    | succ n ih => exact ⟨none,_,rfl,rfl,ih⟩
  | w :: l,_,n,h => by unfold Rvs at h; obtain ⟨v,r,rfl,h1,h2⟩ := h; exact ⟨_,_,rfl,⟨v,rfl,h1⟩,Re.args n h2⟩
end
inductive Rs (α : Type) where
  | ok (a:α) (h:List Ob) | ex (c:Str) (h:List Ob) | bad
noncomputable abbrev M (α : Type) := List Ob → Rs α
noncomputable def bd {α β : Type} (f:M α) (g:α → M β) : M β := fun h => match f h with
  | .ok a h' => g a h'
  | .ex c h' => .ex c h'
  | .bad => .bad
noncomputable def pr {α : Type} (a:α) : M α := fun h => .ok a h
noncomputable def no {α : Type} : M α := fun _ => .bad
noncomputable def gd {α : Type} (p:Prop) [Decidable p] (m:M α) : M α := fun h => if p then m h else .bad
structure Cg where
  K : PySem.W.Frag
  mg : Str → Option Value
  E : XK
noncomputable def Ps {α β : Type} (c:Cg) (r:Wo → α → β → Prop) (o:Wo) (R:Rs α) (Q:β → Hp → Prop) : Prop := match R with
  | .ok a h' => ∀ p b,p.h = h' → Ex o p → Rel c.K p → r p a b → Q b p.H
  | .ex x h' => ∃ u,c.mg x = some u ∧ ∀ p,p.h = h' → Ex o p → Rel c.K p → c.E u none p.H
  | .bad => False
noncomputable def tG {α β : Type} (c:Cg) (r:Wo → α → β → Prop) (f:Env' → M α) (σ : St) (H:Hp) (Q:β → Hp → Prop) : Prop := ∃ o ρ,o.H = H ∧ Rel c.K o ∧ Re c.K o ρ σ ∧ Ps c r o (f ρ o.h) Q
noncomputable abbrev tM (c:Cg) (f:Env' → M W) : TE := tG c (Rv c.K) f
noncomputable abbrev tT (c:Cg) (f:Env' → M Bool) : TT := tG c (fun _ a b => a = b) f
noncomputable abbrev tA (c:Cg) (f:Env' → M (List W)) : TA := tG c (Rvs c.K) f
section
variable {c:Cg}{o p : Wo}{α β γ δ : Type}{r:Wo → α → β → Prop}{r2 : Wo → γ → δ → Prop}
theorem Ps.after {R:Rs α}{Q:β → Hp → Prop} (X:Ex o p) (h:Ps c r o R Q) : Ps c r p R Q :=by
  cases R with
  | ok a h' => exact fun q b e X2 Rq rq => h q b e (X.trans X2) Rq rq
  | ex x h' => obtain ⟨u,hu,h⟩ := h; exact ⟨u,hu,fun q e X2 Rq => h q e (X.trans X2) Rq⟩
  | bad => exact h
theorem Ps.bd {f:M α}{g:α → M γ}{Q:δ → Hp → Prop}{N:β → Hp → Prop} (h:Ps c r2 o (bd f g o.h) Q) (k:∀ p a b,Ex o p → Rel c.K p → r p a b → Ps c r2 p (g a p.h) Q → N b p.H) : Ps c r o (f o.h) N :=by
  unfold L2.bd at h
  cases e : f o.h with
  | ok a h' =>
    rw [e] at h
    intro p b hp X R rb
    subst hp
    exact k p a b X R rb (h.after X)
  | ex x h' =>
    rw [e] at h
    exact h
  | bad =>
    rw [e] at h
    exact h
theorem Ps.pr {a:α}{Q:β → Hp → Prop}{b:β} (h:Ps c r o (pr a o.h) Q) (R:Rel c.K o) (hb : r o a b) : Q b o.H := h o b rfl (Ex.refl _) R hb
theorem Ps.at {a:α}{h' : List Ob}{Q:β → Hp → Prop}{b:β} (h:Ps c r o (.ok a h') Q) (e:p.h = h') (X:Ex o p) (R:Rel c.K p) (hb : r p a b) : Q b p.H := h p b e X R hb
theorem Ps.gd {P:Prop} [Decidable P] {m:M α}{Q:β → Hp → Prop} (h:Ps c r o (gd P m o.h) Q) : P ∧ Ps c r o (m o.h) Q :=by
  unfold L2.gd at h
  by_cases q : P
  · rw [if_pos q] at h; exact ⟨q,h⟩
  · rw [if_neg q] at h; exact h.elim
end
end L2
set_option maxHeartbeats 1000000
namespace L2
open PySem PySem.Spec PyProof.Rows
noncomputable abbrev cg (X:Cx) (E:XK) : Cg := ⟨X.K,X.mg,E⟩
noncomputable def tF (c:Cg) (f:Env' → M (List W)) : TE := fun σ H Q => tG c (Rvs c.K) f σ H fun vs H1 => ∀ q,H1 q = none → Q (.ref q) (upd H1 q (.lst vs))
structure JE (X:Cx) (E:XK) (e:Expr) (f:Env' → M W) : Prop where
  h : PE X e (tM (cg X E) f)
structure JT (X:Cx) (E:XK) (e:Expr) (f:Env' → M Bool) : Prop where
  h : PT X e (tT (cg X E) f)
structure JW (X:Cx) (E:XK) (e:Expr) (f:Env' → M Bool) : Prop where
  h : PW X e (tT (cg X E) f)
structure JA (X:Cx) (E:XK) (es : List Expr) (f:Env' → M (List W)) : Prop where
  h : PA X es (tA (cg X E) f)
structure JF (X:Cx) (E:XK) (e:Expr) (f:Env' → M (List W)) : Prop where
  h : PE X e (tF (cg X E) f)
theorem PE.imp {X:Cx}{E:XK}{e:Expr}{t:TE}{f:Env' → M W} (h:PE X e t) (k:∀ σ H Q,tM (cg X E) f σ H Q → t σ H Q) : JE X E e f := ⟨fun pins s σ H Q I q => h pins s σ H Q I (k σ H Q q)⟩
theorem PE.impF {X:Cx}{E:XK}{e:Expr}{t:TE}{f:Env' → M (List W)} (h:PE X e t) (k:∀ σ H Q,tF (cg X E) f σ H Q → t σ H Q) : JF X E e f := ⟨fun pins s σ H Q I q => h pins s σ H Q I (k σ H Q q)⟩
theorem PT.imp {X:Cx}{E:XK}{e:Expr}{t:TT}{f:Env' → M Bool} (h:PT X e t) (k:∀ σ H Q,tT (cg X E) f σ H Q → t σ H Q) : JT X E e f := ⟨fun pins s σ H Q I q => h pins s σ H Q I (k σ H Q q)⟩
theorem PW.imp {X:Cx}{E:XK}{e:Expr}{t:TT}{f:Env' → M Bool} (h:PW X e t) (k:∀ σ H Q,tT (cg X E) f σ H Q → t σ H Q) : JW X E e f := ⟨fun w pins s σ H Q I q => h w pins s σ H Q I (k σ H Q q)⟩
theorem PA.imp {X:Cx}{E:XK}{e:List Expr}{t:TA}{f:Env' → M (List W)} (h:PA X e t) (k:∀ σ H Q,tA (cg X E) f σ H Q → t σ H Q) : JA X E e f := ⟨fun pos pins s σ H Q I q => h pos pins s σ H Q I (k σ H Q q)⟩
theorem jM {X:Cx}{E:XK}{e:Expr}{f:Env' → M Bool} (q:JW X E e f) : JT X E e f := ⟨(q.h).pt⟩
section
variable {X:Cx}{E:XK}
noncomputable def mVar (i:Nat) : Env' → M W := fun ρ => match ρ[i]? with
  | some (some w) => pr w
  | _ => no
noncomputable def mC (w:W) : Env' → M W := fun _ => pr w
theorem rL {i:Nat}{σ : St}{H:Hp}{Q:VK} (h:tM (cg X E) (mVar i) σ H Q) : tVar i σ H Q :=by
  obtain ⟨o,ρ,rfl,R,S,h⟩ := h
  unfold mVar at h
  cases e : ρ[i]? with
  | none => rw [e] at h; exact h.elim
  | some x =>
    cases x with
    | none => rw [e] at h; exact h.elim
    | some w =>
      rw [e] at h
      obtain ⟨v,e1,r⟩ := S.get e
      exact ⟨v,e1,h.pr R r⟩
theorem ae (i:Nat) {x:Str}{pos : Pos} (hN : X.N[i]? = some x :=by rfl) (hv : Vis X.env.scope x :=by first | exact Or.inl rfl | exact Or.inr (Or.inl rfl) | exact Or.inr (Or.inr rfl)) (hd : (x == ("__debug__" : Str)) = false :=by decide)
    (hcd : (x == ("__classdict__" : Str)) = false :=by decide) : JE X E (.Name x pos) (mVar i) := (pv i hN hv hd hcd).imp fun _ _ _ h => rL h
theorem nD {w:W}{v:V} (hr : ∀ o,Rv X.K o w v) {σ : St}{H:Hp}{Q:VK} (h:tM (cg X E) (mC w) σ H Q) : tC v σ H Q :=by
  obtain ⟨o,ρ,rfl,R,S,h⟩ := h
  exact Ps.pr (c := cg X E) h R (hr o)
theorem ag {i j pos} : JE X E (.Constant (.int i) j pos) (mC (.int i)) := pe_int.imp fun _ _ _ h => nD (fun o => by unfold Rv; rfl) h
theorem ja {i j pos} : JE X E (.Constant (.bool i) j pos) (mC (.bl i)) := pe_bl.imp fun _ _ _ h => nD (fun o => by unfold Rv; rfl) h
theorem av {i j pos} : JE X E (.Constant (.str i) j pos) (mC (.str i)) := pe_str.imp fun _ _ _ h => nD (fun o => by unfold Rv; rfl) h
theorem gP {j pos} : JE X E (.Constant .none j pos) (mC .non) := pe_non.imp fun _ _ _ h => nD (fun o => by unfold Rv; rfl) h
theorem kj {x:Str}{w:W}{v:V}{u:Value}{pos : Pos} (hg : Gl X x) (hm : X.mg x = some u) (r:RelV v u) (hr : ∀ o,Rv X.K o w v) (hd : (x == ("__debug__" : Str)) = false :=by decide) : JE X E (.Name x pos) (mC w) :=
  (qo hg hm r hd).imp fun _ _ _ h => nD hr h
noncomputable def m2 (f:W → W → M W) (fa fb : Env' → M W) : Env' → M W := fun ρ => bd (fa ρ) fun x => bd (fb ρ) fun y => f x y
noncomputable def OpM (X:Cx) (E:XK) (r:R2) (f:W → W → M W) : Prop := ∀ (o:Wo) (x y : W) (vx vy : V) (Q:VK),Rel X.K o → Rv X.K o x vx → Rv X.K o y vy → Ps (cg X E) (Rv X.K) o (f x y o.h) Q → r vx vy o.H Q
theorem pW {r:R2}{f:W → W → M W} (hf : OpM X E r f) {fa fb : Env' → M W}{σ : St}{H:Hp}{Q:VK} (h:tM (cg X E) (m2 f fa fb) σ H Q) : tOp r (tM (cg X E) fa) (tM (cg X E) fb) σ H Q :=by
  obtain ⟨o,ρ,rfl,R,S,h⟩ := h
  exact ⟨o,ρ,rfl,R,S,Ps.bd h fun p x vx e1 R1 r1 h1 => ⟨p,ρ,rfl,R1,S.mono R e1,Ps.bd h1 fun q y vy e2 R2 r2 h2 => hf q x y vx vy Q R2 (r1.mono R1 e2) r2 h2⟩⟩
theorem jJ {a b : Expr}{pos : Pos}{op : Operator}{r:R2}{f:W → W → M W}{fa fb : Env' → M W} (ho : OpR X (binaryOp op) r) (hf : OpM X E r f) (ha : JE X E a fa) (hb : JE X E b fb) :
    JE X E (.BinOp a op b pos) (m2 f fa fb) := (rj ho ha.h hb.h).imp fun _ _ _ h => pW hf h
theorem de {a b : Expr}{pos : Pos}{op : CmpOp}{r:R2}{f:W → W → M W}{fa fb : Env' → M W} (ho : OpR X (compareOp op) r) (hf : OpM X E r f) (ha : JE X E a fa) (hb : JE X E b fb) (hm : behindInMarks op b = false) :
    JE X E (.Compare a [op] [b] pos) (m2 f fa fb) := (qq ho ha.h hb.h hm).imp fun _ _ _ h => pW hf h
noncomputable def asB (w:W) : M Bool := match w with
  | .bl b => pr b
  | _ => no
noncomputable def mB (f:Env' → M W) : Env' → M Bool := fun ρ => bd (f ρ) asB
theorem tZ {f:Env' → M W}{σ : St}{H:Hp}{Q:Bool → Hp → Prop} (h:tT (cg X E) (mB f) σ H Q) : tM (cg X E) f σ H fun x H' => ∃ k,x = .bl k ∧ Q k H' :=by
  obtain ⟨o,ρ,rfl,R,S,h⟩ := h
  refine ⟨o,ρ,rfl,R,S,Ps.bd h fun p x vx e1 R1 r1 h1 => ?_⟩
  unfold asB at h1
  split at h1
  · rename_i b
    unfold Rv at r1
    exact ⟨b,r1,h1.pr R1 rfl⟩
  · exact h1.elim
theorem aC {a b : Expr}{pos : Pos}{op : CmpOp}{r:R2}{f:W → W → M W}{fa fb : Env' → M W} (ho : OpR X (compareOp op) r) (hf : OpM X E r f) (ha : JE X E a fa) (hb : JE X E b fb) (hm : behindInMarks op b = false) :
    JT X E (.Compare a [op] [b] pos) (mB (m2 f fa fb)) := (qe ho ha.h hb.h hm).imp fun _ _ _ h => pW hf (tZ h)
theorem dS {e:Expr}{f:Env' → M W} (h:JE X E e f) (he : ∀ whole,isTrue e X.env whole = (do let v ← whole; standAt e.pos; holding [v] (truthy v)) :=by intro _; rfl) : JT X E e (mB f) :=
  (rW h.h he).imp fun _ _ _ h => tZ h
noncomputable def mAnd (f g : Env' → M Bool) : Env' → M Bool := fun ρ => bd (f ρ) fun b => if b = true then g ρ else pr false
noncomputable def mOr (f g : Env' → M Bool) : Env' → M Bool := fun ρ => bd (f ρ) fun b => if b = true then pr true else g ρ
noncomputable def mNot (f:Env' → M Bool) : Env' → M Bool := fun ρ => bd (f ρ) fun b => pr (!b)
variable {a b : Expr}{rest : List Expr}{pos : Pos}{f g : Env' → M Bool}
theorem rH {σ : St}{H:Hp}{Q:Bool → Hp → Prop} (h:tT (cg X E) (mAnd f g) σ H Q) : tAnd (tT (cg X E) f) (tT (cg X E) g) σ H Q :=by
  obtain ⟨o,ρ,rfl,R,S,h⟩ := h
  refine ⟨o,ρ,rfl,R,S,Ps.bd h fun p x vx e1 R1 r1 h1 => ?_⟩
  subst r1
  cases x with
  | true => exact iteT ⟨p,ρ,rfl,R1,S.mono R e1,h1⟩
  | false => exact iteF (h1.pr R1 rfl)
theorem tY {σ : St}{H:Hp}{Q:Bool → Hp → Prop} (h:tT (cg X E) (mOr f g) σ H Q) : tOr (tT (cg X E) f) (tT (cg X E) g) σ H Q :=by
  obtain ⟨o,ρ,rfl,R,S,h⟩ := h
  refine ⟨o,ρ,rfl,R,S,Ps.bd h fun p x vx e1 R1 r1 h1 => ?_⟩
  subst r1
  cases x with
  | false => exact iteF ⟨p,ρ,rfl,R1,S.mono R e1,h1⟩
  | true => exact iteT (h1.pr R1 rfl)
theorem iT (ha : JT X E a f) : JT X E (.UnaryOp .Not a pos) (mNot f) := (rX ha.h).imp fun σ H Q h => by
  obtain ⟨o,ρ,rfl,R,S,h⟩ := h
  refine ⟨o,ρ,rfl,R,S,Ps.bd h fun p x vx e1 R1 r1 h1 => ?_⟩
  subst r1
  exact h1.pr R1 rfl
theorem ke (ha : JT X E a f) : JW X E (.BoolOp .And [a] pos) f := ⟨qd ha.h⟩
theorem mm (ha : JT X E a f) : JW X E (.BoolOp .Or [a] pos) f := ⟨rT ha.h⟩
theorem mn (ha : JT X E a f) (hb : JW X E (.BoolOp .And (b :: rest) pos) g) : JW X E (.BoolOp .And (a :: b :: rest) pos) (mAnd f g) := (rV ha.h hb.h).imp fun _ _ _ h => rH h
theorem oX (ha : JT X E a f) (hb : JW X E (.BoolOp .Or (b :: rest) pos) g) : JW X E (.BoolOp .Or (a :: b :: rest) pos) (mOr f g) := (uf ha.h hb.h).imp fun _ _ _ h => tY h
noncomputable def mAndV (f g : Env' → M W) : Env' → M W := fun ρ => bd (f ρ) fun w => bd (asB w) fun b => if b = true then g ρ else pr (.bl false)
noncomputable def mOrV (f g : Env' → M W) : Env' → M W := fun ρ => bd (f ρ) fun w => bd (asB w) fun b => if b = true then pr (.bl true) else g ρ
noncomputable def mNotV (f:Env' → M W) : Env' → M W := fun ρ => bd (f ρ) fun w => bd (asB w) fun b => pr (.bl (!b))
theorem mG {α β : Type}{r:Wo → α → β → Prop}{o:Wo}{w:W}{v:V}{k:Bool → M α}{Q:β → Hp → Prop} (hr : Rv X.K o w v) (h:Ps (cg X E) r o (bd (asB w) k o.h) Q) : ∃ b,w = .bl b ∧ v = .bl b ∧ Ps (cg X E) r o (k b o.h) Q :=by
  cases w with
  | bl b => unfold Rv at hr; exact ⟨b,rfl,hr,h⟩
  | _ => exact h.elim
variable {u v : Env' → M W}
theorem fZ {op} (h:JE X E a u) : JE X E (.BoolOp op [a] pos) u := ⟨sn h.h⟩
theorem gf (ha : JE X E a u) (hb : JE X E (.BoolOp .And (b :: rest) pos) v) : JE X E (.BoolOp .And (a :: b :: rest) pos) (mAndV u v) := (sv ha.h hb.h).imp fun σ H Q h => by
  obtain ⟨o,ρ,rfl,R,S,h⟩ := h
  refine ⟨o,ρ,rfl,R,S,Ps.bd h fun p x vx e1 R1 r1 h1 => ?_⟩
  obtain ⟨k,rfl,rfl,h2⟩ := mG r1 h1
  refine ⟨k,rfl,?_⟩
  cases k with
  | true => exact iteT ⟨p,ρ,rfl,R1,S.mono R e1,h2⟩
  | false => exact iteF (h2.pr R1 (by unfold Rv; rfl))
theorem uu (ha : JE X E a u) (hb : JE X E (.BoolOp .Or (b :: rest) pos) v) : JE X E (.BoolOp .Or (a :: b :: rest) pos) (mOrV u v) := (ui ha.h hb.h).imp fun σ H Q h => by
  obtain ⟨o,ρ,rfl,R,S,h⟩ := h
  refine ⟨o,ρ,rfl,R,S,Ps.bd h fun p x vx e1 R1 r1 h1 => ?_⟩
  obtain ⟨k,rfl,rfl,h2⟩ := mG r1 h1
  refine ⟨k,rfl,?_⟩
  cases k with
  | false => exact iteF ⟨p,ρ,rfl,R1,S.mono R e1,h2⟩
  | true => exact iteT (h2.pr R1 (by unfold Rv; rfl))
theorem sO (ha : JE X E a u) : JE X E (.UnaryOp .Not a pos) (mNotV u) := (so ha.h).imp fun σ H Q h => by
  obtain ⟨o,ρ,rfl,R,S,h⟩ := h
  refine ⟨o,ρ,rfl,R,S,Ps.bd h fun p x vx e1 R1 r1 h1 => ?_⟩
  obtain ⟨k,rfl,rfl,h2⟩ := mG r1 h1
  exact ⟨k,rfl,h2.pr R1 (by unfold Rv; rfl)⟩
noncomputable def mIf (f:Env' → M Bool) (u v : Env' → M W) : Env' → M W := fun ρ => bd (f ρ) fun b => if b = true then u ρ else v ρ
theorem lE {c:Expr} (hc : JT X E c f) (ha : JE X E a u) (hb : JE X E b v) : JE X E (.IfExp c a b pos) (mIf f u v) := (oN hc.h ha.h hb.h).imp fun σ H Q h => by
  obtain ⟨o,ρ,rfl,R,S,h⟩ := h
  refine ⟨o,ρ,rfl,R,S,Ps.bd h fun p x vx e1 R1 r1 h1 => ?_⟩
  subst r1
  cases x with
  | true => exact iteT ⟨p,ρ,rfl,R1,S.mono R e1,h1⟩
  | false => exact iteF ⟨p,ρ,rfl,R1,S.mono R e1,h1⟩
noncomputable def m1 (f:W → M W) (fa : Env' → M W) : Env' → M W := fun ρ => bd (fa ρ) f
noncomputable def negW (w:W) : M W := match w with
  | .int i => pr (.int (-i))
  | _ => no
theorem i8 (ha : JE X E a u) : JE X E (.UnaryOp .USub a pos) (m1 negW u) := (uh rD ha.h).imp fun σ H Q h => by
  obtain ⟨o,ρ,rfl,R,S,h⟩ := h
  refine ⟨o,ρ,rfl,R,S,Ps.bd h fun p x vx e1 R1 r1 h1 => ?_⟩
  unfold negW at h1
  split at h1
  · unfold Rv at r1
    exact ⟨_,r1,h1.pr R1 (by unfold Rv; rfl)⟩
  · exact h1.elim
noncomputable def mNil : Env' → M (List W) := fun _ => pr []
noncomputable def mCons (fa : Env' → M W) (fr : Env' → M (List W)) : Env' → M (List W) := fun ρ => bd (fa ρ) fun x => bd (fr ρ) fun l => pr (x :: l)
variable {es : List Expr}{l:Env' → M (List W)}{e:Expr}
theorem af : JA X E [] mNil := pa_nil.imp fun σ H Q h => by
  obtain ⟨o,ρ,rfl,R,S,h⟩ := h
  exact h.pr R Rvs.nil
theorem ab (ha : JE X E e u) (hr : JA X E es l) (hs : starEach (e :: es) X.env = (false,eval e X.env) :: starEach es X.env :=by rfl) : JA X E (e :: es) (mCons u l) := (qu ha.h hr.h hs).imp fun σ H Q h => by
  obtain ⟨o,ρ,rfl,R,S,h⟩ := h
  exact ⟨o,ρ,rfl,R,S,Ps.bd h fun p x vx e1 R1 r1 h1 => ⟨p,ρ,rfl,R1,S.mono R e1,Ps.bd h1 fun q y vy e2 R2 r2 h2 => h2.pr R2 (Rvs.cons (r1.mono R1 e2) r2)⟩⟩
noncomputable def tupW (l:List W) : M W := gd (l.length ≤ sizeLine) (pr (.tup l))
noncomputable def mTup (l:Env' → M (List W)) : Env' → M W := fun ρ => bd (l ρ) tupW
theorem Rv.newT {K:PySem.W.Frag}{o:Wo} (R:Rel K o) {q:Addr}{l:List W}{vs : List V} (h:o.H q = none) (hl : Rvs K o l vs) : Rv K ⟨o.mu,o.h,upd o.H q (.tup vs)⟩ (.tup l) (.ref q) :=by
  unfold Rv; exact ⟨q,vs,rfl,.of cn,hl.mono R (Ex.new h)⟩
theorem Rv.newL {K:PySem.W.Frag}{o:Wo} (R:Rel K o) {q:Addr}{l:List W}{vs : List V} (h:o.H q = none) (hl : Rvs K o l vs) : Rv K ⟨o.mu,o.h,upd o.H q (.lst vs)⟩ (.tl l) (.ref q) :=by
  unfold Rv
  exact ⟨q,vs,rfl,cn,fun z => Lv.there R (show Lv o q from z) h,hl.mono R (Ex.new h)⟩
theorem aL {x1} (h:JA X E es l) : JE X E (.Tuple es x1 pos) (mTup l) := (sj h.h).imp fun σ H Q h => by
  obtain ⟨o,ρ,rfl,R,S,h⟩ := h
  refine ⟨o,ρ,rfl,R,S,Ps.bd h fun p x vx e1 R1 r1 h1 => ?_⟩
  obtain ⟨hz,h1⟩ := h1.gd
  exact ⟨by rw [r1.len]; exact hz,fun q hq => Ps.at (p := ⟨p.mu,p.h,upd p.H q (.tup vx)⟩) h1 rfl (Ex.new hq) (R1.new hq) (Rv.newT R1 hq r1)⟩
noncomputable def mTl (l:Env' → M (List W)) : Env' → M W := fun ρ => bd (l ρ) fun x => pr (.tl x)
noncomputable def newW (x:List W) : M W := fun h => .ok (.loc h.length) (h ++ [.lst x])
noncomputable def mNew (l:Env' → M (List W)) : Env' → M W := fun ρ => bd (l ρ) newW
theorem cF (h:JF X E e l) : JE X E e (mTl l) := h.h.imp fun σ H Q h => by
  obtain ⟨o,ρ,rfl,R,S,h⟩ := h
  exact ⟨o,ρ,rfl,R,S,Ps.bd h fun p x vx e1 R1 r1 h1 => fun q hq => Ps.at (p := ⟨p.mu,p.h,upd p.H q (.lst vx)⟩) h1 rfl (Ex.new hq) (R1.new hq) (Rv.newL R1 hq r1)⟩
theorem eU (h:JF X E e l) : JE X E e (mNew l) := h.h.imp fun σ H Q h => by
  obtain ⟨o,ρ,rfl,R,S,h⟩ := h
  refine ⟨o,ρ,rfl,R,S,Ps.bd h fun p x vx e1 R1 r1 h1 => fun q hq => ?_⟩
  refine Ps.at (p := p.add q (.lst x) (.lst vx)) h1 rfl (Ex.add hq) (R1.addL hq r1) ?_
  unfold Rv
  exact ⟨by show _ < (p.h ++ [_]).length; simp,by show V.ref q = V.ref (if p.h.length = p.h.length then q else _); rw [if_pos rfl]⟩
noncomputable def lenG (l:Env' → M (List W)) : Env' → M (List W) := fun ρ => bd (l ρ) fun x => gd (x.length ≤ sizeLine) (pr x)
theorem bX (h:JA X E es l) : JF X E (.List es pos) (lenG l) := (sr h.h).impF fun σ H Q h => by
  obtain ⟨o,ρ,rfl,R,S,h⟩ := h
  refine ⟨o,ρ,rfl,R,S,Ps.bd h fun p x vx e1 R1 r1 h1 => ?_⟩
  obtain ⟨hz,h1⟩ := h1.gd
  exact ⟨by rw [r1.len]; exact hz,h1.pr R1 r1⟩
end
end L2
set_option maxHeartbeats 1000000
namespace L2
open PySem PySem.Spec PyProof.Rows
section
variable {X:Cx}{E:XK}
theorem rv_int {K:PySem.W.Frag}{o:Wo}{i:Int}{v:V} : Rv K o (.int i) v ↔ v = .int i :=by unfold Rv; exact Iff.rfl
theorem rv_str {K:PySem.W.Frag}{o:Wo}{i:Str}{v:V} : Rv K o (.str i) v ↔ v = .str i :=by unfold Rv; exact Iff.rfl
theorem rv_bl {K:PySem.W.Frag}{o:Wo}{i:Bool}{v:V} : Rv K o (.bl i) v ↔ v = .bl i :=by unfold Rv; exact Iff.rfl
theorem rv_non {K:PySem.W.Frag}{o:Wo}{v:V} : Rv K o .non v ↔ v = .non :=by unfold Rv; exact Iff.rfl
theorem rv_ty {K:PySem.W.Frag}{o:Wo}{n:String}{v:V} : Rv K o (.ty n) v ↔ v = .ty n :=by unfold Rv; exact Iff.rfl
noncomputable def lstOf (w:W) : M (List W) := match w with
  | .tl l => pr l
  | .cl l => pr l
  | .loc k => fun h => match h[k]? with
    | some (.lst l) => .ok l h
    | _ => .bad
  | _ => no
theorem eL {α β : Type}{r:Wo → α → β → Prop}{o:Wo}{w:W}{v:V}{k:List W → M α}{Q:β → Hp → Prop} (R:Rel X.K o) (hr : Rv X.K o w v) (h:Ps (cg X E) r o (bd (lstOf w) k o.h) Q) :
    ∃ l a vs,v = .ref a ∧ SqL X.K o.H a vs ∧ Rvs X.K o l vs ∧ Ps (cg X E) r o (k l o.h) Q :=by
  cases w with
  | tl l => unfold Rv at hr; obtain ⟨a,vs,e,h1,_,h2⟩ := hr; exact ⟨l,a,vs,e,.of h1,h2,h⟩
  | cl l =>
    unfold Rv at hr
    obtain ⟨a,vs,e,h1,h2⟩ := hr
    rcases h1 with ⟨h1,_⟩ | h1
    · exact ⟨l,a,vs,e,.inl h1,h2,h⟩
    · exact ⟨l,a,vs,e,.inr h1,h2,h⟩
  | loc j =>
    unfold Rv at hr
    unfold lstOf bd at h
    cases e : o.h[j]? with
    | none => simp only [e] at h; exact h.elim
    | some b =>
      cases b with
      | lst l =>
        simp only [e] at h
        obtain ⟨vs,h1,h2⟩ := R.ob j _ e
        exact ⟨l,_,vs,hr.2,.of h1,h2,h⟩
      | _ => simp only [e] at h; exact h.elim
  | _ => exact h.elim
noncomputable def lstO (w:W) : M (List W) := match w with
  | .tl l => pr l
  | .loc k => fun h => match h[k]? with
    | some (.lst l) => .ok l h
    | _ => .bad
  | _ => no
theorem gw {α β : Type}{r:Wo → α → β → Prop}{o:Wo}{w:W}{v:V}{k:List W → M α}{Q:β → Hp → Prop} (R:Rel X.K o) (hr : Rv X.K o w v) (h:Ps (cg X E) r o (bd (lstO w) k o.h) Q) :
    ∃ l a vs,v = .ref a ∧ o.H a = some (.lst vs) ∧ Rvs X.K o l vs ∧ Ps (cg X E) r o (k l o.h) Q :=by
  cases w with
  | tl l => unfold Rv at hr; obtain ⟨a,vs,e,h1,_,h2⟩ := hr; exact ⟨l,a,vs,e,h1,h2,h⟩
  | loc j =>
    unfold Rv at hr
    unfold lstO bd at h
    cases e : o.h[j]? with
    | none => simp only [e] at h; exact h.elim
    | some b =>
      cases b with
      | lst l =>
        simp only [e] at h
        obtain ⟨vs,h1,h2⟩ := R.ob j _ e
        exact ⟨l,_,vs,hr.2,h1,h2,h⟩
      | _ => simp only [e] at h; exact h.elim
  | _ => exact h.elim
theorem j2 {o:Wo}{q:Addr}{l:List W}{vs : List V}{Q:VK} (R:Rel X.K o) (hq : o.H q = none) (hl : Rvs X.K o l vs) (h:Ps (cg X E) (Rv X.K) o (pr (.tup l) o.h) Q) : Q (.ref q) (upd o.H q (.tup vs)) :=
  Ps.at (p := ⟨o.mu,o.h,upd o.H q (.tup vs)⟩) h rfl (Ex.new hq) (R.new hq) (Rv.newT R hq hl)
theorem j3 {o:Wo}{q:Addr}{l:List W}{vs : List V}{Q:VK} (R:Rel X.K o) (hq : o.H q = none) (hl : Rvs X.K o l vs) (h:Ps (cg X E) (Rv X.K) o (pr (.tl l) o.h) Q) : Q (.ref q) (upd o.H q (.lst vs)) :=
  Ps.at (p := ⟨o.mu,o.h,upd o.H q (.lst vs)⟩) h rfl (Ex.new hq) (R.new hq) (Rv.newL R hq hl)
noncomputable def addW (x y : W) : M W := match x,y with
  | .int i,.int j => pr (.int (i + j))
  | .str a,.str b => gd (a.length + b.length ≤ sizeLine) (pr (.str (a ++ b)))
  | .tup a,.tup b => gd (a.isEmpty = false ∧ a.length + b.length ≤ sizeLine) (pr (.tup (a ++ b)))
  | x,y => bd (lstO x) fun a => bd (lstO y) fun b => gd (a.length + b.length ≤ sizeLine) (pr (.tl (a ++ b)))
theorem qw : OpM X E (fun x y H Q => rI0 (fun i j => .int (i + j)) x y H Q ∨ (fun x y H Q => (fun x y H Q => ∃ i j,x = .str i ∧ y = .str j ∧ i.length + j.length ≤ sizeLine ∧ Q (.str (i ++ j)) H) x y H Q ∨ (fun x y H Q => rCatT X.K x y H Q ∨ rCat x y H Q) x y H Q) x y H Q) addW :=by
  intro o x y vx vy Q R rx ry h
  unfold addW at h
  split at h
  · exact .inl ⟨_,_,rv_int.mp rx,rv_int.mp ry,h.pr R (rv_int.mpr rfl)⟩
  · obtain ⟨hz,h⟩ := h.gd
    exact .inr (.inl ⟨_,_,rv_str.mp rx,rv_str.mp ry,hz,h.pr R (rv_str.mpr rfl)⟩)
  · obtain ⟨hz,h⟩ := h.gd
    unfold Rv at rx ry
    obtain ⟨a,vs,e1,s1,r1⟩ := rx
    obtain ⟨b,us,e2,s2,r2⟩ := ry
    have n1 : vs ≠ [] := fun z => by
      have := r1.len
      rw [z] at this
      have q := hz.1
      rw [List.eq_nil_of_length_eq_zero this.symm] at q
      cases q
    refine .inr (.inr (.inl ⟨a,b,vs,us,e1,e2,s1,s2,n1,by rw [r1.len,r2.len]; exact hz.2,fun z => ?_,fun _ q hq => j2 R hq (r1.app r2) h⟩))
    refine h.pr R ?_
    unfold Rv
    exact ⟨a,vs,rfl,s1,by have := r1.app r2; rw [z,List.append_nil] at this; exact this⟩
  · obtain ⟨l,a,vs,e1,s1,r1,h⟩ := gw R rx h
    obtain ⟨m,b,us,e2,s2,r2,h⟩ := gw R ry h
    obtain ⟨hz,h⟩ := h.gd
    exact .inr (.inr (.inr ⟨a,b,vs,us,e1,e2,s1,s2,by rw [r1.len,r2.len]; exact hz,fun q hq => j3 R hq (r1.app r2) h⟩))
theorem aU {a b : Expr}{pos : Pos}{fa fb : Env' → M W} (ha : JE X E a fa) (hb : JE X E b fb) : JE X E (.BinOp a .Add b pos) (m2 addW fa fb) :=
  jJ (op_add.or (op_add_str.or (op_catT.or oT))) qw ha hb
noncomputable def iiW (C:Int → Int → Prop) [∀ i j,Decidable (C i j)] (g:Int → Int → W) (x y : W) : M W := match x,y with
  | .int i,.int j => gd (C i j) (pr (g i j))
  | _,_ => no
theorem fW {C:Int → Int → Prop} [∀ i j,Decidable (C i j)] {g:Int → Int → W}{g' : Int → Int → V} (hg : ∀ o i j,Rv X.K o (g i j) (g' i j)) : OpM X E (rI C g') (iiW C g) :=by
  intro o x y vx vy Q R rx ry h
  unfold iiW at h
  split at h
  · obtain ⟨hz,h⟩ := h.gd
    exact ⟨_,_,rv_int.mp rx,rv_int.mp ry,hz,h.pr R (hg _ _ _)⟩
  · exact h.elim
theorem opR0 {f:Value → Value → Sem Value}{g' : Int → Int → V} (h:OpR X f (rI0 g')) : OpR X f (rI (fun _ _ => True) g') := fun pins s σ H x y v u Q I rx ry q => h pins s σ H x y v u Q I rx ry (let ⟨i,j,e1,e2,_,q⟩ := q; ⟨i,j,e1,e2,q⟩)
noncomputable abbrev CT : Int → Int → Prop := fun _ _ => True
noncomputable def subW : W → W → M W := iiW CT fun i j => .int (i - j)
theorem eE {a b : Expr}{pos : Pos}{fa fb : Env' → M W} (ha : JE X E a fa) (hb : JE X E b fb) : JE X E (.BinOp a .Sub b pos) (m2 subW fa fb) :=
  jJ (opR0 sy) (fW fun _ _ _ => rv_int.mpr rfl) ha hb
noncomputable def CDivB (i j : Int) : Prop := 0 < j ∧ j < 2 ^ 200
instance (i j : Int) : Decidable (CDivB i j) :=by unfold CDivB; infer_instance
theorem oS : OpR X (binaryOp .FloorDiv) (rI CDivB fun i j => .int (i / j)) := opI fun i j _ _ _ _ _ hc q => by
  have h1 : (0 : Int) < j := hc.1
  have h2 : j < 2 ^ 200 := hc.2
  refine floordiv_int (by omega) (by rw [Int.fdiv_eq_ediv_of_nonneg i (by omega)]; exact q) (.inl (PyProof.noPylong_of_log2 ?_))
  have h3 : j.natAbs < 2 ^ 200 :=by omega
  exact Nat.lt_of_lt_of_le ((Nat.log2_lt (by omega)).mpr h3) (by decide)
noncomputable def fdivW : W → W → M W := iiW CDivB fun i j => .int (i / j)
theorem km {a b : Expr}{pos : Pos}{fa fb : Env' → M W} (ha : JE X E a fa) (hb : JE X E b fb) : JE X E (.BinOp a .FloorDiv b pos) (m2 fdivW fa fb) :=
  jJ oS (fW fun _ _ _ => rv_int.mpr rfl) ha hb
noncomputable abbrev CMod : Int → Int → Prop := fun _ j => 0 < j
noncomputable def modW : W → W → M W := iiW CMod fun i j => .int (i % j)
theorem dc {a b : Expr}{pos : Pos}{fa fb : Env' → M W} (ha : JE X E a fa) (hb : JE X E b fb) : JE X E (.BinOp a .Mod b pos) (m2 modW fa fb) :=
  jJ sD (fW fun _ _ _ => rv_int.mpr rfl) ha hb
instance (i j : Int) : Decidable (CPow i j) :=by unfold CPow; infer_instance
noncomputable def powW : W → W → M W := iiW CPow fun i j => .int (i ^ j.toNat)
theorem i7 {a b : Expr}{pos : Pos}{fa fb : Env' → M W} (ha : JE X E a fa) (hb : JE X E b fb) : JE X E (.BinOp a .Pow b pos) (m2 powW fa fb) :=
  jJ sB (fW fun _ _ _ => rv_int.mpr rfl) ha hb
theorem qC {z:Str}{n:Int} (h0 : 0 ≤ n) (h1 : n ≤ 10000) (h:z.length ≤ 30000) (hz : z.length * n.toNat ≤ 1000000) : MulOk z n :=by
  refine ⟨?_,fun a b => ?_,fun a b => ?_⟩
  · rw [Bool.or_eq_false_iff,decide_eq_false_iff_not,decide_eq_false_iff_not]; omega
  · have : (100000000000000 : Int) ≤ (2 ^ 63 - 1) / n := Int.le_ediv_of_mul_le (by omega) (by omega)
    omega
  · unfold Builtin.Str.tooLong
    have : sizeLine = 16777216 :=by decide
    exact decide_eq_false (by omega)
instance (i j : Int) : Decidable (CMul i j) :=by unfold CMul; infer_instance
instance (i j : Int) : Decidable (CMulB i j) :=by unfold CMulB; infer_instance
noncomputable def CMulA (i j : Int) : Prop := CMul i j ∨ CMulB i j
instance (i j : Int) : Decidable (CMulA i j) :=by unfold CMulA; infer_instance
theorem op_mulA : OpR X (binaryOp .Mult) (rI CMulA fun i j => .int (i * j)) := opI fun _ _ _ _ _ _ _ hc q => mul_int q (by rcases hc with h | h; exact h.ok; exact h.ok)
noncomputable def mulW (x y : W) : M W := match x,y with
  | .int i,.int j => gd (CMulA i j) (pr (.int (i * j)))
  | .str z,.int n => gd (0 ≤ n ∧ n ≤ 10000 ∧ z.length ≤ 30000 ∧ z.length * n.toNat ≤ 1000000) (pr (.str (Txt.mul z n)))
  | x,.int n => bd (lstO x) fun l => gd (0 ≤ n ∧ n ≤ 1000000 ∧ l.length * n.toNat ≤ sizeLine) (pr (.tl (List.replicate n.toNat l).flatten))
  | _,_ => no
theorem Rvs.rep {K:PySem.W.Frag}{o:Wo}{l:List W}{vs : List V} (h:Rvs K o l vs) : ∀ n : Nat,Rvs K o (List.replicate n l).flatten (List.replicate n vs).flatten
  | 0 => Rvs.nil
  | n + 1 => by rw [List.replicate_succ,List.replicate_succ,List.flatten_cons,List.flatten_cons]; exact h.app (Rvs.rep h n)
theorem qv : OpM X E (fun x y H Q => rI CMulA (fun i j => .int (i * j)) x y H Q ∨ (fun x y H Q => (fun x y H Q => ∃ (z:Str) (n:Int),x = .str z ∧ y = .int n ∧ MulOk z n ∧ Q (.str (Txt.mul z n)) H) x y H Q ∨ rRep x y H Q) x y H Q) mulW :=by
  intro o x y vx vy Q R rx ry h
  unfold mulW at h
  split at h
  · obtain ⟨hz,h⟩ := h.gd
    exact .inl ⟨_,_,rv_int.mp rx,rv_int.mp ry,hz,h.pr R (rv_int.mpr rfl)⟩
  · obtain ⟨hz,h⟩ := h.gd
    exact .inr (.inl ⟨_,_,rv_str.mp rx,rv_int.mp ry,qC hz.1 hz.2.1 hz.2.2.1 hz.2.2.2,h.pr R (rv_str.mpr rfl)⟩)
  · obtain ⟨l,a,vs,e1,s1,r1,h⟩ := gw R rx h
    obtain ⟨hz,h⟩ := h.gd
    exact .inr (.inr ⟨a,_,vs,e1,rv_int.mp ry,s1,by omega,by omega,by rw [r1.len]; exact hz.2.2,fun q hq => j3 R hq (r1.rep _) h⟩)
  · exact h.elim
theorem fG {a b : Expr}{pos : Pos}{fa fb : Env' → M W} (ha : JE X E a fa) (hb : JE X E b fb) : JE X E (.BinOp a .Mult b pos) (m2 mulW fa fb) :=
  jJ (op_mulA.or (op_mul_str.or sA)) qv ha hb
noncomputable def ltW : W → W → M W := iiW CT fun i j => .bl (decide (i < j))
noncomputable def leW : W → W → M W := iiW CT fun i j => .bl (decide (i ≤ j))
noncomputable def gtW : W → W → M W := iiW CT fun i j => .bl (decide (j < i))
noncomputable def geW : W → W → M W := iiW CT fun i j => .bl (decide (j ≤ i))
theorem eC : OpM X E (rI CT fun i j => .bl (decide (i < j))) ltW := fW fun _ _ _ => rv_bl.mpr rfl
theorem sx : OpM X E (rI CT fun i j => .bl (decide (j < i))) gtW := fW fun _ _ _ => rv_bl.mpr rfl
theorem oR : OpM X E (rI CT fun i j => .bl (decide (j ≤ i))) geW := fW fun _ _ _ => rv_bl.mpr rfl
theorem fT : OpR X (compareOp .Lt) (rI CT fun i j => .bl (decide (i < j))) := opR0 ul
theorem uk : OpR X (compareOp .Gt) (rI CT fun i j => .bl (decide (j < i))) := opR0 um
theorem rm : OpR X (compareOp .GtE) (rI CT fun i j => .bl (decide (j ≤ i))) := opR0 uo
noncomputable def isNon : W → Bool
  | .non => true
  | _ => false
noncomputable def isNW (x y : W) : M W := match y with
  | .non => pr (.bl (isNon x))
  | _ => no
theorem qR {K:PySem.W.Frag}{o:Wo}{x:W}{v:V} (h:Rv K o x v) : decide (v = .non) = isNon x :=by
  cases x with
  | non => rw [rv_non.mp h]; rfl
  | bl _ => rw [rv_bl.mp h]; rfl
  | int _ => rw [rv_int.mp h]; rfl
  | str _ => rw [rv_str.mp h]; rfl
  | ty _ => rw [rv_ty.mp h]; rfl
  | exc _ => unfold Rv at h; obtain ⟨a,_,rfl,_⟩ := h; rfl
  | cls _ => unfold Rv at h; obtain ⟨a,rfl,_⟩ := h; rfl
  | tup _ => unfold Rv at h; obtain ⟨a,_,rfl,_⟩ := h; rfl
  | tl _ => unfold Rv at h; obtain ⟨a,_,rfl,_⟩ := h; rfl
  | cl _ => unfold Rv at h; obtain ⟨a,_,rfl,_⟩ := h; rfl
  | dv _ _ => unfold Rv at h; obtain ⟨a,_,rfl,_⟩ := h; rfl
  | loc _ => unfold Rv at h; obtain ⟨_,rfl⟩ := h; rfl
theorem j5 : OpM X E (fun x y H Q => y = .non ∧ Q (.bl (decide (x = .non))) H) isNW :=by
  intro o x y vx vy Q R rx ry h
  unfold isNW at h
  split at h
  · exact ⟨rv_non.mp ry,by rw [qR rx]; exact h.pr R (rv_bl.mpr rfl)⟩
  · exact h.elim
noncomputable def vOf : W → Option V
  | .non => some .non
  | .bl b => some (.bl b)
  | .int i => some (.int i)
  | .str x => some (.str x)
  | _ => none
theorem jX {K:PySem.W.Frag}{o:Wo}{x:W}{v u : V} (e:vOf x = some u) (h:Rv K o x v) : v = u :=by
  cases x with
  | non => cases e; exact rv_non.mp h
  | bl _ => cases e; exact rv_bl.mp h
  | int _ => cases e; exact rv_int.mp h
  | str _ => cases e; exact rv_str.mp h
  | _ => cases e
theorem kP {x:W}{u:V} (e:vOf x = some u) : flatV u = true :=by
  cases x <;> first | (cases e; done) | (cases e; rfl)
noncomputable def vsOf : List W → Option (List V)
  | [] => some []
  | w :: l => match vOf w,vsOf l with
    | some v,some vs => some (v :: vs)
    | _,_ => none
theorem mI {K:PySem.W.Frag}{o:Wo} : ∀ {l:List W}{vs us : List V},vsOf l = some us → Rvs K o l vs → vs = us
  | [],vs,us,e,h => by unfold Rvs at h; cases e; exact h
  | w :: l,vs,us,e,h => by
    unfold Rvs at h
    obtain ⟨v,r,rfl,h1,h2⟩ := h
    unfold vsOf at e
    split at e
    · rename_i v' vs' e1 e2
      cases e
      rw [jX e1 h1,mI e2 h2]
    · cases e
theorem jx : ∀ {l:List W}{us : List V},vsOf l = some us → us.all flatV = true
  | [],us,e => by cases e; rfl
  | w :: l,us,e => by
    unfold vsOf at e
    split at e
    · rename_i v' vs' e1 e2
      cases e
      rw [List.all_cons,kP e1,jx e2]; rfl
    · cases e
end
end L2
set_option maxHeartbeats 1000000
namespace L2
open PySem PySem.Spec PyProof.Rows
noncomputable def optL {α β : Type} (f:α → Option β) : List α → Option (List β)
  | [] => some []
  | a :: l => match f a,optL f l with
    | some b,some r => some (b :: r)
    | _,_ => none
noncomputable def dataH (h:List Ob) : Nat → W → Option PyData
  | 0,_ => none
  | _ + 1,.non => some .none
  | _ + 1,.bl b => some (.bool b)
  | _ + 1,.int i => some (.int i)
  | _ + 1,.str x => some (.str x)
  | n + 1,.tup l => (optL (dataH h n) l).map .tuple
  | n + 1,.tl l => (optL (dataH h n) l).map .list
  | n + 1,.cl l => (optL (dataH h n) l).map .list
  | n + 1,.loc k => match h[k]? with
    | some (.lst l) => (optL (dataH h n) l).map .list
    | _ => none
  | _ + 1,_ => none
section
variable {K:PySem.W.Frag}{o:Wo}
theorem iI {n:Nat} (ih : ∀ w v d,dataH o.h n w = some d → Rv K o w v → Den K o.H v d ∧ d.depth ≤ n) : ∀ {l:List W}{vs : List V}{ds : List PyData},optL (dataH o.h n) l = some ds → Rvs K o l vs → DenAll K o.H vs ds ∧ PyData.depthAll ds ≤ n
  | [],vs,ds,e,h => by unfold Rvs at h; cases e; rw [h]; exact ⟨.nil,by simp [PyData.depthAll]⟩
  | w :: l,vs,ds,e,h => by
    unfold Rvs at h
    obtain ⟨v,r,rfl,h1,h2⟩ := h
    unfold optL at e
    split at e
    · rename_i d ds' e1 e2
      cases e
      obtain ⟨a1,a2⟩ := ih w v d e1 h1
      obtain ⟨b1,b2⟩ := iI ih e2 h2
      exact ⟨.cons a1 b1,by rw [PyData.depthAll]; omega⟩
    · cases e
theorem gX (R:Rel K o) : ∀ (n:Nat) (w:W) (v:V) (d:PyData),dataH o.h n w = some d → Rv K o w v → Den K o.H v d ∧ d.depth ≤ n
  | 0,_,_,_,e,_ => by cases e
  | n + 1,w,v,d,e,h => by
    have ih := gX R n
    have seq : ∀ {l:List W}{a:Addr}{vs : List V}{ds : List PyData},optL (dataH o.h n) l = some ds → SqL K o.H a vs → Rvs K o l vs → Den K o.H (.ref a) (.list ds) ∧ (PyData.list ds).depth ≤ n + 1 := fun {l a vs ds} e s r => by
      obtain ⟨b1,b2⟩ := iI ih e r
      refine ⟨.lst s b1,?_⟩
      rw [PyData.depth]; omega
    cases w with
    | non => cases e; rw [rv_non.mp h]; exact ⟨.non,by simp [PyData.depth]⟩
    | bl b => cases e; rw [rv_bl.mp h]; exact ⟨.bl b,by simp [PyData.depth]⟩
    | int b => cases e; rw [rv_int.mp h]; exact ⟨.int b,by simp [PyData.depth]⟩
    | str b => cases e; rw [rv_str.mp h]; exact ⟨.str b,by simp [PyData.depth]⟩
    | ty b => cases e
    | exc b => cases e
    | cls b => cases e
    | dv a b => cases e
    | tup l =>
      unfold dataH at e
      obtain ⟨ds,e1,rfl⟩ := Option.map_eq_some_iff.mp e
      unfold Rv at h
      obtain ⟨a,vs,rfl,s,r⟩ := h
      obtain ⟨b1,b2⟩ := iI ih e1 r
      refine ⟨.tup s b1,?_⟩
      rw [PyData.depth]; omega
    | tl l =>
      unfold dataH at e
      obtain ⟨ds,e1,rfl⟩ := Option.map_eq_some_iff.mp e
      unfold Rv at h
      obtain ⟨a,vs,rfl,s,_,r⟩ := h
      exact seq e1 (.of s) r
    | cl l =>
      unfold dataH at e
      obtain ⟨ds,e1,rfl⟩ := Option.map_eq_some_iff.mp e
      unfold Rv at h
      obtain ⟨a,vs,rfl,s,r⟩ := h
      refine seq e1 ?_ r
      rcases s with ⟨s,_⟩ | s
      · exact .inl s
      · exact .inr s
    | loc k =>
      unfold dataH at e
      split at e
      · rename_i l hk
        obtain ⟨ds,e1,rfl⟩ := Option.map_eq_some_iff.mp e
        unfold Rv at h
        obtain ⟨vs,h1,h2⟩ := R.ob k _ hk
        rw [h.2]
        exact seq e1 (.of h1) h2
      · cases e
end
noncomputable def eqB (x y : W) (h:List Ob) : Option Bool := match vOf x,vOf y with
  | some a,some b => if scal a b = true then some (decide (a = b)) else match dataH h 50 x,dataH h 50 y with
    | some d,some e => if d.canLay0 = true ∧ e.canLay0 = true then some (PyData.eqv d e) else none
    | _,_ => none
  | _,_ => match dataH h 50 x,dataH h 50 y with
    | some d,some e => if d.canLay0 = true ∧ e.canLay0 = true then some (PyData.eqv d e) else none
    | _,_ => none
noncomputable def eqW (x y : W) : M W := fun h => match eqB x y h with
  | some b => .ok (.bl b) h
  | none => .bad
noncomputable def neW (x y : W) : M W := fun h => match eqB x y h with
  | some b => .ok (.bl (!b)) h
  | none => .bad
section
variable {X:Cx}{E:XK}
theorem pI {o:Wo}{x y : W}{vx vy : V}{b:Bool} (hu : X.A.units + 64 < cLine) (R:Rel X.K o) (rx : Rv X.K o x vx) (ry : Rv X.K o y vy) (e:eqB x y o.h = some b) :
    (scal vx vy = true ∧ b = decide (vx = vy)) ∨ ∃ d e,Den X.K o.H vx d ∧ Den X.K o.H vy e ∧ d.canLay0 = true ∧ e.canLay0 = true ∧ X.A.units + min d.depth e.depth < cLine ∧ b = PyData.eqv d e :=by
  have deep : (match dataH o.h 50 x,dataH o.h 50 y with
    | some d,some e => if d.canLay0 = true ∧ e.canLay0 = true then some (PyData.eqv d e) else none
    | _,_ => none) = some b → ∃ d e,Den X.K o.H vx d ∧ Den X.K o.H vy e ∧ d.canLay0 = true ∧ e.canLay0 = true ∧ X.A.units + min d.depth e.depth < cLine ∧ b = PyData.eqv d e := fun q => by
    split at q
    · rename_i d e' e1 e2
      split at q
      · rename_i hc
        obtain ⟨a1,a2⟩ := gX R _ _ _ _ e1 rx
        obtain ⟨b1,b2⟩ := gX R _ _ _ _ e2 ry
        exact ⟨d,e',a1,b1,hc.1,hc.2,by omega,(Option.some.inj q).symm⟩
      · cases q
    · cases q
  unfold eqB at e
  split at e
  · rename_i a c e1 e2
    split at e
    · rename_i hs
      rw [jX e1 rx,jX e2 ry]
      exact .inl ⟨hs,(Option.some.inj e).symm⟩
    · exact .inr (deep e)
  · exact .inr (deep e)
theorem aG (hu : X.A.units + 64 < cLine) : OpM X E (fun x y H Q => rEq x y H Q ∨ rEqD X.K X.A false x y H Q) eqW :=by
  intro o x y vx vy Q R rx ry h
  unfold eqW at h
  cases e : eqB x y o.h with
  | none => rw [e] at h; exact h.elim
  | some b =>
    rw [e] at h
    have q : Q (.bl b) o.H := Ps.pr (c := cg X E) (r := Rv X.K) (a := W.bl b) h R (rv_bl.mpr rfl)
    rcases pI hu R rx ry e with ⟨s,rfl⟩ | ⟨d,e',a1,a2,a3,a4,a5,rfl⟩
    · exact .inl ⟨s,q⟩
    · exact .inr ⟨d,e',a1,a2,a3,a4,a5,by rw [if_neg Bool.false_ne_true]; exact q⟩
theorem iJ (hu : X.A.units + 64 < cLine) : OpM X E (fun x y H Q => rNe x y H Q ∨ rEqD X.K X.A true x y H Q) neW :=by
  intro o x y vx vy Q R rx ry h
  unfold neW at h
  cases e : eqB x y o.h with
  | none => rw [e] at h; exact h.elim
  | some b =>
    rw [e] at h
    have q : Q (.bl (!b)) o.H := Ps.pr (c := cg X E) (r := Rv X.K) (a := W.bl (!b)) h R (rv_bl.mpr rfl)
    rcases pI hu R rx ry e with ⟨s,rfl⟩ | ⟨d,e',a1,a2,a3,a4,a5,rfl⟩
    · exact .inl ⟨s,q⟩
    · exact .inr ⟨d,e',a1,a2,a3,a4,a5,by rw [if_pos rfl]; exact q⟩
theorem aP : OpR X (compareOp .Eq) (fun x y H Q => rEq x y H Q ∨ rEqD X.K X.A false x y H Q) := op_eq.or sF
theorem kZ : OpR X (compareOp .NotEq) (fun x y H Q => rNe x y H Q ∨ rEqD X.K X.A true x y H Q) := op_ne.or sC
noncomputable def keyOf : W → Option Key
  | .int i => some (.inl i)
  | .str x => some (.inr x)
  | _ => none
theorem gA {K:PySem.W.Frag}{o:Wo}{x:W}{v:V}{k:Key} (e:keyOf x = some k) (h:Rv K o x v) : v = kV k :=by
  cases x with
  | int _ => cases e; exact rv_int.mp h
  | str _ => cases e; exact rv_str.mp h
  | _ => cases e
noncomputable def dicOf (w:W) (h:List Ob) : Option (List Key × List W) := match w with
  | .dv ks ws => some (ks,ws)
  | .loc k => match h[k]? with
    | some (.dic ks ws) => some (ks,ws)
    | _ => none
  | _ => none
theorem lO {o:Wo}{w:W}{v:V}{ks : List Key}{ws : List W} (R:Rel X.K o) (e:dicOf w o.h = some (ks,ws)) (h:Rv X.K o w v) : ∃ a kvs,v = .ref a ∧ Rd o.H a (.dK kvs) ∧ kvs.map (·.1) = ks ∧ Rvs X.K o ws (kvs.map (·.2)) :=by
  cases w with
  | dv a b =>
    cases e
    unfold Rv at h
    obtain ⟨a,kvs,e,h1,_,h2,h3⟩ := h
    exact ⟨a,kvs,e,h1,h2,h3⟩
  | loc k =>
    unfold dicOf at e
    dsimp only at e
    split at e
    · rename_i a b hk
      cases e
      unfold Rv at h
      obtain ⟨kvs,h1,h2,h3⟩ := R.ob k _ hk
      exact ⟨_,kvs,h.2,.inl h1,h2,h3⟩
    · cases e
  | _ => cases e
noncomputable def atK : List Key → List W → Key → Option W
  | k :: ks,w :: ws,x => if k = x then some w else atK ks ws x
  | _,_,_ => none
theorem kK {K:PySem.W.Frag}{o:Wo}{x:Key} : ∀ {ks : List Key}{ws : List W}{kvs : List (Key × V)},kvs.map (·.1) = ks → Rvs K o ws (kvs.map (·.2)) → match atK ks ws x with
    | some w => ∃ v,valV kvs x = some v ∧ Rv K o w v
    | none => valV kvs x = none
  | [],_,[],_,_ => rfl
  | _,_,(k,v) :: r,e,h => by
    subst e
    cases ‹List W› with
    | nil => unfold Rvs at h; cases h
    | cons w ws =>
      unfold Rvs at h
      obtain ⟨v',r',e',h1,h2⟩ := h
      cases e'
      have ih := kK (x := x) (ks := r.map (·.1)) (ws := ws) (kvs := r) rfl h2
      show match (if k = x then some w else atK (r.map (·.1)) ws x) with
        | some w => ∃ v',valV ((k,v) :: r) x = some v' ∧ Rv K o w v'
        | none => valV ((k,v) :: r) x = none
      by_cases z : k = x
      · rw [if_pos z]
        exact ⟨v,by unfold valV; rw [List.find?_cons_of_pos (by simpa using z)]; rfl,h1⟩
      · rw [if_neg z]
        have ev : valV ((k,v) :: r) x = valV r x :=by unfold valV; rw [List.find?_cons_of_neg (by simpa using z)]
        rw [ev]
        exact ih
noncomputable def inB (x y : W) (h:List Ob) : Option Bool := match y with
  | .str b => match x with
    | .str a => some (!(Builtin.Str.occurrences b a 0 b.length 1).isEmpty)
    | _ => none
  | .tup l => match vOf x,vsOf l with
    | some v,some vs => some (inV v vs)
    | _,_ => none
  | y => match dicOf y h with
    | some (ks,ws) => match keyOf x with
      | some k => some (atK ks ws k).isSome
      | none => none
    | none => match lstOf y h with
      | .ok l _ => match vOf x,vsOf l with
        | some v,some vs => some (inV v vs)
        | _,_ => none
      | _ => none
noncomputable def inW (x y : W) : M W := fun h => match inB x y h with
  | some b => .ok (.bl b) h
  | none => .bad
theorem lJ {o:Wo}{w:W}{v:V}{l:List W}{h' : List Ob} (R:Rel X.K o) (hr : Rv X.K o w v) (e:lstOf w o.h = .ok l h') : h' = o.h ∧ ∃ a vs,v = .ref a ∧ SqL X.K o.H a vs ∧ Rvs X.K o l vs :=by
  have hh : h' = o.h :=by
    cases w with
    | tl l' => cases e; rfl
    | cl l' => cases e; rfl
    | loc j =>
      unfold lstOf at e
      dsimp only at e
      split at e
      · cases e; rfl
      · cases e
    | _ => cases e
  subst hh
  have h : Ps (cg X (fun _ _ _ => False)) (fun (_:Wo) (a:List W) (b:List W) => a = b) o (bd (lstOf w) (fun l => pr l) o.h) (fun b _ => b = l) :=by
    unfold bd
    rw [e]
    intro p b _ _ _ q
    exact q.symm
  obtain ⟨m,a,vs,e1,e2,e3,h⟩ := eL R hr h
  have : m = l := h.pr R rfl
  subst this
  exact ⟨rfl,a,vs,e1,e2,e3⟩
noncomputable def rInD : R2 := fun x y H Q => ∃ a ov,y = .ref a ∧ DGet H a x ov ∧ Q (.bl ov.isSome) H
theorem sE (hu : X.A.units + 1 < cLine) : OpR X (compareOp .In) rInD :=by
  intro pins s σ H x y v u Q I rx ry h
  obtain ⟨a,ov,rfl,g,q⟩ := h
  cases ry
  exact uZ hu I g rx fun s3 I3 => ⟨.bl ov.isSome,H,I3,rfl,q⟩
theorem tq {o:Wo}{x y : W}{vx vy : V}{b:Bool} (R:Rel X.K o) (rx : Rv X.K o x vx) (ry : Rv X.K o y vy) (e:inB x y o.h = some b) :
    (∃ i j,vx = .str i ∧ vy = .str j ∧ b = (!(Builtin.Str.occurrences j i 0 j.length 1).isEmpty)) ∨ (∃ p xs,vy = .ref p ∧ (SqL X.K o.H p xs ∨ SqT X.K o.H p xs) ∧ flatV vx = true ∧ xs.all flatV = true ∧ b = inV vx xs) ∨ ∃ a ov,vy = .ref a ∧ DGet o.H a vx ov ∧ b = ov.isSome :=by
  have fl : ∀ {l:List W}{vs : List V},Rvs X.K o l vs → (match vOf x,vsOf l with
        | some v,some vs => some (inV v vs)
        | _,_ => none) = some b → flatV vx = true ∧ vs.all flatV = true ∧ b = inV vx vs := fun {l vs} r q => by
    split at q
    · rename_i v us e1 e2
      rw [jX e1 rx,mI e2 r]
      exact ⟨kP e1,jx e2,(Option.some.inj q).symm⟩
    · cases q
  unfold inB at e
  split at e
  · split at e
    · exact .inl ⟨_,_,rv_str.mp rx,rv_str.mp ry,(Option.some.inj e).symm⟩
    · cases e
  · unfold Rv at ry
    obtain ⟨a,vs,rfl,s,r⟩ := ry
    obtain ⟨f1,f2,f3⟩ := fl r e
    exact .inr (.inl ⟨a,vs,rfl,.inr s,f1,f2,f3⟩)
  · split at e
    · rename_i ks ws hd
      split at e
      · rename_i k hk
        obtain ⟨a,kvs,rfl,h1,h2,h3⟩ := lO R hd ry
        rw [gA hk rx]
        refine .inr (.inr ⟨a,valV kvs k,rfl,.inl ⟨kvs,k,h1,rfl,rfl⟩,?_⟩)
        rw [← Option.some.inj e]
        have := kK (x := k) h2 h3
        cases q : atK ks ws k with
        | none => rw [q] at this; rw [show valV kvs k = none from this]; rfl
        | some w => rw [q] at this; obtain ⟨v,hv,_⟩ := this; rw [hv]; rfl
      · cases e
    · split at e
      · rename_i l h' hl
        obtain ⟨rfl,a,vs,rfl,s,r⟩ := lJ R ry hl
        obtain ⟨f1,f2,f3⟩ := fl r e
        exact .inr (.inl ⟨a,vs,rfl,.inl s,f1,f2,f3⟩)
      · cases e
noncomputable abbrev rInA (X:Cx) : R2 := fun x y H Q => (fun x y H Q => ∃ i j,x = .str i ∧ y = .str j ∧ Q (.bl (!(Builtin.Str.occurrences j i 0 j.length 1).isEmpty)) H) x y H Q ∨ (fun x y H Q => rIn X.K false x y H Q ∨ rInD x y H Q) x y H Q
theorem mS (hu : X.A.units + 1 < cLine) : OpR X (compareOp .In) (rInA X) := op_in_str.or (op_in_seq.or (sE hu))
theorem j6 : OpM X E (rInA X) inW :=by
  intro o x y vx vy Q R rx ry h
  unfold inW at h
  cases e : inB x y o.h with
  | none => rw [e] at h; exact h.elim
  | some b =>
    rw [e] at h
    have q : Q (.bl b) o.H := Ps.pr (c := cg X E) (r := Rv X.K) (a := W.bl b) h R (rv_bl.mpr rfl)
    rcases tq R rx ry e with ⟨i,j,e1,e2,rfl⟩ | ⟨p,xs,e1,e2,e3,e4,rfl⟩ | ⟨a,ov,e1,e2,rfl⟩
    · exact .inl ⟨i,j,e1,e2,q⟩
    · exact .inr (.inl ⟨p,xs,e1,e2,e3,e4,by rw [if_neg Bool.false_ne_true]; exact q⟩)
    · exact .inr (.inr ⟨a,ov,e1,e2,q⟩)
theorem Rvs.atI {K:PySem.W.Frag}{o:Wo}{l:List W}{vs : List V}{i:Int}{w:W} (h:Rvs K o l vs) (e:L2.atI l i = some w) : ∃ v,L2.atI vs i = some v ∧ Rv K o w v :=by
  unfold L2.atI at e ⊢
  rw [h.len]
  cases q : ixN l.length i with
  | none => rw [q] at e; cases e
  | some j => rw [q] at e; exact h.get e
noncomputable def ixO (x y : W) (h:List Ob) : Option W := match dicOf x h with
  | some (ks,ws) => match keyOf y with
    | some k => atK ks ws k
    | none => none
  | none => match y with
    | .int i => match x with
      | .str z => if z.length ≤ sizeLine then (atI z.cps.toList i).map fun c => .str ⟨#[c]⟩ else none
      | .tup l => atI l i
      | x => match lstOf x h with
        | .ok l _ => atI l i
        | _ => none
    | _ => none
noncomputable def ixW (x y : W) : M W := fun h => match ixO x y h with
  | some w => .ok w h
  | none => .bad
noncomputable def rIxD : R2 := fun x y H Q => ∃ a v,x = .ref a ∧ DGet H a y (some v) ∧ Q v H
theorem qP (hu : X.A.units + 1 < cLine) : IxR X rIxD :=by
  intro value slice pins s σ H x y v u Q I rx ry h hs
  obtain ⟨a,z,rfl,g,q⟩ := h
  cases rx
  exact tail_any (lN I g) PySem.F.slot_dict_getitem.lookup (oh hu I g ry fun w' s3 I3 rw' => ⟨z,H,I3,rw',q⟩) hs
theorem sw : OpM X E (fun x y H Q => rIx X.K x y H Q ∨ rIxD x y H Q) ixW :=by
  intro o x y vx vy Q R rx ry h
  unfold ixW at h
  cases e : ixO x y o.h with
  | none => rw [e] at h; exact h.elim
  | some w =>
    rw [e] at h
    have q : ∀ {v:V},Rv X.K o w v → Q v o.H := fun {v} hv => Ps.pr (c := cg X E) (r := Rv X.K) (a := w) h R hv
    unfold ixO at e
    split at e
    · rename_i ks ws hd
      split at e
      · rename_i k hk
        obtain ⟨a,kvs,rfl,h1,h2,h3⟩ := lO R hd rx
        have := kK (x := k) h2 h3
        rw [e] at this
        obtain ⟨v,hv,rv⟩ := this
        rw [gA hk ry]
        exact .inr ⟨a,v,rfl,.inl ⟨kvs,k,h1,rfl,hv.symm⟩,q rv⟩
      · cases e
    · split at e
      · split at e
        · split at e
          · rename_i hz
            obtain ⟨c,hc,rfl⟩ := Option.map_eq_some_iff.mp e
            exact .inl (.inr (.inr ⟨_,_,c,rv_str.mp rx,rv_int.mp ry,hz,hc,q (rv_str.mpr rfl)⟩))
          · cases e
        · unfold Rv at rx
          obtain ⟨a,vs,rfl,s,r⟩ := rx
          obtain ⟨v,hv,rv⟩ := r.atI e
          exact .inl (.inr (.inl ⟨a,vs,_,v,rfl,rv_int.mp ry,s,hv,q rv⟩))
        · split at e
          · rename_i l h' hl
            obtain ⟨rfl,a,vs,rfl,s,r⟩ := lJ R rx hl
            obtain ⟨v,hv,rv⟩ := r.atI e
            exact .inl (.inl ⟨a,vs,_,v,rfl,rv_int.mp ry,s,hv,q rv⟩)
          · cases e
      · cases e
theorem aq {a b : Expr}{pos : Pos}{fa fb : Env' → M W} (hu : X.A.units + 1 < cLine) (ha : JE X E a fa) (hb : JE X E b fb) (hs : nw b) : JE X E (.Subscript a b pos) (m2 ixW fa fb) :=
  (uj (ix_seq.or (qP hu)) ha.h hb.h hs).imp fun _ _ _ h => pW sw h
noncomputable def cutW {α : Type} (xs : List α) (lo hi : Option Int) : List α := (xs.drop (HT.sIx xs.length 0 lo)).take (HT.sIx xs.length xs.length hi - HT.sIx xs.length 0 lo)
theorem Rvs.cut {K:PySem.W.Frag}{o:Wo}{l:List W}{vs : List V} (h:Rvs K o l vs) (lo hi : Option Int) : Rvs K o (cutW l lo hi) (cutV vs lo hi) :=by
  unfold cutW cutV
  rw [h.len]
  exact (h.drop _).take _
noncomputable def aW : Env' → M (Option Int) := fun _ => pr none
noncomputable def mPart (f:Env' → M W) : Env' → M (Option Int) := fun ρ => bd (f ρ) fun w => match w with
  | .int i => pr (some i)
  | _ => no
noncomputable abbrev tP (c:Cg) (f:Env' → M (Option Int)) : TO := tG c (fun _ a b => a = b) f
structure JO (X:Cx) (E:XK) (e:Option Expr) (f:Env' → M (Option Int)) : Prop where
  h : PO X e (tP (cg X E) f)
theorem PO.imp {e:Option Expr}{t:TO}{f:Env' → M (Option Int)} (h:PO X e t) (k:∀ σ H Q,tP (cg X E) f σ H Q → t σ H Q) : JO X E e f := ⟨fun pins s σ H Q I q => h pins s σ H Q I (k σ H Q q)⟩
theorem hZ : JO X E none aW := po_none.imp fun σ H Q h => by
  obtain ⟨o,ρ,rfl,R,S,h⟩ := h
  exact h.pr R rfl
theorem dJ {e:Expr}{f:Env' → M W} (he : JE X E e f) : JO X E (some e) (mPart f) := (qh he.h).imp fun σ H Q h => by
  obtain ⟨o,ρ,rfl,R,S,h⟩ := h
  refine ⟨o,ρ,rfl,R,S,Ps.bd h fun p x vx e1 R1 r1 h1 => ?_⟩
  cases x with
  | int i => exact ⟨i,rv_int.mp r1,h1.pr R1 rfl⟩
  | _ => exact h1.elim
noncomputable def slW (x:W) (lo hi : Option Int) : M W := match x with
  | .str z => gd (z.length ≤ sizeLine) (pr (.str (StrLaws.sliceText z lo hi)))
  | .tup l => gd (¬ (HT.sIx l.length 0 lo = 0 ∧ HT.sIx l.length l.length hi = l.length)) (pr (.tup (cutW l lo hi)))
  | x => bd (lstOf x) fun l => pr (.tl (cutW l lo hi))
noncomputable def m3 (f:W → Option Int → Option Int → M W) (fa : Env' → M W) (fl fh : Env' → M (Option Int)) : Env' → M W := fun ρ => bd (fa ρ) fun x => bd (fl ρ) fun a => bd (fh ρ) fun b => f x a b
theorem iZ {e:Expr}{lo hi : Option Expr}{p2 pos : Pos}{fa : Env' → M W}{fl fh : Env' → M (Option Int)} (he : JE X E e fa) (hl : JO X E lo fl) (hh : JO X E hi fh) :
    JE X E (.Subscript e (.Slice lo hi none p2) pos) (m3 slW fa fl fh) := (oM (sl_str.or (sl_tup.or pX)) he.h hl.h hh.h).imp fun σ H Q h => by
  obtain ⟨o,ρ,rfl,R,S,h⟩ := h
  refine ⟨o,ρ,rfl,R,S,Ps.bd h fun p x vx e1 R1 r1 h1 => ⟨p,ρ,rfl,R1,S.mono R e1,Ps.bd h1 fun q a va e2 R2 r2 h2 => ⟨q,ρ,rfl,R2,(S.mono R e1).mono R1 e2,Ps.bd h2 fun w b vb e3 R3 r3 h3 => ?_⟩⟩⟩
  subst r2 r3
  have rx := (r1.mono R1 e2).mono R2 e3
  unfold slW at h3
  split at h3
  · obtain ⟨hz,h3⟩ := h3.gd
    exact .inl ⟨_,rv_str.mp rx,hz,h3.pr R3 (rv_str.mpr rfl)⟩
  · obtain ⟨hz,h3⟩ := h3.gd
    unfold Rv at rx
    obtain ⟨a',vs,rfl,s,r⟩ := rx
    refine .inr (.inl ⟨a',vs,rfl,s,by rw [r.len]; exact hz,fun q' hq => j2 R3 hq (r.cut _ _) h3⟩)
  · obtain ⟨l,a',vs,rfl,s,r,h3⟩ := eL R3 rx h3
    exact .inr (.inr ⟨a',vs,rfl,s,fun q' hq => j3 R3 hq (r.cut _ _) h3⟩)
noncomputable def mCall (f:List W → M W) (l:Env' → M (List W)) : Env' → M W := fun ρ => bd (l ρ) f
noncomputable def CallM (X:Cx) (E:XK) (r:List V → Hp → VK → Prop) (f:List W → M W) : Prop := ∀ (o:Wo) (ws : List W) (vs : List V) (Q:VK),Rel X.K o → Rvs X.K o ws vs → Ps (cg X E) (Rv X.K) o (f ws o.h) Q → r vs o.H Q
variable {x:Str}{p pos : Pos}{e:Expr}{es : List Expr}{l:Env' → M (List W)}{f:List W → M W}{r:List V → Hp → VK → Prop}{id T : String}
theorem rg (hf : CallM X E r f) {σ : St}{H:Hp}{Q:VK} (h:tM (cg X E) (mCall f l) σ H Q) : tCB r (tA (cg X E) l) σ H Q :=by
  obtain ⟨o,ρ,rfl,R,S,h⟩ := h
  exact ⟨o,ρ,rfl,R,S,Ps.bd h fun p x vx e1 R1 r1 h1 => hf p x vx Q R1 r1 h1⟩
theorem gv (hc : CallR X (.builtin id) r) (hf : CallM X E r f) (hg : Gl X x) (hm : X.mg x = none) (hv : bootBuiltins x = some (.builtin id)) (ha : JA X E (e :: es) l) (hn : x ≠ "__name__" := by decide) (hdb : (x == ("__debug__" : Str)) = false :=by decide)
    (he : starEach (e :: es) X.env = (false,eval e X.env) :: starEach es X.env :=by rfl) (hpl : (backTo pos (starEach es X.env)).any (·.1) = false :=by rfl) : JE X E (.Call (.Name x p) (e :: es) [] pos) (mCall f l) :=
  (oO hc hg hm hv ha.h hn hdb he hpl).imp fun _ _ _ h => rg hf h
theorem jK (hc : CallR X (.type T) r) (hf : CallM X E r f) (hg : Gl X x) (hm : X.mg x = none) (hv : bootBuiltins x = some (.type T)) (ha : JA X E (e :: es) l) (hn : x ≠ "__name__" := by decide) (hdb : (x == ("__debug__" : Str)) = false :=by decide)
    (he : starEach (e :: es) X.env = (false,eval e X.env) :: starEach es X.env :=by rfl) (hpl : (backTo pos (starEach es X.env)).any (·.1) = false :=by rfl) : JE X E (.Call (.Name x p) (e :: es) [] pos) (mCall f l) :=
  (gK hc hg hm hv ha.h hn hdb he hpl).imp fun _ _ _ h => rg hf h
variable {CX : CXT}{k:Nat}{fA : Addr}{fd : FuncData}{ps : List Str}
end
end L2
set_option maxHeartbeats 1000000
namespace L2
open PySem PySem.Spec PyProof.Rows
inductive Fl where
  | nx (r:Env') | bk (r:Env') | ct (r:Env') | rt (w:W)
inductive FlV where
  | nx (s:St) | bk (s:St) | ct (s:St) | rt (v:V)
noncomputable def RFl (K:PySem.W.Frag) (o:Wo) : Fl → FlV → Prop
  | .nx r,f => ∃ s,f = .nx s ∧ Re K o r s
  | .bk r,f => ∃ s,f = .bk s ∧ Re K o r s
  | .ct r,f => ∃ s,f = .ct s ∧ Re K o r s
  | .rt w,f => ∃ v,f = .rt v ∧ Rv K o w v
noncomputable def DQ (D:Ends) : FlV → Hp → Prop
  | .nx s,H => D.nx s H
  | .bk s,H => D.bk s H
  | .ct s,H => D.ct s H
  | .rt v,H => D.rt v H
noncomputable def tS (c:Cg) (g:Env' → M Fl) : TS := fun D σ H => tG c (RFl c.K) g σ H (DQ D)
structure JS (X:Cx) (E:XK) (e:Stmt) (f:Env' → M Fl) : Prop where
  h : PS X e (tS (cg X E) f)
structure JSs (X:Cx) (E:XK) (e:List Stmt) (f:Env' → M Fl) : Prop where
  h : PSs X e (tS (cg X E) f)
theorem PSs.imp {X:Cx}{E:XK}{e:List Stmt}{t:TS}{f:Env' → M Fl} (h:PSs X e t) (k:∀ D σ H,tS (cg X E) f D σ H → t D σ H) : JSs X E e f := ⟨fun pins s σ H D I q => h pins s σ H D I (k D σ H q)⟩
theorem PS.imp {X:Cx}{E:XK}{e:Stmt}{t:TS}{f:Env' → M Fl} (h:PS X e t) (k:∀ D σ H,tS (cg X E) f D σ H → t D σ H) : JS X E e f := ⟨fun pins s σ H D I q => h pins s σ H D I (k D σ H q)⟩
theorem aa {α β γ : Type} (a:M α) (b:α → M β) (d:β → M γ) : bd (bd a b) d = bd a fun x => bd (b x) d :=by
  funext h
  unfold bd
  cases a h <;> rfl
section
variable {X:Cx}{E:XK}{pos : Pos}
noncomputable def sNil : Env' → M Fl := fun ρ => pr (.nx ρ)
noncomputable def sSeq (f g : Env' → M Fl) : Env' → M Fl := fun ρ => bd (f ρ) fun x => match x with
  | .nx r => g r
  | x => pr x
theorem aB : JSs X E [] sNil := pss_nil.imp fun D σ H h => by
  obtain ⟨o,ρ,rfl,R,S,h⟩ := h
  exact h.pr R ⟨σ,rfl,S⟩
theorem rK {f g : Env' → M Fl}{D:Ends}{σ : St}{H:Hp} (h:tS (cg X E) (sSeq f g) D σ H) : tSeq (tS (cg X E) f) (tS (cg X E) g) D σ H :=by
  obtain ⟨o,ρ,rfl,R,S,h⟩ := h
  refine ⟨o,ρ,rfl,R,S,Ps.bd h fun p x b e1 R1 r1 h1 => ?_⟩
  cases x with
  | nx r => obtain ⟨s,rfl,re⟩ := r1; exact ⟨p,r,rfl,R1,re,h1⟩
  | bk r => have q := h1.pr R1 r1; obtain ⟨s,rfl,re⟩ := r1; exact q
  | ct r => have q := h1.pr R1 r1; obtain ⟨s,rfl,re⟩ := r1; exact q
  | rt r => have q := h1.pr R1 r1; obtain ⟨s,rfl,re⟩ := r1; exact q
theorem ah {st : Stmt}{rest : List Stmt}{f g : Env' → M Fl} (h1 : JS X E st f) (h2 : JSs X E rest g) : JSs X E (st :: rest) (sSeq f g) := (oE h1.h h2.h).imp fun D σ H h => rK h
theorem ao {st : Stmt}{f:Env' → M Fl} (h1 : JS X E st f) : JSs X E [st] f := ⟨qf h1.h⟩
variable {e:Expr}{f:Env' → M W}
noncomputable def sSet (i:Nat) (f:Env' → M W) : Env' → M Fl := fun ρ => bd (f ρ) fun w => pr (.nx (ρ.set i (some w)))
theorem ay {i:Nat}{x:Str}{pos' : Pos} (hN : X.N.Nodup) (hi : X.N[i]? = some x) (hx : Loc X.env.scope x) (he : JE X E e f) (hs : swapsWith e (some (.Name x pos')) pos.line X.env = pure false :=by rfl) (hf : X.fn x = true ∨ X.env.scope.names.lookup x = some .local :=by first | exact .inl rfl | exact .inr rfl | assumption) :
    JS X E (.Assign [.Name x pos'] e pos) (sSet i f) := (rY hN hi hx he.h hs hf).imp fun D σ H h => by
  obtain ⟨o,ρ,rfl,R,S,h⟩ := h
  exact ⟨o,ρ,rfl,R,S,Ps.bd h fun p x b e1 R1 r1 h1 => Ps.pr (b := FlV.nx (σ.set i (some b))) h1 R1 ⟨_,rfl,(S.mono R e1).set r1 i⟩⟩
noncomputable def sRet (f:Env' → M W) : Env' → M Fl := fun ρ => bd (f ρ) fun w => pr (.rt w)
theorem az (he : JE X E e f) : JS X E (.Return (some e) pos) (sRet f) := (rZ he.h).imp fun D σ H h => by
  obtain ⟨o,ρ,rfl,R,S,h⟩ := h
  exact ⟨o,ρ,rfl,R,S,Ps.bd h fun p x b e1 R1 r1 h1 => Ps.pr (b := FlV.rt b) h1 R1 ⟨_,rfl,r1⟩⟩
noncomputable def sEx (f:Env' → M W) : Env' → M Fl := fun ρ => bd (f ρ) fun _ => pr (.nx ρ)
theorem dI (he : JE X E e f) (hs : swapsWith e none pos.line X.env = pure false :=by rfl) : JS X E (.Expr e pos) (sEx f) := (qg he.h hs).imp fun D σ H h => by
  obtain ⟨o,ρ,rfl,R,S,h⟩ := h
  exact ⟨o,ρ,rfl,R,S,Ps.bd h fun p x b e1 R1 r1 h1 => Ps.pr (b := FlV.nx σ) h1 R1 ⟨_,rfl,S.mono R e1⟩⟩
noncomputable def sIf (t:Env' → M Bool) (f g : Env' → M Fl) : Env' → M Fl := fun ρ => bd (t ρ) fun b => if b = true then f ρ else g ρ
theorem aJ {c:Expr}{a b : List Stmt}{t:Env' → M Bool}{f g : Env' → M Fl} (hc : JT X E c t) (ha : JSs X E a f) (hb : JSs X E b g) : JS X E (.If c a b pos) (sIf t f g) := (ug hc.h ha.h hb.h).imp fun D σ H h => by
  obtain ⟨o,ρ,rfl,R,S,h⟩ := h
  refine ⟨o,ρ,rfl,R,S,Ps.bd h fun p x vx e1 R1 r1 h1 => ?_⟩
  subst r1
  cases x with
  | true => exact iteT ⟨p,ρ,rfl,R1,S.mono R e1,h1⟩
  | false => exact iteF ⟨p,ρ,rfl,R1,S.mono R e1,h1⟩
noncomputable def sPass : Env' → M Fl := fun ρ => pr (.nx ρ)
noncomputable def cB : Env' → M Fl := fun ρ => pr (.bk ρ)
noncomputable def sCont : Env' → M Fl := fun ρ => pr (.ct ρ)
noncomputable def bV (t:Env' → M Bool) (g:Env' → M Fl) : Nat → Env' → M Fl
  | 0,_ => no
  | n + 1,ρ => bd (t ρ) fun b => if b = true then bd (g ρ) fun x => match x with
      | .nx r => bV t g n r
      | .ct r => bV t g n r
      | .bk r => pr (.nx r)
      | .rt w => pr (.rt w)
    else pr (.nx ρ)
theorem iU (n:Nat) {c:Expr}{body : List Stmt}{t:Env' → M Bool}{g:Env' → M Fl} (hp : PassesOwn (model X.prog X.w) X.A X.env X.xe) (hc : JT X E c t) (hb : JSs X E body g) :
    JS X E (.While c body [] pos) (bV t g n) := (oF hp hc.h hb.h).imp fun D σ H h => by
  obtain ⟨o,ρ,rfl,R,S,h⟩ := h
  refine ⟨fun m σ H => ∃ o ρ,o.H = H ∧ Rel X.K o ∧ Re X.K o ρ σ ∧ Ps (cg X E) (RFl X.K) o (bV t g m ρ o.h) (DQ D),⟨n,o,ρ,rfl,R,S,h⟩,?_⟩
  rintro m σ H ⟨o,ρ,rfl,R,S,h⟩
  cases m with
  | zero => exact h.elim
  | succ m =>
    refine ⟨o,ρ,rfl,R,S,Ps.bd h fun p x vx e1 R1 r1 h1 => ?_⟩
    subst r1
    cases x with
    | false => exact iteF (Ps.pr (b := FlV.nx σ) h1 R1 ⟨_,rfl,S.mono R e1⟩)
    | true =>
      refine iteT ⟨_,fun σ' H' w => ⟨m,Nat.lt_succ_self _,w⟩,p,ρ,rfl,R1,S.mono R e1,Ps.bd h1 fun q x b e2 R2 r2 h2 => ?_⟩
      cases x with
      | nx r => obtain ⟨s,rfl,re⟩ := r2; exact ⟨q,r,rfl,R2,re,h2⟩
      | ct r => obtain ⟨s,rfl,re⟩ := r2; exact ⟨q,r,rfl,R2,re,h2⟩
      | bk r => obtain ⟨s,rfl,re⟩ := r2; exact h2.pr R2 (b := .nx s) ⟨s,rfl,re⟩
      | rt w => obtain ⟨v,rfl,rv⟩ := r2; exact h2.pr R2 (b := .rt v) ⟨v,rfl,rv⟩
structure TgOk (K:PySem.W.Frag) (m:Nat) (g:TG) (t:W → Env' → Option Env') : Prop where
  ok : ∀ (o:Wo) (w:W) (v:V) (ρ ρ2 : Env') (σ : St),Rv K o w v → Re K o ρ σ → t w ρ = some ρ2 → ∃ σ2,(∀ Q : St → Hp → Prop,Q σ2 o.H → g v σ o.H Q) ∧ Re K o ρ2 σ2 ∧ σ2.drop m = σ.drop m ∧ σ2.length = σ.length
noncomputable def tgN (i:Nat) : W → Env' → Option Env' := fun w ρ => some (ρ.set i (some w))
theorem bH {K:PySem.W.Frag} (m i : Nat) (h:i < m) : TgOk K m (gName i) (tgN i) := ⟨fun o w v ρ ρ2 σ rv re e => by
  cases e
  exact ⟨_,fun Q q => q,re.set rv i,by rw [List.drop_set_of_lt h],by rw [List.length_set]⟩⟩
noncomputable def gNs : List Nat → TGs
  | [] => gNil
  | i :: r => gCons (gName i) (gNs r)
noncomputable def setW : List Nat → List W → Env' → Option Env'
  | [],[],ρ => some ρ
  | i :: r,w :: l,ρ => setW r l (ρ.set i (some w))
  | _,_,_ => none
theorem q9 {K:PySem.W.Frag}{m:Nat}{o:Wo} : ∀ (is : List Nat) (l:List W) (vs : List V) (ρ ρ2 : Env') (σ : St),(∀ i ∈ is,i < m) → Rvs K o l vs → Re K o ρ σ → setW is l ρ = some ρ2 → ∃ σ2,(∀ Q : St → Hp → Prop,Q σ2 o.H → gNs is vs σ o.H Q) ∧ Re K o ρ2 σ2 ∧ σ2.drop m = σ.drop m ∧ σ2.length = σ.length
  | [],[],vs,ρ,ρ2,σ,_,rv,re,e => by
    unfold Rvs at rv
    cases e
    exact ⟨σ,fun Q q => ⟨rv,q⟩,re,rfl,rfl⟩
  | [],_ :: _,_,_,_,_,_,_,_,e => by cases e
  | _ :: _,[],_,_,_,_,_,_,_,e => by cases e
  | i :: is,w :: l,vs,ρ,ρ2,σ,hm,rv,re,e => by
    unfold Rvs at rv
    obtain ⟨v,r,rfl,h1,h2⟩ := rv
    obtain ⟨σ2,a,b,c,d⟩ := q9 is l r (ρ.set i (some w)) ρ2 (σ.set i (some v)) (fun j hj => hm j (List.mem_cons_of_mem _ hj)) h2 (re.set h1 i) e
    refine ⟨σ2,fun Q q => ⟨v,r,rfl,a Q q⟩,b,?_,?_⟩
    · rw [c,List.drop_set_of_lt (hm i List.mem_cons_self)]
    · rw [d,List.length_set]
noncomputable def tgT (is : List Nat) : W → Env' → Option Env' := fun w ρ => match w with
  | .tup l => setW is l ρ
  | _ => none
theorem kR : ∀ {is : List Nat}{l:List W}{ρ ρ2 : Env'},setW is l ρ = some ρ2 → l.length = is.length
  | [],[],_,_,_ => rfl
  | [],_ :: _,_,_,e => by cases e
  | _ :: _,[],_,_,e => by cases e
  | _ :: is,_ :: l,_,_,e => by rw [List.length_cons,List.length_cons,kR (is := is) (l := l) e]
theorem lU {K:PySem.W.Frag} (m:Nat) (is : List Nat) (h:∀ i ∈ is,i < m) : TgOk K m (gTup K is.length (gNs is)) (tgT is) := ⟨fun o w v ρ ρ2 σ rv re e => by
  cases w with
  | tup l =>
    unfold Rv at rv
    obtain ⟨a,vs,rfl,s,r⟩ := rv
    have e : setW is l ρ = some ρ2 := e
    obtain ⟨σ2,a1,a2,a3,a4⟩ := q9 is l vs ρ ρ2 σ h r re e
    exact ⟨σ2,fun Q q => ⟨a,vs,rfl,s,by rw [r.len,kR e],a1 Q q⟩,a2,a3,a4⟩
  | _ => cases e⟩
open Classical in
noncomputable def gdh {α : Type} (G:List Ob → Prop) (m:M α) : M α := fun h => if G h then m h else .bad
theorem eW {α : Type}{G:List Ob → Prop}{m:M α}{h:List Ob} (q:G h) : gdh G m h = m h :=by unfold gdh; rw [if_pos q]
theorem Ps.gdh {α β : Type}{c:Cg}{r:Wo → α → β → Prop}{o:Wo}{G:List Ob → Prop}{m:M α}{Q:β → Hp → Prop} (h:Ps c r o (gdh G m o.h) Q) : G o.h ∧ Ps c r o (m o.h) Q :=by
  unfold L2.gdh at h
  by_cases q : G o.h
  · rw [if_pos q] at h; exact ⟨q,h⟩
  · rw [if_neg q] at h; exact h.elim
structure Sr where
  l : List W
  G : List Ob → Prop
structure SrcOk (K:PySem.W.Frag) (o0 : Wo) (J:It) (s:Sr) : Prop where
  stop : ∀ o,Ex o0 o → Rel K o → s.G o.h → J.stop s.l.length o.H
  go : ∀ o i w,Ex o0 o → Rel K o → s.G o.h → s.l[i]? = some w → J.go i o.H ∧ ∀ x H',J.yld i o.H x H' → ∃ p,p.H = H' ∧ p.h = o.h ∧ Ex o p ∧ Rel K p ∧ Rv K p w x
noncomputable def tI (c:Cg) (src : Env' → M Sr) : TI := fun σ H R => tG c (fun p s J => SrcOk c.K p J s) src σ H R
structure JI (X:Cx) (E:XK) (tg iter : Expr) (f:Env' → M Sr) : Prop where
  h : PI X tg iter (tI (cg X E) f)
theorem PI.imp {tg iter : Expr}{t:TI}{f:Env' → M Sr} (h:PI X tg iter t) (k:∀ σ H R,tI (cg X E) f σ H R → t σ H R) : JI X E tg iter f := ⟨fun pins s σ H R I q => h pins s σ H R I (k σ H R q)⟩
noncomputable def srcL (w:W) : M Sr := match w with
  | .tl l => pr ⟨l,fun _ => True⟩
  | .cl l => pr ⟨l,fun _ => True⟩
  | .loc k => fun h => match h[k]? with
    | some (.lst l) => .ok ⟨l,fun h => h[k]? = some (.lst l)⟩ h
    | _ => .bad
  | _ => no
noncomputable def mSrc (f:Env' → M W) (g:W → M Sr) : Env' → M Sr := fun ρ => bd (f ρ) g
theorem iq {K:PySem.W.Frag}{o0 : Wo}{a:Addr}{s:Sr} (h:∀ o,Ex o0 o → Rel K o → s.G o.h → ∃ vs,SqL K o.H a vs ∧ Rvs K o s.l vs) : SrcOk K o0 (Itl K a) s :=by
  refine ⟨fun o X R g => ?_,fun o i w X R g e => ?_⟩
  · obtain ⟨vs,s,r⟩ := h o X R g
    exact ⟨vs,s,Nat.le_of_eq r.len⟩
  · obtain ⟨vs,s,r⟩ := h o X R g
    obtain ⟨v,hv,rv⟩ := r.get e
    refine ⟨⟨vs,v,s,hv⟩,fun x H' y => ?_⟩
    obtain ⟨rfl,y⟩ := y
    have : x = v :=by have := y vs s; rw [hv] at this; exact (Option.some.inj this).symm
    subst this
    exact ⟨o,rfl,rfl,Ex.refl _,R,rv⟩
theorem ic {tg l : Expr}{fl : Env' → M W} (hl : JE X E l fl) : JI X E tg l (mSrc fl srcL) := (qk hl.h).imp fun σ H Q h => by
  obtain ⟨o,ρ,rfl,R,S,h⟩ := h
  refine ⟨o,ρ,rfl,R,S,Ps.bd h fun p x vx e1 R1 r1 h1 => ?_⟩
  cases x with
  | tl l =>
    have r1' := r1
    unfold Rv at r1
    obtain ⟨a,vs,rfl,s,n,r⟩ := r1
    refine ⟨a,rfl,⟨vs,.of s⟩,h1.pr R1 (iq fun o X R g => ?_)⟩
    exact ⟨vs,.of (X.fr a _ s n).1,r.mono R1 X⟩
  | cl l =>
    unfold Rv at r1
    obtain ⟨a,vs,rfl,s,r⟩ := r1
    have sq : ∀ o,Ex p o → SqL X.K o.H a vs := fun o X => by
      rcases s with ⟨s,n⟩ | s
      · exact .inl (X.rd s n).1
      · exact .inr s
    exact ⟨a,rfl,⟨vs,sq p (Ex.refl _)⟩,h1.pr R1 (iq fun o X R g => ⟨vs,sq o X,r.mono R1 X⟩)⟩
  | loc k =>
    unfold Rv at r1
    obtain ⟨hk,rfl⟩ := r1
    unfold srcL at h1
    dsimp only at h1
    split at h1
    · rename_i l hl
      obtain ⟨vs,h3,h4⟩ := R1.ob k _ hl
      refine ⟨_,rfl,⟨vs,.of h3⟩,Ps.at (p := p) h1 rfl (Ex.refl _) R1 (iq fun o X R g => ?_)⟩
      obtain ⟨vs',h5,h6⟩ := R.ob k _ g
      rw [X.mu k hk] at h5
      exact ⟨vs',.of h5,h6⟩
    · exact h1.elim
  | _ => exact h1.elim
noncomputable def srcT (w:W) : M Sr := match w with
  | .tup l => pr ⟨l,fun _ => True⟩
  | _ => no
theorem mr {tg l : Expr}{fl : Env' → M W} (hl : JE X E l fl) : JI X E tg l (mSrc fl srcT) := (sf hl.h).imp fun σ H Q h => by
  obtain ⟨o,ρ,rfl,R,S,h⟩ := h
  refine ⟨o,ρ,rfl,R,S,Ps.bd h fun p x vx e1 R1 r1 h1 => ?_⟩
  cases x with
  | tup l =>
    unfold Rv at r1
    obtain ⟨a,vs,rfl,s,r⟩ := r1
    refine ⟨a,rfl,⟨vs,s⟩,h1.pr R1 ⟨fun o X R g => ⟨vs,X.rdT R1 s,Nat.le_of_eq r.len⟩,fun o i w X R g e => ?_⟩⟩
    obtain ⟨v,hv,rv⟩ := (r.mono R1 X).get e
    have sq := X.rdT R1 s
    refine ⟨⟨vs,v,sq,hv⟩,fun x H' y => ?_⟩
    obtain ⟨rfl,y⟩ := y
    have : x = v :=by have := y vs sq; rw [hv] at this; exact (Option.some.inj this).symm
    subst this
    exact ⟨o,rfl,rfl,Ex.refl _,R,rv⟩
  | _ => exact h1.elim
noncomputable def intsW (lo : Int) : Nat → List W
  | 0 => []
  | n + 1 => .int lo :: intsW (lo + 1) n
theorem bz : ∀ (n:Nat) (lo : Int),(intsW lo n).length = n
  | 0,_ => rfl
  | n + 1,lo => by rw [intsW,List.length_cons,bz n]
theorem cI : ∀ (n:Nat) (lo : Int) (i:Nat) (w:W),(intsW lo n)[i]? = some w → w = .int (lo + i) ∧ i < n
  | 0,_,_,_,h => by simp [intsW] at h
  | n + 1,lo,0,w,h => by rw [intsW] at h; cases h; exact ⟨by simp,Nat.succ_pos _⟩
  | n + 1,lo,i + 1,w,h => by
    rw [intsW,List.getElem?_cons_succ] at h
    obtain ⟨e,l⟩ := cI n (lo + 1) i w h
    exact ⟨by rw [e]; congr 1; omega,by omega⟩
theorem jC {K:PySem.W.Frag}{o0 : Wo}{lo : Int}{n:Nat} : SrcOk K o0 (Itr lo n) ⟨intsW lo n,fun _ => True⟩ :=by
  refine ⟨fun o X R g => ?_,fun o i w X R g e => ?_⟩
  · show n ≤ (intsW lo n).length
    rw [bz]; exact Nat.le_refl _
  · obtain ⟨rfl,hi⟩ := cI n lo i w e
    refine ⟨hi,fun x H' y => ?_⟩
    obtain ⟨rfl,rfl⟩ := y
    exact ⟨o,rfl,rfl,Ex.refl _,R,rv_int.mpr rfl⟩
noncomputable def rng1 (l:List W) : M Sr := match l with
  | [.int j] => gd (-(2 ^ 62) ≤ j ∧ j < 2 ^ 62) (pr ⟨intsW 0 j.toNat,fun _ => True⟩)
  | _ => no
noncomputable def rng2 (l:List W) : M Sr := match l with
  | [.int i,.int j] => gd (-(2 ^ 62) ≤ i ∧ i < 2 ^ 62 ∧ -(2 ^ 62) ≤ j ∧ j < 2 ^ 62) (pr ⟨intsW i (j - i).toNat,fun _ => True⟩)
  | _ => no
noncomputable def mSrcA (f:Env' → M (List W)) (g:List W → M Sr) : Env' → M Sr := fun ρ => bd (f ρ) g
theorem cu {tg a : Expr}{p pos : Pos}{fl : Env' → M (List W)} (hg : Gl X "range") (hm : X.mg "range" = none) (ha : JA X E [a] fl) (hs : starEach [a] X.env = [(false,eval a X.env)] :=by rfl) : JI X E tg (.Call (.Name "range" p) [a] [] pos) (mSrcA fl rng1) :=
  (nK hg hm ha.h hs).imp fun σ H Q h => by
  obtain ⟨o,ρ,rfl,R,S,h⟩ := h
  refine ⟨o,ρ,rfl,R,S,Ps.bd h fun p x vx e1 R1 r1 h1 => ?_⟩
  unfold rng1 at h1
  split at h1
  · obtain ⟨hz,h1⟩ := h1.gd
    unfold Rvs Rvs at r1
    obtain ⟨v,r,rfl,a1,rfl⟩ := r1
    exact ⟨_,by rw [rv_int.mp a1],hz.1,hz.2,h1.pr R1 jC⟩
  · exact h1.elim
theorem nS {tg a b : Expr}{p pos : Pos}{fl : Env' → M (List W)} (hg : Gl X "range") (hm : X.mg "range" = none) (ha : JA X E [a,b] fl) (hs : starEach [a,b] X.env = [(false,eval a X.env),(false,eval b X.env)] :=by rfl) (hs2 : starEach [b] X.env = [(false,eval b X.env)] :=by rfl) :
    JI X E tg (.Call (.Name "range" p) [a,b] [] pos) (mSrcA fl rng2) := (nJ hg hm ha.h hs hs2).imp fun σ H Q h => by
  obtain ⟨o,ρ,rfl,R,S,h⟩ := h
  refine ⟨o,ρ,rfl,R,S,Ps.bd h fun p x vx e1 R1 r1 h1 => ?_⟩
  unfold rng2 at h1
  split at h1
  · obtain ⟨hz,h1⟩ := h1.gd
    unfold Rvs Rvs Rvs at r1
    obtain ⟨v,r,rfl,a1,v',r',rfl,a2,rfl⟩ := r1
    exact ⟨_,_,by rw [rv_int.mp a1,rv_int.mp a2],hz,h1.pr R1 jC⟩
  · exact h1.elim
noncomputable def forM (G:List Ob → Prop) (t:W → Env' → Option Env') (g:Env' → M Fl) : List W → Env' → M Fl
  | [],ρ => gdh G (pr (.nx ρ))
  | w :: l,ρ => gdh G (match t w ρ with
    | none => no
    | some r => bd (g r) fun x => match x with
      | .nx r' => forM G t g l r'
      | .ct r' => forM G t g l r'
      | .bk r' => pr (.nx r')
      | .rt v => pr (.rt v))
noncomputable def sFor (src : Env' → M Sr) (t:W → Env' → Option Env') (g:Env' → M Fl) : Env' → M Fl := fun ρ => bd (src ρ) fun s => forM s.G t g s.l ρ
theorem dU {tg iter : Expr}{body : List Stmt}{src : Env' → M Sr}{t:W → Env' → Option Env'}{gT : TG}{g:Env' → M Fl}{m:Nat} (hp : PassesOwn (model X.prog X.w) X.A X.env X.xe) (hc : X.calm = true) (hi : JI X E tg iter src) (hg : PG X tg gT) (ht : TgOk X.K m gT t) (hb : JSs X E body g)
    (hs : ∀ x,foldedSetIterable iter X.env x = pure x :=by intro _; rfl) : JS X E (.For tg iter body [] pos) (sFor src t g) := (r6 hp hc hi.h hg hb.h hs).imp fun D σ H h => by
  obtain ⟨o,ρ,rfl,R,S,h⟩ := h
  refine ⟨o,ρ,rfl,R,S,Ps.bd h fun o1 s J e1 R1 sk h1 => ?_⟩
  refine ⟨fun i n σ H => n = s.l.length - i ∧ i ≤ s.l.length ∧ ∃ o ρ,o.H = H ∧ Ex o1 o ∧ Rel X.K o ∧ Re X.K o ρ σ ∧ Ps (cg X E) (RFl X.K) o (forM s.G t g (s.l.drop i) ρ o.h) (DQ D),⟨_,rfl,Nat.zero_le _,o1,ρ,rfl,Ex.refl _,R1,S.mono R e1,h1⟩,?_⟩
  rintro i n σ H ⟨rfl,hi,o,ρ,rfl,X1,R,S,h⟩
  by_cases hlt : i < s.l.length
  · obtain ⟨w,hw⟩ : ∃ w,s.l[i]? = some w := ⟨_,List.getElem?_eq_getElem hlt⟩
    have hd : s.l.drop i = w :: s.l.drop (i + 1) :=by
      rw [List.drop_eq_getElem_cons hlt]
      rw [List.getElem?_eq_getElem hlt] at hw
      rw [Option.some.inj hw]
    rw [hd] at h
    unfold forM at h
    obtain ⟨hG,h⟩ := h.gdh
    obtain ⟨hgo,hy⟩ := sk.go o i w X1 R hG hw
    refine .inr ⟨hgo,fun σ' H' => ∃ o ρ,o.H = H' ∧ Ex o1 o ∧ Rel X.K o ∧ Re X.K o ρ σ' ∧ Ps (cg X E) (RFl X.K) o (forM s.G t g (s.l.drop (i + 1)) ρ o.h) (DQ D),fun σ' H' q => ⟨_,by omega,rfl,hlt,q⟩,fun x H' y => ?_⟩
    obtain ⟨p,rfl,eh,X2,R2,rv⟩ := hy x H' y
    cases et : t w ρ with
    | none => rw [et] at h; exact h.elim
    | some r =>
      rw [et] at h
      obtain ⟨σ2,k1,k2,_,_⟩ := ht.ok p w x ρ r σ rv (S.mono R X2) et
      refine k1 _ ?_
      have h2 : Ps (cg X E) (RFl X.K) p (bd (g r) (fun x => match x with
        | .nx r' => forM s.G t g (s.l.drop (i + 1)) r'
        | .ct r' => forM s.G t g (s.l.drop (i + 1)) r'
        | .bk r' => pr (.nx r')
        | .rt v => pr (.rt v)) p.h) (DQ D) :=by rw [eh]; exact h.after X2
      refine ⟨p,r,rfl,R2,k2,Ps.bd h2 fun q x b e3 R3 r3 h3 => ?_⟩
      cases x with
      | nx r => obtain ⟨s',rfl,re⟩ := r3; exact ⟨q,r,rfl,(X1.trans X2).trans e3,R3,re,h3⟩
      | ct r => obtain ⟨s',rfl,re⟩ := r3; exact ⟨q,r,rfl,(X1.trans X2).trans e3,R3,re,h3⟩
      | bk r => obtain ⟨s',rfl,re⟩ := r3; exact h3.pr R3 (b := .nx s') ⟨s',rfl,re⟩
      | rt w => obtain ⟨v,rfl,rv⟩ := r3; exact h3.pr R3 (b := .rt v) ⟨v,rfl,rv⟩
  · have e : i = s.l.length :=by omega
    subst e
    rw [List.drop_length] at h
    unfold forM at h
    obtain ⟨hG,h⟩ := h.gdh
    exact .inl ⟨sk.stop o X1 R hG,Ps.pr (b := FlV.nx σ) h R ⟨σ,rfl,S⟩⟩
end
end L2
set_option maxHeartbeats 1000000
namespace L2
open PySem PySem.Spec PyProof.Rows
section
variable {X:Cx}{E:XK}{pos : Pos}
theorem rM {l:Env' → M (List W)}{σ : St}{H:Hp}{Q:VK} (h:tM (cg X E) (mNew l) σ H Q) : tF (cg X E) l σ H Q :=by
  obtain ⟨o,ρ,rfl,R,S,h⟩ := h
  refine ⟨o,ρ,rfl,R,S,Ps.bd h fun p x vx e1 R1 r1 h1 => fun q hq => ?_⟩
  refine Ps.at (p := p.add q (.lst x) (.lst vx)) h1 rfl (Ex.add hq) (R1.addL hq r1) ?_
  unfold Rv
  exact ⟨by show _ < (p.h ++ [_]).length; simp,by show V.ref q = V.ref (if p.h.length = p.h.length then q else _); rw [if_pos rfl]⟩
theorem rJ {i:Nat}{f:Env' → M W}{D:Ends}{σ : St}{H:Hp} (h:tS (cg X E) (sSet i f) D σ H) : tAsg (tM (cg X E) f) (gName i) D σ H :=by
  obtain ⟨o,ρ,rfl,R,S,h⟩ := h
  exact ⟨o,ρ,rfl,R,S,Ps.bd h fun p x b e1 R1 r1 h1 => Ps.pr (b := FlV.nx (σ.set i (some b))) h1 R1 ⟨_,rfl,(S.mono R e1).set r1 i⟩⟩
noncomputable def compM (G:List Ob → Prop) (t:W → Env' → Option Env') (f:Env' → M Bool) (e:Env' → M W) (n:Nat) : List W → Env' → M (List W)
  | [],ρ => gdh G (pr [])
  | w :: l,ρ => gdh G (match t w (List.replicate n none ++ ρ) with
    | none => no
    | some r => bd (f r) fun b => if b = true then bd (e r) fun x => bd (compM G t f e n l ρ) fun m => pr (x :: m) else compM G t f e n l ρ)
noncomputable def mComp (hs : List Nat) (src : Env' → M Sr) (t:W → Env' → Option Env') (f:Env' → M Bool) (e:Env' → M W) (n:Nat) : Env' → M (List W) := fun ρ =>
  gd ((hs.all fun i => (ρ[i]?.join).isNone) = true) (bd (src ρ) fun s => gd (s.l.length ≤ sizeLine) (compM s.G t f e n s.l ρ))
variable {elt iter tg : Expr}{ifs : List Expr}{scope : Scope}{ls : List Str}{gT : TG}{t:W → Env' → Option Env'}{f:Env' → M Bool}{e:Env' → M W}{src : Env' → M Sr}{hs : List Nat}{wh : Prop}
theorem mJ (ht : TgOk X.K ls.length gT t) {σ : St}{H:Hp}{Q:VK} (h:tF (cg X E) (mComp hs src t f e ls.length) σ H Q) : tComp X.N ls (tI (cg X E) src) gT (tT (cg X E) f) (tM (cg X E) e) σ H Q :=by
  obtain ⟨o,ρ,rfl,R,S,h⟩ := h
  unfold mComp at h
  obtain ⟨h0,h⟩ := h.gd
  refine ⟨rfl,o,ρ,rfl,R,S,Ps.bd h fun o1 s J e1 R1 sk h1 => ?_⟩
  obtain ⟨hz,h1⟩ := h1.gd
  have S1 := S.mono R e1
  refine ⟨fun i n ys H => n = s.l.length - i ∧ i ≤ s.l.length ∧ ∃ o acc,o.H = H ∧ Ex o1 o ∧ Rel X.K o ∧ Rvs X.K o acc ys ∧ acc.length ≤ i ∧ Ps (cg X E) (Rvs X.K) o (bd (compM s.G t f e ls.length (s.l.drop i) ρ) (fun m => pr (acc ++ m)) o.h) (fun vs H1 => ∀ q,H1 q = none → Q (.ref q) (upd H1 q (.lst vs))),
    ⟨_,rfl,Nat.zero_le _,o1,[],rfl,Ex.refl _,R1,Rvs.nil,Nat.le_refl _,?_⟩,?_⟩
  · have : bd (compM s.G t f e ls.length (s.l.drop 0) ρ) (fun m => pr ([] ++ m)) = compM s.G t f e ls.length s.l ρ := by
      funext h
      rw [List.drop_zero]
      unfold bd
      cases compM s.G t f e ls.length s.l ρ h <;> rfl
    rw [this]; exact h1
  rintro i n ys H ⟨rfl,hi,o,acc,rfl,X1,R,A,ha,h⟩
  have S2 := S1.mono R1 X1
  have gs : ∀ {α β γ : Type}{r:Wo → β → γ → Prop}{m:M α}{k:α → M β}{Q' : γ → Hp → Prop},Ps (cg X E) r o (bd (gdh s.G m) k o.h) Q' → s.G o.h ∧ Ps (cg X E) r o (bd m k o.h) Q' := fun {α β γ r m k Q'} q => by
    have : bd (gdh s.G m) k o.h = gdh s.G (bd m k) o.h :=by
      unfold bd L2.gdh
      by_cases z : s.G o.h
      · simp only [if_pos z]
      · simp only [if_neg z]
    rw [this] at q
    exact q.gdh
  by_cases hlt : i < s.l.length
  · obtain ⟨w,hw⟩ : ∃ w,s.l[i]? = some w := ⟨_,List.getElem?_eq_getElem hlt⟩
    have hd : s.l.drop i = w :: s.l.drop (i + 1) :=by
      rw [List.drop_eq_getElem_cons hlt]
      rw [List.getElem?_eq_getElem hlt] at hw
      rw [Option.some.inj hw]
    rw [hd] at h
    unfold compM at h
    obtain ⟨hG,h⟩ := gs h
    obtain ⟨hgo,hy⟩ := sk.go o i w X1 R hG hw
    refine .inr ⟨hgo,fun ys' H' => ∃ o acc,o.H = H' ∧ Ex o1 o ∧ Rel X.K o ∧ Rvs X.K o acc ys' ∧ acc.length ≤ i + 1 ∧ Ps (cg X E) (Rvs X.K) o (bd (compM s.G t f e ls.length (s.l.drop (i + 1)) ρ) (fun m => pr (acc ++ m)) o.h) (fun vs H1 => ∀ q,H1 q = none → Q (.ref q) (upd H1 q (.lst vs))),fun ys' H' q => ⟨_,by omega,rfl,hlt,q⟩,fun x H' y => ?_⟩
    obtain ⟨p,rfl,eh,X2,R2,rv⟩ := hy x H' y
    cases et : t w (List.replicate ls.length none ++ ρ) with
    | none => rw [et] at h; exact h.elim
    | some r =>
      rw [et] at h
      obtain ⟨σ2,k1,k2,k3,k4⟩ := ht.ok p w x _ r (List.replicate ls.length none ++ σ) rv ((S2.mono R X2).front _) et
      refine k1 _ ⟨?_,?_,?_⟩
      · rw [k3,List.drop_left' (by rw [List.length_replicate])]
      · rw [k4,List.length_append,List.length_replicate]
      have h2 : Ps (cg X E) (Rvs X.K) p (bd (f r) (fun b => bd (if b = true then bd (e r) fun x => bd (compM s.G t f e ls.length (s.l.drop (i + 1)) ρ) fun m => pr (x :: m) else compM s.G t f e ls.length (s.l.drop (i + 1)) ρ) fun m => pr (acc ++ m)) p.h) (fun vs H1 => ∀ q,H1 q = none → Q (.ref q) (upd H1 q (.lst vs))) :=by
        rw [eh]
        rw [aa] at h
        exact h.after X2
      refine ⟨p,r,rfl,R2,k2,Ps.bd h2 fun q b vb e3 R3 r3 h3 => ?_⟩
      subst r3
      have A3 := (A.mono R X2).mono R2 e3
      cases b with
      | false =>
        exact iteF ⟨q,acc,rfl,(X1.trans X2).trans e3,R3,A3,by omega,h3⟩
      | true =>
        rw [if_pos rfl,aa] at h3
        refine iteT ⟨q,r,rfl,R3,k2.mono R2 e3,Ps.bd h3 fun q2 x vx e4 R4 r4 h4 => ⟨?_,q2,acc ++ [x],rfl,((X1.trans X2).trans e3).trans e4,R4,(A3.mono R3 e4).app (Rvs.cons r4 Rvs.nil),?_,?_⟩⟩
        · rw [(A3.mono R3 e4).len]; omega
        · rw [List.length_append,List.length_singleton]; omega
        · rw [aa] at h4
          have ee : (fun m => bd (pr (x :: m)) fun m => pr (acc ++ m)) = (fun m : List W => (pr (acc ++ [x] ++ m) : M (List W))) :=by
            funext m h
            show Rs.ok (acc ++ (x :: m)) h = Rs.ok (acc ++ [x] ++ m) h
            rw [List.append_assoc]; rfl
          rw [ee] at h4
          exact h4
  · have ei : i = s.l.length :=by omega
    subst ei
    rw [List.drop_length] at h
    unfold compM at h
    obtain ⟨hG,h⟩ := gs h
    have h : Ps (cg X E) (Rvs X.K) o (pr (acc ++ []) o.h) (fun vs H1 => ∀ q,H1 q = none → Q (.ref q) (upd H1 q (.lst vs))) := h
    rw [List.append_nil] at h
    exact .inl ⟨sk.stop o X1 R hG,h.pr R A⟩
structure JQ (X:Cx) (E:XK) (ifs : List Expr) (f:Env' → M Bool) : Prop where
  h : PIfs X ifs (tT (cg X E) f)
noncomputable def mYes : Env' → M Bool := fun _ => pr true
theorem fO : JQ X E [] mYes := ⟨fun pins s σ H Q I h => qj pins s σ H Q I (by
  obtain ⟨o,ρ,rfl,R,S,h⟩ := h
  exact Ps.pr (b := true) h R rfl)⟩
theorem ie (hcalm : X.calm = true) (S:CScope X ls scope) (hi : JI X E tg iter src) (hg : ∀ C s2 H2 fp,PG (cxC X ls scope C s2 H2 fp) tg gT) (ht : TgOk X.K ls.length gT t)
    (hf : ∀ C s2 H2 fp,JQ (cxC X ls scope C s2 H2 fp) E ifs f) (he : ∀ C s2 H2 fp,JE (cxC X ls scope C s2 H2 fp) E elt e) (hh : wh)
    (hs' : ∀ x,foldedSetIterable iter X.env x = pure x :=by intro _; rfl) : JF X E (.ListComp elt [⟨tg,iter,ifs,0⟩] scope pos) (mComp hs src t f e ls.length) :=
  (qp hcalm S hi.h hg (fun C s2 H2 fp => (hf C s2 H2 fp).h) (fun C s2 H2 fp => (he C s2 H2 fp).h) hs').impF fun σ H Q h => mJ ht h
theorem jI {i:Nat}{x:Str}{px spos : Pos} (hN : X.N.Nodup) (hx1 : X.N[i]? = some x) (hx : X.env.scope.names.lookup x = some .local) (hcalm : X.calm = true) (S:CScope X ls scope) (hi : JI X E tg iter src) (hg : ∀ C s2 H2 fp,PG (cxC X ls scope C s2 H2 fp) tg gT) (ht : TgOk X.K ls.length gT t)
    (hf : ∀ C s2 H2 fp,JQ (cxC X ls scope C s2 H2 fp) E ifs f) (he : ∀ C s2 H2 fp,JE (cxC X ls scope C s2 H2 fp) E elt e) (hh : wh)
    (hsw : swapsWith (.ListComp elt [⟨tg,iter,ifs,0⟩] scope pos) (some (.Name x px)) spos.line X.env = pure true :=by rfl)
    (hs' : ∀ x,foldedSetIterable iter X.env x = pure x :=by intro _; rfl) : JS X E (.Assign [.Name x px] (.ListComp elt [⟨tg,iter,ifs,0⟩] scope pos) spos) (sSet i (mNew (mComp hs src t f e ls.length))) :=
  (lV hN hx1 hx hcalm S hi.h hg (fun C s2 H2 fp => (hf C s2 H2 fp).h) (fun C s2 H2 fp => (he C s2 H2 fp).h) hsw hs').imp fun D σ H h => mJ ht (rM (rJ h))
end
end L2
set_option maxHeartbeats 1000000
namespace L2
open PySem PySem.Spec PyProof.Rows
section
variable {X:Cx}{E:XK}{pos p : Pos}{a b : Expr}{l:Env' → M (List W)}
theorem Rvs.one {K:PySem.W.Frag}{o:Wo}{w:W}{vs : List V} (h:Rvs K o [w] vs) : ∃ v,vs = [v] ∧ Rv K o w v :=by
  unfold Rvs Rvs at h; obtain ⟨v,r,rfl,h1,rfl⟩ := h; exact ⟨v,rfl,h1⟩
theorem Rvs.two {K:PySem.W.Frag}{o:Wo}{w x : W}{vs : List V} (h:Rvs K o [w,x] vs) : ∃ v u,vs = [v,u] ∧ Rv K o w v ∧ Rv K o x u :=by
  unfold Rvs Rvs Rvs at h; obtain ⟨v,r,rfl,h1,u,r2,rfl,h2,rfl⟩ := h; exact ⟨v,u,rfl,h1,h2⟩
noncomputable def lenW (ws : List W) : M W := match ws with
  | [.str z] => gd (z.length ≤ sizeLine) (pr (.int z.length))
  | [.tup l] => pr (.int l.length)
  | [w] => bd (lstOf w) fun l => pr (.int l.length)
  | _ => no
theorem tJ : CallM X E (fun xs H Q => (fun xs H Q => ∃ z,xs = [.str z] ∧ z.length ≤ sizeLine ∧ Q (.int z.length) H) xs H Q ∨ (fun xs H Q => ∃ p ys,xs = [.ref p] ∧ (SqL X.K H p ys ∨ SqT X.K H p ys) ∧ Q (.int ys.length) H) xs H Q) lenW :=by
  intro o ws vs Q R rv h
  unfold lenW at h
  split at h
  · obtain ⟨v,rfl,r⟩ := rv.one
    obtain ⟨hz,h⟩ := h.gd
    exact .inl ⟨_,by rw [rv_str.mp r],hz,h.pr R (rv_int.mpr rfl)⟩
  · obtain ⟨v,rfl,r⟩ := rv.one
    unfold Rv at r
    obtain ⟨a,us,rfl,s,r⟩ := r
    exact .inr ⟨a,us,rfl,.inr s,by rw [r.len]; exact h.pr R (rv_int.mpr rfl)⟩
  · obtain ⟨v,rfl,r⟩ := rv.one
    obtain ⟨l,a,us,rfl,s,r,h⟩ := eL R r h
    exact .inr ⟨a,us,rfl,.inl s,by rw [r.len]; exact h.pr R (rv_int.mpr rfl)⟩
  · exact h.elim
theorem bC (hm : X.mg "len" = none) (ha : JA X E [a] l) (hg : Gl X "len" := by rfl) (he : starEach [a] X.env = (false,eval a X.env) :: starEach [] X.env :=by rfl) (hpl : (backTo pos (starEach [] X.env)).any (·.1) = false :=by rfl) : JE X E (.Call (.Name "len" p) [a] [] pos) (mCall lenW l) :=
  gv (call_len_str.or kG) tJ hg hm PySem.boot_len ha (he := he) (hpl := hpl)
noncomputable def intW (ws : List W) : M W := match ws with
  | [.int i] => pr (.int i)
  | [.bl k] => pr (.int (if k then 1 else 0))
  | [.str z] => match PySem.intText? z with
    | some n => gd (z.length ≤ 640) (pr (.int n))
    | none => no
  | _ => no
theorem tK : CallM X E (fun xs H Q => ((∃ i,xs = [.int i] ∧ Q (.int i) H) ∨ ∃ k,xs = [.bl k] ∧ Q (.int (if k then 1 else 0)) H) ∨ (fun xs H Q => ∃ (z:Str) (n:Int),xs = [.str z] ∧ PySem.intText? z = some n ∧ z.length ≤ 640 ∧ Q (.int n) H) xs H Q) intW :=by
  intro o ws vs Q R rv h
  unfold intW at h
  split at h
  · obtain ⟨v,rfl,r⟩ := rv.one
    exact .inl (.inl ⟨_,by rw [rv_int.mp r],h.pr R (rv_int.mpr rfl)⟩)
  · obtain ⟨v,rfl,r⟩ := rv.one
    exact .inl (.inr ⟨_,by rw [rv_bl.mp r],h.pr R (rv_int.mpr rfl)⟩)
  · obtain ⟨v,rfl,r⟩ := rv.one
    rename_i z
    cases hn : PySem.intText? z with
    | some n =>
      rw [hn] at h
      obtain ⟨hz,h⟩ := h.gd
      exact .inr ⟨_,n,by rw [rv_str.mp r],hn,hz,h.pr R (rv_int.mpr rfl)⟩
    | none => rw [hn] at h; exact h.elim
  · exact h.elim
theorem mV (hm : X.mg "int" = none) (ha : JA X E [a] l) (hg : Gl X "int" := by rfl) (he : starEach [a] X.env = (false,eval a X.env) :: starEach [] X.env :=by rfl) (hpl : (backTo pos (starEach [] X.env)).any (·.1) = false :=by rfl) : JE X E (.Call (.Name "int" p) [a] [] pos) (mCall intW l) :=
  jK (call_int1.or kH) tK hg hm PyProof.Rows.boot_int ha (he := he) (hpl := hpl)
noncomputable def absW (ws : List W) : M W := match ws with
  | [.int i] => pr (.int (if i < 0 then -i else i))
  | _ => no
theorem sQ (hm : X.mg "abs" = none) (ha : JA X E [a] l) (hg : Gl X "abs" := by rfl) (he : starEach [a] X.env = (false,eval a X.env) :: starEach [] X.env :=by rfl) (hpl : (backTo pos (starEach [] X.env)).any (·.1) = false :=by rfl) : JE X E (.Call (.Name "abs" p) [a] [] pos) (mCall absW l) :=
  gv pN (fun o ws vs Q R rv h => by
    unfold absW at h
    split at h
    · obtain ⟨v,rfl,r⟩ := rv.one
      exact ⟨_,by rw [rv_int.mp r],h.pr R (rv_int.mpr rfl)⟩
    · exact h.elim) hg hm PyProof.Rows.boot_abs ha (he := he) (hpl := hpl)
noncomputable def maxW (ws : List W) : M W := match ws with
  | [.int i,.int j] => pr (.int (if j > i then j else i))
  | _ => no
theorem sP (hc : X.calm = true) (hm : X.mg "max" = none) (ha : JA X E [a,b] l) (hg : Gl X "max" := by rfl) (he : starEach [a,b] X.env = (false,eval a X.env) :: starEach [b] X.env :=by rfl) (hpl : (backTo pos (starEach [b] X.env)).any (·.1) = false :=by rfl) : JE X E (.Call (.Name "max" p) [a,b] [] pos) (mCall maxW l) :=
  gv (oi hc) (fun o ws vs Q R rv h => by
    unfold maxW at h
    split at h
    · obtain ⟨v,u,rfl,r1,r2⟩ := rv.two
      exact ⟨_,_,by rw [rv_int.mp r1,rv_int.mp r2],h.pr R (rv_int.mpr rfl)⟩
    · exact h.elim) hg hm PyProof.Rows.boot_max ha (he := he) (hpl := hpl)
noncomputable def iOf : W → Option Int
  | .int i => some i
  | _ => none
noncomputable def sOf : W → Option Str
  | .str i => some i
  | _ => none
noncomputable def eP (ws : List W) : M W := match ws with
  | [.tup l] => pr (.tup l)
  | [w] => bd (lstOf w) fun l => pr (.tup l)
  | _ => no
theorem iY (hm : X.mg "tuple" = none) (ha : JA X E [a] l) (hg : Gl X "tuple" := by rfl) (he : starEach [a] X.env = (false,eval a X.env) :: starEach [] X.env :=by rfl) (hpl : (backTo pos (starEach [] X.env)).any (·.1) = false :=by rfl) : JE X E (.Call (.Name "tuple" p) [a] [] pos) (mCall eP l) :=
  jK jv (fun o ws vs Q R rv h => by
    unfold eP at h
    split at h
    · obtain ⟨v,rfl,r⟩ := rv.one
      have r0 := r
      unfold Rv at r
      obtain ⟨a,us,rfl,s,r⟩ := r
      exact ⟨a,us,rfl,.inr ⟨s,h.pr R r0⟩⟩
    · obtain ⟨v,rfl,r⟩ := rv.one
      obtain ⟨l,a,us,rfl,s,r,h⟩ := eL R r h
      exact ⟨a,us,rfl,.inl ⟨s,fun q hq => j2 R hq r h⟩⟩
    · exact h.elim) hg hm PyProof.Rows.boot_tuple ha (he := he) (hpl := hpl)
noncomputable def listL (l:Env' → M (List W)) : Env' → M (List W) := fun ρ => bd (l ρ) fun ws => match ws with
  | [.tup l] => pr l
  | [w] => lstOf w
  | _ => no
theorem o9 {o:Wo}{w:W}{v:V}{Q:List V → Hp → Prop} (R:Rel X.K o) (hr : Rv X.K o w v) (h:Ps (cg X E) (Rvs X.K) o (lstOf w o.h) Q) : ∃ l a vs,v = .ref a ∧ SqL X.K o.H a vs ∧ Rvs X.K o l vs ∧ Q vs o.H :=by
  have e : lstOf w = bd (lstOf w) fun l => pr l :=by
    funext h
    unfold bd
    cases lstOf w h <;> rfl
  rw [e] at h
  obtain ⟨l,a,vs,e1,e2,e3,h⟩ := eL R hr h
  exact ⟨l,a,vs,e1,e2,e3,h.pr R e3⟩
theorem gu (hm : X.mg "list" = none) (ha : JA X E [a] l) (hg : Gl X "list" := by rfl) (he : starEach [a] X.env = (false,eval a X.env) :: starEach [] X.env :=by rfl) (hpl : (backTo pos (starEach [] X.env)).any (·.1) = false :=by rfl) : JF X E (.Call (.Name "list" p) [a] [] pos) (listL l) :=
  (gK kF hg hm PyProof.Rows.boot_list ha.h (he := he) (hpl := hpl)).impF fun σ H Q h => by
    obtain ⟨o,ρ,rfl,R,S,h⟩ := h
    refine ⟨o,ρ,rfl,R,S,Ps.bd h fun p x vx e1 R1 r1 h1 => ?_⟩
    split at h1
    · obtain ⟨v,rfl,r⟩ := r1.one
      unfold Rv at r
      obtain ⟨a,us,rfl,s,r⟩ := r
      exact ⟨a,us,rfl,.inr s,h1.pr R1 r⟩
    · obtain ⟨v,rfl,r⟩ := r1.one
      obtain ⟨l,a,us,rfl,s,r,q⟩ := o9 R1 r h1
      exact ⟨a,us,rfl,.inl s,q⟩
    · exact h1.elim
noncomputable def isS (w:W) : M W := match w with
  | .str z => pr (.str z)
  | _ => no
noncomputable def mMeth (chk : W → M W) (f:W → List W → M W) (fo : Env' → M W) (l:Env' → M (List W)) : Env' → M W := fun ρ => bd (fo ρ) fun x => bd (chk x) fun x => bd (l ρ) fun ws => f x ws
variable {o e : Expr}{es : List Expr}{apos cpos : Pos}{fo : Env' → M W}
noncomputable def isL (w:W) : M W := match w with
  | .loc k => fun h => match h[k]? with
    | some (.lst _) => .ok (.loc k) h
    | _ => .bad
  | _ => no
theorem my {α β : Type}{r:Wo → α → β → Prop}{o:Wo}{w:W}{v:V}{k:W → M α}{Q:β → Hp → Prop} (R:Rel X.K o) (hr : Rv X.K o w v) (h:Ps (cg X E) r o (bd (isL w) k o.h) Q) :
    ∃ j l vs,w = .loc j ∧ o.h[j]? = some (.lst l) ∧ v = .ref (o.mu j) ∧ j < o.h.length ∧ o.H (o.mu j) = some (.lst vs) ∧ Rvs X.K o l vs ∧ Ps (cg X E) r o (k (.loc j) o.h) Q :=by
  cases w with
  | loc j =>
    unfold Rv at hr
    unfold isL bd at h
    cases e : o.h[j]? with
    | none => simp only [e] at h; exact h.elim
    | some b =>
      cases b with
      | lst l =>
        simp only [e] at h
        obtain ⟨vs,h1,h2⟩ := R.ob j _ e
        exact ⟨j,l,vs,rfl,e,hr.2,hr.1,h1,h2,h⟩
      | _ => simp only [e] at h; exact h.elim
  | _ => exact h.elim
noncomputable def bU (x:W) (ws : List W) : M W := match x,ws with
  | .loc k,[w] => fun h => match h[k]? with
    | some (.lst l) => if l.length < sizeLine then .ok .non (h.set k (.lst (l ++ [w]))) else .bad
    | _ => .bad
  | _,_ => no
theorem di (ho : JE X E o fo) (ha : JA X E [e] l) (hbase : attributeBase o "append" X.env (eval o X.env) = eval o X.env :=by rfl)
    (hfew : ((backTo cpos (starEach [e] X.env)).all (fun x => !x.1) && (backToKw cpos (keywordEach [] X.env)).all (fun x => x.1.isSome) && decide (([e] : List Expr).length + ([] : List Keyword).length + (if ([] : List Keyword).isEmpty then 0 else 1) < 30)) = true :=by rfl)
    (hline : (apos.endLine == cpos.line) = true :=by rfl) (hs : starEach [e] X.env = (false,eval e X.env) :: starEach [] X.env :=by rfl) (hplain : (backTo cpos (starEach [] X.env)).any (·.1) = false :=by rfl) :
    JE X E (.Call (.Attribute o "append" apos) [e] [] cpos) (mMeth isL bU fo l) :=
  (mR PySem.F.plainAttrs_list PySem.F.slot_list_append PySem.F.type_list_append nQ ho.h ha.h hbase hfew hline hs hplain).imp fun σ H Q h => by
    obtain ⟨w,ρ,rfl,R,S,h⟩ := h
    refine ⟨w,ρ,rfl,R,S,Ps.bd h fun p x vx e1 R1 r1 h1 => ?_⟩
    obtain ⟨j,l0,vs0,rfl,hj,rfl,hlt,hH,hl0,h1⟩ := my R1 r1 h1
    refine ⟨.inl ⟨rfl,vs0,.of hH⟩,p,ρ,rfl,R1,S.mono R e1,Ps.bd h1 fun q ws vs e2 R2 r2 h2 => ?_⟩
    rcases ws with _ | ⟨w',_ | ⟨_,_⟩⟩
    · exact h2.elim
    · unfold bU at h2
      cases e : q.h[j]? with
      | none => simp only [e] at h2; exact h2.elim
      | some b =>
        cases b with
        | lst l' =>
          simp only [e] at h2
          obtain ⟨v,rfl,r⟩ := r2.one
          obtain ⟨us,k1,k2⟩ := R2.ob j _ e
          by_cases z : l'.length < sizeLine
          · rw [if_pos z] at h2
            rw [e2.mu j hlt] at k1
            refine ⟨p.mu j,us,v,rfl,rfl,k1,by rw [k2.len]; exact z,?_⟩
            have := Ps.at (p := q.put j (.lst (l' ++ [w'])) (.lst (us ++ [v]))) (b := V.non) h2 rfl (Ex.put e (by simp)) (R2.putL e (by simp) (k2.app (Rvs.cons r Rvs.nil))) (rv_non.mpr rfl)
            have em : q.mu j = p.mu j := e2.mu j hlt
            have ew : (q.put j (.lst (l' ++ [w'])) (.lst (us ++ [v]))).H = upd q.H (p.mu j) (.lst (us ++ [v])) :=by
              show upd q.H (q.mu j) _ = _
              rw [em]
            rw [ew] at this
            exact this
          · rw [if_neg z] at h2; exact h2.elim
        | _ => simp only [e] at h2; exact h2.elim
    · exact h2.elim
noncomputable def iceW (w:W) : M W := match w with
  | .loc k => fun h => match h[k]? with
    | some (.lst l) => .ok (.tl l) (h.set k .gone)
    | some (.dic ks ws) => .ok (.dv ks ws) (h.set k .gone)
    | _ => .bad
  | w => pr w
theorem rN {f:Env' → M W}{σ : St}{H:Hp}{Q:VK} (h:tM (cg X E) (m1 iceW f) σ H Q) : tM (cg X E) f σ H Q :=by
  obtain ⟨o,ρ,rfl,R,S,h⟩ := h
  refine ⟨o,ρ,rfl,R,S,Ps.bd h fun p x vx e1 R1 r1 h1 => ?_⟩
  cases x with
  | loc k =>
    unfold Rv at r1
    obtain ⟨_,rfl⟩ := r1
    unfold iceW at h1
    dsimp only at h1
    split at h1
    · rename_i l hl
      exact Ps.at (p := p.ice k) h1 rfl Ex.ice R1.ice (Rv.iceL R1 hl)
    · rename_i ks ws hl
      exact Ps.at (p := p.ice k) h1 rfl Ex.ice R1.ice (Rv.iceD R1 hl)
    · exact h1.elim
  | _ => exact Ps.pr (c := cg X E) h1 R1 r1
theorem gc {f:Env' → M W}{e:Expr} (h:JE X E e f) : JE X E e (m1 iceW f) := h.h.imp fun _ _ _ q => rN q
noncomputable def mapAt : List Key → List W → Key → W → List W
  | k :: ks,w :: ws,x,y => (if k = x then y else w) :: mapAt ks ws x y
  | _,_,_,_ => []
noncomputable def putW (ks : List Key) (ws : List W) (x:Key) (y:W) : List Key × List W := if (ks.any fun k => decide (k = x)) = true then (ks,mapAt ks ws x y) else (ks ++ [x],ws ++ [y])
noncomputable def gI (x i v : W) : M Unit := match x with
  | .loc k => fun h => match h[k]? with
    | some (.lst l) => match i with
      | .int n => match ixN l.length n with
        | some j => .ok () (h.set k (.lst (l.set j v)))
        | none => .bad
      | _ => .bad
    | some (.dic ks ws) => match keyOf i with
      | some q => if ks.length < sizeLine then .ok () (h.set k (.dic (putW ks ws q v).1 (putW ks ws q v).2)) else .bad
      | none => .bad
    | _ => .bad
  | _ => no
noncomputable def rSetD : TSet := fun o i v H Q => ∃ a H',o = .ref a ∧ DPut H a i v H' ∧ Q H'
theorem ot (hu : X.A.units + 1 < cLine) : PSet X rSetD :=by
  intro pins s σ H o i v ov iv u Q I ro ri rv h
  obtain ⟨a,H',rfl,g,q⟩ := h
  cases ro
  exact og hu I g ri rv fun s4 I4 => ⟨H',I4,q⟩
theorem PSet.or {t t' : TSet} (h:PSet X t) (h' : PSet X t') : PSet X (fun o i v H Q => t o i v H Q ∨ t' o i v H Q) :=by
  intro pins s σ H o i v ov iv u Q I ro ri rv q
  rcases q with q | q
  · exact h pins s σ H o i v ov iv u Q I ro ri rv q
  · exact h' pins s σ H o i v ov iv u Q I ro ri rv q
theorem lG {K:PySem.W.Frag}{o:Wo}{x:Key}{y:W}{v:V} (hy : Rv K o y v) : ∀ {ks : List Key}{ws : List W}{kvs : List (Key × V)},kvs.map (·.1) = ks → Rvs K o ws (kvs.map (·.2)) → Rvs K o (mapAt ks ws x y) ((kvs.map fun kv => if kv.1 = x then (kv.1,v) else kv).map (·.2))
  | _,ws,[],e,h => by subst e; unfold mapAt; exact Rvs.nil
  | _,ws,(k,u) :: r,e,h => by
    subst e
    cases ws with
    | nil => unfold Rvs at h; cases h
    | cons w ws =>
      unfold Rvs at h
      obtain ⟨u',r',e',h1,h2⟩ := h
      cases e'
      have ih := lG (x := x) hy (ks := r.map (·.1)) (ws := ws) (kvs := r) rfl h2
      show Rvs K o ((if k = x then y else w) :: mapAt (r.map (·.1)) ws x y) ((if k = x then (k,v) else (k,u)).2 :: _)
      by_cases z : k = x
      · rw [if_pos z,if_pos z]; exact Rvs.cons hy ih
      · rw [if_neg z,if_neg z]; exact Rvs.cons h1 ih
theorem mO {K:PySem.W.Frag}{o:Wo}{x:Key}{y:W}{v:V}{ks : List Key}{ws : List W}{kvs : List (Key × V)} (hy : Rv K o y v) (hk : kvs.map (·.1) = ks) (h:Rvs K o ws (kvs.map (·.2))) :
    (putK kvs x v).map (·.1) = (putW ks ws x y).1 ∧ Rvs K o (putW ks ws x y).2 ((putK kvs x v).map (·.2)) :=by
  subst hk
  have ea : ((kvs.map (·.1)).any fun k => decide (k = x)) = (kvs.any fun kv => decide (kv.1 = x)) :=by rw [List.any_map]; rfl
  unfold putK putW
  rw [ea]
  by_cases z : (kvs.any fun kv => decide (kv.1 = x)) = true
  · rw [if_pos z,if_pos z]
    refine ⟨?_,lG hy rfl h⟩
    rw [List.map_map]
    refine List.map_congr_left fun kv _ => ?_
    show (if kv.1 = x then (kv.1,v) else kv).1 = kv.1
    split <;> rfl
  · rw [if_neg z,if_neg z]
    refine ⟨by simp,?_⟩
    show Rvs K o (ws ++ [y]) ((kvs ++ [(x,v)]).map (·.2))
    rw [List.map_append]
    exact h.app (Rvs.cons hy Rvs.nil)
noncomputable def bn (fo fi fv : Env' → M W) : Env' → M Fl := fun ρ => bd (fv ρ) fun v => bd (fo ρ) fun x => bd (fi ρ) fun i => bd (gI x i v) fun _ => pr (.nx ρ)
variable {i value : Expr}{tpos : Pos}{fi fv : Env' → M W}
theorem d8 (hu : X.A.units + 1 < cLine) (ho : JE X E o fo) (hi : JE X E i fi) (hv : JE X E value fv)
    (ha : ∀ v,assign (.Subscript o i tpos) X.env v = (do
      let ov ← holding [v] (eval o X.env)
      let iv ← holding [v,ov] (eval i X.env)
      standAt tpos
      holding [v,ov,iv] (setItem ov iv v)
      release [v,ov,iv] []) :=by intro _; rfl)
    (hs : swapsWithSole [.Subscript o i tpos] value pos.line X.env = pure false :=by rfl) (hw : swappedStores [.Subscript o i tpos] value X.env = pure none :=by rfl)
    (h1 : (assignEach [.Subscript o i tpos] X.env).map (·.2) = [assign (.Subscript o i tpos) X.env] :=by rfl) : JS X E (.Assign [.Subscript o i tpos] value pos) (bn fo fi fv) :=
  (oG hv.h (sh ho.h hi.h (set_list.or (ot hu)) ha) hs hw h1).imp fun D σ H h => by
    obtain ⟨w,ρ,rfl,R,S,h⟩ := h
    refine ⟨w,ρ,rfl,R,S,Ps.bd h fun p v vv e1 R1 r1 h1 => ⟨p,ρ,rfl,R1,S.mono R e1,Ps.bd h1 fun q x vx e2 R2 r2 h2 => ⟨q,ρ,rfl,R2,(S.mono R e1).mono R1 e2,Ps.bd h2 fun s i vi e3 R3 r3 h3 => ?_⟩⟩⟩
    have S3 := ((S.mono R e1).mono R1 e2).mono R2 e3
    have rv := (r1.mono R1 e2).mono R2 e3
    have rx := r2.mono R2 e3
    cases x with
    | loc k =>
      unfold Rv at rx
      obtain ⟨hk,rfl⟩ := rx
      unfold gI bd at h3
      cases e : s.h[k]? with
      | none => simp only [e] at h3; exact h3.elim
      | some b =>
        cases b with
        | ins c ns ws => simp only [e] at h3; exact h3.elim
        | gone => simp only [e] at h3; exact h3.elim
        | lst l =>
          simp only [e] at h3
          cases i with
          | int n =>
            simp only at h3
            cases ej : ixN l.length n with
            | none => simp only [ej] at h3; exact h3.elim
            | some j =>
              simp only [ej] at h3
              obtain ⟨us,k1,k2⟩ := R3.ob k _ e
              refine .inl ⟨_,us,n,j,rfl,rv_int.mp r3,k1,by rw [k2.len]; exact ej,?_⟩
              exact Ps.at (p := s.put k (.lst (l.set j v)) (.lst (us.set j vv))) (b := FlV.nx σ) h3 rfl (Ex.put e (by simp)) (R3.putL e (by simp) (k2.set rv j)) ⟨σ,rfl,S3.mono R3 (Ex.put e (by simp))⟩
          | _ => exact h3.elim
        | dic ks ws =>
          simp only [e] at h3
          cases ej : keyOf i with
          | none => simp only [ej] at h3; exact h3.elim
          | some x =>
            simp only [ej] at h3
            by_cases z : ks.length < sizeLine
            · simp only [if_pos z] at h3
              obtain ⟨kvs,k1,k2,k3⟩ := R3.ob k _ e
              rw [gA ej r3]
              obtain ⟨b1,b2⟩ := mO (x := x) rv k2 k3
              refine .inr ⟨_,_,rfl,.inl ⟨kvs,x,k1,rfl,by rw [← k2,List.length_map] at z; exact z,rfl⟩,?_⟩
              exact Ps.at (p := s.put k (.dic (putW ks ws x v).1 (putW ks ws x v).2) (.dK (putK kvs x vv))) (b := FlV.nx σ) h3 rfl (Ex.put e (by simp)) (R3.putD e (by simp) b1 b2) ⟨σ,rfl,S3.mono R3 (Ex.put e (by simp))⟩
            · simp only [if_neg z] at h3; exact h3.elim
    | _ => exact h3.elim
end
end L2
set_option maxHeartbeats 1000000
namespace L2
open PySem PySem.Spec PyProof.Rows
noncomputable def runF (n:Nat) (g:Env' → M Fl) (ws : List W) : M W := bd (g (ws.map some ++ List.replicate (n - ws.length) none)) fun x => match x with
  | .rt w => pr w
  | .nx _ => pr .non
  | _ => no
section
variable {P:Program}{w:World}{K:PySem.W.Frag}{mg : Str → Option Value}{base : Heap}{x qual : Str}{st : Stmt}{f:Addr}{fd : FuncData}{N ps : List Str}{k:Nat}{g:Env' → M Fl}
noncomputable def spM0 (K:PySem.W.Frag) (mg : Str → Option Value) (n:Nat) (f:List W → M W) : Sp := fun vs H Q _ => ∃ o ws,o.H = H ∧ ws.length = n ∧ Rel K o ∧ Rvs K o ws vs ∧ Ps ⟨K,mg,E0⟩ (Rv K) o (f ws o.h) Q
theorem bE {n m : Nat}{fn : List W → M W} (F:Fun K x qual st f fd) (S:FnScope N ps (ap st)) (hn : N.length = n) (hm : ps.length = m) (hf : fn = runF n g)
    (hb : ∀ (cdv : Value) (A:Around) (outer : List Env) (s:Shared) (H:Hp) (E:XK),Room k (A.deeper (envOfC qual (ap st) s.heap.objs.size f cdv)) → JSs (cxOf CX0 P w K mg base N qual (ap st) f cdv A outer s H E).nox E0 (aI st) g) :
    FnOk P w K mg base CX0 (k + 1) f fd ps (spM0 K mg m fn) :=by
  subst hn hm hf
  refine F.ok S (fun vs H Q E h => ?_) (fun cdv A outer s H vs Q E hr h => ?_)
  · obtain ⟨o,ws,_,hl,_,rv,_⟩ := h
    rw [rv.len,hl]
  · obtain ⟨o,ws,rfl,hl,R,rv,h⟩ := h
    refine ⟨_,(hb cdv A outer s o.H E hr).h,?_⟩
    have e : start N vs = vs.map some ++ List.replicate (N.length - ws.length) none :=by unfold start; rw [rv.len]
    rw [e]
    refine ⟨o,_,rfl,R,Re.args _ rv,Ps.bd h fun p x b e1 R1 r1 h1 => ?_⟩
    cases x with
    | rt w => obtain ⟨v,rfl,r⟩ := r1; exact h1.pr R1 r
    | nx r => obtain ⟨s,rfl,r⟩ := r1; exact h1.pr R1 (rv_non.mpr rfl)
    | bk r => exact h1.elim
    | ct r => exact h1.elim
theorem kD {m:Nat}{fn : List W → M W} (h:∀ ws h,fn ws h = .bad) : FnOk P w K mg base CX0 k f fd ps (spM0 K mg m fn) :=by
  have no : ∀ vs H Q E,¬ spM0 K mg m fn vs H Q E := fun vs H Q E ⟨o,ws,_,_,_,_,q⟩ => by rw [h] at q; exact q
  exact ⟨fun vs H Q E h => absurd h (no vs H Q E),fun A outer s H args us vs Q E _ _ _ _ h => absurd h (no vs H Q E)⟩
structure CG (P:Program) (w:World) (K:PySem.W.Frag) (mg : Str → Option Value) (base : Heap) (k:Nat) (x:Str) (f:Addr) (fd : FuncData) (ps : List Str) (m:Nat) (fn : List W → M W) : Prop where
  ok : FnOk P w K mg base CX0 k f fd ps (spM0 K mg m fn)
  bi : Binds K fd ps []
  kp : PySem.W.keepIn K (.ref f) = true
  mg : mg x = some (.ref f)
end
noncomputable def arW (n:Nat) (f:List W → M W) (ws : List W) : M W := if ws.length = n then f ws else no
section
variable {X:Cx}{p pos : Pos}{e:Expr}{es : List Expr}{l:Env' → M (List W)}{f:List W → M W}{k:Nat}{fA : Addr}{fd : FuncData}{ps : List Str}{x:Str}
theorem au {m:Nat} (C:CG X.prog X.w X.K X.mg X.base k x fA fd ps m f) (hr : Room k X.A) (ha : JA X E0 (e :: es) l) (hg : Gl X x :=by rfl)
    (hdb : (x == ("__debug__" : Str)) = false :=by decide) (he : starEach (e :: es) X.env = (false,eval e X.env) :: starEach es X.env :=by rfl) (hpl : (backTo pos (starEach es X.env)).any (·.1) = false :=by rfl) :
    JE X E0 (.Call (.Name x p) (e :: es) [] pos) (mCall (arW m f) l) := (qr C.ok hr hg C.mg C.kp C.bi .nil pass0 ha.h hdb he hpl).imp fun σ H Q h => by
  obtain ⟨o,ρ,rfl,R,S,h⟩ := h
  refine ⟨o,ρ,rfl,R,S,Ps.bd h fun p x vx e1 R1 r1 h1 => ?_⟩
  unfold arW at h1
  by_cases z : x.length = m
  · rw [if_pos z] at h1
    exact ⟨p,x,rfl,z,R1,by rw [List.append_nil]; exact r1,h1⟩
  · rw [if_neg z] at h1
    exact h1.elim
end
section
variable {X:Cx}{E:XK}{p pos : Pos}
noncomputable def chars (z:Str) : List W := z.cps.toList.map fun c => .str ⟨#[c]⟩
noncomputable def srcS (w:W) : M Sr := match w with
  | .str z => pr ⟨chars z,fun _ => True⟩
  | _ => no
noncomputable def numd (n:Int) : List W → List W
  | [] => []
  | w :: l => .tup [.int n,w] :: numd (n + 1) l
noncomputable def enumL (ws : List W) : M Sr := match ws with
  | [w] => bd (srcL w) fun s => pr ⟨numd 0 s.l,s.G⟩
  | _ => no
noncomputable def sUnp (t:W → Env' → Option Env') (f:Env' → M W) : Env' → M Fl := fun ρ => bd (f ρ) fun w => match t w ρ with
  | some r => pr (.nx r)
  | none => no
theorem oZ {tg e : Expr}{m:Nat}{gT : TG}{t:W → Env' → Option Env'}{f:Env' → M W} (he : JE X E e f) (hg : PG X tg gT) (ht : TgOk X.K m gT t) (hs : swapsWithSole [tg] e pos.line X.env = pure false :=by rfl) (hw : swappedStores [tg] e X.env = pure none :=by rfl)
    (h1 : (assignEach [tg] X.env).map (·.2) = [assign tg X.env] :=by rfl) : JS X E (.Assign [tg] e pos) (sUnp t f) := (oG he.h hg hs hw h1).imp fun D σ H h => by
  obtain ⟨o,ρ,rfl,R,S,h⟩ := h
  refine ⟨o,ρ,rfl,R,S,Ps.bd h fun p x vx e1 R1 r1 h1 => ?_⟩
  cases et : t x ρ with
  | none => rw [et] at h1; exact h1.elim
  | some r =>
    rw [et] at h1
    obtain ⟨σ2,k1,k2,_,_⟩ := ht.ok p x vx ρ r σ r1 (S.mono R e1) et
    exact k1 _ (Ps.pr (b := FlV.nx σ2) h1 R1 ⟨σ2,rfl,k2⟩)
noncomputable def tyN (w:W) (h:List Ob) : Option String := match w with
  | .non => some "NoneType"
  | .bl _ => some "bool"
  | .int _ => some "int"
  | .str _ => some "str"
  | .tl _ => some "list"
  | .loc k => match h[k]? with
    | some (.lst _) => some "list"
    | some (.dic _ _) => some "dict"
    | _ => none
  | _ => none
noncomputable def isT (t c : String) : Bool := t == c || (t == "bool" && c == "int")
noncomputable def tys : List String := ["int", "str", "bool", "list", "tuple", "dict"]
noncomputable def isiW (ws : List W) : M W := match ws with
  | [.tup _,.ty c] => gd (c ∈ tys) (pr (.bl (isT "tuple" c)))
  | [x,.ty c] => fun h => match tyN x h with
    | some t => if c ∈ tys then .ok (.bl (isT t c)) h else .bad
    | none => .bad
  | _ => no
theorem pj {K:PySem.W.Frag}{t c : String} (ht : t ∈ "NoneType" :: tys) (hc : c ∈ tys) : PySem.W.kitOne K (.type t) (.type c) = some (isT t c) :=by
  simp only [tys,List.mem_cons,List.not_mem_nil,or_false] at ht hc
  rcases ht with rfl | rfl | rfl | rfl | rfl | rfl | rfl <;> rcases hc with rfl | rfl | rfl | rfl | rfl | rfl <;> kernel_rfl
end
end L2
set_option maxHeartbeats 1000000
namespace L2
open PySem PySem.Spec PyProof.Rows
section
variable {X:Cx}{E:XK}{p pos : Pos}{a b : Expr}{l:Env' → M (List W)}
noncomputable def rIsT (K:PySem.W.Frag) : List V → Hp → VK → Prop := fun xs H Q => ∃ (a:Addr) (ys : List V) (c:String) (k:Bool),xs = [.ref a,.ty c] ∧ SqT K H a ys ∧ PySem.W.kitOne K (.type "tuple") (.type c) = some k ∧ Q (.bl k) H
theorem oj : CallR X (.builtin "isinstance") (rIsT X.K) :=by
  intro pins s σ H xs us Q I r h
  obtain ⟨a,ys,c,k,rfl,hq,e,q⟩ := h
  obtain ⟨u,u',rfl,ru,ru'⟩ := vals2 r
  cases ru
  cases ru'
  obtain ⟨its,rv,⟨o,e1,e2,n,e3⟩,hz⟩ := I.tuple hq
  exact PySem.W.kia_one PySem.W.kitx_tuple I.kIn ⟨o,e1,e2⟩ e (fun z => nomatch z) fun tk => ⟨.bl k,H,I.tok tk,rfl,q⟩
theorem rF {o:Wo}{w:W}{v:V}{t:String} (R:Rel X.K o) (h:Rv X.K o w v) (e:tyN w o.h = some t) : TyOf X.K o.H v (.type t) ∧ t ∈ "NoneType" :: tys :=by
  cases w with
  | non => cases e; rw [rv_non.mp h]; exact ⟨.non,by decide⟩
  | bl _ => cases e; rw [rv_bl.mp h]; exact ⟨.bl _,by decide⟩
  | int _ => cases e; rw [rv_int.mp h]; exact ⟨.int _,by decide⟩
  | str _ => cases e; rw [rv_str.mp h]; exact ⟨.str _,by decide⟩
  | tl _ => cases e; unfold Rv at h; obtain ⟨a,vs,rfl,s,_⟩ := h; exact ⟨.lst s,by decide⟩
  | loc k =>
    unfold Rv at h
    obtain ⟨_,rfl⟩ := h
    unfold tyN at e
    dsimp only at e
    split at e
    · rename_i l hl
      cases e
      obtain ⟨vs,h1,_⟩ := R.ob k _ hl
      exact ⟨.lst h1,by decide⟩
    · rename_i ks ws hl
      cases e
      obtain ⟨vs,h1,_⟩ := R.ob k _ hl
      exact ⟨.dK h1,by decide⟩
    · cases e
  | _ => cases e
theorem eF (hm : X.mg "isinstance" = none) (ha : JA X E [a,b] l) (hg : Gl X "isinstance" := by rfl) (he : starEach [a,b] X.env = (false,eval a X.env) :: starEach [b] X.env :=by rfl) (hpl : (backTo pos (starEach [b] X.env)).any (·.1) = false :=by rfl) : JE X E (.Call (.Name "isinstance" p) [a,b] [] pos) (mCall isiW l) :=
  gv (call_isinst.or oj) (fun o ws vs Q R rv h => by
    unfold isiW at h
    split at h
    · rename_i l c
      obtain ⟨v,u,rfl,r1,r2⟩ := rv.two
      obtain ⟨hc,h⟩ := h.gd
      unfold Rv at r1
      obtain ⟨a,us,rfl,s,r⟩ := r1
      rw [rv_ty.mp r2]
      exact .inr ⟨a,us,c,_,rfl,s,pj (by decide) hc,h.pr R (rv_bl.mpr rfl)⟩
    · rename_i x c _
      obtain ⟨v,u,rfl,r1,r2⟩ := rv.two
      dsimp only at h
      cases e : tyN x o.h with
      | none => rw [e] at h; exact h.elim
      | some t =>
        rw [e] at h
        by_cases hc : c ∈ tys
        · simp only [if_pos hc] at h
          obtain ⟨ty,hm⟩ := rF R r1 e
          rw [rv_ty.mp r2]
          exact .inl ⟨v,.ty c,.type c,.type t,_,rfl,rfl,ty,pj hm hc,Ps.pr (c := cg X E) (r := Rv X.K) (a := W.bl (isT t c)) h R (rv_bl.mpr rfl)⟩
        · simp only [if_neg hc] at h; exact h.elim
    · exact h.elim) hg hm PyProof.Rows.boot_isinstance ha (he := he) (hpl := hpl)
theorem fU {x:Str}{T:String} (hm : X.mg x = none) (hv : bootBuiltins x = some (.type T)) (hg : Gl X x :=by rfl) (hn : x ≠ "__name__" := by decide) (hd : (x == ("__debug__" : Str)) = false :=by decide) : JE X E (.Name x pos) (mC (.ty T)) :=
  (qt (v := .ty T) hg hm hv rfl hn hd).imp fun _ _ _ h => nD (fun o => rv_ty.mpr rfl) h
noncomputable def mDNew : Env' → M W := fun _ h => .ok (.loc h.length) (h ++ [.dic [] []])
theorem Rv.addLoc {K:PySem.W.Frag}{o:Wo}{q:Addr}{b:Ob}{u:HO} : Rv K (o.add q b u) (.loc o.h.length) (.ref q) :=by
  unfold Rv
  exact ⟨by show _ < (o.h ++ [b]).length; simp,by show V.ref q = V.ref (if o.h.length = o.h.length then q else _); rw [if_pos rfl]⟩
theorem qI : JE X E (.Dict [] [] pos) mDNew := pe_dnewK.imp fun σ H Q h => by
  obtain ⟨o,ρ,rfl,R,S,h⟩ := h
  intro q hq
  exact Ps.at (p := o.add q (.dic [] []) (.dK [])) h rfl (Ex.add hq) (R.addD hq rfl Rvs.nil) Rv.addLoc
end
end L2
set_option maxHeartbeats 1000000
namespace L2
open PySem PySem.Spec PyProof.Rows
section
variable {X:Cx}{E:XK}{p pos : Pos}{a b c : Expr}{fa fb fc : Env' → M W}
noncomputable def cH (f g : W → W → M W) (fa fb fc : Env' → M W) : Env' → M W := fun ρ => bd (fa ρ) fun x => bd (fb ρ) fun y => bd (f x y) fun z => bd (asB z) fun k => if k = true then bd (fc ρ) fun w => g y w else pr (.bl false)
end
section
variable {es : List Expr}{env : Env}{pos : Pos}
theorem aD {c k p} : starEach (.Constant c k p :: es) env = (false,eval (.Constant c k p) env) :: starEach es env :=by rfl
theorem ai {c p} : starEach (.Name c p :: es) env = (false,eval (.Name c p) env) :: starEach es env :=by rfl
theorem cy {a o b p} : starEach (.BinOp a o b p :: es) env = (false,eval (.BinOp a o b p) env) :: starEach es env :=by rfl
theorem p0 {a o b p} : starEach (.Compare a o b p :: es) env = (false,eval (.Compare a o b p) env) :: starEach es env :=by rfl
theorem bc {a o b p} : starEach (.Call a o b p :: es) env = (false,eval (.Call a o b p) env) :: starEach es env :=by rfl
theorem aT {a o p} : starEach (.Subscript a o p :: es) env = (false,eval (.Subscript a o p) env) :: starEach es env :=by rfl
theorem fE {a o p} : starEach (.Tuple a o p :: es) env = (false,eval (.Tuple a o p) env) :: starEach es env :=by rfl
theorem p5 {a g s p} : starEach (.ListComp a g s p :: es) env = (false,eval (.ListComp a g s p) env) :: starEach es env :=by rfl
theorem ak : (backTo pos (starEach [] env)).any (·.1) = false :=by rfl
theorem aj {e:Expr} (hs : starEach (e :: es) env = (false,eval e env) :: starEach es env) (h:(backTo pos (starEach es env)).any (·.1) = false) : (backTo pos (starEach (e :: es) env)).any (·.1) = false :=by
  rw [hs]
  show ((false || (backTo pos (starEach es env)).any (·.1)) : Bool) = false
  rw [h]; rfl
end
section
variable {P:Program}{w:World}{K:PySem.W.Frag}{mg : Str → Option Value}{base : Heap}{x:Str}{f:Addr}{fd : FuncData}{ps : List Str}{k:Nat}{sp : Sp}{fn : List W → M W}
end
end L2
set_option maxHeartbeats 1000000
namespace L2
open PySem PySem.Spec PyProof.Rows
section
variable {X:Cx}{E:XK}{p pos : Pos}{a b : Expr}{l:Env' → M (List W)}{CF : Addr}{raised : List Str}
variable {x n f : Str}{e b0 : Expr}{es : List Expr}{s0 : Stmt}{suite : List Stmt}{np hpos tpos epos : Pos}{fn : List W → M W}{g:Env' → M Fl}{k i m : Nat}{fA : Addr}{fd : FuncData}{ps : List Str}
noncomputable def catL (fa fb : Env' → M W) : Env' → M (List W) := fun ρ => bd (fa ρ) fun x => bd (fb ρ) fun y => bd (lstO x) fun a => bd (lstO y) fun b => gd (a.length + b.length ≤ sizeLine) (pr (a ++ b))
theorem o3 {fa fb : Env' → M W} (ha : JE X E a fa) (hb : JE X E b fb) : JF X E (.BinOp a .Add b pos) (catL fa fb) := (rj oT ha.h hb.h).impF fun σ H Q h => by
  obtain ⟨o,ρ,rfl,R,S,h⟩ := h
  refine ⟨o,ρ,rfl,R,S,Ps.bd h fun p x vx e1 R1 r1 h1 => ⟨p,ρ,rfl,R1,S.mono R e1,Ps.bd h1 fun q y vy e2 R2 r2 h2 => ?_⟩⟩
  obtain ⟨l,a,vs,rfl,s1,r3,h3⟩ := gw R2 (r1.mono R1 e2) h2
  obtain ⟨m,b,us,rfl,s2,r4,h4⟩ := gw R2 r2 h3
  obtain ⟨hz,h4⟩ := h4.gd
  exact ⟨a,b,vs,us,rfl,rfl,s1,s2,by rw [r3.len,r4.len]; exact hz,h4.pr R2 (r3.app r4)⟩
end
end L2
set_option maxHeartbeats 1000000
namespace L2
open PySem
theorem dq {α β : Type}{f:M α}{g:α → M β}{h h' : List Ob}{a:α} (e:f h = .ok a h') : bd f g h = g a h' :=by unfold bd; rw [e]
@[simp] theorem bd_pr {α β : Type} (a:α) (g:α → M β) : bd (pr a) g = g a := rfl
@[simp] theorem bd_no {α β : Type} (g:α → M β) : bd (no : M α) g = no := rfl
theorem aE {α : Type}{p:Prop} [Decidable p] {m:M α} (hp : p) : gd p m = m :=by funext h; unfold gd; rw [if_pos hp]
@[simp] theorem addW_int (i j : Int) : addW (.int i) (.int j) = pr (.int (i + j)) := rfl
theorem lR {a b : Str} (h:a.length + b.length ≤ sizeLine) : addW (.str a) (.str b) = pr (.str (a ++ b)) :=by unfold addW; exact aE h
@[simp] theorem subW_int (i j : Int) : subW (.int i) (.int j) = pr (.int (i - j)) := aE trivial
theorem eK {i j : Int} (h:CMulA i j) : mulW (.int i) (.int j) = pr (.int (i * j)) :=by unfold mulW; exact aE h
theorem sM {i j : Int} (h1 : -(2 ^ 64) < i) (h2 : i < 2 ^ 64) : CMulA i j := .inl (.inl ⟨h1,h2⟩)
theorem mo {i j : Int} (h1 : -(2 ^ 64) < j) (h2 : j < 2 ^ 64) : CMulA i j := .inl (.inr ⟨h1,h2⟩)
theorem gW {i j : Int} (h1 : 0 < j) (h2 : j < 2 ^ 200) : fdivW (.int i) (.int j) = pr (.int (i / j)) := aE ⟨h1,h2⟩
theorem bM {i j : Int} (h1 : 0 < j) : modW (.int i) (.int j) = pr (.int (i % j)) := aE h1
theorem iE {i j : Int} (h:CPow i j) : powW (.int i) (.int j) = pr (.int (i ^ j.toNat)) := aE h
@[simp] theorem ltW_int (i j : Int) : ltW (.int i) (.int j) = pr (.bl (decide (i < j))) := aE trivial
@[simp] theorem leW_int (i j : Int) : leW (.int i) (.int j) = pr (.bl (decide (i ≤ j))) := aE trivial
@[simp] theorem gtW_int (i j : Int) : gtW (.int i) (.int j) = pr (.bl (decide (j < i))) := aE trivial
@[simp] theorem geW_int (i j : Int) : geW (.int i) (.int j) = pr (.bl (decide (j ≤ i))) := aE trivial
@[simp] theorem asB_bl (b:Bool) : asB (.bl b) = pr b := rfl
@[simp] theorem eqW_int (i j : Int) : eqW (.int i) (.int j) = pr (.bl (decide (i = j))) :=by
  funext h
  show Rs.ok (W.bl (decide (V.int i = V.int j))) h = Rs.ok (W.bl (decide (i = j))) h
  congr 2
  rw [decide_eq_decide]
  exact ⟨V.int.inj,congrArg _⟩
@[simp] theorem eqW_str (i j : Str) : eqW (.str i) (.str j) = pr (.bl (decide (i = j))) :=by
  funext h
  show Rs.ok (W.bl (decide (V.str i = V.str j))) h = Rs.ok (W.bl (decide (i = j))) h
  congr 2
  rw [decide_eq_decide]
  exact ⟨V.str.inj,congrArg _⟩
@[simp] theorem neW_int (i j : Int) : neW (.int i) (.int j) = pr (.bl (!decide (i = j))) :=by
  funext h
  show Rs.ok (W.bl (!decide (V.int i = V.int j))) h = Rs.ok (W.bl (!decide (i = j))) h
  congr 3
  rw [decide_eq_decide]
  exact ⟨V.int.inj,congrArg _⟩
@[simp] theorem neW_str (i j : Str) : neW (.str i) (.str j) = pr (.bl (!decide (i = j))) :=by
  funext h
  show Rs.ok (W.bl (!decide (V.str i = V.str j))) h = Rs.ok (W.bl (!decide (i = j))) h
  congr 3
  rw [decide_eq_decide]
  exact ⟨V.str.inj,congrArg _⟩
@[simp] theorem neW_bl (i j : Bool) : neW (.bl i) (.bl j) = pr (.bl (!decide (i = j))) :=by
  funext h
  show Rs.ok (W.bl (!decide (V.bl i = V.bl j))) h = Rs.ok (W.bl (!decide (i = j))) h
  congr 3
  rw [decide_eq_decide]
  exact ⟨V.bl.inj,congrArg _⟩
theorem eG {l:List W}{i:Int}{w:W} (h:atI l i = some w) : ixW (.tl l) (.int i) = pr w :=by
  funext hh
  unfold ixW
  have : ixO (.tl l) (.int i) hh = some w := h
  rw [this]; rfl
theorem ck {l:List W}{i:Int}{w:W} (h:atI l i = some w) : ixW (.tup l) (.int i) = pr w :=by
  funext hh
  unfold ixW
  have : ixO (.tup l) (.int i) hh = some w := h
  rw [this]; rfl
theorem dL {z:Str}{i:Int}{c:Nat} (hz : z.length ≤ sizeLine) (h:atI z.cps.toList i = some c) : ixW (.str z) (.int i) = pr (.str ⟨#[c]⟩) :=by
  funext hh
  unfold ixW
  have : ixO (.str z) (.int i) hh = some (.str ⟨#[c]⟩) :=by
    show (if z.length ≤ sizeLine then (atI z.cps.toList i).map fun c => W.str ⟨#[c]⟩ else none) = _
    rw [if_pos hz,h]; rfl
  rw [this]; rfl
theorem pY {z:Str}{lo hi : Option Int} (hz : z.length ≤ sizeLine) : slW (.str z) lo hi = pr (.str (StrLaws.sliceText z lo hi)) := aE hz
@[simp] theorem slW_tl (l:List W) (lo hi : Option Int) : slW (.tl l) lo hi = pr (.tl (cutW l lo hi)) := rfl
@[simp] theorem slW_cl (l:List W) (lo hi : Option Int) : slW (.cl l) lo hi = pr (.tl (cutW l lo hi)) := rfl
@[simp] theorem lenW_tl (l:List W) : lenW [.tl l] = pr (.int l.length) := rfl
@[simp] theorem lenW_tup (l:List W) : lenW [.tup l] = pr (.int l.length) := rfl
theorem pc {z:Str} (hz : z.length ≤ sizeLine) : lenW [.str z] = pr (.int z.length) := aE hz
theorem pS {n:Nat}{f:List W → M W}{ws : List W} (h:ws.length = n) : arW n f ws = f ws := if_pos h
theorem iW {α : Type} (f:α → W) (l:List α) (d:α) {i:Int} (h0 : 0 ≤ i) (h:i < l.length) : atI (l.map f) i = some (f (l.getD i.toNat d)) :=by
  have hi : i.toNat < l.length :=by omega
  have e : atI (l.map f) ((i.toNat : Nat) : Int) = some (f (l.getD i.toNat d)) := da (by rw [List.getElem?_map,List.getElem?_eq_getElem hi,List.getD_eq_getElem?_getD,List.getElem?_eq_getElem hi]; rfl)
  have e2 : ((i.toNat : Nat) : Int) = i :=by omega
  rw [e2] at e; exact e
theorem cU {α : Type}{xs : List α}{i:Int}{v:α} (h0 : 0 ≤ i) (h:xs[i.toNat]? = some v) : atI xs i = some v :=by
  have q := da h
  have e : ((i.toNat : Nat) : Int) = i :=by omega
  rw [e] at q; exact q
theorem fq {α : Type}{l:List α}{i:Int} (h0 : 0 ≤ i) (h:i < l.length) : ∃ c,c ∈ l ∧ atI l i = some c := ⟨l[i.toNat]'(by omega),List.getElem_mem _,cU h0 (by rw [List.getElem?_eq_getElem])⟩
noncomputable def finF : Fl → M W := fun x => match x with
  | .rt w => pr w
  | .nx _ => pr .non
  | _ => no
theorem gdn0 {α : Type} (m:M α) : gd (0 ≤ sizeLine) m = m := aE (by decide)
theorem gdn1 {α : Type} (m:M α) : gd (0 + 1 ≤ sizeLine) m = m := aE (by decide)
theorem gdn2 {α : Type} (m:M α) : gd (0 + 1 + 1 ≤ sizeLine) m = m := aE (by decide)
theorem gdn3 {α : Type} (m:M α) : gd (0 + 1 + 1 + 1 ≤ sizeLine) m = m := aE (by decide)
theorem gdn4 {α : Type} (m:M α) : gd (0 + 1 + 1 + 1 + 1 ≤ sizeLine) m = m := aE (by decide)
theorem gdn5 {α : Type} (m:M α) : gd (0 + 1 + 1 + 1 + 1 + 1 ≤ sizeLine) m = m := aE (by decide)
theorem gdn6 {α : Type} (m:M α) : gd (0 + 1 + 1 + 1 + 1 + 1 + 1 ≤ sizeLine) m = m := aE (by decide)
theorem gdn7 {α : Type} (m:M α) : gd (0 + 1 + 1 + 1 + 1 + 1 + 1 + 1 ≤ sizeLine) m = m := aE (by decide)
theorem gdn8 {α : Type} (m:M α) : gd (0 + 1 + 1 + 1 + 1 + 1 + 1 + 1 + 1 ≤ sizeLine) m = m := aE (by decide)
theorem gdn9 {α : Type} (m:M α) : gd (0 + 1 + 1 + 1 + 1 + 1 + 1 + 1 + 1 + 1 ≤ sizeLine) m = m := aE (by decide)
theorem gdn10 {α : Type} (m:M α) : gd (0 + 1 + 1 + 1 + 1 + 1 + 1 + 1 + 1 + 1 + 1 ≤ sizeLine) m = m := aE (by decide)
theorem gdn11 {α : Type} (m:M α) : gd (0 + 1 + 1 + 1 + 1 + 1 + 1 + 1 + 1 + 1 + 1 + 1 ≤ sizeLine) m = m := aE (by decide)
theorem gdn12 {α : Type} (m:M α) : gd (0 + 1 + 1 + 1 + 1 + 1 + 1 + 1 + 1 + 1 + 1 + 1 + 1 ≤ sizeLine) m = m := aE (by decide)
theorem gdn13 {α : Type} (m:M α) : gd (0 + 1 + 1 + 1 + 1 + 1 + 1 + 1 + 1 + 1 + 1 + 1 + 1 + 1 ≤ sizeLine) m = m := aE (by decide)
theorem gdn14 {α : Type} (m:M α) : gd (0 + 1 + 1 + 1 + 1 + 1 + 1 + 1 + 1 + 1 + 1 + 1 + 1 + 1 + 1 ≤ sizeLine) m = m := aE (by decide)
theorem gdn15 {α : Type} (m:M α) : gd (0 + 1 + 1 + 1 + 1 + 1 + 1 + 1 + 1 + 1 + 1 + 1 + 1 + 1 + 1 + 1 ≤ sizeLine) m = m := aE (by decide)
theorem gdn16 {α : Type} (m:M α) : gd (0 + 1 + 1 + 1 + 1 + 1 + 1 + 1 + 1 + 1 + 1 + 1 + 1 + 1 + 1 + 1 + 1 ≤ sizeLine) m = m := aE (by decide)
theorem gdn17 {α : Type} (m:M α) : gd (0 + 1 + 1 + 1 + 1 + 1 + 1 + 1 + 1 + 1 + 1 + 1 + 1 + 1 + 1 + 1 + 1 + 1 ≤ sizeLine) m = m := aE (by decide)
theorem gdn18 {α : Type} (m:M α) : gd (0 + 1 + 1 + 1 + 1 + 1 + 1 + 1 + 1 + 1 + 1 + 1 + 1 + 1 + 1 + 1 + 1 + 1 + 1 ≤ sizeLine) m = m := aE (by decide)
theorem gdn19 {α : Type} (m:M α) : gd (0 + 1 + 1 + 1 + 1 + 1 + 1 + 1 + 1 + 1 + 1 + 1 + 1 + 1 + 1 + 1 + 1 + 1 + 1 + 1 ≤ sizeLine) m = m := aE (by decide)
theorem gdn20 {α : Type} (m:M α) : gd (0 + 1 + 1 + 1 + 1 + 1 + 1 + 1 + 1 + 1 + 1 + 1 + 1 + 1 + 1 + 1 + 1 + 1 + 1 + 1 + 1 ≤ sizeLine) m = m := aE (by decide)
theorem gdn21 {α : Type} (m:M α) : gd (0 + 1 + 1 + 1 + 1 + 1 + 1 + 1 + 1 + 1 + 1 + 1 + 1 + 1 + 1 + 1 + 1 + 1 + 1 + 1 + 1 + 1 ≤ sizeLine) m = m := aE (by decide)
theorem gdn22 {α : Type} (m:M α) : gd (0 + 1 + 1 + 1 + 1 + 1 + 1 + 1 + 1 + 1 + 1 + 1 + 1 + 1 + 1 + 1 + 1 + 1 + 1 + 1 + 1 + 1 + 1 ≤ sizeLine) m = m := aE (by decide)
theorem gdn23 {α : Type} (m:M α) : gd (0 + 1 + 1 + 1 + 1 + 1 + 1 + 1 + 1 + 1 + 1 + 1 + 1 + 1 + 1 + 1 + 1 + 1 + 1 + 1 + 1 + 1 + 1 + 1 ≤ sizeLine) m = m := aE (by decide)
theorem gdn24 {α : Type} (m:M α) : gd (0 + 1 + 1 + 1 + 1 + 1 + 1 + 1 + 1 + 1 + 1 + 1 + 1 + 1 + 1 + 1 + 1 + 1 + 1 + 1 + 1 + 1 + 1 + 1 + 1 ≤ sizeLine) m = m := aE (by decide)
theorem dP {α : Type}{m:M α}{inst : Decidable (true = true)} : @gd α (true = true) inst m = m := @aE α (true = true) inst m rfl
theorem aN {src : Env' → M Sr}{t:W → Env' → Option Env'}{f:Env' → M Bool}{e:Env' → M W}{n:Nat}{ρ : Env'} : mComp [] src t f e n ρ = bd (src ρ) fun s => gd (s.l.length ≤ sizeLine) (compM s.G t f e n s.l ρ) :=by unfold mComp; exact aE rfl
end L2
set_option maxHeartbeats 1000000
namespace L2
open PySem
theorem oQ {α : Type}{f:W → Option α}{g:α → W} (hf : ∀ a,f (g a) = some a) : ∀ l : List α,optL f (l.map g) = some l
  | [] => rfl
  | a :: l => by
    show (match f (g a),optL f (l.map g) with
      | some b,some r => some (b :: r)
      | _,_ => none) = _
    rw [hf,oQ hf l]
theorem d5 {β : Type}{α : Type}{f:W → Option β}{g:α → W}{k:α → β} (hf : ∀ a,f (g a) = some (k a)) : ∀ l : List α,optL f (l.map g) = some (l.map k)
  | [] => rfl
  | a :: l => by
    show (match f (g a),optL f (l.map g) with
      | some b,some r => some (b :: r)
      | _,_ => none) = _
    rw [hf,d5 hf l]; rfl
theorem fB {α : Type}{g:α → W}{k:α → V} (hf : ∀ a,vOf (g a) = some (k a)) : ∀ l : List α,vsOf (l.map g) = some (l.map k)
  | [] => rfl
  | a :: l => by
    show (match vOf (g a),vsOf (l.map g) with
      | some v,some vs => some (v :: vs)
      | _,_ => none) = _
    rw [hf,fB hf l]; rfl
theorem oe {l m : List W}{ds es : List PyData}{h:List Ob} (h1 : optL (dataH h 49) l = some ds) (h2 : optL (dataH h 49) m = some es) (c1 : PyData.canLayAll0 ds = true) (c2 : PyData.canLayAll0 es = true) : eqB (.tl l) (.tl m) h = some (PyData.eqvAll ds es) :=by
  show (match (optL (dataH h 49) l).map PyData.list,(optL (dataH h 49) m).map PyData.list with
    | some d,some e => if d.canLay0 = true ∧ e.canLay0 = true then some (PyData.eqv d e) else none
    | _,_ => none) = _
  rw [h1,h2]
  show (if (PyData.list ds).canLay0 = true ∧ (PyData.list es).canLay0 = true then some (PyData.eqv (.list ds) (.list es)) else none) = _
  rw [if_pos ⟨by rw [PyData.canLay0]; exact c1,by rw [PyData.canLay0]; exact c2⟩,PyData.eqv]
theorem jm {α : Type}{k:α → PyData} : ∀ (l:List α),(∀ a ∈ l,(k a).canLay0 = true) → PyData.canLayAll0 (l.map k) = true
  | [],_ => by rw [List.map_nil,PyData.canLayAll0]
  | a :: l,h => by rw [List.map_cons,PyData.canLayAll0,h a List.mem_cons_self,jm l fun b hb => h b (List.mem_cons_of_mem _ hb)]; rfl
end L2
set_option maxHeartbeats 1000000
namespace L2
open PySem PySem.Spec PyProof.Rows
section
variable {X:Cx}{E:XK}{p pos : Pos}
noncomputable def enumT (ws : List W) : M Sr := match ws with
  | [w] => bd (srcT w) fun s => pr ⟨numd 0 s.l,s.G⟩
  | _ => no
noncomputable def findW (x:W) (ws : List W) : M W := match x,ws with
  | .str a,[.str b] => pr (.int (Txt.find a b))
  | _,_ => no
variable {o e : Expr}{apos cpos : Pos}{fo : Env' → M W}{l:Env' → M (List W)}
theorem qH (ho : JE X E o fo) (ha : JA X E [e] l) (hbase : attributeBase o "find" X.env (eval o X.env) = eval o X.env :=by rfl)
    (hfew : ((backTo cpos (starEach [e] X.env)).all (fun x => !x.1) && (backToKw cpos (keywordEach [] X.env)).all (fun x => x.1.isSome) && decide (([e] : List Expr).length + ([] : List Keyword).length + (if ([] : List Keyword).isEmpty then 0 else 1) < 30)) = true :=by rfl)
    (hline : (apos.endLine == cpos.line) = true :=by rfl) (hs : starEach [e] X.env = (false,eval e X.env) :: starEach [] X.env :=by rfl) (hplain : (backTo cpos (starEach [] X.env)).any (·.1) = false :=by rfl) :
    JE X E (.Call (.Attribute o "find" apos) [e] [] cpos) (mMeth isS findW fo l) :=
  (mR PySem.F.plainAttrs_str PySem.F.slot_str_find PySem.F.type_str_find qD ho.h ha.h hbase hfew hline hs hplain).imp fun σ H Q h => by
    obtain ⟨w,ρ,rfl,R,S,h⟩ := h
    refine ⟨w,ρ,rfl,R,S,Ps.bd h fun p x vx e1 R1 r1 h1 => ?_⟩
    cases x with
    | str z =>
      have h1 : Ps (cg X E) (Rv X.K) p (bd (l ρ) (fun ws => findW (.str z) ws) p.h) Q := h1
      rw [rv_str.mp r1]
      refine ⟨rfl,p,ρ,rfl,R1,S.mono R e1,Ps.bd h1 fun q ws vs e2 R2 r2 h2 => ?_⟩
      rcases ws with _ | ⟨w',_ | ⟨_,_⟩⟩
      · exact h2.elim
      · obtain ⟨v,rfl,r⟩ := r2.one
        cases w' with
        | str y =>
          have h2 : Ps (cg X E) (Rv X.K) q (pr (.int (Txt.find z y)) q.h) Q := h2
          exact ⟨z,y,rfl,by rw [rv_str.mp r],h2.pr R2 (rv_int.mpr rfl)⟩
        | _ => exact h2.elim
      · cases w' <;> exact h2.elim
    | _ => exact h1.elim
end
end L2
set_option maxHeartbeats 1000000
namespace L2
open PySem
theorem bt {α β : Type} (a:α) (g:α → M β) : bd (pr a) g = g a := funext fun h => dq (f := pr a) (a := a) (h := h) (h' := h) rfl
noncomputable def Ok {α : Type} (m:M α) (h:List Ob) (Q:α → List Ob → Prop) : Prop := ∃ a h',m h = .ok a h' ∧ Q a h'
section
variable {α β : Type}{m:M α}{k:α → M β}{h h' : List Ob}{a:α}
theorem Ok.imp {P Q : α → List Ob → Prop} (p:Ok m h P) (q:∀ a h',P a h' → Q a h') : Ok m h Q := let ⟨a,h',e,r⟩ := p; ⟨a,h',e,q a h' r⟩
theorem aM {P:α → List Ob → Prop}{Q:β → List Ob → Prop} (p:Ok m h P) (q:∀ a h',P a h' → Ok (k a) h' Q) : Ok (bd m k) h Q :=by
  obtain ⟨a,h',e,r⟩ := p
  obtain ⟨b,h2,e2,r2⟩ := q a h' r
  exact ⟨b,h2,(dq e).trans e2,r2⟩
theorem bp {Q:β → List Ob → Prop} (e:m h = .ok a h') (q:Ok (k a) h' Q) : Ok (bd m k) h Q :=by
  obtain ⟨b,h2,e2,r2⟩ := q
  exact ⟨b,h2,(dq e).trans e2,r2⟩
theorem ar {Q:α → List Ob → Prop} (q:Q a h) : Ok (pr a) h Q := ⟨a,h,rfl,q⟩
end
section
variable {β : Type}{h:List Ob}{Q:β → List Ob → Prop}{j:Nat}{l:List W}
theorem iP {i:Int}{w:W}{k:W → M β} (e:h[j]? = some (.lst l)) (e2 : atI l i = some w) (q:Ok (k w) h Q) : Ok (bd (ixW (.loc j) (.int i)) k) h Q :=by
  refine bp (a := w) (h' := h) ?_ q
  have d : dicOf (.loc j) h = none :=by unfold dicOf; simp only [e]
  have lo : lstOf (.loc j) h = .ok l h :=by unfold lstOf; simp only [e]
  have : ixO (.loc j) (.int i) h = some w :=by
    unfold ixO
    simp only [d,lo,e2]
  unfold ixW
  rw [this]
theorem rn {n:Int}{i:Nat}{v:W}{k:Unit → M β} (e:h[j]? = some (.lst l)) (e2 : ixN l.length n = some i) (q:Ok (k ()) (h.set j (.lst (l.set i v))) Q) : Ok (bd (gI (.loc j) (.int n) v) k) h Q :=by
  refine bp (a := ()) (h' := h.set j (.lst (l.set i v))) ?_ q
  unfold gI
  simp only [e,e2]
theorem dF {w:W}{k:W → M β} (e:h[j]? = some (.lst l)) (z:l.length < sizeLine) (q:Ok (k .non) (h.set j (.lst (l ++ [w]))) Q) : Ok (bd (bU (.loc j) [w]) k) h Q :=by
  refine bp (a := .non) (h' := h.set j (.lst (l ++ [w]))) ?_ q
  unfold bU
  simp only [e,if_pos z]
theorem cV {k:W → M β} (e:h[j]? = some (.lst l)) (q:Ok (k (.loc j)) h Q) : Ok (bd (isL (.loc j)) k) h Q :=by
  refine bp (a := .loc j) (h' := h) ?_ q
  unfold isL
  simp only [e]
theorem d7 {k:W → M β} (q:Ok (k (.loc h.length)) (h ++ [.lst l]) Q) : Ok (bd (newW l) k) h Q := bp (a := .loc h.length) (h' := h ++ [.lst l]) rfl q
theorem fX {k:W → M β} (e:h[j]? = some (.lst l)) (q:Ok (k (.tl l)) (h.set j .gone) Q) : Ok (bd (iceW (.loc j)) k) h Q :=by
  refine bp (a := .tl l) (h' := h.set j .gone) ?_ q
  unfold iceW
  simp only [e]
noncomputable def Lw (h:List Ob) (x:W) (l:List W) : Prop := x = .tl l ∨ ∃ j,x = .loc j ∧ h[j]? = some (.lst l)
theorem Lw.of {x:W} (p:Lw h x l) : lstOf x h = .ok l h :=by
  rcases p with rfl | ⟨j,rfl,e⟩
  · rfl
  · unfold lstOf; simp only [e]
theorem Lw.len {x:W}{k:W → M β} (p:Lw h x l) (q:Ok (k (.int l.length)) h Q) : Ok (bd (lenW [x]) k) h Q :=by
  refine bp (a := .int l.length) (h' := h) ?_ q
  have e := p.of
  rcases p with rfl | ⟨j,rfl,_⟩
  · rfl
  · show bd (lstOf (.loc j)) (fun l => pr (W.int l.length)) h = _
    rw [dq e]; rfl
theorem Lw.ix {x w : W}{i:Int}{k:W → M β} (p:Lw h x l) (e2 : atI l i = some w) (q:Ok (k w) h Q) : Ok (bd (ixW x (.int i)) k) h Q :=by
  rcases p with rfl | ⟨j,rfl,e⟩
  · rw [eG e2,bd_pr]; exact q
  · exact iP e e2 q
theorem Lw.isi {x:W}{c:String}{b:Bool}{k:W → M β} (p:Lw h x l) (hc : c ∈ tys) (hb : isT "list" c = b) (q:Ok (k (.bl b)) h Q) : Ok (bd (isiW [x,.ty c]) k) h Q :=by
  refine bp (a := .bl b) (h' := h) ?_ q
  subst hb
  rcases p with rfl | ⟨j,rfl,e⟩
  · show (if c ∈ tys then Rs.ok (W.bl (isT "list" c)) h else .bad) = _
    rw [if_pos hc]
  · unfold isiW
    have : tyN (.loc j) h = some "list" := by unfold tyN; simp only [e]
    simp only [this,if_pos hc]
theorem mY {i:Int}{c:String}{b:Bool} (hc : c ∈ tys) (hb : isT "int" c = b) : isiW [.int i,.ty c] = pr (.bl b) :=by
  funext h
  subst hb
  show (if c ∈ tys then Rs.ok (W.bl (isT "int" c)) h else .bad) = _
  rw [if_pos hc]; rfl
theorem ky {i:Str}{c:String}{b:Bool} (hc : c ∈ tys) (hb : isT "str" c = b) : isiW [.str i,.ty c] = pr (.bl b) :=by
  funext h
  subst hb
  show (if c ∈ tys then Rs.ok (W.bl (isT "str" c)) h else .bad) = _
  rw [if_pos hc]; rfl
theorem qQ {i:List W}{c:String}{b:Bool} (hc : c ∈ tys) (hb : isT "tuple" c = b) : isiW [.tup i,.ty c] = pr (.bl b) :=by
  subst hb
  show gd (c ∈ tys) (pr (W.bl (isT "tuple" c))) = _
  rw [aE hc]
end
theorem gC {x:Str}{ss : List Str} : inV (.str x) (ss.map V.str) = decide (x ∈ ss) :=by
  unfold inV
  rw [Bool.eq_iff_iff,List.any_eq_true,decide_eq_true_eq]
  constructor
  · rintro ⟨v,hv,q⟩
    obtain ⟨y,hy,rfl⟩ := List.mem_map.mp hv
    have : y = x :=by simpa [eqV] using q
    subst this; exact hy
  · intro q
    exact ⟨.str x,List.mem_map.mpr ⟨x,q,rfl⟩,by simp [eqV]⟩
theorem qT {x:Str}{ss : List Str} : inW (.str x) (.tl (ss.map W.str)) = pr (.bl (decide (x ∈ ss))) :=by
  funext h
  unfold inW
  have e : inB (.str x) (.tl (ss.map W.str)) h = some (decide (x ∈ ss)) :=by
    show (match vOf (.str x),vsOf (ss.map W.str) with
      | some v,some vs => some (inV v vs)
      | _,_ => none) = _
    rw [fB (k := V.str) (fun a => rfl)]
    show some (inV (.str x) (ss.map V.str)) = _
    rw [gC]
  rw [e]; rfl
theorem uq {β : Type}{h:List Ob}{Q:β → List Ob → Prop}{j:Nat}{x:Str}{ss : List Str}{k:W → M β} (e:h[j]? = some (.lst (ss.map W.str))) (q:Ok (k (.bl (decide (x ∈ ss)))) h Q) : Ok (bd (inW (.str x) (.loc j)) k) h Q :=by
  refine bp (a := .bl (decide (x ∈ ss))) (h' := h) ?_ q
  unfold inW
  have d : dicOf (.loc j) h = none :=by unfold dicOf; simp only [e]
  have lo : lstOf (.loc j) h = .ok (ss.map W.str) h :=by unfold lstOf; simp only [e]
  have e : inB (.str x) (.loc j) h = some (decide (x ∈ ss)) :=by
    unfold inB
    simp only [d,lo,fB (g := W.str) (k := V.str) (fun a => rfl) ss]
    show some (inV (.str x) (ss.map V.str)) = _
    rw [gC]
  rw [e]
theorem cC {i:Int} (h0 : -(2 ^ 62) ≤ i) (h1 : i < 2 ^ 62) : rng1 [.int i] = pr ⟨intsW 0 i.toNat,fun _ => True⟩ := aE ⟨h0,h1⟩
theorem oz {i j : Int} (h0 : -(2 ^ 62) ≤ i) (h1 : i < 2 ^ 62) (h2 : -(2 ^ 62) ≤ j) (h3 : j < 2 ^ 62) : rng2 [.int i,.int j] = pr ⟨intsW i (j - i).toNat,fun _ => True⟩ := aE ⟨h0,h1,h2,h3⟩
theorem mD {G:List Ob → Prop}{t:W → Env' → Option Env'}{g:Env' → M Fl} (I:Nat → Env' → List Ob → Prop) (l:List W) (hG : ∀ i ρ h,I i ρ h → G h)
    (hs : ∀ i w ρ h,l[i]? = some w → I i ρ h → ∃ r,t w ρ = some r ∧ Ok (g r) h fun x h' => ∃ r',x = .nx r' ∧ I (i + 1) r' h') :
    ∀ (m:List W) (n:Nat) (ρ : Env') (h:List Ob),l.drop n = m → n ≤ l.length → I n ρ h → Ok (forM G t g m ρ) h fun x h' => ∃ r',x = .nx r' ∧ I l.length r' h'
  | [],n,ρ,h,e,hn,i => by
    have : l.length ≤ n := List.drop_eq_nil_iff.mp e
    have hn : n = l.length :=by omega
    subst hn
    refine ⟨.nx ρ,h,?_,ρ,rfl,i⟩
    unfold forM
    rw [eW (hG _ _ _ i)]; rfl
  | w :: m,n,ρ,h,e,hn,i => by
    have hw : l[n]? = some w :=by
      have := congrArg List.head? e
      rw [List.head?_drop,List.head?_cons] at this
      exact this
    have hl : n < l.length := (List.getElem?_eq_some_iff.mp hw).1
    have em : l.drop (n + 1) = m :=by rw [← List.tail_drop,e]; rfl
    obtain ⟨r,e1,x,h',e2,r',rfl,i'⟩ := hs n w ρ h hw i
    obtain ⟨y,h2,e3,q⟩ := mD I l hG hs m (n + 1) r' h' em hl i'
    refine ⟨y,h2,?_,q⟩
    unfold forM
    rw [eW (hG _ _ _ i),e1]
    dsimp only
    rw [dq e2]
    exact e3
theorem eS {β : Type}{G:List Ob → Prop}{t:W → Env' → Option Env'}{g:Env' → M Fl}{l:List W}{ρ : Env'}{h:List Ob}{k:Fl → M β}{Q:β → List Ob → Prop} (I:Nat → Env' → List Ob → Prop) (h0 : I 0 ρ h) (hG : ∀ i ρ h,I i ρ h → G h)
    (hs : ∀ i w ρ h,l[i]? = some w → I i ρ h → ∃ r,t w ρ = some r ∧ Ok (g r) h fun x h' => ∃ r',x = .nx r' ∧ I (i + 1) r' h') (hd : ∀ ρ h,I l.length ρ h → Ok (k (.nx ρ)) h Q) : Ok (bd (forM G t g l ρ) k) h Q :=
  aM (mD I l hG hs l 0 ρ h rfl (Nat.zero_le _) h0) fun x h' ⟨r',e,i⟩ => by subst e; exact hd r' h' i
theorem nq {G:List Ob → Prop}{t:W → Env' → Option Env'}{f:Env' → M Bool}{g:Env' → M W}{c:Nat}{ρ : Env'} (I:Nat → List W → List Ob → Prop) (l:List W) (hf : ∀ r,f r = pr true) (hG : ∀ i a h,I i a h → G h)
    (hs : ∀ i w a h,l[i]? = some w → I i a h → ∃ r,t w (List.replicate c none ++ ρ) = some r ∧ Ok (g r) h fun v h' => I (i + 1) (a ++ [v]) h') :
    ∀ (m:List W) (n:Nat) (a:List W) (h:List Ob),l.drop n = m → n ≤ l.length → I n a h → Ok (compM G t f g c m ρ) h fun r h' => I l.length (a ++ r) h'
  | [],n,a,h,e,hn,i => by
    have : l.length ≤ n := List.drop_eq_nil_iff.mp e
    have hn : n = l.length :=by omega
    subst hn
    refine ⟨[],h,?_,by show I l.length (a ++ []) h; rw [List.append_nil]; exact i⟩
    unfold compM
    rw [eW (hG _ _ _ i)]; rfl
  | w :: m,n,a,h,e,hn,i => by
    have hw : l[n]? = some w :=by
      have := congrArg List.head? e
      rw [List.head?_drop,List.head?_cons] at this
      exact this
    have hl : n < l.length := (List.getElem?_eq_some_iff.mp hw).1
    have em : l.drop (n + 1) = m :=by rw [← List.tail_drop,e]; rfl
    obtain ⟨r,e1,v,h',e2,i'⟩ := hs n w a h hw i
    obtain ⟨y,h2,e3,q⟩ := nq I l hf hG hs m (n + 1) (a ++ [v]) h' em hl i'
    refine ⟨v :: y,h2,?_,by show I l.length (a ++ v :: y) h2; have q : I l.length (a ++ [v] ++ y) h2 := q; rw [List.append_assoc] at q; exact q⟩
    unfold compM
    rw [eW (hG _ _ _ i),e1]
    dsimp only
    rw [hf,bd_pr,if_pos rfl,dq e2,dq e3]; rfl
theorem fN {β : Type}{G:List Ob → Prop}{t:W → Env' → Option Env'}{f:Env' → M Bool}{g:Env' → M W}{c:Nat}{ρ : Env'}{l:List W}{h:List Ob}{k:List W → M β}{Q:β → List Ob → Prop} (I:Nat → List W → List Ob → Prop) (h0 : I 0 [] h) (hf : ∀ r,f r = pr true) (hG : ∀ i a h,I i a h → G h)
    (hs : ∀ i w a h,l[i]? = some w → I i a h → ∃ r,t w (List.replicate c none ++ ρ) = some r ∧ Ok (g r) h fun v h' => I (i + 1) (a ++ [v]) h') (hd : ∀ a h,I l.length a h → Ok (k a) h Q) : Ok (bd (compM G t f g c l ρ) k) h Q :=
  aM (nq I l hf hG hs l 0 [] h rfl (Nat.zero_le _) h0) fun r h' i => hd r h' i
theorem gH (r:Env') : mYes r = pr true := rfl
structure Fr (j:Nat) (h h' : List Ob) : Prop where
  len : h'.length = h.length
  eq : ∀ i,i ≠ j → h'[i]? = h[i]?
theorem Fr.refl (j:Nat) (h:List Ob) : Fr j h h := ⟨rfl,fun _ _ => rfl⟩
theorem Fr.trans {j:Nat}{a b c : List Ob} (x:Fr j a b) (y:Fr j b c) : Fr j a c := ⟨y.len.trans x.len,fun i hi => (y.eq i hi).trans (x.eq i hi)⟩
theorem Fr.set {j:Nat}{h:List Ob}{b:Ob} : Fr j h (h.set j b) := ⟨List.length_set ..,fun i hi => by rw [List.getElem?_set_ne (Ne.symm hi)]⟩
theorem bo {j:Nat}{h:List Ob}{a b : Ob} (e:h[j]? = some a) : (h.set j b)[j]? = some b :=by
  rw [List.getElem?_set_self (List.getElem?_eq_some_iff.mp e).1]
theorem cW {j:Nat}{h:List Ob}{a:Ob} (e:h[j]? = some a) : j < h.length := (List.getElem?_eq_some_iff.mp e).1
theorem cb {j:Nat}{h r : List Ob}{a:Ob} (e:h[j]? = some a) : (h ++ r)[j]? = some a :=by
  rw [List.getElem?_append_left (cW e)]; exact e
theorem bu {h:List Ob}{a:Ob} : (h ++ [a])[h.length]? = some a :=by simp
theorem least {p:Nat → Prop} : ∀ {n:Nat},(∃ r,r < n ∧ p r) → ∃ r,r < n ∧ p r ∧ ∀ j,j < r → ¬ p j
  | 0,⟨_,h,_⟩ => absurd h (Nat.not_lt_zero _)
  | n + 1,⟨r,h,q⟩ => by
    by_cases z : ∃ r,r < n ∧ p r
    · obtain ⟨r,h1,h2,h3⟩ := least z
      exact ⟨r,by omega,h2,h3⟩
    · have : r = n :=by
        by_cases e : r < n
        · exact absurd ⟨r,e,q⟩ z
        · omega
      subst this
      exact ⟨r,h,q,fun j hj hp => z ⟨j,hj,hp⟩⟩
theorem jF {α : Type} [DecidableEq α] : ∀ (a l : List α),a.Nodup → (∀ x ∈ a,x ∈ l) → a.length ≤ l.length
  | [],_,_,_ => Nat.zero_le _
  | x :: a,l,nd,h => by
    have hx := h x List.mem_cons_self
    have nd' := List.nodup_cons.mp nd
    have ih := jF a (l.erase x) nd'.2 fun y hy => (List.mem_erase_of_ne (fun z : y = x => nd'.1 (by rw [← z]; exact hy))).mpr (h y (List.mem_cons_of_mem _ hy))
    rw [List.length_erase_of_mem hx] at ih
    have : 0 < l.length := List.length_pos_of_mem hx
    rw [List.length_cons]; omega
end L2
namespace L2
open PySem
theorem qy {G:List Ob → Prop}{t:W → Env' → Option Env'}{g:Env' → M Fl}{l:List W}{ρ : Env'}{h:List Ob}{Q:Fl → List Ob → Prop} (I:Nat → Env' → List Ob → Prop) (h0 : I 0 ρ h) (hG : ∀ i ρ h,I i ρ h → G h)
    (hs : ∀ i w ρ h,l[i]? = some w → I i ρ h → ∃ r,t w ρ = some r ∧ Ok (g r) h fun x h' => ∃ r',x = .nx r' ∧ I (i + 1) r' h') (hd : ∀ ρ h,I l.length ρ h → Q (.nx ρ) h) : Ok (forM G t g l ρ) h Q :=
  (mD I l hG hs l 0 ρ h rfl (Nat.zero_le _) h0).imp fun x h' ⟨r',e,i⟩ => by subst e; exact hd r' h' i
theorem lI (l:List W) : lstOf (.tl l) = pr l := rfl
theorem ix0 (a:W) (l:List W) : ixW (.tup (a :: l)) (.int 0) = pr a := ck (cU (by decide) rfl)
theorem ix1 (a b : W) (l:List W) : ixW (.tup (a :: b :: l)) (.int 1) = pr b := ck (cU (by decide) rfl)
theorem ix2 (a b c : W) (l:List W) : ixW (.tup (a :: b :: c :: l)) (.int 2) = pr c := ck (cU (by decide) rfl)
theorem ix3 (a b c d : W) (l:List W) : ixW (.tup (a :: b :: c :: d :: l)) (.int 3) = pr d := ck (cU (by decide) rfl)
theorem ix4 (a b c d e : W) (l:List W) : ixW (.tup (a :: b :: c :: d :: e :: l)) (.int 4) = pr e := ck (cU (by decide) rfl)
theorem ix5 (a b c d e f : W) (l:List W) : ixW (.tup (a :: b :: c :: d :: e :: f :: l)) (.int 5) = pr f := ck (cU (by decide) rfl)
theorem kE {α : Type} (f:α → W) (l:List α) (lo hi : Option Int) : cutW (l.map f) lo hi = (cutW l lo hi).map f :=by
  unfold cutW
  rw [List.length_map,List.map_take,List.map_drop]
end L2
set_option maxHeartbeats 1000000
namespace L2
open PySem PySem.Spec PyProof.Rows
section
variable {X:Cx}{E:XK}{p pos : Pos}
noncomputable def srcA (j:Bool) : W → M Sr := match j with
  | true => srcT
  | false => srcL
noncomputable def zipW (l m : List W) : List W := List.zipWith (fun a b => .tup [a,b]) l m
noncomputable def srcZ (j k : Bool) (ws : List W) : M Sr := match ws with
  | [x,y] => bd (srcA j x) fun s => bd (srcA k y) fun t => pr ⟨zipW s.l t.l,fun h => s.G h ∧ t.G h⟩
  | _ => no
variable {o e : Expr}{apos cpos : Pos}{fo : Env' → M W}{l:Env' → M (List W)}
noncomputable def uD (x:W) (ws : List W) : M W := match x,ws with
  | .loc k,[w] => bd (lstO w) fun m h => match h[k]? with
    | some (.lst l) => if l.length + m.length ≤ sizeLine then .ok .non (h.set k (.lst (l ++ m))) else .bad
    | _ => .bad
  | _,_ => no
noncomputable def fV (x:W) (ws : List W) : M W := match x,ws with
  | .loc k,[.int i] => fun h => match h[k]? with
    | some (.lst l) => if -(2 ^ 63) ≤ i ∧ i < 2 ^ 63 then (match ixN l.length i with
      | some j => (match l[j]? with
        | some w => .ok w (h.set k (.lst (l.eraseIdx j)))
        | none => .bad)
      | none => .bad) else .bad
    | _ => .bad
  | _,_ => no
theorem Rvs.eraseIdx {K:PySem.W.Frag}{o:Wo} : ∀ {l:List W}{vs : List V} (i:Nat),Rvs K o l vs → Rvs K o (l.eraseIdx i) (vs.eraseIdx i)
  | [],vs,i,h => by unfold Rvs at h; subst h; exact Rvs.nil
  | w :: l,vs,0,h => by unfold Rvs at h; obtain ⟨v,r,rfl,_,h2⟩ := h; exact h2
  | w :: l,vs,i + 1,h => by unfold Rvs at h; obtain ⟨v,r,rfl,h1,h2⟩ := h; exact Rvs.cons h1 (Rvs.eraseIdx i h2)
theorem lD (ho : JE X E o fo) (ha : JA X E [e] l) (hbase : attributeBase o "pop" X.env (eval o X.env) = eval o X.env :=by rfl)
    (hfew : ((backTo cpos (starEach [e] X.env)).all (fun x => !x.1) && (backToKw cpos (keywordEach [] X.env)).all (fun x => x.1.isSome) && decide (([e] : List Expr).length + ([] : List Keyword).length + (if ([] : List Keyword).isEmpty then 0 else 1) < 30)) = true :=by rfl)
    (hline : (apos.endLine == cpos.line) = true :=by rfl) (hs : starEach [e] X.env = (false,eval e X.env) :: starEach [] X.env :=by rfl) (hplain : (backTo cpos (starEach [] X.env)).any (·.1) = false :=by rfl) :
    JE X E (.Call (.Attribute o "pop" apos) [e] [] cpos) (mMeth isL fV fo l) :=
  (mR PySem.F.plainAttrs_list PySem.F.slot_list_pop PySem.F.type_list_pop oY ho.h ha.h hbase hfew hline hs hplain).imp fun σ H Q h => by
    obtain ⟨w,ρ,rfl,R,S,h⟩ := h
    refine ⟨w,ρ,rfl,R,S,Ps.bd h fun p x vx e1 R1 r1 h1 => ?_⟩
    obtain ⟨j,l0,vs0,rfl,hj,rfl,hlt,hH,hl0,h1⟩ := my R1 r1 h1
    refine ⟨.inl ⟨rfl,vs0,.of hH⟩,p,ρ,rfl,R1,S.mono R e1,Ps.bd h1 fun q ws vs e2 R2 r2 h2 => ?_⟩
    rcases ws with _ | ⟨w',_ | ⟨_,_⟩⟩
    · exact h2.elim
    · obtain ⟨v,rfl,r⟩ := r2.one
      cases w' with
      | int i =>
        have h2 : Ps (cg X E) (Rv X.K) q (match q.h[j]? with
          | some (.lst l) => if -(2 ^ 63) ≤ i ∧ i < 2 ^ 63 then (match ixN l.length i with
            | some j' => (match l[j']? with
              | some w => .ok w (q.h.set j (.lst (l.eraseIdx j')))
              | none => .bad)
            | none => .bad) else .bad
          | _ => .bad) Q := h2
        cases e : q.h[j]? with
        | none => simp only [e] at h2; exact h2.elim
        | some b =>
          cases b with
          | lst l' =>
            simp only [e] at h2
            obtain ⟨us,k1,k2⟩ := R2.ob j _ e
            by_cases z : -(2 ^ 63) ≤ i ∧ i < 2 ^ 63
            · rw [if_pos z] at h2
              cases e3 : ixN l'.length i with
              | none => rw [e3] at h2; exact h2.elim
              | some j' =>
                simp only [e3] at h2
                cases e4 : l'[j']? with
                | none => rw [e4] at h2; exact h2.elim
                | some w2 =>
                  simp only [e4] at h2
                  obtain ⟨y,hy,ry⟩ := k2.get e4
                  have k0 := k1
                  rw [e2.mu j hlt] at k1
                  refine ⟨p.mu j,us,i,j',y,rfl,by rw [rv_int.mp r],k1,z.1,z.2,by rw [k2.len]; exact (ku e3).1,hy,?_⟩
                  have := Ps.at (p := q.put j (.lst (l'.eraseIdx j')) (.lst (us.eraseIdx j'))) (b := y) h2 rfl (Ex.put e (by simp)) (R2.putL e (by simp) (k2.eraseIdx j')) (ry.mono R2 (Ex.put e (by simp)))
                  have em : q.mu j = p.mu j := e2.mu j hlt
                  have ew : (q.put j (.lst (l'.eraseIdx j')) (.lst (us.eraseIdx j'))).H = upd q.H (p.mu j) (.lst (us.eraseIdx j')) :=by
                    show upd q.H (q.mu j) _ = _
                    rw [em]
                  rw [ew] at this
                  exact this
            · rw [if_neg z] at h2; exact h2.elim
          | _ => simp only [e] at h2; exact h2.elim
      | _ => exact h2.elim
    · cases w' <;> exact h2.elim
theorem o4 {x:Str}{a:Addr}{zs : List Str}{pos : Pos} (hm : X.mg x = some (.ref a)) (hq : ∀ H,SqT X.K H a (zs.map V.str)) (hg : Gl X x :=by rfl) (hd : (x == ("__debug__" : Str)) = false :=by decide) : JE X E (.Name x pos) (mC (.tup (zs.map W.str))) :=
  kj (v := .ref a) hg hm rfl (fun o => by
    unfold Rv
    refine ⟨a,_,rfl,hq _,?_⟩
    induction zs with
    | nil => exact Rvs.nil
    | cons z zs ih => exact Rvs.cons (rv_str.mpr rfl) (rvs_strs zs)) hd
where
  rvs_strs {K:PySem.W.Frag}{o:Wo} : ∀ zs : List Str,Rvs K o (zs.map W.str) (zs.map V.str)
    | [] => Rvs.nil
    | z :: zs => Rvs.cons (rv_str.mpr rfl) (rvs_strs zs)
end
end L2
set_option maxHeartbeats 1000000
namespace L2
open PySem PySem.Spec PyProof.Rows
section
variable {X:Cx}{E:XK}{o e e2 : Expr}{apos cpos : Pos}{fo : Env' → M W}{l:Env' → M (List W)}
noncomputable def gB (x:W) (ws : List W) : M W := match x,ws with
  | .loc k,[.int i,w] => fun h => match h[k]? with
    | some (.lst l) => if 0 ≤ i ∧ i ≤ l.length ∧ l.length < sizeLine then .ok .non (h.set k (.lst (l.take i.toNat ++ [w] ++ l.drop i.toNat))) else .bad
    | _ => .bad
  | _,_ => no
theorem nT (ho : JE X E o fo) (ha : JA X E [e,e2] l) (hbase : attributeBase o "insert" X.env (eval o X.env) = eval o X.env :=by rfl)
    (hfew : ((backTo cpos (starEach [e,e2] X.env)).all (fun x => !x.1) && (backToKw cpos (keywordEach [] X.env)).all (fun x => x.1.isSome) && decide (([e,e2] : List Expr).length + ([] : List Keyword).length + (if ([] : List Keyword).isEmpty then 0 else 1) < 30)) = true :=by rfl)
    (hline : (apos.endLine == cpos.line) = true :=by rfl) (hs : starEach [e,e2] X.env = (false,eval e X.env) :: starEach [e2] X.env :=by rfl) (hplain : (backTo cpos (starEach [e2] X.env)).any (·.1) = false :=by rfl) :
    JE X E (.Call (.Attribute o "insert" apos) [e,e2] [] cpos) (mMeth isL gB fo l) :=
  (mR PySem.F.plainAttrs_list PySem.F.slot_list_insert PySem.F.type_list_insert nP ho.h ha.h hbase hfew hline hs hplain).imp fun σ H Q h => by
    obtain ⟨w,ρ,rfl,R,S,h⟩ := h
    refine ⟨w,ρ,rfl,R,S,Ps.bd h fun p x vx e1 R1 r1 h1 => ?_⟩
    obtain ⟨j,l0,vs0,rfl,hj,rfl,hlt,hH,hl0,h1⟩ := my R1 r1 h1
    refine ⟨.inl ⟨rfl,vs0,.of hH⟩,p,ρ,rfl,R1,S.mono R e1,Ps.bd h1 fun q ws vs e2 R2 r2 h2 => ?_⟩
    rcases ws with _ | ⟨w',_ | ⟨w2,_ | ⟨_,_⟩⟩⟩
    · exact h2.elim
    · cases w' <;> exact h2.elim
    · obtain ⟨v,u,rfl,r,ru⟩ := r2.two
      cases w' with
      | int i =>
        have h2 : Ps (cg X E) (Rv X.K) q (match q.h[j]? with
          | some (.lst l) => if 0 ≤ i ∧ i ≤ l.length ∧ l.length < sizeLine then .ok .non (q.h.set j (.lst (l.take i.toNat ++ [w2] ++ l.drop i.toNat))) else .bad
          | _ => .bad) Q := h2
        cases e : q.h[j]? with
        | none => simp only [e] at h2; exact h2.elim
        | some b =>
          cases b with
          | lst l' =>
            simp only [e] at h2
            obtain ⟨us,k1,k2⟩ := R2.ob j _ e
            by_cases z : 0 ≤ i ∧ i ≤ l'.length ∧ l'.length < sizeLine
            · rw [if_pos z] at h2
              rw [e2.mu j hlt] at k1
              refine ⟨p.mu j,us,i,u,rfl,by rw [rv_int.mp r],k1,z.1,by rw [k2.len]; exact z.2.1,by rw [k2.len]; exact z.2.2,?_⟩
              have := Ps.at (p := q.put j (.lst (l'.take i.toNat ++ [w2] ++ l'.drop i.toNat)) (.lst (us.take i.toNat ++ [u] ++ us.drop i.toNat))) (b := V.non) h2 rfl (Ex.put e (by simp)) (R2.putL e (by simp) (((k2.take _).app (Rvs.cons ru Rvs.nil)).app (k2.drop _))) (rv_non.mpr rfl)
              have em : q.mu j = p.mu j := e2.mu j hlt
              have ew : (q.put j (.lst (l'.take i.toNat ++ [w2] ++ l'.drop i.toNat)) (.lst (us.take i.toNat ++ [u] ++ us.drop i.toNat))).H = upd q.H (p.mu j) (.lst (us.take i.toNat ++ [u] ++ us.drop i.toNat)) :=by
                show upd q.H (q.mu j) _ = _
                rw [em]
              rw [ew] at this
              exact this
            · rw [if_neg z] at h2; exact h2.elim
          | _ => simp only [e] at h2; exact h2.elim
      | _ => exact h2.elim
    · cases w' <;> exact h2.elim
end
theorem m5 {G:List Ob → Prop}{t:W → Env' → Option Env'}{g:Env' → M Fl} (I:Nat → Env' → List Ob → Prop) (J:W → List Ob → Prop) (l:List W) (hG : ∀ i ρ h,I i ρ h → G h)
    (hs : ∀ i w ρ h,l[i]? = some w → I i ρ h → ∃ r,t w ρ = some r ∧ Ok (g r) h fun x h' => (∃ r',x = .nx r' ∧ I (i + 1) r' h') ∨ ∃ v,x = .rt v ∧ J v h') :
    ∀ (m:List W) (n:Nat) (ρ : Env') (h:List Ob),l.drop n = m → n ≤ l.length → I n ρ h → Ok (forM G t g m ρ) h fun x h' => (∃ r',x = .nx r' ∧ I l.length r' h') ∨ ∃ v,x = .rt v ∧ J v h'
  | [],n,ρ,h,e,hn,i => by
    have : l.length ≤ n := List.drop_eq_nil_iff.mp e
    have hn : n = l.length :=by omega
    subst hn
    refine ⟨.nx ρ,h,?_,.inl ⟨ρ,rfl,i⟩⟩
    unfold forM
    rw [eW (hG _ _ _ i)]; rfl
  | w :: m,n,ρ,h,e,hn,i => by
    have hw : l[n]? = some w :=by
      have := congrArg List.head? e
      rw [List.head?_drop,List.head?_cons] at this
      exact this
    have hl : n < l.length := (List.getElem?_eq_some_iff.mp hw).1
    have em : l.drop (n + 1) = m :=by rw [← List.tail_drop,e]; rfl
    obtain ⟨r,e1,x,h',e2,⟨r',rfl,i'⟩ | ⟨v,rfl,j'⟩⟩ := hs n w ρ h hw i
    · obtain ⟨y,h2,e3,q⟩ := m5 I J l hG hs m (n + 1) r' h' em hl i'
      refine ⟨y,h2,?_,q⟩
      unfold forM
      rw [eW (hG _ _ _ i),e1]
      dsimp only
      rw [dq e2]
      exact e3
    · refine ⟨.rt v,h',?_,.inr ⟨v,rfl,j'⟩⟩
      unfold forM
      rw [eW (hG _ _ _ i),e1]
      dsimp only
      rw [dq e2]; rfl
theorem kc {β : Type}{G:List Ob → Prop}{t:W → Env' → Option Env'}{g:Env' → M Fl}{l:List W}{ρ : Env'}{h:List Ob}{k:Fl → M β}{Q:β → List Ob → Prop} (I:Nat → Env' → List Ob → Prop) (J:W → List Ob → Prop) (h0 : I 0 ρ h) (hG : ∀ i ρ h,I i ρ h → G h)
    (hs : ∀ i w ρ h,l[i]? = some w → I i ρ h → ∃ r,t w ρ = some r ∧ Ok (g r) h fun x h' => (∃ r',x = .nx r' ∧ I (i + 1) r' h') ∨ ∃ v,x = .rt v ∧ J v h') (hd : ∀ ρ h,I l.length ρ h → Ok (k (.nx ρ)) h Q) (hr : ∀ v h,J v h → Ok (k (.rt v)) h Q) : Ok (bd (forM G t g l ρ) k) h Q :=
  aM (m5 I J l hG hs l 0 ρ h rfl (Nat.zero_le _) h0) fun x h' q => by
    rcases q with ⟨r',rfl,i⟩ | ⟨v,rfl,j⟩
    · exact hd r' h' i
    · exact hr v h' j
end L2
set_option maxHeartbeats 1000000
namespace L2
open PySem PySem.Spec PyProof.Rows
section
variable {X:Cx}{E:XK}{a b : Expr}{p p2 pos pos2 : Pos}
end
end L2
set_option maxHeartbeats 1000000
namespace L2
open PySem PySem.Spec PyProof.Rows
section
variable {X:Cx}{E:XK}
end
section
variable {β : Type}{h:List Ob}{Q:β → List Ob → Prop}{x:W}{l:List W}
theorem Lw.keep {h' : List Ob} (p:Lw h x l) (q:∀ i,i < h.length → h'[i]? = h[i]?) : Lw h' x l :=by
  rcases p with rfl | ⟨j,rfl,e⟩
  · exact .inl rfl
  · exact .inr ⟨j,rfl,(q j (cW e)).trans e⟩
end
theorem Lw.len_eq {β : Type}{h:List Ob}{Q:β → List Ob → Prop}{x:W}{l:List W}{k:W → M β}{N:Int} (p:Lw h x l) (hN : N = (l.length : Int)) (q:Ok (k (.int N)) h Q) : Ok (bd (lenW [x]) k) h Q :=by
  subst hN; exact p.len q
end L2
set_option maxHeartbeats 1000000
namespace L2
open PySem PySem.Spec PyProof.Rows
noncomputable def lookF : List Str → List W → Str → Option W
  | n :: ns,w :: ws,f => if f = n then some w else lookF ns ws f
  | _,_,_ => none
noncomputable def putN : List Str → List W → Str → W → List Str × List W
  | n :: ns,w :: ws,f,y => if n = f then (n :: ns,y :: ws) else (n :: (putN ns ws f y).1,w :: (putN ns ws f y).2)
  | _,_,f,y => ([f],[y])
section
variable {K:PySem.W.Frag}{o:Wo}
theorem jb {f:Str}{w:W} : ∀ {fs : List (Str × V)}{ns : List Str}{ws : List W},fs.map (·.1) = ns → Rvs K o ws (fs.map (·.2)) → lookF ns ws f = some w → ∃ v,fs.lookup f = some v ∧ Rv K o w v
  | [],_,ws,e,_,h => by subst e; cases ws <;> cases h
  | (g,x) :: fs,_,[],e,r,h => by subst e; cases h
  | (g,x) :: fs,_,y :: ws,e,r,h => by
    subst e
    unfold Rvs at r
    obtain ⟨v,t,e2,r1,r2⟩ := r
    cases e2
    have h : (if f = g then some y else lookF (fs.map (·.1)) ws f) = some w := h
    by_cases z : f = g
    · rw [if_pos z] at h
      cases h
      exact ⟨x,by rw [List.lookup_cons,z]; simp,r1⟩
    · rw [if_neg z] at h
      obtain ⟨v,e3,r3⟩ := jb rfl r2 h
      refine ⟨v,?_,r3⟩
      rw [List.lookup_cons,show (f == g) = false by simpa using z]
      exact e3
theorem lK {f:Str} : ∀ {fs : List (Str × V)},f ∉ fs.map (·.1) → fs.lookup f = none
  | [],_ => rfl
  | (g,x) :: fs,h => by
    rw [List.map_cons,List.mem_cons,not_or] at h
    rw [List.lookup_cons,show (f == g) = false by simpa using h.1]
    exact lK h.2
theorem mP {f:Str}{y:W}{v:V} (hy : Rv K o y v) : ∀ {fs : List (Str × V)}{ns : List Str}{ws : List W},fs.map (·.1) = ns → Rvs K o ws (fs.map (·.2)) → (putF f v fs).map (·.1) = (putN ns ws f y).1 ∧ Rvs K o (putN ns ws f y).2 ((putF f v fs).map (·.2))
  | [],_,[],e,r => by subst e; exact ⟨rfl,Rvs.cons hy Rvs.nil⟩
  | [],_,w :: ws,e,r => by unfold Rvs at r; obtain ⟨_,_,e2,_⟩ := r; cases e2
  | (g,x) :: fs,_,[],e,r => by unfold Rvs at r; cases r
  | (g,x) :: fs,_,w :: ws,e,r => by
    subst e
    unfold Rvs at r
    obtain ⟨u,t,e2,r1,r2⟩ := r
    cases e2
    show (List.map (·.1) (if g = f then (g,v) :: fs else (g,x) :: putF f v fs)) = (if g = f then (g :: fs.map (·.1),y :: ws) else (g :: (putN (fs.map (·.1)) ws f y).1,w :: (putN (fs.map (·.1)) ws f y).2)).1 ∧ Rvs K o (if g = f then (g :: fs.map (·.1),y :: ws) else (g :: (putN (fs.map (·.1)) ws f y).1,w :: (putN (fs.map (·.1)) ws f y).2)).2 ((if g = f then (g,v) :: fs else (g,x) :: putF f v fs).map (·.2))
    by_cases z : g = f
    · rw [if_pos z,if_pos z]
      exact ⟨rfl,Rvs.cons hy r2⟩
    · rw [if_neg z,if_neg z]
      obtain ⟨a,b⟩ := mP hy (fs := fs) rfl r2
      exact ⟨by rw [List.map_cons,a],Rvs.cons r1 b⟩
theorem Rel.putI (R:Rel K o) {k:Nat}{b:Ob}{c:Str}{C dx : Addr}{ns : List Str}{ws : List W}{fs : List (Str × V)} (hk : o.h[k]? = some b) (hb : b ≠ .gone) (hn : PySem.W.nsIn K mainGlobals c = some (some (.ref C))) (h1 : fs.map (·.1) = ns) (hl : Rvs K o ws (fs.map (·.2))) : Rel K (o.put k (.ins c ns ws) (.ins C dx fs)) :=
  R.put hk hb ⟨C,dx,fs,hn,cn,h1,hl.mono R (Ex.put hk hb)⟩
end
section
variable {X:Cx}{E:XK}
noncomputable def insG (c:Str) (x:W) : M (Nat × List Str × List W) := match x with
  | .loc k => fun h => match h[k]? with
    | some (.ins c' ns ws) => if c' = c then .ok (k,ns,ws) h else .bad
    | _ => .bad
  | _ => no
theorem ij {α β : Type}{r:Wo → α → β → Prop}{c:Str}{C:Addr}{o:Wo}{x:W}{v:V}{k:Nat × List Str × List W → M α}{Q:β → Hp → Prop} (hn : PySem.W.nsIn X.K mainGlobals c = some (some (.ref C))) (R:Rel X.K o) (hr : Rv X.K o x v) (h:Ps (cg X E) r o (bd (insG c x) k o.h) Q) :
    ∃ (j:Nat) (ns : List Str) (ws : List W) (dx : Addr) (fs : List (Str × V)),x = .loc j ∧ j < o.h.length ∧ o.h[j]? = some (.ins c ns ws) ∧ v = .ref (o.mu j) ∧ o.H (o.mu j) = some (.ins C dx fs) ∧ fs.map (·.1) = ns ∧ Rvs X.K o ws (fs.map (·.2)) ∧ Ps (cg X E) r o (k (j,ns,ws) o.h) Q :=by
  cases x with
  | loc j =>
    unfold Rv at hr
    obtain ⟨hj,rfl⟩ := hr
    unfold insG bd at h
    cases e : o.h[j]? with
    | none => simp only [e] at h; exact h.elim
    | some b =>
      cases b with
      | ins c' ns ws =>
        simp only [e] at h
        by_cases z : c' = c
        · subst z
          rw [if_pos rfl] at h
          obtain ⟨C',dx,fs,q1,q2,q3,q4⟩ := R.ob j _ e
          rw [hn] at q1
          cases q1
          exact ⟨j,ns,ws,dx,fs,rfl,hj,e,rfl,q2,q3,q4,h⟩
        · rw [if_neg z] at h; exact h.elim
      | _ => simp only [e] at h; exact h.elim
  | _ => exact h.elim
noncomputable def fldG (c f : Str) (x:W) : M W := bd (insG c x) fun t => match lookF t.2.1 t.2.2 f with
  | some w => pr w
  | none => no
noncomputable def putG (c f : Str) (x y : W) : M Unit := bd (insG c x) fun t => fun h => if t.2.1.length < 1000 then .ok () (h.set t.1 (.ins c (putN t.2.1 t.2.2 f y).1 (putN t.2.1 t.2.2 f y).2)) else .bad
variable {c f : Str}{C:Addr}{o:Expr}{fo : Env' → M W}{pos pos' : Pos}
theorem cG (hn : PySem.W.nsIn X.K mainGlobals c = some (some (.ref C))) (cl : Cls X.K C) (na : NoAttr X.K C f) (ho : JE X E o fo) (hb : attributeBase o f X.env (eval o X.env) = eval o X.env :=by rfl) : JE X E (.Attribute o f pos) (m1 (fldG c f) fo) :=
  (su ho.h hb).imp fun σ H Q h => by
    obtain ⟨w,ρ,rfl,R,S,h⟩ := h
    refine ⟨w,ρ,rfl,R,S,Ps.bd h fun p x vx e1 R1 r1 h1 => ?_⟩
    obtain ⟨j,ns,ws,dx,fs,rfl,hj,e,rfl,q2,q3,q4,h1⟩ := ij hn R1 r1 h1
    cases l : lookF ns ws f with
    | none => simp only [l] at h1; exact h1.elim
    | some y =>
      simp only [l] at h1
      obtain ⟨v,lv,rv⟩ := jb q3 q4 l
      exact ⟨_,C,dx,fs,v,rfl,q2,cl,na,lv,h1.pr R1 rv⟩
noncomputable def sFldW (c f : Str) (fo fv : Env' → M W) : Env' → M Fl := fun ρ => bd (fv ρ) fun y => bd (fo ρ) fun x => bd (putG c f x y) fun _ => pr (.nx ρ)
theorem mQ {D:Ends}{p:Wo}{x y : W}{vx vy : V}{ρ : Env'}{σ : St} (hn : PySem.W.nsIn X.K mainGlobals c = some (some (.ref C))) (R:Rel X.K p) (S:Re X.K p ρ σ) (rx : Rv X.K p x vx) (ry : Rv X.K p y vy) (h:Ps (cg X E) (RFl X.K) p (bd (putG c f x y) (fun _ => pr (.nx ρ)) p.h) (DQ D)) :
    ∃ a dx fs,vx = .ref a ∧ p.H a = some (.ins C dx fs) ∧ fs.length < 1000 ∧ D.nx σ (upd p.H a (.ins C dx (putF f vy fs))) :=by
  unfold putG at h
  rw [aa] at h
  obtain ⟨j,ns,ws,dx,fs,rfl,hj,e,rfl,q2,q3,q4,h⟩ := ij hn R rx h
  have ln : fs.length = ns.length :=by rw [← q3,List.length_map]
  by_cases z : ns.length < 1000
  · have h : Ps (cg X E) (RFl X.K) p (.ok (.nx ρ) (p.h.set j (.ins c (putN ns ws f y).1 (putN ns ws f y).2))) (DQ D) :=by
      have e2 : (bd (fun h => if ns.length < 1000 then Rs.ok () (h.set j (.ins c (putN ns ws f y).1 (putN ns ws f y).2)) else .bad) (fun _ => pr (Fl.nx ρ)) p.h) = .ok (.nx ρ) (p.h.set j (.ins c (putN ns ws f y).1 (putN ns ws f y).2)) :=by
        unfold bd
        simp only [if_pos z]; rfl
      rw [← e2]; exact h
    obtain ⟨a,b⟩ := mP ry q3 q4
    refine ⟨p.mu j,dx,fs,rfl,q2,by omega,?_⟩
    exact Ps.at (p := p.put j (.ins c (putN ns ws f y).1 (putN ns ws f y).2) (.ins C dx (putF f vy fs))) (b := FlV.nx σ) h rfl (Ex.put e (by simp)) (R.putI e (by simp) hn a b) ⟨σ,rfl,S.mono R (Ex.put e (by simp))⟩
  · have e2 : (bd (fun h => if ns.length < 1000 then Rs.ok () (h.set j (.ins c (putN ns ws f y).1 (putN ns ws f y).2)) else .bad) (fun _ => pr (Fl.nx ρ)) p.h) = .bad :=by
      unfold bd
      simp only [if_neg z]
    have h : Ps (cg X E) (RFl X.K) p (bd (fun h => if ns.length < 1000 then Rs.ok () (h.set j (.ins c (putN ns ws f y).1 (putN ns ws f y).2)) else .bad) (fun _ => pr (Fl.nx ρ)) p.h) (DQ D) := h
    rw [e2] at h
    exact h.elim
variable {value : Expr}{fv : Env' → M W}{tpos : Pos}
theorem kg (hn : PySem.W.nsIn X.K mainGlobals c = some (some (.ref C))) (cl : Cls X.K C) (na : NoAttr X.K C f) (ho : JE X E o fo) (hv : JE X E value fv) (hs : swapsWith value (some (.Attribute o f pos')) pos.line X.env = pure false :=by rfl) : JS X E (.Assign [.Attribute o f pos'] value pos) (sFldW c f fo fv) :=
  (r9 ho.h hv.h hs).imp fun D σ H h => by
    obtain ⟨w,ρ,rfl,R,S,h⟩ := h
    refine ⟨w,ρ,rfl,R,S,Ps.bd h fun p y vy e1 R1 r1 h1 => ⟨p,ρ,rfl,R1,S.mono R e1,Ps.bd h1 fun q x vx e2 R2 r2 h2 => ?_⟩⟩
    obtain ⟨a,dx,fs,ex,q1,q2,q3⟩ := mQ hn R2 ((S.mono R e1).mono R1 e2) r2 (r1.mono R1 e2) h2
    exact ⟨a,C,dx,fs,ex,q1,cl,na,q2,q3⟩
noncomputable def addI (x y : W) : M W := match x,y with
  | .int i,.int j => pr (.int (i + j))
  | _,_ => no
noncomputable def sAugW (c f : Str) (fo fv : Env' → M W) : Env' → M Fl := fun ρ => bd (fo ρ) fun x => bd (fldG c f x) fun v => bd (fv ρ) fun y => bd (addI v y) fun z => bd (putG c f x z) fun _ => pr (.nx ρ)
theorem nR (hn : PySem.W.nsIn X.K mainGlobals c = some (some (.ref C))) (cl : Cls X.K C) (na : NoAttr X.K C f) (ho : JE X E o fo) (hv : JE X E value fv) : JS X E (.AugAssign (.Attribute o f tpos) .Add value pos) (sAugW c f fo fv) :=
  (nG ho.h hv.h py).imp fun D σ H h => by
    obtain ⟨w,ρ,rfl,R,S,h⟩ := h
    refine ⟨w,ρ,rfl,R,S,Ps.bd h fun p x vx e1 R1 r1 h1 => ?_⟩
    unfold fldG at h1
    rw [aa] at h1
    obtain ⟨j,ns,ws,dx,fs,rfl,hj,e,rfl,q2,q3,q4,h1⟩ := ij hn R1 r1 h1
    cases l : lookF ns ws f with
    | none => simp only [l] at h1; exact h1.elim
    | some v =>
      simp only [l,bt] at h1
      obtain ⟨vv,lv,rv⟩ := jb q3 q4 l
      refine ⟨_,C,dx,fs,vv,rfl,q2,cl,na,lv,p,ρ,rfl,R1,S.mono R e1,Ps.bd h1 fun q y vy e2 R2 r2 h2 => ?_⟩
      unfold addI at h2
      split at h2
      · rename_i a b
        rw [bt] at h2
        refine ⟨a,b,rv_int.mp rv,rv_int.mp r2,?_⟩
        have rl : Rv X.K q (.loc j) (.ref (p.mu j)) :=by
          have := r1.mono R1 e2
          exact this
        obtain ⟨ad,dx',fs',ex,k1,k2,k3⟩ := mQ (vy := V.int (a + b)) hn R2 ((S.mono R e1).mono R1 e2) rl (rv_int.mpr rfl) h2
        cases ex
        exact ⟨dx',fs',k1,k2,k3⟩
      · exact h2.elim
structure CGm (P:Program) (w:World) (K:PySem.W.Frag) (mg : Str → Option Value) (base : Heap) (k:Nat) (C:Addr) (m:Str) (f:Addr) (fd : FuncData) (ps : List Str) (n:Nat) (fn : List W → M W) : Prop where
  ok : FnOk P w K mg base CX0 k f fd ps (spM0 K mg n fn)
  bi : Binds K fd ps []
  me : Meth K C m f
noncomputable def isI (c m : Str) (x:W) : M W := bd (insG c x) fun t => if m ∈ t.2.1 then no else pr x
noncomputable def mMet (c m : Str) (n:Nat) (fn : List W → M W) (fo : Env' → M W) (l:Env' → M (List W)) : Env' → M W := fun ρ => bd (fo ρ) fun x => bd (isI c m x) fun x => bd (l ρ) fun ws => arW n fn (x :: ws)
theorem tm {α β : Type}{r:Wo → α → β → Prop}{m:Str}{p:Wo}{x:W}{v:V}{k:W → M α}{Q:β → Hp → Prop} (hn : PySem.W.nsIn X.K mainGlobals c = some (some (.ref C))) (R:Rel X.K p) (hr : Rv X.K p x v) (h:Ps (cg X E) r p (bd (isI c m x) k p.h) Q) :
    ∃ a dx fs,v = .ref a ∧ p.H a = some (.ins C dx fs) ∧ fs.lookup m = none ∧ Ps (cg X E) r p (k x p.h) Q :=by
  unfold isI at h
  rw [aa] at h
  obtain ⟨j,ns,ws,dx,fs,rfl,hj,e,rfl,q2,q3,q4,h⟩ := ij hn R hr h
  by_cases z : m ∈ ns
  · simp only [if_pos z] at h
    exact h.elim
  · simp only [if_neg z,bt] at h
    exact ⟨_,dx,fs,rfl,q2,lK (by rw [q3]; exact z),h⟩
end
section
variable {X:Cx}{c m : Str}{C fA : Addr}{fd : FuncData}{ps : List Str}{k n : Nat}{fn : List W → M W}{o e : Expr}{es : List Expr}{fo : Env' → M W}{l:Env' → M (List W)}{pos apos p : Pos}
theorem i9 {pl : Sem Bool} (hn : PySem.W.nsIn X.K mainGlobals c = some (some (.ref C))) (cl : Cls X.K C) (F:CGm X.prog X.w X.K X.mg X.base k C m fA fd ps n fn) (hr : Room k X.A) (ho : JE X E0 o fo) (ha : JA X E0 (e :: es) l)
    (hst : starEach (e :: es) X.env = (false,eval e X.env) :: starEach es X.env :=by rfl) (hpl : (backTo pos (starEach es X.env)).any (·.1) = false :=by rfl)
    (ht : eval (.Call (.Attribute o m apos) (e :: es) [] pos) X.env = (do
      let ov ← eval o X.env
      standAt apos.atName
      let (f,first) ← holding [ov] (getMethod ov m pl)
      callWith pos f first (backTo pos (starEach (e :: es) X.env)) (backToKw pos (keywordEach [] X.env))) :=by rfl) :
    JE X E0 (.Call (.Attribute o m apos) (e :: es) [] pos) (mMet c m n fn fo l) := (ql ho.h cl F.me F.ok hr F.bi .nil pass0 ha.h hst hpl ht).imp fun σ H Q h => by
  obtain ⟨w,ρ,rfl,R,S,h⟩ := h
  refine ⟨w,ρ,rfl,R,S,Ps.bd h fun p x vx e1 R1 r1 h1 => ?_⟩
  obtain ⟨a,dx,fs,rfl,q1,q2,h1⟩ := tm hn R1 r1 h1
  refine ⟨a,dx,fs,rfl,q1,q2,p,ρ,rfl,R1,S.mono R e1,Ps.bd h1 fun q ws vs e2 R2 r2 h2 => ?_⟩
  unfold arW at h2
  by_cases z : (x :: ws).length = n
  · rw [if_pos z] at h2
    exact ⟨q,x :: ws,rfl,z,R2,by rw [List.append_nil]; exact Rvs.cons (r1.mono R1 e2) r2,h2⟩
  · rw [if_neg z] at h2
    exact h2.elim
noncomputable def mMake (c:Str) (n:Nat) (fn : List W → M W) (l:Env' → M (List W)) : Env' → M W := fun ρ => bd (l ρ) fun ws => fun h => match arW n fn (.loc h.length :: ws) (h ++ [.ins c [] []]) with
  | .ok .non h' => .ok (.loc h.length) h'
  | _ => .bad
theorem Rv.addLocI {K:PySem.W.Frag}{o:Wo}{q:Addr}{b:Ob}{u:HO} : Rv K (o.add q b u) (.loc o.h.length) (.ref q) :=by
  unfold Rv
  refine ⟨by show _ < (o.h ++ [b]).length; simp,?_⟩
  show V.ref q = V.ref (if o.h.length = o.h.length then q else o.mu o.h.length)
  rw [if_pos rfl]
theorem qG (M:Mk X.K C fA) (hn : PySem.W.nsIn X.K mainGlobals c = some (some (.ref C))) (F:FnOk X.prog X.w X.K X.mg X.base CX0 k fA fd ps (spM0 X.K X.mg n fn)) (hb : Binds X.K fd ps []) (hr : Room (k + 1) X.A) (hm : X.mg c = some (.ref C)) (ha : JA X E0 (e :: es) l) (hg : Gl X c :=by rfl)
    (hdb : (c == ("__debug__" : Str)) = false :=by decide) (he : starEach (e :: es) X.env = (false,eval e X.env) :: starEach es X.env :=by rfl) (hpl : (backTo pos (starEach es X.env)).any (·.1) = false :=by rfl) :
    JE X E0 (.Call (.Name c p) (e :: es) [] pos) (mMake c n fn l) := (qm M F hr hg hm hb .nil pass0 ha.h hdb he hpl).imp fun σ H Q h => by
  obtain ⟨w,ρ,rfl,R,S,h⟩ := h
  refine ⟨w,ρ,rfl,R,S,Ps.bd h fun p ws vs e1 R1 r1 h1 => ?_⟩
  intro x dx hx hdx hne
  have X1 : Ex p ⟨p.mu,p.h,upd p.H dx (.own x)⟩ := Ex.new hdx
  have N1 : Rel X.K ⟨p.mu,p.h,upd p.H dx (.own x)⟩ := R1.new hdx
  have hx1 : (⟨p.mu,p.h,upd p.H dx (.own x)⟩ : Wo).H x = none :=by
    show upd p.H dx (.own x) x = none
    rw [aX (Ne.symm hne)]; exact hx
  have X2 : Ex ⟨p.mu,p.h,upd p.H dx (.own x)⟩ (Wo.add ⟨p.mu,p.h,upd p.H dx (.own x)⟩ x (.ins c [] []) (.ins C dx [])) := Ex.add hx1
  have N2 : Rel X.K (Wo.add ⟨p.mu,p.h,upd p.H dx (.own x)⟩ x (.ins c [] []) (.ins C dx [])) := N1.add hx1 ⟨C,dx,[],hn,cn,rfl,Rvs.nil⟩
  have h1 : Ps (cg X E0) (Rv X.K) p (match arW n fn (.loc p.h.length :: ws) (p.h ++ [.ins c [] []]) with
    | .ok .non h' => .ok (.loc p.h.length) h'
    | _ => .bad) Q := h1
  by_cases z : (W.loc p.h.length :: ws).length = n
  · rw [pS z] at h1
    refine ⟨Wo.add ⟨p.mu,p.h,upd p.H dx (.own x)⟩ x (.ins c [] []) (.ins C dx []),.loc p.h.length :: ws,rfl,z,N2,?_,?_⟩
    · rw [List.append_nil]
      exact Rvs.cons Rv.addLocI ((r1.mono R1 X1).mono N1 X2)
    · show Ps ⟨X.K,X.mg,E0⟩ (Rv X.K) _ (fn (.loc p.h.length :: ws) (p.h ++ [.ins c [] []])) _
      cases ef : fn (.loc p.h.length :: ws) (p.h ++ [.ins c [] []]) with
      | ok a h' =>
        rw [ef] at h1
        cases a with
        | non =>
          intro p' b hp X3 R3 rb
          refine ⟨rv_non.mp rb,Ps.at (p := p') h1 hp ((X1.trans X2).trans X3) R3 ?_⟩
          have lt : p.h.length < (Wo.add ⟨p.mu,p.h,upd p.H dx (.own x)⟩ x (.ins c [] []) (.ins C dx [])).h.length :=by show _ < (p.h ++ [_]).length; simp
          unfold Rv
          refine ⟨Nat.lt_of_lt_of_le lt X3.le,?_⟩
          rw [X3.mu _ lt]
          show V.ref x = V.ref (if p.h.length = p.h.length then x else p.mu p.h.length)
          rw [if_pos rfl]
        | _ => exact h1.elim
      | ex y h' => rw [ef] at h1; exact h1.elim
      | bad => rw [ef] at h1; exact h1.elim
  · have : arW n fn (.loc p.h.length :: ws) = no := if_neg z
    rw [this] at h1
    exact h1.elim
end
end L2
set_option maxHeartbeats 1000000
namespace PySem
open Sem (wp)
theorem kA {prog : Program}{w:World}{A:Around}{E:Value → Shared → Prop}{s:Shared}{a:Addr}{o:Obj}{xs : Array Value}{k:Nat}{name : Str}{Q:Option Value → Shared → Prop}
    (hx : s.heap.get? a = some o) (hc : o.cls = .type "list") (hdat : o.data = .seq xs k) (hd : o.dict = none) (hmiss : typeLookup (.type "list") name = pure none) (hname : (["__module__", "__name__", "__qualname__", "__doc__", "__annotations__"] : List Str).contains name = false) (hA : A.handled = none)
    (h:∀ h' tk,(∀ b ob,s.heap.get? b = some ob → h'.get? b = some ob) → Q none { s with heap := h',toks := tk }) (hsz : name.length + 100 ≤ sizeLine :=by size_fits) :
    wpAny (model prog w) A (getAttr? (.ref a) name) Q E s :=by
  obtain ⟨c,dct,dat,sl⟩ := o
  simp only at hc hdat hd
  subst hc hdat hd
  obtain ⟨hp,g,d,tk,os⟩ := s
  have hT : ∀ tk',(⟨hp,g,d,tk',os⟩ : Shared).TypeIs (.ref a) "list" := fun _ => ⟨_,hx,rfl⟩
  have f1 := sub_AttributeError
  have f3 := F.slot_list_getattribute.lookup
  have f4 := F.slot_list_getattribute.bind (.ref a)
  have f5 := am_list_getattr_none
  unfold getAttr? getAttrBy? getAttrBy
  repeat (any_goals (first | assumption | exact hT _ | ((with_reducible show wpAny _ _ (call (Value.builtin "list.__getattribute__") _ _) _ _ _); refine call_meets F.slot_list_getattribute (hT _) am_entry_list_getattribute (F.args_list_getattribute_2 _ _) (meets_getattribute_miss_list a xs k sl name _ hmiss hname hsz) ⟨hx,hA,fun h' tk' e hx' => ?_⟩) | wp_step))
  obtain ⟨t',u',he⟩ := hx'.there
  show wpAny _ _ (getattributeRaised _ _ _ _ _ _ _) _ _ _
  unfold getattributeRaised
  repeat (any_goals (first | assumption | wp_step))
  exact h _ _ hx'.keeps
theorem F.entry_dul : entryFor table "dict.update.loop" = some Builtin.«dict.update.loop» := entryFor_of_tree (by kernel_rfl)
theorem F.plain_dul : plainId "dict.update.loop" = true :=by decide +kernel
structure Pr17 (K:Type) where
  t : Addr
  k : K
  key : Value
  val : Value
section
variable {prog : Program}{w:World}{K:Type} [DecidableEq K] {knd : KeyKind prog w K}{A:Around}{R:Result → Shared → Prop}
theorem pJ (hh : A.in1.handled = none) (I ax D : Addr) (hI : ax ≠ I) (hD : D ≠ I) (hx : D ≠ ax) (ps : List (Pr17 K)) (res : Value) (hk : ∀ p ∈ ps,knd.is p.k p.key = true) (ht : ∀ p ∈ ps,p.t ≠ I ∧ p.t ≠ D) :
    ∀ (k i : Nat) (s:Shared) (kvs : List (K × Value)),ps.length - i = k → i ≤ ps.length → s.heap.IsListIter I ax i → s.heap.IsList ax (ps.map fun p => Value.ref p.t).toArray → s.heap.DictOf knd D kvs → (∀ p ∈ ps,∃ o n,s.heap.get? p.t = some o ∧ o.cls = .type "tuple" ∧ o.data = .seq #[p.key,p.val] n) → kvs.length + (ps.length - i) ≤ sizeLine →
    (∀ h' tk,h'.DictOf knd D ((ps.drop i).foldl (fun acc p => stored acc p.k p.val) kvs) → (∀ b o,b ≠ I → b ≠ D → s.heap.get? b = some o → h'.get? b = some o) → R (.ok (.ret res)) { s with heap := h',toks := tk }) →
    codeAny (model prog w) A (.builtin "dict.update.loop" ⟨[.ref D,.ref I,rawInt (i:Int),res],[]⟩) R s :=by
  have W := Walks.list (prog := prog) (w := w) (A := A.in1) hh I ax hI (ps.map fun p => Value.ref p.t).toArray
  have hn : (ps.map fun p => Value.ref p.t).toArray.size = ps.length :=by simp
  intro k
  induction k with
  | zero =>
    intro i s kvs hk' hi hit hl hd htp hz hR
    have hin : i = ps.length :=by omega
    subst hin
    refine codeAny_builtin F.entry_dul ?_
    rw [Around.under_plainId F.plain_dul _]
    show wpAny _ A.in1 (pyNext (.ref I) >>= _) _ _ s
    refine wpAny_bind (W.done s _ _ ⟨by rw [hn]; exact hit,hl⟩ fun h' tk hm => ?_)
    show wpAny _ _ (Builtin.Dict.addKeywords D [] >>= _) _ _ _
    refine wpAny_bind (wpAny_pure (wpAny_pure (hR h' tk ?_ fun b o hb _ e => hm b o (by simpa using hb) e)))
    rw [List.drop_length]
    exact hd.extBut (fun b o hb e => hm b o (by simpa using hb) e) hD
  | succ k ih =>
    intro i s kvs hk' hi hit hl hd htp hz hR
    have hlt : i < ps.length :=by omega
    refine codeAny_builtin F.entry_dul ?_
    rw [Around.under_plainId F.plain_dul _]
    show wpAny _ A.in1 (pyNext (.ref I) >>= _) _ _ s
    refine wpAny_bind (W.item i s _ _ (by rw [hn]; exact hlt) ⟨hit,hl⟩ fun v h' tk hP hst hm => ?_)
    obtain ⟨p,hp⟩ : ∃ p,ps[i]? = some p := ⟨_,List.getElem?_eq_getElem hlt⟩
    have hv : v = .ref p.t :=by
      have : (ps.map fun p => Value.ref p.t)[i]? = some v :=by simpa using hP
      rw [List.getElem?_map,hp] at this
      exact (Option.some.inj this).symm
    subst hv
    have pm : p ∈ ps := List.mem_of_getElem? hp
    obtain ⟨o,n,ho,hc,hdt⟩ := htp p pm
    have ho' : h'.get? p.t = some o := hm p.t o (by simpa using (ht p pm).1) ho
    have hT : (⟨h',s.gens,s.drawn,tk,s.os⟩ : Shared).TypeIs (.ref p.t) "tuple" := ⟨_,ho',hc⟩
    dsimp only
    refine wpAny_bind (wpAny_holding (wpAny_bind (wpAny_tryCatch ?_)))
    unfold Builtin.Dict.pairItems
    refine wpAny_bind (wpAny_typeOf hT ?_)
    rw [if_pos (by decide)]
    refine wpAny_bind (wpAny_seqItems ho' hdt (wpAny_pure ?_))
    show wpAny _ _ (holding [p.key,p.val] (dictSet D p.key p.val)) _ _ _
    have hd1 : h'.DictOf knd D kvs := hd.extBut (fun b o hb e => hm b o (by simpa using hb) e) hD
    refine wpAny_holding (wpAny_dictSet_pairs (s := ⟨h',s.gens,s.drawn,tk,s.os⟩) (hk p pm) hd1 (fun h2 hd2 hs2 => ?_) (by omega))
    have kp2 : ∀ b o,b ≠ D → h'.get? b = some o → h2.get? b = some o := fun b o hb e => (hs2.2 b hb).trans e
    have ei : ((i:Int) + 1) = ((i + 1 : Nat) : Int) :=by omega
    rw [ei]
    refine wpAny_pure ⟨plainId_quiet F.plain_dul _,ih (i + 1) _ (stored kvs p.k p.val) (by omega) (by omega) (hst.1.at fun o e => kp2 I o (Ne.symm hD) e) (hst.2.at fun o e => kp2 ax o (Ne.symm hx) e) hd2 (fun q hq => ?_) ?_ fun h3 tk3 hd3 hk3 => ?_⟩
    · obtain ⟨o,n,e1,e2,e3⟩ := htp q hq
      exact ⟨o,n,kp2 _ _ (ht q hq).2 (hm _ _ (by simpa using (ht q hq).1) e1),e2,e3⟩
    · have : (stored kvs p.k p.val).length ≤ kvs.length + 1 :=by
        unfold stored
        split
        · rw [List.length_map]; omega
        · rw [List.length_append]; simp
      omega
    · refine hR h3 tk3 ?_ fun b o hb hb2 e => hk3 b o hb hb2 (kp2 b o hb2 (hm b o (by simpa using hb) e))
      have ed : ps.drop i = p :: ps.drop (i + 1) :=by
        rw [List.drop_eq_getElem_cons hlt]
        congr 1
        have := List.getElem?_eq_getElem hlt
        rw [hp] at this
        exact (Option.some.inj this).symm
      rw [ed,List.foldl_cons]
      exact hd3
theorem nW : typeLookup (.type "list") "keys" = pure none := am_miss_of_fast (by decide +kernel)
theorem jw {E:Value → Shared → Prop}{s:Shared}{a:Addr}{ps : List (Pr17 K)}{Q:Value → Shared → Prop} (hh : A.handled = none) (hl : PlainL s.heap a (ps.map fun p => Value.ref p.t).toArray) (hk : ∀ p ∈ ps,knd.is p.k p.key = true)
    (ht : ∀ p ∈ ps,∃ o n,s.heap.get? p.t = some o ∧ o.cls = .type "tuple" ∧ o.data = .seq #[p.key,p.val] n) (hz : ps.length ≤ sizeLine)
    (h:∀ h' tk,h'.DictOf knd s.heap.objs.size (ps.foldl (fun acc p => stored acc p.k p.val) []) → (∀ b o,s.heap.get? b = some o → h'.get? b = some o) → Q (.ref s.heap.objs.size) { s with heap := h',toks := tk }) :
    wpAny (model prog w) A (call (.type "dict") [.ref a]) Q E s :=by
  refine callType_codes (Q₁ := fun obj s₁ => obj = .ref s.heap.objs.size ∧ s₁ = { s with heap := s.heap.push { cls := .type "dict",data := .dict #[] } }) F.kt_called_dict (F.kt_typeCall_dict_1 _) F.entry_dict_init (kt_code_dict_new _ ⟨rfl,rfl⟩) ?_
  rintro obj s₁ ⟨rfl,rfl⟩
  have hnew : (s.heap.push { cls := .type "dict",data := .dict #[] }).DictOf knd s.heap.objs.size [] := Heap.DictOf.new s.heap
  have kp1 : ∀ b o,s.heap.get? b = some o → (s.heap.push { cls := .type "dict",data := .dict #[] }).get? b = some o := fun b o e => Heap.get?_push_of_some _ e
  have hl1 := hl.keeps kp1
  have hT : ({ s with heap := s.heap.push { cls := .type "dict",data := .dict #[] } } : Shared).TypeIs (.ref a) "list" := let ⟨o,n,e,c,_,_⟩ := hl1; ⟨o,e,c⟩
  have al : a < s.heap.objs.size := let ⟨o,n,e,_⟩ := hl; Heap.lt_size e
  refine ⟨hnew.typeIs,F.args_dict_init_2 _ _,?_⟩
  unfold Builtin.«dict.__init__»
  refine wpAny_bind ?_
  unfold Builtin.Dict.selfAndRest
  refine wpAny_bind (wpAny_notOrdered_dict hnew.typeIs ?_)
  show wpAny _ _ (pure (s.heap.objs.size,[Value.ref a])) _ _ _
  refine wpAny_pure ?_
  show wpAny _ _ (Builtin.Dict.updateFrom "dict.__init__" s.heap.objs.size (.ref a) [] .none) _ _ _
  unfold Builtin.Dict.updateFrom
  refine wpAny_bind (wpAny_typeOf hT ?_)
  rw [if_pos (by decide)]
  obtain ⟨o,n,e1,e2,e3,e4⟩ := hl1
  refine wpAny_bind (kA e1 e2 e4 e3 nW (by decide +kernel) hh (fun h2 tk2 kp2 => ?_) (by decide +kernel))
  rw [if_pos (show (none : Option Value).isNone = true from rfl)]
  refine wpAny_bind (wpAny_rule ?_)
  have hl2 : PlainL h2 a (ps.map fun p => Value.ref p.t).toArray := PlainL.keeps ⟨o,n,e1,e2,e3,e4⟩ kp2
  refine wpAny_bind (wpAny_pyIter_list (s := ⟨h2,s.gens,s.drawn,tk2,s.os⟩) hl2.isList ?_)
  have d2 : s.heap.objs.size < h2.objs.size :=by
    obtain ⟨o',_,_,e',_⟩ := hnew
    exact Heap.lt_size (kp2 _ _ e')
  have kp3 : ∀ b o,s.heap.get? b = some o → (h2.push { cls := .type "list_iterator",data := .fields #[.ref a,.int 0 0] }).get? b = some o := fun b o e => Heap.get?_push_of_some _ (kp2 b o (kp1 b o e))
  have hnew3 : (h2.push { cls := .type "list_iterator",data := .fields #[.ref a,.int 0 0] }).DictOf knd s.heap.objs.size [] :=by
    obtain ⟨o',es,ep,e',r⟩ := hnew
    exact ⟨o',es,ep,Heap.get?_push_of_some _ (kp2 _ _ e'),r⟩
  have tl : ∀ p ∈ ps,p.t < s.heap.objs.size := fun p hp => by
    obtain ⟨o,n,e,_⟩ := ht p hp
    exact Heap.lt_size e
  refine wpAny_pure ⟨plainId_quiet F.plain_dul _,pJ (A := A.in1) (knd := knd) hh h2.objs.size a s.heap.objs.size (Nat.ne_of_lt (Nat.lt_trans al d2)) (Nat.ne_of_lt d2) (Ne.symm (Nat.ne_of_lt al)) ps .none hk (fun p hp => ⟨Nat.ne_of_lt (Nat.lt_trans (tl p hp) d2),Nat.ne_of_lt (tl p hp)⟩) ps.length 0 _ [] rfl (Nat.zero_le _) ⟨_,Heap.get?_push_size _ rfl,rfl,rfl⟩ (PlainL.keeps hl2 fun b o e => Heap.get?_push_of_some _ e).isList hnew3 (fun p hp => ?_) (by show 0 + (ps.length - 0) ≤ sizeLine; omega) fun h4 tk4 hd4 hk4 => ?_⟩
  · obtain ⟨o,n,e,r⟩ := ht p hp
    exact ⟨o,n,kp3 _ _ e,r⟩
  · refine ⟨rfl,h h4 tk4 hd4 fun b o e => hk4 b o ?_ ?_ (kp3 b o e)⟩
    · exact Nat.ne_of_lt (Nat.lt_trans (Heap.lt_size e) d2)
    · exact Nat.ne_of_lt (Heap.lt_size e)
end
end PySem
namespace L2
open PySem PySem.Spec PyProof.Rows
inductive PrsAt (K:PySem.W.Frag) (H:Hp) : List V → List (Key × V) → Prop
  | nil : PrsAt K H [] []
  | cons {t:Addr}{k:Key}{v:V}{vs : List V}{ps : List (Key × V)} (e:SqT K H t [kV k,v]) (r:PrsAt K H vs ps) : PrsAt K H (.ref t :: vs) ((k,v) :: ps)
theorem iV : ∀ (ps kvs : List (Key × V)),(eT kvs ps).length ≤ kvs.length + ps.length
  | [],kvs => by simp [eT]
  | p :: ps,kvs => by
    have h1 := iV ps (putK kvs p.1 p.2)
    have h2 := fH kvs p.1 p.2
    show (eT (putK kvs p.1 p.2) ps).length ≤ _
    rw [List.length_cons]; omega
section
variable {X:Cx}
theorem oI {pins : List (Addr × Obj)}{σ : St}{H:Hp}{s:Shared} (I:Inv X pins σ H s) : ∀ {vs : List V}{kvs : List (Key × V)}{its : List Value},PrsAt X.K H vs kvs → Vals vs its →
    ∃ ps : List (Pr17 Key),its = ps.map (fun p => Value.ref p.t) ∧ (∀ p ∈ ps,(cj X.prog X.w).is p.k p.key = true) ∧ (∀ p ∈ ps,∃ o n,s.heap.get? p.t = some o ∧ o.cls = .type "tuple" ∧ o.data = .seq #[p.key,p.val] n) ∧
      ps.length = kvs.length ∧ ∀ (acc : List (Key × V)) (ac : List (Key × Value)),KV acc ac → KV (eT acc kvs) (ps.foldl (fun acc p => stored acc p.k p.val) ac)
  | _,_,_,.nil,.nil => ⟨[],rfl,fun p hp => absurd hp List.not_mem_nil,fun p hp => absurd hp List.not_mem_nil,rfl,fun _ _ h => h⟩
  | _,_,_,.cons (t := t) (k := k) (v := v) e r,.cons ru rr => by
    cases ru
    obtain ⟨ps,e1,h1,h2,h3,h4⟩ := oI I r rr
    obtain ⟨is,rv,tp,_⟩ := I.tuple e
    obtain ⟨u,w',rfl,rk,rw'⟩ := vals2 rv
    obtain ⟨o,ho,hc,n,hd⟩ := tp
    refine ⟨⟨t,k,u,w'⟩ :: ps,by rw [List.map_cons,e1],fun p hp => ?_,fun p hp => ?_,by rw [List.length_cons,List.length_cons,h3],fun acc ac q => ?_⟩
    · rcases List.mem_cons.mp hp with rfl | hp
      · exact lL rk
      · exact h1 p hp
    · rcases List.mem_cons.mp hp with rfl | hp
      · exact ⟨o,n,ho,hc,hd⟩
      · exact h2 p hp
    · rw [List.foldl_cons]
      exact h4 _ _ (q.put k rw')
theorem kI (hc : X.calm = true) : CallR X (.type "dict") (fun xs H Q => ∃ (a:Addr) (vs : List V) (kvs : List (Key × V)),xs = [.ref a] ∧ SqL X.K H a vs ∧ PrsAt X.K H vs kvs ∧ ∀ p,H p = none → Q (.ref p) (upd H p (.dK (eT [] kvs)))) :=by
  intro pins s σ H xs us Q I r h
  obtain ⟨a,vs,kvs,rfl,sq,pr',q⟩ := h
  obtain ⟨u,rfl,ru⟩ := vals1 r
  cases ru
  obtain ⟨its,rv,pl,hz⟩ := I.list sq
  obtain ⟨ps,rfl,h1,h2,h3,h4⟩ := oI I pr' rv
  have hl : vs.length = kvs.length :=by rw [rv.length,List.length_map,h3]
  have ml := iV kvs []
  rw [List.length_nil] at ml
  refine jw (knd := cj X.prog X.w) (I.ok.hd hc) pl h1 h2 (by omega) fun h' tk hd kp => ?_
  exact ⟨.ref s.heap.objs.size,_,I.laid (a := s.heap.objs.size) (o := .dK (eT [] kvs)) (t' := tk) kp (Nat.le_refl _) (pK (by omega) (beq_eq_false_iff_ne.mpr (Ne.symm (Nat.ne_of_lt I.big))) (h4 [] [] .nil) hd),rfl,q _ (I.hok.fresh (Nat.le_refl _))⟩
end
end L2
set_option maxHeartbeats 1000000
namespace L2
open PySem PySem.Spec PyProof.Rows
noncomputable def prW : W → Option (Key × W)
  | .tup [k,v] => (keyOf k).map fun q => (q,v)
  | _ => none
noncomputable def eD (ks : List Key) (ws : List W) : List (Key × W) → List Key × List W
  | [] => (ks,ws)
  | p :: ps => eD (putW ks ws p.1 p.2).1 (putW ks ws p.1 p.2).2 ps
section
variable {K:PySem.W.Frag}{o:Wo}
theorem oH : ∀ {l:List W}{us : List V}{ps : List (Key × W)},optL prW l = some ps → Rvs K o l us → ∃ kvs : List (Key × V),PrsAt K o.H us kvs ∧ ∀ (acc : List (Key × V)) (ks : List Key) (ws : List W),acc.map (·.1) = ks → Rvs K o ws (acc.map (·.2)) → (eT acc kvs).map (·.1) = (eD ks ws ps).1 ∧ Rvs K o (eD ks ws ps).2 ((eT acc kvs).map (·.2))
  | [],_,ps,e,r => by
    cases e
    unfold Rvs at r
    subst r
    exact ⟨[],.nil,fun acc ks ws h1 h2 => ⟨h1,h2⟩⟩
  | x :: l,_,ps,e,r => by
    unfold Rvs at r
    obtain ⟨v,t,rfl,r1,r2⟩ := r
    unfold optL at e
    cases ex : prW x with
    | none => simp only [ex] at e; cases e
    | some p =>
      cases el : optL prW l with
      | none => simp only [ex,el] at e; cases e
      | some qs =>
        simp only [ex,el] at e
        cases e
        obtain ⟨kvs,h1,h2⟩ := oH el r2
        unfold prW at ex
        split at ex
        · rename_i kx vx
          cases ek : keyOf kx with
          | none => rw [ek] at ex; cases ex
          | some q =>
            rw [ek] at ex
            cases ex
            unfold Rv at r1
            obtain ⟨a,vs,rfl,sq,rr⟩ := r1
            obtain ⟨u,y,rfl,ru,ry⟩ := rr.two
            have := gA ek ru
            subst this
            refine ⟨(q,y) :: kvs,.cons sq h1,fun acc ks ws g1 g2 => ?_⟩
            obtain ⟨b1,b2⟩ := mO (x := q) ry g1 g2
            exact h2 _ _ _ b1 b2
        · cases ex
end
noncomputable def dNewL (ws : List W) : M W := match ws with
  | [x] => bd (lstOf x) fun l => match optL prW l with
    | some ps => fun h => .ok (.loc h.length) (h ++ [.dic (eD [] [] ps).1 (eD [] [] ps).2])
    | none => no
  | _ => no
section
variable {X:Cx}{E:XK}{a:Expr}{p pos : Pos}{l:Env' → M (List W)}
theorem o5 (hc : X.calm = true) (hm : X.mg "dict" = none) (ha : JA X E [a] l) (hg : Gl X "dict" := by rfl) (he : starEach [a] X.env = (false,eval a X.env) :: starEach [] X.env :=by rfl) (hpl : (backTo pos (starEach [] X.env)).any (·.1) = false :=by rfl) : JE X E (.Call (.Name "dict" p) [a] [] pos) (mCall dNewL l) :=
  (gK (kI hc) hg hm PyProof.Rows.boot_dict ha.h (he := he) (hpl := hpl)).imp fun σ H Q h => by
    obtain ⟨o,ρ,rfl,R,S,h⟩ := h
    refine ⟨o,ρ,rfl,R,S,Ps.bd h fun p x vx e1 R1 r1 h1 => ?_⟩
    unfold dNewL at h1
    split at h1
    · obtain ⟨v,rfl,r⟩ := r1.one
      obtain ⟨m,a',us,rfl,s,rr,h1⟩ := eL R1 r h1
      cases el : optL prW m with
      | none => simp only [el] at h1; exact h1.elim
      | some ps =>
        simp only [el] at h1
        obtain ⟨kvs,k1,k2⟩ := oH el rr
        obtain ⟨b1,b2⟩ := k2 [] [] [] rfl Rvs.nil
        refine ⟨a',us,kvs,rfl,s,k1,fun q hq => ?_⟩
        exact Ps.at (p := p.add q (.dic (eD [] [] ps).1 (eD [] [] ps).2) (.dK (eT [] kvs))) h1 rfl (Ex.add hq) (R1.addD hq b1 b2) Rv.addLoc
    · exact h1.elim
end
end L2
set_option maxHeartbeats 1000000
namespace L2
open PySem PySem.Spec PyProof.Rows
section
variable {X:Cx}{E:XK}{e:Expr}{f:Env' → M W}{pos : Pos}
noncomputable def sAug (i:Nat) (f:Env' → M W) : Env' → M Fl := fun ρ => bd (mVar i ρ) fun x => bd (f ρ) fun y => bd (addI x y) fun z => pr (.nx (ρ.set i (some z)))
theorem qi : PIp X .Add rAdd := fun pins s σ H x y u v Q I rx ry q => py pins s σ H x y u v Q I rx ry q
theorem mq {i:Nat}{x:Str}{pos' : Pos} (hN : X.N.Nodup) (hi : X.N[i]? = some x) (hx : Loc X.env.scope x) (he : JE X E e f) (hf : X.fn x = true ∨ X.env.scope.names.lookup x = some .local :=by first | exact .inl rfl | exact .inr rfl | assumption) :
    JS X E (.AugAssign (.Name x pos') .Add e pos) (sAug i f) := ⟨fun pins s σ H D I h => by
  obtain ⟨o,ρ,rfl,R,S,h⟩ := h
  unfold sAug mVar at h
  split at h
  · rename_i w hw
    obtain ⟨v,hv,rv⟩ := S.get hw
    rw [bt] at h
    refine sd hN hi hx he.h qi hf pins s σ o.H D I ⟨v,hv,o,ρ,rfl,R,S,Ps.bd h fun p y vy e1 R1 r1 h1 => ?_⟩
    unfold addI at h1
    split at h1
    · rename_i a b
      rw [bt] at h1
      exact ⟨a,b,rv_int.mp (rv.mono R e1),rv_int.mp r1,Ps.pr (b := FlV.nx (σ.set i (some (.int (a + b))))) h1 R1 ⟨_,rfl,(S.mono R e1).set (rv_int.mpr rfl) i⟩⟩
    · exact h1.elim
  · exact h.elim⟩
end
theorem eQ {es : List Expr}{env : Env}{a o p} : starEach (.Attribute a o p :: es) env = (false,eval (.Attribute a o p) env) :: starEach es env :=by rfl
end L2
set_option maxHeartbeats 1000000
namespace L2
open PySem
section
variable {β : Type}{h:List Ob}{Q:β → List Ob → Prop}{j d : Nat}
theorem ka {c:Str}{ns : List Str}{ws : List W} (e:h[d]? = some (.ins c ns ws)) : insG c (.loc d) h = .ok (d,ns,ws) h :=by
  unfold insG
  simp only [e,if_true]
theorem cx {c f : Str}{ns : List Str}{ws : List W}{w:W}{k:W → M β} (e:h[d]? = some (.ins c ns ws)) (e2 : lookF ns ws f = some w) (q:Ok (k w) h Q) : Ok (bd (fldG c f (.loc d)) k) h Q :=by
  refine bp (a := w) (h' := h) ?_ q
  unfold fldG
  rw [dq (ka e)]
  simp only [e2]
  rfl
theorem iM {c f : Str}{ns ns' : List Str}{ws ws' : List W}{y:W}{k:Unit → M β} (e:h[d]? = some (.ins c ns ws)) (z:ns.length < 1000) (e2 : putN ns ws f y = (ns',ws')) (q:Ok (k ()) (h.set d (.ins c ns' ws')) Q) : Ok (bd (putG c f (.loc d) y) k) h Q :=by
  refine bp (a := ()) (h' := h.set d (.ins c ns' ws')) ?_ q
  unfold putG
  rw [dq (ka e)]
  simp only [if_pos z,e2]
theorem iQ {c m : Str}{ns : List Str}{ws : List W}{k:W → M β} (e:h[d]? = some (.ins c ns ws)) (z:m ∉ ns) (q:Ok (k (.loc d)) h Q) : Ok (bd (isI c m (.loc d)) k) h Q :=by
  refine bp (a := .loc d) (h' := h) ?_ q
  unfold isI
  rw [dq (ka e)]
  simp only [if_neg z]
  rfl
theorem oV {ks : List Key}{ws : List W}{z:Str}{v:W}{k:W → M β} (e:h[j]? = some (.dic ks ws)) (e2 : atK ks ws (.inr z) = some v) (q:Ok (k v) h Q) : Ok (bd (ixW (.loc j) (.str z)) k) h Q :=by
  refine bp (a := v) (h' := h) ?_ q
  have d : dicOf (.loc j) h = some (ks,ws) :=by unfold dicOf; simp only [e]
  have : ixO (.loc j) (.str z) h = some v :=by
    unfold ixO
    simp only [d,keyOf,e2]
  unfold ixW
  rw [this]
theorem iK {ks ks' : List Key}{ws ws' : List W}{z:Str}{v:W}{k:Unit → M β} (e:h[j]? = some (.dic ks ws)) (hz : ks.length < sizeLine) (e2 : putW ks ws (.inr z) v = (ks',ws')) (q:Ok (k ()) (h.set j (.dic ks' ws')) Q) : Ok (bd (gI (.loc j) (.str z) v) k) h Q :=by
  refine bp (a := ()) (h' := h.set j (.dic ks' ws')) ?_ q
  unfold gI
  simp only [e,keyOf,if_pos hz,e2]
theorem qx {c:Str}{n:Nat}{fn : List W → M W}{ws : List W}{P:List Ob → Prop}{k:W → M β} (hn : ws.length + 1 = n) (p:Ok (fn (.loc h.length :: ws)) (h ++ [.ins c [] []]) fun w h' => w = .non ∧ P h') (q:∀ h',P h' → Ok (k (.loc h.length)) h' Q) :
    Ok (bd (fun h => match arW n fn (.loc h.length :: ws) (h ++ [.ins c [] []]) with
  | .ok .non h' => .ok (.loc h.length) h'
  | _ => .bad) k) h Q :=by
  obtain ⟨w,h',e,rfl,hp⟩ := p
  refine bp (a := .loc h.length) (h' := h') ?_ (q h' hp)
  have : arW n fn (.loc h.length :: ws) = fn (.loc h.length :: ws) := pS hn
  simp only [this,e]
theorem ur {x:W}{l:List W}{ps : List (Key × W)}{ks : List Key}{ws : List W}{k:W → M β} (L:Lw h x l) (e:optL prW l = some ps) (e2 : eD [] [] ps = (ks,ws)) (q:Ok (k (.loc h.length)) (h ++ [.dic ks ws]) Q) : Ok (bd (dNewL [x]) k) h Q :=by
  refine bp (a := .loc h.length) (h' := h ++ [.dic ks ws]) ?_ q
  unfold dNewL
  dsimp only
  rw [dq L.of]
  simp only [e,e2]
theorem qz {k:W → M β}{ρ : Env'} (q:Ok (k (.loc h.length)) (h ++ [.dic [] []]) Q) : Ok (bd (mDNew ρ) k) h Q := bp (a := .loc h.length) (h' := h ++ [.dic [] []]) rfl q
theorem oU {x:W}{l:List W}{k:List W → M β} (L:Lw h x l) (q:Ok (k l) h Q) : Ok (bd (lstOf x) k) h Q := bp L.of q
end
theorem uE {t:Env' → M Bool}{g:Env' → M Fl}{n:Nat}{ρ : Env'}{h:List Ob}{Q:Fl → List Ob → Prop} (c:Ok (t ρ) h fun b h' => b = true ∧ h' = h) (b:Ok (g ρ) h fun x h' => (∃ r,x = .nx r ∧ Ok (bV t g n r) h' Q) ∨ ∃ w,x = .rt w ∧ Q (.rt w) h') : Ok (bV t g (n + 1) ρ) h Q :=by
  obtain ⟨b0,h0,e0,rfl,rfl⟩ := c
  obtain ⟨x,h1,e1,q⟩ := b
  rcases q with ⟨r,rfl,y,h2,e2,q⟩ | ⟨w,rfl,q⟩
  · refine ⟨y,h2,?_,q⟩
    unfold bV
    rw [dq e0,if_pos rfl,dq e1]
    exact e2
  · refine ⟨.rt w,h1,?_,q⟩
    unfold bV
    rw [dq e0,if_pos rfl,dq e1]
    rfl
theorem uF {t:Env' → M Bool}{g:Env' → M Fl}{n:Nat}{ρ : Env'}{h:List Ob}{Q:Fl → List Ob → Prop} (c:Ok (t ρ) h fun b h' => b = false ∧ h' = h) (q:Q (.nx ρ) h) : Ok (bV t g (n + 1) ρ) h Q :=by
  obtain ⟨b0,h0,e0,rfl,rfl⟩ := c
  refine ⟨.nx ρ,_,?_,q⟩
  unfold bV
  rw [dq e0,if_neg Bool.false_ne_true]
  rfl
noncomputable def ctS (g:Env' → M Fl) : Fl → M Fl := fun x => match x with
  | .nx r => g r
  | x => pr x
noncomputable def ctI (f g : Env' → M Fl) (ρ : Env') : Bool → M Fl := fun b => if b = true then f ρ else g ρ
theorem bK (f g : Env' → M Fl) (ρ : Env') : sSeq f g ρ = bd (f ρ) (ctS g) :=by unfold sSeq; rfl
theorem cN (g:Env' → M Fl) (r:Env') : ctS g (.nx r) = g r :=by unfold ctS; rfl
theorem cM (g:Env' → M Fl) (w:W) : ctS g (.rt w) = pr (.rt w) :=by unfold ctS; rfl
theorem cP (g:Env' → M Fl) (r:Env') : ctS g (.bk r) = pr (.bk r) :=by unfold ctS; rfl
theorem cO (g:Env' → M Fl) (r:Env') : ctS g (.ct r) = pr (.ct r) :=by unfold ctS; rfl
theorem cA (t:Env' → M Bool) (f g : Env' → M Fl) (ρ : Env') : sIf t f g ρ = bd (t ρ) (ctI f g ρ) :=by unfold sIf; rfl
theorem dQ (f g : Env' → M Fl) (ρ : Env') : ctI f g ρ true = f ρ := by unfold ctI; rw [if_pos rfl]
theorem dR (f g : Env' → M Fl) (ρ : Env') : ctI f g ρ false = g ρ := by unfold ctI; rw [if_neg Bool.false_ne_true]
end L2
namespace Q
open PySem L2
noncomputable def top (i:Nat) : Stmt := PySem.Challenge.pw_blockfall_k19_whole_runs_of_rows.main.body.getD i (.Pass ⟨0,0,0,0⟩)
noncomputable abbrev fL : Stmt := top 2
noncomputable abbrev bB : Stmt := gD (top 5) 0
noncomputable abbrev bf : Stmt := gD (top 5) 1
noncomputable abbrev bg : Stmt := gD (top 5) 2
noncomputable abbrev cr : Stmt := gD (top 5) 3
noncomputable abbrev cc : Stmt := gD (top 5) 4
noncomputable abbrev cp : Stmt := top 8
noncomputable abbrev dw : Stmt := top 7
noncomputable abbrev cq : Stmt := top 10
noncomputable abbrev dB : Stmt := top 11
noncomputable abbrev dz : Stmt := top 12
noncomputable abbrev dg : Stmt := top 13
noncomputable abbrev dD : Stmt := top 14
noncomputable abbrev dy : Stmt := top 15
noncomputable abbrev df : Stmt := top 16
noncomputable abbrev bF : Stmt := top 17
noncomputable abbrev eI : Stmt := top 18
noncomputable abbrev dE : Stmt := top 19
noncomputable abbrev cQ : Stmt := top 20
noncomputable abbrev bW : Stmt := top 21
noncomputable abbrev bJ : Stmt := top 22
noncomputable abbrev dh : Stmt := top 23
noncomputable abbrev cz : Stmt := top 24
noncomputable abbrev dC : Stmt := top 25
noncomputable abbrev dA : Stmt := top 26
noncomputable abbrev bG : Stmt := top 27
noncomputable abbrev db : Stmt := top 28
noncomputable abbrev d4 : Stmt := top 29
noncomputable abbrev dZ : Stmt := top 30
noncomputable abbrev gi : Stmt := top 31
noncomputable def eo (fr : List W → M W) : Env' → M Fl := (sSeq (sIf (mB (m2 eqW (m2 ixW (mVar 0) (mC (.int 0))) (mC (.str "number")))) (sRet (m2 ixW (mVar 0) (mC (.int 1)))) sNil) (sSeq (sIf (mB (m2 eqW (m2 ixW (mVar 0) (mC (.int 0))) (mC (.str "box")))) (sRet (m2 ixW (mVar 1) (m2 ixW (mVar 0) (mC (.int 1))))) sNil) (sSeq (sSet 2 (mCall (arW 2 fr) (mCons (m2 ixW (mVar 0) (mC (.int 1))) (mCons (mVar 1) mNil)))) (sSeq (sSet 3 (mCall (arW 2 fr) (mCons (m2 ixW (mVar 0) (mC (.int 2))) (mCons (mVar 1) mNil)))) (sSeq (sIf (mB (m2 eqW (m2 ixW (mVar 0) (mC (.int 0))) (mC (.str "+")))) (sRet (m2 addW (mVar 2) (mVar 3))) sNil) (sSeq (sIf (mB (m2 eqW (m2 ixW (mVar 0) (mC (.int 0))) (mC (.str "-")))) (sRet (m2 subW (mVar 2) (mVar 3))) sNil) (sRet (m2 mulW (mVar 2) (mVar 3)))))))))
noncomputable def bT : Nat → List W → M W
  | 0 => fun _ => no
  | n + 1 => runF 4 (eo (bT n))
noncomputable def cR : Env' → M Fl := (sSeq (sFldW "Doing" "held" (mVar 0) (mCall dNewL (mCons (mVar 1) mNil))) (sSeq (sFldW "Doing" "numbers" (mVar 0) (mTl (listL (mCons (mVar 2) mNil)))) (sSeq (sFldW "Doing" "taken" (mVar 0) (mC (.int 0))) (sFldW "Doing" "said" (mVar 0) (mNew (lenG mNil))))))
noncomputable def bq : List W → M W := runF 3 cR
noncomputable def bQ : Env' → M Fl := (sRet (mAndV (m2 eqW (m2 ixW (mVar 1) (mC (.int 0))) (mC (.str "ask"))) (m2 eqW (m1 (fldG "Doing" "taken") (mVar 0)) (mCall lenW (mCons (m1 (fldG "Doing" "numbers") (mVar 0)) mNil)))))
noncomputable def aS : List W → M W := runF 2 bQ
noncomputable def bS : Env' → M Fl := (sIf (mB (m2 eqW (m2 ixW (mVar 1) (mC (.int 0))) (mC (.str "put")))) (bn (m1 (fldG "Doing" "held") (mVar 0)) (m2 ixW (mVar 1) (mC (.int 1))) (m2 modW (mCall (arW 2 (bT 6)) (mCons (m2 ixW (mVar 1) (mC (.int 2))) (mCons (m1 (fldG "Doing" "held") (mVar 0)) mNil))) (mC (.int 1000000)))) (sIf (mB (m2 eqW (m2 ixW (mVar 1) (mC (.int 0))) (mC (.str "say")))) (sEx (mMeth isL bU (m1 (fldG "Doing" "said") (mVar 0)) (mCons (mCall (arW 2 (bT 6)) (mCons (m2 ixW (mVar 1) (mC (.int 1))) (mCons (m1 (fldG "Doing" "held") (mVar 0)) mNil))) mNil))) (sSeq (bn (m1 (fldG "Doing" "held") (mVar 0)) (m2 ixW (mVar 1) (mC (.int 1))) (m2 modW (m2 ixW (m1 (fldG "Doing" "numbers") (mVar 0)) (m1 (fldG "Doing" "taken") (mVar 0))) (mC (.int 1000000)))) (sAugW "Doing" "taken" (mVar 0) (mC (.int 1))))))
noncomputable def bh : List W → M W := runF 2 bS
noncomputable def dO : Env' → M Fl := (sSeq (sIf (mB (m2 eqW (mVar 1) (mC (.str "<")))) (sRet (m2 ltW (mCall (arW 2 (bT 6)) (mCons (mVar 2) (mCons (m1 (fldG "Doing" "held") (mVar 0)) mNil))) (mCall (arW 2 (bT 6)) (mCons (mVar 3) (mCons (m1 (fldG "Doing" "held") (mVar 0)) mNil))))) sNil) (sRet (m2 eqW (mCall (arW 2 (bT 6)) (mCons (mVar 2) (mCons (m1 (fldG "Doing" "held") (mVar 0)) mNil))) (mCall (arW 2 (bT 6)) (mCons (mVar 3) (mCons (m1 (fldG "Doing" "held") (mVar 0)) mNil))))))
noncomputable def bZ : List W → M W := runF 4 dO
noncomputable def dt : Env' → M Fl := (sRet (m2 modW (mCall (arW 2 (bT 6)) (mCons (mVar 1) (mCons (m1 (fldG "Doing" "held") (mVar 0)) mNil))) (mVar 2)))
noncomputable def cL : List W → M W := runF 3 dt
noncomputable def bY : Env' → M Fl := (sSeq (sIf (mB (m2 eqW (m2 ixW (mVar 1) (mC (.int 0))) (mC (.str "jump")))) (sRet (m2 ixW (mVar 1) (mC (.int 1)))) sNil) (sSeq (sIf (mB (m2 eqW (m2 ixW (mVar 1) (mC (.int 0))) (mC (.str "when")))) (sRet (mIf (mB (mMet "Doing" "holds" 4 bZ (mVar 0) (mCons (m2 ixW (mVar 1) (mC (.int 1))) (mCons (m2 ixW (mVar 1) (mC (.int 2))) (mCons (m2 ixW (mVar 1) (mC (.int 3))) mNil))))) (m2 ixW (mVar 1) (mC (.int 4))) (mC .non))) sNil) (sSeq (sIf (mB (m2 eqW (m2 ixW (mVar 1) (mC (.int 0))) (mC (.str "unless")))) (sRet (mIf (mB (mMet "Doing" "holds" 4 bZ (mVar 0) (mCons (m2 ixW (mVar 1) (mC (.int 1))) (mCons (m2 ixW (mVar 1) (mC (.int 2))) (mCons (m2 ixW (mVar 1) (mC (.int 3))) mNil))))) (mC .non) (m2 ixW (mVar 1) (mC (.int 4))))) sNil) (sSeq (sIf (mB (m2 eqW (m2 ixW (mVar 1) (mC (.int 0))) (mC (.str "table")))) (sRet (m2 ixW (m2 ixW (mVar 1) (mC (.int 2))) (mMet "Doing" "chosen" 3 cL (mVar 0) (mCons (m2 ixW (mVar 1) (mC (.int 1))) (mCons (mCall lenW (mCons (m2 ixW (mVar 1) (mC (.int 2))) mNil)) mNil))))) sNil) (sRet (mC .non))))))
noncomputable def cw : List W → M W := runF 2 bY
noncomputable def eX : Env' → M Fl := (sSeq (sSet 4 (mMake "Doing" 3 bq (mCons (mVar 0) (mCons (mVar 2) mNil)))) (sSeq (sSet 5 (mC (.int 0))) (sSeq (sSet 6 (mC (.int 0))) (sSeq (sSet 7 (mC (.int 0))) (sSeq (bV (mB (m2 ltW (mVar 7) (mVar 3))) (sSeq (sSet 8 (m2 ixW (mVar 1) (mVar 6))) (sSeq (sIf (mB (m2 eqW (m2 ixW (mVar 8) (mC (.int 0))) (mC (.str "stop")))) (sRet (mTup (mCons (m1 (fldG "Doing" "said") (mVar 4)) (mCons (mTup (mCons (mC (.str "stop")) mNil)) (mCons (mVar 5) mNil))))) sNil) (sSeq (sIf (mB (mMet "Doing" "lacks_number" 2 aS (mVar 4) (mCons (mVar 8) mNil))) (sRet (mTup (mCons (m1 (fldG "Doing" "said") (mVar 4)) (mCons (mTup (mCons (mC (.str "out")) mNil)) (mCons (mVar 5) mNil))))) sNil) (sSeq (sIf (mB (m2 inW (m2 ixW (mVar 8) (mC (.int 0))) (mC (.tup ((["put", "say", "ask"] : List Str).map W.str))))) (sEx (mMet "Doing" "do_statement" 2 bh (mVar 4) (mCons (mVar 8) mNil))) sNil) (sSeq (sSet 9 (mCall (arW 2 cw) (mCons (mVar 4) (mCons (mVar 8) mNil)))) (sSeq (sIf (mB (m2 isNW (mVar 9) (mC .non))) (sAug 6 (mC (.int 1))) (sSeq (sSet 6 (mVar 9)) (sAug 5 (mC (.int 1))))) (sAug 7 (mC (.int 1))))))))) 202) (sRet (mTup (mCons (m1 (fldG "Doing" "said") (mVar 4)) (mCons (mTup (mCons (mC (.str "on")) mNil)) (mCons (mVar 5) mNil))))))))))
noncomputable def dH : List W → M W := runF 10 eX
noncomputable def dN : Env' → M Fl := (sSeq (sIf (mB (m2 ltW (mVar 1) (mCall lenW (mCons (mVar 0) mNil)))) (sRet (m2 ixW (mVar 0) (mVar 1))) sNil) (sRet (mC (.int 0))))
noncomputable def aQ : List W → M W := runF 2 dN
noncomputable def fe : Env' → M Fl := (sRet (mNew (lenG (mCons (mCall absW (mCons (mVar 0) mNil)) (mCons (m2 modW (m2 mulW (m2 addW (m2 modW (mVar 0) (mC (.int 2147483647))) (mC (.int 1))) (mC (.int 742938285))) (mC (.int 2147483647))) mNil)))))
noncomputable def aO : List W → M W := runF 1 fe
noncomputable def eZ : Env' → M Fl := (sSeq (sIf (mB (m2 geW (m2 ixW (mVar 0) (mC (.int 0))) (m2 powW (mC (.int 10)) (mC (.int 18))))) (sSeq (sSet 2 (m2 modW (m2 ixW (mVar 0) (mC (.int 0))) (mVar 1))) (sSeq (bn (mVar 0) (mC (.int 0)) (m2 fdivW (m2 ixW (mVar 0) (mC (.int 0))) (mVar 1))) (sRet (mVar 2)))) sNil) (sSeq (bn (mVar 0) (mC (.int 1)) (m2 modW (m2 addW (m2 mulW (m2 ixW (mVar 0) (mC (.int 1))) (mC (.int 48271))) (mC (.int 11))) (mC (.int 2147483647)))) (sSeq (sSet 3 (m2 modW (m2 mulW (m2 ixW (mVar 0) (mC (.int 1))) (m2 ixW (mVar 0) (mC (.int 1)))) (mC (.int 2147483629)))) (sRet (m2 modW (m2 fdivW (m2 modW (m2 mulW (mVar 3) (mC (.int 69621))) (mC (.int 2147483587))) (mC (.int 8))) (mVar 1))))))
noncomputable def am : List W → M W := runF 4 eZ
noncomputable def eB : Env' → M Fl := (sSeq (sSet 2 (mC (.str "abcdefghijklmnopqrstuvwxyz"))) (sSeq (sSet 3 (mTl (lenG (mCons (mC (.str "box")) (mCons (mC (.str "block")) (mCons (mC (.str "put")) (mCons (mC (.str "say")) (mCons (mC (.str "ask")) (mCons (mC (.str "go")) (mCons (mC (.str "if")) (mCons (mC (.str "else")) (mCons (mC (.str "table")) (mCons (mC (.str "stop")) mNil))))))))))))) (sSeq (sSet 4 (mNew (lenG mNil))) (sSeq (sFor (mSrcA (mCons (mVar 1) mNil) rng1) (tgN 5) (sSeq (sSet 6 (m2 ixW (mTl (catL (mTl (lenG (mCons (mC (.str "")) (mCons (mC (.str "")) (mCons (mC (.str "zz")) (mCons (mC (.str "qrst")) mNil)))))) (mVar 3))) (mCall (arW 2 am) (mCons (mVar 0) (mCons (mC (.int 14)) mNil))))) (sSeq (sFor (mSrcA (mCons (m2 addW (mC (.int 1)) (mCall (arW 2 am) (mCons (mVar 0) (mCons (m2 subW (mC (.int 8)) (mCall maxW (mCons (mC (.int 4)) (mCons (mCall lenW (mCons (mVar 6) mNil)) mNil)))) mNil)))) mNil) rng1) (tgN 7) (sSet 6 (m2 addW (mVar 6) (m2 ixW (mVar 2) (mCall (arW 2 am) (mCons (mVar 0) (mCons (mC (.int 26)) mNil))))))) (sSeq (bV (mOr (mB (m2 inW (mVar 6) (mVar 4))) (mB (m2 inW (mVar 6) (mVar 3)))) (sSet 6 (m2 addW (m3 slW (mVar 6) aW (mPart (m1 negW (mC (.int 1))))) (m2 ixW (mVar 2) (m2 modW (m2 addW (mMeth isS findW (mVar 2) (mCons (m2 ixW (mVar 6) (m1 negW (mC (.int 1)))) mNil)) (mC (.int 1))) (mC (.int 26)))))) 30) (sEx (mMeth isL bU (mVar 4) (mCons (mVar 6) mNil))))))) (sRet (m1 iceW (mVar 4)))))))
noncomputable def dl : List W → M W := runF 8 eB
noncomputable def fg : Env' → M Fl := (sSeq (sIf (mAnd (mB (m2 neW (mVar 1) (mTl (lenG mNil)))) (mB (m2 gtW (mCall (arW 2 am) (mCons (mVar 0) (mCons (mC (.int 3)) mNil))) (mC (.int 0))))) (sRet (mTup (mCons (mC (.str "box")) (mCons (m2 ixW (m2 ixW (mVar 1) (mCall (arW 2 am) (mCons (mVar 0) (mCons (mCall lenW (mCons (mVar 1) mNil)) mNil)))) (mC (.int 0))) mNil)))) sNil) (sSeq (sSet 2 (m2 ixW (mTl (lenG (mCons (mC (.int 3)) (mCons (mC (.int 10)) (mCons (mC (.int 1000)) mNil))))) (mCall (arW 2 am) (mCons (mVar 0) (mCons (mC (.int 3)) mNil))))) (sRet (mTup (mCons (mC (.str "number")) (mCons (mCall (arW 2 am) (mCons (mVar 0) (mCons (mVar 2) mNil))) mNil))))))
noncomputable def d9 : List W → M W := runF 3 fg
noncomputable def eY (fr : List W → M W) : Env' → M Fl := (sSeq (sIf (mB (m2 ltW (mVar 2) (mC (.int 2)))) (sRet (mCall (arW 2 d9) (mCons (mVar 0) (mCons (mVar 1) mNil)))) sNil) (sSeq (sSet 3 (m2 addW (mC (.int 1)) (mCall (arW 2 am) (mCons (mVar 0) (mCons (m2 subW (mVar 2) (mC (.int 1))) mNil))))) (sSeq (sSet 4 (m2 ixW (mC (.str "+-*")) (mCall (arW 2 am) (mCons (mVar 0) (mCons (mC (.int 3)) mNil))))) (sSeq (sSet 5 (mCall (arW 3 fr) (mCons (mVar 0) (mCons (mVar 1) (mCons (mVar 3) mNil))))) (sSeq (sSet 6 (mCall (arW 3 fr) (mCons (mVar 0) (mCons (mVar 1) (mCons (m2 subW (mVar 2) (mVar 3)) mNil))))) (sRet (mTup (mCons (mVar 4) (mCons (mVar 5) (mCons (mVar 6) mNil))))))))))
noncomputable def be : Nat → List W → M W
  | 0 => fun _ => no
  | n + 1 => runF 7 (eY (be n))
noncomputable def ci (fr : List W → M W) : Env' → M Fl := (sSeq (sIf (mB (m2 eqW (m2 ixW (mVar 0) (mC (.int 0))) (mC (.str "number")))) (sRet (m2 ixW (mVar 0) (mC (.int 1)))) sNil) (sSeq (sIf (mB (m2 eqW (m2 ixW (mVar 0) (mC (.int 0))) (mC (.str "box")))) (sRet (m2 ixW (mVar 1) (m2 ixW (mVar 0) (mC (.int 1))))) sNil) (sSeq (sSet 2 (mCall (arW 2 fr) (mCons (m2 ixW (mVar 0) (mC (.int 1))) (mCons (mVar 1) mNil)))) (sSeq (sSet 3 (mCall (arW 2 fr) (mCons (m2 ixW (mVar 0) (mC (.int 2))) (mCons (mVar 1) mNil)))) (sSeq (sIf (mB (m2 eqW (m2 ixW (mVar 0) (mC (.int 0))) (mC (.str "+")))) (sRet (m2 addW (mVar 2) (mVar 3))) sNil) (sSeq (sIf (mB (m2 eqW (m2 ixW (mVar 0) (mC (.int 0))) (mC (.str "-")))) (sRet (m2 subW (mVar 2) (mVar 3))) sNil) (sRet (m2 mulW (mVar 2) (mVar 3)))))))))
noncomputable def aR : Nat → List W → M W
  | 0 => fun _ => no
  | n + 1 => runF 4 (ci (aR n))
noncomputable def cY : Env' → M Fl := (sSeq (sSet 2 (mCall (arW 2 am) (mCons (mVar 0) (mCons (mC (.int 8)) mNil)))) (sSeq (sIf (mOr (mB (m2 eqW (mVar 1) (mTl (lenG mNil)))) (mB (m2 ltW (mVar 2) (mC (.int 3))))) (sRet (mTup (mCons (mC (.str "say")) (mCons (mCall (arW 3 (be 6)) (mCons (mVar 0) (mCons (mVar 1) (mCons (m2 addW (mC (.int 1)) (mCall (arW 2 am) (mCons (mVar 0) (mCons (mC (.int 5)) mNil)))) mNil)))) mNil)))) sNil) (sSeq (sSet 3 (m2 ixW (m2 ixW (mVar 1) (mCall (arW 2 am) (mCons (mVar 0) (mCons (mCall lenW (mCons (mVar 1) mNil)) mNil)))) (mC (.int 0)))) (sSeq (sIf (mB (m2 ltW (mVar 2) (mC (.int 5)))) (sRet (mTup (mCons (mC (.str "ask")) (mCons (mVar 3) mNil)))) sNil) (sSeq (sSet 4 (mTup (mCons (mC (.str "box")) (mCons (m2 ixW (m2 ixW (mVar 1) (mCall (arW 2 am) (mCons (mVar 0) (mCons (mCall lenW (mCons (mVar 1) mNil)) mNil)))) (mC (.int 0))) mNil)))) (sSeq (sIf (mB (m2 eqW (mVar 2) (mC (.int 5)))) (sRet (mTup (mCons (mC (.str "put")) (mCons (mVar 3) (mCons (mTup (mCons (m2 ixW (mC (.str "+-")) (mCall (arW 2 am) (mCons (mVar 0) (mCons (mC (.int 2)) mNil)))) (mCons (mVar 4) (mCons (mTup (mCons (mC (.str "number")) (mCons (mCall (arW 2 am) (mCons (mVar 0) (mCons (mC (.int 3)) mNil))) mNil))) mNil)))) mNil))))) sNil) (sRet (mTup (mCons (mC (.str "put")) (mCons (mVar 3) (mCons (mCall (arW 3 (be 6)) (mCons (mVar 0) (mCons (mVar 1) (mCons (m2 addW (mC (.int 1)) (mCall (arW 2 am) (mCons (mVar 0) (mCons (mC (.int 5)) mNil)))) mNil)))) mNil)))))))))))
noncomputable def aZ : List W → M W := runF 5 cY
noncomputable def gE : Env' → M Fl := (sSeq (sSet 4 (m2 ixW (mC (.str "<=")) (mCall (arW 2 am) (mCons (mVar 0) (mCons (mC (.int 2)) mNil))))) (sSeq (sSet 5 (mCall (arW 3 (be 6)) (mCons (mVar 0) (mCons (mVar 1) (mCons (m2 addW (mC (.int 1)) (mCall (arW 2 am) (mCons (mVar 0) (mCons (mC (.int 3)) mNil)))) mNil))))) (sSeq (sSet 6 (mCall (arW 2 am) (mCons (mVar 0) (mCons (mC (.int 3)) mNil)))) (sSeq (sSet 7 (mTup (mCons (mC (.str "number")) (mCons (mCall (arW 2 am) (mCons (mVar 0) (mCons (mC (.int 4)) mNil))) mNil)))) (sSeq (sIf (mB (m2 eqW (mVar 6) (mC (.int 0)))) (sSet 7 (mCall (arW 3 (be 6)) (mCons (mVar 0) (mCons (mVar 1) (mCons (m2 addW (mC (.int 1)) (mCall (arW 2 am) (mCons (mVar 0) (mCons (mC (.int 3)) mNil)))) mNil))))) sNil) (sSeq (sIf (mB (m2 eqW (mVar 6) (mC (.int 1)))) (sSet 7 (mTup (mCons (mC (.str "+")) (mCons (mVar 5) (mCons (mTup (mCons (mC (.str "number")) (mCons (mCall (arW 2 am) (mCons (mVar 0) (mCons (mC (.int 2)) mNil))) mNil))) mNil))))) sNil) (sRet (mTup (mCons (mC (.str "if")) (mCons (mVar 4) (mCons (mVar 5) (mCons (mVar 7) (mCons (mVar 2) (mCons (mVar 3) mNil))))))))))))))
noncomputable def fJ : List W → M W := runF 8 gE
noncomputable def fR : Env' → M Fl := (sSeq (sSet 3 (mCall (arW 2 am) (mCons (mVar 0) (mCons (mC (.int 12)) mNil)))) (sSeq (sSet 4 (mCall (arW 2 am) (mCons (mVar 0) (mCons (mVar 2) mNil)))) (sSeq (sIf (mB (m2 ltW (mVar 3) (mC (.int 3)))) (sRet (mTup (mCons (mC (.str "go")) (mCons (mVar 4) mNil)))) sNil) (sSeq (sIf (mB (m2 ltW (mVar 3) (mC (.int 8)))) (sRet (mCall (arW 4 fJ) (mCons (mVar 0) (mCons (mVar 1) (mCons (mVar 4) (mCons (mCall (arW 2 am) (mCons (mVar 0) (mCons (mVar 2) mNil))) mNil)))))) sNil) (sSeq (sIf (mB (m2 eqW (mVar 3) (mC (.int 11)))) (sRet (mTup (mCons (mC (.str "stop")) mNil))) sNil) (sSeq (sSet 5 (mCall (arW 3 (be 6)) (mCons (mVar 0) (mCons (mVar 1) (mCons (m2 addW (mC (.int 1)) (mCall (arW 2 am) (mCons (mVar 0) (mCons (mC (.int 4)) mNil)))) mNil))))) (sRet (mTup (mCons (mC (.str "table")) (mCons (mVar 5) (mCons (mCall eP (mCons (mTl (mComp [] (mSrcA (mCons (m2 addW (mC (.int 1)) (mCall (arW 2 am) (mCons (mVar 0) (mCons (mC (.int 6)) mNil)))) mNil) rng1) (tgN 0) mYes (mCall (arW 2 am) (mCons (mVar 2) (mCons (mVar 4) mNil))) 2)) mNil)) mNil)))))))))))
noncomputable def d6 : List W → M W := runF 6 fR
noncomputable def dX : Env' → M Fl := (sSeq (sSet 1 (mCall (arW 2 am) (mCons (mVar 0) (mCons (mC (.int 8)) mNil)))) (sSeq (sIf (mB (m2 eqW (mVar 1) (mC (.int 0)))) (sRet (mCall (arW 2 am) (mCons (mVar 0) (mCons (m2 powW (mC (.int 10)) (mC (.int 30))) mNil)))) sNil) (sSeq (sIf (mB (m2 eqW (mVar 1) (mC (.int 1)))) (sRet (m1 negW (mCall (arW 2 am) (mCons (mVar 0) (mCons (m2 powW (mC (.int 10)) (mC (.int 30))) mNil))))) sNil) (sSeq (sIf (mB (m2 eqW (mVar 1) (mC (.int 2)))) (sRet (m2 addW (mC (.int 999998)) (mCall (arW 2 am) (mCons (mVar 0) (mCons (mC (.int 5)) mNil))))) sNil) (sRet (m2 subW (mCall (arW 2 am) (mCons (mVar 0) (mCons (mC (.int 12)) mNil))) (mC (.int 3))))))))
noncomputable def cS : List W → M W := runF 2 dX
noncomputable def dM : Env' → M Fl := (sSeq (sSet 1 (mCall (arW 2 dl) (mCons (mCall (arW 1 aO) (mCons (mCall (arW 2 aQ) (mCons (mVar 0) (mCons (mC (.int 0)) mNil))) mNil)) (mCons (mC (.int 14)) mNil)))) (sSeq (sSet 2 (mCall (arW 1 aO) (mCons (mCall (arW 2 aQ) (mCons (mVar 0) (mCons (mC (.int 1)) mNil))) mNil))) (sSeq (sSet 3 (mNew (lenG mNil))) (sSeq (sFor (mSrcA (mCons (mCall (arW 2 am) (mCons (mVar 2) (mCons (mC (.int 5)) mNil))) mNil) rng1) (tgN 4) (sEx (mMeth isL bU (mVar 3) (mCons (mTup (mCons (m2 ixW (mVar 1) (mVar 4)) (mCons (mCall (arW 2 am) (mCons (mVar 2) (mCons (m2 ixW (mTl (lenG (mCons (mC (.int 4)) (mCons (mC (.int 1000)) mNil)))) (mCall (arW 2 am) (mCons (mVar 2) (mCons (mC (.int 2)) mNil)))) mNil))) mNil))) mNil)))) (sSeq (sSet 5 (mCall (arW 2 am) (mCons (mVar 2) (mCons (mC (.int 14)) mNil)))) (sSeq (sSet 6 (m2 addW (mC (.int 1)) (mCall (arW 2 am) (mCons (mVar 2) (mCons (mC (.int 10)) mNil))))) (sSeq (sSet 7 (mNew (lenG mNil))) (sSeq (sFor (mSrcA (mCons (mVar 6) mNil) rng1) (tgN 4) (sSeq (sSet 8 (mCall (arW 1 aO) (mCons (mCall (arW 2 am) (mCons (mVar 2) (mCons (m2 powW (mC (.int 10)) (mC (.int 40))) mNil))) mNil))) (sSeq (sSet 9 (mCall (arW 3 d6) (mCons (mVar 8) (mCons (mVar 3) (mCons (mVar 6) mNil))))) (sSeq (sSet 10 (mNew (mComp [] (mSrcA (mCons (mCall (arW 2 am) (mCons (mVar 8) (mCons (mC (.int 3)) mNil))) mNil) rng1) (tgN 0) mYes (mCall (arW 2 aZ) (mCons (mVar 10) (mCons (mVar 5) mNil))) 2))) (sEx (mMeth isL bU (mVar 7) (mCons (mTup (mCons (m2 ixW (mVar 1) (m2 modW (m2 addW (mVar 5) (mVar 4)) (mC (.int 14)))) (mCons (mVar 10) (mCons (mVar 9) mNil)))) mNil))))))) (sRet (mTup (mCons (m1 iceW (mVar 3)) (mCons (m1 iceW (mVar 7)) mNil))))))))))))
noncomputable def cX : List W → M W := runF 11 dM
noncomputable def dY : Env' → M Fl := (sSeq (sUnp (tgT [2,3]) (mVar 1)) (sSeq (sSet 4 (mCall (arW 1 aO) (mCons (mCall (arW 2 aQ) (mCons (mVar 0) (mCons (mC (.int 2)) mNil))) mNil))) (sSeq (sSet 5 (m3 slW (mVar 0) (mPart (mC (.int 3))) (mPart (mC (.int 63))))) (sSeq (sSet 6 (mCall (arW 2 am) (mCons (mVar 4) (mCons (m2 addW (mCall lenW (mCons (mVar 5) mNil)) (mC (.int 1))) mNil)))) (sSeq (sFor (mSrc (m3 slW (mVar 5) aW (mPart (mVar 6))) srcL) (tgN 7) (sSeq (sSet 8 (mCall (arW 1 aO) (mCons (mVar 7) mNil))) (sSeq (sSet 9 (m2 ixW (m2 ixW (mVar 3) (mCall (arW 2 am) (mCons (mVar 8) (mCons (mCall lenW (mCons (mVar 3) mNil)) mNil)))) (mC (.int 1)))) (sIf (mB (m2 ltW (mCall lenW (mCons (mVar 9) mNil)) (mC (.int 8)))) (sEx (mMeth isL gB (mVar 9) (mCons (mCall (arW 2 am) (mCons (mVar 8) (mCons (m2 addW (mCall lenW (mCons (mVar 9) mNil)) (mC (.int 1))) mNil))) (mCons (mCall (arW 2 aZ) (mCons (mVar 8) (mCons (mVar 2) mNil))) mNil)))) sNil)))) (sSeq (sSet 5 (m2 addW (m3 slW (mVar 5) (mPart (mVar 6)) aW) (mTl (mComp [] (mSrcA (mCons (mCall (arW 2 am) (mCons (mVar 4) (mCons (mC (.int 6)) mNil))) mNil) rng1) (tgN 0) mYes (mCall (arW 2 am) (mCons (mVar 6) (mCons (m2 powW (mC (.int 10)) (mC (.int 40))) mNil))) 2)))) (sRet (mTl (mComp [] (mSrc (mVar 5) srcL) (tgN 0) mYes (mCall (arW 1 cS) (mCons (mCall (arW 1 aO) (mCons (mVar 0) mNil)) mNil)) 2)))))))))
noncomputable def du : List W → M W := runF 10 dY
noncomputable def bA (fr : List W → M W) : Env' → M Fl := (sSeq (sIf (mB (m2 isNW (mVar 1) (mC .non))) (sRet (m2 isNW (mVar 0) (mC .non))) sNil) (sSeq (sIf (mB (mCall isiW (mCons (mVar 1) (mCons (mC (.ty "bool")) mNil)))) (sRet (mAndV (mCall isiW (mCons (mVar 0) (mCons (mC (.ty "bool")) mNil))) (m2 eqW (mVar 0) (mVar 1)))) sNil) (sSeq (sIf (mB (mCall isiW (mCons (mVar 1) (mCons (mC (.ty "int")) mNil)))) (sRet (mAndV (mCall isiW (mCons (mVar 0) (mCons (mC (.ty "int")) mNil))) (mAndV (mNotV (mCall isiW (mCons (mVar 0) (mCons (mC (.ty "bool")) mNil)))) (m2 eqW (mVar 0) (mVar 1))))) sNil) (sSeq (sIf (mB (mCall isiW (mCons (mVar 1) (mCons (mC (.ty "str")) mNil)))) (sRet (mAndV (mCall isiW (mCons (mVar 0) (mCons (mC (.ty "str")) mNil))) (m2 eqW (mVar 0) (mVar 1)))) sNil) (sSeq (sIf (mB (mCall isiW (mCons (mVar 1) (mCons (mC (.ty "tuple")) mNil)))) (sIf (mNot (mB (mCall isiW (mCons (mVar 0) (mCons (mC (.ty "tuple")) mNil))))) (sRet (mC (.bl false))) sNil) (sIf (mNot (mB (mCall isiW (mCons (mVar 0) (mCons (mC (.ty "list")) mNil))))) (sRet (mC (.bl false))) sNil)) (sSeq (sIf (mB (m2 neW (mCall lenW (mCons (mVar 0) mNil)) (mCall lenW (mCons (mVar 1) mNil)))) (sRet (mC (.bl false))) sNil) (sSeq (sFor (mSrcA (mCons (mCall lenW (mCons (mVar 1) mNil)) mNil) rng1) (tgN 2) (sIf (mNot (mB (mCall (arW 2 fr) (mCons (m2 ixW (mVar 0) (mVar 2)) (mCons (m2 ixW (mVar 1) (mVar 2)) mNil))))) (sRet (mC (.bl false))) sNil)) (sRet (mC (.bl true))))))))))
noncomputable def aF : Nat → List W → M W
  | 0 => fun _ => no
  | n + 1 => runF 3 (bA (aF n))
noncomputable def eA : Env' → M Fl := (sSeq (sSet 2 (mNew (mComp [] (mSrcA (mCons (mC (.int 1)) (mCons (mVar 1) mNil)) rng2) (tgN 0) mYes (mVar 0) 2))) (sSeq (sSet 3 (mNew (lenG (mCons (mC (.int 0)) mNil)))) (sSeq (bV (mB (m2 neW (mVar 2) (mTl (lenG mNil)))) (sEx (mMeth isL bU (mVar 3) (mCons (mMeth isL fV (mVar 2) (mCons (mCall (arW 2 am) (mCons (mVar 0) (mCons (mCall lenW (mCons (mVar 2) mNil)) mNil))) mNil)) mNil))) 12) (sRet (mCall eP (mCons (mVar 3) mNil))))))
noncomputable def dj : List W → M W := runF 4 eA
noncomputable def ff : Env' → M Fl := (sSeq (sFor (mSrcA (mCons (m2 subW (mCall lenW (mCons (mVar 0) mNil)) (mC (.int 1))) mNil) rng1) (tgN 2) (sIf (mB (m2 eqW (m2 ixW (mVar 0) (mVar 2)) (mVar 1))) (sRet (m2 ixW (mVar 0) (m2 addW (mVar 2) (mC (.int 1))))) sNil)) (sRet (m1 negW (mC (.int 1)))))
noncomputable def cK : List W → M W := runF 3 ff
noncomputable def e8 : Env' → M Fl := (sSeq (sIf (mOr (mB (m2 eqW (m2 ixW (mVar 0) (mC (.int 0))) (mC (.str "go")))) (mAnd (mB (m2 eqW (m2 ixW (mVar 0) (mC (.int 0))) (mC (.str "if")))) (mB (m2 eqW (m2 ixW (mVar 0) (mC (.int 4))) (m2 ixW (mVar 0) (mC (.int 5))))))) (sSeq (sSet 2 (m2 ixW (mVar 0) (m2 subW (mCall lenW (mCons (mVar 0) mNil)) (mC (.int 1))))) (sRet (m2 mulW (mTl (lenG (mCons (mTup (mCons (mC (.str "jump")) (mCons (mVar 2) mNil))) mNil))) (mCall intW (mCons (m2 neW (mVar 2) (mVar 1)) mNil))))) sNil) (sSeq (sIf (mB (m2 eqW (m2 ixW (mVar 0) (mC (.int 0))) (mC (.str "if")))) (sSeq (sIf (mB (m2 eqW (m2 ixW (mVar 0) (mC (.int 4))) (mVar 1))) (sRet (mTl (lenG (mCons (m2 addW (m2 addW (mTup (mCons (mC (.str "unless")) mNil)) (m3 slW (mVar 0) (mPart (mC (.int 1))) (mPart (mC (.int 4))))) (mTup (mCons (m2 ixW (mVar 0) (mC (.int 5))) mNil))) mNil)))) sNil) (sRet (mTl (catL (mTl (lenG (mCons (m2 addW (mTup (mCons (mC (.str "when")) mNil)) (m3 slW (mVar 0) (mPart (mC (.int 1))) (mPart (mC (.int 5))))) mNil))) (m2 mulW (mTl (lenG (mCons (mTup (mCons (mC (.str "jump")) (mCons (m2 ixW (mVar 0) (mC (.int 5))) mNil))) mNil))) (mCall intW (mCons (m2 neW (m2 ixW (mVar 0) (mC (.int 5))) (mVar 1)) mNil))))))) sNil) (sRet (mTl (lenG (mCons (mVar 0) mNil))))))
noncomputable def cJ : List W → M W := runF 3 e8
noncomputable def cZ : Env' → M Fl := (sSeq (sSet 3 (mC (.int 0))) (sSeq (sFor (mSrc (mVar 1) srcT) (tgN 4) (sSeq (sIf (mB (m2 eqW (mVar 4) (mVar 2))) (sRet (mVar 3)) sNil) (sSet 3 (m2 addW (m2 addW (mVar 3) (mCall lenW (mCons (m2 ixW (m2 ixW (mVar 0) (mVar 4)) (mC (.int 1))) mNil))) (mCall lenW (mCons (mCall (arW 2 cJ) (mCons (m2 ixW (m2 ixW (mVar 0) (mVar 4)) (mC (.int 2))) (mCons (mCall (arW 2 cK) (mCons (mVar 1) (mCons (mVar 4) mNil))) mNil))) mNil)))))) (sRet (mVar 3))))
noncomputable def ba : List W → M W := runF 5 cZ
noncomputable def fj : Env' → M Fl := (sSeq (sSet 2 (mNew (lenG mNil))) (sSeq (sFor (mSrc (mVar 1) srcT) (tgN 3) (sFor (mSrc (m2 addW (m2 ixW (m2 ixW (mVar 0) (mVar 3)) (mC (.int 1))) (mCall (arW 2 cJ) (mCons (m2 ixW (m2 ixW (mVar 0) (mVar 3)) (mC (.int 2))) (mCons (mCall (arW 2 cK) (mCons (mVar 1) (mCons (mVar 3) mNil))) mNil)))) srcL) (tgN 4) (sSeq (sIf (mB (m2 inW (m2 ixW (mVar 4) (mC (.int 0))) (mTup (mCons (mC (.str "jump")) (mCons (mC (.str "when")) (mCons (mC (.str "unless")) mNil)))))) (sSet 4 (m2 addW (m3 slW (mVar 4) aW (mPart (m2 subW (mCall lenW (mCons (mVar 4) mNil)) (mC (.int 1))))) (mTup (mCons (mCall (arW 3 ba) (mCons (mVar 0) (mCons (mVar 1) (mCons (m2 ixW (mVar 4) (m2 subW (mCall lenW (mCons (mVar 4) mNil)) (mC (.int 1)))) mNil)))) mNil)))) sNil) (sSeq (sIf (mB (m2 eqW (m2 ixW (mVar 4) (mC (.int 0))) (mC (.str "table")))) (sSet 4 (mTup (mCons (mC (.str "table")) (mCons (m2 ixW (mVar 4) (mC (.int 1))) (mCons (mCall eP (mCons (mTl (mComp [] (mSrc (m2 ixW (mVar 4) (mC (.int 2))) srcT) (tgN 0) mYes (mCall (arW 3 ba) (mCons (mVar 2) (mCons (mVar 3) (mCons (mVar 0) mNil)))) 2)) mNil)) mNil))))) sNil) (sEx (mMeth isL bU (mVar 2) (mCons (mVar 4) mNil))))))) (sRet (m1 iceW (mVar 2)))))
noncomputable def eg : List W → M W := runF 5 fj
noncomputable def dG : Env' → M Fl := (sSeq (sIf (mB (m2 eqW (m2 ixW (mVar 0) (mC (.int 0))) (mC (.str "jump")))) (sRet (m2 ixW (mVar 0) (mC (.int 1)))) sNil) (sSeq (sIf (mB (m2 eqW (m2 ixW (mVar 0) (mC (.int 0))) (mC (.str "table")))) (sRet (m2 ixW (m2 ixW (mVar 0) (mC (.int 2))) (m2 modW (mCall (arW 2 (aR 6)) (mCons (m2 ixW (mVar 0) (mC (.int 1))) (mCons (mVar 1) mNil))) (mCall lenW (mCons (m2 ixW (mVar 0) (mC (.int 2))) mNil))))) sNil) (sSeq (sSet 2 (mCall (arW 2 (aR 6)) (mCons (m2 ixW (mVar 0) (mC (.int 2))) (mCons (mVar 1) mNil)))) (sSeq (sSet 3 (mCall (arW 2 (aR 6)) (mCons (m2 ixW (mVar 0) (mC (.int 3))) (mCons (mVar 1) mNil)))) (sSeq (sSet 4 (mOrV (mAndV (m2 eqW (m2 ixW (mVar 0) (mC (.int 1))) (mC (.str "<"))) (m2 ltW (mVar 2) (mVar 3))) (mAndV (m2 eqW (m2 ixW (mVar 0) (mC (.int 1))) (mC (.str "="))) (m2 eqW (mVar 2) (mVar 3))))) (sSeq (sIf (mB (m2 eqW (mVar 4) (m2 eqW (m2 ixW (mVar 0) (mC (.int 0))) (mC (.str "when"))))) (sRet (m2 ixW (mVar 0) (mC (.int 4)))) sNil) (sRet (m1 negW (mC (.int 1))))))))))
noncomputable def dm : List W → M W := runF 5 dG
noncomputable def fQ : Env' → M Fl := (sSeq (sSet 4 mDNew) (sSeq (sFor (mSrc (mVar 0) srcL) (tgT [5,6]) (bn (mVar 4) (mVar 5) (mVar 6))) (sSeq (sSet 7 (mNew (lenG mNil))) (sSeq (sSet 8 (mNew (listL (mCons (mVar 2) mNil)))) (sSeq (sSet 9 (mC (.int 0))) (sSeq (sSet 10 (mC (.int 0))) (sSeq (sFor (mSrcA (mCons (mVar 3) mNil) rng1) (tgN 11) (sSeq (sSet 12 (m2 ixW (mVar 1) (mVar 9))) (sSeq (sSet 9 (m2 addW (mVar 9) (mC (.int 1)))) (sSeq (sIf (mB (m2 eqW (m2 ixW (mVar 12) (mC (.int 0))) (mC (.str "stop")))) (sRet (mTup (mCons (m1 iceW (mVar 7)) (mCons (mTup (mCons (mC (.str "stop")) mNil)) (mCons (mVar 10) mNil))))) sNil) (sSeq (sIf (mAnd (mB (m2 eqW (m2 ixW (mVar 12) (mC (.int 0))) (mC (.str "ask")))) (mB (m2 eqW (mVar 8) (mTl (lenG mNil))))) (sRet (mTup (mCons (m1 iceW (mVar 7)) (mCons (mTup (mCons (mC (.str "out")) mNil)) (mCons (mVar 10) mNil))))) sNil) (sIf (mB (m2 eqW (m2 ixW (mVar 12) (mC (.int 0))) (mC (.str "say")))) (sEx (mMeth isL bU (mVar 7) (mCons (mCall (arW 2 (aR 6)) (mCons (m2 ixW (mVar 12) (mC (.int 1))) (mCons (mVar 4) mNil))) mNil))) (sIf (mB (m2 eqW (m2 ixW (mVar 12) (mC (.int 0))) (mC (.str "put")))) (bn (mVar 4) (m2 ixW (mVar 12) (mC (.int 1))) (m2 modW (mCall (arW 2 (aR 6)) (mCons (m2 ixW (mVar 12) (mC (.int 2))) (mCons (mVar 4) mNil))) (mC (.int 1000000)))) (sIf (mB (m2 eqW (m2 ixW (mVar 12) (mC (.int 0))) (mC (.str "ask")))) (bn (mVar 4) (m2 ixW (mVar 12) (mC (.int 1))) (m2 modW (mMeth isL fV (mVar 8) (mCons (mC (.int 0)) mNil)) (mC (.int 1000000)))) (sIf (mB (m2 geW (mCall (arW 2 dm) (mCons (mVar 12) (mCons (mVar 4) mNil))) (mC (.int 0)))) (sSeq (sSet 9 (mCall (arW 2 dm) (mCons (mVar 12) (mCons (mVar 4) mNil)))) (sSet 10 (m2 addW (mVar 10) (mC (.int 1))))) sNil))))))))) (sRet (mTup (mCons (m1 iceW (mVar 7)) (mCons (mTup (mCons (mC (.str "on")) mNil)) (mCons (mVar 10) mNil))))))))))))
noncomputable def eM : List W → M W := runF 13 fQ
noncomputable def m4 : Env' → M Fl := (sSeq (sUnp (tgT [1,2]) (mCall (arW 1 cX) (mCons (mVar 0) mNil))) (sSeq (sSet 3 (mCall (arW 2 du) (mCons (mVar 0) (mCons (mTup (mCons (mVar 1) (mCons (mVar 2) mNil))) mNil)))) (sSeq (sSet 4 (mCall (arW 1 aO) (mCons (m2 addW (m2 fdivW (mCall (arW 2 aQ) (mCons (mVar 0) (mCons (mC (.int 2)) mNil))) (mC (.int 3))) (mC (.int 11))) mNil))) (sSeq (sSet 5 (mCall (arW 2 eg) (mCons (mVar 2) (mCons (mCall (arW 2 dj) (mCons (mVar 4) (mCons (mCall lenW (mCons (mVar 2) mNil)) mNil))) mNil)))) (sSeq (sSet 6 (m2 addW (mC (.int 1)) (mCall (arW 2 am) (mCons (mVar 4) (mCons (mC (.int 200)) mNil))))) (sSeq (sSet 7 (mCall (arW 4 eM) (mCons (mVar 1) (mCons (mVar 5) (mCons (mVar 3) (mCons (mVar 6) mNil)))))) (sSeq (sSet 8 (mTup (mCons (mTl (listL (mCons (mVar 1) mNil))) (mCons (mTl (listL (mCons (mVar 5) mNil))) (mCons (mTl (listL (mCons (mVar 3) mNil))) mNil))))) (sSeq (sSet 9 (mCall (arW 4 dH) (mCons (m2 ixW (mVar 8) (mC (.int 0))) (mCons (m2 ixW (mVar 8) (mC (.int 1))) (mCons (m2 ixW (mVar 8) (mC (.int 2))) (mCons (mVar 6) mNil)))))) (sSeq (sIf (mNot (mB (mCall (arW 2 (aF 16)) (mCons (mVar 9) (mCons (mVar 7) mNil))))) (sRet (mC (.bl false))) sNil) (sSeq (sEx (mMeth isL bU (m2 ixW (mVar 9) (mC (.int 0))) (mCons (mC (.int 0)) mNil))) (sSeq (sIf (mNot (mB (mCall (arW 2 (aF 16)) (mCons (mCall (arW 4 dH) (mCons (m2 ixW (mVar 8) (mC (.int 0))) (mCons (m2 ixW (mVar 8) (mC (.int 1))) (mCons (m2 ixW (mVar 8) (mC (.int 2))) (mCons (mVar 6) mNil))))) (mCons (mVar 7) mNil))))) (sRet (mC (.bl false))) sNil) (sRet (mCall (arW 2 (aF 16)) (mCons (mVar 8) (mCons (mTup (mCons (mVar 1) (mCons (mVar 5) (mCons (mVar 3) mNil)))) mNil)))))))))))))))
noncomputable def jQ : List W → M W := runF 10 m4
section
variable {P:Program}{w:World}{K:PySem.W.Frag}{mg : Str → Option Value}{base : Heap}{f:Addr}{fd : FuncData}
theorem sc_worth : FnScope ["e", "values", "left", "right"] ["e", "values"] (ap fL) := ⟨rfl,rfl,rfl,by decide +kernel,rfl,by decide +kernel,by decide +kernel⟩
theorem lb   (F:Fun K "worth" "worth" fL f fd) (B:Binds K fd ["e", "values"] []) (Mf : mg "worth" = some (.ref f)) : ∀ n : Nat,CG P w K mg base (1 + n) "worth" f fd ["e", "values"] 2 (bT n)
  | 0 => ⟨kD fun _ _ => rfl,B,F.kp,Mf⟩
  | n + 1 => by
    have C_worth := lb  F B Mf n
    refine ⟨bE (g := eo (bT n)) F sc_worth rfl rfl rfl fun cdv A outer s H E hr => ?_,B,F.kp,Mf⟩
    have hr : Room (1 + n) _ := hr
    have hu := bD hr
    have hu6 := hr.units
    exact (ah (aJ (aC aP (aG hu6) (aq hu (ae 0) ag (fun _ _ => rfl)) av (aA _)) (ao (az (aq hu (ae 0) ag (fun _ _ => rfl)))) aB)
      (ah (aJ (aC aP (aG hu6) (aq hu (ae 0) ag (fun _ _ => rfl)) av (aA _)) (ao (az (aq hu (ae 1) (aq hu (ae 0) ag (fun _ _ => rfl)) (fun _ _ => rfl)))) aB)
      (ah (ay (i := 2) sc_worth.nd rfl (Or.inl rfl) (au (ps := ["e", "values"]) C_worth (hr.mono (by omega)) (ab (aq hu (ae 0) ag (fun _ _ => rfl)) (ab (ae 1) af ai) aT) (he := aT) (hpl := (aj ai ak))))
      (ah (ay (i := 3) sc_worth.nd rfl (Or.inl rfl) (au (ps := ["e", "values"]) C_worth (hr.mono (by omega)) (ab (aq hu (ae 0) ag (fun _ _ => rfl)) (ab (ae 1) af ai) aT) (he := aT) (hpl := (aj ai ak))))
      (ah (aJ (aC aP (aG hu6) (aq hu (ae 0) ag (fun _ _ => rfl)) av (aA _)) (ao (az (aU (ae 2) (ae 3)))) aB)
      (ah (aJ (aC aP (aG hu6) (aq hu (ae 0) ag (fun _ _ => rfl)) av (aA _)) (ao (az (eE (ae 2) (ae 3)))) aB)
      (ao (az (fG (ae 2) (ae 3))))))))))
theorem gh : FnScope ["self", "boxes", "numbers"] ["self", "boxes", "numbers"] (ap bB) := ⟨rfl,rfl,rfl,by decide +kernel,rfl,by decide +kernel,by decide +kernel⟩
theorem gq  {c_Doing : Addr} (y_dict : mg "dict" = none) (y_list : mg "list" = none) (n_Doing : PySem.W.nsIn K mainGlobals "Doing" = some (some (.ref c_Doing))) (cl_Doing : Cls K c_Doing) (na_Doing_held : NoAttr K c_Doing "held") (na_Doing_numbers : NoAttr K c_Doing "numbers") (na_Doing_said : NoAttr K c_Doing "said") (na_Doing_taken : NoAttr K c_Doing "taken") (F:Fun K "__init__" "Doing.__init__" bB f fd) (B:Binds K fd ["self", "boxes", "numbers"] []) (Me : Meth K c_Doing "__init__" f) : CGm P w K mg base 1 c_Doing "__init__" f fd ["self", "boxes", "numbers"] 3 bq :=by
  refine ⟨bE (g := cR) F gh rfl rfl rfl fun cdv A outer s H E hr => ?_,B,Me⟩
  have hu := bD hr
  have hu6 := hr.units
  exact (ah (kg n_Doing cl_Doing na_Doing_held (ae 0) (o5 rfl y_dict (ab (ae 1) af ai)))
    (ah (kg n_Doing cl_Doing na_Doing_numbers (ae 0) (cF (gu y_list (ab (ae 2) af ai) (he := ai) (hpl := ak))))
    (ah (kg n_Doing cl_Doing na_Doing_taken (ae 0) ag)
    (ao (kg n_Doing cl_Doing na_Doing_said (ae 0) (eU (bX af)))))))
theorem ft : FnScope ["self", "row"] ["self", "row"] (ap bf) := ⟨rfl,rfl,rfl,by decide +kernel,rfl,by decide +kernel,by decide +kernel⟩
theorem fw  {c_Doing : Addr} (y_len : mg "len" = none) (n_Doing : PySem.W.nsIn K mainGlobals "Doing" = some (some (.ref c_Doing))) (cl_Doing : Cls K c_Doing) (na_Doing_numbers : NoAttr K c_Doing "numbers") (na_Doing_taken : NoAttr K c_Doing "taken") (F:Fun K "lacks_number" "Doing.lacks_number" bf f fd) (B:Binds K fd ["self", "row"] []) (Me : Meth K c_Doing "lacks_number" f) : CGm P w K mg base 1 c_Doing "lacks_number" f fd ["self", "row"] 2 aS :=by
  refine ⟨bE (g := bQ) F ft rfl rfl rfl fun cdv A outer s H E hr => ?_,B,Me⟩
  have hu := bD hr
  have hu6 := hr.units
  exact (ao (az (gf (de aP (aG hu6) (aq hu (ae 1) ag (fun _ _ => rfl)) av (aA _)) (fZ (de aP (aG hu6) (cG n_Doing cl_Doing na_Doing_taken (ae 0)) (bC y_len (ab (cG n_Doing cl_Doing na_Doing_numbers (ae 0)) af eQ) (he := eQ) (hpl := ak)) (aA _))))))
theorem fu : FnScope ["self", "statement"] ["self", "statement"] (ap bg) := ⟨rfl,rfl,rfl,by decide +kernel,rfl,by decide +kernel,by decide +kernel⟩
theorem fz {a_worth : Addr}{d_worth : FuncData}{c_Doing : Addr}{t_BOX_RANGE : Tok} (c_BOX_RANGE : mg "BOX_RANGE" = some (.int 1000000 t_BOX_RANGE)) (n_Doing : PySem.W.nsIn K mainGlobals "Doing" = some (some (.ref c_Doing))) (cl_Doing : Cls K c_Doing) (na_Doing_held : NoAttr K c_Doing "held") (na_Doing_numbers : NoAttr K c_Doing "numbers") (na_Doing_said : NoAttr K c_Doing "said") (na_Doing_taken : NoAttr K c_Doing "taken") (C_worth : CG P w K mg base 7 "worth" a_worth d_worth ["e", "values"] 2 (bT 6)) (F:Fun K "do_statement" "Doing.do_statement" bg f fd) (B:Binds K fd ["self", "statement"] []) (Me : Meth K c_Doing "do_statement" f) : CGm P w K mg base 8 c_Doing "do_statement" f fd ["self", "statement"] 2 bh :=by
  refine ⟨bE (g := bS) F fu rfl rfl rfl fun cdv A outer s H E hr => ?_,B,Me⟩
  have hu := bD hr
  have hu6 := hr.units
  exact (ao (aJ (aC aP (aG hu6) (aq hu (ae 1) ag (fun _ _ => rfl)) av (aA _)) (ao (d8 hu (cG n_Doing cl_Doing na_Doing_held (ae 0)) (aq hu (ae 1) ag (fun _ _ => rfl)) (dc (au (ps := ["e", "values"]) C_worth (hr.mono (by omega)) (ab (aq hu (ae 1) ag (fun _ _ => rfl)) (ab (cG n_Doing cl_Doing na_Doing_held (ae 0)) af eQ) aT) (he := aT) (hpl := (aj eQ ak))) (kj (w := .int 1000000) (v := .int 1000000) rfl c_BOX_RANGE ⟨_,rfl⟩ (fun o => rv_int.mpr rfl))))) (ao (aJ (aC aP (aG hu6) (aq hu (ae 1) ag (fun _ _ => rfl)) av (aA _)) (ao (dI (di (cG n_Doing cl_Doing na_Doing_said (ae 0)) (ab (au (ps := ["e", "values"]) C_worth (hr.mono (by omega)) (ab (aq hu (ae 1) ag (fun _ _ => rfl)) (ab (cG n_Doing cl_Doing na_Doing_held (ae 0)) af eQ) aT) (he := aT) (hpl := (aj eQ ak))) af bc)))) (ah (d8 hu (cG n_Doing cl_Doing na_Doing_held (ae 0)) (aq hu (ae 1) ag (fun _ _ => rfl)) (dc (aq hu (cG n_Doing cl_Doing na_Doing_numbers (ae 0)) (cG n_Doing cl_Doing na_Doing_taken (ae 0)) (fun _ _ => rfl)) (kj (w := .int 1000000) (v := .int 1000000) rfl c_BOX_RANGE ⟨_,rfl⟩ (fun o => rv_int.mpr rfl))))
    (ao (nR n_Doing cl_Doing na_Doing_taken (ae 0) ag)))))))
theorem iB : FnScope ["self", "sign", "left", "right"] ["self", "sign", "left", "right"] (ap cr) := ⟨rfl,rfl,rfl,by decide +kernel,rfl,by decide +kernel,by decide +kernel⟩
theorem iR {a_worth : Addr}{d_worth : FuncData}{c_Doing : Addr} (n_Doing : PySem.W.nsIn K mainGlobals "Doing" = some (some (.ref c_Doing))) (cl_Doing : Cls K c_Doing) (na_Doing_held : NoAttr K c_Doing "held") (C_worth : CG P w K mg base 7 "worth" a_worth d_worth ["e", "values"] 2 (bT 6)) (F:Fun K "holds" "Doing.holds" cr f fd) (B:Binds K fd ["self", "sign", "left", "right"] []) (Me : Meth K c_Doing "holds" f) : CGm P w K mg base 8 c_Doing "holds" f fd ["self", "sign", "left", "right"] 4 bZ :=by
  refine ⟨bE (g := dO) F iB rfl rfl rfl fun cdv A outer s H E hr => ?_,B,Me⟩
  have hu := bD hr
  have hu6 := hr.units
  exact (ah (aJ (aC aP (aG hu6) (ae 1) av (aA _)) (ao (az (de fT eC (au (ps := ["e", "values"]) C_worth (hr.mono (by omega)) (ab (ae 2) (ab (cG n_Doing cl_Doing na_Doing_held (ae 0)) af eQ) ai) (he := ai) (hpl := (aj eQ ak))) (au (ps := ["e", "values"]) C_worth (hr.mono (by omega)) (ab (ae 3) (ab (cG n_Doing cl_Doing na_Doing_held (ae 0)) af eQ) ai) (he := ai) (hpl := (aj eQ ak))) (aA _)))) aB)
    (ao (az (de aP (aG hu6) (au (ps := ["e", "values"]) C_worth (hr.mono (by omega)) (ab (ae 2) (ab (cG n_Doing cl_Doing na_Doing_held (ae 0)) af eQ) ai) (he := ai) (hpl := (aj eQ ak))) (au (ps := ["e", "values"]) C_worth (hr.mono (by omega)) (ab (ae 3) (ab (cG n_Doing cl_Doing na_Doing_held (ae 0)) af eQ) ai) (he := ai) (hpl := (aj eQ ak))) (aA _)))))
theorem g8 : FnScope ["self", "e", "many"] ["self", "e", "many"] (ap cc) := ⟨rfl,rfl,rfl,by decide +kernel,rfl,by decide +kernel,by decide +kernel⟩
theorem hE {a_worth : Addr}{d_worth : FuncData}{c_Doing : Addr} (n_Doing : PySem.W.nsIn K mainGlobals "Doing" = some (some (.ref c_Doing))) (cl_Doing : Cls K c_Doing) (na_Doing_held : NoAttr K c_Doing "held") (C_worth : CG P w K mg base 7 "worth" a_worth d_worth ["e", "values"] 2 (bT 6)) (F:Fun K "chosen" "Doing.chosen" cc f fd) (B:Binds K fd ["self", "e", "many"] []) (Me : Meth K c_Doing "chosen" f) : CGm P w K mg base 8 c_Doing "chosen" f fd ["self", "e", "many"] 3 cL :=by
  refine ⟨bE (g := dt) F g8 rfl rfl rfl fun cdv A outer s H E hr => ?_,B,Me⟩
  have hu := bD hr
  have hu6 := hr.units
  exact (ao (az (dc (au (ps := ["e", "values"]) C_worth (hr.mono (by omega)) (ab (ae 1) (ab (cG n_Doing cl_Doing na_Doing_held (ae 0)) af eQ) ai) (he := ai) (hpl := (aj eQ ak))) (ae 2))))
theorem iz : FnScope ["doing", "row"] ["doing", "row"] (ap cp) := ⟨rfl,rfl,rfl,by decide +kernel,rfl,by decide +kernel,by decide +kernel⟩
theorem iL {a_Doing_holds : Addr}{d_Doing_holds : FuncData}{a_Doing_chosen : Addr}{d_Doing_chosen : FuncData}{c_Doing : Addr} (y_len : mg "len" = none) (n_Doing : PySem.W.nsIn K mainGlobals "Doing" = some (some (.ref c_Doing))) (cl_Doing : Cls K c_Doing) (C_Doing_holds : CGm P w K mg base 8 c_Doing "holds" a_Doing_holds d_Doing_holds ["self", "sign", "left", "right"] 4 bZ) (C_Doing_chosen : CGm P w K mg base 8 c_Doing "chosen" a_Doing_chosen d_Doing_chosen ["self", "e", "many"] 3 cL) (F:Fun K "row_gone_to" "row_gone_to" cp f fd) (B:Binds K fd ["doing", "row"] []) (Mf : mg "row_gone_to" = some (.ref f)) : CG P w K mg base 9 "row_gone_to" f fd ["doing", "row"] 2 cw :=by
  refine ⟨bE (g := bY) F iz rfl rfl rfl fun cdv A outer s H E hr => ?_,B,F.kp,Mf⟩
  have hu := bD hr
  have hu6 := hr.units
  exact (ah (aJ (aC aP (aG hu6) (aq hu (ae 1) ag (fun _ _ => rfl)) av (aA _)) (ao (az (aq hu (ae 1) ag (fun _ _ => rfl)))) aB)
    (ah (aJ (aC aP (aG hu6) (aq hu (ae 1) ag (fun _ _ => rfl)) av (aA _)) (ao (az (lE (dS (i9 (ps := ["self", "sign", "left", "right"]) n_Doing cl_Doing C_Doing_holds (hr.mono (by omega)) (ae 0) (ab (aq hu (ae 1) ag (fun _ _ => rfl)) (ab (aq hu (ae 1) ag (fun _ _ => rfl)) (ab (aq hu (ae 1) ag (fun _ _ => rfl)) af aT) aT) aT))) (aq hu (ae 1) ag (fun _ _ => rfl)) gP))) aB)
    (ah (aJ (aC aP (aG hu6) (aq hu (ae 1) ag (fun _ _ => rfl)) av (aA _)) (ao (az (lE (dS (i9 (ps := ["self", "sign", "left", "right"]) n_Doing cl_Doing C_Doing_holds (hr.mono (by omega)) (ae 0) (ab (aq hu (ae 1) ag (fun _ _ => rfl)) (ab (aq hu (ae 1) ag (fun _ _ => rfl)) (ab (aq hu (ae 1) ag (fun _ _ => rfl)) af aT) aT) aT))) gP (aq hu (ae 1) ag (fun _ _ => rfl))))) aB)
    (ah (aJ (aC aP (aG hu6) (aq hu (ae 1) ag (fun _ _ => rfl)) av (aA _)) (ao (az (aq hu (aq hu (ae 1) ag (fun _ _ => rfl)) (i9 (ps := ["self", "e", "many"]) n_Doing cl_Doing C_Doing_chosen (hr.mono (by omega)) (ae 0) (ab (aq hu (ae 1) ag (fun _ _ => rfl)) (ab (bC y_len (ab (aq hu (ae 1) ag (fun _ _ => rfl)) af aT) (he := aT) (hpl := ak)) af bc) aT)) (fun _ _ => rfl)))) aB)
    (ao (az gP))))))
theorem sc_run_rows : FnScope ["boxes", "rows", "numbers", "bound", "doing", "jumps", "place", "done", "row", "to"] ["boxes", "rows", "numbers", "bound"] (ap dw) := ⟨rfl,rfl,rfl,by decide +kernel,rfl,by decide +kernel,by decide +kernel⟩
theorem ld {a_Doing___init__ : Addr}{d_Doing___init__ : FuncData}{a_Doing_lacks_number : Addr}{d_Doing_lacks_number : FuncData}{a_Doing_do_statement : Addr}{d_Doing_do_statement : FuncData}{a_row_gone_to : Addr}{d_row_gone_to : FuncData}{c_Doing c_STATEMENTS : Addr} (m_STATEMENTS : mg "STATEMENTS" = some (.ref c_STATEMENTS)) (q_STATEMENTS : ∀ H,SqT K H c_STATEMENTS ((["put", "say", "ask"] : List Str).map V.str)) (n_Doing : PySem.W.nsIn K mainGlobals "Doing" = some (some (.ref c_Doing))) (cl_Doing : Cls K c_Doing) (na_Doing_said : NoAttr K c_Doing "said") (m_Doing : mg "Doing" = some (.ref c_Doing)) (M_Doing : Mk K c_Doing a_Doing___init__) (C_Doing___init__ : CGm P w K mg base 1 c_Doing "__init__" a_Doing___init__ d_Doing___init__ ["self", "boxes", "numbers"] 3 bq) (C_Doing_lacks_number : CGm P w K mg base 1 c_Doing "lacks_number" a_Doing_lacks_number d_Doing_lacks_number ["self", "row"] 2 aS) (C_Doing_do_statement : CGm P w K mg base 8 c_Doing "do_statement" a_Doing_do_statement d_Doing_do_statement ["self", "statement"] 2 bh) (C_row_gone_to : CG P w K mg base 9 "row_gone_to" a_row_gone_to d_row_gone_to ["doing", "row"] 2 cw) (F:Fun K "run_rows" "run_rows" dw f fd) (B:Binds K fd ["boxes", "rows", "numbers", "bound"] []) (Mf : mg "run_rows" = some (.ref f)) : CG P w K mg base 10 "run_rows" f fd ["boxes", "rows", "numbers", "bound"] 4 dH :=by
  refine ⟨bE (g := eX) F sc_run_rows rfl rfl rfl fun cdv A outer s H E hr => ?_,B,F.kp,Mf⟩
  have hu := bD hr
  have hu6 := hr.units
  exact (ah (ay (i := 4) sc_run_rows.nd rfl (Or.inl rfl) (qG (ps := ["self", "boxes", "numbers"]) M_Doing n_Doing C_Doing___init__.ok C_Doing___init__.bi (hr.mono (by omega)) m_Doing (ab (ae 0) (ab (ae 2) af ai) ai)))
    (ah (ay (i := 5) sc_run_rows.nd rfl (Or.inl rfl) ag)
    (ah (ay (i := 6) sc_run_rows.nd rfl (Or.inl rfl) ag)
    (ah (ay (i := 7) sc_run_rows.nd rfl (Or.inl rfl) ag)
    (ah (iU 202 PassesOwn.never (aC fT eC (ae 7) (ae 3) (aA _)) (ah (ay (i := 8) sc_run_rows.nd rfl (Or.inl rfl) (aq hu (ae 1) (ae 6) (fun _ _ => rfl)))
    (ah (aJ (aC aP (aG hu6) (aq hu (ae 8) ag (fun _ _ => rfl)) av (aA _)) (ao (az (aL (ab (cG n_Doing cl_Doing na_Doing_said (ae 4)) (ab (aL (ab av af aD)) (ab (ae 5) af ai) fE) eQ)))) aB)
    (ah (aJ (dS (i9 (ps := ["self", "row"]) n_Doing cl_Doing C_Doing_lacks_number (hr.mono (by omega)) (ae 4) (ab (ae 8) af ai))) (ao (az (aL (ab (cG n_Doing cl_Doing na_Doing_said (ae 4)) (ab (aL (ab av af aD)) (ab (ae 5) af ai) fE) eQ)))) aB)
    (ah (aJ (aC (mS hu) j6 (aq hu (ae 8) ag (fun _ _ => rfl)) (o4 (zs := ["put", "say", "ask"]) m_STATEMENTS q_STATEMENTS) (by with_unfolding_all rfl)) (ao (dI (i9 (ps := ["self", "statement"]) n_Doing cl_Doing C_Doing_do_statement (hr.mono (by omega)) (ae 4) (ab (ae 8) af ai)))) aB)
    (ah (ay (i := 9) sc_run_rows.nd rfl (Or.inl rfl) (au (ps := ["doing", "row"]) C_row_gone_to (hr.mono (by omega)) (ab (ae 4) (ab (ae 8) af ai) ai) (he := ai) (hpl := (aj ai ak))))
    (ah (aJ (aC md j5 (ae 9) gP (aA _)) (ao (mq (i := 6) sc_run_rows.nd rfl (Or.inl rfl) ag)) (ah (ay (i := 6) sc_run_rows.nd rfl (Or.inl rfl) (ae 9))
    (ao (mq (i := 5) sc_run_rows.nd rfl (Or.inl rfl) ag))))
    (ao (mq (i := 7) sc_run_rows.nd rfl (Or.inl rfl) ag)))))))))
    (ao (az (aL (ab (cG n_Doing cl_Doing na_Doing_said (ae 4)) (ab (aL (ab av af aD)) (ab (ae 5) af ai) fE) eQ)))))))))
theorem iA : FnScope ["script", "k"] ["script", "k"] (ap cq) := ⟨rfl,rfl,rfl,by decide +kernel,rfl,by decide +kernel,by decide +kernel⟩
theorem iO  (y_len : mg "len" = none) (F:Fun K "_law_cell_at" "_law_cell_at" cq f fd) (B:Binds K fd ["script", "k"] []) (Mf : mg "_law_cell_at" = some (.ref f)) : CG P w K mg base 1 "_law_cell_at" f fd ["script", "k"] 2 aQ :=by
  refine ⟨bE (g := dN) F iA rfl rfl rfl fun cdv A outer s H E hr => ?_,B,F.kp,Mf⟩
  have hu := bD hr
  have hu6 := hr.units
  exact (ah (aJ (aC fT eC (ae 1) (bC y_len (ab (ae 0) af ai) (he := ai) (hpl := ak)) (aA _)) (ao (az (aq hu (ae 0) (ae 1) (fun _ _ => rfl)))) aB)
    (ao (az ag)))
theorem kU : FnScope ["cell"] ["cell"] (ap dB) := ⟨rfl,rfl,rfl,by decide +kernel,rfl,by decide +kernel,by decide +kernel⟩
theorem li  (y_abs : mg "abs" = none) (F:Fun K "_law_reel" "_law_reel" dB f fd) (B:Binds K fd ["cell"] []) (Mf : mg "_law_reel" = some (.ref f)) : CG P w K mg base 1 "_law_reel" f fd ["cell"] 1 aO :=by
  refine ⟨bE (g := fe) F kU rfl rfl rfl fun cdv A outer s H E hr => ?_,B,F.kp,Mf⟩
  have hu := bD hr
  have hu6 := hr.units
  exact (ao (az (eU (bX (ab (sQ y_abs (ab (ae 0) af ai) (he := ai) (hpl := ak)) (ab (dc (fG (aU (dc (ae 0) ag) ag) ag) ag) af cy) bc)))))
theorem sc_law_take : FnScope ["reel", "many", "found", "stir"] ["reel", "many"] (ap dz) := ⟨rfl,rfl,rfl,by decide +kernel,rfl,by decide +kernel,by decide +kernel⟩
theorem lg   (F:Fun K "_law_take" "_law_take" dz f fd) (B:Binds K fd ["reel", "many"] []) (Mf : mg "_law_take" = some (.ref f)) : CG P w K mg base 1 "_law_take" f fd ["reel", "many"] 2 am :=by
  refine ⟨bE (g := eZ) F sc_law_take rfl rfl rfl fun cdv A outer s H E hr => ?_,B,F.kp,Mf⟩
  have hu := bD hr
  have hu6 := hr.units
  exact (ah (aJ (aC rm oR (aq hu (ae 0) ag (fun _ _ => rfl)) (i7 ag ag) (aA _)) (ah (ay (i := 2) sc_law_take.nd rfl (Or.inl rfl) (dc (aq hu (ae 0) ag (fun _ _ => rfl)) (ae 1)))
    (ah (d8 hu (ae 0) ag (km (aq hu (ae 0) ag (fun _ _ => rfl)) (ae 1)))
    (ao (az (ae 2))))) aB)
    (ah (d8 hu (ae 0) ag (dc (aU (fG (aq hu (ae 0) ag (fun _ _ => rfl)) ag) ag) ag))
    (ah (ay (i := 3) sc_law_take.nd rfl (Or.inl rfl) (dc (fG (aq hu (ae 0) ag (fun _ _ => rfl)) (aq hu (ae 0) ag (fun _ _ => rfl))) ag))
    (ao (az (dc (km (dc (fG (ae 3) ag) ag) ag) (ae 1)))))))
theorem sc_law_names : FnScope ["reel", "many", "letters", "words", "names", "k", "name", "j"] ["reel", "many"] (ap dg) := ⟨rfl,rfl,rfl,by decide +kernel,rfl,by decide +kernel,by decide +kernel⟩
theorem j9 {a_law_take : Addr}{d_law_take : FuncData} (y_len : mg "len" = none) (y_max : mg "max" = none) (y_range : mg "range" = none) (C_law_take : CG P w K mg base 1 "_law_take" a_law_take d_law_take ["reel", "many"] 2 am) (F:Fun K "_law_names" "_law_names" dg f fd) (B:Binds K fd ["reel", "many"] []) (Mf : mg "_law_names" = some (.ref f)) : CG P w K mg base 2 "_law_names" f fd ["reel", "many"] 2 dl :=by
  refine ⟨bE (g := eB) F sc_law_names rfl rfl rfl fun cdv A outer s H E hr => ?_,B,F.kp,Mf⟩
  have hu := bD hr
  have hu6 := hr.units
  exact (ah (ay (i := 2) sc_law_names.nd rfl (Or.inl rfl) av)
    (ah (ay (i := 3) sc_law_names.nd rfl (Or.inl rfl) (cF (bX (ab av (ab av (ab av (ab av (ab av (ab av (ab av (ab av (ab av (ab av af aD) aD) aD) aD) aD) aD) aD) aD) aD) aD))))
    (ah (ay (i := 4) sc_law_names.nd rfl (Or.inl rfl) (eU (bX af)))
    (ah (dU PassesOwn.never rfl (cu rfl y_range (ab (ae 1) af ai)) (bm (i := 5) sc_law_names.nd rfl (Or.inl rfl)) (bH 8 5 (by decide)) (ah (ay (i := 6) sc_law_names.nd rfl (Or.inl rfl) (aq hu (cF (o3 (cF (bX (ab av (ab av (ab av (ab av af aD) aD) aD) aD))) (ae 3))) (au (ps := ["reel", "many"]) C_law_take (hr.mono (by omega)) (ab (ae 0) (ab ag af aD) ai) (he := ai) (hpl := (aj aD ak))) (fun _ _ => rfl)))
    (ah (dU PassesOwn.never rfl (cu rfl y_range (ab (aU ag (au (ps := ["reel", "many"]) C_law_take (hr.mono (by omega)) (ab (ae 0) (ab (eE ag (sP rfl y_max (ab ag (ab (bC y_len (ab (ae 6) af ai) (he := ai) (hpl := ak)) af bc) aD) (he := aD) (hpl := (aj bc ak)))) af cy) ai) (he := ai) (hpl := (aj cy ak)))) af cy)) (bm (i := 7) sc_law_names.nd rfl (Or.inl rfl)) (bH 8 7 (by decide)) (ao (ay (i := 6) sc_law_names.nd rfl (Or.inl rfl) (aU (ae 6) (aq hu (ae 2) (au (ps := ["reel", "many"]) C_law_take (hr.mono (by omega)) (ab (ae 0) (ab ag af aD) ai) (he := ai) (hpl := (aj aD ak))) (fun _ _ => rfl))))))
    (ah (iU 30 PassesOwn.never (jM (oX (aC (mS hu) j6 (ae 6) (ae 4) (by with_unfolding_all rfl)) (mm (aC (mS hu) j6 (ae 6) (ae 3) (by with_unfolding_all rfl))))) (ao (ay (i := 6) sc_law_names.nd rfl (Or.inl rfl) (aU (iZ (ae 6) hZ (dJ (i8 ag))) (aq hu (ae 2) (dc (aU (qH (ae 2) (ab (aq hu (ae 6) (i8 ag) (fun _ _ => rfl)) af aT)) ag) ag) (fun _ _ => rfl))))))
    (ao (dI (di (ae 4) (ab (ae 6) af ai))))))))
    (ao (az (gc (ae 4))))))))
theorem sc_law_leaf : FnScope ["reel", "boxes", "most"] ["reel", "boxes"] (ap dD) := ⟨rfl,rfl,rfl,by decide +kernel,rfl,by decide +kernel,by decide +kernel⟩
theorem lm {a_law_take : Addr}{d_law_take : FuncData} (y_len : mg "len" = none) (C_law_take : CG P w K mg base 1 "_law_take" a_law_take d_law_take ["reel", "many"] 2 am) (F:Fun K "_law_leaf" "_law_leaf" dD f fd) (B:Binds K fd ["reel", "boxes"] []) (Mf : mg "_law_leaf" = some (.ref f)) : CG P w K mg base 2 "_law_leaf" f fd ["reel", "boxes"] 2 d9 :=by
  refine ⟨bE (g := fg) F sc_law_leaf rfl rfl rfl fun cdv A outer s H E hr => ?_,B,F.kp,Mf⟩
  have hu := bD hr
  have hu6 := hr.units
  exact (ah (aJ (jM (mn (aC kZ (iJ hu6) (ae 1) (cF (bX af)) (aA _)) (ke (aC uk sx (au (ps := ["reel", "many"]) C_law_take (hr.mono (by omega)) (ab (ae 0) (ab ag af aD) ai) (he := ai) (hpl := (aj aD ak))) ag (aA _))))) (ao (az (aL (ab av (ab (aq hu (aq hu (ae 1) (au (ps := ["reel", "many"]) C_law_take (hr.mono (by omega)) (ab (ae 0) (ab (bC y_len (ab (ae 1) af ai) (he := ai) (hpl := ak)) af bc) ai) (he := ai) (hpl := (aj bc ak))) (fun _ _ => rfl)) ag (fun _ _ => rfl)) af aT) aD)))) aB)
    (ah (ay (i := 2) sc_law_leaf.nd rfl (Or.inl rfl) (aq hu (cF (bX (ab ag (ab ag (ab ag af aD) aD) aD))) (au (ps := ["reel", "many"]) C_law_take (hr.mono (by omega)) (ab (ae 0) (ab ag af aD) ai) (he := ai) (hpl := (aj aD ak))) (fun _ _ => rfl)))
    (ao (az (aL (ab av (ab (au (ps := ["reel", "many"]) C_law_take (hr.mono (by omega)) (ab (ae 0) (ab (ae 2) af ai) ai) (he := ai) (hpl := (aj ai ak))) af bc) aD))))))
theorem sc_law_tree : FnScope ["reel", "boxes", "leaves", "left", "sign", "one", "other"] ["reel", "boxes", "leaves"] (ap dy) := ⟨rfl,rfl,rfl,by decide +kernel,rfl,by decide +kernel,by decide +kernel⟩
theorem gZ {a_law_leaf : Addr}{d_law_leaf : FuncData}{a_law_take : Addr}{d_law_take : FuncData} (C_law_leaf : CG P w K mg base 2 "_law_leaf" a_law_leaf d_law_leaf ["reel", "boxes"] 2 d9) (C_law_take : CG P w K mg base 1 "_law_take" a_law_take d_law_take ["reel", "many"] 2 am) (F:Fun K "_law_tree" "_law_tree" dy f fd) (B:Binds K fd ["reel", "boxes", "leaves"] []) (Mf : mg "_law_tree" = some (.ref f)) : ∀ n : Nat,CG P w K mg base (3 + n) "_law_tree" f fd ["reel", "boxes", "leaves"] 3 (be n)
  | 0 => ⟨kD fun _ _ => rfl,B,F.kp,Mf⟩
  | n + 1 => by
    have C_law_tree := gZ C_law_leaf C_law_take F B Mf n
    refine ⟨bE (g := eY (be n)) F sc_law_tree rfl rfl rfl fun cdv A outer s H E hr => ?_,B,F.kp,Mf⟩
    have hr : Room (3 + n) _ := hr
    have hu := bD hr
    have hu6 := hr.units
    exact (ah (aJ (aC fT eC (ae 2) ag (aA _)) (ao (az (au (ps := ["reel", "boxes"]) C_law_leaf (hr.mono (by omega)) (ab (ae 0) (ab (ae 1) af ai) ai) (he := ai) (hpl := (aj ai ak))))) aB)
      (ah (ay (i := 3) sc_law_tree.nd rfl (Or.inl rfl) (aU ag (au (ps := ["reel", "many"]) C_law_take (hr.mono (by omega)) (ab (ae 0) (ab (eE (ae 2) ag) af cy) ai) (he := ai) (hpl := (aj cy ak)))))
      (ah (ay (i := 4) sc_law_tree.nd rfl (Or.inl rfl) (aq hu av (au (ps := ["reel", "many"]) C_law_take (hr.mono (by omega)) (ab (ae 0) (ab ag af aD) ai) (he := ai) (hpl := (aj aD ak))) (fun _ _ => rfl)))
      (ah (ay (i := 5) sc_law_tree.nd rfl (Or.inl rfl) (au (ps := ["reel", "boxes", "leaves"]) C_law_tree (hr.mono (by omega)) (ab (ae 0) (ab (ae 1) (ab (ae 3) af ai) ai) ai) (he := ai) (hpl := (aj ai (aj ai ak)))))
      (ah (ay (i := 6) sc_law_tree.nd rfl (Or.inl rfl) (au (ps := ["reel", "boxes", "leaves"]) C_law_tree (hr.mono (by omega)) (ab (ae 0) (ab (ae 1) (ab (eE (ae 2) (ae 3)) af cy) ai) ai) (he := ai) (hpl := (aj ai (aj cy ak)))))
      (ao (az (aL (ab (ae 4) (ab (ae 5) (ab (ae 6) af ai) ai) ai)))))))))
theorem sc_law_worth : FnScope ["e", "values", "one", "other"] ["e", "values"] (ap df) := ⟨rfl,rfl,rfl,by decide +kernel,rfl,by decide +kernel,by decide +kernel⟩
theorem gn   (F:Fun K "_law_worth" "_law_worth" df f fd) (B:Binds K fd ["e", "values"] []) (Mf : mg "_law_worth" = some (.ref f)) : ∀ n : Nat,CG P w K mg base (1 + n) "_law_worth" f fd ["e", "values"] 2 (aR n)
  | 0 => ⟨kD fun _ _ => rfl,B,F.kp,Mf⟩
  | n + 1 => by
    have C_law_worth := gn  F B Mf n
    refine ⟨bE (g := ci (aR n)) F sc_law_worth rfl rfl rfl fun cdv A outer s H E hr => ?_,B,F.kp,Mf⟩
    have hr : Room (1 + n) _ := hr
    have hu := bD hr
    have hu6 := hr.units
    exact (ah (aJ (aC aP (aG hu6) (aq hu (ae 0) ag (fun _ _ => rfl)) av (aA _)) (ao (az (aq hu (ae 0) ag (fun _ _ => rfl)))) aB)
      (ah (aJ (aC aP (aG hu6) (aq hu (ae 0) ag (fun _ _ => rfl)) av (aA _)) (ao (az (aq hu (ae 1) (aq hu (ae 0) ag (fun _ _ => rfl)) (fun _ _ => rfl)))) aB)
      (ah (ay (i := 2) sc_law_worth.nd rfl (Or.inl rfl) (au (ps := ["e", "values"]) C_law_worth (hr.mono (by omega)) (ab (aq hu (ae 0) ag (fun _ _ => rfl)) (ab (ae 1) af ai) aT) (he := aT) (hpl := (aj ai ak))))
      (ah (ay (i := 3) sc_law_worth.nd rfl (Or.inl rfl) (au (ps := ["e", "values"]) C_law_worth (hr.mono (by omega)) (ab (aq hu (ae 0) ag (fun _ _ => rfl)) (ab (ae 1) af ai) aT) (he := aT) (hpl := (aj ai ak))))
      (ah (aJ (aC aP (aG hu6) (aq hu (ae 0) ag (fun _ _ => rfl)) av (aA _)) (ao (az (aU (ae 2) (ae 3)))) aB)
      (ah (aJ (aC aP (aG hu6) (aq hu (ae 0) ag (fun _ _ => rfl)) av (aA _)) (ao (az (eE (ae 2) (ae 3)))) aB)
      (ao (az (fG (ae 2) (ae 3))))))))))
theorem sc_law_statement : FnScope ["reel", "boxes", "way", "name", "one"] ["reel", "boxes"] (ap bF) := ⟨rfl,rfl,rfl,by decide +kernel,rfl,by decide +kernel,by decide +kernel⟩
theorem gM {a_law_take : Addr}{d_law_take : FuncData}{a_law_tree : Addr}{d_law_tree : FuncData} (y_len : mg "len" = none) (C_law_take : CG P w K mg base 1 "_law_take" a_law_take d_law_take ["reel", "many"] 2 am) (C_law_tree : CG P w K mg base 9 "_law_tree" a_law_tree d_law_tree ["reel", "boxes", "leaves"] 3 (be 6)) (F:Fun K "_law_statement" "_law_statement" bF f fd) (B:Binds K fd ["reel", "boxes"] []) (Mf : mg "_law_statement" = some (.ref f)) : CG P w K mg base 10 "_law_statement" f fd ["reel", "boxes"] 2 aZ :=by
  refine ⟨bE (g := cY) F sc_law_statement rfl rfl rfl fun cdv A outer s H E hr => ?_,B,F.kp,Mf⟩
  have hu := bD hr
  have hu6 := hr.units
  exact (ah (ay (i := 2) sc_law_statement.nd rfl (Or.inl rfl) (au (ps := ["reel", "many"]) C_law_take (hr.mono (by omega)) (ab (ae 0) (ab ag af aD) ai) (he := ai) (hpl := (aj aD ak))))
    (ah (aJ (jM (oX (aC aP (aG hu6) (ae 1) (cF (bX af)) (aA _)) (mm (aC fT eC (ae 2) ag (aA _))))) (ao (az (aL (ab av (ab (au (ps := ["reel", "boxes", "leaves"]) C_law_tree (hr.mono (by omega)) (ab (ae 0) (ab (ae 1) (ab (aU ag (au (ps := ["reel", "many"]) C_law_take (hr.mono (by omega)) (ab (ae 0) (ab ag af aD) ai) (he := ai) (hpl := (aj aD ak)))) af cy) ai) ai) (he := ai) (hpl := (aj ai (aj cy ak)))) af bc) aD)))) aB)
    (ah (ay (i := 3) sc_law_statement.nd rfl (Or.inl rfl) (aq hu (aq hu (ae 1) (au (ps := ["reel", "many"]) C_law_take (hr.mono (by omega)) (ab (ae 0) (ab (bC y_len (ab (ae 1) af ai) (he := ai) (hpl := ak)) af bc) ai) (he := ai) (hpl := (aj bc ak))) (fun _ _ => rfl)) ag (fun _ _ => rfl)))
    (ah (aJ (aC fT eC (ae 2) ag (aA _)) (ao (az (aL (ab av (ab (ae 3) af ai) aD)))) aB)
    (ah (ay (i := 4) sc_law_statement.nd rfl (Or.inl rfl) (aL (ab av (ab (aq hu (aq hu (ae 1) (au (ps := ["reel", "many"]) C_law_take (hr.mono (by omega)) (ab (ae 0) (ab (bC y_len (ab (ae 1) af ai) (he := ai) (hpl := ak)) af bc) ai) (he := ai) (hpl := (aj bc ak))) (fun _ _ => rfl)) ag (fun _ _ => rfl)) af aT) aD)))
    (ah (aJ (aC aP (aG hu6) (ae 2) ag (aA _)) (ao (az (aL (ab av (ab (ae 3) (ab (aL (ab (aq hu av (au (ps := ["reel", "many"]) C_law_take (hr.mono (by omega)) (ab (ae 0) (ab ag af aD) ai) (he := ai) (hpl := (aj aD ak))) (fun _ _ => rfl)) (ab (ae 4) (ab (aL (ab av (ab (au (ps := ["reel", "many"]) C_law_take (hr.mono (by omega)) (ab (ae 0) (ab ag af aD) ai) (he := ai) (hpl := (aj aD ak))) af bc) aD)) af fE) ai) aT)) af fE) ai) aD)))) aB)
    (ao (az (aL (ab av (ab (ae 3) (ab (au (ps := ["reel", "boxes", "leaves"]) C_law_tree (hr.mono (by omega)) (ab (ae 0) (ab (ae 1) (ab (aU ag (au (ps := ["reel", "many"]) C_law_take (hr.mono (by omega)) (ab (ae 0) (ab ag af aD) ai) (he := ai) (hpl := (aj aD ak)))) af cy) ai) ai) (he := ai) (hpl := (aj ai (aj cy ak)))) af bc) ai) aD))))))))))
theorem sc_law_if : FnScope ["reel", "boxes", "x", "y", "sign", "one", "way", "other"] ["reel", "boxes", "x", "y"] (ap eI) := ⟨rfl,rfl,rfl,by decide +kernel,rfl,by decide +kernel,by decide +kernel⟩
theorem nM {a_law_take : Addr}{d_law_take : FuncData}{a_law_tree : Addr}{d_law_tree : FuncData} (C_law_take : CG P w K mg base 1 "_law_take" a_law_take d_law_take ["reel", "many"] 2 am) (C_law_tree : CG P w K mg base 9 "_law_tree" a_law_tree d_law_tree ["reel", "boxes", "leaves"] 3 (be 6)) (F:Fun K "_law_if" "_law_if" eI f fd) (B:Binds K fd ["reel", "boxes", "x", "y"] []) (Mf : mg "_law_if" = some (.ref f)) : CG P w K mg base 10 "_law_if" f fd ["reel", "boxes", "x", "y"] 4 fJ :=by
  refine ⟨bE (g := gE) F sc_law_if rfl rfl rfl fun cdv A outer s H E hr => ?_,B,F.kp,Mf⟩
  have hu := bD hr
  have hu6 := hr.units
  exact (ah (ay (i := 4) sc_law_if.nd rfl (Or.inl rfl) (aq hu av (au (ps := ["reel", "many"]) C_law_take (hr.mono (by omega)) (ab (ae 0) (ab ag af aD) ai) (he := ai) (hpl := (aj aD ak))) (fun _ _ => rfl)))
    (ah (ay (i := 5) sc_law_if.nd rfl (Or.inl rfl) (au (ps := ["reel", "boxes", "leaves"]) C_law_tree (hr.mono (by omega)) (ab (ae 0) (ab (ae 1) (ab (aU ag (au (ps := ["reel", "many"]) C_law_take (hr.mono (by omega)) (ab (ae 0) (ab ag af aD) ai) (he := ai) (hpl := (aj aD ak)))) af cy) ai) ai) (he := ai) (hpl := (aj ai (aj cy ak)))))
    (ah (ay (i := 6) sc_law_if.nd rfl (Or.inl rfl) (au (ps := ["reel", "many"]) C_law_take (hr.mono (by omega)) (ab (ae 0) (ab ag af aD) ai) (he := ai) (hpl := (aj aD ak))))
    (ah (ay (i := 7) sc_law_if.nd rfl (Or.inl rfl) (aL (ab av (ab (au (ps := ["reel", "many"]) C_law_take (hr.mono (by omega)) (ab (ae 0) (ab ag af aD) ai) (he := ai) (hpl := (aj aD ak))) af bc) aD)))
    (ah (aJ (aC aP (aG hu6) (ae 6) ag (aA _)) (ao (ay (i := 7) sc_law_if.nd rfl (Or.inl rfl) (au (ps := ["reel", "boxes", "leaves"]) C_law_tree (hr.mono (by omega)) (ab (ae 0) (ab (ae 1) (ab (aU ag (au (ps := ["reel", "many"]) C_law_take (hr.mono (by omega)) (ab (ae 0) (ab ag af aD) ai) (he := ai) (hpl := (aj aD ak)))) af cy) ai) ai) (he := ai) (hpl := (aj ai (aj cy ak)))))) aB)
    (ah (aJ (aC aP (aG hu6) (ae 6) ag (aA _)) (ao (ay (i := 7) sc_law_if.nd rfl (Or.inl rfl) (aL (ab av (ab (ae 5) (ab (aL (ab av (ab (au (ps := ["reel", "many"]) C_law_take (hr.mono (by omega)) (ab (ae 0) (ab ag af aD) ai) (he := ai) (hpl := (aj aD ak))) af bc) aD)) af fE) ai) aD)))) aB)
    (ao (az (aL (ab av (ab (ae 4) (ab (ae 5) (ab (ae 7) (ab (ae 2) (ab (ae 3) af ai) ai) ai) ai) ai) aD))))))))))
theorem sc_law_end : FnScope ["reel", "boxes", "many", "way", "to", "e"] ["reel", "boxes", "many"] (ap dE) := ⟨rfl,rfl,rfl,by decide +kernel,rfl,by decide +kernel,by decide +kernel⟩
theorem kd : ((["k", ".0"] : List Str) ++ (["reel", "boxes", "many", "way", "to", "e"] : List Str).map (hid ["k", ".0"])).Nodup :=by decide +kernel
theorem mi {a_law_take : Addr}{d_law_take : FuncData}{a_law_if : Addr}{d_law_if : FuncData}{a_law_tree : Addr}{d_law_tree : FuncData} (y_range : mg "range" = none) (y_tuple : mg "tuple" = none) (C_law_take : CG P w K mg base 1 "_law_take" a_law_take d_law_take ["reel", "many"] 2 am) (C_law_if : CG P w K mg base 10 "_law_if" a_law_if d_law_if ["reel", "boxes", "x", "y"] 4 fJ) (C_law_tree : CG P w K mg base 9 "_law_tree" a_law_tree d_law_tree ["reel", "boxes", "leaves"] 3 (be 6)) (F:Fun K "_law_end" "_law_end" dE f fd) (B:Binds K fd ["reel", "boxes", "many"] []) (Mf : mg "_law_end" = some (.ref f)) : CG P w K mg base 11 "_law_end" f fd ["reel", "boxes", "many"] 3 d6 :=by
  refine ⟨bE (g := fR) F sc_law_end rfl rfl rfl fun cdv A outer s H E hr => ?_,B,F.kp,Mf⟩
  have hu := bD hr
  have hu6 := hr.units
  exact (ah (ay (i := 3) sc_law_end.nd rfl (Or.inl rfl) (au (ps := ["reel", "many"]) C_law_take (hr.mono (by omega)) (ab (ae 0) (ab ag af aD) ai) (he := ai) (hpl := (aj aD ak))))
    (ah (ay (i := 4) sc_law_end.nd rfl (Or.inl rfl) (au (ps := ["reel", "many"]) C_law_take (hr.mono (by omega)) (ab (ae 0) (ab (ae 2) af ai) ai) (he := ai) (hpl := (aj ai ak))))
    (ah (aJ (aC fT eC (ae 3) ag (aA _)) (ao (az (aL (ab av (ab (ae 4) af ai) aD)))) aB)
    (ah (aJ (aC fT eC (ae 3) ag (aA _)) (ao (az (au (ps := ["reel", "boxes", "x", "y"]) C_law_if (hr.mono (by omega)) (ab (ae 0) (ab (ae 1) (ab (ae 4) (ab (au (ps := ["reel", "many"]) C_law_take (hr.mono (by omega)) (ab (ae 0) (ab (ae 2) af ai) ai) (he := ai) (hpl := (aj ai ak))) af bc) ai) ai) ai) (he := ai) (hpl := (aj ai (aj ai (aj bc ak))))))) aB)
    (ah (aJ (aC aP (aG hu6) (ae 3) ag (aA _)) (ao (az (aL (ab av af aD)))) aB)
    (ah (ay (i := 5) sc_law_end.nd rfl (Or.inl rfl) (au (ps := ["reel", "boxes", "leaves"]) C_law_tree (hr.mono (by omega)) (ab (ae 0) (ab (ae 1) (ab (aU ag (au (ps := ["reel", "many"]) C_law_take (hr.mono (by omega)) (ab (ae 0) (ab ag af aD) ai) (he := ai) (hpl := (aj aD ak)))) af cy) ai) ai) (he := ai) (hpl := (aj ai (aj cy ak)))))
    (ao (az (aL (ab av (ab (ae 5) (ab (iY y_tuple (ab (cF (ie rfl (ls := ["k", ".0"]) (.of (ap dE)) (cu rfl y_range (ab (aU ag (au (ps := ["reel", "many"]) C_law_take (hr.mono (by omega)) (ab (ae 0) (ab ag af aD) ai) (he := ai) (hpl := (aj aD ak)))) af cy)) (fun _ _ _ _ => (bm (i := 0) kd rfl (Or.inl rfl) (.inr rfl))) (bH 2 0 (by decide)) (fun _ _ _ _ => fO) (fun _ _ _ _ => (au (ps := ["reel", "many"]) C_law_take (hr.mono (by omega)) (ab (ae 2) (ab (ae 4) af ai) ai) (he := ai) (hpl := (aj ai ak)))) trivial)) af p5) (he := p5) (hpl := ak)) af bc) ai) aD))))))))))
theorem sc_law_number : FnScope ["reel", "way"] ["reel"] (ap cQ) := ⟨rfl,rfl,rfl,by decide +kernel,rfl,by decide +kernel,by decide +kernel⟩
theorem js {a_law_take : Addr}{d_law_take : FuncData} (C_law_take : CG P w K mg base 1 "_law_take" a_law_take d_law_take ["reel", "many"] 2 am) (F:Fun K "_law_number" "_law_number" cQ f fd) (B:Binds K fd ["reel"] []) (Mf : mg "_law_number" = some (.ref f)) : CG P w K mg base 2 "_law_number" f fd ["reel"] 1 cS :=by
  refine ⟨bE (g := dX) F sc_law_number rfl rfl rfl fun cdv A outer s H E hr => ?_,B,F.kp,Mf⟩
  have hu := bD hr
  have hu6 := hr.units
  exact (ah (ay (i := 1) sc_law_number.nd rfl (Or.inl rfl) (au (ps := ["reel", "many"]) C_law_take (hr.mono (by omega)) (ab (ae 0) (ab ag af aD) ai) (he := ai) (hpl := (aj aD ak))))
    (ah (aJ (aC aP (aG hu6) (ae 1) ag (aA _)) (ao (az (au (ps := ["reel", "many"]) C_law_take (hr.mono (by omega)) (ab (ae 0) (ab (i7 ag ag) af cy) ai) (he := ai) (hpl := (aj cy ak))))) aB)
    (ah (aJ (aC aP (aG hu6) (ae 1) ag (aA _)) (ao (az (i8 (au (ps := ["reel", "many"]) C_law_take (hr.mono (by omega)) (ab (ae 0) (ab (i7 ag ag) af cy) ai) (he := ai) (hpl := (aj cy ak)))))) aB)
    (ah (aJ (aC aP (aG hu6) (ae 1) ag (aA _)) (ao (az (aU ag (au (ps := ["reel", "many"]) C_law_take (hr.mono (by omega)) (ab (ae 0) (ab ag af aD) ai) (he := ai) (hpl := (aj aD ak)))))) aB)
    (ao (az (eE (au (ps := ["reel", "many"]) C_law_take (hr.mono (by omega)) (ab (ae 0) (ab ag af aD) ai) (he := ai) (hpl := (aj aD ak))) ag)))))))
theorem sc_law_program : FnScope ["script", "names", "reel", "boxes", "k", "turn", "many", "blocks", "part", "end", "statements"] ["script"] (ap bW) := ⟨rfl,rfl,rfl,by decide +kernel,rfl,by decide +kernel,by decide +kernel⟩
theorem gO : ((["j", ".0"] : List Str) ++ (["script", "names", "reel", "boxes", "k", "turn", "many", "blocks", "part", "end", "statements"] : List Str).map (hid ["j", ".0"])).Nodup :=by decide +kernel
theorem iN {a_law_names : Addr}{d_law_names : FuncData}{a_law_reel : Addr}{d_law_reel : FuncData}{a_law_cell_at : Addr}{d_law_cell_at : FuncData}{a_law_take : Addr}{d_law_take : FuncData}{a_law_end : Addr}{d_law_end : FuncData}{a_law_statement : Addr}{d_law_statement : FuncData} (y_range : mg "range" = none) (C_law_names : CG P w K mg base 2 "_law_names" a_law_names d_law_names ["reel", "many"] 2 dl) (C_law_reel : CG P w K mg base 1 "_law_reel" a_law_reel d_law_reel ["cell"] 1 aO) (C_law_cell_at : CG P w K mg base 1 "_law_cell_at" a_law_cell_at d_law_cell_at ["script", "k"] 2 aQ) (C_law_take : CG P w K mg base 1 "_law_take" a_law_take d_law_take ["reel", "many"] 2 am) (C_law_end : CG P w K mg base 11 "_law_end" a_law_end d_law_end ["reel", "boxes", "many"] 3 d6) (C_law_statement : CG P w K mg base 10 "_law_statement" a_law_statement d_law_statement ["reel", "boxes"] 2 aZ) (F:Fun K "_law_program" "_law_program" bW f fd) (B:Binds K fd ["script"] []) (Mf : mg "_law_program" = some (.ref f)) : CG P w K mg base 12 "_law_program" f fd ["script"] 1 cX :=by
  refine ⟨bE (g := dM) F sc_law_program rfl rfl rfl fun cdv A outer s H E hr => ?_,B,F.kp,Mf⟩
  have hu := bD hr
  have hu6 := hr.units
  exact (ah (ay (i := 1) sc_law_program.nd rfl (Or.inl rfl) (au (ps := ["reel", "many"]) C_law_names (hr.mono (by omega)) (ab (au (ps := ["cell"]) C_law_reel (hr.mono (by omega)) (ab (au (ps := ["script", "k"]) C_law_cell_at (hr.mono (by omega)) (ab (ae 0) (ab ag af aD) ai) (he := ai) (hpl := (aj aD ak))) af bc) (he := bc) (hpl := ak)) (ab ag af aD) bc) (he := bc) (hpl := (aj aD ak))))
    (ah (ay (i := 2) sc_law_program.nd rfl (Or.inl rfl) (au (ps := ["cell"]) C_law_reel (hr.mono (by omega)) (ab (au (ps := ["script", "k"]) C_law_cell_at (hr.mono (by omega)) (ab (ae 0) (ab ag af aD) ai) (he := ai) (hpl := (aj aD ak))) af bc) (he := bc) (hpl := ak)))
    (ah (ay (i := 3) sc_law_program.nd rfl (Or.inr rfl) (eU (bX af)))
    (ah (dU PassesOwn.never rfl (cu rfl y_range (ab (au (ps := ["reel", "many"]) C_law_take (hr.mono (by omega)) (ab (ae 2) (ab ag af aD) ai) (he := ai) (hpl := (aj aD ak))) af bc)) (bm (i := 4) sc_law_program.nd rfl (Or.inl rfl)) (bH 11 4 (by decide)) (ao (dI (di (ae 3) (ab (aL (ab (aq hu (ae 1) (ae 4) (fun _ _ => rfl)) (ab (au (ps := ["reel", "many"]) C_law_take (hr.mono (by omega)) (ab (ae 2) (ab (aq hu (cF (bX (ab ag (ab ag af aD) aD))) (au (ps := ["reel", "many"]) C_law_take (hr.mono (by omega)) (ab (ae 2) (ab ag af aD) ai) (he := ai) (hpl := (aj aD ak))) (fun _ _ => rfl)) af aT) ai) (he := ai) (hpl := (aj aT ak))) af bc) aT)) af fE)))))
    (ah (ay (i := 5) sc_law_program.nd rfl (Or.inl rfl) (au (ps := ["reel", "many"]) C_law_take (hr.mono (by omega)) (ab (ae 2) (ab ag af aD) ai) (he := ai) (hpl := (aj aD ak))))
    (ah (ay (i := 6) sc_law_program.nd rfl (Or.inl rfl) (aU ag (au (ps := ["reel", "many"]) C_law_take (hr.mono (by omega)) (ab (ae 2) (ab ag af aD) ai) (he := ai) (hpl := (aj aD ak)))))
    (ah (ay (i := 7) sc_law_program.nd rfl (Or.inl rfl) (eU (bX af)))
    (ah (dU PassesOwn.never rfl (cu rfl y_range (ab (ae 6) af ai)) (bm (i := 4) sc_law_program.nd rfl (Or.inl rfl)) (bH 11 4 (by decide)) (ah (ay (i := 8) sc_law_program.nd rfl (Or.inr rfl) (au (ps := ["cell"]) C_law_reel (hr.mono (by omega)) (ab (au (ps := ["reel", "many"]) C_law_take (hr.mono (by omega)) (ab (ae 2) (ab (i7 ag ag) af cy) ai) (he := ai) (hpl := (aj cy ak))) af bc) (he := bc) (hpl := ak)))
    (ah (ay (i := 9) sc_law_program.nd rfl (Or.inl rfl) (au (ps := ["reel", "boxes", "many"]) C_law_end (hr.mono (by omega)) (ab (ae 8) (ab (ae 3) (ab (ae 6) af ai) ai) ai) (he := ai) (hpl := (aj ai (aj ai ak)))))
    (ah (jI (i := 10) sc_law_program.nd rfl rfl rfl (ls := ["j", ".0"]) (.of (ap bW)) (cu rfl y_range (ab (au (ps := ["reel", "many"]) C_law_take (hr.mono (by omega)) (ab (ae 8) (ab ag af aD) ai) (he := ai) (hpl := (aj aD ak))) af bc)) (fun _ _ _ _ => (bm (i := 0) gO rfl (Or.inl rfl) (.inr rfl))) (bH 2 0 (by decide)) (fun _ _ _ _ => fO) (fun _ _ _ _ => (au (ps := ["reel", "boxes"]) C_law_statement (hr.mono (by omega)) (ab (ae 10) (ab (ae 5) af ai) ai) (he := ai) (hpl := (aj ai ak)))) trivial)
    (ao (dI (di (ae 7) (ab (aL (ab (aq hu (ae 1) (dc (aU (ae 5) (ae 4)) ag) (fun _ _ => rfl)) (ab (ae 10) (ab (ae 9) af ai) ai) aT)) af fE))))))))
    (ao (az (aL (ab (gc (ae 3)) (ab (gc (ae 7)) af ai) ai))))))))))))
theorem sc_law_filled : FnScope ["script", "program", "boxes", "blocks", "reel", "cells", "cut", "cell", "part", "statements"] ["script", "program"] (ap bJ) := ⟨rfl,rfl,rfl,by decide +kernel,rfl,by decide +kernel,by decide +kernel⟩
theorem hU : ((["k", ".0"] : List Str) ++ (["script", "program", "boxes", "blocks", "reel", "cells", "cut", "cell", "part", "statements"] : List Str).map (hid ["k", ".0"])).Nodup :=by decide +kernel
theorem hJ : ((["cell", ".0"] : List Str) ++ (["script", "program", "boxes", "blocks", "reel", "cells", "cut", "cell", "part", "statements"] : List Str).map (hid ["cell", ".0"])).Nodup :=by decide +kernel
theorem jt {a_law_reel : Addr}{d_law_reel : FuncData}{a_law_cell_at : Addr}{d_law_cell_at : FuncData}{a_law_take : Addr}{d_law_take : FuncData}{a_law_statement : Addr}{d_law_statement : FuncData}{a_law_number : Addr}{d_law_number : FuncData} (y_len : mg "len" = none) (y_range : mg "range" = none) (C_law_reel : CG P w K mg base 1 "_law_reel" a_law_reel d_law_reel ["cell"] 1 aO) (C_law_cell_at : CG P w K mg base 1 "_law_cell_at" a_law_cell_at d_law_cell_at ["script", "k"] 2 aQ) (C_law_take : CG P w K mg base 1 "_law_take" a_law_take d_law_take ["reel", "many"] 2 am) (C_law_statement : CG P w K mg base 10 "_law_statement" a_law_statement d_law_statement ["reel", "boxes"] 2 aZ) (C_law_number : CG P w K mg base 2 "_law_number" a_law_number d_law_number ["reel"] 1 cS) (F:Fun K "_law_filled" "_law_filled" bJ f fd) (B:Binds K fd ["script", "program"] []) (Mf : mg "_law_filled" = some (.ref f)) : CG P w K mg base 11 "_law_filled" f fd ["script", "program"] 2 du :=by
  refine ⟨bE (g := dY) F sc_law_filled rfl rfl rfl fun cdv A outer s H E hr => ?_,B,F.kp,Mf⟩
  have hu := bD hr
  have hu6 := hr.units
  exact (ah (oZ (ae 1) (lZ rfl (eJ (bm (i := 2) sc_law_filled.nd rfl (Or.inl rfl)) (eJ (bm (i := 3) sc_law_filled.nd rfl (Or.inl rfl)) j4))) (lU 10 [2,3] (by decide)))
    (ah (ay (i := 4) sc_law_filled.nd rfl (Or.inr rfl) (au (ps := ["cell"]) C_law_reel (hr.mono (by omega)) (ab (au (ps := ["script", "k"]) C_law_cell_at (hr.mono (by omega)) (ab (ae 0) (ab ag af aD) ai) (he := ai) (hpl := (aj aD ak))) af bc) (he := bc) (hpl := ak)))
    (ah (ay (i := 5) sc_law_filled.nd rfl (Or.inl rfl) (iZ (ae 0) (dJ ag) (dJ ag)))
    (ah (ay (i := 6) sc_law_filled.nd rfl (Or.inl rfl) (au (ps := ["reel", "many"]) C_law_take (hr.mono (by omega)) (ab (ae 4) (ab (aU (bC y_len (ab (ae 5) af ai) (he := ai) (hpl := ak)) ag) af cy) ai) (he := ai) (hpl := (aj cy ak))))
    (ah (dU PassesOwn.never rfl (ic (iZ (ae 5) hZ (dJ (ae 6)))) (bm (i := 7) sc_law_filled.nd rfl (Or.inl rfl)) (bH 10 7 (by decide)) (ah (ay (i := 8) sc_law_filled.nd rfl (Or.inl rfl) (au (ps := ["cell"]) C_law_reel (hr.mono (by omega)) (ab (ae 7) af ai) (he := ai) (hpl := ak)))
    (ah (ay (i := 9) sc_law_filled.nd rfl (Or.inl rfl) (aq hu (aq hu (ae 3) (au (ps := ["reel", "many"]) C_law_take (hr.mono (by omega)) (ab (ae 8) (ab (bC y_len (ab (ae 3) af ai) (he := ai) (hpl := ak)) af bc) ai) (he := ai) (hpl := (aj bc ak))) (fun _ _ => rfl)) ag (fun _ _ => rfl)))
    (ao (aJ (aC fT eC (bC y_len (ab (ae 9) af ai) (he := ai) (hpl := ak)) ag (aA _)) (ao (dI (nT (ae 9) (ab (au (ps := ["reel", "many"]) C_law_take (hr.mono (by omega)) (ab (ae 8) (ab (aU (bC y_len (ab (ae 9) af ai) (he := ai) (hpl := ak)) ag) af cy) ai) (he := ai) (hpl := (aj cy ak))) (ab (au (ps := ["reel", "boxes"]) C_law_statement (hr.mono (by omega)) (ab (ae 8) (ab (ae 2) af ai) ai) (he := ai) (hpl := (aj ai ak))) af bc) bc)))) aB)))))
    (ah (ay (i := 5) sc_law_filled.nd rfl (Or.inl rfl) (aU (iZ (ae 5) (dJ (ae 6)) hZ) (cF (ie rfl (ls := ["k", ".0"]) (.of (ap bJ)) (cu rfl y_range (ab (au (ps := ["reel", "many"]) C_law_take (hr.mono (by omega)) (ab (ae 4) (ab ag af aD) ai) (he := ai) (hpl := (aj aD ak))) af bc)) (fun _ _ _ _ => (bm (i := 0) hU rfl (Or.inl rfl) (.inr rfl))) (bH 2 0 (by decide)) (fun _ _ _ _ => fO) (fun _ _ _ _ => (au (ps := ["reel", "many"]) C_law_take (hr.mono (by omega)) (ab (ae 6) (ab (i7 ag ag) af cy) ai) (he := ai) (hpl := (aj cy ak)))) trivial))))
    (ao (az (cF (ie rfl (ls := ["cell", ".0"]) (.of (ap bJ)) (ic (ae 5)) (fun _ _ _ _ => (bm (i := 0) hJ rfl (Or.inl rfl) (.inr rfl))) (bH 2 0 (by decide)) (fun _ _ _ _ => fO) (fun _ _ _ _ => (au (ps := ["reel"]) C_law_number (hr.mono (by omega)) (ab (au (ps := ["cell"]) C_law_reel (hr.mono (by omega)) (ab (ae 0) af ai) (he := ai) (hpl := ak)) af bc) (he := bc) (hpl := ak))) trivial))))))))))
theorem sc_law_alike : FnScope ["found", "due", "k"] ["found", "due"] (ap dh) := ⟨rfl,rfl,rfl,by decide +kernel,rfl,by decide +kernel,by decide +kernel⟩
theorem gp  (y_bool : mg "bool" = none) (y_int : mg "int" = none) (y_isinstance : mg "isinstance" = none) (y_len : mg "len" = none) (y_list : mg "list" = none) (y_range : mg "range" = none) (y_str : mg "str" = none) (y_tuple : mg "tuple" = none) (F:Fun K "_law_alike" "_law_alike" dh f fd) (B:Binds K fd ["found", "due"] []) (Mf : mg "_law_alike" = some (.ref f)) : ∀ n : Nat,CG P w K mg base (1 + n) "_law_alike" f fd ["found", "due"] 2 (aF n)
  | 0 => ⟨kD fun _ _ => rfl,B,F.kp,Mf⟩
  | n + 1 => by
    have C_law_alike := gp y_bool y_int y_isinstance y_len y_list y_range y_str y_tuple F B Mf n
    refine ⟨bE (g := bA (aF n)) F sc_law_alike rfl rfl rfl fun cdv A outer s H E hr => ?_,B,F.kp,Mf⟩
    have hr : Room (1 + n) _ := hr
    have hu := bD hr
    have hu6 := hr.units
    exact (ah (aJ (aC md j5 (ae 1) gP (aA _)) (ao (az (de md j5 (ae 0) gP (aA _)))) aB)
      (ah (aJ (dS (eF y_isinstance (ab (ae 1) (ab (fU y_bool PyProof.Rows.boot_bool) af ai) ai) (he := ai) (hpl := (aj ai ak)))) (ao (az (gf (eF y_isinstance (ab (ae 0) (ab (fU y_bool PyProof.Rows.boot_bool) af ai) ai) (he := ai) (hpl := (aj ai ak))) (fZ (de aP (aG hu6) (ae 0) (ae 1) (aA _)))))) aB)
      (ah (aJ (dS (eF y_isinstance (ab (ae 1) (ab (fU y_int PyProof.Rows.boot_int) af ai) ai) (he := ai) (hpl := (aj ai ak)))) (ao (az (gf (eF y_isinstance (ab (ae 0) (ab (fU y_int PyProof.Rows.boot_int) af ai) ai) (he := ai) (hpl := (aj ai ak))) (gf (sO (eF y_isinstance (ab (ae 0) (ab (fU y_bool PyProof.Rows.boot_bool) af ai) ai) (he := ai) (hpl := (aj ai ak)))) (fZ (de aP (aG hu6) (ae 0) (ae 1) (aA _))))))) aB)
      (ah (aJ (dS (eF y_isinstance (ab (ae 1) (ab (fU y_str PyProof.Rows.boot_str) af ai) ai) (he := ai) (hpl := (aj ai ak)))) (ao (az (gf (eF y_isinstance (ab (ae 0) (ab (fU y_str PyProof.Rows.boot_str) af ai) ai) (he := ai) (hpl := (aj ai ak))) (fZ (de aP (aG hu6) (ae 0) (ae 1) (aA _)))))) aB)
      (ah (aJ (dS (eF y_isinstance (ab (ae 1) (ab (fU y_tuple PyProof.Rows.boot_tuple) af ai) ai) (he := ai) (hpl := (aj ai ak)))) (ao (aJ (iT (dS (eF y_isinstance (ab (ae 0) (ab (fU y_tuple PyProof.Rows.boot_tuple) af ai) ai) (he := ai) (hpl := (aj ai ak))))) (ao (az ja)) aB)) (ao (aJ (iT (dS (eF y_isinstance (ab (ae 0) (ab (fU y_list PyProof.Rows.boot_list) af ai) ai) (he := ai) (hpl := (aj ai ak))))) (ao (az ja)) aB)))
      (ah (aJ (aC kZ (iJ hu6) (bC y_len (ab (ae 0) af ai) (he := ai) (hpl := ak)) (bC y_len (ab (ae 1) af ai) (he := ai) (hpl := ak)) (aA _)) (ao (az ja)) aB)
      (ah (dU PassesOwn.never rfl (cu rfl y_range (ab (bC y_len (ab (ae 1) af ai) (he := ai) (hpl := ak)) af bc)) (bm (i := 2) sc_law_alike.nd rfl (Or.inl rfl)) (bH 3 2 (by decide)) (ao (aJ (iT (dS (au (ps := ["found", "due"]) C_law_alike (hr.mono (by omega)) (ab (aq hu (ae 0) (ae 2) (fun _ _ => rfl)) (ab (aq hu (ae 1) (ae 2) (fun _ _ => rfl)) af aT) aT) (he := aT) (hpl := (aj aT ak))))) (ao (az ja)) aB)))
      (ao (az ja)))))))))
theorem sc_law_order : FnScope ["reel", "many", "left", "order"] ["reel", "many"] (ap cz) := ⟨rfl,rfl,rfl,by decide +kernel,rfl,by decide +kernel,by decide +kernel⟩
theorem iS : ((["k", ".0"] : List Str) ++ (["reel", "many", "left", "order"] : List Str).map (hid ["k", ".0"])).Nodup :=by decide +kernel
theorem j8 {a_law_take : Addr}{d_law_take : FuncData} (y_len : mg "len" = none) (y_range : mg "range" = none) (y_tuple : mg "tuple" = none) (C_law_take : CG P w K mg base 1 "_law_take" a_law_take d_law_take ["reel", "many"] 2 am) (F:Fun K "_law_order" "_law_order" cz f fd) (B:Binds K fd ["reel", "many"] []) (Mf : mg "_law_order" = some (.ref f)) : CG P w K mg base 2 "_law_order" f fd ["reel", "many"] 2 dj :=by
  refine ⟨bE (g := eA) F sc_law_order rfl rfl rfl fun cdv A outer s H E hr => ?_,B,F.kp,Mf⟩
  have hu := bD hr
  have hu6 := hr.units
  exact (ah (jI (i := 2) sc_law_order.nd rfl rfl rfl (ls := ["k", ".0"]) (.of (ap cz)) (nS rfl y_range (ab ag (ab (ae 1) af ai) aD)) (fun _ _ _ _ => (bm (i := 0) iS rfl (Or.inl rfl) (.inr rfl))) (bH 2 0 (by decide)) (fun _ _ _ _ => fO) (fun _ _ _ _ => (ae 0)) trivial)
    (ah (ay (i := 3) sc_law_order.nd rfl (Or.inl rfl) (eU (bX (ab ag af aD))))
    (ah (iU 12 PassesOwn.never (aC kZ (iJ hu6) (ae 2) (cF (bX af)) (aA _)) (ao (dI (di (ae 3) (ab (lD (ae 2) (ab (au (ps := ["reel", "many"]) C_law_take (hr.mono (by omega)) (ab (ae 0) (ab (bC y_len (ab (ae 2) af ai) (he := ai) (hpl := ak)) af bc) ai) (he := ai) (hpl := (aj bc ak))) af bc)) af bc)))))
    (ao (az (iY y_tuple (ab (ae 3) af ai) (he := ai) (hpl := ak)))))))
theorem sc_law_next : FnScope ["order", "block", "k"] ["order", "block"] (ap dC) := ⟨rfl,rfl,rfl,by decide +kernel,rfl,by decide +kernel,by decide +kernel⟩
theorem lj  (y_len : mg "len" = none) (y_range : mg "range" = none) (F:Fun K "_law_next" "_law_next" dC f fd) (B:Binds K fd ["order", "block"] []) (Mf : mg "_law_next" = some (.ref f)) : CG P w K mg base 1 "_law_next" f fd ["order", "block"] 2 cK :=by
  refine ⟨bE (g := ff) F sc_law_next rfl rfl rfl fun cdv A outer s H E hr => ?_,B,F.kp,Mf⟩
  have hu := bD hr
  have hu6 := hr.units
  exact (ah (dU PassesOwn.never rfl (cu rfl y_range (ab (eE (bC y_len (ab (ae 0) af ai) (he := ai) (hpl := ak)) ag) af cy)) (bm (i := 2) sc_law_next.nd rfl (Or.inl rfl)) (bH 3 2 (by decide)) (ao (aJ (aC aP (aG hu6) (aq hu (ae 0) (ae 2) (fun _ _ => rfl)) (ae 1) (aA _)) (ao (az (aq hu (ae 0) (aU (ae 2) ag) (fun _ _ => rfl)))) aB)))
    (ao (az (i8 ag))))
theorem sc_law_tail : FnScope ["end", "after", "to"] ["end", "after"] (ap dA) := ⟨rfl,rfl,rfl,by decide +kernel,rfl,by decide +kernel,by decide +kernel⟩
theorem lh  (y_int : mg "int" = none) (y_len : mg "len" = none) (F:Fun K "_law_tail" "_law_tail" dA f fd) (B:Binds K fd ["end", "after"] []) (Mf : mg "_law_tail" = some (.ref f)) : CG P w K mg base 1 "_law_tail" f fd ["end", "after"] 2 cJ :=by
  refine ⟨bE (g := e8) F sc_law_tail rfl rfl rfl fun cdv A outer s H E hr => ?_,B,F.kp,Mf⟩
  have hu := bD hr
  have hu6 := hr.units
  exact (ah (aJ (jM (oX (aC aP (aG hu6) (aq hu (ae 0) ag (fun _ _ => rfl)) av (aA _)) (mm (jM (mn (aC aP (aG hu6) (aq hu (ae 0) ag (fun _ _ => rfl)) av (aA _)) (ke (aC aP (aG hu6) (aq hu (ae 0) ag (fun _ _ => rfl)) (aq hu (ae 0) ag (fun _ _ => rfl)) (aA _)))))))) (ah (ay (i := 2) sc_law_tail.nd rfl (Or.inl rfl) (aq hu (ae 0) (eE (bC y_len (ab (ae 0) af ai) (he := ai) (hpl := ak)) ag) (fun _ _ => rfl)))
    (ao (az (fG (cF (bX (ab (aL (ab av (ab (ae 2) af ai) aD)) af fE))) (mV y_int (ab (de kZ (iJ hu6) (ae 2) (ae 1) (aA _)) af p0) (he := p0) (hpl := ak)))))) aB)
    (ah (aJ (aC aP (aG hu6) (aq hu (ae 0) ag (fun _ _ => rfl)) av (aA _)) (ah (aJ (aC aP (aG hu6) (aq hu (ae 0) ag (fun _ _ => rfl)) (ae 1) (aA _)) (ao (az (cF (bX (ab (aU (aU (aL (ab av af aD)) (iZ (ae 0) (dJ ag) (dJ ag))) (aL (ab (aq hu (ae 0) ag (fun _ _ => rfl)) af aT))) af cy))))) aB)
    (ao (az (cF (o3 (cF (bX (ab (aU (aL (ab av af aD)) (iZ (ae 0) (dJ ag) (dJ ag))) af cy))) (fG (cF (bX (ab (aL (ab av (ab (aq hu (ae 0) ag (fun _ _ => rfl)) af aT) aD)) af fE))) (mV y_int (ab (de kZ (iJ hu6) (aq hu (ae 0) ag (fun _ _ => rfl)) (ae 1) (aA _)) af p0) (he := p0) (hpl := ak)))))))) aB)
    (ao (az (cF (bX (ab (ae 0) af ai)))))))
theorem sc_law_first_row : FnScope ["blocks", "order", "block", "rows", "at"] ["blocks", "order", "block"] (ap bG) := ⟨rfl,rfl,rfl,by decide +kernel,rfl,by decide +kernel,by decide +kernel⟩
theorem gN {a_law_tail : Addr}{d_law_tail : FuncData}{a_law_next : Addr}{d_law_next : FuncData} (y_len : mg "len" = none) (C_law_tail : CG P w K mg base 1 "_law_tail" a_law_tail d_law_tail ["end", "after"] 2 cJ) (C_law_next : CG P w K mg base 1 "_law_next" a_law_next d_law_next ["order", "block"] 2 cK) (F:Fun K "_law_first_row" "_law_first_row" bG f fd) (B:Binds K fd ["blocks", "order", "block"] []) (Mf : mg "_law_first_row" = some (.ref f)) : CG P w K mg base 2 "_law_first_row" f fd ["blocks", "order", "block"] 3 ba :=by
  refine ⟨bE (g := cZ) F sc_law_first_row rfl rfl rfl fun cdv A outer s H E hr => ?_,B,F.kp,Mf⟩
  have hu := bD hr
  have hu6 := hr.units
  exact (ah (ay (i := 3) sc_law_first_row.nd rfl (Or.inl rfl) ag)
    (ah (dU PassesOwn.never rfl (mr (ae 1)) (bm (i := 4) sc_law_first_row.nd rfl (Or.inl rfl)) (bH 5 4 (by decide)) (ah (aJ (aC aP (aG hu6) (ae 4) (ae 2) (aA _)) (ao (az (ae 3))) aB)
    (ao (ay (i := 3) sc_law_first_row.nd rfl (Or.inl rfl) (aU (aU (ae 3) (bC y_len (ab (aq hu (aq hu (ae 0) (ae 4) (fun _ _ => rfl)) ag (fun _ _ => rfl)) af aT) (he := aT) (hpl := ak))) (bC y_len (ab (au (ps := ["end", "after"]) C_law_tail (hr.mono (by omega)) (ab (aq hu (aq hu (ae 0) (ae 4) (fun _ _ => rfl)) ag (fun _ _ => rfl)) (ab (au (ps := ["order", "block"]) C_law_next (hr.mono (by omega)) (ab (ae 1) (ab (ae 4) af ai) ai) (he := ai) (hpl := (aj ai ak))) af bc) aT) (he := aT) (hpl := (aj bc ak))) af bc) (he := bc) (hpl := ak)))))))
    (ao (az (ae 3)))))
theorem sc_law_laid : FnScope ["blocks", "order", "found", "at", "row"] ["blocks", "order"] (ap db) := ⟨rfl,rfl,rfl,by decide +kernel,rfl,by decide +kernel,by decide +kernel⟩
theorem ju : ((["to", ".0"] : List Str) ++ (["blocks", "order", "found", "at", "row"] : List Str).map (hid ["to", ".0"])).Nodup :=by decide +kernel
theorem lr {a_law_tail : Addr}{d_law_tail : FuncData}{a_law_next : Addr}{d_law_next : FuncData}{a_law_first_row : Addr}{d_law_first_row : FuncData} (y_len : mg "len" = none) (y_tuple : mg "tuple" = none) (C_law_tail : CG P w K mg base 1 "_law_tail" a_law_tail d_law_tail ["end", "after"] 2 cJ) (C_law_next : CG P w K mg base 1 "_law_next" a_law_next d_law_next ["order", "block"] 2 cK) (C_law_first_row : CG P w K mg base 2 "_law_first_row" a_law_first_row d_law_first_row ["blocks", "order", "block"] 3 ba) (F:Fun K "_law_laid" "_law_laid" db f fd) (B:Binds K fd ["blocks", "order"] []) (Mf : mg "_law_laid" = some (.ref f)) : CG P w K mg base 3 "_law_laid" f fd ["blocks", "order"] 2 eg :=by
  refine ⟨bE (g := fj) F sc_law_laid rfl rfl rfl fun cdv A outer s H E hr => ?_,B,F.kp,Mf⟩
  have hu := bD hr
  have hu6 := hr.units
  exact (ah (ay (i := 2) sc_law_laid.nd rfl (Or.inl rfl) (eU (bX af)))
    (ah (dU PassesOwn.never rfl (mr (ae 1)) (bm (i := 3) sc_law_laid.nd rfl (Or.inl rfl)) (bH 5 3 (by decide)) (ao (dU PassesOwn.never rfl (ic (aU (aq hu (aq hu (ae 0) (ae 3) (fun _ _ => rfl)) ag (fun _ _ => rfl)) (au (ps := ["end", "after"]) C_law_tail (hr.mono (by omega)) (ab (aq hu (aq hu (ae 0) (ae 3) (fun _ _ => rfl)) ag (fun _ _ => rfl)) (ab (au (ps := ["order", "block"]) C_law_next (hr.mono (by omega)) (ab (ae 1) (ab (ae 3) af ai) ai) (he := ai) (hpl := (aj ai ak))) af bc) aT) (he := aT) (hpl := (aj bc ak))))) (bm (i := 4) sc_law_laid.nd rfl (Or.inl rfl)) (bH 5 4 (by decide)) (ah (aJ (aC (mS hu) j6 (aq hu (ae 4) ag (fun _ _ => rfl)) (aL (ab av (ab av (ab av af aD) aD) aD)) (by with_unfolding_all rfl)) (ao (ay (i := 4) sc_law_laid.nd rfl (Or.inl rfl) (aU (iZ (ae 4) hZ (dJ (eE (bC y_len (ab (ae 4) af ai) (he := ai) (hpl := ak)) ag))) (aL (ab (au (ps := ["blocks", "order", "block"]) C_law_first_row (hr.mono (by omega)) (ab (ae 0) (ab (ae 1) (ab (aq hu (ae 4) (eE (bC y_len (ab (ae 4) af ai) (he := ai) (hpl := ak)) ag) (fun _ _ => rfl)) af aT) ai) ai) (he := ai) (hpl := (aj ai (aj aT ak)))) af bc))))) aB)
    (ah (aJ (aC aP (aG hu6) (aq hu (ae 4) ag (fun _ _ => rfl)) av (aA _)) (ao (ay (i := 4) sc_law_laid.nd rfl (Or.inl rfl) (aL (ab av (ab (aq hu (ae 4) ag (fun _ _ => rfl)) (ab (iY y_tuple (ab (cF (ie rfl (ls := ["to", ".0"]) (.of (ap db)) (mr (aq hu (ae 4) ag (fun _ _ => rfl))) (fun _ _ _ _ => (bm (i := 0) ju rfl (Or.inl rfl) (.inr rfl))) (bH 2 0 (by decide)) (fun _ _ _ _ => fO) (fun _ _ _ _ => (au (ps := ["blocks", "order", "block"]) C_law_first_row (hr.mono (by omega)) (ab (ae 2) (ab (ae 3) (ab (ae 0) af ai) ai) ai) (he := ai) (hpl := (aj ai (aj ai ak))))) trivial)) af p5) (he := p5) (hpl := ak)) af bc) aT) aD)))) aB)
    (ao (dI (di (ae 2) (ab (ae 4) af ai)))))))))
    (ao (az (gc (ae 2))))))
theorem sc_law_led : FnScope ["row", "values", "one", "other", "so"] ["row", "values"] (ap d4) := ⟨rfl,rfl,rfl,by decide +kernel,rfl,by decide +kernel,by decide +kernel⟩
theorem mh {a_law_worth : Addr}{d_law_worth : FuncData} (y_len : mg "len" = none) (C_law_worth : CG P w K mg base 7 "_law_worth" a_law_worth d_law_worth ["e", "values"] 2 (aR 6)) (F:Fun K "_law_led" "_law_led" d4 f fd) (B:Binds K fd ["row", "values"] []) (Mf : mg "_law_led" = some (.ref f)) : CG P w K mg base 8 "_law_led" f fd ["row", "values"] 2 dm :=by
  refine ⟨bE (g := dG) F sc_law_led rfl rfl rfl fun cdv A outer s H E hr => ?_,B,F.kp,Mf⟩
  have hu := bD hr
  have hu6 := hr.units
  exact (ah (aJ (aC aP (aG hu6) (aq hu (ae 0) ag (fun _ _ => rfl)) av (aA _)) (ao (az (aq hu (ae 0) ag (fun _ _ => rfl)))) aB)
    (ah (aJ (aC aP (aG hu6) (aq hu (ae 0) ag (fun _ _ => rfl)) av (aA _)) (ao (az (aq hu (aq hu (ae 0) ag (fun _ _ => rfl)) (dc (au (ps := ["e", "values"]) C_law_worth (hr.mono (by omega)) (ab (aq hu (ae 0) ag (fun _ _ => rfl)) (ab (ae 1) af ai) aT) (he := aT) (hpl := (aj ai ak))) (bC y_len (ab (aq hu (ae 0) ag (fun _ _ => rfl)) af aT) (he := aT) (hpl := ak))) (fun _ _ => rfl)))) aB)
    (ah (ay (i := 2) sc_law_led.nd rfl (Or.inl rfl) (au (ps := ["e", "values"]) C_law_worth (hr.mono (by omega)) (ab (aq hu (ae 0) ag (fun _ _ => rfl)) (ab (ae 1) af ai) aT) (he := aT) (hpl := (aj ai ak))))
    (ah (ay (i := 3) sc_law_led.nd rfl (Or.inl rfl) (au (ps := ["e", "values"]) C_law_worth (hr.mono (by omega)) (ab (aq hu (ae 0) ag (fun _ _ => rfl)) (ab (ae 1) af ai) aT) (he := aT) (hpl := (aj ai ak))))
    (ah (ay (i := 4) sc_law_led.nd rfl (Or.inl rfl) (uu (gf (de aP (aG hu6) (aq hu (ae 0) ag (fun _ _ => rfl)) av (aA _)) (fZ (de fT eC (ae 2) (ae 3) (aA _)))) (fZ (gf (de aP (aG hu6) (aq hu (ae 0) ag (fun _ _ => rfl)) av (aA _)) (fZ (de aP (aG hu6) (ae 2) (ae 3) (aA _)))))))
    (ah (aJ (aC aP (aG hu6) (ae 4) (de aP (aG hu6) (aq hu (ae 0) ag (fun _ _ => rfl)) av (aA _)) (aA _)) (ao (az (aq hu (ae 0) ag (fun _ _ => rfl)))) aB)
    (ao (az (i8 ag)))))))))
theorem sc_law_ran : FnScope ["boxes", "rows", "numbers", "bound", "values", "name", "first", "said", "left", "at", "jumps", "k", "row"] ["boxes", "rows", "numbers", "bound"] (ap dZ) := ⟨rfl,rfl,rfl,by decide +kernel,rfl,by decide +kernel,by decide +kernel⟩
theorem mf {a_law_worth : Addr}{d_law_worth : FuncData}{a_law_led : Addr}{d_law_led : FuncData} (y_list : mg "list" = none) (y_range : mg "range" = none) (C_law_worth : CG P w K mg base 7 "_law_worth" a_law_worth d_law_worth ["e", "values"] 2 (aR 6)) (C_law_led : CG P w K mg base 8 "_law_led" a_law_led d_law_led ["row", "values"] 2 dm) (F:Fun K "_law_ran" "_law_ran" dZ f fd) (B:Binds K fd ["boxes", "rows", "numbers", "bound"] []) (Mf : mg "_law_ran" = some (.ref f)) : CG P w K mg base 9 "_law_ran" f fd ["boxes", "rows", "numbers", "bound"] 4 eM :=by
  refine ⟨bE (g := fQ) F sc_law_ran rfl rfl rfl fun cdv A outer s H E hr => ?_,B,F.kp,Mf⟩
  have hu := bD hr
  have hu6 := hr.units
  exact (ah (ay (i := 4) sc_law_ran.nd rfl (Or.inl rfl) qI)
    (ah (dU PassesOwn.never rfl (ic (ae 0)) (lZ rfl (eJ (bm (i := 5) sc_law_ran.nd rfl (Or.inl rfl)) (eJ (bm (i := 6) sc_law_ran.nd rfl (Or.inl rfl)) j4))) (lU 13 [5,6] (by decide)) (ao (d8 hu (ae 4) (ae 5) (ae 6))))
    (ah (ay (i := 7) sc_law_ran.nd rfl (Or.inl rfl) (eU (bX af)))
    (ah (ay (i := 8) sc_law_ran.nd rfl (Or.inl rfl) (eU (gu y_list (ab (ae 2) af ai) (he := ai) (hpl := ak))))
    (ah (ay (i := 9) sc_law_ran.nd rfl (Or.inl rfl) ag)
    (ah (ay (i := 10) sc_law_ran.nd rfl (Or.inl rfl) ag)
    (ah (dU PassesOwn.never rfl (cu rfl y_range (ab (ae 3) af ai)) (bm (i := 11) sc_law_ran.nd rfl (Or.inl rfl)) (bH 13 11 (by decide)) (ah (ay (i := 12) sc_law_ran.nd rfl (Or.inl rfl) (aq hu (ae 1) (ae 9) (fun _ _ => rfl)))
    (ah (ay (i := 9) sc_law_ran.nd rfl (Or.inl rfl) (aU (ae 9) ag))
    (ah (aJ (aC aP (aG hu6) (aq hu (ae 12) ag (fun _ _ => rfl)) av (aA _)) (ao (az (aL (ab (gc (ae 7)) (ab (aL (ab av af aD)) (ab (ae 10) af ai) fE) ai)))) aB)
    (ah (aJ (jM (mn (aC aP (aG hu6) (aq hu (ae 12) ag (fun _ _ => rfl)) av (aA _)) (ke (aC aP (aG hu6) (ae 8) (cF (bX af)) (aA _))))) (ao (az (aL (ab (gc (ae 7)) (ab (aL (ab av af aD)) (ab (ae 10) af ai) fE) ai)))) aB)
    (ao (aJ (aC aP (aG hu6) (aq hu (ae 12) ag (fun _ _ => rfl)) av (aA _)) (ao (dI (di (ae 7) (ab (au (ps := ["e", "values"]) C_law_worth (hr.mono (by omega)) (ab (aq hu (ae 12) ag (fun _ _ => rfl)) (ab (ae 4) af ai) aT) (he := aT) (hpl := (aj ai ak))) af bc)))) (ao (aJ (aC aP (aG hu6) (aq hu (ae 12) ag (fun _ _ => rfl)) av (aA _)) (ao (d8 hu (ae 4) (aq hu (ae 12) ag (fun _ _ => rfl)) (dc (au (ps := ["e", "values"]) C_law_worth (hr.mono (by omega)) (ab (aq hu (ae 12) ag (fun _ _ => rfl)) (ab (ae 4) af ai) aT) (he := aT) (hpl := (aj ai ak))) ag))) (ao (aJ (aC aP (aG hu6) (aq hu (ae 12) ag (fun _ _ => rfl)) av (aA _)) (ao (d8 hu (ae 4) (aq hu (ae 12) ag (fun _ _ => rfl)) (dc (lD (ae 8) (ab ag af aD)) ag))) (ao (aJ (aC rm oR (au (ps := ["row", "values"]) C_law_led (hr.mono (by omega)) (ab (ae 12) (ab (ae 4) af ai) ai) (he := ai) (hpl := (aj ai ak))) ag (aA _)) (ah (ay (i := 9) sc_law_ran.nd rfl (Or.inl rfl) (au (ps := ["row", "values"]) C_law_led (hr.mono (by omega)) (ab (ae 12) (ab (ae 4) af ai) ai) (he := ai) (hpl := (aj ai ak))))
    (ao (ay (i := 10) sc_law_ran.nd rfl (Or.inl rfl) (aU (ae 10) ag)))) aB)))))))))))))
    (ao (az (aL (ab (gc (ae 7)) (ab (aL (ab av af aD)) (ab (ae 10) af ai) fE) ai)))))))))))
theorem sc_law : FnScope ["script", "boxes", "blocks", "numbers", "reel", "rows", "bound", "due", "handed", "found"] ["script"] (ap gi) := ⟨rfl,rfl,rfl,by decide +kernel,rfl,by decide +kernel,by decide +kernel⟩
theorem sI {a_law_program : Addr}{d_law_program : FuncData}{a_law_filled : Addr}{d_law_filled : FuncData}{a_law_reel : Addr}{d_law_reel : FuncData}{a_law_cell_at : Addr}{d_law_cell_at : FuncData}{a_law_laid : Addr}{d_law_laid : FuncData}{a_law_order : Addr}{d_law_order : FuncData}{a_law_take : Addr}{d_law_take : FuncData}{a_law_ran : Addr}{d_law_ran : FuncData}{a_run_rows : Addr}{d_run_rows : FuncData}{a_law_alike : Addr}{d_law_alike : FuncData} (y_len : mg "len" = none) (y_list : mg "list" = none) (C_law_program : CG P w K mg base 12 "_law_program" a_law_program d_law_program ["script"] 1 cX) (C_law_filled : CG P w K mg base 11 "_law_filled" a_law_filled d_law_filled ["script", "program"] 2 du) (C_law_reel : CG P w K mg base 1 "_law_reel" a_law_reel d_law_reel ["cell"] 1 aO) (C_law_cell_at : CG P w K mg base 1 "_law_cell_at" a_law_cell_at d_law_cell_at ["script", "k"] 2 aQ) (C_law_laid : CG P w K mg base 3 "_law_laid" a_law_laid d_law_laid ["blocks", "order"] 2 eg) (C_law_order : CG P w K mg base 2 "_law_order" a_law_order d_law_order ["reel", "many"] 2 dj) (C_law_take : CG P w K mg base 1 "_law_take" a_law_take d_law_take ["reel", "many"] 2 am) (C_law_ran : CG P w K mg base 9 "_law_ran" a_law_ran d_law_ran ["boxes", "rows", "numbers", "bound"] 4 eM) (C_run_rows : CG P w K mg base 10 "run_rows" a_run_rows d_run_rows ["boxes", "rows", "numbers", "bound"] 4 dH) (C_law_alike : CG P w K mg base 17 "_law_alike" a_law_alike d_law_alike ["found", "due"] 2 (aF 16)) (F:Fun K "law" "law" gi f fd) (B:Binds K fd ["script"] []) (Mf : mg "law" = some (.ref f)) : CG P w K mg base 18 "law" f fd ["script"] 1 jQ :=by
  refine ⟨bE (g := m4) F sc_law rfl rfl rfl fun cdv A outer s H E hr => ?_,B,F.kp,Mf⟩
  have hu := bD hr
  have hu6 := hr.units
  exact (ah (oZ (au (ps := ["script"]) C_law_program (hr.mono (by omega)) (ab (ae 0) af ai) (he := ai) (hpl := ak)) (lZ rfl (eJ (bm (i := 1) sc_law.nd rfl (Or.inl rfl)) (eJ (bm (i := 2) sc_law.nd rfl (Or.inl rfl)) j4))) (lU 10 [1,2] (by decide)))
    (ah (ay (i := 3) sc_law.nd rfl (Or.inl rfl) (au (ps := ["script", "program"]) C_law_filled (hr.mono (by omega)) (ab (ae 0) (ab (aL (ab (ae 1) (ab (ae 2) af ai) ai)) af fE) ai) (he := ai) (hpl := (aj fE ak))))
    (ah (ay (i := 4) sc_law.nd rfl (Or.inl rfl) (au (ps := ["cell"]) C_law_reel (hr.mono (by omega)) (ab (aU (km (au (ps := ["script", "k"]) C_law_cell_at (hr.mono (by omega)) (ab (ae 0) (ab ag af aD) ai) (he := ai) (hpl := (aj aD ak))) ag) ag) af cy) (he := cy) (hpl := ak)))
    (ah (ay (i := 5) sc_law.nd rfl (Or.inl rfl) (au (ps := ["blocks", "order"]) C_law_laid (hr.mono (by omega)) (ab (ae 2) (ab (au (ps := ["reel", "many"]) C_law_order (hr.mono (by omega)) (ab (ae 4) (ab (bC y_len (ab (ae 2) af ai) (he := ai) (hpl := ak)) af bc) ai) (he := ai) (hpl := (aj bc ak))) af bc) ai) (he := ai) (hpl := (aj bc ak))))
    (ah (ay (i := 6) sc_law.nd rfl (Or.inl rfl) (aU ag (au (ps := ["reel", "many"]) C_law_take (hr.mono (by omega)) (ab (ae 4) (ab ag af aD) ai) (he := ai) (hpl := (aj aD ak)))))
    (ah (ay (i := 7) sc_law.nd rfl (Or.inl rfl) (au (ps := ["boxes", "rows", "numbers", "bound"]) C_law_ran (hr.mono (by omega)) (ab (ae 1) (ab (ae 5) (ab (ae 3) (ab (ae 6) af ai) ai) ai) ai) (he := ai) (hpl := (aj ai (aj ai (aj ai ak))))))
    (ah (ay (i := 8) sc_law.nd rfl (Or.inl rfl) (aL (ab (cF (gu y_list (ab (ae 1) af ai) (he := ai) (hpl := ak))) (ab (cF (gu y_list (ab (ae 5) af ai) (he := ai) (hpl := ak))) (ab (cF (gu y_list (ab (ae 3) af ai) (he := ai) (hpl := ak))) af bc) bc) bc)))
    (ah (ay (i := 9) sc_law.nd rfl (Or.inl rfl) (au (ps := ["boxes", "rows", "numbers", "bound"]) C_run_rows (hr.mono (by omega)) (ab (aq hu (ae 8) ag (fun _ _ => rfl)) (ab (aq hu (ae 8) ag (fun _ _ => rfl)) (ab (aq hu (ae 8) ag (fun _ _ => rfl)) (ab (ae 6) af ai) aT) aT) aT) (he := aT) (hpl := (aj aT (aj aT (aj ai ak))))))
    (ah (aJ (iT (dS (au (ps := ["found", "due"]) C_law_alike (hr.mono (by omega)) (ab (ae 9) (ab (ae 7) af ai) ai) (he := ai) (hpl := (aj ai ak))))) (ao (az ja)) aB)
    (ah (dI (di (aq hu (ae 9) ag (fun _ _ => rfl)) (ab ag af aD)))
    (ah (aJ (iT (dS (au (ps := ["found", "due"]) C_law_alike (hr.mono (by omega)) (ab (au (ps := ["boxes", "rows", "numbers", "bound"]) C_run_rows (hr.mono (by omega)) (ab (aq hu (ae 8) ag (fun _ _ => rfl)) (ab (aq hu (ae 8) ag (fun _ _ => rfl)) (ab (aq hu (ae 8) ag (fun _ _ => rfl)) (ab (ae 6) af ai) aT) aT) aT) (he := aT) (hpl := (aj aT (aj aT (aj ai ak))))) (ab (ae 7) af ai) bc) (he := bc) (hpl := (aj ai ak))))) (ao (az ja)) aB)
    (ao (az (au (ps := ["found", "due"]) C_law_alike (hr.mono (by omega)) (ab (ae 8) (ab (aL (ab (ae 1) (ab (ae 5) (ab (ae 3) af ai) ai) ai)) af fE) ai) (he := ai) (hpl := (aj fE ak))))))))))))))))
end
end Q
set_option maxHeartbeats 1000000
namespace Q
open PySem L2
local macro_rules | `(tactic| simp! only [$xs,*]) => `(tactic| try simp only [finF,bK,cN,cM,cP,cO,cA,dQ,dR,sFor,mMet,aN,sAug,sAugW,sFldW,tupW,sRet,sSet,sNil,sEx,sPass,cB,sCont,sUnp,bn,mB,L2.m2,L2.m1,L2.m3,mVar,mC,mCall,mCons,mNil,mTup,mTl,mNew,lenG,listL,mPart,aW,mAnd,mOr,mNot,mAndV,mOrV,mNotV,mIf,cH,mMeth,isS,mSrc,mSrcA,srcL,srcT,srcS,tgN,tgT,setW,mYes,bt,bd_no,asB_bl,addW_int,subW_int,ltW_int,leW_int,gtW_int,geW_int,eqW_int,eqW_str,neW_int,neW_str,neW_bl,slW_tl,slW_cl,lenW_tl,lenW_tup,negW,List.set_cons_zero,List.set_cons_succ,List.getElem?_cons_zero,List.getElem?_cons_succ,List.length_cons,List.length_nil,arW,if_true,if_false,Bool.false_eq_true,ite_true,ite_false,reduceIte,decide_true,decide_false,Bool.not_true,Bool.not_false,dP,gdn0,gdn1,gdn2,gdn3,gdn4,gdn5,gdn6,gdn7,gdn8,gdn9,gdn10,gdn11,gdn12,gdn13,gdn14,gdn15,gdn16,gdn17,gdn18,gdn19,gdn20,gdn21,gdn22,gdn23,gdn24,$xs,*])
noncomputable def Reel (h:List Ob) (j:Nat) : Prop := ∃ a b : Int,h[j]? = some (.lst [.int a,.int b])
structure Kp (j:Nat) (h h' : List Ob) : Prop where
  fr : Fr j h h'
  re : Reel h' j
theorem Kp.trans {j:Nat}{a b c : List Ob} (x:Kp j a b) (y:Kp j b c) : Kp j a c := ⟨x.fr.trans y.fr,y.re⟩
theorem Kp.refl {j:Nat}{h:List Ob} (R:Reel h j) : Kp j h h := ⟨Fr.refl _ _,R⟩
theorem cp10 : CPow 10 18 := ⟨by decide,by decide,by decide⟩
theorem jY {h:List Ob}{j:Nat}{m:Int} (R:Reel h j) (hm : 0 < m) (hz : m < 2 ^ 200) : Ok (am [.loc j,.int m]) h fun w h' => ∃ v : Int,w = .int v ∧ 0 ≤ v ∧ v < m ∧ Kp j h h' :=by
  obtain ⟨a,b,e⟩ := R
  have e0 : am [.loc j,.int m] = bd (eZ [some (.loc j),some (.int m),none,none]) finF := rfl
  rw [e0]
  unfold eZ
  try simp! only [aa,iE cp10]
  refine iP e (w := .int a) rfl ?_
  by_cases hc : 10 ^ (18 : Int).toNat ≤ a
  · try simp! only [aa,decide_eq_true hc]
    refine iP e (w := .int a) rfl ?_
    try simp! only [aa,bM hm]
    refine iP e (w := .int a) rfl ?_
    try simp! only [aa,gW hm hz]
    refine rn e (i := 0) rfl ?_
    try simp! only [aa]
    exact ar ⟨a % m,rfl,Int.emod_nonneg _ (by omega),Int.emod_lt_of_pos _ hm,Fr.set,_,_,bo e⟩
  · try simp! only [aa,decide_eq_false hc]
    refine iP e (w := .int b) rfl ?_
    try simp! only [aa,eK (mo (i := b) (j := 48271) (by decide) (by decide)),bM (show (0 : Int) < 2147483647 by decide)]
    generalize hx : (b * 48271 + 11) % 2147483647 = x
    have b0 : 0 ≤ x :=by rw [← hx]; exact Int.emod_nonneg _ (by decide)
    have b1 : x < 2147483647 :=by rw [← hx]; exact Int.emod_lt_of_pos _ (by decide)
    refine rn e (i := 1) rfl ?_
    have e' : (h.set j (.lst ([.int a,.int b].set 1 (.int x))))[j]? = some (.lst [.int a,.int x]) := bo e
    try simp! only [aa]
    refine iP e' (w := .int x) rfl ?_
    try simp! only [aa]
    refine iP e' (w := .int x) rfl ?_
    try simp! only [aa,eK (sM (i := x) (j := x) (by omega) (by omega)),bM (show (0 : Int) < 2147483629 by decide),eK (mo (i := x * x % 2147483629) (j := 69621) (by decide) (by decide)),bM (show (0 : Int) < 2147483587 by decide),gW (show (0 : Int) < 8 by decide) (by decide),bM hm]
    exact ar ⟨_,rfl,Int.emod_nonneg _ (by omega),Int.emod_lt_of_pos _ hm,Fr.set,_,_,e'⟩
section
variable {β : Type}{h:List Ob}{k:W → M β}{Q:β → List Ob → Prop}{j:Nat}{m:Int}
theorem aH (R:Reel h j) (hm : 0 < m) (hz : m < 2 ^ 200) (q:∀ v h',0 ≤ v → v < m → Kp j h h' → Ok (k (.int v)) h' Q) : Ok (bd (am [.loc j,.int m]) k) h Q :=
  aM (jY R hm hz) fun w h' ⟨v,e,a,b,K⟩ => by subst e; exact q v h' a b K
theorem pT (i:Int) : absW [.int i] = pr (.int (if i < 0 then -i else i)) := rfl
theorem gg {c:Int} (q:∀ a b : Int,Ok (k (.loc h.length)) (h ++ [.lst [.int a,.int b]]) Q) : Ok (bd (aO [.int c]) k) h Q :=by
  have e0 : aO [.int c] = bd (fe [some (.int c)]) finF := rfl
  rw [e0]
  unfold fe
  try simp! only [aa,pT,bM (show (0 : Int) < 2147483647 by decide),eK (mo (i := c % 2147483647 + 1) (j := 742938285) (by decide) (by decide))]
  refine d7 ?_
  try simp! only [aa]
  exact q _ _
end
theorem tj {l:List W}{i:Int}{w:W} (h:atI l i = some w) : ixW (.cl l) (.int i) = pr w :=by
  funext hh
  unfold ixW
  have : ixO (.cl l) (.int i) hh = some w := h
  rw [this]; rfl
theorem mW (l:List W) : lenW [.cl l] = pr (.int l.length) := rfl
theorem ik (ns : List Int) (i:Int) (h0 : 0 ≤ i) : ∃ c : Int,aQ [.cl (ns.map W.int),.int i] = pr (.int c) :=by
  have e0 : aQ [.cl (ns.map W.int),.int i] = bd (dN [some (.cl (ns.map W.int)),some (.int i)]) finF := rfl
  rw [e0]
  unfold dN
  by_cases hc : i < ((ns.map W.int).length : Int)
  · have q := iW W.int ns 0 h0 (by rw [List.length_map] at hc; exact hc)
    refine ⟨ns.getD i.toNat 0,?_⟩
    try simp! only [aa,mW,decide_eq_true hc,tj q]
  · refine ⟨0,?_⟩
    try simp! only [aa,mW,decide_eq_false hc]
noncomputable def Pd : Nat → W → Prop
  | 0,_ => False
  | n + 1,w => (∃ i,w = .int i) ∨ (∃ z,w = .str z) ∨ ∃ l,(w = .tup l ∨ w = .tl l) ∧ l.length ≤ 1000 ∧ ∀ x ∈ l,Pd n x
noncomputable def Al (h:List Ob) : Nat → W → W → Prop
  | 0,_,_ => False
  | n + 1,x,y => (∃ i,x = .int i ∧ y = .int i) ∨ (∃ z,x = .str z ∧ y = .str z) ∨ ∃ l m : List W,((x = .tup l ∧ y = .tup m) ∨ (Lw h x l ∧ Lw h y m)) ∧ l.length = m.length ∧ m.length ≤ 1000 ∧ ∀ (i:Nat) (a b : W),l[i]? = some a → m[i]? = some b → Al h n a b
theorem Pd.mono : ∀ {n:Nat}{w:W},Pd n w → Pd (n + 1) w
  | n + 1,w,p => by
    rcases p with p | p | ⟨l,e,z,p⟩
    · exact .inl p
    · exact .inr (.inl p)
    · exact .inr (.inr ⟨l,e,z,fun x hx => (p x hx).mono⟩)
theorem Pd.up {n m : Nat}{w:W} (p:Pd n w) (h:n ≤ m) : Pd m w :=by
  induction m with
  | zero =>
    have : n = 0 :=by omega
    subst this; exact p
  | succ m ih =>
    by_cases e : n = m + 1
    · subst e; exact p
    · exact (ih (by omega)).mono
theorem Pd.al {h:List Ob} : ∀ {n:Nat}{w:W},Pd n w → Al h n w w
  | n + 1,w,p => by
    rcases p with ⟨i,e⟩ | ⟨z,e⟩ | ⟨l,e,z,p⟩
    · exact .inl ⟨i,e,e⟩
    · exact .inr (.inl ⟨z,e,e⟩)
    · refine .inr (.inr ⟨l,l,e.imp (fun e => ⟨e,e⟩) (fun e => ⟨.inl e,.inl e⟩),rfl,z,fun i a b ha hb => ?_⟩)
      rw [ha] at hb
      cases hb
      exact (p a (List.mem_of_getElem? ha)).al
theorem Pd.int {n:Nat}{i:Int} : Pd (n + 1) (.int i) := .inl ⟨i,rfl⟩
theorem Pd.str {n:Nat}{i:Str} : Pd (n + 1) (.str i) := .inr (.inl ⟨i,rfl⟩)
theorem Pd.tup {n:Nat}{l:List W} (z:l.length ≤ 1000) (p:∀ x ∈ l,Pd n x) : Pd (n + 1) (.tup l) := .inr (.inr ⟨l,.inl rfl,z,p⟩)
theorem Pd.lst {n:Nat}{l:List W} (z:l.length ≤ 1000) (p:∀ x ∈ l,Pd n x) : Pd (n + 1) (.tl l) := .inr (.inr ⟨l,.inr rfl,z,p⟩)
theorem tW {n:Nat}{h:List Ob}{i:Int} : Ok (aF (n + 1) [.int i,.int i]) h fun w h' => w = .bl true ∧ h' = h :=by
  have e0 : aF (n + 1) [.int i,.int i] = bd (bA (aF n) [some (.int i),some (.int i),none]) finF := rfl
  rw [e0]
  unfold bA
  try simp! only [aa,isNW,isNon,mY (c := "bool") (b := false) (by decide) (by decide),mY (c := "int") (b := true) (by decide) (by decide),eq_self,decide_true]
  exact ar ⟨rfl,rfl⟩
theorem tU {n:Nat}{h:List Ob}{z:Str} : Ok (aF (n + 1) [.str z,.str z]) h fun w h' => w = .bl true ∧ h' = h :=by
  have e0 : aF (n + 1) [.str z,.str z] = bd (bA (aF n) [some (.str z),some (.str z),none]) finF := rfl
  rw [e0]
  unfold bA
  try simp! only [aa,isNW,isNon,ky (c := "bool") (b := false) (by decide) (by decide),ky (c := "int") (b := false) (by decide) (by decide),ky (c := "str") (b := true) (by decide) (by decide),eq_self,decide_true]
  exact ar ⟨rfl,rfl⟩
noncomputable def Tw (x:W) (l:List W) : Prop := x = .tup l
section
variable {β : Type}{h:List Ob}{Q:β → List Ob → Prop}{x w : W}{l:List W}{k:W → M β}
theorem Tw.isi {c:String}{b:Bool} (p:Tw x l) (hc : c ∈ tys) (hb : isT "tuple" c = b) (q:Ok (k (.bl b)) h Q) : Ok (bd (isiW [x,.ty c]) k) h Q :=by
  unfold Tw at p; subst p
  rw [qQ hc hb,bd_pr]; exact q
theorem Tw.len (p:Tw x l) (q:Ok (k (.int l.length)) h Q) : Ok (bd (lenW [x]) k) h Q :=by
  unfold Tw at p; subst p
  exact bp (a := .int l.length) (h' := h) rfl q
theorem Tw.ix {i:Int} (p:Tw x l) (e2 : atI l i = some w) (q:Ok (k w) h Q) : Ok (bd (ixW x (.int i)) k) h Q :=by
  unfold Tw at p; subst p
  rw [ck e2,bd_pr]; exact q
end
theorem tQ {n:Nat}{h:List Ob}{x y : W}{l m : List W} (ih : ∀ {h:List Ob}{x y : W},Al h n x y → Ok (aF n [x,y]) h fun w h' => w = .bl true ∧ h' = h) (X:Tw x l) (Y:Tw y m) (el : l.length = m.length) (ez : m.length ≤ 1000) (A:∀ (i:Nat) (a b : W),l[i]? = some a → m[i]? = some b → Al h n a b) : Ok (aF (n + 1) [x,y]) h fun w h' => w = .bl true ∧ h' = h :=by
  have e0 : aF (n + 1) [x,y] = bd (bA (aF n) [some x,some y,none]) finF := rfl
  rw [e0]
  unfold bA
  have nx : isNon x = false :=by rw [X]; rfl
  have ny : isNon y = false :=by rw [Y]; rfl
  try simp! only [sFor,aa,isNW,nx,ny]
  refine Y.isi (b := false) (by decide) (by decide) ?_
  try simp! only [aa]
  refine Y.isi (b := false) (by decide) (by decide) ?_
  try simp! only [aa]
  refine Y.isi (b := false) (by decide) (by decide) ?_
  try simp! only [aa]
  refine Y.isi (b := true) (by decide) (by decide) ?_
  try simp! only [aa]
  refine X.isi (b := true) (by decide) (by decide) ?_
  try simp! only [aa]
  refine X.len ?_
  try simp! only [aa]
  refine Y.len ?_
  try simp! only [aa,el,eq_self,decide_true]
  refine Y.len ?_
  try simp! only [aa,cC (i := (m.length : Int)) (by omega) (by omega)]
  refine eS (I := fun _ ρ h' => (∃ a,ρ = [some x,some y,a]) ∧ h' = h) ⟨⟨_,rfl⟩,rfl⟩ (fun _ _ _ _ => trivial) (fun i w ρ h' hw I => ?_) fun ρ h' I => ?_
  · obtain ⟨⟨a,rfl⟩,rfl⟩ := I
    obtain ⟨rfl,hi⟩ := cI _ _ _ _ hw
    have hm : i < m.length :=by simpa using hi
    obtain ⟨b,eb⟩ : ∃ b,m[i]? = some b := ⟨_,List.getElem?_eq_getElem hm⟩
    obtain ⟨a,ea⟩ : ∃ a,l[i]? = some a := ⟨_,List.getElem?_eq_getElem (by omega)⟩
    have z : (0 : Int) + (i:Int) = (i:Int) :=by omega
    refine ⟨_,rfl,?_⟩
    rw [z]
    try simp! only [aa]
    refine X.ix (da ea) ?_
    try simp! only [aa]
    refine Y.ix (da eb) ?_
    try simp! only [aa]
    refine aM (ih (A i a b ea eb)) fun w h2 qq_ => ?_
    obtain ⟨e1,e2⟩ := qq_
    subst e1 e2
    try simp! only [aa]
    exact ar ⟨_,rfl,⟨_,rfl⟩,rfl⟩
  · obtain ⟨⟨a,rfl⟩,rfl⟩ := I
    try simp! only [aa]
    exact ar ⟨rfl,rfl⟩
theorem tV {n:Nat}{h:List Ob}{x y : W}{l m : List W} (ih : ∀ {h:List Ob}{x y : W},Al h n x y → Ok (aF n [x,y]) h fun w h' => w = .bl true ∧ h' = h) (X:Lw h x l) (Y:Lw h y m) (el : l.length = m.length) (ez : m.length ≤ 1000) (A:∀ (i:Nat) (a b : W),l[i]? = some a → m[i]? = some b → Al h n a b) : Ok (aF (n + 1) [x,y]) h fun w h' => w = .bl true ∧ h' = h :=by
  have e0 : aF (n + 1) [x,y] = bd (bA (aF n) [some x,some y,none]) finF := rfl
  rw [e0]
  unfold bA
  have nx : isNon x = false :=by rcases X with rfl | ⟨_,rfl,_⟩ <;> rfl
  have ny : isNon y = false :=by rcases Y with rfl | ⟨_,rfl,_⟩ <;> rfl
  try simp! only [sFor,aa,isNW,nx,ny]
  refine Y.isi (b := false) (by decide) (by decide) ?_
  try simp! only [aa]
  refine Y.isi (b := false) (by decide) (by decide) ?_
  try simp! only [aa]
  refine Y.isi (b := false) (by decide) (by decide) ?_
  try simp! only [aa]
  refine Y.isi (b := false) (by decide) (by decide) ?_
  try simp! only [aa]
  refine X.isi (b := true) (by decide) (by decide) ?_
  try simp! only [aa]
  refine X.len ?_
  try simp! only [aa]
  refine Y.len ?_
  try simp! only [aa,el,eq_self,decide_true]
  refine Y.len ?_
  try simp! only [aa,cC (i := (m.length : Int)) (by omega) (by omega)]
  refine eS (I := fun _ ρ h' => (∃ a,ρ = [some x,some y,a]) ∧ h' = h) ⟨⟨_,rfl⟩,rfl⟩ (fun _ _ _ _ => trivial) (fun i w ρ h' hw I => ?_) fun ρ h' I => ?_
  · obtain ⟨⟨a,rfl⟩,rfl⟩ := I
    obtain ⟨rfl,hi⟩ := cI _ _ _ _ hw
    have hm : i < m.length :=by simpa using hi
    obtain ⟨b,eb⟩ : ∃ b,m[i]? = some b := ⟨_,List.getElem?_eq_getElem hm⟩
    obtain ⟨a,ea⟩ : ∃ a,l[i]? = some a := ⟨_,List.getElem?_eq_getElem (by omega)⟩
    have z : (0 : Int) + (i:Int) = (i:Int) :=by omega
    refine ⟨_,rfl,?_⟩
    rw [z]
    try simp! only [aa]
    refine X.ix (da ea) ?_
    try simp! only [aa]
    refine Y.ix (da eb) ?_
    try simp! only [aa]
    refine aM (ih (A i a b ea eb)) fun w h2 qq_ => ?_
    obtain ⟨e1,e2⟩ := qq_
    subst e1 e2
    try simp! only [aa]
    exact ar ⟨_,rfl,⟨_,rfl⟩,rfl⟩
  · obtain ⟨⟨a,rfl⟩,rfl⟩ := I
    try simp! only [aa]
    exact ar ⟨rfl,rfl⟩
theorem uC (n:Nat) : ∀ {h:List Ob}{x y : W},Al h n x y → Ok (aF n [x,y]) h fun w h' => w = .bl true ∧ h' = h :=by
  induction n with
  | zero => intro h x y A; exact A.elim
  | succ n ih =>
    intro h x y A
    rcases A with ⟨i,rfl,rfl⟩ | ⟨z,rfl,rfl⟩ | ⟨l,m,⟨rfl,rfl⟩ | ⟨X,Y⟩,el,ez,A⟩
    · exact tW
    · exact tU
    · exact tQ ih rfl rfl el ez A
    · exact tV ih X Y el ez A
theorem kt {β : Type}{h:List Ob}{k:W → M β}{Q:β → List Ob → Prop}{n:Nat}{x y : W} (A:Al h n x y) (q:Ok (k (.bl true)) h Q) : Ok (bd (aF n [x,y]) k) h Q :=
  aM (uC n A) fun w h' ⟨e1,e2⟩ => by subst e1 e2; exact q
end Q
set_option maxHeartbeats 1000000
namespace Q
open PySem L2
local macro_rules | `(tactic| simp! only [$xs,*]) => `(tactic| try simp only [finF,bK,cN,cM,cP,cO,cA,dQ,dR,sFor,mMet,aN,sAug,sAugW,sFldW,tupW,sRet,sSet,sNil,sEx,sPass,cB,sCont,sUnp,bn,mB,L2.m2,L2.m1,L2.m3,mVar,mC,mCall,mCons,mNil,mTup,mTl,mNew,lenG,listL,mPart,aW,mAnd,mOr,mNot,mAndV,mOrV,mNotV,mIf,cH,mMeth,isS,mSrc,mSrcA,srcL,srcT,srcS,tgN,tgT,setW,mYes,bt,bd_no,asB_bl,addW_int,subW_int,ltW_int,leW_int,gtW_int,geW_int,eqW_int,eqW_str,neW_int,neW_str,neW_bl,slW_tl,slW_cl,lenW_tl,lenW_tup,negW,List.set_cons_zero,List.set_cons_succ,List.getElem?_cons_zero,List.getElem?_cons_succ,List.length_cons,List.length_nil,arW,if_true,if_false,Bool.false_eq_true,ite_true,ite_false,reduceIte,decide_true,decide_false,Bool.not_true,Bool.not_false,dP,gdn0,gdn1,gdn2,gdn3,gdn4,gdn5,gdn6,gdn7,gdn8,gdn9,gdn10,gdn11,gdn12,gdn13,gdn14,gdn15,gdn16,gdn17,gdn18,gdn19,gdn20,gdn21,gdn22,gdn23,gdn24,$xs,*])
noncomputable def LT : Str := "abcdefghijklmnopqrstuvwxyz"
noncomputable def wds : List Str := ["box", "block", "put", "say", "ask", "go", "if", "else", "table", "stop"]
noncomputable def menu : List Str := ["", "", "zz", "qrst", "box", "block", "put", "say", "ask", "go", "if", "else", "table", "stop"]
noncomputable def mkS (l:List Nat) : Str := ⟨l.toArray⟩
theorem gr (l:List Nat) : (mkS l).cps.toList = l :=by simp [mkS]
theorem ib (l:List Nat) : (mkS l).length = l.length :=by show l.toArray.size = _; simp
theorem sN (z:Str) : mkS z.cps.toList = z :=by cases z; simp [mkS]
theorem mU (a b : List Nat) : mkS a ++ mkS b = mkS (a ++ b) :=by
  show (⟨a.toArray ++ b.toArray⟩ : Str) = ⟨(a ++ b).toArray⟩
  rw [List.append_toArray]
theorem qE {a b : List Nat} (h:mkS a = mkS b) : a = b :=by rw [← gr a,h,gr]
structure Nm (z:Str) : Prop where
  len : z.length ≤ 20
  sm : ∀ c ∈ z.cps.toList,c < 128
theorem qF : ∀ z ∈ menu,z.length ≤ 5 ∧ ∀ c ∈ z.cps.toList,c < 128 :=by decide +kernel
theorem pG : ∀ i : Fin 26,Txt.find LT ⟨#[97 + i.val]⟩ = (i.val : Int) :=by decide +kernel
theorem qJ : LT.cps.toList = List.range' 97 26 :=by decide +kernel
theorem o8 : LT.length = 26 :=by decide +kernel
theorem rA {i:Int} (h0 : 0 ≤ i) (h1 : i < 26) : atI LT.cps.toList i = some (97 + i.toNat) :=by
  refine cU h0 ?_
  rw [qJ,List.getElem?_range' (by omega)]
  simp
theorem sz {n:Nat} (h:n ≤ 100000) : n ≤ sizeLine := Nat.le_trans h (by decide)
theorem o6 (i j : Int) : maxW [.int i,.int j] = pr (.int (if j > i then j else i)) := rfl
theorem fP (l:List W) : lstO (.tl l) = pr l := rfl
theorem gdw {α : Type} (m:M α) : gd (0 + 1 + 1 + 1 + 1 + (wds.map W.str).length ≤ sizeLine) m = m := aE (by decide)
noncomputable def envN (j kn : Nat) (a b c : Option W) : Env' := [some (.loc j),some (.int 14),some (.str LT),some (.tl (wds.map W.str)),some (.loc kn),a,b,c]
noncomputable def nmS (p:List Nat) (q:Nat) : Str := mkS (p ++ [97 + q % 26])
noncomputable def badN (p:List Nat) (zs : List Str) (q:Nat) : Prop := nmS p q ∈ zs ∨ nmS p q ∈ wds
noncomputable def tN : Env' → M Bool := (mOr (mB (L2.m2 inW (mVar 6) (mVar 4))) (mB (L2.m2 inW (mVar 6) (mVar 3))))
noncomputable def bN : Env' → M Fl := (sSet 6 (L2.m2 addW (m3 slW (mVar 6) aW (mPart (m1 negW (mC (.int 1))))) (L2.m2 ixW (mVar 2) (L2.m2 modW (L2.m2 addW (mMeth isS findW (mVar 2) (mCons (L2.m2 ixW (mVar 6) (m1 negW (mC (.int 1)))) mNil)) (mC (.int 1))) (mC (.int 26))))))
theorem rf {h:List Ob}{j kn : Nat}{a c : Option W}{zs : List Str}{z:Str} (e:h[kn]? = some (.lst (zs.map W.str))) : Ok (tN (envN j kn a (some (.str z)) c)) h fun b h' => (b = true ↔ (z ∈ zs ∨ z ∈ wds)) ∧ h' = h :=by
  unfold tN
  try simp! only [envN,aa]
  refine uq e ?_
  by_cases m1 : z ∈ zs
  · try simp! only [aa,decide_eq_true m1]
    exact ar ⟨⟨fun _ => .inl m1,fun _ => rfl⟩,rfl⟩
  · try simp! only [aa,decide_eq_false m1,qT]
    refine ar ⟨⟨fun q => .inr (of_decide_eq_true q),fun q => decide_eq_true (q.resolve_left m1)⟩,rfl⟩
theorem uB {h:List Ob}{j kn : Nat}{a c : Option W}{p:List Nat}{q:Nat} (hp : p.length ≤ 30) : Ok (bN (envN j kn a (some (.str (nmS p q))) c)) h fun x h' => x = .nx (envN j kn a (some (.str (nmS p (q + 1)))) c) ∧ h' = h :=by
  have hl : (nmS p q).length = p.length + 1 :=by unfold nmS; rw [ib]; simp
  have hz : (nmS p q).length ≤ sizeLine := sz (by omega)
  have sl : StrLaws.sliceText (nmS p q) none (some (-1)) = mkS p :=by
    rw [StrLaws.sliceText_to_neg (by decide) (by omega),hl]
    unfold nmS
    rw [gr,List.drop_zero,show (-1 + ((p.length + 1 : Nat) : Int) - 0).toNat = p.length by omega,List.take_left' rfl]
    rfl
  have ixl : atI (nmS p q).cps.toList (-1) = some (97 + q % 26) :=by unfold nmS; rw [gr]; exact pR _ _
  have fd : findW (.str LT) [.str ⟨#[97 + q % 26]⟩] = pr (.int ((q % 26 : Nat) : Int)) :=by
    show pr (W.int (Txt.find LT ⟨#[97 + q % 26]⟩)) = _
    rw [pG ⟨q % 26,Nat.mod_lt _ (by decide)⟩]
  have at1 : atI LT.cps.toList ((((q % 26 : Nat) : Int) + 1) % 26) = some (97 + (q + 1) % 26) :=by
    rw [rA (by omega) (by omega)]
    congr 2
    omega
  have ad : mkS p ++ (⟨#[97 + (q + 1) % 26]⟩ : Str) = nmS p (q + 1) := mU p [97 + (q + 1) % 26]
  have as : addW (.str (mkS p)) (.str ⟨#[97 + (q + 1) % 26]⟩) = pr (.str (nmS p (q + 1))) :=by
    rw [lR (by rw [ib]; show p.length + 1 ≤ _; exact sz (by omega)),ad]
  unfold bN
  try simp! only [envN,aa,pY hz,sl,dL hz ixl,fd,bM (show (0 : Int) < 26 by decide),dL (sz (Nat.le_trans (Nat.le_of_eq o8) (by decide))) at1,as]
  exact ar ⟨rfl,rfl⟩
theorem kN {h:List Ob}{j kn : Nat}{a c : Option W}{zs : List Str}{p:List Nat} (e:h[kn]? = some (.lst (zs.map W.str))) (hp : p.length ≤ 30) : ∀ (r n q : Nat),r < n → (∀ i,i < r → badN p zs (q + i)) → ¬ badN p zs (q + r) →
    Ok (bV tN bN n (envN j kn a (some (.str (nmS p q))) c)) h fun x h' => x = .nx (envN j kn a (some (.str (nmS p (q + r)))) c) ∧ h' = h
  | 0,n + 1,q,_,_,g => by
    unfold bV
    refine aM (rf e) fun b h' qq_ => ?_
    obtain ⟨hb,e2⟩ := qq_
    subst e2
    have : b = false :=by
      cases b with
      | false => rfl
      | true => exact absurd (hb.mp rfl) g
    subst this
    exact ar ⟨rfl,rfl⟩
  | r + 1,n + 1,q,hr,b,g => by
    unfold bV
    refine aM (rf e) fun t h' qq_ => ?_
    obtain ⟨hb,e2⟩ := qq_
    subst e2
    have : t = true := hb.mpr (b 0 (by omega))
    subst this
    rw [if_pos rfl]
    refine aM (uB hp) fun x h2 qq_ => ?_
    obtain ⟨e3,e4⟩ := qq_
    subst e3 e4
    have := kN (j := j) (a := a) (c := c) e hp r n (q + 1) (by omega) (fun i hi => by have := b (i + 1) (by omega); rwa [show q + 1 + i = q + (i + 1) by omega]) (by rwa [show q + 1 + r = q + (r + 1) by omega])
    rw [show q + 1 + r = q + (r + 1) by omega] at this
    exact this
theorem qU (p:List Nat) (zs : List Str) (q:Nat) (hz : zs.length ≤ 13) : ∃ r,r < 26 ∧ ¬ badN p zs (q + r) :=by
  by_cases H : ∃ r,r < 26 ∧ ¬ badN p zs (q + r)
  · exact H
  · exfalso
    have all : ∀ r,r < 26 → badN p zs (q + r) := fun r hr => Classical.byContradiction fun n => H ⟨r,hr,n⟩
    have nd : ((List.range 26).map fun r => nmS p (q + r)).Nodup :=by
      show List.Pairwise (· ≠ ·) _
      rw [List.pairwise_map]
      refine List.Pairwise.imp_of_mem (R := (· ≠ ·)) (fun {a b} ha hb hn he => hn ?_) List.nodup_range
      have ha := List.mem_range.mp ha
      have hb := List.mem_range.mp hb
      have h1 := qE he
      have h2 := List.append_cancel_left h1
      have h3 := (List.cons.inj h2).1
      omega
    have := jF _ (zs ++ wds) nd fun x hx => by
      obtain ⟨r,hr,rfl⟩ := List.mem_map.mp hx
      exact List.mem_append.mpr (all r (List.mem_range.mp hr))
    rw [List.length_map,List.length_range,List.length_append] at this
    have hw : wds.length = 10 := rfl
    omega
theorem Nm.nmS {p:List Nat}{q:Nat} (hp : p.length ≤ 19) (h:∀ c ∈ p,c < 128) : Nm (nmS p q) := ⟨by unfold Q.nmS; rw [ib]; simp; omega,fun c hc => by
  unfold Q.nmS at hc
  rw [gr,List.mem_append] at hc
  rcases hc with hc | hc
  · exact h c hc
  · have : c = 97 + q % 26 :=by simpa using hc
    omega⟩
theorem oW {h:List Ob}{j:Nat} (R:Reel h j) : Ok (dl [.loc j,.int 14]) h fun w _ => ∃ zs : List Str,w = .tl (zs.map W.str) ∧ zs.length = 14 ∧ ∀ z ∈ zs,Nm z :=by
  have e0 : dl [.loc j,.int 14] = bd (eB [some (.loc j),some (.int 14),none,none,none,none,none,none]) finF := rfl
  have hj : j ≠ h.length :=by obtain ⟨_,_,e⟩ := R; exact Nat.ne_of_lt (cW e)
  rw [e0]
  unfold eB
  try simp! only [aa]
  refine d7 ?_
  try simp! only [sFor,aa,cC (show (-(2 ^ 62) : Int) ≤ 14 by decide) (show (14 : Int) < 2 ^ 62 by decide)]
  refine eS (I := fun i ρ h' => ∃ a b c zs,ρ = envN j h.length a b c ∧ Reel h' j ∧ h'[h.length]? = some (.lst (zs.map W.str)) ∧ zs.length = i ∧ ∀ z ∈ zs,Nm z) ⟨none,none,none,[],rfl,⟨_,_,cb R.choose_spec.choose_spec⟩,bu,rfl,by simp⟩ (fun _ _ _ _ => trivial) (fun i w ρ h1 hw I => ?_) fun ρ h1 I => ?_
  · obtain ⟨a,b,c,zs,rfl,R1,ez,el,hzs⟩ := I
    obtain ⟨rfl,hi⟩ := cI _ _ _ _ hw
    have hi : i < 14 := hi
    refine ⟨_,rfl,?_⟩
    try simp! only [envN,aa,catL,fP,gdw]
    refine aH R1 (by decide) (by decide) fun v h2 v0 v1 K2 => ?_
    obtain ⟨z,hz,e1⟩ : ∃ z ∈ menu,atI ([W.str "",W.str "",W.str "zz",W.str "qrst"] ++ wds.map W.str) v = some (.str z) :=by
      obtain ⟨y,hy,e⟩ := fq (l := menu.map W.str) v0 v1
      obtain ⟨z,hz,rfl⟩ := List.mem_map.mp hy
      exact ⟨z,hz,e⟩
    obtain ⟨zl,zc⟩ := qF z hz
    try simp! only [sFor,aa,eG e1,pc (sz (Nat.le_trans zl (by decide))),o6]
    obtain ⟨mx,hmx⟩ : ∃ mx : Int,(if (z.length : Int) > 4 then (z.length : Int) else 4) = mx := ⟨_,rfl⟩
    have m0 : 4 ≤ mx ∧ mx ≤ 5 :=by rw [← hmx]; split <;> omega
    rw [hmx]
    try simp! only [aa]
    refine aH K2.re (by omega) (Int.lt_of_le_of_lt (show 8 - mx ≤ 4 by omega) (by decide)) fun v2 h3 v20 v21 K3 => ?_
    try simp! only [sFor,aa,cC (show (-(2 ^ 62) : Int) ≤ 1 + v2 by omega) (show (1 + v2 : Int) < 2 ^ 62 by omega)]
    have K13 : Kp j h1 h3 := K2.trans K3
    refine eS (I := fun n ρ h' => ∃ l c,ρ = envN j h.length (some (.int (0 + (i:Int)))) (some (.str (mkS l))) c ∧ Kp j h1 h' ∧ l.length ≤ 5 + n ∧ (∀ c ∈ l,c < 128) ∧ (0 < n → ∃ p q,l = p ++ [97 + q] ∧ q < 26)) ⟨z.cps.toList,c,by rw [sN]; rfl,K13,by rw [show z.cps.toList.length = z.length by simp [Str.length]]; exact zl,zc,fun n => absurd n (Nat.lt_irrefl _)⟩ (fun _ _ _ _ => trivial) (fun n w ρ h4 hw I => ?_) fun ρ h4 I => ?_
    · obtain ⟨l,c,rfl,K4,ll,lc,_⟩ := I
      obtain ⟨rfl,hn⟩ := cI _ _ _ _ hw
      refine ⟨_,rfl,?_⟩
      try simp! only [envN,aa]
      refine aH K4.re (by decide) (by decide) fun v5 h5 v50 v51 K5 => ?_
      have as : addW (.str (mkS l)) (.str ⟨#[97 + v5.toNat]⟩) = pr (.str (mkS (l ++ [97 + v5.toNat]))) :=by
        rw [lR (by rw [ib]; show l.length + 1 ≤ _; exact sz (by omega))]
        exact congrArg (fun x => pr (W.str x)) (mU l [97 + v5.toNat])
      try simp! only [aa,dL (sz (Nat.le_trans (Nat.le_of_eq o8) (by decide))) (rA v50 v51),as]
      refine ar ⟨_,rfl,l ++ [97 + v5.toNat],_,rfl,K4.trans K5,by rw [List.length_append]; show l.length + 1 ≤ _; omega,fun c hc => ?_,fun _ => ⟨l,v5.toNat,rfl,by omega⟩⟩
      rcases List.mem_append.mp hc with hc | hc
      · exact lc c hc
      · have : c = 97 + v5.toNat :=by simpa using hc
        omega
    · obtain ⟨l,c,rfl,K4,ll,lc,lq⟩ := I
      rw [bz] at ll lq
      obtain ⟨p,q,rfl,hq⟩ := lq (by omega)
      have hp : p.length ≤ 19 :=by
        rw [List.length_append] at ll
        have : [97 + q].length = 1 := rfl
        omega
      have ez4 : h4[h.length]? = some (.lst (zs.map W.str)) := (K4.fr.eq _ (Ne.symm hj)).trans ez
      obtain ⟨r,hr,hg,hb⟩ := least (qU p zs q (by omega))
      have ee : mkS (p ++ [97 + q]) = nmS p q :=by unfold nmS; rw [Nat.mod_eq_of_lt hq]
      rw [ee]
      try simp! only [aa]
      refine aM (kN (a := some (.int (0 + (i:Int)))) (c := c) ez4 (by omega) r 30 q (by omega) (fun i hi => Classical.byContradiction (hb i hi)) hg) fun x h5 qq_ => ?_
      obtain ⟨e3,e4⟩ := qq_
      subst e3 e4
      try simp! only [envN,aa]
      refine cV ez4 ?_
      try simp! only [aa]
      refine dF ez4 (by rw [List.length_map]; exact Nat.lt_of_le_of_lt (show zs.length ≤ 14 by omega) (by decide)) ?_
      try simp! only [aa]
      have hK := K4.re
      obtain ⟨a',b',e5⟩ := hK
      refine ar ⟨_,rfl,_,_,_,zs ++ [nmS p (q + r)],rfl,⟨a',b',by rw [List.getElem?_set_ne (Ne.symm hj)]; exact e5⟩,?_,by rw [List.length_append,el]; rfl,fun y hy => ?_⟩
      · rw [bo ez4,List.map_append]; rfl
      · rcases List.mem_append.mp hy with hy | hy
        · exact hzs y hy
        · have : y = nmS p (q + r) :=by simpa using hy
          rw [this]
          exact Nm.nmS hp fun c hc => lc c (List.mem_append.mpr (.inl hc))
  · obtain ⟨a,b,c,zs,rfl,R1,ez,el,hzs⟩ := I
    try simp! only [envN,aa]
    refine fX ez ?_
    try simp! only [aa]
    exact ar ⟨zs,rfl,by rw [el,bz]; rfl,hzs⟩
end Q
set_option maxHeartbeats 1000000
namespace Q
open PySem L2
local macro_rules | `(tactic| simp! only [$xs,*]) => `(tactic| try simp only [finF,bK,cN,cM,cP,cO,cA,dQ,dR,sFor,mMet,aN,sAug,sAugW,sFldW,tupW,sRet,sSet,sNil,sEx,sPass,cB,sCont,sUnp,bn,mB,L2.m2,L2.m1,L2.m3,mVar,mC,mCall,mCons,mNil,mTup,mTl,mNew,lenG,listL,mPart,aW,mAnd,mOr,mNot,mAndV,mOrV,mNotV,mIf,cH,mMeth,isS,mSrc,mSrcA,srcL,srcT,srcS,tgN,tgT,setW,mYes,bt,bd_no,asB_bl,addW_int,subW_int,ltW_int,leW_int,gtW_int,geW_int,eqW_int,eqW_str,neW_int,neW_str,neW_bl,slW_tl,slW_cl,lenW_tl,lenW_tup,negW,List.set_cons_zero,List.set_cons_succ,List.getElem?_cons_zero,List.getElem?_cons_succ,List.length_cons,List.length_nil,arW,if_true,if_false,Bool.false_eq_true,ite_true,ite_false,reduceIte,decide_true,decide_false,Bool.not_true,Bool.not_false,dP,gdn0,gdn1,gdn2,gdn3,gdn4,gdn5,gdn6,gdn7,gdn8,gdn9,gdn10,gdn11,gdn12,gdn13,gdn14,gdn15,gdn16,gdn17,gdn18,gdn19,gdn20,gdn21,gdn22,gdn23,gdn24,$xs,*])
noncomputable def bxW (p:Str × Int) : W := .tup [.str p.1,.int p.2]
structure Bx (ps : List (Str × Int)) : Prop where
  len : ps.length ≤ 4
  nm : ∀ p ∈ ps,Nm p.1
theorem canS {z:Str} (h:∀ c ∈ z.cps.toList,c < 128) : PyData.canLay0 (.str z) = true :=by
  rw [PyData.canLay0]
  show z.cps.all (fun x => decide (x < 0x110000)) = true
  rw [← Array.all_toList,List.all_eq_true]
  intro c hc
  have := h c hc
  exact decide_eq_true (by omega)
theorem tu {ps : List (Str × Int)} (B:Bx ps) (h:List Ob) : eqB (.tl (ps.map bxW)) (.tl []) h = some ps.isEmpty :=by
  rw [oe (ds := ps.map fun p => PyData.tuple [.str p.1,.int p.2]) (es := []) (d5 (f := dataH h 49) (g := bxW) (k := fun p => PyData.tuple [.str p.1,.int p.2]) (fun a => rfl) ps) rfl (jm ps fun p hp => ?_) (by rw [PyData.canLayAll0])]
  · cases ps with
    | nil => rw [List.map_nil,PyData.eqvAll]; rfl
    | cons a b => rw [List.map_cons,PyData.eqvAll]; rfl
  · rw [PyData.canLay0,PyData.canLayAll0,canS (B.nm p hp).sm,PyData.canLayAll0,PyData.canLay0,PyData.canLayAll0]; rfl
theorem bx0 (p:Str × Int) : ixW (bxW p) (.int 0) = pr (.str p.1) := ck (l := [.str p.1,.int p.2]) rfl
theorem pd2 {a b : Str}{n:Nat} : Pd (n + 2) (.tup [.str a,.str b]) := .tup (by simp) fun x hx => by
  rcases List.mem_cons.mp hx with rfl | hx
  · exact .str
  · rw [List.mem_singleton.mp hx]; exact .str
theorem pd2i {a:Str}{i:Int}{n:Nat} : Pd (n + 2) (.tup [.str a,.int i]) := .tup (by simp) fun x hx => by
  rcases List.mem_cons.mp hx with rfl | hx
  · exact .str
  · rw [List.mem_singleton.mp hx]; exact .int
theorem pdT {l:List W}{n:Nat} (z:l.length ≤ 1000) (h:∀ x ∈ l,Pd n x) : Pd (n + 1) (.tup l) := .tup z h
theorem aV {n:Nat}{w:W}{l:List W} (h:Pd n w) (r:∀ x ∈ l,Pd n x) : ∀ x ∈ w :: l,Pd n x := fun x hx => by
  rcases List.mem_cons.mp hx with rfl | hx
  · exact h
  · exact r x hx
theorem eR {n:Nat} : ∀ x ∈ ([] : List W),Pd n x := fun x hx => absurd hx List.not_mem_nil
noncomputable def Lb (h:List Ob) (j:Nat) (x:W) (ps : List (Str × Int)) : Prop := x = .tl (ps.map bxW) ∨ ∃ k,x = .loc k ∧ k ≠ j ∧ h[k]? = some (.lst (ps.map bxW))
section
variable {h h' : List Ob}{j:Nat}{x:W}{ps : List (Str × Int)}
theorem Lb.lw (L:Lb h j x ps) : Lw h x (ps.map bxW) :=by
  rcases L with e | ⟨k,e,_,q⟩
  · exact .inl e
  · exact .inr ⟨k,e,q⟩
theorem Lb.kp (L:Lb h j x ps) (K:Kp j h h') : Lb h' j x ps :=by
  rcases L with e | ⟨k,e,n,q⟩
  · exact .inl e
  · exact .inr ⟨k,e,n,(K.fr.eq k n).trans q⟩
theorem rB (B:Bx ps) (L:Lb h j x ps) : eqB x (.tl []) h = some ps.isEmpty :=by
  rcases L with rfl | ⟨i,rfl,_,e⟩
  · exact tu B h
  · have o1 : optL (dataH h 49) (ps.map bxW) = some (ps.map fun p => PyData.tuple [.str p.1,.int p.2]) := d5 (f := dataH h 49) (g := bxW) (k := fun p => PyData.tuple [.str p.1,.int p.2]) (fun a => rfl) ps
    have x1 : dataH h 50 (.loc i) = some (.list (ps.map fun p => PyData.tuple [.str p.1,.int p.2])) :=by
      show (match h[i]? with
        | some (.lst l) => (optL (dataH h 49) l).map PyData.list
        | _ => none) = _
      simp only [e,o1]; rfl
    have ca : PyData.canLayAll0 (ps.map fun p => PyData.tuple [.str p.1,.int p.2]) = true := jm ps fun p hp => by
      rw [PyData.canLay0,PyData.canLayAll0,canS (B.nm p hp).sm,PyData.canLayAll0,PyData.canLay0,PyData.canLayAll0]; rfl
    show (match dataH h 50 (.loc i),dataH h 50 (.tl []) with
      | some d,some e => if d.canLay0 = true ∧ e.canLay0 = true then some (PyData.eqv d e) else none
      | _,_ => none) = _
    rw [x1,show dataH h 50 (.tl []) = some (.list []) from rfl]
    show (if (PyData.list (ps.map fun p => PyData.tuple [.str p.1,.int p.2])).canLay0 = true ∧ (PyData.list []).canLay0 = true then some (PyData.eqv (.list (ps.map fun p => PyData.tuple [.str p.1,.int p.2])) (.list [])) else none) = _
    rw [if_pos ⟨by rw [PyData.canLay0]; exact ca,by rw [PyData.canLay0,PyData.canLayAll0]⟩,PyData.eqv]
    cases ps with
    | nil => rw [List.map_nil,PyData.eqvAll]; rfl
    | cons a b => rw [List.map_cons,PyData.eqvAll]; rfl
variable {β : Type}{k:W → M β}{Q:β → List Ob → Prop}
theorem sH (B:Bx ps) (L:Lb h j x ps) (q:Ok (k (.bl (!ps.isEmpty))) h Q) : Ok (bd (neW x (.tl [])) k) h Q :=by
  refine bp (a := .bl (!ps.isEmpty)) (h' := h) ?_ q
  unfold neW
  rw [rB B L]
theorem sL (B:Bx ps) (L:Lb h j x ps) (q:Ok (k (.bl ps.isEmpty)) h Q) : Ok (bd (eqW x (.tl [])) k) h Q :=by
  refine bp (a := .bl ps.isEmpty) (h' := h) ?_ q
  unfold eqW
  rw [rB B L]
theorem mj {v:Int} (L:Lb h j x ps) (h0 : 0 ≤ v) (h1 : v < (ps.length : Int)) (q:∀ p ∈ ps,Ok (k (bxW p)) h Q) : Ok (bd (ixW x (.int v)) k) h Q :=by
  obtain ⟨y,hy,e⟩ := fq (l := ps.map bxW) h0 (by rw [List.length_map]; exact h1)
  obtain ⟨p,hp,rfl⟩ := List.mem_map.mp hy
  exact L.lw.ix e (q p hp)
theorem j7 (L:Lb h j x ps) (q:Ok (k (.int ps.length)) h Q) : Ok (bd (lenW [x]) k) h Q := L.lw.len (by rw [List.length_map]; exact q)
end
noncomputable def nI (n:Nat) : W := .int n
inductive Xe
  | num (i:Int)
  | box (z:Str)
  | op (c:Str) (a b : Xe)
noncomputable def Xe.w : Xe → W
  | .num i => .tup [.str "number",.int i]
  | .box z => .tup [.str "box",.str z]
  | .op c a b => .tup [.str c,a.w,b.w]
noncomputable def Xe.G (ns : List Str) : Nat → Xe → Prop
  | 0,_ => False
  | _ + 1,.num i => 0 ≤ i ∧ i < 1000
  | _ + 1,.box z => z ∈ ns
  | n + 1,.op c a b => (c = "+" ∨ c = "-" ∨ c = "*") ∧ a.G ns n ∧ b.G ns n
theorem Xe.G.mono {ns : List Str} : ∀ {n:Nat}{e:Xe},e.G ns n → e.G ns (n + 1)
  | n + 1,.num i,p => p
  | n + 1,.box z,p => p
  | n + 1,.op c a b,p => ⟨p.1,p.2.1.mono,p.2.2.mono⟩
theorem Xe.G.up {ns : List Str}{n m : Nat}{e:Xe} (p:e.G ns n) (h:n ≤ m) : e.G ns m :=by
  induction m with
  | zero =>
    have : n = 0 :=by omega
    subst this; exact p
  | succ m ih =>
    by_cases z : n = m + 1
    · subst z; exact p
    · exact (ih (by omega)).mono
theorem Xe.G.pd {ns : List Str} : ∀ {n:Nat}{e:Xe},e.G ns n → Pd (n + 1) e.w
  | n + 1,.num i,p => pd2i
  | n + 1,.box z,p => pd2
  | n + 1,.op c a b,p => pdT (n := n + 1) (by simp) (aV .str (aV p.2.1.pd (aV p.2.2.pd eR)))
theorem sg3 {v:Int} (h0 : 0 ≤ v) (h1 : v < 3) : ∃ s : Str,ixW (.str "+-*") (.int v) = pr (.str s) ∧ (s = "+" ∨ s = "-" ∨ s = "*") :=by
  have : v = 0 ∨ v = 1 ∨ v = 2 :=by omega
  rcases this with rfl | rfl | rfl
  · exact ⟨"+",dL (sz (by decide +kernel)) (c := 43) (by decide +kernel),.inl rfl⟩
  · exact ⟨"-",dL (sz (by decide +kernel)) (c := 45) (by decide +kernel),.inr (.inl rfl)⟩
  · exact ⟨"*",dL (sz (by decide +kernel)) (c := 42) (by decide +kernel),.inr (.inr rfl)⟩
theorem sg2 {v:Int} (h0 : 0 ≤ v) (h1 : v < 2) : ∃ s : Str,ixW (.str "+-") (.int v) = pr (.str s) ∧ (s = "+" ∨ s = "-" ∨ s = "*") :=by
  have : v = 0 ∨ v = 1 :=by omega
  rcases this with rfl | rfl
  · exact ⟨"+",dL (sz (by decide +kernel)) (c := 43) (by decide +kernel),.inl rfl⟩
  · exact ⟨"-",dL (sz (by decide +kernel)) (c := 45) (by decide +kernel),.inr (.inl rfl)⟩
inductive Sm
  | say (e:Xe)
  | ask (z:Str)
  | put (z:Str) (e:Xe)
noncomputable def Sm.w : Sm → W
  | .say e => .tup [.str "say",e.w]
  | .ask z => .tup [.str "ask",.str z]
  | .put z e => .tup [.str "put",.str z,e.w]
noncomputable def Sm.G (ns : List Str) : Sm → Prop
  | .say e => e.G ns 6
  | .ask z => z ∈ ns
  | .put z e => z ∈ ns ∧ e.G ns 6
theorem Sm.G.pd {ns : List Str} : ∀ {s:Sm},s.G ns → Pd 9 s.w
  | .say e,p => (pdT (n := 7) (by simp) (aV .str (aV (Xe.G.pd p) eR))).up (by decide)
  | .ask z,_ => pd2
  | .put z e,p => (pdT (n := 7) (by simp) (aV .str (aV .str (aV p.2.pd eR)))).up (by decide)
theorem jA (l:List W) : eP [.tl l] = pr (.tup l) := rfl
section
variable {ps : List (Str × Int)} (B:Bx ps)
include B
theorem qL {h:List Ob}{j:Nat}{x:W} (R:Reel h j) (L:Lb h j x ps) : Ok (d9 [.loc j,x]) h fun w h' => (∃ e : Xe,w = e.w ∧ e.G (ps.map (·.1)) 1) ∧ Kp j h h' :=by
  have e0 : d9 [.loc j,x] = bd (fg [some (.loc j),some x,none]) finF := rfl
  rw [e0]
  unfold fg
  have num : ∀ {v8 : Int},0 ≤ v8 → v8 < 3 → ∃ m : Int,0 < m ∧ m ≤ 1000 ∧ atI [W.int 3,W.int 10,W.int 1000] v8 = some (.int m) := fun {v8} v80 v81 => by
    obtain ⟨y,hy,e⟩ := fq (l := ([3,10,1000] : List Int).map W.int) v80 v81
    obtain ⟨m,hm,rfl⟩ := List.mem_map.mp hy
    have a : ∀ m ∈ ([3,10,1000] : List Int),0 < m ∧ m ≤ 1000 :=by decide
    exact ⟨m,(a m hm).1,(a m hm).2,e⟩
  try simp! only [aa]
  refine sH B L ?_
  cases hp : ps.isEmpty with
  | true =>
    try simp! only [aa]
    refine aH R (by decide) (by decide) fun v8 h8 v80 v81 K8 => ?_
    obtain ⟨m,m0,m1,em⟩ := num v80 v81
    try simp! only [aa,eG em]
    refine aH K8.re m0 (Int.lt_of_le_of_lt m1 (by decide)) fun v9 h9 v90 v91 K9 => ?_
    try simp! only [aa]
    exact ar ⟨⟨.num v9,rfl,v90,by omega⟩,K8.trans K9⟩
  | false =>
    try simp! only [aa]
    refine aH R (by decide) (by decide) fun v1 h1 v10 v11 K1 => ?_
    by_cases hv : 0 < v1
    · have hl : 0 < ps.length := List.length_pos_iff.mpr fun z => by rw [z] at hp; cases hp
      have b4 := B.len
      try simp! only [aa,decide_eq_true hv]
      refine j7 (L.kp K1) ?_
      try simp! only [aa]
      refine aH K1.re (by omega) (Int.lt_of_le_of_lt (show (ps.length : Int) ≤ 4 by omega) (by decide)) fun v2 h2 v20 v21 K2 => ?_
      refine mj ((L.kp K1).kp K2) v20 v21 fun p hp => ?_
      try simp! only [aa,bx0]
      exact ar ⟨⟨.box p.1,rfl,List.mem_map.mpr ⟨p,hp,rfl⟩⟩,K1.trans K2⟩
    · try simp! only [aa,decide_eq_false hv]
      refine aH K1.re (by decide) (by decide) fun v8 h8 v80 v81 K8 => ?_
      obtain ⟨m,m0,m1,em⟩ := num v80 v81
      try simp! only [aa,eG em]
      refine aH K8.re m0 (Int.lt_of_le_of_lt m1 (by decide)) fun v9 h9 v90 v91 K9 => ?_
      try simp! only [aa]
      exact ar ⟨⟨.num v9,rfl,v90,by omega⟩,K1.trans (K8.trans K9)⟩
theorem pU (n:Nat) : ∀ {h:List Ob}{j:Nat}{x:W}{m:Int},n ≤ 6 → 1 ≤ m → m ≤ n → Reel h j → Lb h j x ps → Ok (be n [.loc j,x,.int m]) h fun w h' => (∃ e : Xe,w = e.w ∧ e.G (ps.map (·.1)) m.toNat) ∧ Kp j h h' :=by
  induction n with
  | zero => intro h j x m z a b R L; omega
  | succ n ih =>
    intro h j x m z a b R L
    have e0 : be (n + 1) [.loc j,x,.int m] = bd (eY (be n) [some (.loc j),some x,some (.int m),none,none,none,none]) finF := rfl
    rw [e0]
    unfold eY
    by_cases hm : m < 2
    · try simp! only [aa,decide_eq_true hm]
      refine aM (qL B R L) fun w h1 qq_ => ?_
      obtain ⟨⟨e,ew,p⟩,K⟩ := qq_
      subst ew
      try simp! only [aa]
      exact ar ⟨⟨e,rfl,p.up (by omega)⟩,K⟩
    · try simp! only [aa,decide_eq_false hm]
      refine aH R (by omega) (Int.lt_of_le_of_lt (show m - 1 ≤ 6 by omega) (by decide)) fun v1 h1 v10 v11 K1 => ?_
      try simp! only [aa]
      refine aH K1.re (by decide) (by decide) fun v2 h2 v20 v21 K2 => ?_
      obtain ⟨c,ec,hc⟩ := sg3 v20 v21
      have Lk2 := (L.kp K1).kp K2
      try simp! only [aa,ec]
      refine aM (ih (m := 1 + v1) (by omega) (by omega) (by omega) K2.re Lk2) fun w1 h3 qq_ => ?_
      obtain ⟨⟨e1,q1,p1⟩,K3⟩ := qq_
      subst q1
      try simp! only [aa]
      refine aM (ih (m := m - (1 + v1)) (by omega) (by omega) (by omega) K3.re (Lk2.kp K3)) fun w2 h4 qq_ => ?_
      obtain ⟨⟨e2,q2,p2⟩,K4⟩ := qq_
      subst q2
      try simp! only [aa]
      exact ar ⟨⟨.op c e1 e2,rfl,by obtain ⟨q,hq⟩ : ∃ q,m.toNat = q + 1 := ⟨m.toNat - 1,by omega⟩; rw [hq]; exact ⟨hc,p1.up (by omega),p2.up (by omega)⟩⟩,K1.trans (K2.trans (K3.trans K4))⟩
theorem gS {β : Type}{h:List Ob}{k:W → M β}{Q:β → List Ob → Prop}{j:Nat}{x:W}{m:Int} (R:Reel h j) (L:Lb h j x ps) (a:1 ≤ m) (b:m ≤ 6) (q:∀ (e:Xe) h',e.G (ps.map (·.1)) m.toNat → Kp j h h' → Ok (k e.w) h' Q) : Ok (bd (be 6 [.loc j,x,.int m]) k) h Q :=
  aM (pU B 6 (Nat.le_refl _) a b R L) fun w h' ⟨⟨e,ew,p⟩,K⟩ => by subst ew; exact q e h' p K
theorem oq {h:List Ob}{j:Nat}{x:W} (R:Reel h j) (L:Lb h j x ps) : Ok (aZ [.loc j,x]) h fun w h' => (∃ s : Sm,w = s.w ∧ s.G (ps.map (·.1))) ∧ Kp j h h' :=by
  have e0 : aZ [.loc j,x] = bd (cY [some (.loc j),some x,none,none,none]) finF := rfl
  rw [e0]
  unfold cY
  try simp! only [aa]
  refine aH R (by decide) (by decide) fun v1 h1 v10 v11 K1 => ?_
  have L1 := L.kp K1
  refine sL B L1 ?_
  cases hp : ps.isEmpty with
  | true =>
    try simp! only [aa]
    refine aH K1.re (by decide) (by decide) fun v8 h8 v80 v81 K8 => ?_
    try simp! only [aa]
    refine gS B K8.re (L1.kp K8) (by omega) (by omega) fun w9 h9 p9 K9 => ?_
    try simp! only [aa]
    exact ar ⟨⟨.say w9,rfl,Xe.G.up p9 (by omega)⟩,K1.trans (K8.trans K9)⟩
  | false =>
    have hl : 0 < ps.length := List.length_pos_iff.mpr fun z => by rw [z] at hp; cases hp
    have b4 := B.len
    by_cases h3 : v1 < 3
    · try simp! only [aa,decide_eq_true h3]
      refine aH K1.re (by decide) (by decide) fun v8 h8 v80 v81 K8 => ?_
      try simp! only [aa]
      refine gS B K8.re (L1.kp K8) (by omega) (by omega) fun w9 h9 p9 K9 => ?_
      try simp! only [aa]
      exact ar ⟨⟨.say w9,rfl,Xe.G.up p9 (by omega)⟩,K1.trans (K8.trans K9)⟩
    · try simp! only [aa,decide_eq_false h3]
      refine j7 L1 ?_
      try simp! only [aa]
      refine aH K1.re (by omega) (Int.lt_of_le_of_lt (show (ps.length : Int) ≤ 4 by omega) (by decide)) fun v2 h2 v20 v21 K2 => ?_
      have Lk2 := L1.kp K2
      refine mj Lk2 v20 v21 fun p hp => ?_
      by_cases h5 : v1 < 5
      · try simp! only [aa,bx0,decide_eq_true h5]
        exact ar ⟨⟨.ask p.1,rfl,List.mem_map.mpr ⟨p,hp,rfl⟩⟩,K1.trans K2⟩
      · try simp! only [aa,bx0,decide_eq_false h5]
        refine j7 Lk2 ?_
        try simp! only [aa]
        refine aH K2.re (by omega) (Int.lt_of_le_of_lt (show (ps.length : Int) ≤ 4 by omega) (by decide)) fun v3 h4 v30 v31 K3 => ?_
        have L3 := Lk2.kp K3
        refine mj L3 v30 v31 fun p2 hp2 => ?_
        by_cases h6 : v1 = 5
        · try simp! only [aa,bx0,decide_eq_true h6]
          refine aH K3.re (by decide) (by decide) fun v4 h5 v40 v41 K4 => ?_
          obtain ⟨c,ec,hc⟩ := sg2 v40 v41
          try simp! only [aa,ec]
          refine aH K4.re (by decide) (by decide) fun v5 h6 v50 v51 K5 => ?_
          try simp! only [aa]
          exact ar ⟨⟨.put p.1 (.op c (.box p2.1) (.num v5)),rfl,List.mem_map.mpr ⟨p,hp,rfl⟩,Xe.G.up (n := 2) ⟨hc,List.mem_map.mpr ⟨p2,hp2,rfl⟩,v50,by omega⟩ (by decide)⟩,K1.trans (K2.trans (K3.trans (K4.trans K5)))⟩
        · try simp! only [aa,bx0,decide_eq_false h6]
          refine aH K3.re (by decide) (by decide) fun v8 h8 v80 v81 K8 => ?_
          try simp! only [aa]
          refine gS B K8.re (L3.kp K8) (by omega) (by omega) fun w9 h9 p9 K9 => ?_
          try simp! only [aa]
          exact ar ⟨⟨.put p.1 w9,rfl,List.mem_map.mpr ⟨p,hp,rfl⟩,p9.up (by omega)⟩,K1.trans (K2.trans (K3.trans (K8.trans K9)))⟩
end
end Q
set_option maxHeartbeats 1000000
namespace Q
open PySem L2
local macro_rules | `(tactic| simp! only [$xs,*]) => `(tactic| try simp only [finF,bK,cN,cM,cP,cO,cA,dQ,dR,sFor,mMet,aN,sAug,sAugW,sFldW,tupW,sRet,sSet,sNil,sEx,sPass,cB,sCont,sUnp,bn,mB,L2.m2,L2.m1,L2.m3,mVar,mC,mCall,mCons,mNil,mTup,mTl,mNew,lenG,listL,mPart,aW,mAnd,mOr,mNot,mAndV,mOrV,mNotV,mIf,cH,mMeth,isS,mSrc,mSrcA,srcL,srcT,srcS,tgN,tgT,setW,mYes,bt,bd_no,asB_bl,addW_int,subW_int,ltW_int,leW_int,gtW_int,geW_int,eqW_int,eqW_str,neW_int,neW_str,neW_bl,slW_tl,slW_cl,lenW_tl,lenW_tup,negW,List.set_cons_zero,List.set_cons_succ,List.getElem?_cons_zero,List.getElem?_cons_succ,List.length_cons,List.length_nil,arW,if_true,if_false,Bool.false_eq_true,ite_true,ite_false,reduceIte,decide_true,decide_false,Bool.not_true,Bool.not_false,dP,gdn0,gdn1,gdn2,gdn3,gdn4,gdn5,gdn6,gdn7,gdn8,gdn9,gdn10,gdn11,gdn12,gdn13,gdn14,gdn15,gdn16,gdn17,gdn18,gdn19,gdn20,gdn21,gdn22,gdn23,gdn24,$xs,*])
inductive En
  | go (t:Nat)
  | iff (s:Str) (a b : Xe) (x y : Nat)
  | tab (e:Xe) (ts : List Nat)
  | stop
noncomputable def En.w : En → W
  | .go t => .tup [.str "go",nI t]
  | .iff s a b x y => .tup [.str "if",.str s,a.w,b.w,nI x,nI y]
  | .tab e ts => .tup [.str "table",e.w,.tup (ts.map nI)]
  | .stop => .tup [.str "stop"]
noncomputable def En.G (ns : List Str) (m:Nat) : En → Prop
  | .go t => t < m
  | .iff s a b x y => (s = "<" ∨ s = "=") ∧ a.G ns 6 ∧ b.G ns 6 ∧ x < m ∧ y < m
  | .tab e ts => e.G ns 6 ∧ 1 ≤ ts.length ∧ ts.length ≤ 6 ∧ ∀ t ∈ ts,t < m
  | .stop => True
theorem sg2c {v:Int} (h0 : 0 ≤ v) (h1 : v < 2) : ∃ s : Str,ixW (.str "<=") (.int v) = pr (.str s) ∧ (s = "<" ∨ s = "=") :=by
  have : v = 0 ∨ v = 1 :=by omega
  rcases this with rfl | rfl
  · exact ⟨"<",dL (sz (by decide +kernel)) (c := 60) (by decide +kernel),.inl rfl⟩
  · exact ⟨"=",dL (sz (by decide +kernel)) (c := 61) (by decide +kernel),.inr rfl⟩
section
variable {ps : List (Str × Int)} (B:Bx ps)
include B
theorem uv {h:List Ob}{j:Nat}{bx x y : W} (R:Reel h j) (L:Lb h j bx ps) : Ok (fJ [.loc j,bx,x,y]) h fun w h' => (∃ (s:Str) (a b : Xe),w = .tup [.str "if",.str s,a.w,b.w,x,y] ∧ (s = "<" ∨ s = "=") ∧ a.G (ps.map (·.1)) 6 ∧ b.G (ps.map (·.1)) 6) ∧ Kp j h h' :=by
  have e0 : fJ [.loc j,bx,x,y] = bd (gE [some (.loc j),some bx,some x,some y,none,none,none,none]) finF := rfl
  rw [e0]
  unfold gE
  try simp! only [aa]
  refine aH R (by decide) (by decide) fun v1 h1 v10 v11 K1 => ?_
  obtain ⟨c,ec,hc⟩ := sg2c v10 v11
  try simp! only [aa,ec]
  refine aH K1.re (by decide) (by decide) fun v2 h2 v20 v21 K2 => ?_
  try simp! only [aa]
  refine gS B K2.re ((L.kp K1).kp K2) (by omega) (by omega) fun w3 h3 q3 K3 => ?_
  have p3' : w3.G (ps.map (·.1)) 5 := q3.up (by omega)
  have p3 := p3'.mono
  try simp! only [aa]
  refine aH K3.re (by decide) (by decide) fun v4 h4 v40 v41 K4 => ?_
  try simp! only [aa]
  refine aH K4.re (by decide) (by decide) fun v5 h5 v50 v51 K5 => ?_
  have K15 := K1.trans (K2.trans (K3.trans (K4.trans K5)))
  by_cases w0 : v4 = 0
  · have w1 : ¬ v4 = 1 :=by omega
    try simp! only [aa,decide_eq_true w0]
    refine aH K5.re (by decide) (by decide) fun v6 h6 v60 v61 K6 => ?_
    try simp! only [aa]
    refine gS B K6.re ((L.kp K15).kp K6) (by omega) (by omega) fun w7 h7 p7 K7 => ?_
    try simp! only [aa,decide_eq_false w1]
    exact ar ⟨⟨_,w3,w7,rfl,hc,p3,p7.up (by omega)⟩,K15.trans (K6.trans K7)⟩
  · by_cases w1 : v4 = 1
    · try simp! only [aa,decide_eq_false w0,decide_eq_true w1]
      refine aH K5.re (by decide) (by decide) fun v6 h6 v60 v61 K6 => ?_
      try simp! only [aa]
      exact ar ⟨⟨_,w3,.op "+" w3 (.num v6),rfl,hc,p3,.inl rfl,p3',v60,by omega⟩,K15.trans K6⟩
    · try simp! only [aa,decide_eq_false w0,decide_eq_false w1]
      exact ar ⟨⟨_,w3,.num v5,rfl,hc,p3,v50,by omega⟩,K15⟩
theorem tD {h:List Ob}{j:Nat}{x:W}{m:Int} (hm : 0 < m) (hz : m ≤ 100) (R:Reel h j) (L:Lb h j x ps) : Ok (d6 [.loc j,x,.int m]) h fun w h' => (∃ e : En,w = e.w ∧ e.G (ps.map (·.1)) m.toNat) ∧ Kp j h h' :=by
  have e0 : d6 [.loc j,x,.int m] = bd (fR [some (.loc j),some x,some (.int m),none,none,none]) finF := rfl
  have hz2 : m < 2 ^ 200 := Int.lt_of_le_of_lt hz (by decide)
  rw [e0]
  unfold fR
  try simp! only [aa]
  refine aH R (by decide) (by decide) fun v1 h1 v10 v11 K1 => ?_
  try simp! only [aa]
  refine aH K1.re hm hz2 fun v2 h2 v20 v21 K2 => ?_
  have K12 := K1.trans K2
  by_cases c3 : v1 < 3
  · try simp! only [aa,decide_eq_true c3]
    exact ar ⟨⟨.go v2.toNat,by show _ = W.tup [.str "go",.int (v2.toNat : Int)]; rw [Int.toNat_of_nonneg v20],by show v2.toNat < m.toNat; omega⟩,K12⟩
  by_cases c8 : v1 < 8
  · try simp! only [aa,decide_eq_false c3,decide_eq_true c8]
    refine aH K2.re hm hz2 fun v3 h3 v30 v31 K3 => ?_
    try simp! only [aa]
    refine aM (uv B K3.re ((L.kp K12).kp K3)) fun w h4 qq_ => ?_
    obtain ⟨⟨s,a,b,e,hs,pa,pb⟩,K4⟩ := qq_
    subst e
    try simp! only [aa]
    exact ar ⟨⟨.iff s a b v2.toNat v3.toNat,by show _ = W.tup [.str "if",.str s,a.w,b.w,.int (v2.toNat : Int),.int (v3.toNat : Int)]; rw [Int.toNat_of_nonneg v20,Int.toNat_of_nonneg v30],hs,pa,pb,by omega,by omega⟩,K12.trans (K3.trans K4)⟩
  by_cases c11 : v1 = 11
  · try simp! only [aa,decide_eq_false c3,decide_eq_false c8,decide_eq_true c11]
    exact ar ⟨⟨.stop,rfl,trivial⟩,K12⟩
  · try simp! only [aa,decide_eq_false c3,decide_eq_false c8,decide_eq_false c11]
    refine aH K2.re (by decide) (by decide) fun v3 h3 v30 v31 K3 => ?_
    try simp! only [aa]
    refine gS B K3.re ((L.kp K12).kp K3) (by omega) (by omega) fun w4 h4 p4 K4 => ?_
    try simp! only [aa,aN]
    refine aH K4.re (by decide) (by decide) fun v5 h5 v50 v51 K5 => ?_
    have gl : ∀ {α : Type} (q:M α),gd ((intsW 0 (1 + v5).toNat).length ≤ sizeLine) q = q := fun q => aE (by rw [bz]; exact sz (by omega))
    try simp! only [aa,cC (show (-(2 ^ 62) : Int) ≤ 1 + v5 by omega) (show (1 + v5 : Int) < 2 ^ 62 by omega),gl]
    refine fN (I := fun i a h' => Kp j h4 h' ∧ ∃ ts : List Nat,a = ts.map nI ∧ ts.length = i ∧ ∀ t ∈ ts,t < m.toNat) ⟨K5,[],rfl,rfl,fun x hx => absurd hx List.not_mem_nil⟩ gH (fun _ _ _ _ => trivial) (fun i w a h6 hw I => ?_) fun a h6 I => ?_
    · obtain ⟨K6,ts,rfl,la,ia⟩ := I
      refine ⟨_,rfl,?_⟩
      try simp! only [List.replicate,List.cons_append,List.nil_append,aa]
      refine Ok.imp (jY K6.re hm hz2) fun w h7 ⟨v,e,g0,g1,K7⟩ => ?_
      subst e
      refine ⟨K6.trans K7,ts ++ [v.toNat],by rw [List.map_append]; show _ = _ ++ [W.int (v.toNat : Int)]; rw [Int.toNat_of_nonneg g0],by rw [List.length_append,la]; rfl,fun x hx => ?_⟩
      rcases List.mem_append.mp hx with hx | hx
      · exact ia x hx
      · rw [List.mem_singleton.mp hx]; omega
    · obtain ⟨K6,ts,rfl,la,ia⟩ := I
      rw [bz] at la
      try simp! only [aa,jA]
      exact ar ⟨⟨.tab w4 ts,rfl,p4.up (by omega),by omega,by omega,ia⟩,K12.trans (K3.trans (K4.trans K6))⟩
end
end Q
set_option maxHeartbeats 1000000
namespace Q
open PySem L2
local macro_rules | `(tactic| simp! only [$xs,*]) => `(tactic| try simp only [finF,bK,cN,cM,cP,cO,cA,dQ,dR,sFor,mMet,aN,sAug,sAugW,sFldW,tupW,sRet,sSet,sNil,sEx,sPass,cB,sCont,sUnp,bn,mB,L2.m2,L2.m1,L2.m3,mVar,mC,mCall,mCons,mNil,mTup,mTl,mNew,lenG,listL,mPart,aW,mAnd,mOr,mNot,mAndV,mOrV,mNotV,mIf,cH,mMeth,isS,mSrc,mSrcA,srcL,srcT,srcS,tgN,tgT,setW,mYes,bt,bd_no,asB_bl,addW_int,subW_int,ltW_int,leW_int,gtW_int,geW_int,eqW_int,eqW_str,neW_int,neW_str,neW_bl,slW_tl,slW_cl,lenW_tl,lenW_tup,negW,List.set_cons_zero,List.set_cons_succ,List.getElem?_cons_zero,List.getElem?_cons_succ,List.length_cons,List.length_nil,arW,if_true,if_false,Bool.false_eq_true,ite_true,ite_false,reduceIte,decide_true,decide_false,Bool.not_true,Bool.not_false,dP,gdn0,gdn1,gdn2,gdn3,gdn4,gdn5,gdn6,gdn7,gdn8,gdn9,gdn10,gdn11,gdn12,gdn13,gdn14,gdn15,gdn16,gdn17,gdn18,gdn19,gdn20,gdn21,gdn22,gdn23,gdn24,$xs,*])
noncomputable abbrev Sto := List (Str × Int)
noncomputable def kz (σ : Sto) : List Key := σ.map fun p => .inr p.1
noncomputable def vz (σ : Sto) : List W := σ.map fun p => .int p.2
noncomputable def rd : Sto → Str → Option Int
  | [],_ => none
  | p :: σ,z => if p.1 = z then some p.2 else rd σ z
noncomputable def wr (σ : Sto) (z:Str) (v:Int) : Sto := if (σ.any fun p => decide (p.1 = z)) = true then σ.map (fun p => if p.1 = z then (p.1,v) else p) else σ ++ [(z,v)]
theorem mF (z:Str) : ∀ σ : Sto,atK (kz σ) (vz σ) (.inr z) = (rd σ z).map W.int
  | [] => rfl
  | p :: σ => by
    show (if (Sum.inr p.1 : Key) = .inr z then some (W.int p.2) else atK (kz σ) (vz σ) (.inr z)) = ((if p.1 = z then some p.2 else rd σ z).map W.int)
    by_cases h : p.1 = z
    · rw [if_pos h,if_pos (by rw [h])]; rfl
    · rw [if_neg h,if_neg (fun q => h (by cases q; rfl)),mF z σ]
theorem lF (z:Str) (v:Int) : ∀ σ : Sto,mapAt (kz σ) (vz σ) (.inr z) (.int v) = vz (σ.map fun p => if p.1 = z then (p.1,v) else p)
  | [] => rfl
  | p :: σ => by
    show (if (Sum.inr p.1 : Key) = .inr z then W.int v else .int p.2) :: mapAt (kz σ) (vz σ) (.inr z) (.int v) = W.int (if p.1 = z then (p.1,v) else p).2 :: vz (σ.map fun p => if p.1 = z then (p.1,v) else p)
    rw [lF z v σ]
    by_cases h : p.1 = z
    · rw [if_pos h,if_pos (by rw [h])]
    · rw [if_neg h,if_neg (fun q => h (by cases q; rfl))]
theorem tL (z:Str) (σ : Sto) : ((kz σ).any fun k => decide (k = (.inr z : Key))) = σ.any fun p => decide (p.1 = z) :=by
  unfold kz
  rw [List.any_map]
  congr 1
  funext p
  show decide ((Sum.inr p.1 : Key) = .inr z) = _
  by_cases h : p.1 = z
  · rw [decide_eq_true h,decide_eq_true (by rw [h])]
  · rw [decide_eq_false h,decide_eq_false (fun q => h (by cases q; rfl))]
theorem fM (σ : Sto) (z:Str) (v:Int) : putW (kz σ) (vz σ) (.inr z) (.int v) = (kz (wr σ z v),vz (wr σ z v)) :=by
  unfold putW wr
  rw [tL]
  by_cases h : (σ.any fun p => decide (p.1 = z)) = true
  · rw [if_pos h,if_pos h,lF]
    congr 1
    unfold kz
    rw [List.map_map]
    refine List.map_congr_left fun p _ => ?_
    show _ = (Sum.inr (if p.1 = z then (p.1,v) else p).1 : Key)
    by_cases q : p.1 = z
    · rw [if_pos q]
    · rw [if_neg q]
  · rw [if_neg h,if_neg h]
    unfold kz vz
    rw [List.map_append,List.map_append]; rfl
theorem oB (y z : Str) (v:Int) : ∀ σ : Sto,rd (σ ++ [(z,v)]) y = (match rd σ y with
    | some u => some u
    | none => if z = y then some v else none)
  | [] => rfl
  | p :: σ => by
    show (if p.1 = y then some p.2 else rd (σ ++ [(z,v)]) y) = _
    rw [oB y z v σ]
    show _ = (match (if p.1 = y then some p.2 else rd σ y) with
      | some u => some u
      | none => if z = y then some v else none)
    by_cases h : p.1 = y
    · rw [if_pos h,if_pos h]
    · rw [if_neg h,if_neg h]
theorem oA (y z : Str) (v:Int) : ∀ σ : Sto,rd (σ.map fun p => if p.1 = z then (p.1,v) else p) y = if z = y then (rd σ y).map (fun _ => v) else rd σ y
  | [] => by rw [List.map_nil]; show none = if z = y then none else none; rw [ite_self]
  | p :: σ => by
    show (if (if p.1 = z then (p.1,v) else p).1 = y then some (if p.1 = z then (p.1,v) else p).2 else rd (σ.map fun p => if p.1 = z then (p.1,v) else p) y) = if z = y then (if p.1 = y then some p.2 else rd σ y).map (fun _ => v) else if p.1 = y then some p.2 else rd σ y
    rw [oA y z v σ]
    by_cases h : p.1 = z
    · subst h
      by_cases q : p.1 = y <;> simp [q]
    · rw [if_neg h]
      by_cases q : z = y
      · rw [if_pos q,if_pos q,if_neg (by rw [← q]; exact h),if_neg (by rw [← q]; exact h)]
      · rw [if_neg q,if_neg q]
theorem j1 (z:Str) : ∀ σ : Sto,¬ (σ.any fun p => decide (p.1 = z)) = true → rd σ z = none
  | [],_ => rfl
  | p :: σ,h => by
    rw [List.any_cons,Bool.or_eq_true,not_or,decide_eq_true_eq] at h
    show (if p.1 = z then some p.2 else rd σ z) = none
    rw [if_neg h.1,j1 z σ h.2]
theorem mN (z:Str) : ∀ σ : Sto,(σ.any fun p => decide (p.1 = z)) = true → ∃ v,rd σ z = some v
  | [],h => by cases h
  | p :: σ,h => by
    show ∃ v,(if p.1 = z then some p.2 else rd σ z) = some v
    by_cases q : p.1 = z
    · exact ⟨p.2,if_pos q⟩
    · rw [if_neg q]
      refine mN z σ ?_
      rw [List.any_cons,decide_eq_false q,Bool.false_or] at h
      exact h
theorem mM (σ : Sto) (y z : Str) (v:Int) : rd (wr σ z v) y = if z = y then some v else rd σ y :=by
  unfold wr
  by_cases h : (σ.any fun p => decide (p.1 = z)) = true
  · rw [if_pos h,oA]
    by_cases q : z = y
    · obtain ⟨u,e⟩ := mN z σ h
      rw [if_pos q,if_pos q,← q,e]; rfl
    · rw [if_neg q,if_neg q]
  · rw [if_neg h,oB]
    by_cases q : z = y
    · subst q; simp [j1 z σ h]
    · rw [if_neg q]; cases rd σ y <;> simp [q]
theorem rC (σ : Sto) (z:Str) (v:Int) : (wr σ z v).length ≤ σ.length + 1 :=by
  unfold wr
  split
  · rw [List.length_map]; omega
  · rw [List.length_append]; exact Nat.le_refl _
theorem wr_len' {σ : Sto}{z:Str}{u:Int} (v:Int) (e:rd σ z = some u) : (wr σ z v).length = σ.length :=by
  unfold wr
  split
  · rw [List.length_map]
  · rename_i h
    rw [j1 z σ h] at e; cases e
structure Has (ns : List Str) (σ : Sto) : Prop where
  has : ∀ z ∈ ns,∃ v : Int,rd σ z = some v ∧ 0 ≤ v ∧ v < 1000000
  sz : σ.length ≤ 10
theorem Has.wr {ns : List Str}{σ : Sto}{z:Str} (H:Has ns σ) (hz : z ∈ ns) (v:Int) : Has ns (wr σ z (v % 1000000)) :=by
  obtain ⟨u,e,_⟩ := H.has z hz
  refine ⟨fun y hy => ?_,by rw [wr_len' _ e]; exact H.sz⟩
  rw [mM]
  by_cases q : z = y
  · rw [if_pos q]; exact ⟨_,rfl,Int.emod_nonneg _ (by decide),Int.emod_lt_of_pos _ (by decide)⟩
  · rw [if_neg q]; exact H.has y hy
noncomputable def sto0 (ps : List (Str × Int)) : Sto := ps.foldl (fun σ p => wr σ p.1 p.2) []
theorem jZ : ∀ (ps : List (Str × Int)) (σ : Sto),(ps.foldl (fun σ p => wr σ p.1 p.2) σ).length ≤ σ.length + ps.length
  | [],σ => by simp
  | p :: ps,σ => by
    have := jZ ps (wr σ p.1 p.2)
    have := rC σ p.1 p.2
    rw [List.foldl_cons,List.length_cons]; omega
theorem mK (P:Int → Prop) : ∀ (ps : List (Str × Int)) (σ : Sto) (z:Str),(∀ p ∈ ps,P p.2) → (∀ v,rd σ z = some v → P v) → (z ∈ ps.map (·.1) ∨ ∃ v,rd σ z = some v) → ∃ v,rd (ps.foldl (fun σ p => wr σ p.1 p.2) σ) z = some v ∧ P v
  | [],σ,z,_,h,q => by
    rcases q with q | ⟨v,q⟩
    · cases q
    · exact ⟨v,q,h v q⟩
  | p :: ps,σ,z,hp,h,q => by
    rw [List.foldl_cons]
    refine mK P ps _ z (fun x hx => hp x (List.mem_cons_of_mem _ hx)) (fun v e => ?_) ?_
    · rw [mM] at e
      by_cases y : p.1 = z
      · rw [if_pos y] at e; cases e; exact hp p List.mem_cons_self
      · rw [if_neg y] at e; exact h v e
    · by_cases y : p.1 = z
      · exact .inr ⟨p.2,by rw [mM,if_pos y]⟩
      · rcases q with q | ⟨v,q⟩
        · rw [List.map_cons] at q
          rcases List.mem_cons.mp q with q | q
          · exact absurd q.symm y
          · exact .inl q
        · exact .inr ⟨v,by rw [mM,if_neg y]; exact q⟩
theorem Has.first {ps : List (Str × Int)} (l:ps.length ≤ 4) (h:∀ p ∈ ps,0 ≤ p.2 ∧ p.2 < 1000) : Has (ps.map (·.1)) (sto0 ps) :=by
  refine ⟨fun z hz => ?_,by have := jZ ps []; unfold sto0; rw [List.length_nil] at this; omega⟩
  obtain ⟨v,e,a,b⟩ := mK (fun v => 0 ≤ v ∧ v < 1000) ps [] z h (fun v e => by cases e) (.inl hz)
  exact ⟨v,e,a,by omega⟩
noncomputable def Xe.val (σ : Sto) : Xe → Int
  | .num i => i
  | .box z => (rd σ z).getD 0
  | .op c a b => if c = "+" then a.val σ + b.val σ else if c = "-" then a.val σ - b.val σ else a.val σ * b.val σ
theorem uc : decide (("box" : Str) = "number") = false :=by decide +kernel
theorem t6 : decide (("+" : Str) = "number") = false :=by decide +kernel
theorem t7 : decide (("+" : Str) = "box") = false :=by decide +kernel
theorem ua : decide (("-" : Str) = "number") = false :=by decide +kernel
theorem ub : decide (("-" : Str) = "box") = false :=by decide +kernel
theorem t9 : decide (("-" : Str) = "+") = false :=by decide +kernel
theorem t2 : decide (("*" : Str) = "number") = false :=by decide +kernel
theorem t4 : decide (("*" : Str) = "box") = false :=by decide +kernel
theorem t0 : decide (("*" : Str) = "+") = false :=by decide +kernel
theorem t3 : decide (("*" : Str) = "-") = false :=by decide +kernel
noncomputable def big (n:Nat) : Nat := 2 ^ (20 * 2 ^ n)
theorem big0 : 1000000 ≤ big 0 :=by decide
theorem qX (n:Nat) : 2 ≤ big n :=by
  unfold big
  have h1 : 1 ≤ 20 * 2 ^ n :=by have : 1 ≤ 2 ^ n := Nat.one_le_two_pow; omega
  exact Nat.le_trans (by decide : 2 ≤ 2 ^ 1) (Nat.pow_le_pow_right (by decide) h1)
theorem jo (n:Nat) : big (n + 1) = big n * big n :=by
  unfold big
  rw [← Nat.pow_add]
  congr 1
  rw [Nat.pow_succ]; omega
theorem kJ (n:Nat) : big n + big n ≤ big (n + 1) :=by
  rw [jo]
  have h := qX n
  have : 2 * big n ≤ big n * big n := Nat.mul_le_mul_right _ h
  omega
theorem pQ (n:Nat) : 1000000 ≤ big n :=by
  induction n with
  | zero => exact big0
  | succ n ih => have := kJ n; omega
theorem big6 (n:Nat) (h:n ≤ 6) : big n ≤ 2 ^ 65536 :=by
  unfold big
  refine Nat.pow_le_pow_right (by decide) ?_
  have : 2 ^ n ≤ 2 ^ 6 := Nat.pow_le_pow_right (by decide) h
  have : (2 : Nat) ^ 6 = 64 :=by decide
  omega
theorem om {ns : List Str}{σ : Sto} (D:Has ns σ) (n:Nat) : ∀ {w:Xe},n ≤ 6 → w.G ns n → (w.val σ).natAbs < big n ∧ ∀ {h:List Ob}{k:Nat},h[k]? = some (.dic (kz σ) (vz σ)) → Ok (bT n [w.w,.loc k]) h fun r h' => r = .int (w.val σ) ∧ h' = h :=by
  induction n with
  | zero => intro w _ p; exact p.elim
  | succ n ih =>
    intro w hn p
    have e0 : ∀ k : Nat,bT (n + 1) [w.w,.loc k] = bd (eo (bT n) [some w.w,some (.loc k),none,none]) finF := fun k => rfl
    have b1 := pQ (n + 1)
    have b2 := kJ n
    cases w with
    | num i =>
      obtain ⟨i0,i1⟩ := p
      refine ⟨by unfold Xe.val; omega,fun {h k} e => ?_⟩
      rw [e0]
      unfold eo Xe.w Xe.val
      try simp! only [aa,ix0,ix1,eq_self,decide_true]
      exact ar ⟨rfl,rfl⟩
    | box z =>
      obtain ⟨v,ev,v0,v1⟩ := D.has z p
      have vv : Xe.val σ (.box z) = v :=by unfold Xe.val; rw [ev]; rfl
      refine ⟨by rw [vv]; omega,fun {h k} e => ?_⟩
      rw [e0,vv]
      unfold eo Xe.w
      try simp! only [aa,ix0,ix1,eq_self,decide_true,uc]
      refine oV (v := .int v) e (by rw [mF,ev]; rfl) ?_
      try simp! only [aa]
      exact ar ⟨rfl,rfl⟩
    | op c a b =>
      obtain ⟨hc,pa,pb⟩ := p
      obtain ⟨bx,hx⟩ := ih (by omega) pa
      obtain ⟨by',hy⟩ := ih (by omega) pb
      have b6 := big6 n (by omega)
      have cm : CMulA (a.val σ) (b.val σ) := .inr ⟨Nat.lt_of_lt_of_le bx b6,Nat.lt_of_lt_of_le by' b6⟩
      have mb : (a.val σ * b.val σ).natAbs < big (n + 1) :=by
        rw [Int.natAbs_mul,jo]
        exact Nat.mul_lt_mul'' bx by'
      unfold Xe.w at e0 ⊢
      generalize hX : a.val σ = x at *
      generalize hY : b.val σ = y at *
      generalize a.w = aw at *
      generalize b.w = bw at *
      rcases hc with rfl | rfl | rfl
      · have vv : Xe.val σ (.op "+" a b) = x + y :=by unfold Xe.val; rw [if_pos rfl,hX,hY]
        refine ⟨by rw [vv]; omega,fun {h k} e => ?_⟩
        rw [e0,vv]
        unfold eo
        try simp! only [aa,ix0,ix1,ix2,t6,t7]
        refine aM (hx e) fun r h1 qq_ => ?_
        obtain ⟨er,eh⟩ := qq_
        subst er eh
        try simp! only [aa,ix0,ix1,ix2]
        refine aM (hy e) fun r h2 qq_ => ?_
        obtain ⟨er,eh⟩ := qq_
        subst er eh
        try simp! only [aa,ix0,eq_self,decide_true]
        exact ar ⟨rfl,rfl⟩
      · have vv : Xe.val σ (.op "-" a b) = x - y :=by unfold Xe.val; rw [if_neg (by decide +kernel),if_pos rfl,hX,hY]
        refine ⟨by rw [vv]; omega,fun {h k} e => ?_⟩
        rw [e0,vv]
        unfold eo
        try simp! only [aa,ix0,ix1,ix2,ua,ub]
        refine aM (hx e) fun r h1 qq_ => ?_
        obtain ⟨er,eh⟩ := qq_
        subst er eh
        try simp! only [aa,ix0,ix1,ix2]
        refine aM (hy e) fun r h2 qq_ => ?_
        obtain ⟨er,eh⟩ := qq_
        subst er eh
        try simp! only [aa,ix0,eq_self,decide_true,t9]
        exact ar ⟨rfl,rfl⟩
      · have vv : Xe.val σ (.op "*" a b) = x * y :=by unfold Xe.val; rw [if_neg (by decide +kernel),if_neg (by decide +kernel),hX,hY]
        refine ⟨by rw [vv]; exact mb,fun {h k} e => ?_⟩
        rw [e0,vv]
        unfold eo
        try simp! only [aa,ix0,ix1,ix2,t2,t4]
        refine aM (hx e) fun r h1 qq_ => ?_
        obtain ⟨er,eh⟩ := qq_
        subst er eh
        try simp! only [aa,ix0,ix1,ix2]
        refine aM (hy e) fun r h2 qq_ => ?_
        obtain ⟨er,eh⟩ := qq_
        subst er eh
        try simp! only [aa,ix0,t0,t3,eK cm]
        exact ar ⟨rfl,rfl⟩
theorem eV {β : Type}{ns : List Str}{σ : Sto}{w:Xe}{h:List Ob}{k:Nat}{c:W → M β}{Q:β → List Ob → Prop} (D:Has ns σ) (g:w.G ns 6) (e:h[k]? = some (.dic (kz σ) (vz σ))) (q:Ok (c (.int (w.val σ))) h Q) : Ok (bd (bT 6 [w.w,.loc k]) c) h Q :=
  aM ((om D 6 (Nat.le_refl _) g).2 e) fun r h' ⟨e1,e2⟩ => by subst e1 e2; exact q
end Q
set_option maxHeartbeats 1000000
namespace Q
open PySem L2
local macro_rules | `(tactic| simp! only [$xs,*]) => `(tactic| try simp only [finF,bK,cN,cM,cP,cO,cA,dQ,dR,sFor,mMet,aN,sAug,sAugW,sFldW,tupW,sRet,sSet,sNil,sEx,sPass,cB,sCont,sUnp,bn,mB,L2.m2,L2.m1,L2.m3,mVar,mC,mCall,mCons,mNil,mTup,mTl,mNew,lenG,listL,mPart,aW,mAnd,mOr,mNot,mAndV,mOrV,mNotV,mIf,cH,mMeth,isS,mSrc,mSrcA,srcL,srcT,srcS,tgN,tgT,setW,mYes,bt,bd_no,asB_bl,addW_int,subW_int,ltW_int,leW_int,gtW_int,geW_int,eqW_int,eqW_str,neW_int,neW_str,neW_bl,slW_tl,slW_cl,lenW_tl,lenW_tup,negW,List.set_cons_zero,List.set_cons_succ,List.getElem?_cons_zero,List.getElem?_cons_succ,List.length_cons,List.length_nil,arW,if_true,if_false,Bool.false_eq_true,ite_true,ite_false,reduceIte,decide_true,decide_false,Bool.not_true,Bool.not_false,dP,gdn0,gdn1,gdn2,gdn3,gdn4,gdn5,gdn6,gdn7,gdn8,gdn9,gdn10,gdn11,gdn12,gdn13,gdn14,gdn15,gdn16,gdn17,gdn18,gdn19,gdn20,gdn21,gdn22,gdn23,gdn24,$xs,*])
structure Sta where
  σ : Sto
  taken : Nat
  said : List Int
noncomputable def Sm.asks : Sm → Bool
  | .ask _ => true
  | _ => false
noncomputable def lacks (nums : List Int) (s:Sta) (st : Sm) : Bool := st.asks && decide (s.taken = nums.length)
noncomputable def doS (nums : List Int) (s:Sta) : Sm → Sta
  | .put z e => ⟨wr s.σ z (e.val s.σ % 1000000),s.taken,s.said⟩
  | .say e => ⟨s.σ,s.taken,s.said ++ [e.val s.σ]⟩
  | .ask z => ⟨wr s.σ z (nums.getD s.taken 0 % 1000000),s.taken + 1,s.said⟩
theorem gF (nums : List Int) (s:Sta) (st : Sm) : (doS nums s st).said.length ≤ s.said.length + 1 :=by
  cases st with
  | put z e => exact Nat.le_succ _
  | ask z => exact Nat.le_succ _
  | say e => unfold doS; rw [List.length_append]; exact Nat.le_refl _
noncomputable def nsD : List Str := ["held", "numbers", "taken", "said"]
structure DoAt (h:List Ob) (d kh kS : Nat) (nums : List Int) (s:Sta) : Prop where
  ob : h[d]? = some (.ins "Doing" nsD [.loc kh,.tl (nums.map W.int),.int s.taken,.loc kS])
  held : h[kh]? = some (.dic (kz s.σ) (vz s.σ))
  said : h[kS]? = some (.lst (s.said.map W.int))
  tk : s.taken ≤ nums.length
theorem DoAt.n1 {h:List Ob}{d kh kS : Nat}{nums : List Int}{s:Sta} (D:DoAt h d kh kS nums s) : d ≠ kh := fun z => by have := D.ob; rw [z,D.held] at this; cases this
theorem DoAt.n2 {h:List Ob}{d kh kS : Nat}{nums : List Int}{s:Sta} (D:DoAt h d kh kS nums s) : d ≠ kS := fun z => by have := D.ob; rw [z,D.said] at this; cases this
theorem DoAt.n3 {h:List Ob}{d kh kS : Nat}{nums : List Int}{s:Sta} (D:DoAt h d kh kS nums s) : kh ≠ kS := fun z => by have := D.held; rw [z,D.said] at this; cases this
structure On3 (d kh kS : Nat) (h h' : List Ob) : Prop where
  len : h'.length = h.length
  eq : ∀ i,i ≠ d → i ≠ kh → i ≠ kS → h'[i]? = h[i]?
theorem dW (a b c d : W) : lookF nsD [a,b,c,d] "held" = some a :=by unfold nsD; rfl
theorem jd (a b c d : W) : lookF nsD [a,b,c,d] "numbers" = some b :=by unfold nsD; rfl
theorem jc (a b c d : W) : lookF nsD [a,b,c,d] "taken" = some c :=by unfold nsD; rfl
theorem ig (a b c d : W) : lookF nsD [a,b,c,d] "said" = some d :=by unfold nsD; rfl
theorem oC (a b c d y : W) : putN nsD [a,b,c,d] "taken" y = (nsD,[a,b,y,d]) :=by unfold nsD; rfl
theorem gG (i j : Int) : addI (.int i) (.int j) = pr (.int (i + j)) := rfl
section
variable {ns : List Str}{h:List Ob}{d kh kS : Nat}{nums : List Int}{s:Sta}{β : Type}{k:W → M β}{Q:β → List Ob → Prop}
theorem pi {c:Str}{l:List W} (D:DoAt h d kh kS nums s) : Ok (aS [.loc d,.tup (.str c :: l)]) h fun w h' => w = .bl (decide (c = "ask") && decide (s.taken = nums.length)) ∧ h' = h :=by
  have e0 : aS [.loc d,.tup (.str c :: l)] = bd (bQ [some (.loc d),some (.tup (.str c :: l))]) finF := rfl
  rw [e0]
  unfold bQ
  by_cases hc : c = "ask"
  · try simp! only [aa,ix0,decide_eq_true hc]
    refine cx D.ob (jc ..) ?_
    try simp! only [aa]
    refine cx D.ob (jd ..) ?_
    try simp! only [aa,List.length_map]
    refine ar ⟨?_,rfl⟩
    rw [Bool.true_and]
    congr 1
    by_cases e : s.taken = nums.length
    · rw [decide_eq_true e,decide_eq_true (by rw [e])]
    · rw [decide_eq_false e,decide_eq_false (by omega)]
  · try simp! only [aa,ix0,decide_eq_false hc,Bool.false_and]
    exact ar ⟨rfl,rfl⟩
theorem qN {c:Str}{l:List W} (D:DoAt h d kh kS nums s) (q:Ok (k (.bl (decide (c = "ask") && decide (s.taken = nums.length)))) h Q) : Ok (bd (aS [.loc d,.tup (.str c :: l)]) k) h Q :=
  aM (pi D) fun w h' ⟨e1,e2⟩ => by subst e1 e2; exact q
theorem uR : decide (("say" : Str) = "put") = false :=by decide +kernel
theorem ue : decide (("ask" : Str) = "put") = false :=by decide +kernel
theorem ud : decide (("ask" : Str) = "say") = false :=by decide +kernel
theorem uU : decide (("put" : Str) = "say") = false :=by decide +kernel
theorem t5 : decide (("say" : Str) = "ask") = false :=by decide +kernel
theorem t8 : decide (("put" : Str) = "ask") = false :=by decide +kernel
theorem uy {st : Sm} (D:DoAt h d kh kS nums s) (H:Has ns s.σ) (g:st.G ns) (nl : lacks nums s st = false) (z:s.said.length < 100000) : Ok (bh [.loc d,st.w]) h fun w h' => w = .non ∧ DoAt h' d kh kS nums (doS nums s st) ∧ Has ns (doS nums s st).σ ∧ On3 d kh kS h h' :=by
  have e0 : bh [.loc d,st.w] = bd (bS [some (.loc d),some st.w]) finF := rfl
  rw [e0]
  unfold bS
  cases st with
  | put y e =>
    obtain ⟨gy,ge⟩ := g
    unfold Sm.w doS
    try simp! only [aa,ix0,ix1,ix2,eq_self,decide_true]
    refine cx D.ob (dW ..) ?_
    refine eV H ge D.held ?_
    try simp! only [aa,ix0,ix1,ix2,bM (show (0 : Int) < 1000000 by decide)]
    refine cx D.ob (dW ..) ?_
    try simp! only [aa,ix0,ix1,ix2]
    refine iK D.held (by unfold kz; rw [List.length_map]; exact Nat.lt_of_le_of_lt H.sz (by decide)) (fM ..) ?_
    try simp! only [aa]
    refine ar ⟨rfl,⟨?_,bo D.held,?_,D.tk⟩,H.wr gy _,List.length_set ..,fun i _ h2 _ => List.getElem?_set_ne (Ne.symm h2)⟩
    · rw [List.getElem?_set_ne (Ne.symm D.n1)]; exact D.ob
    · rw [List.getElem?_set_ne D.n3]; exact D.said
  | say e =>
    unfold Sm.w doS
    try simp! only [aa,ix0,ix1,ix2,uR,eq_self,decide_true]
    refine cx D.ob (ig ..) ?_
    refine cV D.said ?_
    try simp! only [aa,ix0,ix1,ix2]
    refine cx D.ob (dW ..) ?_
    try simp! only [aa,ix0,ix1,ix2]
    refine eV H g D.held ?_
    try simp! only [aa]
    refine dF D.said (by rw [List.length_map]; exact Nat.lt_of_lt_of_le z (by decide)) ?_
    try simp! only [aa]
    refine ar ⟨rfl,⟨?_,?_,?_,D.tk⟩,H,List.length_set ..,fun i _ _ h3 => List.getElem?_set_ne (Ne.symm h3)⟩
    · rw [List.getElem?_set_ne (Ne.symm D.n2)]; exact D.ob
    · rw [List.getElem?_set_ne (Ne.symm D.n3)]; exact D.held
    · rw [bo D.said,List.map_append]; rfl
  | ask y =>
    have ht : s.taken < nums.length :=by
      have t := D.tk
      have : ¬ s.taken = nums.length := fun q => by
        unfold lacks Sm.asks at nl
        rw [decide_eq_true q] at nl; cases nl
      omega
    unfold Sm.w doS
    try simp! only [aa,ix0,ix1,ix2,ue,ud]
    refine cx D.ob (jd ..) ?_
    try simp! only [aa]
    refine cx D.ob (jc ..) ?_
    try simp! only [aa,eG (iW W.int nums 0 (i := (s.taken : Int)) (by omega) (by omega)),bM (show (0 : Int) < 1000000 by decide),Int.toNat_natCast]
    refine cx D.ob (dW ..) ?_
    try simp! only [aa,ix0,ix1,ix2]
    refine iK D.held (by unfold kz; rw [List.length_map]; exact Nat.lt_of_le_of_lt H.sz (by decide)) (fM ..) ?_
    try simp! only [sAugW,aa]
    have o1 : (h.set kh (.dic (kz (wr s.σ y (nums.getD s.taken 0 % 1000000))) (vz (wr s.σ y (nums.getD s.taken 0 % 1000000)))))[d]? = some (.ins "Doing" nsD [.loc kh,.tl (nums.map W.int),.int s.taken,.loc kS]) :=by
      rw [List.getElem?_set_ne (Ne.symm D.n1)]; exact D.ob
    refine cx o1 (jc ..) ?_
    try simp! only [aa,gG]
    refine iM o1 (by unfold nsD; decide) (oC ..) ?_
    try simp! only [aa]
    refine ar ⟨rfl,⟨bo o1,?_,?_,ht⟩,H.wr g _,by rw [List.length_set,List.length_set],fun i h1 h2 _ => by rw [List.getElem?_set_ne (Ne.symm h1),List.getElem?_set_ne (Ne.symm h2)]⟩
    · rw [List.getElem?_set_ne D.n1]; exact bo D.held
    · rw [List.getElem?_set_ne D.n2,List.getElem?_set_ne D.n3]; exact D.said
noncomputable def cond (σ : Sto) (c:Str) (a b : Xe) : Bool := if c = "<" then decide (a.val σ < b.val σ) else decide (a.val σ = b.val σ)
theorem pz {c:Str}{a b : Xe} (D:DoAt h d kh kS nums s) (H:Has ns s.σ) (ga : a.G ns 6) (gb : b.G ns 6) : Ok (bZ [.loc d,.str c,a.w,b.w]) h fun w h' => w = .bl (cond s.σ c a b) ∧ h' = h :=by
  have e0 : bZ [.loc d,.str c,a.w,b.w] = bd (dO [some (.loc d),some (.str c),some a.w,some b.w]) finF := rfl
  rw [e0]
  unfold dO cond
  by_cases hc : c = "<"
  · rw [if_pos hc]
    try simp! only [aa,decide_eq_true hc]
    refine cx D.ob (dW ..) ?_
    refine eV H ga D.held ?_
    refine cx D.ob (dW ..) ?_
    refine eV H gb D.held ?_
    try simp! only [aa]
    exact ar ⟨rfl,rfl⟩
  · rw [if_neg hc]
    try simp! only [aa,decide_eq_false hc]
    refine cx D.ob (dW ..) ?_
    refine eV H ga D.held ?_
    refine cx D.ob (dW ..) ?_
    refine eV H gb D.held ?_
    try simp! only [aa]
    exact ar ⟨rfl,rfl⟩
theorem mX {c:Str}{a b : Xe} (D:DoAt h d kh kS nums s) (H:Has ns s.σ) (ga : a.G ns 6) (gb : b.G ns 6) (q:Ok (k (.bl (cond s.σ c a b))) h Q) : Ok (bd (bZ [.loc d,.str c,a.w,b.w]) k) h Q :=
  aM (pz D H ga gb) fun w h' ⟨e1,e2⟩ => by subst e1 e2; exact q
theorem pk {e:Xe}{m:Int} (D:DoAt h d kh kS nums s) (H:Has ns s.σ) (g:e.G ns 6) (hm : 0 < m) (q:Ok (k (.int (e.val s.σ % m))) h Q) : Ok (bd (cL [.loc d,e.w,.int m]) k) h Q :=by
  refine aM (P := fun w h' => w = .int (e.val s.σ % m) ∧ h' = h) ?_ fun w h' ⟨e1,e2⟩ => by subst e1 e2; exact q
  have e0 : cL [.loc d,e.w,.int m] = bd (dt [some (.loc d),some e.w,some (.int m)]) finF := rfl
  rw [e0]
  unfold dt
  try simp! only [aa]
  refine cx D.ob (dW ..) ?_
  refine eV H g D.held ?_
  try simp! only [aa,bM hm]
  exact ar ⟨rfl,rfl⟩
end
theorem se (ps : List (Str × Int)) : optL prW (ps.map bxW) = some (ps.map fun p => ((.inr p.1 : Key),W.int p.2)) := d5 (f := prW) (g := bxW) (k := fun p => ((.inr p.1 : Key),W.int p.2)) (fun a => rfl) ps
theorem lC : ∀ (ps : List (Str × Int)) (σ : Sto),eD (kz σ) (vz σ) (ps.map fun p => ((.inr p.1 : Key),W.int p.2)) = (kz (ps.foldl (fun σ p => wr σ p.1 p.2) σ),vz (ps.foldl (fun σ p => wr σ p.1 p.2) σ))
  | [],σ => rfl
  | p :: ps,σ => by
    rw [List.map_cons,List.foldl_cons]
    unfold eD
    rw [fM]
    exact lC ps _
noncomputable def sta0 (ps : List (Str × Int)) : Sta := ⟨sto0 ps,0,[]⟩
theorem qS {h:List Ob}{bx nm : W}{ps : List (Str × Int)}{nums : List Int} (LB : Lw h bx (ps.map bxW)) (LN : Lw h nm (nums.map W.int)) : Ok (bq [.loc h.length,bx,nm]) (h ++ [.ins "Doing" [] []]) fun w h' => w = .non ∧ DoAt h' h.length (h.length + 1) (h.length + 2) nums (sta0 ps) ∧ h'.length = h.length + 3 ∧ ∀ i,i < h.length → h'[i]? = h[i]? := by
  have e0 : bq [.loc h.length,bx,nm] = bd (cR [some (.loc h.length),some bx,some nm]) finF := rfl
  rw [e0]
  unfold cR
  obtain ⟨h0,hh0⟩ : ∃ h0,h0 = h ++ [Ob.ins "Doing" [] []] := ⟨_,rfl⟩
  have l0 : h0.length = h.length + 1 :=by rw [hh0]; simp
  have f0 : ∀ i,i < h.length → h0[i]? = h[i]? := fun i hi => by rw [hh0,List.getElem?_append_left hi]
  have b0 : h0[h.length]? = some (.ins "Doing" [] []) :=by rw [hh0]; exact bu
  rw [← hh0]
  have LB0 : Lw h0 bx (ps.map bxW) := LB.keep f0
  have LN0 : Lw h0 nm (nums.map W.int) := LN.keep f0
  clear hh0
  try simp! only [sFldW,aa]
  refine ur LB0 (se ps) (lC ps []) ?_
  rw [l0]
  have b1 : ∀ x : Ob,(h0 ++ [x])[h.length]? = some (.ins "Doing" [] []) := fun x => cb b0
  try simp! only [aa]
  refine iM (b1 _) (by decide) (ns' := ["held"]) (ws' := [.loc (h.length + 1)]) rfl ?_
  obtain ⟨h1,hh1⟩ : ∃ h1,h1 = (h0 ++ [Ob.dic (kz (ps.foldl (fun σ p => wr σ p.1 p.2) [])) (vz (ps.foldl (fun σ p => wr σ p.1 p.2) []))]).set h.length (.ins "Doing" ["held"] [.loc (h.length + 1)]) := ⟨_,rfl⟩
  have l1 : h1.length = h.length + 2 :=by rw [hh1,List.length_set,List.length_append,l0]; rfl
  have f1 : ∀ i,i < h.length → h1[i]? = h0[i]? := fun i hi => by rw [hh1,List.getElem?_set_ne (by omega),List.getElem?_append_left (by omega)]
  have c1 : h1[h.length]? = some (.ins "Doing" ["held"] [.loc (h.length + 1)]) :=by rw [hh1]; exact bo (b1 _)
  have d1 : h1[h.length + 1]? = some (.dic (kz (sto0 ps)) (vz (sto0 ps))) :=by rw [hh1,List.getElem?_set_ne (by omega),← l0]; exact bu
  rw [show (h0 ++ [Ob.dic (kz (ps.foldl (fun σ p => wr σ p.1 p.2) [])) (vz (ps.foldl (fun σ p => wr σ p.1 p.2) []))]).set h.length (.ins "Doing" ["held"] [.loc (h.length + 1)]) = h1 from hh1.symm]
  clear hh1
  have LN1 : Lw h1 nm (nums.map W.int) :=by
    rcases LN with rfl | ⟨j,rfl,e⟩
    · exact .inl rfl
    · exact .inr ⟨j,rfl,by rw [f1 j (cW e),f0 j (cW e)]; exact e⟩
  rcases LN with e | ⟨j,e,_⟩ <;> subst e
  all_goals
    try simp! only [sFldW,aa]
    refine oU LN1 ?_
    try simp! only [sFldW,aa]
    refine iM c1 (by decide) (ns' := ["held", "numbers"]) (ws' := [.loc (h.length + 1),.tl (nums.map W.int)]) rfl ?_
    have c2 := bo (b := Ob.ins "Doing" ["held", "numbers"] [.loc (h.length + 1),.tl (nums.map W.int)]) c1
    try simp! only [aa]
    refine iM c2 (by decide) (ns' := ["held", "numbers", "taken"]) (ws' := [.loc (h.length + 1),.tl (nums.map W.int),.int 0]) rfl ?_
    have c3 := bo (b := Ob.ins "Doing" ["held", "numbers", "taken"] [.loc (h.length + 1),.tl (nums.map W.int),.int 0]) c2
    try simp! only [aa]
    refine d7 ?_
    try simp! only [aa]
    refine iM (cb c3) (by decide) (ns' := nsD) (ws' := [.loc (h.length + 1),.tl (nums.map W.int),.int 0,.loc (h.length + 2)]) (by unfold nsD; rw [List.length_set,List.length_set,l1]; rfl) ?_
    have l3 : ((h1.set h.length (.ins "Doing" ["held", "numbers"] [.loc (h.length + 1),.tl (nums.map W.int)])).set h.length (.ins "Doing" ["held", "numbers", "taken"] [.loc (h.length + 1),.tl (nums.map W.int),.int 0])).length = h.length + 2 :=by rw [List.length_set,List.length_set,l1]
    try simp! only [aa]
    refine ar ⟨rfl,⟨bo (cb c3),?_,?_,Nat.zero_le _⟩,?_,fun i hi => ?_⟩
    · rw [List.getElem?_set_ne (by omega),List.getElem?_append_left (by omega),List.getElem?_set_ne (by omega),List.getElem?_set_ne (by omega)]; exact d1
    · rw [List.getElem?_set_ne (by omega),← l3]; exact bu
    · rw [List.length_set,List.length_append,l3]; rfl
    · rw [List.getElem?_set_ne (by omega),List.getElem?_append_left (by omega),List.getElem?_set_ne (by omega),List.getElem?_set_ne (by omega),f1 i hi,f0 i hi]
theorem sX {β : Type}{h:List Ob}{bx nm : W}{ps : List (Str × Int)}{nums : List Int}{k:W → M β}{Q:β → List Ob → Prop}{l:Env' → M (List W)}{ρ : Env'} (e:l ρ = pr [bx,nm]) (LB : Lw h bx (ps.map bxW)) (LN : Lw h nm (nums.map W.int)) (q:∀ h',DoAt h' h.length (h.length + 1) (h.length + 2) nums (sta0 ps) → h'.length = h.length + 3 → (∀ i,i < h.length → h'[i]? = h[i]?) → Ok (k (.loc h.length)) h' Q) : Ok (bd (mMake "Doing" 3 bq l ρ) k) h Q :=by
  unfold mMake
  rw [e,bt]
  exact qx rfl (qS LB LN) fun h' ⟨D,l1,f⟩ => q h' D l1 f
end Q
set_option maxHeartbeats 1000000
namespace Q
open PySem L2
local macro_rules | `(tactic| simp! only [$xs,*]) => `(tactic| try simp only [finF,bK,cN,cM,cP,cO,cA,dQ,dR,sFor,mMet,aN,sAug,sAugW,sFldW,tupW,sRet,sSet,sNil,sEx,sPass,cB,sCont,sUnp,bn,mB,L2.m2,L2.m1,L2.m3,mVar,mC,mCall,mCons,mNil,mTup,mTl,mNew,lenG,listL,mPart,aW,mAnd,mOr,mNot,mAndV,mOrV,mNotV,mIf,cH,mMeth,isS,mSrc,mSrcA,srcL,srcT,srcS,tgN,tgT,setW,mYes,bt,bd_no,asB_bl,addW_int,subW_int,ltW_int,leW_int,gtW_int,geW_int,eqW_int,eqW_str,neW_int,neW_str,neW_bl,slW_tl,slW_cl,lenW_tl,lenW_tup,negW,List.set_cons_zero,List.set_cons_succ,List.getElem?_cons_zero,List.getElem?_cons_succ,List.length_cons,List.length_nil,arW,if_true,if_false,Bool.false_eq_true,ite_true,ite_false,reduceIte,decide_true,decide_false,Bool.not_true,Bool.not_false,dP,gdn0,gdn1,gdn2,gdn3,gdn4,gdn5,gdn6,gdn7,gdn8,gdn9,gdn10,gdn11,gdn12,gdn13,gdn14,gdn15,gdn16,gdn17,gdn18,gdn19,gdn20,gdn21,gdn22,gdn23,gdn24,$xs,*])
inductive Rw
  | st (s:Sm)
  | stop
  | jump (t:Nat)
  | cnd (neg : Bool) (c:Str) (a b : Xe) (t:Nat)
  | tab (e:Xe) (ts : List Nat)
noncomputable def Rw.w : Rw → W
  | .st s => s.w
  | .stop => .tup [.str "stop"]
  | .jump t => .tup [.str "jump",nI t]
  | .cnd false c a b t => .tup [.str "when",.str c,a.w,b.w,nI t]
  | .cnd true c a b t => .tup [.str "unless",.str c,a.w,b.w,nI t]
  | .tab e ts => .tup [.str "table",e.w,.tup (ts.map nI)]
noncomputable def Rw.G (ns : List Str) (m:Nat) : Rw → Prop
  | .st s => s.G ns
  | .stop => True
  | .jump t => t < m
  | .cnd _ c a b t => (c = "<" ∨ c = "=") ∧ a.G ns 6 ∧ b.G ns 6 ∧ t < m
  | .tab e ts => e.G ns 6 ∧ 1 ≤ ts.length ∧ ts.length ≤ 6 ∧ ∀ t ∈ ts,t < m
noncomputable def Rw.falls : Rw → Bool
  | .st _ => true
  | .cnd .. => true
  | _ => false
noncomputable def Rw.to (σ : Sto) : Rw → Option Nat
  | .jump t => some t
  | .cnd neg c a b t => if cond σ c a b = neg then none else some t
  | .tab e ts => some (ts.getD (e.val σ % ts.length).toNat 0)
  | _ => none
structure RowsG (ns : List Str) (rows : List Rw) : Prop where
  ne : 0 < rows.length
  g : ∀ (p:Nat) (r:Rw),rows[p]? = some r → r.G ns rows.length ∧ (r.falls = true → p + 1 < rows.length)
structure OutR where
  said : List Int
  en : Str
  jumps : Nat
noncomputable def runR (nums : List Int) (rows : List Rw) : Nat → Nat → Sta → OutR
  | 0,_,s => ⟨s.said, "on",0⟩
  | n + 1,p,s => match rows[p]? with
    | none => ⟨s.said, "",0⟩
    | some .stop => ⟨s.said, "stop",0⟩
    | some (.st st) => if lacks nums s st = true then ⟨s.said, "out",0⟩ else runR nums rows n (p + 1) (doS nums s st)
    | some r => match r.to s.σ with
      | none => runR nums rows n (p + 1) s
      | some t => ⟨(runR nums rows n t s).said,(runR nums rows n t s).en,(runR nums rows n t s).jumps + 1⟩
theorem Rw.G.pd {ns : List Str}{m:Nat} : ∀ {r:Rw},r.G ns m → Pd 9 r.w
  | .st s,p => Sm.G.pd p
  | .stop,_ => pdT (n := 8) (by simp) (aV .str eR)
  | .jump t,_ => pd2i
  | .cnd false c a b t,p => pdT (n := 8) (by simp) (aV .str (aV .str (aV (p.2.1.pd.up (by decide)) (aV (p.2.2.1.pd.up (by decide)) (aV .int eR)))))
  | .cnd true c a b t,p => pdT (n := 8) (by simp) (aV .str (aV .str (aV (p.2.1.pd.up (by decide)) (aV (p.2.2.1.pd.up (by decide)) (aV .int eR)))))
  | .tab e ts,p => pdT (n := 8) (by simp) (aV .str (aV (p.1.pd.up (by decide)) (aV (pdT (n := 7) (by have := p.2.2.1; rw [List.length_map]; omega) fun x hx => by
      obtain ⟨i,_,rfl⟩ := List.mem_map.mp hx
      exact .int) eR)))
theorem oo {c:Str} : inW (.str c) (.tup ((["put", "say", "ask"] : List Str).map W.str)) = pr (.bl (decide (c ∈ (["put", "say", "ask"] : List Str)))) :=by
  funext h
  unfold inW
  have e : inB (.str c) (.tup ((["put", "say", "ask"] : List Str).map W.str)) h = some (decide (c ∈ (["put", "say", "ask"] : List Str))) :=by
    show (match vOf (.str c),vsOf ((["put", "say", "ask"] : List Str).map W.str) with
      | some v,some vs => some (inV v vs)
      | _,_ => none) = _
    rw [fB (k := V.str) (fun a => rfl)]
    show some (inV (.str c) ((["put", "say", "ask"] : List Str).map V.str)) = _
    rw [gC]
  rw [e]; rfl
theorem on {ts : List Nat}{v:Int} (h:1 ≤ ts.length) : atI (ts.map nI) (v % (ts.length : Int)) = some (nI (ts.getD (v % ts.length).toNat 0)) := iW nI ts 0 (Int.emod_nonneg _ (by omega)) (Int.emod_lt_of_pos _ (by omega))
section
variable {ns : List Str}{h:List Ob}{d kh kS : Nat}{nums : List Int}{s:Sta}
noncomputable def toW : Option Nat → W
  | none => .non
  | some t => nI t
theorem mZ {r:Rw}{m:Nat} (D:DoAt h d kh kS nums s) (H:Has ns s.σ) (g:r.G ns m) (n1 : r ≠ .stop) : Ok (cw [.loc d,r.w]) h fun w h' => w = toW (r.to s.σ) ∧ h' = h :=by
  have e0 : cw [.loc d,r.w] = bd (bY [some (.loc d),some r.w]) finF := rfl
  rw [e0]
  unfold bY
  have no : ∀ {c:Str}{l:List W},c ∈ (["put", "say", "ask"] : List Str) → Ok (bd (bY [some (.loc d),some (.tup (.str c :: l))]) finF) h fun w h' => w = .non ∧ h' = h := fun {c l} hc => by
    have c1 : ∀ x ∈ (["put", "say", "ask"] : List Str),decide (x = "jump") = false ∧ decide (x = "when") = false ∧ decide (x = "unless") = false ∧ decide (x = "table") = false :=by decide +kernel
    obtain ⟨a1,a2,a3,a4⟩ := c1 c hc
    unfold bY
    try simp! only [aa,ix0,a1,a2,a3,a4]
    exact ar ⟨rfl,rfl⟩
  cases r with
  | st st =>
    unfold bY at no
    cases st with
    | put y e => exact no (by simp)
    | say e => exact no (by simp)
    | ask y => exact no (by simp)
  | stop => exact absurd rfl n1
  | jump t =>
    unfold Rw.w Rw.to toW
    try simp! only [aa,ix0,ix1,eq_self,decide_true]
    exact ar ⟨rfl,rfl⟩
  | cnd neg c a b t =>
    obtain ⟨_,ga,gb,_⟩ := g
    have q1 : decide (("when" : Str) = "jump") = false :=by decide +kernel
    have q2 : decide (("unless" : Str) = "jump") = false :=by decide +kernel
    have q3 : decide (("unless" : Str) = "when") = false :=by decide +kernel
    cases neg with
    | false =>
      unfold Rw.w Rw.to
      try simp! only [mMet,aa,ix0,ix1,ix2,ix3,ix4,eq_self,decide_true,q1]
      refine iQ D.ob (by unfold nsD; decide +kernel) ?_
      try simp! only [aa,ix0,ix1,ix2,ix3,ix4]
      refine mX D H ga gb ?_
      cases hq : cond s.σ c a b <;> (try simp! only [aa,ix4]) <;> exact ar ⟨by simp [toW],rfl⟩
    | true =>
      unfold Rw.w Rw.to
      try simp! only [mMet,aa,ix0,ix1,ix2,ix3,ix4,eq_self,decide_true,q2,q3]
      refine iQ D.ob (by unfold nsD; decide +kernel) ?_
      try simp! only [aa,ix0,ix1,ix2,ix3,ix4]
      refine mX D H ga gb ?_
      cases hq : cond s.σ c a b <;> (try simp! only [aa,ix4]) <;> exact ar ⟨by simp [toW],rfl⟩
  | tab e ts =>
    obtain ⟨ge,l1,_,_⟩ := g
    have q1 : decide (("table" : Str) = "jump") = false :=by decide +kernel
    have q2 : decide (("table" : Str) = "when") = false :=by decide +kernel
    have q3 : decide (("table" : Str) = "unless") = false :=by decide +kernel
    unfold Rw.w Rw.to toW
    try simp! only [mMet,aa,ix0,ix1,ix2,eq_self,decide_true,q1,q2,q3]
    refine iQ D.ob (by unfold nsD; decide +kernel) ?_
    try simp! only [aa,ix0,ix1,ix2,List.length_map]
    refine pk D H ge (by omega) ?_
    try simp! only [aa,ck (on (ts := ts) (v := e.val s.σ) l1)]
    exact ar ⟨rfl,rfl⟩
end
noncomputable def tR : Env' → M Bool := (mB (m2 ltW (mVar 7) (mVar 3)))
noncomputable def bR : Env' → M Fl := (sSeq (sSet 8 (m2 ixW (mVar 1) (mVar 6))) (sSeq (sIf (mB (m2 eqW (m2 ixW (mVar 8) (mC (.int 0))) (mC (.str "stop")))) (sRet (mTup (mCons (m1 (fldG "Doing" "said") (mVar 4)) (mCons (mTup (mCons (mC (.str "stop")) mNil)) (mCons (mVar 5) mNil))))) sNil) (sSeq (sIf (mB (mMet "Doing" "lacks_number" 2 aS (mVar 4) (mCons (mVar 8) mNil))) (sRet (mTup (mCons (m1 (fldG "Doing" "said") (mVar 4)) (mCons (mTup (mCons (mC (.str "out")) mNil)) (mCons (mVar 5) mNil))))) sNil) (sSeq (sIf (mB (m2 inW (m2 ixW (mVar 8) (mC (.int 0))) (mC (.tup ((["put", "say", "ask"] : List Str).map W.str))))) (sEx (mMet "Doing" "do_statement" 2 bh (mVar 4) (mCons (mVar 8) mNil))) sNil) (sSeq (sSet 9 (mCall (arW 2 cw) (mCons (mVar 4) (mCons (mVar 8) mNil)))) (sSeq (sIf (mB (m2 isNW (mVar 9) (mC .non))) (sAug 6 (mC (.int 1))) (sSeq (sSet 6 (mVar 9)) (sAug 5 (mC (.int 1))))) (sAug 7 (mC (.int 1)))))))))
theorem iG : eX = (sSeq (sSet 4 (mMake "Doing" 3 bq (mCons (mVar 0) (mCons (mVar 2) mNil)))) (sSeq (sSet 5 (mC (.int 0))) (sSeq (sSet 6 (mC (.int 0))) (sSeq (sSet 7 (mC (.int 0))) (sSeq (bV tR bR 202) (sRet (mTup (mCons (m1 (fldG "Doing" "said") (mVar 4)) (mCons (mTup (mCons (mC (.str "on")) mNil)) (mCons (mVar 5) mNil)))))))))) := rfl
noncomputable def envR (bx rw nm : W) (bound : Int) (d:Nat) (jumps place done : Int) (a8 a9 : Option W) : Env' := [some bx,some rw,some nm,some (.int bound),some (.loc d),some (.int jumps),some (.int place),some (.int done),a8,a9]
theorem iD {ns : List Str}{m:Nat}{r:Rw} (g:r.G ns m) : ∃ c l,r.w = .tup (.str c :: l) ∧ (r = .stop ↔ c = "stop") ∧ (c ∈ (["put", "say", "ask"] : List Str) ↔ ∃ st,r = .st st) ∧ ∀ st,r = .st st → decide (c = "ask") = st.asks :=by
  cases r with
  | st st =>
    cases st with
    | put y e => exact ⟨_,_,rfl,⟨fun z => by (cases z),fun z => absurd z (by decide +kernel)⟩,⟨fun _ => ⟨_,rfl⟩,fun _ => by simp⟩,fun st z => by cases z; exact t8⟩
    | say e => exact ⟨_,_,rfl,⟨fun z => by (cases z),fun z => absurd z (by decide +kernel)⟩,⟨fun _ => ⟨_,rfl⟩,fun _ => by simp⟩,fun st z => by cases z; exact t5⟩
    | ask y => exact ⟨_,_,rfl,⟨fun z => by (cases z),fun z => absurd z (by decide +kernel)⟩,⟨fun _ => ⟨_,rfl⟩,fun _ => by simp⟩,fun st z => by cases z; exact decide_eq_true rfl⟩
  | stop => exact ⟨_,_,rfl,⟨fun _ => rfl,fun _ => rfl⟩,⟨fun z => absurd z (by decide +kernel),fun ⟨st,z⟩ => by cases z⟩,fun st z => by cases z⟩
  | jump t => exact ⟨_,_,rfl,⟨fun z => by (cases z),fun z => absurd z (by decide +kernel)⟩,⟨fun z => absurd z (by decide +kernel),fun ⟨st,z⟩ => by cases z⟩,fun st z => by cases z⟩
  | cnd neg c a b t => cases neg <;> exact ⟨_,_,rfl,⟨fun z => by (cases z),fun z => absurd z (by decide +kernel)⟩,⟨fun z => absurd z (by decide +kernel),fun ⟨st,z⟩ => by cases z⟩,fun st z => by cases z⟩
  | tab e ts => exact ⟨_,_,rfl,⟨fun z => by (cases z),fun z => absurd z (by decide +kernel)⟩,⟨fun z => absurd z (by decide +kernel),fun ⟨st,z⟩ => by cases z⟩,fun st z => by cases z⟩
theorem lM {ns : List Str}{m:Nat}{r:Rw} (g:r.G ns m) (n:∀ st,r ≠ .st st) {c:Str}{l:List W} (e:r.w = .tup (.str c :: l)) : decide (c = "ask") = false :=by
  refine decide_eq_false fun z => ?_
  subst z
  obtain ⟨c',l',e',_,q,_⟩ := iD g
  rw [e] at e'
  cases e'
  obtain ⟨st,h⟩ := q.mp (by simp)
  exact n st h
section
variable {ns : List Str}{d kh kS : Nat}{nums : List Int}{rows : List Rw}{bx rw nm : W}{bound : Int}{B:Nat}{h0 : List Ob}
theorem gz (RG : RowsG ns rows) (LR : Lw h0 rw (rows.map Rw.w)) (hB : h0.length ≤ B) (d0 : B ≤ d) (d1 : B ≤ kh) (d2 : B ≤ kS) : ∀ (n m : Nat) (p jumps : Nat) (done : Int) (s:Sta) (h:List Ob) (a8 a9 : Option W),n < m → done + n = bound → DoAt h d kh kS nums s → Has ns s.σ → p < rows.length → s.said.length + n ≤ 100000 → (∀ i,i < h0.length → h[i]? = h0[i]?) → Ok (bV tR bR m (envR bx rw nm bound d jumps p done a8 a9)) h fun x h' => (∀ i,i < B → h'[i]? = h[i]?) ∧ h'[kS]? = some (.lst ((runR nums rows n p s).said.map W.int)) ∧ (x = .rt (.tup [.loc kS,.tup [.str (runR nums rows n p s).en],nI (jumps + (runR nums rows n p s).jumps)]) ∨ ∃ (p' : Nat) (dn : Int) (s' : Sta) (b8 b9 : Option W),x = .nx (envR bx rw nm bound d ((jumps + (runR nums rows n p s).jumps : Nat) : Int) p' dn b8 b9) ∧ (runR nums rows n p s).en = "on" ∧ DoAt h' d kh kS nums s')
  | 0,m + 1,p,jumps,done,s,h,a8,a9,hm,hd,D,H,hp,hz,f => by
    refine uF ?_ ⟨fun _ _ => rfl,D.said,.inr ⟨p,done,s,a8,a9,rfl,rfl,D⟩⟩
    have hc : ¬ done < bound :=by omega
    try simp! only [tR,envR,aa,decide_eq_false hc]
    exact ar ⟨rfl,rfl⟩
  | n + 1,m + 1,p,jumps,done,s,h,a8,a9,hm,hd,D,H,hp,hz,f => by
    refine uE ?_ ?_
    · have hc : done < bound :=by omega
      try simp! only [tR,envR,aa,decide_eq_true hc]
      exact ar ⟨rfl,rfl⟩
    obtain ⟨r,er⟩ : ∃ r,rows[p]? = some r := ⟨_,List.getElem?_eq_getElem hp⟩
    obtain ⟨g,fa⟩ := RG.g p r er
    have LR' : Lw h rw (rows.map Rw.w) := LR.keep f
    obtain ⟨c,l,ew,hs,hst,hask⟩ := iD g
    have at0 : atI (rows.map Rw.w) (p:Int) = some r.w := da (by rw [List.getElem?_map,er]; rfl)
    rw [ew] at at0
    try simp! only [bR,envR,mMet,aa]
    refine LR'.ix at0 ?_
    by_cases c0 : c = "stop"
    · have := hs.mpr c0
      subst this
      try simp! only [aa,ix0,decide_eq_true c0]
      refine cx D.ob (ig ..) ?_
      try simp! only [aa,tupW]
      refine ar (.inr ⟨_,rfl,fun _ _ => rfl,?_,?_⟩)
      · unfold runR; rw [er]; exact D.said
      · unfold runR; rw [er]; exact .inl rfl
    have ns0 : r ≠ .stop := fun z => c0 (hs.mp z)
    try simp! only [aa,ix0,decide_eq_false c0]
    refine iQ D.ob (by unfold nsD; decide +kernel) ?_
    try simp! only [aa]
    refine qN D ?_
    by_cases is : ∃ st,r = .st st
    · obtain ⟨st,rfl⟩ := is
      have ha := hask st rfl
      cases hl : lacks nums s st with
      | true =>
        have hl' : (decide (c = "ask") && decide (s.taken = nums.length)) = true :=by rw [ha]; exact hl
        try simp! only [aa,hl']
        refine cx D.ob (ig ..) ?_
        try simp! only [aa,tupW]
        refine ar (.inr ⟨_,rfl,fun _ _ => rfl,?_,?_⟩)
        · unfold runR; rw [er]; dsimp only; rw [if_pos hl]; exact D.said
        · unfold runR; rw [er]; dsimp only; rw [if_pos hl]; exact .inl rfl
      | false =>
        have hl' : (decide (c = "ask") && decide (s.taken = nums.length)) = false :=by rw [ha]; exact hl
        have er' : runR nums rows (n + 1) p s = runR nums rows n (p + 1) (doS nums s st) :=by
          conv => lhs; unfold runR
          rw [er]; dsimp only; rw [hl,if_neg Bool.false_ne_true]
        try simp! only [aa,hl',ix0,oo,decide_eq_true (hst.mpr ⟨st,rfl⟩)]
        refine iQ D.ob (by unfold nsD; decide +kernel) ?_
        try simp! only [aa]
        rw [← ew]
        refine aM (uy D H g hl (by omega)) fun w h1 qq_ => ?_
        obtain ⟨ew1,D1,H1,O1⟩ := qq_
        subst ew1
        try simp! only [aa]
        refine aM (mZ (r := .st st) D1 H1 g ns0) fun w h2 qq_ => ?_
        obtain ⟨e1,e2⟩ := qq_
        subst e1 e2
        have to0 : Rw.to (doS nums s st).σ (.st st) = none := rfl
        rw [to0]
        try simp! only [aa,toW,isNW,isNon,sAug,gG]
        have ih := gz RG LR hB d0 d1 d2 n m (p + 1) jumps (done + 1) (doS nums s st) h2 (some (Rw.st st).w) (some .non) (by omega) (by omega) D1 H1 (fa rfl) (by have := gF nums s st; omega) fun i hi => (O1.eq i (by omega) (by omega) (by omega)).trans (f i hi)
        rw [er']
        refine ar (.inl ⟨_,rfl,Ok.imp ih fun x h' ⟨q1,q2,q3⟩ => ⟨fun i hi => (q1 i hi).trans (O1.eq i (by omega) (by omega) (by omega)),q2,q3⟩⟩)
    · have na : decide (c = "ask") = false := lM g (fun st z => is ⟨st,z⟩) ew
      try simp! only [aa,na,Bool.false_and,ix0,oo,decide_eq_false (fun z => is (hst.mp z))]
      rw [← ew]
      refine aM (mZ D H g ns0) fun w h2 qq_ => ?_
      obtain ⟨e1,e2⟩ := qq_
      subst e1 e2
      cases ht : r.to s.σ with
      | none =>
        have er' : runR nums rows (n + 1) p s = runR nums rows n (p + 1) s :=by
          conv => lhs; unfold runR
          rw [er]
          cases r with
          | st st => exact absurd ⟨st,rfl⟩ is
          | stop => exact absurd rfl ns0
          | jump t => cases ht
          | cnd neg c a b t => dsimp only; rw [ht]
          | tab e ts => cases ht
        have fl : r.falls = true :=by
          cases r with
          | st st => rfl
          | stop => exact absurd rfl ns0
          | jump t => cases ht
          | cnd neg c a b t => rfl
          | tab e ts => cases ht
        try simp! only [aa,toW,isNW,isNon,sAug,gG]
        have ih := gz RG LR hB d0 d1 d2 n m (p + 1) jumps (done + 1) s h2 (some r.w) (some .non) (by omega) (by omega) D H (fa fl) (by omega) f
        rw [er']
        exact ar (.inl ⟨_,rfl,ih⟩)
      | some t =>
        have er' : runR nums rows (n + 1) p s = ⟨(runR nums rows n t s).said,(runR nums rows n t s).en,(runR nums rows n t s).jumps + 1⟩ :=by
          conv => lhs; unfold runR
          rw [er]
          cases r with
          | st st => exact absurd ⟨st,rfl⟩ is
          | stop => exact absurd rfl ns0
          | jump t => cases ht; rfl
          | cnd neg c a b t => dsimp only; rw [ht]
          | tab e ts => dsimp only; rw [ht]
        have hb : t < rows.length :=by
          cases r with
          | st st => exact absurd ⟨st,rfl⟩ is
          | stop => exact absurd rfl ns0
          | jump t => cases ht; exact g
          | cnd neg c a b t' =>
            have ht : (if cond s.σ c a b = neg then none else some t') = some t := ht
            split at ht
            · cases ht
            · cases ht; exact g.2.2.2
          | tab e ts =>
            cases ht
            obtain ⟨_,g1,_,g2⟩ := g
            have q1 : 0 ≤ e.val s.σ % (ts.length : Int) := Int.emod_nonneg _ (by omega)
            have q2 : e.val s.σ % (ts.length : Int) < ts.length := Int.emod_lt_of_pos _ (by omega)
            rw [List.getD_eq_getElem?_getD,List.getElem?_eq_getElem (by omega),Option.getD_some]
            exact g2 _ (List.getElem_mem _)
        try simp! only [aa,toW,nI,isNW,isNon,sAug,gG]
        have ih := gz RG LR hB d0 d1 d2 n m t (jumps + 1) (done + 1) s h2 (some r.w) (some (nI t)) (by omega) (by omega) D H hb (by omega) f
        rw [er']
        have ej : jumps + 1 + (runR nums rows n t s).jumps = jumps + ((runR nums rows n t s).jumps + 1) :=by omega
        rw [ej] at ih
        exact ar (.inl ⟨_,rfl,ih⟩)
theorem kX {ps : List (Str × Int)}{h:List Ob}{bx rw nm : W}{bound : Nat} (RG : RowsG (ps.map (·.1)) rows) (bl : ps.length ≤ 4) (bv : ∀ p ∈ ps,0 ≤ p.2 ∧ p.2 < 1000) (LB : Lw h bx (ps.map bxW)) (LR : Lw h rw (rows.map Rw.w)) (LN : Lw h nm (nums.map W.int)) (hb : bound < 202) : Ok (dH [bx,rw,nm,nI bound]) h fun w h' => (∀ i,i < h.length → h'[i]? = h[i]?) ∧ ∃ k,h.length ≤ k ∧ w = .tup [.loc k,.tup [.str (runR nums rows bound 0 (sta0 ps)).en],nI (runR nums rows bound 0 (sta0 ps)).jumps] ∧ h'[k]? = some (.lst ((runR nums rows bound 0 (sta0 ps)).said.map W.int)) :=by
  have e0 : dH [bx,rw,nm,nI bound] = bd (eX [some bx,some rw,some nm,some (nI bound),none,none,none,none,none,none]) finF := rfl
  rw [e0,iG]
  try simp! only [aa]
  refine sX (l := mCons (mVar 0) (mCons (mVar 2) mNil)) rfl LB LN fun h1 D l1 f1 => ?_
  try simp! only [aa]
  have lp := gz (bx := bx) (nm := nm) (bound := (bound : Int)) (B := h.length) RG LR (Nat.le_refl _) (Nat.le_refl _) (Nat.le_succ _) (Nat.le_add_right _ _) bound 202 0 0 0 (sta0 ps) h1 none none hb (by omega) D (Has.first bl bv) RG.ne (by show 0 + bound ≤ 100000; omega) f1
  refine aM lp fun x h2 qq_ => ?_
  obtain ⟨q1,q2,q3⟩ := qq_
  rcases q3 with rfl | ⟨p',dn,s',b8,b9,rfl,q4,q5⟩
  · try simp! only [aa]
    exact ar ⟨fun i hi => (q1 i hi).trans (f1 i hi),_,Nat.le_add_right _ _,by rw [Nat.zero_add],q2⟩
  · try simp! only [envR,aa]
    refine cx q5.ob (ig ..) ?_
    try simp! only [aa,tupW]
    exact ar ⟨fun i hi => (q1 i hi).trans (f1 i hi),_,Nat.le_add_right _ _,by rw [Nat.zero_add,q4]; rfl,q2⟩
end
end Q
set_option maxHeartbeats 1000000
namespace Q
open PySem L2
local macro_rules | `(tactic| simp! only [$xs,*]) => `(tactic| try simp only [finF,bK,cN,cM,cP,cO,cA,dQ,dR,sFor,mMet,aN,sAug,sAugW,sFldW,tupW,sRet,sSet,sNil,sEx,sPass,cB,sCont,sUnp,bn,mB,L2.m2,L2.m1,L2.m3,mVar,mC,mCall,mCons,mNil,mTup,mTl,mNew,lenG,listL,mPart,aW,mAnd,mOr,mNot,mAndV,mOrV,mNotV,mIf,cH,mMeth,isS,mSrc,mSrcA,srcL,srcT,srcS,tgN,tgT,setW,mYes,bt,bd_no,asB_bl,addW_int,subW_int,ltW_int,leW_int,gtW_int,geW_int,eqW_int,eqW_str,neW_int,neW_str,neW_bl,slW_tl,slW_cl,lenW_tl,lenW_tup,negW,List.set_cons_zero,List.set_cons_succ,List.getElem?_cons_zero,List.getElem?_cons_succ,List.length_cons,List.length_nil,arW,if_true,if_false,Bool.false_eq_true,ite_true,ite_false,reduceIte,decide_true,decide_false,Bool.not_true,Bool.not_false,dP,gdn0,gdn1,gdn2,gdn3,gdn4,gdn5,gdn6,gdn7,gdn8,gdn9,gdn10,gdn11,gdn12,gdn13,gdn14,gdn15,gdn16,gdn17,gdn18,gdn19,gdn20,gdn21,gdn22,gdn23,gdn24,$xs,*])
structure Bl where
  nm : Str
  sts : List Sm
  en : En
noncomputable def Bl.G (ns : List Str) (m:Nat) (b:Bl) : Prop := b.sts.length ≤ 8 ∧ (∀ s ∈ b.sts,s.G ns) ∧ b.en.G ns m
noncomputable def BlAt (h:List Ob) (bl : W) (bs : List Bl) : Prop := ∃ ls : List W,Lw h bl ls ∧ ls.length = bs.length ∧ ∀ (i:Nat) (b:Bl),bs[i]? = some b → ∃ y,ls[i]? = some (.tup [.str b.nm,y,b.en.w]) ∧ Lw h y (b.sts.map Sm.w)
theorem BlAt.keep {h h' : List Ob}{x:W}{bs : List Bl} (P:BlAt h x bs) (f:∀ i,i < h.length → h'[i]? = h[i]?) : BlAt h' x bs :=by
  obtain ⟨ls,L1,ll,q⟩ := P
  refine ⟨ls,L1.keep f,ll,fun i b hb => ?_⟩
  obtain ⟨y,e1,L3⟩ := q i b hb
  exact ⟨y,e1,L3.keep f⟩
noncomputable def PgAt (h:List Ob) (x:W) (ps : List (Str × Int)) (bs : List Bl) : Prop := ∃ (bx bl : W) (ls : List W),x = .tup [bx,bl] ∧ Lw h bx (ps.map bxW) ∧ Lw h bl ls ∧ ls.length = bs.length ∧ ∀ (i:Nat) (b:Bl),bs[i]? = some b → ∃ y,ls[i]? = some (.tup [.str b.nm,y,b.en.w]) ∧ Lw h y (b.sts.map Sm.w)
theorem PgAt.bl {h:List Ob}{x:W}{ps : List (Str × Int)}{bs : List Bl} (P:PgAt h x ps bs) : ∃ bx bl,x = .tup [bx,bl] ∧ Lw h bx (ps.map bxW) ∧ BlAt h bl bs :=by
  obtain ⟨bx,bl,ls,e,L1,L2,ll,q⟩ := P
  exact ⟨bx,bl,e,L1,ls,L2,ll,q⟩
structure PgG (ps : List (Str × Int)) (bs : List Bl) : Prop where
  bx : Bx ps
  bv : ∀ p ∈ ps,0 ≤ p.2 ∧ p.2 < 1000
  l1 : 1 ≤ bs.length
  l2 : bs.length ≤ 10
  g : ∀ b ∈ bs,b.G (ps.map (·.1)) bs.length
end Q
set_option maxHeartbeats 1000000
namespace Q
open PySem L2
local macro_rules | `(tactic| simp! only [$xs,*]) => `(tactic| try simp only [finF,bK,cN,cM,cP,cO,cA,dQ,dR,sFor,mMet,aN,sAug,sAugW,sFldW,tupW,sRet,sSet,sNil,sEx,sPass,cB,sCont,sUnp,bn,mB,L2.m2,L2.m1,L2.m3,mVar,mC,mCall,mCons,mNil,mTup,mTl,mNew,lenG,listL,mPart,aW,mAnd,mOr,mNot,mAndV,mOrV,mNotV,mIf,cH,mMeth,isS,mSrc,mSrcA,srcL,srcT,srcS,tgN,tgT,setW,mYes,bt,bd_no,asB_bl,addW_int,subW_int,ltW_int,leW_int,gtW_int,geW_int,eqW_int,eqW_str,neW_int,neW_str,neW_bl,slW_tl,slW_cl,lenW_tl,lenW_tup,negW,List.set_cons_zero,List.set_cons_succ,List.getElem?_cons_zero,List.getElem?_cons_succ,List.length_cons,List.length_nil,arW,if_true,if_false,Bool.false_eq_true,ite_true,ite_false,reduceIte,decide_true,decide_false,Bool.not_true,Bool.not_false,dP,gdn0,gdn1,gdn2,gdn3,gdn4,gdn5,gdn6,gdn7,gdn8,gdn9,gdn10,gdn11,gdn12,gdn13,gdn14,gdn15,gdn16,gdn17,gdn18,gdn19,gdn20,gdn21,gdn22,gdn23,gdn24,$xs,*])
noncomputable def T30 : Int := 10 ^ (30 : Int).toNat
theorem t30a : 0 < T30 :=by decide +kernel
theorem t30b : T30 < 2 ^ 200 :=by decide +kernel
theorem pw30 : powW (.int 10) (.int 30) = pr (.int T30) := iE (i := 10) (j := 30) ⟨by decide,by decide,by decide⟩
theorem nO {h:List Ob}{j:Nat} (R:Reel h j) : Ok (cS [.loc j]) h fun w h' => (∃ v : Int,w = .int v) ∧ Kp j h h' :=by
  have e0 : cS [.loc j] = bd (dX [some (.loc j),none]) finF := rfl
  rw [e0]
  unfold dX
  try simp! only [aa]
  refine aH R (by decide) (by decide) fun v h1 v0 v1 K1 => ?_
  by_cases c0 : v = 0
  · try simp! only [aa,decide_eq_true c0,pw30]
    refine aH K1.re t30a t30b fun u h2 u0 u1 K2 => ?_
    try simp! only [aa]
    exact ar ⟨⟨_,rfl⟩,K1.trans K2⟩
  by_cases c1 : v = 1
  · try simp! only [aa,decide_eq_false c0,decide_eq_true c1,pw30]
    refine aH K1.re t30a t30b fun u h2 u0 u1 K2 => ?_
    try simp! only [aa]
    exact ar ⟨⟨_,rfl⟩,K1.trans K2⟩
  by_cases c2 : v = 2
  · try simp! only [aa,decide_eq_false c0,decide_eq_false c1,decide_eq_true c2]
    refine aH K1.re (by decide) (by decide) fun u h2 u0 u1 K2 => ?_
    try simp! only [aa]
    exact ar ⟨⟨_,rfl⟩,K1.trans K2⟩
  · try simp! only [aa,decide_eq_false c0,decide_eq_false c1,decide_eq_false c2]
    refine aH K1.re (by decide) (by decide) fun u h2 u0 u1 K2 => ?_
    try simp! only [aa]
    exact ar ⟨⟨_,rfl⟩,K1.trans K2⟩
theorem hW (l:List W) : srcL (.tl l) = pr ⟨l,fun _ => True⟩ := rfl
theorem gU (k:Bool) : intW [.bl k] = pr (.int (if k then 1 else 0)) := rfl
theorem nv (a b : List W) (h:a.length + b.length ≤ sizeLine) : addW (.tl a) (.tl b) = pr (.tl (a ++ b)) :=by
  show gd (a.length + b.length ≤ sizeLine) (pr (W.tl (a ++ b))) = _
  exact aE h
theorem tH {α : Type} (l:List α) (lo hi : Option Int) : (cutW l lo hi).length ≤ l.length :=by
  unfold cutW
  rw [List.length_take,List.length_drop]
  omega
theorem qW {α : Type} (ns : List α) (a b : Nat) : (cutW ns (some (a:Int)) (some (b:Int))).length ≤ b - a :=by
  unfold cutW
  rw [List.length_take]
  refine Nat.le_trans (Nat.min_le_left _ _) ?_
  show (if (b:Int) < 0 then ((b:Int) + (ns.length : Int)).toNat else min (b:Int).toNat ns.length) - (if (a:Int) < 0 then ((a:Int) + (ns.length : Int)).toNat else min (a:Int).toNat ns.length) ≤ b - a
  rw [if_neg (by omega),if_neg (by omega)]
  omega
end Q
set_option maxHeartbeats 1000000
namespace Q
open PySem L2
local macro_rules | `(tactic| simp! only [$xs,*]) => `(tactic| try simp only [finF,bK,cN,cM,cP,cO,cA,dQ,dR,sFor,mMet,aN,sAug,sAugW,sFldW,tupW,sRet,sSet,sNil,sEx,sPass,cB,sCont,sUnp,bn,mB,L2.m2,L2.m1,L2.m3,mVar,mC,mCall,mCons,mNil,mTup,mTl,mNew,lenG,listL,mPart,aW,mAnd,mOr,mNot,mAndV,mOrV,mNotV,mIf,cH,mMeth,isS,mSrc,mSrcA,srcL,srcT,srcS,tgN,tgT,setW,mYes,bt,bd_no,asB_bl,addW_int,subW_int,ltW_int,leW_int,gtW_int,geW_int,eqW_int,eqW_str,neW_int,neW_str,neW_bl,slW_tl,slW_cl,lenW_tl,lenW_tup,negW,List.set_cons_zero,List.set_cons_succ,List.getElem?_cons_zero,List.getElem?_cons_succ,List.length_cons,List.length_nil,arW,if_true,if_false,Bool.false_eq_true,ite_true,ite_false,reduceIte,decide_true,decide_false,Bool.not_true,Bool.not_false,dP,gdn0,gdn1,gdn2,gdn3,gdn4,gdn5,gdn6,gdn7,gdn8,gdn9,gdn10,gdn11,gdn12,gdn13,gdn14,gdn15,gdn16,gdn17,gdn18,gdn19,gdn20,gdn21,gdn22,gdn23,gdn24,$xs,*])
noncomputable def bodyP : Env' → M Fl := (sSeq (sSet 8 (mCall (arW 1 aO) (mCons (mCall (arW 2 am) (mCons (mVar 2) (mCons (m2 powW (mC (.int 10)) (mC (.int 40))) mNil))) mNil))) (sSeq (sSet 9 (mCall (arW 3 d6) (mCons (mVar 8) (mCons (mVar 3) (mCons (mVar 6) mNil))))) (sSeq (sSet 10 (mNew (mComp [] (mSrcA (mCons (mCall (arW 2 am) (mCons (mVar 8) (mCons (mC (.int 3)) mNil))) mNil) rng1) (tgN 0) mYes (mCall (arW 2 aZ) (mCons (mVar 10) (mCons (mVar 5) mNil))) 2))) (sEx (mMeth isL bU (mVar 7) (mCons (mTup (mCons (m2 ixW (mVar 1) (m2 modW (m2 addW (mVar 5) (mVar 4)) (mC (.int 14)))) (mCons (mVar 10) (mCons (mVar 9) mNil)))) mNil))))))
theorem gm : dM = (sSeq (sSet 1 (mCall (arW 2 dl) (mCons (mCall (arW 1 aO) (mCons (mCall (arW 2 aQ) (mCons (mVar 0) (mCons (mC (.int 0)) mNil))) mNil)) (mCons (mC (.int 14)) mNil)))) (sSeq (sSet 2 (mCall (arW 1 aO) (mCons (mCall (arW 2 aQ) (mCons (mVar 0) (mCons (mC (.int 1)) mNil))) mNil))) (sSeq (sSet 3 (mNew (lenG mNil))) (sSeq (sFor (mSrcA (mCons (mCall (arW 2 am) (mCons (mVar 2) (mCons (mC (.int 5)) mNil))) mNil) rng1) (tgN 4) (sEx (mMeth isL bU (mVar 3) (mCons (mTup (mCons (m2 ixW (mVar 1) (mVar 4)) (mCons (mCall (arW 2 am) (mCons (mVar 2) (mCons (m2 ixW (mTl (lenG (mCons (mC (.int 4)) (mCons (mC (.int 1000)) mNil)))) (mCall (arW 2 am) (mCons (mVar 2) (mCons (mC (.int 2)) mNil)))) mNil))) mNil))) mNil)))) (sSeq (sSet 5 (mCall (arW 2 am) (mCons (mVar 2) (mCons (mC (.int 14)) mNil)))) (sSeq (sSet 6 (m2 addW (mC (.int 1)) (mCall (arW 2 am) (mCons (mVar 2) (mCons (mC (.int 10)) mNil))))) (sSeq (sSet 7 (mNew (lenG mNil))) (sSeq (sFor (mSrcA (mCons (mVar 6) mNil) rng1) (tgN 4) bodyP) (sRet (mTup (mCons (m1 iceW (mVar 3)) (mCons (m1 iceW (mVar 7)) mNil)))))))))))) := rfl
noncomputable def bodyF : Env' → M Fl := (sSeq (sSet 8 (mCall (arW 1 aO) (mCons (mVar 7) mNil))) (sSeq (sSet 9 (m2 ixW (m2 ixW (mVar 3) (mCall (arW 2 am) (mCons (mVar 8) (mCons (mCall lenW (mCons (mVar 3) mNil)) mNil)))) (mC (.int 1)))) (sIf (mB (m2 ltW (mCall lenW (mCons (mVar 9) mNil)) (mC (.int 8)))) (sEx (mMeth isL gB (mVar 9) (mCons (mCall (arW 2 am) (mCons (mVar 8) (mCons (m2 addW (mCall lenW (mCons (mVar 9) mNil)) (mC (.int 1))) mNil))) (mCons (mCall (arW 2 aZ) (mCons (mVar 8) (mCons (mVar 2) mNil))) mNil)))) sNil)))
theorem gL : dY = (sSeq (sUnp (tgT [2,3]) (mVar 1)) (sSeq (sSet 4 (mCall (arW 1 aO) (mCons (mCall (arW 2 aQ) (mCons (mVar 0) (mCons (mC (.int 2)) mNil))) mNil))) (sSeq (sSet 5 (m3 slW (mVar 0) (mPart (mC (.int 3))) (mPart (mC (.int 63))))) (sSeq (sSet 6 (mCall (arW 2 am) (mCons (mVar 4) (mCons (m2 addW (mCall lenW (mCons (mVar 5) mNil)) (mC (.int 1))) mNil)))) (sSeq (sFor (mSrc (m3 slW (mVar 5) aW (mPart (mVar 6))) srcL) (tgN 7) bodyF) (sSeq (sSet 5 (m2 addW (m3 slW (mVar 5) (mPart (mVar 6)) aW) (mTl (mComp [] (mSrcA (mCons (mCall (arW 2 am) (mCons (mVar 4) (mCons (mC (.int 6)) mNil))) mNil) rng1) (tgN 0) mYes (mCall (arW 2 am) (mCons (mVar 6) (mCons (m2 powW (mC (.int 10)) (mC (.int 40))) mNil))) 2)))) (sRet (mTl (mComp [] (mSrc (mVar 5) srcL) (tgN 0) mYes (mCall (arW 1 cS) (mCons (mCall (arW 1 aO) (mCons (mVar 0) mNil)) mNil)) 2))))))))) := rfl
noncomputable def T40 : Int := 10 ^ (40 : Int).toNat
theorem t40a : 0 < T40 :=by decide +kernel
theorem t40b : T40 < 2 ^ 200 :=by decide +kernel
theorem pw40 : powW (.int 10) (.int 40) = pr (.int T40) := iE (i := 10) (j := 40) ⟨by decide,by decide,by decide⟩
structure Bk where
  nm : Str
  k : Nat
  e : En
noncomputable def Bk.w (b:Bk) : W := .tup [.str b.nm,.loc b.k,b.e.w]
noncomputable def StsG (ns : List Str) (sts : List Sm) : Prop := sts.length ≤ 8 ∧ ∀ x ∈ sts,x.G ns
noncomputable def GoodH (ns : List Str) (h:List Ob) (bl : List Bk) : Prop := ∀ b ∈ bl,∃ sts : List Sm,h[b.k]? = some (.lst (sts.map Sm.w)) ∧ StsG ns sts
theorem GoodH.keep {ns : List Str}{h h' : List Ob}{bl : List Bk} (G:GoodH ns h bl) (f:∀ b ∈ bl,h'[b.k]? = h[b.k]?) : GoodH ns h' bl := fun b hb => by rw [f b hb]; exact G b hb
noncomputable def envP (S:W) (zs : List Str) (jr kx : Nat) (a4 : Option W) (u N : Int) (kb : Nat) (a8 a9 a10 : Option W) : Env' := [some S,some (.tl (zs.map W.str)),some (.loc jr),some (.loc kx),a4,some (.int u),some (.int N),some (.loc kb),a8,a9,a10]
theorem pO {h:List Ob}{S:W}{zs : List Str}{jr kx kb i : Nat}{u N : Int}{a8 a9 a10 : Option W}{ps : List (Str × Int)}{bl : List Bk} (B:Bx ps) (lz : zs.length = 14) (u0 : 0 ≤ u) (n1 : 1 ≤ N) (n2 : N ≤ 10) (R:Reel h jr) (ex : h[kx]? = some (.lst (ps.map bxW))) (eb : h[kb]? = some (.lst (bl.map Bk.w))) (nx : jr ≠ kx) (nb : jr ≠ kb) (bi : bl.length ≤ 10) :
    Ok (bodyP (envP S zs jr kx (some (.int i)) u N kb a8 a9 a10)) h fun x h' => ∃ a8 a9 a10 b,x = .nx (envP S zs jr kx (some (.int i)) u N kb a8 a9 a10) ∧ Reel h' jr ∧ h'[kb]? = some (.lst ((bl ++ [b]).map Bk.w)) ∧ (∀ j,j < h.length → j ≠ jr → j ≠ kb → h'[j]? = h[j]?) ∧ h.length < b.k ∧ b.k < h'.length ∧ b.e.G (ps.map (·.1)) N.toNat ∧ ∃ sts : List Sm,h'[b.k]? = some (.lst (sts.map Sm.w)) ∧ StsG (ps.map (·.1)) sts :=by
  unfold bodyP
  have bx := cW ex
  have bb := cW eb
  obtain ⟨ra,rb,re⟩ := R
  have br := cW re
  try simp! only [envP,aa,pw40]
  refine aH ⟨ra,rb,re⟩ t40a t40b fun c h1 c0 c1 K1 => ?_
  have l1 := K1.fr.len
  try simp! only [aa]
  refine gg fun a b => ?_
  try simp! only [aa]
  have L : Lb (h1 ++ [.lst [.int a,.int b]]) h1.length (.loc kx) ps := .inr ⟨kx,rfl,by omega,cb ((K1.fr.eq kx (Ne.symm nx)).trans ex)⟩
  refine aM (tD B (m := N) (by omega) (by omega) (j := h1.length) ⟨a,b,bu⟩ L) fun w h2 qq_ => ?_
  obtain ⟨⟨e,ew,ge⟩,K2⟩ := qq_
  subst ew
  try simp! only [aa,aN]
  refine aH K2.re (by decide) (by decide) fun v h3 v0 v1 K3 => ?_
  have gl : ∀ {α : Type} (q:M α),gd ((intsW 0 v.toNat).length ≤ sizeLine) q = q := fun q => aE (by rw [bz]; exact sz (by omega))
  try simp! only [aa,cC (show (-(2 ^ 62) : Int) ≤ v by omega) (show (v:Int) < 2 ^ 62 by omega),gl]
  refine fN (I := fun n l h' => Kp h1.length (h1 ++ [.lst [.int a,.int b]]) h' ∧ ∃ sts : List Sm,l = sts.map Sm.w ∧ sts.length = n ∧ ∀ x ∈ sts,x.G (ps.map (·.1))) ⟨K2.trans K3,[],rfl,rfl,fun x hx => absurd hx List.not_mem_nil⟩ gH (fun _ _ _ _ => trivial) (fun n w l h4 hw J => ?_) fun l h4 J => ?_
  · obtain ⟨K4,sts,rfl,ll,pl⟩ := J
    refine ⟨_,rfl,?_⟩
    try simp! only [List.replicate,List.cons_append,List.nil_append,aa]
    refine Ok.imp (oq B K4.re (L.kp K4)) fun w h5 ⟨⟨st,ew,g⟩,K5⟩ => ⟨K4.trans K5,sts ++ [st],by rw [ew,List.map_append]; rfl,by rw [List.length_append,ll]; rfl,fun x hx => ?_⟩
    rcases List.mem_append.mp hx with hx | hx
    · exact pl x hx
    · rw [List.mem_singleton.mp hx]; exact g
  · obtain ⟨K4,sts,rfl,ll,pl⟩ := J
    rw [bz] at ll
    have l4 := K4.fr.len
    rw [List.length_append,List.length_singleton] at l4
    have fr : ∀ j,j < h.length → j ≠ jr → h4[j]? = h[j]? := fun j hj hr => by
      rw [K4.fr.eq j (by omega),List.getElem?_append_left (by omega),K1.fr.eq j hr]
    have rr : ∃ a b : Int,h4[jr]? = some (.lst [.int a,.int b]) :=by
      obtain ⟨a',b',e'⟩ := K1.re
      exact ⟨a',b',by rw [K4.fr.eq jr (by omega),List.getElem?_append_left (by omega)]; exact e'⟩
    have e4 : h4[kb]? = some (.lst (bl.map Bk.w)) := (fr kb bb (Ne.symm nb)).trans eb
    try simp! only [aa]
    refine d7 ?_
    have e5 : (h4 ++ [.lst (sts.map Sm.w)])[kb]? = some (.lst (bl.map Bk.w)) := cb e4
    obtain ⟨z,ez⟩ : ∃ z : Str,ixW (.tl (zs.map W.str)) (.int ((u + (i:Int)) % 14)) = pr (.str z) :=by
      obtain ⟨y,hy,e⟩ := fq (l := zs.map W.str) (i := (u + (i:Int)) % 14) (Int.emod_nonneg _ (by decide)) (by rw [List.length_map,lz]; exact Int.emod_lt_of_pos _ (by decide))
      obtain ⟨z,_,rfl⟩ := List.mem_map.mp hy
      exact ⟨z,eG e⟩
    try simp! only [aa]
    refine cV e5 ?_
    try simp! only [aa,bM (i := u + (i:Int)) (show (0 : Int) < 14 by decide),ez,tupW]
    refine dF e5 (by rw [List.length_map]; exact Nat.lt_of_le_of_lt bi (by decide)) ?_
    try simp! only [aa]
    refine ar ⟨_,_,_,⟨z,h4.length,e⟩,rfl,?_,?_,fun j hj hr hb => ?_,?_,?_,ge,sts,?_,by omega,pl⟩
    · obtain ⟨a',b',e'⟩ := rr
      exact ⟨a',b',by rw [List.getElem?_set_ne (Ne.symm nb)]; exact cb e'⟩
    · rw [bo e5,List.map_append]; rfl
    · rw [List.getElem?_set_ne (Ne.symm hb),List.getElem?_append_left (by omega)]; exact fr j hj hr
    · show h.length < h4.length; omega
    · show h4.length < ((h4 ++ [Ob.lst (sts.map Sm.w)]).set kb _).length
      rw [List.length_set,List.length_append]; show h4.length < h4.length + 1; omega
    · show ((h4 ++ [Ob.lst (sts.map Sm.w)]).set kb _)[h4.length]? = _
      rw [List.getElem?_set_ne (by omega)]; exact bu
structure ProgG (h:List Ob) (ps : List (Str × Int)) (bl : List Bk) : Prop where
  bx : Bx ps
  bv : ∀ p ∈ ps,0 ≤ p.2 ∧ p.2 < 1000
  l1 : 1 ≤ bl.length
  l2 : bl.length ≤ 10
  good : ∀ b ∈ bl,b.e.G (ps.map (·.1)) bl.length ∧ b.k < h.length
  hp : GoodH (ps.map (·.1)) h bl
  nd : (bl.map (·.k)).Nodup
theorem lW (ns : List Int) (hh : List Ob) : Ok (cX [.cl (ns.map W.int)]) hh fun w h' => ∃ ps bl,w = .tup [.tl (ps.map bxW),.tl (bl.map Bk.w)] ∧ ProgG h' ps bl :=by
  have e0 : cX [.cl (ns.map W.int)] = bd (dM [some (.cl (ns.map W.int)),none,none,none,none,none,none,none,none,none,none]) finF := rfl
  rw [e0,gm]
  obtain ⟨c0,ec0⟩ := ik ns 0 (by decide)
  obtain ⟨c1,ec1⟩ := ik ns 1 (by decide)
  try simp! only [aa,ec0,ec1]
  refine gg fun a b => ?_
  try simp! only [aa]
  refine aM (oW (j := hh.length) ⟨a,b,bu⟩) fun w h1 qq_ => ?_
  obtain ⟨zs,e,lz,nz⟩ := qq_
  subst e
  try simp! only [aa]
  refine gg fun a b => ?_
  try simp! only [aa]
  refine d7 ?_
  have ex0 : (h1 ++ [Ob.lst [.int a,.int b]] ++ [Ob.lst []])[h1.length + 1]? = some (.lst []) :=by
    rw [show h1.length + 1 = (h1 ++ [Ob.lst [.int a,.int b]]).length by simp]; exact bu
  have er0 : Reel (h1 ++ [Ob.lst [.int a,.int b]] ++ [Ob.lst []]) h1.length := ⟨a,b,cb bu⟩
  have el0 : (h1 ++ [Ob.lst [.int a,.int b]]).length = h1.length + 1 :=by simp
  rw [el0]
  generalize h1 ++ [Ob.lst [.int a,.int b]] ++ [Ob.lst []] = h2 at *
  generalize h1.length = jr at *
  try simp! only [sFor,aa]
  refine aH er0 (by decide) (by decide) fun v h3 v0 v1 K3 => ?_
  try simp! only [aa,cC (show (-(2 ^ 62) : Int) ≤ v by omega) (show (v:Int) < 2 ^ 62 by omega)]
  refine eS (I := fun i ρ h' => ∃ a4 ps,ρ = [some (.cl (ns.map W.int)),some (.tl (zs.map W.str)),some (.loc jr),some (.loc (jr + 1)),a4,none,none,none,none,none,none] ∧ Reel h' jr ∧ h'[jr + 1]? = some (.lst (ps.map bxW)) ∧ ps.length = i ∧ ∀ p ∈ ps,Nm p.1 ∧ 0 ≤ p.2 ∧ p.2 < 1000) ⟨_,[],rfl,K3.re,(K3.fr.eq _ (by omega)).trans ex0,rfl,fun p hp => absurd hp List.not_mem_nil⟩ (fun _ _ _ _ => trivial) (fun i w ρ h4 hw I => ?_) fun ρ h4 I => ?_
  · obtain ⟨a4,ps,rfl,R4,e4,ll,np⟩ := I
    obtain ⟨rfl,hi⟩ := cI _ _ _ _ hw
    have hi : (i:Int) < 5 :=by omega
    obtain ⟨z,hz,ez⟩ : ∃ z ∈ zs,ixW (.tl (zs.map W.str)) (.int (0 + (i:Int))) = pr (.str z) :=by
      obtain ⟨y,hy,e⟩ := fq (l := zs.map W.str) (i := 0 + (i:Int)) (by omega) (by rw [List.length_map]; omega)
      obtain ⟨z,hz,rfl⟩ := List.mem_map.mp hy
      exact ⟨z,hz,eG e⟩
    refine ⟨_,rfl,?_⟩
    try simp! only [aa]
    refine cV e4 ?_
    try simp! only [aa,ez]
    refine aH R4 (by decide) (by decide) fun x h5 x0 x1 K5 => ?_
    obtain ⟨m,m0,m1,em⟩ : ∃ m : Int,0 < m ∧ m ≤ 1000 ∧ atI [W.int 4,W.int 1000] x = some (.int m) :=by
      obtain ⟨y,hy,e⟩ := fq (l := ([4,1000] : List Int).map W.int) x0 x1
      obtain ⟨m,hm,rfl⟩ := List.mem_map.mp hy
      have a : ∀ m ∈ ([4,1000] : List Int),0 < m ∧ m ≤ 1000 :=by decide
      exact ⟨m,(a m hm).1,(a m hm).2,e⟩
    try simp! only [aa,eG em]
    refine aH K5.re m0 (Int.lt_of_le_of_lt m1 (by decide)) fun y h6 y0 y1 K6 => ?_
    have K56 := K5.trans K6
    have e6 : h6[jr + 1]? = some (.lst (ps.map bxW)) := (K56.fr.eq _ (by omega)).trans e4
    try simp! only [aa,tupW]
    refine dF e6 (by rw [List.length_map]; exact Nat.lt_of_le_of_lt (show ps.length ≤ 5 by omega) (by decide)) ?_
    try simp! only [aa]
    refine ar ⟨_,rfl,_,ps ++ [(z,y)],rfl,?_,?_,by rw [List.length_append,ll]; rfl,fun p hp => ?_⟩
    · obtain ⟨a',b',e'⟩ := K6.re
      exact ⟨a',b',by rw [List.getElem?_set_ne (by omega)]; exact e'⟩
    · rw [bo e6,List.map_append]; rfl
    · rcases List.mem_append.mp hp with hp | hp
      · exact np p hp
      · rw [List.mem_singleton.mp hp]; exact ⟨nz z hz,y0,by show y < 1000; omega⟩
  · obtain ⟨a4,ps,rfl,R4,e4,ll,np⟩ := I
    rw [bz] at ll
    have B : Bx ps := ⟨by omega,fun p hp => (np p hp).1⟩
    try simp! only [aa]
    refine aH R4 (by decide) (by decide) fun u h5 u0 u1 K5 => ?_
    try simp! only [aa]
    refine aH K5.re (by decide) (by decide) fun n h6 n0 n1 K6 => ?_
    have K56 := K5.trans K6
    have e6 : h6[jr + 1]? = some (.lst (ps.map bxW)) := (K56.fr.eq _ (by omega)).trans e4
    have bk := cW e6
    obtain ⟨N,hN⟩ : ∃ N : Int,N = 1 + n := ⟨_,rfl⟩
    obtain ⟨ra,rb,re⟩ := K6.re
    try simp! only [aa,← hN]
    refine d7 ?_
    try simp! only [sFor,aa,cC (show (-(2 ^ 62) : Int) ≤ N by omega) (show N < 2 ^ 62 by omega)]
    refine eS (I := fun i ρ h' => ∃ a4 a8 a9 a10 bl,ρ = envP (.cl (ns.map W.int)) zs jr (jr + 1) a4 u N h6.length a8 a9 a10 ∧ Reel h' jr ∧ h'[jr + 1]? = some (.lst (ps.map bxW)) ∧ h'[h6.length]? = some (.lst (bl.map Bk.w)) ∧ bl.length = i ∧ GoodH (ps.map (·.1)) h' bl ∧ (∀ b ∈ bl,b.e.G (ps.map (·.1)) N.toNat ∧ h6.length < b.k ∧ b.k < h'.length) ∧ (bl.map (·.k)).Nodup) ⟨_,_,_,_,[],rfl,⟨ra,rb,cb re⟩,cb e6,bu,rfl,fun b hb => absurd hb List.not_mem_nil,fun b hb => absurd hb List.not_mem_nil,List.nodup_nil⟩ (fun _ _ _ _ => trivial) (fun i w ρ h7 hw I => ?_) fun ρ h7 I => ?_
    · obtain ⟨a4,a8,a9,a10,bl,rfl,R7,e7,eb,lq,G,gb,nd⟩ := I
      obtain ⟨rfl,hi⟩ := cI _ _ _ _ hw
      rw [show (0 : Int) + (i:Int) = (i:Int) by omega]
      refine ⟨envP (.cl (ns.map W.int)) zs jr (jr + 1) (some (.int i)) u N h6.length a8 a9 a10,rfl,?_⟩
      have b7 := cW eb
      have b71 := cW e7
      refine Ok.imp (pO B lz u0 (by omega) (by omega) R7 e7 eb (by omega) (by omega) (by omega)) fun x h8 ⟨b8,b9,b10,b,e,R8,eb8,fr,k1,k2,ge,sts,es,sg⟩ => ⟨_,e,_,_,_,_,bl ++ [b],rfl,R8,(fr _ b71 (by omega) (by omega)).trans e7,eb8,by rw [List.length_append,lq]; rfl,fun c hc => ?_,fun c hc => ?_,?_⟩
      · rcases List.mem_append.mp hc with hc | hc
        · obtain ⟨_,q1,q2⟩ := gb c hc
          rw [fr c.k q2 (by omega) (by omega)]; exact G c hc
        · rw [List.mem_singleton.mp hc]; exact ⟨sts,es,sg⟩
      · rcases List.mem_append.mp hc with hc | hc
        · obtain ⟨q0,q1,q2⟩ := gb c hc
          refine ⟨q0,q1,?_⟩
          obtain ⟨s',e',_⟩ := G c hc
          rw [← fr c.k q2 (by omega) (by omega)] at e'
          exact cW e'
        · rw [List.mem_singleton.mp hc]; exact ⟨ge,by omega,k2⟩
      · rw [List.map_append]
        refine List.nodup_append.mpr ⟨nd,by simp,fun x hx y hy => ?_⟩
        obtain ⟨c,hc,rfl⟩ := List.mem_map.mp hx
        rw [List.mem_singleton.mp hy]
        have := (gb c hc).2.2
        show c.k ≠ b.k
        omega
    · obtain ⟨a4,a8,a9,a10,bl,rfl,R7,e7,eb,lq,G,gb,nd⟩ := I
      rw [bz] at lq
      have eN : N = (bl.length : Int) :=by omega
      have eN' : N.toNat = bl.length :=by omega
      try simp! only [envP,aa]
      refine fX e7 ?_
      try simp! only [aa]
      refine fX (l := bl.map Bk.w) (by rw [List.getElem?_set_ne (by omega)]; exact eb) ?_
      try simp! only [aa,tupW]
      refine ar ⟨ps,bl,rfl,B,fun p hp => (np p hp).2,by omega,by omega,fun b hb => ⟨by rw [← eN']; exact (gb b hb).1,by rw [List.length_set,List.length_set]; exact (gb b hb).2.2⟩,G.keep fun b hb => ?_,nd⟩
      have := (gb b hb).2.1
      rw [List.getElem?_set_ne (by omega),List.getElem?_set_ne (by omega)]
theorem sJ {β : Type}{h:List Ob}{k:W → M β}{Q:β → List Ob → Prop}{j:Nat}{l:List W}{i:Int}{w:W} (e:h[j]? = some (.lst l)) (i0 : 0 ≤ i) (i1 : i ≤ l.length) (z:l.length < sizeLine) (q:Ok (k .non) (h.set j (.lst (l.take i.toNat ++ [w] ++ l.drop i.toNat))) Q) : Ok (bd (gB (.loc j) [.int i,w]) k) h Q :=by
  refine bp (a := .non) (h' := h.set j (.lst (l.take i.toNat ++ [w] ++ l.drop i.toNat))) ?_ q
  unfold gB
  simp only [e,if_pos (show 0 ≤ i ∧ i ≤ (l.length : Int) ∧ l.length < sizeLine from ⟨i0,i1,z⟩)]
theorem bw1 (b:Bk) : ixW b.w (.int 1) = pr (.loc b.k) := ix1 _ _ _
noncomputable def envF (S P : W) (bx : W) (bs : List W) (jr : Nat) (cs : List W) (c:Int) (a7 a8 a9 : Option W) : Env' := [some S,some P,some bx,some (.tl bs),some (.loc jr),some (.tl cs),some (.int c),a7,a8,a9]
theorem pP {h:List Ob}{S P : W}{ps : List (Str × Int)}{bl : List Bk}{jr : Nat}{cs : List W}{c x : Int}{a8 a9 : Option W} (B:Bx ps) (l1 : 1 ≤ bl.length) (l2 : bl.length ≤ 10) (G:GoodH (ps.map (·.1)) h bl) (gk : ∀ b ∈ bl,b.k < jr) (R:Reel h jr) :
    Ok (bodyF (envF S P (.tl (ps.map bxW)) (bl.map Bk.w) jr cs c (some (.int x)) a8 a9)) h fun y h' => ∃ a8 a9,y = .nx (envF S P (.tl (ps.map bxW)) (bl.map Bk.w) jr cs c (some (.int x)) a8 a9) ∧ GoodH (ps.map (·.1)) h' bl ∧ Reel h' jr :=by
  unfold bodyF
  obtain ⟨ra,rb,re⟩ := R
  have br := cW re
  try simp! only [envF,aa]
  refine gg fun a b => ?_
  try simp! only [aa,List.length_map]
  refine aH (j := h.length) ⟨a,b,bu⟩ (by omega) (Int.lt_of_le_of_lt (show (bl.length : Int) ≤ 10 by omega) (by decide)) fun v h1 v0 v1 K1 => ?_
  obtain ⟨y,hy,ey⟩ := fq (l := bl.map Bk.w) v0 (by rw [List.length_map]; exact v1)
  obtain ⟨d,hd,rfl⟩ := List.mem_map.mp hy
  have dk := gk d hd
  obtain ⟨sts,es,sl,sg⟩ := G d hd
  have f1 : ∀ i,i < h.length → h1[i]? = h[i]? := fun i hi => by rw [K1.fr.eq i (by omega),List.getElem?_append_left hi]
  have e1 : h1[d.k]? = some (.lst (sts.map Sm.w)) := (f1 _ (by omega)).trans es
  try simp! only [aa,eG ey,bw1]
  refine Lw.len_eq (N := (sts.length : Int)) (.inr ⟨d.k,rfl,e1⟩) (by rw [List.length_map]) ?_
  by_cases h8 : (sts.length : Int) < 8
  · try simp! only [aa,decide_eq_true h8]
    refine cV e1 ?_
    try simp! only [aa]
    refine Lw.len_eq (N := (sts.length : Int)) (.inr ⟨d.k,rfl,e1⟩) (by rw [List.length_map]) ?_
    try simp! only [aa]
    refine aH K1.re (by omega) (Int.lt_of_le_of_lt (show (sts.length : Int) + 1 ≤ 10 by omega) (by decide)) fun u h2 u0 u1 K2 => ?_
    try simp! only [aa]
    refine aM (oq B (x := .tl (ps.map bxW)) K2.re (.inl rfl)) fun w h3 qq_ => ?_
    obtain ⟨⟨st,ew,g⟩,K3⟩ := qq_
    subst ew
    have K123 := K2.trans K3
    have f3 : ∀ i,i < h.length → h3[i]? = h[i]? := fun i hi => by rw [K123.fr.eq i (by omega)]; exact f1 i hi
    have e3 : h3[d.k]? = some (.lst (sts.map Sm.w)) := (f3 _ (by omega)).trans es
    try simp! only [aa]
    refine sJ e3 u0 (by rw [List.length_map]; omega) (by rw [List.length_map]; exact Nat.lt_of_le_of_lt sl (by decide)) ?_
    try simp! only [aa]
    refine ar ⟨_,_,rfl,fun b' hb => ?_,ra,rb,?_⟩
    · by_cases hk : b'.k = d.k
      · refine ⟨sts.take u.toNat ++ [st] ++ sts.drop u.toNat,by rw [hk,bo e3,List.map_append,List.map_append,List.map_take,List.map_drop]; rfl,?_,fun x hx => ?_⟩
        · rw [List.length_append,List.length_append,List.length_take,List.length_drop,List.length_singleton]; omega
        · rcases List.mem_append.mp hx with hx | hx
          · rcases List.mem_append.mp hx with hx | hx
            · exact sg x (List.mem_of_mem_take hx)
            · rw [List.mem_singleton.mp hx]; exact g
          · exact sg x (List.mem_of_mem_drop hx)
      · have := gk b' hb
        rw [List.getElem?_set_ne (Ne.symm hk),f3 _ (by omega)]
        exact G b' hb
    · rw [List.getElem?_set_ne (by omega),f3 _ br]; exact re
  · try simp! only [aa,decide_eq_false h8]
    refine ar ⟨_,_,rfl,G.keep fun b' hb => ?_,ra,rb,(f1 _ br).trans re⟩
    have := gk b' hb
    exact f1 _ (by omega)
theorem oa {h:List Ob}{ps : List (Str × Int)}{bl : List Bk} (ns : List Int) (P:ProgG h ps bl) : Ok (du [.cl (ns.map W.int),.tup [.tl (ps.map bxW),.tl (bl.map Bk.w)]]) h fun w h' => ProgG h' ps bl ∧ ∃ nums : List Int,w = .tl (nums.map W.int) ∧ nums.length ≤ 100 :=by
  have e0 : du [.cl (ns.map W.int),.tup [.tl (ps.map bxW),.tl (bl.map Bk.w)]] = bd (dY [some (.cl (ns.map W.int)),some (.tup [.tl (ps.map bxW),.tl (bl.map Bk.w)]),none,none,none,none,none,none,none,none]) finF := rfl
  rw [e0,gL]
  obtain ⟨c2,ec2⟩ := ik ns 2 (by decide)
  obtain ⟨B,bv,l1,l2,gd',G,nd⟩ := P
  have gk : ∀ b ∈ bl,b.k < h.length := fun b hb => (gd' b hb).2
  have cl : (cutW ns (some 3) (some 63)).length ≤ 60 := qW ns 3 63
  obtain ⟨cs,hcs⟩ : ∃ cs,cutW ns (some 3) (some 63) = cs := ⟨_,rfl⟩
  have ce : cutW (ns.map W.int) (some 3) (some 63) = cs.map W.int :=by rw [kE,hcs]
  rw [hcs] at cl
  try simp! only [aa,ec2]
  refine gg fun a b => ?_
  try simp! only [aa,ce,List.length_map]
  refine aH (j := h.length) ⟨a,b,bu⟩ (by omega) (Int.lt_of_le_of_lt (show (cs.length : Int) + 1 ≤ 100 by omega) (by decide)) fun c h1 c0 c1 K1 => ?_
  have G1 : GoodH (ps.map (·.1)) h1 bl := G.keep fun b' hb => by
    have := gk b' hb
    rw [K1.fr.eq _ (by omega),List.getElem?_append_left this]
  try simp! only [sFor,aa,hW,kE]
  refine eS (I := fun i ρ h' => (∃ a7 a8 a9,ρ = envF (.cl (ns.map W.int)) (.tup [.tl (ps.map bxW),.tl (bl.map Bk.w)]) (.tl (ps.map bxW)) (bl.map Bk.w) h.length (cs.map W.int) c a7 a8 a9) ∧ GoodH (ps.map (·.1)) h' bl ∧ Reel h' h.length) ⟨⟨_,_,_,rfl⟩,G1,K1.re⟩ (fun _ _ _ _ => trivial) (fun i w ρ h2 hw I => ?_) fun ρ h2 I => ?_
  · obtain ⟨⟨a7,a8,a9,rfl⟩,G2,R2⟩ := I
    rw [List.getElem?_map] at hw
    obtain ⟨x,_,rfl⟩ := Option.map_eq_some_iff.mp hw
    refine ⟨envF (.cl (ns.map W.int)) (.tup [.tl (ps.map bxW),.tl (bl.map Bk.w)]) (.tl (ps.map bxW)) (bl.map Bk.w) h.length (cs.map W.int) c (some (.int x)) a8 a9,rfl,?_⟩
    exact Ok.imp (pP B l1 l2 G2 gk R2) fun y h3 ⟨b8,b9,e,G3,R3⟩ => ⟨_,e,⟨_,_,_,rfl⟩,G3,R3⟩
  · obtain ⟨⟨a7,a8,a9,rfl⟩,G2,R2⟩ := I
    try simp! only [envF,aa,aN,kE]
    refine aH R2 (by decide) (by decide) fun v h3 v0 v1 K3 => ?_
    have gl : ∀ {α : Type} (q:M α),gd ((intsW 0 v.toNat).length ≤ sizeLine) q = q := fun q => aE (by rw [bz]; exact sz (by omega))
    have G3 : GoodH (ps.map (·.1)) h3 bl := G2.keep fun b' hb => K3.fr.eq _ (by have := gk b' hb; omega)
    try simp! only [aa,cC (show (-(2 ^ 62) : Int) ≤ v by omega) (show (v:Int) < 2 ^ 62 by omega),gl]
    refine fN (I := fun n l h' => Kp h.length h3 h' ∧ ∃ zs : List Int,l = zs.map W.int ∧ zs.length = n) ⟨Kp.refl K3.re,[],rfl,rfl⟩ gH (fun _ _ _ _ => trivial) (fun n w l h4 hw J => ?_) fun l h4 J => ?_
    · obtain ⟨K4,zs,rfl,ll⟩ := J
      refine ⟨_,rfl,?_⟩
      try simp! only [List.replicate,List.cons_append,List.nil_append,aa,pw40]
      refine Ok.imp (jY K4.re t40a t40b) fun w h5 ⟨u,e,_,_,K5⟩ => ?_
      subst e
      exact ⟨K4.trans K5,zs ++ [u],by rw [List.map_append]; rfl,by rw [List.length_append,ll]; rfl⟩
    · obtain ⟨K4,zs,rfl,ll⟩ := J
      rw [bz] at ll
      have G4 : GoodH (ps.map (·.1)) h4 bl := G3.keep fun b' hb => K4.fr.eq _ (by have := gk b' hb; omega)
      have b4 : h.length < h4.length :=by
        obtain ⟨_,_,e⟩ := K4.re
        exact cW e
      have c3 := tH cs (some c) none
      have ad : addW (.tl ((cutW cs (some c) none).map W.int)) (.tl (zs.map W.int)) = pr (.tl ((cutW cs (some c) none ++ zs).map W.int)) :=by
        rw [nv _ _ (sz (by rw [List.length_map,List.length_map]; omega)),List.map_append]
      have tl : (cutW cs (some c) none ++ zs).length ≤ 100 :=by rw [List.length_append]; omega
      generalize cutW cs (some c) none ++ zs = ds at *
      have gl : ∀ {α : Type} (q:M α),gd ((ds.map W.int).length ≤ sizeLine) q = q := fun q => aE (by rw [List.length_map]; exact sz (by omega))
      try simp! only [aa,ad,hW,aN,gl]
      refine fN (I := fun n l h' => GoodH (ps.map (·.1)) h' bl ∧ h.length < h'.length ∧ ∃ us : List Int,l = us.map W.int ∧ us.length = n) ⟨G4,b4,[],rfl,rfl⟩ gH (fun _ _ _ _ => trivial) (fun n w l h5 hw J => ?_) fun l h5 J => ?_
      · obtain ⟨G5,b5,us,rfl,lu⟩ := J
        rw [List.getElem?_map] at hw
        obtain ⟨x,_,rfl⟩ := Option.map_eq_some_iff.mp hw
        refine ⟨_,rfl,?_⟩
        try simp! only [List.replicate,List.cons_append,List.nil_append,aa]
        refine gg fun a b => ?_
        try simp! only [aa]
        refine Ok.imp (nO (j := h5.length) ⟨a,b,bu⟩) fun w h6 ⟨⟨y,ew⟩,K6⟩ => ⟨G5.keep fun b' hb => ?_,?_,us ++ [y],by rw [ew,List.map_append]; rfl,by rw [List.length_append,lu]; rfl⟩
        · have := gk b' hb
          rw [K6.fr.eq _ (by omega),List.getElem?_append_left (by omega)]
        · rw [K6.fr.len,List.length_append]; omega
      · obtain ⟨G5,b5,us,rfl,lu⟩ := J
        try simp! only [aa]
        exact ar ⟨⟨B,bv,l1,l2,fun b' hb => ⟨(gd' b' hb).1,by have := gk b' hb; omega⟩,G5,nd⟩,us,rfl,by rw [List.length_map] at lu; omega⟩
theorem ProgG.pg {h:List Ob}{ps : List (Str × Int)}{bl : List Bk} (P:ProgG h ps bl) : ∃ bs : List Bl,PgAt h (.tup [.tl (ps.map bxW),.tl (bl.map Bk.w)]) ps bs ∧ PgG ps bs ∧ bs.length = bl.length :=by
  obtain ⟨B,bv,l1,l2,g,G,nd⟩ := P
  have : ∃ bs : List Bl,bs.length = bl.length ∧ ∀ (i:Nat) (c:Bk),bl[i]? = some c → ∃ b : Bl,bs[i]? = some b ∧ b.nm = c.nm ∧ b.en = c.e ∧ h[c.k]? = some (.lst (b.sts.map Sm.w)) ∧ StsG (ps.map (·.1)) b.sts :=by
    clear l1 l2 g nd
    induction bl with
    | nil => exact ⟨[],rfl,fun i c hc => by simp at hc⟩
    | cons c bl ih =>
      obtain ⟨bs,e1,q⟩ := ih fun b hb => G b (List.mem_cons_of_mem _ hb)
      obtain ⟨sts,e2,q2⟩ := G c List.mem_cons_self
      refine ⟨⟨c.nm,sts,c.e⟩ :: bs,by rw [List.length_cons,List.length_cons,e1],fun i d hd => ?_⟩
      cases i with
      | zero => cases hd; exact ⟨_,rfl,rfl,rfl,e2,q2⟩
      | succ i => exact q i d (by simpa using hd)
  obtain ⟨bs,e,q⟩ := this
  have back : ∀ (i:Nat) (b:Bl),bs[i]? = some b → ∃ c,bl[i]? = some c := fun i b hb => ⟨_,List.getElem?_eq_getElem (by have := (List.getElem?_eq_some_iff.mp hb).1; omega)⟩
  refine ⟨bs,⟨_,_,_,rfl,.inl rfl,.inl rfl,by rw [List.length_map,e],fun i b hb => ?_⟩,⟨B,bv,by omega,by omega,fun b hb => ?_⟩,e⟩
  · obtain ⟨c,hc⟩ := back i b hb
    obtain ⟨b',h1,h2,h3,h4,h5⟩ := q i c hc
    rw [hb] at h1
    cases h1
    exact ⟨.loc c.k,by rw [List.getElem?_map,hc,h2,h3]; rfl,.inr ⟨_,rfl,h4⟩⟩
  · obtain ⟨i,hi⟩ := List.getElem?_of_mem hb
    obtain ⟨c,hc⟩ := back i b hi
    obtain ⟨b',h1,h2,h3,h4,h5⟩ := q i c hc
    rw [hi] at h1
    cases h1
    exact ⟨h5.1,h5.2,by rw [h3,e]; exact (g c (List.mem_of_getElem? hc)).1⟩
end Q
set_option maxHeartbeats 1000000
namespace Q
open PySem L2
local macro_rules | `(tactic| simp! only [$xs,*]) => `(tactic| try simp only [finF,bK,cN,cM,cP,cO,cA,dQ,dR,sFor,mMet,aN,sAug,sAugW,sFldW,tupW,sRet,sSet,sNil,sEx,sPass,cB,sCont,sUnp,bn,mB,L2.m2,L2.m1,L2.m3,mVar,mC,mCall,mCons,mNil,mTup,mTl,mNew,lenG,listL,mPart,aW,mAnd,mOr,mNot,mAndV,mOrV,mNotV,mIf,cH,mMeth,isS,mSrc,mSrcA,srcL,srcT,srcS,tgN,tgT,setW,mYes,bt,bd_no,asB_bl,addW_int,subW_int,ltW_int,leW_int,gtW_int,geW_int,eqW_int,eqW_str,neW_int,neW_str,neW_bl,slW_tl,slW_cl,lenW_tl,lenW_tup,negW,List.set_cons_zero,List.set_cons_succ,List.getElem?_cons_zero,List.getElem?_cons_succ,List.length_cons,List.length_nil,arW,if_true,if_false,Bool.false_eq_true,ite_true,ite_false,reduceIte,decide_true,decide_false,Bool.not_true,Bool.not_false,dP,gdn0,gdn1,gdn2,gdn3,gdn4,gdn5,gdn6,gdn7,gdn8,gdn9,gdn10,gdn11,gdn12,gdn13,gdn14,gdn15,gdn16,gdn17,gdn18,gdn19,gdn20,gdn21,gdn22,gdn23,gdn24,$xs,*])
section
variable {β : Type}{h:List Ob}{k:W → M β}{Q:β → List Ob → Prop}{j:Nat}{l:List W}
theorem sG {ns : List Nat} (e:h[j]? = some (.lst (ns.map nI))) (q:Ok (k (.bl (!ns.isEmpty))) h Q) : Ok (bd (neW (.loc j) (.tl [])) k) h Q :=by
  refine bp (a := .bl (!ns.isEmpty)) (h' := h) ?_ q
  have o1 : optL (dataH h 49) (ns.map nI) = some (ns.map fun (n:Nat) => PyData.int (n:Int)) := d5 (f := dataH h 49) (g := nI) (k := fun (n:Nat) => PyData.int (n:Int)) (fun a => rfl) ns
  have x1 : dataH h 50 (.loc j) = some (.list (ns.map fun (n:Nat) => PyData.int (n:Int))) :=by
    show (match h[j]? with
      | some (.lst l) => (optL (dataH h 49) l).map PyData.list
      | _ => none) = _
    simp only [e,o1]; rfl
  have ca : PyData.canLayAll0 (ns.map fun (n:Nat) => PyData.int (n:Int)) = true := jm ns fun z hz => by rw [PyData.canLay0]
  have e2 : eqB (.loc j) (.tl []) h = some ns.isEmpty :=by
    show (match dataH h 50 (.loc j),dataH h 50 (.tl []) with
      | some d,some e => if d.canLay0 = true ∧ e.canLay0 = true then some (PyData.eqv d e) else none
      | _,_ => none) = _
    rw [x1,show dataH h 50 (.tl []) = some (.list []) from rfl]
    show (if (PyData.list (ns.map fun (n:Nat) => PyData.int (n:Int))).canLay0 = true ∧ (PyData.list []).canLay0 = true then some (PyData.eqv (.list (ns.map fun (n:Nat) => PyData.int (n:Int))) (.list [])) else none) = _
    rw [if_pos ⟨by rw [PyData.canLay0]; exact ca,by rw [PyData.canLay0,PyData.canLayAll0]⟩,PyData.eqv]
    cases ns with
    | nil => rw [List.map_nil,PyData.eqvAll]; rfl
    | cons a b => rw [List.map_cons,PyData.eqvAll]; rfl
  unfold neW
  rw [e2]
theorem lf {v:Int}{w:W} (e:h[j]? = some (.lst l)) (v0 : 0 ≤ v) (v1 : v < 2 ^ 63) (ex : l[v.toNat]? = some w) (q:Ok (k w) (h.set j (.lst (l.eraseIdx v.toNat))) Q) : Ok (bd (fV (.loc j) [.int v]) k) h Q :=by
  refine bp (a := w) (h' := h.set j (.lst (l.eraseIdx v.toNat))) ?_ q
  have hl := (List.getElem?_eq_some_iff.mp ex).1
  have e2 : ixN l.length v = some v.toNat :=by
    unfold ixN
    rw [if_pos v0,if_pos (by omega)]
  unfold fV
  simp only [e,if_pos (show -(2 ^ 63) ≤ v ∧ v < 2 ^ 63 from ⟨by omega,v1⟩),e2,ex]
end
theorem jR {α : Type} (f:α → W) : ∀ (l:List α) (i:Nat),(l.map f).eraseIdx i = (l.eraseIdx i).map f
  | [],_ => rfl
  | a :: l,0 => rfl
  | a :: l,i + 1 => congrArg (f a :: ·) (jR f l i)
theorem jj {α : Type} : ∀ (l:List α) (i:Nat) (x:α),l[i]? = some x → List.Perm (x :: l.eraseIdx i) l
  | [],_,_,h => by cases h
  | a :: l,0,x,h => by cases h; exact List.Perm.refl _
  | a :: l,i + 1,x,h => by
    rw [List.getElem?_cons_succ] at h
    exact (List.Perm.swap a x _).trans (List.Perm.cons a (jj l i x h))
structure Ord (m:Nat) (os : List Nat) : Prop where
  pm : List.Perm os (List.range m)
  hd : os[0]? = some 0
noncomputable def tO : Env' → M Bool := (mB (m2 neW (mVar 2) (mTl (lenG mNil))))
noncomputable def bO : Env' → M Fl := (sEx (mMeth isL bU (mVar 3) (mCons (mMeth isL fV (mVar 2) (mCons (mCall (arW 2 am) (mCons (mVar 0) (mCons (mCall lenW (mCons (mVar 2) mNil)) mNil))) mNil)) mNil)))
theorem g9 : eA = (sSeq (sSet 2 (mNew (mComp [] (mSrcA (mCons (mC (.int 1)) (mCons (mVar 1) mNil)) rng2) (tgN 0) mYes (mVar 0) 2))) (sSeq (sSet 3 (mNew (lenG (mCons (mC (.int 0)) mNil)))) (sSeq (bV tO bO 12) (sRet (mCall eP (mCons (mVar 3) mNil)))))) := rfl
theorem ma {j kl ko : Nat}{N:Int}{m:Nat} (k1 : j ≠ kl) (k2 : j ≠ ko) (k3 : kl ≠ ko) (n:Nat) : ∀ {h:List Ob}{os ls : List Nat},Reel h j → h[kl]? = some (.lst (ls.map nI)) → h[ko]? = some (.lst (os.map nI)) → List.Perm (os ++ ls) (List.range m) → os[0]? = some 0 → ls.length < n → os.length + ls.length ≤ 100 →
    Ok (bV tO bO n [some (.loc j),some (.int N),some (.loc kl),some (.loc ko)]) h fun x h' => x = .nx [some (.loc j),some (.int N),some (.loc kl),some (.loc ko)] ∧ ∃ os' : List Nat,h'[ko]? = some (.lst (os'.map nI)) ∧ Ord m os' ∧ Reel h' j ∧ ∀ i,i ≠ j → i ≠ kl → i ≠ ko → h'[i]? = h[i]? := by
  induction n with
  | zero => intro h os ls R e1 e2 p hd hn hb; exact absurd hn (Nat.not_lt_zero _)
  | succ n ih =>
    intro h os ls R e1 e2 p hd hn hb
    unfold bV tO
    try simp! only [aa]
    refine sG e1 ?_
    cases ls with
    | nil =>
      try simp! only [List.isEmpty_nil,aa]
      rw [List.append_nil] at p
      exact ar ⟨rfl,os,e2,⟨p,hd⟩,R,fun _ _ _ _ => rfl⟩
    | cons y ls =>
      try simp! only [List.isEmpty_cons,aa]
      unfold bO
      try simp! only [aa]
      refine cV e2 ?_
      try simp! only [aa]
      refine cV e1 ?_
      try simp! only [aa]
      refine (Lw.len (.inr ⟨kl,rfl,e1⟩)) ?_
      try simp! only [aa]
      have hl : ((y :: ls).map nI).length = ls.length + 1 :=by simp
      refine aH R (by omega) (Int.lt_of_le_of_lt (show ((((y :: ls).map nI).length : Nat) : Int) ≤ 100 by rw [List.length_cons] at hb; omega) (by decide)) fun v h1 v0 v1 K1 => ?_
      have f1 : h1[kl]? = some (.lst ((y :: ls).map nI)) := (K1.fr.eq _ (Ne.symm k1)).trans e1
      have f2 : h1[ko]? = some (.lst (os.map nI)) := (K1.fr.eq _ (Ne.symm k2)).trans e2
      have hv : v.toNat < (y :: ls).length :=by rw [List.length_cons]; omega
      obtain ⟨x,hx⟩ : ∃ x,(y :: ls)[v.toNat]? = some x := ⟨_,List.getElem?_eq_getElem hv⟩
      try simp! only [aa]
      refine lf f1 v0 (by rw [hl] at v1; rw [List.length_cons] at hb; omega) (w := nI x) (by rw [List.getElem?_map,hx]; rfl) ?_
      have g1 : (h1.set kl (.lst (((y :: ls).map nI).eraseIdx v.toNat)))[kl]? = some (.lst (((y :: ls).eraseIdx v.toNat).map nI)) :=by rw [bo f1,jR]
      have g2 : (h1.set kl (.lst (((y :: ls).map nI).eraseIdx v.toNat)))[ko]? = some (.lst (os.map nI)) :=by rw [List.getElem?_set_ne k3]; exact f2
      have g3 : Reel (h1.set kl (.lst (((y :: ls).map nI).eraseIdx v.toNat))) j :=by
        obtain ⟨a,b,e⟩ := K1.re
        exact ⟨a,b,by rw [List.getElem?_set_ne (Ne.symm k1)]; exact e⟩
      have g4 : ∀ i,i ≠ j → i ≠ kl → (h1.set kl (.lst (((y :: ls).map nI).eraseIdx v.toNat)))[i]? = h[i]? := fun i a b => by rw [List.getElem?_set_ne (Ne.symm b)]; exact K1.fr.eq i a
      generalize h1.set kl (.lst (((y :: ls).map nI).eraseIdx v.toNat)) = h2 at *
      try simp! only [aa]
      refine dF g2 (by rw [List.length_map]; exact Nat.lt_of_le_of_lt (show os.length ≤ 100 by omega) (by decide)) ?_
      try simp! only [aa]
      have le : ((y :: ls).eraseIdx v.toNat).length = ls.length :=by rw [List.length_eraseIdx_of_lt hv,List.length_cons]; omega
      refine Ok.imp (ih (os := os ++ [x]) (ls := (y :: ls).eraseIdx v.toNat) ?_ ?_ ?_ ?_ (by rw [List.getElem?_append_left (List.getElem?_eq_some_iff.mp hd).1]; exact hd) (by rw [le]; rw [List.length_cons] at hn; omega) (by rw [le,List.length_append]; rw [List.length_cons] at hb; show os.length + 1 + ls.length ≤ 100; omega)) fun x' h' ⟨e,os',q1,q2,q3,q4⟩ => ⟨e,os',q1,q2,q3,fun i a b c => by rw [q4 i a b c,List.getElem?_set_ne (Ne.symm c)]; exact g4 i a b⟩
      · obtain ⟨a,b,e⟩ := g3
        exact ⟨a,b,by rw [List.getElem?_set_ne (Ne.symm k2)]; exact e⟩
      · rw [List.getElem?_set_ne (Ne.symm k3)]; exact g1
      · rw [bo g2,List.map_append]; rfl
      · refine List.Perm.trans ?_ p
        rw [List.append_assoc]
        refine List.Perm.append_left os ?_
        exact jj _ _ _ hx
theorem oP {h:List Ob}{j m : Nat} (m1 : 1 ≤ m) (m2 : m ≤ 10) (R:Reel h j) : Ok (dj [.loc j,nI m]) h fun w h' => ∃ os,w = .tup (os.map nI) ∧ Ord m os ∧ Reel h' j ∧ ∀ i,i < h.length → i ≠ j → h'[i]? = h[i]? := by
  have e0 : dj [.loc j,nI m] = bd (eA [some (.loc j),some (nI m),none,none]) finF := rfl
  rw [e0,g9]
  have jl : j < h.length :=by obtain ⟨_,_,e⟩ := R; exact cW e
  have gl : ∀ {α : Type} (q:M α),gd ((intsW 1 ((m:Int) - 1).toNat).length ≤ sizeLine) q = q := fun q => aE (by rw [bz]; exact sz (by omega))
  try simp! only [nI,aa,aN,oz (i := 1) (j := (m:Int)) (by decide) (by decide) (by omega) (by omega),gl]
  refine fN (I := fun n a h' => a = ((List.range n).map fun r => r + 1).map nI ∧ h' = h) ⟨rfl,rfl⟩ gH (fun _ _ _ _ => trivial) (fun n w a h' hw I => ?_) fun a h' I => ?_
  · obtain ⟨rfl,rfl⟩ := I
    obtain ⟨rfl,hn⟩ := cI _ _ _ _ hw
    refine ⟨_,rfl,?_⟩
    try simp! only [List.replicate,List.cons_append,List.nil_append,aa]
    refine ar ⟨?_,rfl⟩
    rw [List.range_succ,List.map_append,List.map_append]
    show _ ++ [W.int (1 + (n:Int))] = _ ++ [W.int ((n + 1 : Nat) : Int)]
    rw [show (1 + (n:Int)) = ((n + 1 : Nat) : Int) by omega]
  obtain ⟨rfl,rfl⟩ := I
  rw [bz]
  refine d7 ?_
  try simp! only [aa]
  refine d7 ?_
  try simp! only [aa]
  have e1 : (h' ++ [Ob.lst (((List.range ((m:Int) - 1).toNat).map fun r => r + 1).map nI)] ++ [Ob.lst [W.int 0]])[h'.length]? = some (.lst (((List.range ((m:Int) - 1).toNat).map fun r => r + 1).map nI)) := cb bu
  have e2 : (h' ++ [Ob.lst (((List.range ((m:Int) - 1).toNat).map fun r => r + 1).map nI)] ++ [Ob.lst [W.int 0]])[h'.length + 1]? = some (.lst (([0] : List Nat).map nI)) :=by
    rw [show h'.length + 1 = (h' ++ [Ob.lst (((List.range ((m:Int) - 1).toNat).map fun r => r + 1).map nI)]).length by simp]; exact bu
  have e3 : Reel (h' ++ [Ob.lst (((List.range ((m:Int) - 1).toNat).map fun r => r + 1).map nI)] ++ [Ob.lst [W.int 0]]) j :=by
    obtain ⟨a,b,e⟩ := R
    exact ⟨a,b,cb (cb e)⟩
  have e4 : ∀ i,i < h'.length → (h' ++ [Ob.lst (((List.range ((m:Int) - 1).toNat).map fun r => r + 1).map nI)] ++ [Ob.lst [W.int 0]])[i]? = h'[i]? := fun i hi => by rw [List.getElem?_append_left (by simp; omega),List.getElem?_append_left hi]
  have e5 : (h' ++ [Ob.lst (((List.range ((m:Int) - 1).toNat).map fun r => r + 1).map nI)]).length = h'.length + 1 :=by simp
  rw [e5]
  generalize h' ++ [Ob.lst (((List.range ((m:Int) - 1).toNat).map fun r => r + 1).map nI)] ++ [Ob.lst [W.int 0]] = h2 at *
  have pm : List.Perm ([0] ++ (List.range ((m:Int) - 1).toNat).map fun r => r + 1) (List.range m) :=by
    obtain ⟨n,rfl⟩ : ∃ n,m = n + 1 := ⟨m - 1,by omega⟩
    rw [show (((n + 1 : Nat) : Int) - 1).toNat = n by omega,List.range_succ_eq_map]
    exact List.Perm.refl _
  refine aM (ma (N := (m:Int)) (m := m) (by omega) (by omega) (by omega) 12 e3 e1 e2 pm rfl (by rw [List.length_map,List.length_range]; omega) (by rw [List.length_map,List.length_range]; show 1 + _ ≤ 100; omega)) fun x h3 qq_ => ?_
  obtain ⟨ex,os,q1,q2,q3,q4⟩ := qq_
  subst ex
  try simp! only [aa]
  have tl : eP [.loc (h'.length + 1)] h3 = .ok (.tup (os.map nI)) h3 :=by
    show bd (lstOf (.loc (h'.length + 1))) (fun l => pr (W.tup l)) h3 = _
    rw [dq (Lw.of (.inr ⟨_,rfl,q1⟩))]; rfl
  refine bp tl ?_
  try simp! only [aa]
  exact ar ⟨os,rfl,q2,q3,fun i hi hj => by rw [q4 i hj (by omega) (by omega)]; exact e4 i hi⟩
theorem nL {h:List Ob}{j m : Nat}{N:Int} (hN : N = (m:Int)) (m1 : 1 ≤ m) (m2 : m ≤ 10) (R:Reel h j) : Ok (dj [.loc j,.int N]) h fun w h' => ∃ os,w = .tup (os.map nI) ∧ Ord m os ∧ Reel h' j ∧ ∀ i,i < h.length → i ≠ j → h'[i]? = h[i]? := by
  subst hN
  exact oP m1 m2 R
end Q
set_option maxHeartbeats 1000000
namespace Q
open PySem L2
local macro_rules | `(tactic| simp! only [$xs,*]) => `(tactic| try simp only [finF,bK,cN,cM,cP,cO,cA,dQ,dR,sFor,mMet,aN,sAug,sAugW,sFldW,tupW,sRet,sSet,sNil,sEx,sPass,cB,sCont,sUnp,bn,mB,L2.m2,L2.m1,L2.m3,mVar,mC,mCall,mCons,mNil,mTup,mTl,mNew,lenG,listL,mPart,aW,mAnd,mOr,mNot,mAndV,mOrV,mNotV,mIf,cH,mMeth,isS,mSrc,mSrcA,srcL,srcT,srcS,tgN,tgT,setW,mYes,bt,bd_no,asB_bl,addW_int,subW_int,ltW_int,leW_int,gtW_int,geW_int,eqW_int,eqW_str,neW_int,neW_str,neW_bl,slW_tl,slW_cl,lenW_tl,lenW_tup,negW,List.set_cons_zero,List.set_cons_succ,List.getElem?_cons_zero,List.getElem?_cons_succ,List.length_cons,List.length_nil,arW,if_true,if_false,Bool.false_eq_true,ite_true,ite_false,reduceIte,decide_true,decide_false,Bool.not_true,Bool.not_false,dP,gdn0,gdn1,gdn2,gdn3,gdn4,gdn5,gdn6,gdn7,gdn8,gdn9,gdn10,gdn11,gdn12,gdn13,gdn14,gdn15,gdn16,gdn17,gdn18,gdn19,gdn20,gdn21,gdn22,gdn23,gdn24,$xs,*])
noncomputable def goR (t:Nat) (nx : Option Nat) : List Rw := if nx = some t then [] else [.jump t]
noncomputable def En.tail (e:En) (nx : Option Nat) : List Rw := match e with
  | .go t => goR t nx
  | .iff s a b x y => if x = y then goR x nx else if nx = some x then [.cnd true s a b y] else .cnd false s a b x :: goR y nx
  | .tab e ts => [.tab e ts]
  | .stop => [.stop]
noncomputable def Rw.fin (f:Nat → Nat) : Rw → Rw
  | .st s => .st s
  | .stop => .stop
  | .jump t => .jump (f t)
  | .cnd n c a b t => .cnd n c a b (f t)
  | .tab e ts => .tab e (ts.map f)
noncomputable def secR (bs : List Bl) (os : List Nat) (i:Nat) : List Rw := match os[i]? with
  | some o => (match bs[o]? with
    | some b => b.sts.map Rw.st ++ b.en.tail os[i + 1]?
    | none => [])
  | none => []
noncomputable def rowsR (bs : List Bl) (os : List Nat) : Nat → List Rw
  | 0 => []
  | n + 1 => rowsR bs os n ++ secR bs os n
noncomputable def posR (bs : List Bl) (os : List Nat) (t:Nat) : Nat := match os.findIdx? (fun x => decide (x = t)) with
  | some i => (rowsR bs os i).length
  | none => 0
noncomputable def laidR (bs : List Bl) (os : List Nat) : List Rw := (rowsR bs os bs.length).map (Rw.fin (posR bs os))
theorem mz (t:Nat) (nx : Option Nat) : (goR t nx).length ≤ 1 :=by unfold goR; split <;> simp
theorem kQ (e:En) (nx : Option Nat) : (e.tail nx).length ≤ 2 :=by
  cases e with
  | go t => have := mz t nx; show (goR t nx).length ≤ 2; omega
  | iff s a b x y =>
    show (if x = y then goR x nx else if nx = some x then [Rw.cnd true s a b y] else Rw.cnd false s a b x :: goR y nx).length ≤ 2
    have h1 := mz x nx
    have h2 := mz y nx
    split
    · omega
    · split
      · simp
      · rw [List.length_cons]; omega
  | tab e ts => show ([Rw.tab e ts] : List Rw).length ≤ 2; simp
  | stop => show ([Rw.stop] : List Rw).length ≤ 2; simp
section
variable {ns : List Str}{m:Nat}
theorem kB {t:Nat}{nx : Option Nat} (h:t < m) : ∀ r ∈ goR t nx,r.G ns m := fun r hr => by
  unfold goR at hr
  split at hr
  · exact absurd hr List.not_mem_nil
  · rw [List.mem_singleton.mp hr]; exact h
theorem nC {e:En}{nx : Option Nat} (g:e.G ns m) : ∀ r ∈ e.tail nx,r.G ns m := fun r hr => by
  cases e with
  | go t => exact kB g r hr
  | iff s a b x y =>
    obtain ⟨hs,ga,gb,gx,gy⟩ := g
    have hr : r ∈ (if x = y then goR x nx else if nx = some x then [Rw.cnd true s a b y] else Rw.cnd false s a b x :: goR y nx) := hr
    split at hr
    · exact kB gx r hr
    · split at hr
      · rw [List.mem_singleton.mp hr]; exact ⟨hs,ga,gb,gy⟩
      · rcases List.mem_cons.mp hr with rfl | hr
        · exact ⟨hs,ga,gb,gx⟩
        · exact kB gy r hr
  | tab e ts => rw [List.mem_singleton.mp (show r ∈ [Rw.tab e ts] from hr)]; exact g
  | stop => rw [List.mem_singleton.mp (show r ∈ [Rw.stop] from hr)]; trivial
theorem nB (e:En) : ∃ l r,e.tail none = l ++ [r] ∧ r.falls = false :=by
  cases e with
  | go t => exact ⟨[],.jump t,rfl,rfl⟩
  | iff s a b x y =>
    by_cases h : x = y
    · exact ⟨[],.jump x,by show (if x = y then goR x none else _) = _; rw [if_pos h]; rfl,rfl⟩
    · exact ⟨[.cnd false s a b x],.jump y,by show (if x = y then goR x none else if none = some x then _ else Rw.cnd false s a b x :: goR y none) = _; rw [if_neg h]; rfl,rfl⟩
  | tab e ts => exact ⟨[],.tab e ts,rfl,rfl⟩
  | stop => exact ⟨[],.stop,rfl,rfl⟩
end
theorem fk : ∀ {os : List Nat}{i:Nat}{o:Nat},os.Nodup → os[i]? = some o → os.findIdx? (fun x => decide (x = o)) = some i
  | [],_,_,_,h => by cases h
  | a :: os,0,o,_,h => by
    cases h
    rw [List.findIdx?_cons,if_pos (by simp)]
  | a :: os,i + 1,o,nd,h => by
    rw [List.getElem?_cons_succ] at h
    have nd' := List.nodup_cons.mp nd
    have ne : ¬ a = o := fun z => nd'.1 (by rw [z]; exact List.mem_of_getElem? h)
    rw [List.findIdx?_cons,if_neg (by simpa using ne),fk nd'.2 h]; rfl
section
variable {m:Nat}{os : List Nat}
theorem Ord.nodup (P:Ord m os) : os.Nodup := P.pm.nodup_iff.mpr List.nodup_range
theorem Ord.mem (P:Ord m os) {x:Nat} : x ∈ os ↔ x < m :=by rw [P.pm.mem_iff,List.mem_range]
theorem Ord.len (P:Ord m os) : os.length = m :=by rw [P.pm.length_eq,List.length_range]
theorem Ord.ix (P:Ord m os) {t:Nat} (h:t < m) : ∃ i : Nat,os[i]? = some t := List.mem_iff_getElem?.mp (P.mem.mpr h)
theorem Ord.inj (P:Ord m os) {i j o : Nat} (h1 : os[i]? = some o) (h2 : os[j]? = some o) : i = j :=by
  have q1 := fk P.nodup h1
  rw [fk P.nodup h2] at q1
  exact (Option.some.inj q1).symm
end
section
variable {ps : List (Str × Int)}{bs : List Bl}{os : List Nat}
theorem jn (O:Ord bs.length os) {i o : Nat} (h:os[i]? = some o) : ∃ b ∈ bs,bs[o]? = some b :=by
  have ho := O.mem.mp (List.mem_of_getElem? h)
  exact ⟨bs[o],List.getElem_mem ho,List.getElem?_eq_getElem ho⟩
theorem iy {i o : Nat}{b:Bl} (h:os[i]? = some o) (hb : bs[o]? = some b) : secR bs os i = b.sts.map Rw.st ++ b.en.tail os[i + 1]? := by
  unfold secR
  simp only [h,hb]
theorem mL (P:PgG ps bs) (O:Ord bs.length os) (n:Nat) : (secR bs os n).length ≤ 10 :=by
  cases ho : os[n]? with
  | none => unfold secR; simp only [ho]; exact Nat.zero_le _
  | some o =>
    obtain ⟨b,mb,hb⟩ := jn O ho
    rw [iy ho hb,List.length_append,List.length_map]
    have := kQ b.en os[n + 1]?
    have := (P.g b mb).1
    omega
theorem iC (P:PgG ps bs) (O:Ord bs.length os) : ∀ n : Nat,(rowsR bs os n).length ≤ 10 * n
  | 0 => Nat.zero_le _
  | n + 1 => by
    rw [rowsR,List.length_append]
    have a := iC P O n
    have b := mL P O n
    omega
theorem kT (P:PgG ps bs) (O:Ord bs.length os) (n:Nat) : ∀ r ∈ secR bs os n,r.G (ps.map (·.1)) bs.length := fun r hr => by
  cases ho : os[n]? with
  | none => unfold secR at hr; simp only [ho] at hr; exact absurd hr List.not_mem_nil
  | some o =>
    obtain ⟨b,mb,hb⟩ := jn O ho
    rw [iy ho hb] at hr
    rcases List.mem_append.mp hr with hr | hr
    · obtain ⟨x,hx,rfl⟩ := List.mem_map.mp hr
      exact (P.g b mb).2.1 x hx
    · exact nC (P.g b mb).2.2 r hr
theorem jE (P:PgG ps bs) (O:Ord bs.length os) : ∀ n : Nat,∀ r ∈ rowsR bs os n,r.G (ps.map (·.1)) bs.length
  | 0,r,hr => absurd hr List.not_mem_nil
  | n + 1,r,hr => by
    rw [rowsR] at hr
    rcases List.mem_append.mp hr with hr | hr
    · exact jE P O n r hr
    · exact kT P O n r hr
theorem oJ (O:Ord bs.length os) {i t : Nat} (h:os[i]? = some t) : posR bs os t = (rowsR bs os i).length :=by
  unfold posR
  rw [fk O.nodup h]
theorem nF {i j : Nat} (h:i ≤ j) : (rowsR bs os i).length ≤ (rowsR bs os j).length :=by
  induction j with
  | zero => have : i = 0 :=by omega
            subst this; exact Nat.le_refl _
  | succ j ih =>
    by_cases e : i = j + 1
    · subst e; exact Nat.le_refl _
    · rw [rowsR,List.length_append]
      have := ih (by omega)
      omega
theorem jD (P:PgG ps bs) (O:Ord bs.length os) : ∃ l r,rowsR bs os bs.length = l ++ [r] ∧ r.falls = false ∧ (rowsR bs os (bs.length - 1)).length ≤ l.length :=by
  have l1 := P.l1
  have ol := O.len
  obtain ⟨n,hn⟩ : ∃ n,bs.length = n + 1 := ⟨bs.length - 1,by omega⟩
  obtain ⟨o,ho⟩ : ∃ o,os[n]? = some o := ⟨_,List.getElem?_eq_getElem (by omega)⟩
  obtain ⟨b,mb,hb⟩ := jn O ho
  obtain ⟨l,r,e,f⟩ := nB b.en
  have nn : os[n + 1]? = none := List.getElem?_eq_none (by omega)
  refine ⟨rowsR bs os n ++ (b.sts.map Rw.st ++ l),r,?_,f,?_⟩
  · rw [hn,rowsR,iy ho hb,nn,e,List.append_assoc,List.append_assoc]
  · rw [hn,Nat.add_sub_cancel,List.length_append]; omega
theorem lX (P:PgG ps bs) (O:Ord bs.length os) {t:Nat} (h:t < bs.length) : posR bs os t < (rowsR bs os bs.length).length :=by
  obtain ⟨i,hi⟩ := O.ix h
  obtain ⟨l,r,e,_,q⟩ := jD P O
  have il := (List.getElem?_eq_some_iff.mp hi).1
  have ol := O.len
  rw [oJ O hi,e,List.length_append]
  have := nF (bs := bs) (os := os) (show i ≤ bs.length - 1 by omega)
  show _ < l.length + 1
  omega
theorem n9 (f:Nat → Nat) (r:Rw) : (r.fin f).falls = r.falls :=by cases r <;> rfl
theorem jf : (laidR bs os).length = (rowsR bs os bs.length).length :=by unfold laidR; rw [List.length_map]
theorem sS (P:PgG ps bs) (O:Ord bs.length os) : RowsG (ps.map (·.1)) (laidR bs os) :=by
  obtain ⟨l,r0,e,f0,_⟩ := jD P O
  refine ⟨by rw [jf,e,List.length_append]; exact Nat.succ_pos _,fun p r hr => ?_⟩
  have hr' := hr
  unfold laidR at hr
  rw [List.getElem?_map] at hr
  obtain ⟨r1,h1,rfl⟩ := Option.map_eq_some_iff.mp hr
  have g := jE P O bs.length r1 (List.mem_of_getElem? h1)
  rw [jf]
  refine ⟨?_,fun fl => ?_⟩
  · cases r1 with
    | st s => exact g
    | stop => trivial
    | jump t => exact lX P O g
    | cnd n c a b t => exact ⟨g.1,g.2.1,g.2.2.1,lX P O g.2.2.2⟩
    | tab e ts => exact ⟨g.1,by rw [List.length_map]; exact g.2.1,by rw [List.length_map]; exact g.2.2.1,fun t ht => by
        obtain ⟨u,hu,rfl⟩ := List.mem_map.mp ht
        exact lX P O (g.2.2.2 u hu)⟩
  · rw [n9] at fl
    have hl := (List.getElem?_eq_some_iff.mp h1).1
    rw [e,List.length_append] at hl ⊢
    have hl : p < l.length + 1 := hl
    show p + 1 < l.length + 1
    by_cases q : p = l.length
    · rw [e,List.getElem?_append_right (by omega),q,Nat.sub_self] at h1
      cases h1
      rw [f0] at fl; cases fl
    · omega
end
noncomputable def nxW (nx : Option Nat) : W := match nx with
  | none => .non
  | some t => nI t
noncomputable def nxI (nx : Option Nat) : Int := match nx with
  | none => -1
  | some t => t
theorem nxI_eq {t:Nat}{nx : Option Nat} : ((t:Int) = nxI nx) ↔ nx = some t :=by
  cases nx with
  | none =>
    show (t:Int) = -1 ↔ _
    constructor
    · intro e; omega
    · intro e; cases e
  | some x =>
    show (t:Int) = (x:Int) ↔ some x = some t
    constructor
    · intro e; rw [show x = t by omega]
    · intro e; rw [Option.some.inj e]
theorem ou : decide (("if" : Str) = "go") = false :=by decide +kernel
theorem uP : decide (("table" : Str) = "go") = false :=by decide +kernel
theorem uO : decide (("table" : Str) = "if") = false :=by decide +kernel
theorem uT : decide (("stop" : Str) = "go") = false :=by decide +kernel
theorem uS : decide (("stop" : Str) = "if") = false :=by decide +kernel
theorem uQ : decide (("stop" : Str) = "table") = false :=by decide +kernel
theorem uV : decide (("jump" : Str) = "table") = false :=by decide +kernel
theorem uM : decide (("when" : Str) = "table") = false :=by decide +kernel
theorem uN : decide (("unless" : Str) = "table") = false :=by decide +kernel
theorem sl14 (a b c d e f : W) : slW (.tup [a,b,c,d,e,f]) (some 1) (some 4) = pr (.tup [b,c,d]) :=by
  show gd (¬ (HT.sIx 6 0 (some 1) = 0 ∧ HT.sIx 6 6 (some 4) = 6)) (pr (W.tup (cutW [a,b,c,d,e,f] (some 1) (some 4)))) = _
  rw [aE (by decide)]; rfl
theorem sl15 (a b c d e f : W) : slW (.tup [a,b,c,d,e,f]) (some 1) (some 5) = pr (.tup [b,c,d,e]) :=by
  show gd (¬ (HT.sIx 6 0 (some 1) = 0 ∧ HT.sIx 6 6 (some 5) = 6)) (pr (W.tup (cutW [a,b,c,d,e,f] (some 1) (some 5)))) = _
  rw [aE (by decide)]; rfl
theorem addT (a:W) (l m : List W) (h:l.length + m.length ≤ 100) : addW (.tup (a :: l)) (.tup m) = pr (.tup (a :: (l ++ m))) :=by
  show gd ((a :: l).isEmpty = false ∧ (a :: l).length + m.length ≤ sizeLine) (pr (W.tup ((a :: l) ++ m))) = _
  rw [aE ⟨rfl,sz (by rw [List.length_cons]; omega)⟩]; rfl
theorem add13 (a b c d : W) : addW (.tup [a]) (.tup [b,c,d]) = pr (.tup [a,b,c,d]) := addT a [] [b,c,d] (by show 0 + 3 ≤ 100; decide)
theorem add14 (a b c d e : W) : addW (.tup [a]) (.tup [b,c,d,e]) = pr (.tup [a,b,c,d,e]) := addT a [] [b,c,d,e] (by show 0 + 4 ≤ 100; decide)
theorem add41 (a b c d e : W) : addW (.tup [a,b,c,d]) (.tup [e]) = pr (.tup [a,b,c,d,e]) := addT a [b,c,d] [e] (by show 3 + 1 ≤ 100; decide)
theorem add11 (a b : W) : addW (.tup [a]) (.tup [b]) = pr (.tup [a,b]) := addT a [] [b] (by show 0 + 1 ≤ 100; decide)
noncomputable abbrev JL : List Str := ["jump", "when", "unless"]
theorem uY (z:Str) : inW (.str z) (.tup ((["jump", "when", "unless"] : List Str).map W.str)) = pr (.bl (decide (z ∈ JL))) :=by
  funext h
  unfold inW
  have e : inB (.str z) (.tup ((["jump", "when", "unless"] : List Str).map W.str)) h = some (decide (z ∈ JL)) :=by
    show (match vOf (.str z),vsOf ((["jump", "when", "unless"] : List Str).map W.str) with
      | some v,some vs => some (inV v vs)
      | _,_ => none) = _
    rw [fB (g := W.str) (k := V.str) (fun a => rfl)]
    show some (inV (.str z) ((["jump", "when", "unless"] : List Str).map V.str)) = _
    rw [gC]
  rw [e]; rfl
theorem jO (z:Str) : inW (.str z) (.tup [.str "jump",.str "when",.str "unless"]) = pr (.bl (decide (z ∈ JL))) := uY z
theorem s9 : decide (("jump" : Str) ∈ JL) = true :=by decide +kernel
theorem sY : decide (("when" : Str) ∈ JL) = true :=by decide +kernel
theorem pp : decide (("unless" : Str) ∈ JL) = true :=by decide +kernel
theorem sZ : decide (("stop" : Str) ∈ JL) = false :=by decide +kernel
theorem qO : decide (("table" : Str) ∈ JL) = false :=by decide +kernel
theorem rP {ns : List Str}{st : Sm} (g:st.G ns) : ∃ z l,st.w = .tup (.str z :: l) ∧ decide (z ∈ JL) = false ∧ decide (z = "table") = false :=by
  cases st with
  | put y e => exact ⟨_,_,rfl,by decide +kernel,by decide +kernel⟩
  | say e => exact ⟨_,_,rfl,by decide +kernel,by decide +kernel⟩
  | ask y => exact ⟨_,_,rfl,by decide +kernel,by decide +kernel⟩
theorem ir (l:List W) : srcT (.tup l) = pr ⟨l,fun _ => True⟩ := rfl
end Q
set_option maxHeartbeats 1000000
namespace Q
open PySem L2
local macro_rules | `(tactic| simp! only [$xs,*]) => `(tactic| try simp only [finF,bK,cN,cM,cP,cO,cA,dQ,dR,sFor,mMet,aN,sAug,sAugW,sFldW,tupW,sRet,sSet,sNil,sEx,sPass,cB,sCont,sUnp,bn,mB,L2.m2,L2.m1,L2.m3,mVar,mC,mCall,mCons,mNil,mTup,mTl,mNew,lenG,listL,mPart,aW,mAnd,mOr,mNot,mAndV,mOrV,mNotV,mIf,cH,mMeth,isS,mSrc,mSrcA,srcL,srcT,srcS,tgN,tgT,setW,mYes,bt,bd_no,asB_bl,addW_int,subW_int,ltW_int,leW_int,gtW_int,geW_int,eqW_int,eqW_str,neW_int,neW_str,neW_bl,slW_tl,slW_cl,lenW_tl,lenW_tup,negW,List.set_cons_zero,List.set_cons_succ,List.getElem?_cons_zero,List.getElem?_cons_succ,List.length_cons,List.length_nil,arW,if_true,if_false,Bool.false_eq_true,ite_true,ite_false,reduceIte,decide_true,decide_false,Bool.not_true,Bool.not_false,dP,gdn0,gdn1,gdn2,gdn3,gdn4,gdn5,gdn6,gdn7,gdn8,gdn9,gdn10,gdn11,gdn12,gdn13,gdn14,gdn15,gdn16,gdn17,gdn18,gdn19,gdn20,gdn21,gdn22,gdn23,gdn24,$xs,*])
theorem mT {m:Nat}{os : List Nat}{h:List Ob}{i o : Nat} (O:Ord m os) (ho : os[i]? = some o) (hl : m ≤ 10) : Ok (cK [.tup (os.map nI),nI o]) h fun w h' => w = .int (nxI os[i + 1]?) ∧ h' = h :=by
  have e0 : cK [.tup (os.map nI),nI o] = bd (ff [some (.tup (os.map nI)),some (nI o),none]) finF := rfl
  have hi := (List.getElem?_eq_some_iff.mp ho).1
  have ol := O.len
  obtain ⟨N,hN⟩ : ∃ N : Int,N = ((os.map nI).length : Int) := ⟨_,rfl⟩
  have hN' : N = (os.length : Int) :=by rw [hN,List.length_map]
  rw [e0]
  unfold ff
  try simp! only [sFor,aa,← hN,cC (show (-(2 ^ 62) : Int) ≤ N - 1 by omega) (show N - 1 < 2 ^ 62 by omega)]
  refine kc (I := fun k ρ h' => (∃ a,ρ = [some (.tup (os.map nI)),some (nI o),a]) ∧ h' = h ∧ k ≤ i) (J := fun v h' => v = .int (nxI os[i + 1]?) ∧ h' = h) ⟨⟨_,rfl⟩,rfl,Nat.zero_le _⟩ (fun _ _ _ _ => trivial) (fun k w ρ h1 hw I => ?_) (fun ρ h1 I => ?_) (fun v h1 J => ?_)
  · obtain ⟨⟨a,rfl⟩,rfl,ki⟩ := I
    obtain ⟨rfl,hk⟩ := cI _ _ _ _ hw
    obtain ⟨x,hx⟩ : ∃ x,os[k]? = some x := ⟨_,List.getElem?_eq_getElem (by omega)⟩
    have ixk : ixW (.tup (os.map nI)) (.int (0 + (k:Int))) = pr (nI x) := ck (cU (by omega) (by rw [show ((0 : Int) + (k:Int)).toNat = k by omega,List.getElem?_map,hx]; rfl))
    refine ⟨_,rfl,?_⟩
    by_cases hxo : x = o
    · subst hxo
      have q1 := O.inj hx ho
      subst q1
      obtain ⟨y,hy⟩ : ∃ y,os[k + 1]? = some y := ⟨_,List.getElem?_eq_getElem (by omega)⟩
      have ixn : ixW (.tup (os.map nI)) (.int (0 + (k:Int) + 1)) = pr (nI y) := ck (cU (by omega) (by rw [show ((0 : Int) + (k:Int) + 1).toNat = k + 1 by omega,List.getElem?_map,hy]; rfl))
      try simp! only [aa,ixk,nI,eq_self,decide_true,ixn]
      exact ar (.inr ⟨_,rfl,by rw [hy]; rfl,rfl⟩)
    · have hxo' : ¬ (x:Int) = (o:Int) :=by omega
      try simp! only [aa,ixk,nI,decide_eq_false hxo']
      refine ar (.inl ⟨_,rfl,⟨_,rfl⟩,rfl,?_⟩)
      have : k ≠ i := fun z => by rw [z,ho] at hx; exact hxo (Option.some.inj hx).symm
      omega
  · obtain ⟨⟨a,rfl⟩,rfl,ki⟩ := I
    rw [bz] at ki
    have hn : os[i + 1]? = none := List.getElem?_eq_none (by omega)
    try simp! only [aa]
    exact ar ⟨by rw [hn]; rfl,rfl⟩
  · obtain ⟨rfl,rfl⟩ := J
    try simp! only [aa]
    exact ar ⟨rfl,rfl⟩
end Q
set_option maxHeartbeats 1000000
namespace Q
open PySem L2
local macro_rules | `(tactic| simp! only [$xs,*]) => `(tactic| try simp only [finF,bK,cN,cM,cP,cO,cA,dQ,dR,sFor,mMet,aN,sAug,sAugW,sFldW,tupW,sRet,sSet,sNil,sEx,sPass,cB,sCont,sUnp,bn,mB,L2.m2,L2.m1,L2.m3,mVar,mC,mCall,mCons,mNil,mTup,mTl,mNew,lenG,listL,mPart,aW,mAnd,mOr,mNot,mAndV,mOrV,mNotV,mIf,cH,mMeth,isS,mSrc,mSrcA,srcL,srcT,srcS,tgN,tgT,setW,mYes,bt,bd_no,asB_bl,addW_int,subW_int,ltW_int,leW_int,gtW_int,geW_int,eqW_int,eqW_str,neW_int,neW_str,neW_bl,slW_tl,slW_cl,lenW_tl,lenW_tup,negW,List.set_cons_zero,List.set_cons_succ,List.getElem?_cons_zero,List.getElem?_cons_succ,List.length_cons,List.length_nil,arW,if_true,if_false,Bool.false_eq_true,ite_true,ite_false,reduceIte,decide_true,decide_false,Bool.not_true,Bool.not_false,dP,gdn0,gdn1,gdn2,gdn3,gdn4,gdn5,gdn6,gdn7,gdn8,gdn9,gdn10,gdn11,gdn12,gdn13,gdn14,gdn15,gdn16,gdn17,gdn18,gdn19,gdn20,gdn21,gdn22,gdn23,gdn24,$xs,*])
theorem jG (x:W) : mulW (.tl [x]) (.int 1) = pr (.tl [x]) :=by
  show bd (lstO (.tl [x])) (fun l => gd (0 ≤ (1 : Int) ∧ (1 : Int) ≤ 1000000 ∧ l.length * (1 : Int).toNat ≤ sizeLine) (pr (W.tl (List.replicate (1 : Int).toNat l).flatten))) = _
  rw [fP,bt,aE ⟨by decide,by decide,sz (by show 1 * _ ≤ 100000; decide)⟩]; rfl
theorem jH (x:W) : mulW (.tl [x]) (.int 0) = pr (.tl []) :=by
  show bd (lstO (.tl [x])) (fun l => gd (0 ≤ (0 : Int) ∧ (0 : Int) ≤ 1000000 ∧ l.length * (0 : Int).toNat ≤ sizeLine) (pr (W.tl (List.replicate (0 : Int).toNat l).flatten))) = _
  rw [fP,bt,aE ⟨by decide,by decide,sz (by show 1 * _ ≤ 100000; decide)⟩]; rfl
theorem mw (a b : W) : ixW (.tup [a,b]) (.int (((0 + 1 + 1 : Nat) : Int) - 1)) = pr b := ck (cU (by decide) rfl)
theorem pf (a b c d e f : W) : ixW (.tup [a,b,c,d,e,f]) (.int (((0 + 1 + 1 + 1 + 1 + 1 + 1 : Nat) : Int) - 1)) = pr f := ck (cU (by decide) rfl)
theorem lH (e:En) (nx : Option Nat) : cJ [e.w,.int (nxI nx)] = pr (.tl ((e.tail nx).map Rw.w)) :=by
  have e0 : cJ [e.w,.int (nxI nx)] = bd (e8 [some e.w,some (.int (nxI nx)),none]) finF := rfl
  rw [e0]
  unfold e8
  cases e with
  | go t =>
    unfold En.w
    have et : (En.go t).tail nx = if nx = some t then [] else [.jump t] := rfl
    rw [et]
    by_cases h : nx = some t
    · have d : decide ((t:Int) = nxI nx) = true := decide_eq_true (nxI_eq.mpr h)
      rw [if_pos h]
      try simp! only [aa,ix0,ix1,eq_self,decide_true,mw,tupW,gU,nI,d,jG,jH]
      rfl
    · have d : decide ((t:Int) = nxI nx) = false := decide_eq_false fun z => h (nxI_eq.mp z)
      rw [if_neg h]
      try simp! only [aa,ix0,ix1,eq_self,decide_true,mw,tupW,gU,nI,d,jG,jH]
      rfl
  | iff s a b x y =>
    unfold En.w
    have et : (En.iff s a b x y).tail nx = if x = y then (if nx = some x then [] else [.jump x]) else if nx = some x then [.cnd true s a b y] else .cnd false s a b x :: (if nx = some y then [] else [.jump y]) := rfl
    rw [et]
    by_cases h : x = y
    · subst h
      rw [if_pos rfl]
      by_cases h2 : nx = some x
      · have d : decide ((x:Int) = nxI nx) = true := decide_eq_true (nxI_eq.mpr h2)
        rw [if_pos h2]
        try simp! only [aa,ix0,ix4,ix5,ou,nI,eq_self,decide_true,pf,tupW,gU,d,jG,jH]
        rfl
      · have d : decide ((x:Int) = nxI nx) = false := decide_eq_false fun z => h2 (nxI_eq.mp z)
        rw [if_neg h2]
        try simp! only [aa,ix0,ix4,ix5,ou,nI,eq_self,decide_true,pf,tupW,gU,d,jG,jH]
        rfl
    · have h' : ¬ (x:Int) = (y:Int) :=by omega
      rw [if_neg h]
      by_cases h2 : nx = some x
      · have d : decide ((x:Int) = nxI nx) = true := decide_eq_true (nxI_eq.mpr h2)
        rw [if_pos h2]
        try simp! only [aa,ix0,ix4,ix5,ou,nI,eq_self,decide_true,decide_eq_false h',tupW,d,sl14,add13,add41]
        rfl
      · have d : decide ((x:Int) = nxI nx) = false := decide_eq_false fun z => h2 (nxI_eq.mp z)
        rw [if_neg h2]
        by_cases h3 : nx = some y
        · have d3 : decide ((y:Int) = nxI nx) = true := decide_eq_true (nxI_eq.mpr h3)
          rw [if_pos h3]
          try simp! only [aa,ix0,ix4,ix5,ou,nI,eq_self,decide_true,decide_eq_false h',tupW,d,d3,sl15,add14,gU,jG,jH,catL,fP]
          rfl
        · have d3 : decide ((y:Int) = nxI nx) = false := decide_eq_false fun z => h3 (nxI_eq.mp z)
          rw [if_neg h3]
          try simp! only [aa,ix0,ix4,ix5,ou,nI,eq_self,decide_true,decide_eq_false h',tupW,d,d3,sl15,add14,gU,jG,jH,catL,fP]
          rfl
  | tab e ts =>
    unfold En.w
    try simp! only [aa,ix0,uP,uO]
    rfl
  | stop =>
    unfold En.w
    try simp! only [aa,ix0,uT,uS]
    rfl
section
variable {ps : List (Str × Int)}{bs : List Bl}{os : List Nat}{bl : W}
theorem pE {h:List Ob}{i t : Nat} (P:PgG ps bs) (O:Ord bs.length os) (H:BlAt h bl bs) (hi : os[i]? = some t) : Ok (ba [bl,.tup (os.map nI),nI t]) h fun w h' => w = nI (rowsR bs os i).length ∧ h' = h :=by
  have e0 : ba [bl,.tup (os.map nI),nI t] = bd (cZ [some bl,some (.tup (os.map nI)),some (nI t),none,none]) finF := rfl
  have ol := O.len
  have p2 := P.l2
  have il := (List.getElem?_eq_some_iff.mp hi).1
  obtain ⟨ls,LL,ll,pq⟩ := H
  rw [e0]
  unfold cZ
  try simp! only [sFor,aa,ir]
  refine kc (I := fun k ρ h' => (∃ a,ρ = [some bl,some (.tup (os.map nI)),some (nI t),some (nI (rowsR bs os k).length),a]) ∧ h' = h ∧ k ≤ i) (J := fun v h' => v = nI (rowsR bs os i).length ∧ h' = h) ⟨⟨_,rfl⟩,rfl,Nat.zero_le _⟩ (fun _ _ _ _ => trivial) (fun k w ρ h1 hw I => ?_) (fun ρ h1 I => ?_) (fun v h1 J => ?_)
  · obtain ⟨⟨a,rfl⟩,rfl,ki⟩ := I
    rw [List.getElem?_map] at hw
    obtain ⟨o,ho,rfl⟩ := Option.map_eq_some_iff.mp hw
    refine ⟨_,rfl,?_⟩
    by_cases hot : o = t
    · subst hot
      have q1 := O.inj ho hi
      subst q1
      try simp! only [aa,nI,eq_self,decide_true]
      exact ar (.inr ⟨_,rfl,rfl,rfl⟩)
    · have hot' : ¬ (o:Int) = (t:Int) :=by omega
      obtain ⟨b,mb,hb⟩ := jn O ho
      obtain ⟨y,ey,LY⟩ := pq o b hb
      try simp! only [aa,nI,decide_eq_false hot']
      refine LL.ix (da ey) ?_
      try simp! only [aa,ix1]
      refine LY.len_eq (N := (b.sts.length : Int)) (by rw [List.length_map]) ?_
      try simp! only [aa]
      refine LL.ix (da ey) ?_
      try simp! only [aa,ix2]
      refine aM (mT O ho (by omega)) fun w h2 qq_ => ?_
      obtain ⟨e1,e2⟩ := qq_
      subst e1 e2
      try simp! only [aa,lH]
      have el : ((rowsR bs os k).length : Int) + (b.sts.length : Int) + (((b.en.tail os[k + 1]?).map Rw.w).length : Int) = ((rowsR bs os (k + 1)).length : Int) :=by
        simp only [rowsR,List.length_append,iy ho hb,List.length_map]
        omega
      rw [el]
      refine ar (.inl ⟨_,rfl,⟨_,rfl⟩,rfl,?_⟩)
      have : k ≠ i := fun z => by rw [z,hi] at ho; exact hot (Option.some.inj ho).symm
      omega
  · obtain ⟨⟨a,rfl⟩,rfl,ki⟩ := I
    rw [List.length_map] at ki
    omega
  · obtain ⟨rfl,rfl⟩ := J
    try simp! only [aa]
    exact ar ⟨rfl,rfl⟩
theorem fS {h:List Ob}{t:Nat} (P:PgG ps bs) (O:Ord bs.length os) (H:BlAt h bl bs) (ht : t < bs.length) : Ok (ba [bl,.tup (os.map nI),nI t]) h fun w h' => w = nI (posR bs os t) ∧ h' = h :=by
  obtain ⟨i,hi⟩ := O.ix ht
  exact Ok.imp (pE P O H hi) fun w h' ⟨e1,e2⟩ => ⟨by rw [e1,oJ O hi],e2⟩
end
theorem cut2n (a b : W) : slW (.tup [a,b]) none (some (((0 + 1 + 1 : Nat) : Int) - 1)) = pr (.tup [a]) :=by
  show gd (¬ (HT.sIx 2 0 none = 0 ∧ HT.sIx 2 2 (some (((0 + 1 + 1 : Nat) : Int) - 1)) = 2)) (pr (W.tup (cutW [a,b] none (some (((0 + 1 + 1 : Nat) : Int) - 1))))) = _
  rw [aE (by decide)]; rfl
theorem cut5n (a b c d e : W) : slW (.tup [a,b,c,d,e]) none (some (((0 + 1 + 1 + 1 + 1 + 1 : Nat) : Int) - 1)) = pr (.tup [a,b,c,d]) :=by
  show gd (¬ (HT.sIx 5 0 none = 0 ∧ HT.sIx 5 5 (some (((0 + 1 + 1 + 1 + 1 + 1 : Nat) : Int) - 1)) = 5)) (pr (W.tup (cutW [a,b,c,d,e] none (some (((0 + 1 + 1 + 1 + 1 + 1 : Nat) : Int) - 1))))) = _
  rw [aE (by decide)]; rfl
theorem ph (a b c d e : W) : ixW (.tup [a,b,c,d,e]) (.int (((0 + 1 + 1 + 1 + 1 + 1 : Nat) : Int) - 1)) = pr e := ck (cU (by decide) rfl)
noncomputable def bodyR : Env' → M Fl := (sSeq (sIf (mB (m2 inW (m2 ixW (mVar 4) (mC (.int 0))) (mTup (mCons (mC (.str "jump")) (mCons (mC (.str "when")) (mCons (mC (.str "unless")) mNil)))))) (sSet 4 (m2 addW (m3 slW (mVar 4) aW (mPart (m2 subW (mCall lenW (mCons (mVar 4) mNil)) (mC (.int 1))))) (mTup (mCons (mCall (arW 3 ba) (mCons (mVar 0) (mCons (mVar 1) (mCons (m2 ixW (mVar 4) (m2 subW (mCall lenW (mCons (mVar 4) mNil)) (mC (.int 1)))) mNil)))) mNil)))) sNil) (sSeq (sIf (mB (m2 eqW (m2 ixW (mVar 4) (mC (.int 0))) (mC (.str "table")))) (sSet 4 (mTup (mCons (mC (.str "table")) (mCons (m2 ixW (mVar 4) (mC (.int 1))) (mCons (mCall eP (mCons (mTl (mComp [] (mSrc (m2 ixW (mVar 4) (mC (.int 2))) srcT) (tgN 0) mYes (mCall (arW 3 ba) (mCons (mVar 2) (mCons (mVar 3) (mCons (mVar 0) mNil)))) 2)) mNil)) mNil))))) sNil) (sEx (mMeth isL bU (mVar 2) (mCons (mVar 4) mNil)))))
theorem iH : fj = (sSeq (sSet 2 (mNew (lenG mNil))) (sSeq (sFor (mSrc (mVar 1) srcT) (tgN 3) (sFor (mSrc (m2 addW (m2 ixW (m2 ixW (mVar 0) (mVar 3)) (mC (.int 1))) (mCall (arW 2 cJ) (mCons (m2 ixW (m2 ixW (mVar 0) (mVar 3)) (mC (.int 2))) (mCons (mCall (arW 2 cK) (mCons (mVar 1) (mCons (mVar 3) mNil))) mNil)))) srcL) (tgN 4) bodyR)) (sRet (m1 iceW (mVar 2))))) := rfl
section
variable {ps : List (Str × Int)}{bs : List Bl}{os : List Nat}{bl : W}
theorem p8 {h:List Ob}{kf : Nat}{l:List W}{r:Rw}{a3 : Option W} (P:PgG ps bs) (O:Ord bs.length os) (H:BlAt h bl bs) (ef : h[kf]? = some (.lst l)) (hl : l.length ≤ 1000) (g:r.G (ps.map (·.1)) bs.length) :
    Ok (bodyR [some bl,some (.tup (os.map nI)),some (.loc kf),a3,some r.w]) h fun x h' => (∃ w,x = .nx [some bl,some (.tup (os.map nI)),some (.loc kf),a3,w]) ∧ h' = h.set kf (.lst (l ++ [(r.fin (posR bs os)).w])) :=by
  have hz : l.length < sizeLine := Nat.lt_of_le_of_lt hl (by decide)
  unfold bodyR
  cases r with
  | st st =>
    obtain ⟨z,l',ew,jz,tz⟩ := rP (show st.G (ps.map (·.1)) from g)
    rw [show (Rw.st st).w = .tup (.str z :: l') from ew,show ((Rw.st st).fin (posR bs os)).w = .tup (.str z :: l') from ew]
    try simp! only [aa,tupW,ix0,jO,jz,tz]
    refine cV ef ?_
    try simp! only [aa]
    refine dF ef hz ?_
    try simp! only [aa]
    exact ar ⟨⟨_,rfl⟩,rfl⟩
  | jump t =>
    unfold Rw.w Rw.fin
    try simp! only [aa,tupW,ix0,jO,s9,cut2n,mw]
    refine aM (fS P O H g) fun w h2 qq_ => ?_
    obtain ⟨e1,e2⟩ := qq_
    subst e1 e2
    try simp! only [aa,tupW,add11,ix0,uV]
    refine cV ef ?_
    try simp! only [aa]
    refine dF ef hz ?_
    try simp! only [aa]
    exact ar ⟨⟨_,rfl⟩,rfl⟩
  | cnd neg s a b t =>
    obtain ⟨_,_,_,ht⟩ := g
    cases neg with
    | false =>
      unfold Rw.w Rw.fin
      try simp! only [aa,tupW,ix0,jO,sY,cut5n,ph]
      refine aM (fS P O H ht) fun w h2 qq_ => ?_
      obtain ⟨e1,e2⟩ := qq_
      subst e1 e2
      try simp! only [aa,tupW,add41,ix0,uM]
      refine cV ef ?_
      try simp! only [aa]
      refine dF ef hz ?_
      try simp! only [aa]
      exact ar ⟨⟨_,rfl⟩,rfl⟩
    | true =>
      unfold Rw.w Rw.fin
      try simp! only [aa,tupW,ix0,jO,pp,cut5n,ph]
      refine aM (fS P O H ht) fun w h2 qq_ => ?_
      obtain ⟨e1,e2⟩ := qq_
      subst e1 e2
      try simp! only [aa,tupW,add41,ix0,uN]
      refine cV ef ?_
      try simp! only [aa]
      refine dF ef hz ?_
      try simp! only [aa]
      exact ar ⟨⟨_,rfl⟩,rfl⟩
  | tab e ts =>
    obtain ⟨_,_,tl,gt⟩ := g
    have gl : ∀ {α : Type} (q:M α),gd ((ts.map nI).length ≤ sizeLine) q = q := fun q => aE (by rw [List.length_map]; exact sz (by omega))
    unfold Rw.w Rw.fin
    try simp! only [aa,tupW,ix0,ix1,ix2,jO,qO,eq_self,decide_true,aN,ir,gl]
    refine fN (I := fun n l h' => h' = h ∧ l = ((ts.take n).map (posR bs os)).map nI) ⟨rfl,rfl⟩ gH (fun _ _ _ _ => trivial) (fun n w l h4 hw J => ?_) fun l' h4 J => ?_
    · obtain ⟨rfl,rfl⟩ := J
      rw [List.getElem?_map] at hw
      obtain ⟨t,ht,rfl⟩ := Option.map_eq_some_iff.mp hw
      refine ⟨_,rfl,?_⟩
      try simp! only [List.replicate,List.cons_append,List.nil_append,aa]
      refine Ok.imp (fS P O H (gt t (List.mem_of_getElem? ht))) fun w h5 ⟨e1,e2⟩ => ⟨e2,?_⟩
      rw [e1,List.take_add_one,ht,List.map_append,List.map_append]; rfl
    · obtain ⟨rfl,rfl⟩ := J
      rw [List.length_map,List.take_length]
      try simp! only [aa,jA,tupW]
      refine cV ef ?_
      try simp! only [aa]
      refine dF ef hz ?_
      try simp! only [aa]
      exact ar ⟨⟨_,rfl⟩,rfl⟩
  | stop =>
    unfold Rw.w Rw.fin
    try simp! only [aa,tupW,ix0,jO,sZ,uQ]
    refine cV ef ?_
    try simp! only [aa]
    refine dF ef hz ?_
    try simp! only [aa]
    exact ar ⟨⟨_,rfl⟩,rfl⟩
theorem qA {β : Type}{h:List Ob}{k:W → M β}{Q:β → List Ob → Prop}{x:W}{l m : List W} (L:Lw h x l) (hz : l.length + m.length ≤ sizeLine) (q:Ok (k (.tl (l ++ m))) h Q) : Ok (bd (addW x (.tl m)) k) h Q :=by
  rcases L with rfl | ⟨j,rfl,e⟩
  · rw [nv _ _ hz,bt]; exact q
  · refine bp (a := .tl (l ++ m)) (h' := h) ?_ q
    show bd (lstO (.loc j)) (fun a => bd (lstO (.tl m)) fun b => gd (a.length + b.length ≤ sizeLine) (pr (W.tl (a ++ b)))) h = _
    have lo : lstO (.loc j) h = .ok l h :=by unfold lstO; simp only [e]
    rw [dq lo,fP,bt,aE hz]; rfl
theorem tE {h:List Ob} (P:PgG ps bs) (O:Ord bs.length os) (H:BlAt h bl bs) : Ok (eg [bl,.tup (os.map nI)]) h fun w h' => w = .tl ((laidR bs os).map Rw.w) ∧ ∀ i,i < h.length → h'[i]? = h[i]? := by
  have e0 : eg [bl,.tup (os.map nI)] = bd (fj [some bl,some (.tup (os.map nI)),none,none,none]) finF := rfl
  have pl := O.len
  have p2 := P.l2
  rw [e0,iH]
  try simp! only [aa]
  refine d7 ?_
  try simp! only [sFor,aa,ir]
  refine eS (I := fun n ρ h' => (∃ a3 a4,ρ = [some bl,some (.tup (os.map nI)),some (.loc h.length),a3,a4]) ∧ (∀ i,i < h.length → h'[i]? = h[i]?) ∧ h'[h.length]? = some (.lst ((rowsR bs os n).map fun r => (r.fin (posR bs os)).w))) ⟨⟨_,_,rfl⟩,fun i hi => List.getElem?_append_left hi,bu⟩ (fun _ _ _ _ => trivial) (fun n w ρ h1 hw I => ?_) fun ρ h1 I => ?_
  · obtain ⟨⟨a3,a4,rfl⟩,fr,ef⟩ := I
    rw [List.getElem?_map] at hw
    obtain ⟨o,ho,rfl⟩ := Option.map_eq_some_iff.mp hw
    obtain ⟨b,mb,hb⟩ := jn O ho
    have H1 := H.keep fr
    obtain ⟨ls,LL,ll,pq⟩ := H1
    obtain ⟨y,ey,LY⟩ := pq o b hb
    have n10 : n < bs.length :=by rw [← pl]; exact (List.getElem?_eq_some_iff.mp ho).1
    have sl := mL P O n
    have rl := iC P O n
    have tl := kQ b.en os[n + 1]?
    have s8 := (P.g b mb).1
    refine ⟨_,rfl,?_⟩
    try simp! only [sFor,aa,nI]
    refine LL.ix (da ey) ?_
    try simp! only [aa,ix1]
    refine LL.ix (da ey) ?_
    try simp! only [aa,ix2]
    refine aM (mT O ho (by omega)) fun w h2 qq_ => ?_
    obtain ⟨e1,e2⟩ := qq_
    subst e1 e2
    try simp! only [aa,lH]
    refine qA LY (sz (by rw [List.length_map,List.length_map]; omega)) ?_
    have es : b.sts.map Sm.w ++ (b.en.tail os[n + 1]?).map Rw.w = (secR bs os n).map Rw.w :=by
      rw [iy ho hb,List.map_append,List.map_map]; rfl
    rw [es]
    try simp! only [aa,hW]
    refine qy (I := fun j ρ h' => (∃ a4,ρ = [some bl,some (.tup (os.map nI)),some (.loc h.length),some (nI o),a4]) ∧ (∀ i,i < h.length → h'[i]? = h[i]?) ∧ h'[h.length]? = some (.lst ((rowsR bs os n ++ (secR bs os n).take j).map fun r => (r.fin (posR bs os)).w))) ⟨⟨_,rfl⟩,fr,by rw [List.take_zero,List.append_nil]; exact ef⟩ (fun _ _ _ _ => trivial) (fun j w ρ h3 hw I => ?_) fun ρ h3 I => ?_
    · obtain ⟨⟨a4,rfl⟩,fr3,ef3⟩ := I
      rw [List.getElem?_map] at hw
      obtain ⟨r,hr,rfl⟩ := Option.map_eq_some_iff.mp hw
      refine ⟨_,rfl,?_⟩
      refine Ok.imp (p8 P O (H.keep fr3) ef3 (by rw [List.length_map,List.length_append,List.length_take]; omega) (kT P O n r (List.mem_of_getElem? hr))) fun x h4 ⟨⟨w,ex⟩,e4⟩ => ⟨_,ex,⟨_,rfl⟩,fun i hi => ?_,?_⟩
      · rw [e4,List.getElem?_set_ne (by omega)]; exact fr3 i hi
      · rw [e4,bo ef3,List.take_add_one,hr,← List.append_assoc,List.map_append (l₁ := rowsR bs os n ++ _)]; rfl
    · obtain ⟨⟨a4,rfl⟩,fr3,ef3⟩ := I
      rw [List.length_map,List.take_length] at ef3
      exact ⟨_,rfl,⟨_,_,rfl⟩,fr3,ef3⟩
  · obtain ⟨⟨a3,a4,rfl⟩,fr,ef⟩ := I
    rw [List.length_map,pl] at ef
    try simp! only [aa]
    refine fX ef ?_
    try simp! only [aa]
    refine ar ⟨by unfold laidR; rw [List.map_map]; rfl,fun i hi => by rw [List.getElem?_set_ne (by omega)]; exact fr i hi⟩
end
end Q
set_option maxHeartbeats 1000000
namespace Q
open PySem L2
local macro_rules | `(tactic| simp! only [$xs,*]) => `(tactic| try simp only [finF,bK,cN,cM,cP,cO,cA,dQ,dR,sFor,mMet,aN,sAug,sAugW,sFldW,tupW,sRet,sSet,sNil,sEx,sPass,cB,sCont,sUnp,bn,mB,L2.m2,L2.m1,L2.m3,mVar,mC,mCall,mCons,mNil,mTup,mTl,mNew,lenG,listL,mPart,aW,mAnd,mOr,mNot,mAndV,mOrV,mNotV,mIf,cH,mMeth,isS,mSrc,mSrcA,srcL,srcT,srcS,tgN,tgT,setW,mYes,bt,bd_no,asB_bl,addW_int,subW_int,ltW_int,leW_int,gtW_int,geW_int,eqW_int,eqW_str,neW_int,neW_str,neW_bl,slW_tl,slW_cl,lenW_tl,lenW_tup,negW,List.set_cons_zero,List.set_cons_succ,List.getElem?_cons_zero,List.getElem?_cons_succ,List.length_cons,List.length_nil,arW,if_true,if_false,Bool.false_eq_true,ite_true,ite_false,reduceIte,decide_true,decide_false,Bool.not_true,Bool.not_false,dP,gdn0,gdn1,gdn2,gdn3,gdn4,gdn5,gdn6,gdn7,gdn8,gdn9,gdn10,gdn11,gdn12,gdn13,gdn14,gdn15,gdn16,gdn17,gdn18,gdn19,gdn20,gdn21,gdn22,gdn23,gdn24,$xs,*])
theorem nU {ns : List Str}{σ : Sto} (D:Has ns σ) (n:Nat) : ∀ {w:Xe},n ≤ 6 → w.G ns n → (w.val σ).natAbs < big n ∧ ∀ {h:List Ob}{k:Nat},h[k]? = some (.dic (kz σ) (vz σ)) → Ok (aR n [w.w,.loc k]) h fun r h' => r = .int (w.val σ) ∧ h' = h :=by
  induction n with
  | zero => intro w _ p; exact p.elim
  | succ n ih =>
    intro w hn p
    have e0 : ∀ k : Nat,aR (n + 1) [w.w,.loc k] = bd (ci (aR n) [some w.w,some (.loc k),none,none]) finF := fun k => rfl
    have b1 := pQ (n + 1)
    have b2 := kJ n
    cases w with
    | num i =>
      obtain ⟨i0,i1⟩ := p
      refine ⟨by unfold Xe.val; omega,fun {h k} e => ?_⟩
      rw [e0]
      unfold ci Xe.w Xe.val
      try simp! only [aa,ix0,ix1,eq_self,decide_true]
      exact ar ⟨rfl,rfl⟩
    | box z =>
      obtain ⟨v,ev,v0,v1⟩ := D.has z p
      have vv : Xe.val σ (.box z) = v :=by unfold Xe.val; rw [ev]; rfl
      refine ⟨by rw [vv]; omega,fun {h k} e => ?_⟩
      rw [e0,vv]
      unfold ci Xe.w
      try simp! only [aa,ix0,ix1,eq_self,decide_true,uc]
      refine oV (v := .int v) e (by rw [mF,ev]; rfl) ?_
      try simp! only [aa]
      exact ar ⟨rfl,rfl⟩
    | op c a b =>
      obtain ⟨hc,pa,pb⟩ := p
      obtain ⟨bx,hx⟩ := ih (by omega) pa
      obtain ⟨by',hy⟩ := ih (by omega) pb
      have b6 := big6 n (by omega)
      have cm : CMulA (a.val σ) (b.val σ) := .inr ⟨Nat.lt_of_lt_of_le bx b6,Nat.lt_of_lt_of_le by' b6⟩
      have mb : (a.val σ * b.val σ).natAbs < big (n + 1) :=by
        rw [Int.natAbs_mul,jo]
        exact Nat.mul_lt_mul'' bx by'
      unfold Xe.w at e0 ⊢
      generalize hX : a.val σ = x at *
      generalize hY : b.val σ = y at *
      generalize a.w = aw at *
      generalize b.w = bw at *
      rcases hc with rfl | rfl | rfl
      · have vv : Xe.val σ (.op "+" a b) = x + y :=by unfold Xe.val; rw [if_pos rfl,hX,hY]
        refine ⟨by rw [vv]; omega,fun {h k} e => ?_⟩
        rw [e0,vv]
        unfold ci
        try simp! only [aa,ix0,ix1,ix2,t6,t7]
        refine aM (hx e) fun r h1 qq_ => ?_
        obtain ⟨er,eh⟩ := qq_
        subst er eh
        try simp! only [aa,ix0,ix1,ix2]
        refine aM (hy e) fun r h2 qq_ => ?_
        obtain ⟨er,eh⟩ := qq_
        subst er eh
        try simp! only [aa,ix0,eq_self,decide_true]
        exact ar ⟨rfl,rfl⟩
      · have vv : Xe.val σ (.op "-" a b) = x - y :=by unfold Xe.val; rw [if_neg (by decide +kernel),if_pos rfl,hX,hY]
        refine ⟨by rw [vv]; omega,fun {h k} e => ?_⟩
        rw [e0,vv]
        unfold ci
        try simp! only [aa,ix0,ix1,ix2,ua,ub]
        refine aM (hx e) fun r h1 qq_ => ?_
        obtain ⟨er,eh⟩ := qq_
        subst er eh
        try simp! only [aa,ix0,ix1,ix2]
        refine aM (hy e) fun r h2 qq_ => ?_
        obtain ⟨er,eh⟩ := qq_
        subst er eh
        try simp! only [aa,ix0,eq_self,decide_true,t9]
        exact ar ⟨rfl,rfl⟩
      · have vv : Xe.val σ (.op "*" a b) = x * y :=by unfold Xe.val; rw [if_neg (by decide +kernel),if_neg (by decide +kernel),hX,hY]
        refine ⟨by rw [vv]; exact mb,fun {h k} e => ?_⟩
        rw [e0,vv]
        unfold ci
        try simp! only [aa,ix0,ix1,ix2,t2,t4]
        refine aM (hx e) fun r h1 qq_ => ?_
        obtain ⟨er,eh⟩ := qq_
        subst er eh
        try simp! only [aa,ix0,ix1,ix2]
        refine aM (hy e) fun r h2 qq_ => ?_
        obtain ⟨er,eh⟩ := qq_
        subst er eh
        try simp! only [aa,ix0,t0,t3,eK cm]
        exact ar ⟨rfl,rfl⟩
theorem fI {β : Type}{ns : List Str}{σ : Sto}{w:Xe}{h:List Ob}{k:Nat}{c:W → M β}{Q:β → List Ob → Prop} (D:Has ns σ) (g:w.G ns 6) (e:h[k]? = some (.dic (kz σ) (vz σ))) (q:Ok (c (.int (w.val σ))) h Q) : Ok (bd (aR 6 [w.w,.loc k]) c) h Q :=
  aM ((nU D 6 (Nat.le_refl _) g).2 e) fun r h' ⟨e1,e2⟩ => by subst e1 e2; exact q
end Q
set_option maxHeartbeats 1000000
namespace Q
open PySem L2
local macro_rules | `(tactic| simp! only [$xs,*]) => `(tactic| try simp only [finF,bK,cN,cM,cP,cO,cA,dQ,dR,sFor,mMet,aN,sAug,sAugW,sFldW,tupW,sRet,sSet,sNil,sEx,sPass,cB,sCont,sUnp,bn,mB,L2.m2,L2.m1,L2.m3,mVar,mC,mCall,mCons,mNil,mTup,mTl,mNew,lenG,listL,mPart,aW,mAnd,mOr,mNot,mAndV,mOrV,mNotV,mIf,cH,mMeth,isS,mSrc,mSrcA,srcL,srcT,srcS,tgN,tgT,setW,mYes,bt,bd_no,asB_bl,addW_int,subW_int,ltW_int,leW_int,gtW_int,geW_int,eqW_int,eqW_str,neW_int,neW_str,neW_bl,slW_tl,slW_cl,lenW_tl,lenW_tup,negW,List.set_cons_zero,List.set_cons_succ,List.getElem?_cons_zero,List.getElem?_cons_succ,List.length_cons,List.length_nil,arW,if_true,if_false,Bool.false_eq_true,ite_true,ite_false,reduceIte,decide_true,decide_false,Bool.not_true,Bool.not_false,dP,gdn0,gdn1,gdn2,gdn3,gdn4,gdn5,gdn6,gdn7,gdn8,gdn9,gdn10,gdn11,gdn12,gdn13,gdn14,gdn15,gdn16,gdn17,gdn18,gdn19,gdn20,gdn21,gdn22,gdn23,gdn24,$xs,*])
theorem kC (i j : Bool) : eqW (.bl i) (.bl j) = pr (.bl (decide (i = j))) :=by
  funext h
  cases i <;> cases j <;> rfl
theorem sK {β : Type}{h:List Ob}{k:W → M β}{Q:β → List Ob → Prop}{j:Nat}{ns : List Int} (e:h[j]? = some (.lst (ns.map W.int))) (q:Ok (k (.bl ns.isEmpty)) h Q) : Ok (bd (eqW (.loc j) (.tl [])) k) h Q :=by
  refine bp (a := .bl ns.isEmpty) (h' := h) ?_ q
  have o1 : optL (dataH h 49) (ns.map W.int) = some (ns.map PyData.int) := d5 (f := dataH h 49) (g := W.int) (k := PyData.int) (fun a => rfl) ns
  have x1 : dataH h 50 (.loc j) = some (.list (ns.map PyData.int)) :=by
    show (match h[j]? with
      | some (.lst l) => (optL (dataH h 49) l).map PyData.list
      | _ => none) = _
    simp only [e,o1]; rfl
  have ca : PyData.canLayAll0 (ns.map PyData.int) = true := jm ns fun z hz => by rw [PyData.canLay0]
  have e2 : eqB (.loc j) (.tl []) h = some ns.isEmpty :=by
    show (match dataH h 50 (.loc j),dataH h 50 (.tl []) with
      | some d,some e => if d.canLay0 = true ∧ e.canLay0 = true then some (PyData.eqv d e) else none
      | _,_ => none) = _
    rw [x1,show dataH h 50 (.tl []) = some (.list []) from rfl]
    show (if (PyData.list (ns.map PyData.int)).canLay0 = true ∧ (PyData.list []).canLay0 = true then some (PyData.eqv (.list (ns.map PyData.int)) (.list [])) else none) = _
    rw [if_pos ⟨by rw [PyData.canLay0]; exact ca,by rw [PyData.canLay0,PyData.canLayAll0]⟩,PyData.eqv]
    cases ns with
    | nil => rw [List.map_nil,PyData.eqvAll]; rfl
    | cons a b => rw [List.map_cons,PyData.eqvAll]; rfl
  unfold eqW
  rw [e2]
theorem u2 : decide (("<" : Str) = "=") = false :=by decide +kernel
theorem uA : decide (("=" : Str) = "<") = false :=by decide +kernel
theorem uH : decide (("when" : Str) = "jump") = false :=by decide +kernel
theorem uG : decide (("when" : Str) = "table") = false :=by decide +kernel
theorem uK : decide (("unless" : Str) = "jump") = false :=by decide +kernel
theorem uJ : decide (("unless" : Str) = "table") = false :=by decide +kernel
theorem uI : decide (("unless" : Str) = "when") = false :=by decide +kernel
theorem uL : decide (("table" : Str) = "jump") = false :=by decide +kernel
noncomputable def ledI : Option Nat → Int
  | none => -1
  | some t => t
theorem sR {ns : List Str}{kv m : Nat}{h:List Ob}{σ : Sto}{r:Rw} (g:r.G ns m) (n1 : r ≠ .stop) (n2 : ∀ st,r ≠ .st st) (H:Has ns σ) (ed : h[kv]? = some (.dic (kz σ) (vz σ))) : Ok (dm [r.w,.loc kv]) h fun w h' => w = .int (ledI (r.to σ)) ∧ h' = h :=by
  have e0 : dm [r.w,.loc kv] = bd (dG [some r.w,some (.loc kv),none,none,none]) finF := rfl
  rw [e0]
  unfold dG
  cases r with
  | stop => exact absurd rfl n1
  | st st => exact absurd rfl (n2 st)
  | jump t =>
    try simp! only [Rw.w,aa,ix0,ix1,eq_self,decide_true]
    exact ar ⟨rfl,rfl⟩
  | cnd neg c a b t =>
    obtain ⟨hc,ga,gb,_⟩ := g
    have ht : (Rw.cnd neg c a b t).to σ = if cond σ c a b = neg then none else some t := rfl
    have hv : (c = "<" ∧ cond σ c a b = decide (a.val σ < b.val σ)) ∨ (c = "=" ∧ cond σ c a b = decide (a.val σ = b.val σ)) :=by
      rcases hc with rfl | rfl
      · exact .inl ⟨rfl,if_pos rfl⟩
      · exact .inr ⟨rfl,if_neg (by decide +kernel)⟩
    rw [ht]
    have step : ∀ (z:Str),decide (z = "jump") = false → decide (z = "table") = false → decide (z = "when") = !neg → Ok (bd (dG [some (.tup [.str z,.str c,a.w,b.w,nI t]),some (.loc kv),none,none,none]) finF) h fun w h' => w = .int (ledI (if cond σ c a b = neg then none else some t)) ∧ h' = h := fun z z1 z2 z3 => by
      unfold dG
      try simp! only [aa,ix0,ix1,ix2,ix3,z1,z2]
      refine fI H ga ed ?_
      try simp! only [aa,ix0,ix1,ix2,ix3]
      refine fI H gb ed ?_
      rcases hv with ⟨rfl,hv⟩ | ⟨rfl,hv⟩
      · by_cases lt : a.val σ < b.val σ
        · rw [decide_eq_true lt] at hv
          rw [hv]
          try simp! only [aa,ix0,ix1,eq_self,decide_true,decide_eq_true lt,z3,kC,ix4]
          cases neg <;> (try simp! only [aa]) <;> exact ar ⟨rfl,rfl⟩
        · rw [decide_eq_false lt] at hv
          rw [hv]
          try simp! only [aa,ix0,ix1,eq_self,decide_true,decide_eq_false lt,u2,z3,kC,ix4]
          cases neg <;> (try simp! only [aa]) <;> exact ar ⟨rfl,rfl⟩
      · by_cases lt : a.val σ = b.val σ
        · rw [decide_eq_true lt] at hv
          rw [hv]
          try simp! only [aa,ix0,ix1,eq_self,decide_true,decide_eq_true lt,uA,z3,kC,ix4]
          cases neg <;> (try simp! only [aa]) <;> exact ar ⟨rfl,rfl⟩
        · rw [decide_eq_false lt] at hv
          rw [hv]
          try simp! only [aa,ix0,ix1,eq_self,decide_true,decide_eq_false lt,uA,z3,kC,ix4]
          cases neg <;> (try simp! only [aa]) <;> exact ar ⟨rfl,rfl⟩
    unfold dG at step
    cases neg with
    | false => exact step "when" uH uG (decide_eq_true rfl)
    | true => exact step "unless" uK uJ uI
  | tab e ts =>
    obtain ⟨ge,l1,_,_⟩ := g
    try simp! only [Rw.w,aa,ix0,ix1,ix2,uL,eq_self,decide_true]
    refine fI H ge ed ?_
    try simp! only [aa,ix0,ix1,ix2,List.length_map,bM (show (0 : Int) < (ts.length : Int) by omega),ck (on (ts := ts) (v := e.val σ) l1)]
    exact ar ⟨rfl,rfl⟩
noncomputable def bI : Env' → M Fl := (bn (mVar 4) (mVar 5) (mVar 6))
noncomputable def bL : Env' → M Fl := (sSeq (sSet 12 (m2 ixW (mVar 1) (mVar 9))) (sSeq (sSet 9 (m2 addW (mVar 9) (mC (.int 1)))) (sSeq (sIf (mB (m2 eqW (m2 ixW (mVar 12) (mC (.int 0))) (mC (.str "stop")))) (sRet (mTup (mCons (m1 iceW (mVar 7)) (mCons (mTup (mCons (mC (.str "stop")) mNil)) (mCons (mVar 10) mNil))))) sNil) (sSeq (sIf (mAnd (mB (m2 eqW (m2 ixW (mVar 12) (mC (.int 0))) (mC (.str "ask")))) (mB (m2 eqW (mVar 8) (mTl (lenG mNil))))) (sRet (mTup (mCons (m1 iceW (mVar 7)) (mCons (mTup (mCons (mC (.str "out")) mNil)) (mCons (mVar 10) mNil))))) sNil) (sIf (mB (m2 eqW (m2 ixW (mVar 12) (mC (.int 0))) (mC (.str "say")))) (sEx (mMeth isL bU (mVar 7) (mCons (mCall (arW 2 (aR 6)) (mCons (m2 ixW (mVar 12) (mC (.int 1))) (mCons (mVar 4) mNil))) mNil))) (sIf (mB (m2 eqW (m2 ixW (mVar 12) (mC (.int 0))) (mC (.str "put")))) (bn (mVar 4) (m2 ixW (mVar 12) (mC (.int 1))) (m2 modW (mCall (arW 2 (aR 6)) (mCons (m2 ixW (mVar 12) (mC (.int 2))) (mCons (mVar 4) mNil))) (mC (.int 1000000)))) (sIf (mB (m2 eqW (m2 ixW (mVar 12) (mC (.int 0))) (mC (.str "ask")))) (bn (mVar 4) (m2 ixW (mVar 12) (mC (.int 1))) (m2 modW (mMeth isL fV (mVar 8) (mCons (mC (.int 0)) mNil)) (mC (.int 1000000)))) (sIf (mB (m2 geW (mCall (arW 2 dm) (mCons (mVar 12) (mCons (mVar 4) mNil))) (mC (.int 0)))) (sSeq (sSet 9 (mCall (arW 2 dm) (mCons (mVar 12) (mCons (mVar 4) mNil)))) (sSet 10 (m2 addW (mVar 10) (mC (.int 1))))) sNil))))))))
theorem jq : fQ = (sSeq (sSet 4 mDNew) (sSeq (sFor (mSrc (mVar 0) srcL) (tgT [5,6]) bI) (sSeq (sSet 7 (mNew (lenG mNil))) (sSeq (sSet 8 (mNew (listL (mCons (mVar 2) mNil)))) (sSeq (sSet 9 (mC (.int 0))) (sSeq (sSet 10 (mC (.int 0))) (sSeq (sFor (mSrcA (mCons (mVar 3) mNil) rng1) (tgN 11) bL) (sRet (mTup (mCons (m1 iceW (mVar 7)) (mCons (mTup (mCons (mC (.str "on")) mNil)) (mCons (mVar 10) mNil)))))))))))) := rfl
noncomputable def envL (ps : List (Str × Int)) (rows : List Rw) (nums : List Int) (bound : Nat) (kv : Nat) (a5 a6 : Option W) (kS kl p j : Nat) (a11 a12 : Option W) : Env' := [some (.tl (ps.map bxW)),some (.tl (rows.map Rw.w)),some (.tl (nums.map W.int)),some (nI bound),some (.loc kv),a5,a6,some (.loc kS),some (.loc kl),some (nI p),some (nI j),a11,a12]
theorem rR {h:List Ob}{ps : List (Str × Int)}{rows : List Rw}{nums : List Int}{bound : Nat} (RG : RowsG (ps.map (·.1)) rows) (nl : nums.length ≤ 1000) (b4 : ps.length ≤ 4) (bv : ∀ p ∈ ps,0 ≤ p.2 ∧ p.2 < 1000) (hb : bound ≤ 1000) :
    Ok (eM [.tl (ps.map bxW),.tl (rows.map Rw.w),.tl (nums.map W.int),nI bound]) h fun w h' => (∀ i,i < h.length → h'[i]? = h[i]?) ∧ w = .tup [.tl ((runR nums rows bound 0 (sta0 ps)).said.map W.int),.tup [.str (runR nums rows bound 0 (sta0 ps)).en],nI (runR nums rows bound 0 (sta0 ps)).jumps] :=by
  have e0 : eM [.tl (ps.map bxW),.tl (rows.map Rw.w),.tl (nums.map W.int),nI bound] = bd (fQ [some (.tl (ps.map bxW)),some (.tl (rows.map Rw.w)),some (.tl (nums.map W.int)),some (nI bound),none,none,none,none,none,none,none,none,none]) finF := rfl
  rw [e0,jq]
  try simp! only [aa]
  refine qz ?_
  try simp! only [sFor,aa,hW]
  refine eS (I := fun i ρ h' => (∃ a5 a6,ρ = [some (.tl (ps.map bxW)),some (.tl (rows.map Rw.w)),some (.tl (nums.map W.int)),some (nI bound),some (.loc h.length),a5,a6,none,none,none,none,none,none]) ∧ h'[h.length]? = some (.dic (kz ((ps.take i).foldl (fun σ p => wr σ p.1 p.2) [])) (vz ((ps.take i).foldl (fun σ p => wr σ p.1 p.2) []))) ∧ h'.length = h.length + 1 ∧ ∀ i,i < h.length → h'[i]? = h[i]?) ⟨⟨_,_,rfl⟩,bu,by simp,fun i hi => List.getElem?_append_left hi⟩ (fun _ _ _ _ => trivial) (fun i w ρ h' hw I => ?_) fun ρ h' I => ?_
  · obtain ⟨⟨a5,a6,rfl⟩,e1,l1,f1⟩ := I
    rw [List.getElem?_map] at hw
    obtain ⟨p,hp,rfl⟩ := Option.map_eq_some_iff.mp hw
    refine ⟨_,rfl,?_⟩
    try simp! only [bI,aa]
    have tl : ((ps.take i).foldl (fun σ p => wr σ p.1 p.2) []).length ≤ 10 :=by
      have := jZ (ps.take i) []
      rw [List.length_take,List.length_nil] at this
      omega
    refine iK e1 (by unfold kz; rw [List.length_map]; exact Nat.lt_of_le_of_lt tl (by decide)) (fM ..) ?_
    try simp! only [aa]
    refine ar ⟨_,rfl,⟨_,_,rfl⟩,?_,by rw [List.length_set]; exact l1,fun j hj => by rw [List.getElem?_set_ne (by omega)]; exact f1 j hj⟩
    have tk : ps.take (i + 1) = ps.take i ++ [p] :=by rw [List.take_add_one,hp]; rfl
    rw [bo e1,tk,List.foldl_append]; rfl
  obtain ⟨⟨a5,a6,rfl⟩,e1,l1,f1⟩ := I
  rw [List.length_map,List.take_length] at e1
  try simp! only [aa]
  refine d7 ?_
  try simp! only [aa,lI]
  refine d7 ?_
  have e2 : (h' ++ [Ob.lst []] ++ [Ob.lst (nums.map W.int)])[h.length]? = some (.dic (kz (sto0 ps)) (vz (sto0 ps))) := cb (cb e1)
  have f2 : ∀ i,i < h.length → (h' ++ [Ob.lst []] ++ [Ob.lst (nums.map W.int)])[i]? = h[i]? := fun i hi => by rw [List.getElem?_append_left (by simp; omega),List.getElem?_append_left (by omega)]; exact f1 i hi
  have s2 : (h' ++ [Ob.lst []] ++ [Ob.lst (nums.map W.int)])[h.length + 1]? = some (.lst []) :=by rw [← l1]; exact cb bu
  have w2 : (h' ++ [Ob.lst []] ++ [Ob.lst (nums.map W.int)])[h.length + 2]? = some (.lst (nums.map W.int)) :=by rw [show h.length + 2 = (h' ++ [Ob.lst []]).length by simp [l1]]; exact bu
  rw [show (h' ++ [Ob.lst []]).length = h.length + 2 by simp [l1],l1]
  generalize h' ++ [Ob.lst []] ++ [Ob.lst (nums.map W.int)] = h2 at *
  clear e1 f1 l1 h'
  try simp! only [aa,nI,cC (show (-(2 ^ 62) : Int) ≤ (bound : Int) by omega) (show (bound : Int) < 2 ^ 62 by omega)]
  refine kc (I := fun k ρ h' => ∃ s j p a5 a6 a11 a12,ρ = envL ps rows nums bound h.length a5 a6 (h.length + 1) (h.length + 2) p j a11 a12 ∧ h'[h.length]? = some (.dic (kz s.σ) (vz s.σ)) ∧ h'[h.length + 1]? = some (.lst (s.said.map W.int)) ∧ h'[h.length + 2]? = some (.lst ((nums.drop s.taken).map W.int)) ∧ (∀ i,i < h.length → h'[i]? = h[i]?) ∧ Has (ps.map (·.1)) s.σ ∧ p < rows.length ∧ s.taken ≤ nums.length ∧ s.said.length ≤ k ∧ runR nums rows bound 0 (sta0 ps) = ⟨(runR nums rows (bound - k) p s).said,(runR nums rows (bound - k) p s).en,(runR nums rows (bound - k) p s).jumps + j⟩)
    (J := fun v h' => (∀ i,i < h.length → h'[i]? = h[i]?) ∧ v = .tup [.tl ((runR nums rows bound 0 (sta0 ps)).said.map W.int),.tup [.str (runR nums rows bound 0 (sta0 ps)).en],nI (runR nums rows bound 0 (sta0 ps)).jumps])
    ⟨sta0 ps,0,0,_,_,_,_,rfl,e2,s2,by exact w2,f2,Has.first b4 bv,RG.ne,Nat.zero_le _,Nat.zero_le _,rfl⟩ (fun _ _ _ _ => trivial) (fun k w ρ h' hw I => ?_) (fun ρ h' I => ?_) fun v h' I => ?_
  · obtain ⟨s,j,p,a5,a6,a11,a12,rfl,ed,es,el,f,H,hp,tk,sl',hrun⟩ := I
    obtain ⟨rfl,hi⟩ := cI _ _ _ _ hw
    have hkb : k < bound :=by simpa using hi
    obtain ⟨n,hn⟩ : ∃ n,bound - k = n + 1 := ⟨bound - k - 1,by omega⟩
    have hn' : bound - (k + 1) = n :=by omega
    rw [hn] at hrun
    obtain ⟨r,hr⟩ : ∃ r,rows[p]? = some r := ⟨_,List.getElem?_eq_getElem hp⟩
    obtain ⟨g,fa⟩ := RG.g p r hr
    have rix : ixW (.tl (rows.map Rw.w)) (.int (p:Int)) = pr r.w := eG (da (by rw [List.getElem?_map,hr]; rfl))
    have p1 : (p:Int) + 1 = ((p + 1 : Nat) : Int) :=by omega
    refine ⟨envL ps rows nums bound h.length a5 a6 (h.length + 1) (h.length + 2) p j (some (.int (0 + (k:Int)))) a12,rfl,?_⟩
    by_cases is : ∃ st,r = .st st
    · obtain ⟨st,rfl⟩ := is
      have go : lacks nums s st = false → runR nums rows (n + 1) p s = runR nums rows n (p + 1) (doS nums s st) := fun hl => by
        conv => lhs; unfold runR
        rw [hr]; dsimp only; rw [hl,if_neg Bool.false_ne_true]
      have fin : lacks nums s st = true → runR nums rows (n + 1) p s = ⟨s.said, "out",0⟩ := fun hl => by
        conv => lhs; unfold runR
        rw [hr]; dsimp only; rw [hl,if_pos rfl]
      have fl := fa rfl
      cases st with
      | say e =>
        rw [go rfl] at hrun
        have gst : e.G (ps.map (·.1)) 6 := g
        have st1 : decide (("say" : Str) = "stop") = false :=by decide +kernel
        try simp! only [bL,envL,aa,nI,rix,Rw.w,Sm.w,ix0,ix1,st1,t5,eq_self,decide_true,p1]
        refine cV es ?_
        try simp! only [aa,ix0,ix1]
        refine fI H gst ed ?_
        try simp! only [aa]
        refine dF es (by rw [List.length_map]; exact Nat.lt_of_le_of_lt (show s.said.length ≤ 1000 by omega) (by decide)) ?_
        try simp! only [aa]
        refine ar (.inl ⟨_,rfl,doS nums s (.say e),j,p + 1,_,_,_,_,rfl,?_,?_,?_,fun i hi => ?_,H,fl,tk,?_,by rw [hn']; exact hrun⟩)
        · rw [List.getElem?_set_ne (by omega)]; exact ed
        · rw [bo es]; show _ = some (Ob.lst ((s.said ++ [e.val s.σ]).map W.int)); rw [List.map_append]; rfl
        · rw [List.getElem?_set_ne (by omega)]; exact el
        · rw [List.getElem?_set_ne (by omega)]; exact f i hi
        · have := gF nums s (.say e); omega
      | put y e =>
        rw [go rfl] at hrun
        obtain ⟨gy,ge⟩ := (show y ∈ ps.map (·.1) ∧ e.G (ps.map (·.1)) 6 from g)
        have st1 : decide (("put" : Str) = "stop") = false :=by decide +kernel
        try simp! only [bL,envL,aa,nI,rix,Rw.w,Sm.w,ix0,ix1,ix2,st1,t8,uU,eq_self,decide_true,p1]
        refine fI H ge ed ?_
        try simp! only [aa,ix0,ix1,bM (show (0 : Int) < 1000000 by decide)]
        refine iK ed (by unfold kz; rw [List.length_map]; exact Nat.lt_of_le_of_lt H.sz (by decide)) (fM ..) ?_
        try simp! only [aa]
        refine ar (.inl ⟨_,rfl,doS nums s (.put y e),j,p + 1,_,_,_,_,rfl,bo ed,?_,?_,fun i hi => ?_,H.wr gy _,fl,tk,?_,by rw [hn']; exact hrun⟩)
        · rw [List.getElem?_set_ne (by omega)]; exact es
        · rw [List.getElem?_set_ne (by omega)]; exact el
        · rw [List.getElem?_set_ne (by omega)]; exact f i hi
        · have := gF nums s (.put y e); omega
      | ask y =>
        have gy : y ∈ ps.map (·.1) := g
        have st1 : decide (("ask" : Str) = "stop") = false :=by decide +kernel
        try simp! only [bL,envL,aa,nI,rix,Rw.w,Sm.w,ix0,ix1,ix2,st1,eq_self,decide_true,p1]
        refine sK el ?_
        by_cases ht : s.taken = nums.length
        · have em : (nums.drop s.taken).isEmpty = true :=by rw [ht,List.drop_length]; rfl
          rw [fin (by unfold lacks Sm.asks; rw [decide_eq_true ht]; rfl)] at hrun
          try simp! only [aa,em]
          refine fX es ?_
          try simp! only [aa,tupW]
          refine ar (.inr ⟨_,rfl,fun i hi => ?_,?_⟩)
          · rw [List.getElem?_set_ne (by omega)]; exact f i hi
          · rw [hrun,Nat.zero_add]
            try rfl
        · have em : (nums.drop s.taken).isEmpty = false :=by
            rw [List.isEmpty_eq_false_iff]
            intro z
            have := List.drop_eq_nil_iff.mp z
            omega
          rw [go (by unfold lacks Sm.asks; rw [decide_eq_false ht]; rfl)] at hrun
          have hd : nums.drop s.taken = nums.getD s.taken 0 :: nums.drop (s.taken + 1) :=by
            rw [List.drop_eq_getElem_cons (show s.taken < nums.length by omega),List.getD_eq_getElem?_getD,List.getElem?_eq_getElem (show s.taken < nums.length by omega)]; rfl
          try simp! only [aa,em,ix0,ud,ue,eq_self,decide_true]
          refine cV el ?_
          try simp! only [aa]
          refine lf el (v := 0) (w := .int (nums.getD s.taken 0)) (by decide) (by decide) (by rw [hd]; rfl) ?_
          have ed' : (h'.set (h.length + 2) (.lst (((nums.drop s.taken).map W.int).eraseIdx (0 : Int).toNat)))[h.length]? = some (.dic (kz s.σ) (vz s.σ)) :=by rw [List.getElem?_set_ne (by omega)]; exact ed
          try simp! only [aa,bM (show (0 : Int) < 1000000 by decide),ix1]
          refine iK ed' (by unfold kz; rw [List.length_map]; exact Nat.lt_of_le_of_lt H.sz (by decide)) (fM ..) ?_
          try simp! only [aa]
          refine ar (.inl ⟨_,rfl,doS nums s (.ask y),j,p + 1,_,_,_,_,rfl,bo ed',?_,?_,fun i hi => ?_,H.wr gy _,fl,?_,?_,by rw [hn']; exact hrun⟩)
          · rw [List.getElem?_set_ne (by omega),List.getElem?_set_ne (by omega)]; exact es
          · rw [List.getElem?_set_ne (by omega),bo el,hd]; rfl
          · rw [List.getElem?_set_ne (by omega),List.getElem?_set_ne (by omega)]; exact f i hi
          · show s.taken + 1 ≤ nums.length; omega
          · have := gF nums s (.ask y); omega
    · by_cases ns0 : r = .stop
      · subst ns0
        have run : runR nums rows (n + 1) p s = ⟨s.said, "stop",0⟩ :=by
          conv => lhs; unfold runR
          rw [hr]
        rw [run] at hrun
        try simp! only [bL,envL,aa,nI,rix,Rw.w,ix0,eq_self,decide_true,p1]
        refine fX es ?_
        try simp! only [aa,tupW]
        refine ar (.inr ⟨_,rfl,fun i hi => ?_,?_⟩)
        · rw [List.getElem?_set_ne (by omega)]; exact f i hi
        · rw [hrun,Nat.zero_add]
          try rfl
      · obtain ⟨c,l,ew,hs,hst,_⟩ := iD g
        have na : decide (c = "ask") = false := lM g (fun st z => is ⟨st,z⟩) ew
        have c0 : decide (c = "stop") = false := decide_eq_false fun z => ns0 (hs.mpr z)
        have nst : ∀ z ∈ (["put", "say", "ask"] : List Str),c ≠ z := fun z hz e => is (hst.mp (by rw [e]; exact hz))
        have c1 : decide (c = "say") = false := decide_eq_false (nst _ (by simp))
        have c2 : decide (c = "put") = false := decide_eq_false (nst _ (by simp))
        have led := sR (kv := h.length) (h := h') g ns0 (fun st z => is ⟨st,z⟩) H ed
        rw [ew] at rix led
        try simp! only [bL,envL,aa,nI,rix,ix0,c0,na,c1,c2,p1]
        refine aM led fun w h3 qq_ => ?_
        obtain ⟨e1,e2⟩ := qq_
        subst e1 e2
        cases ht : r.to s.σ with
        | none =>
          have er' : runR nums rows (n + 1) p s = runR nums rows n (p + 1) s :=by
            conv => lhs; unfold runR
            rw [hr]
            cases r with
            | st st => exact absurd ⟨st,rfl⟩ is
            | stop => exact absurd rfl ns0
            | jump t => cases ht
            | cnd neg c a b t => dsimp only; rw [ht]
            | tab e ts => cases ht
          have fl : r.falls = true :=by
            cases r with
            | st st => rfl
            | stop => exact absurd rfl ns0
            | jump t => cases ht
            | cnd neg c a b t => rfl
            | tab e ts => cases ht
          have lt : ¬ (0 : Int) ≤ ledI none :=by decide
          rw [er'] at hrun
          try simp! only [aa,decide_eq_false lt]
          exact ar (.inl ⟨_,rfl,s,j,p + 1,_,_,_,_,rfl,ed,es,el,f,H,fa fl,tk,by omega,by rw [hn']; exact hrun⟩)
        | some t =>
          have er' : runR nums rows (n + 1) p s = ⟨(runR nums rows n t s).said,(runR nums rows n t s).en,(runR nums rows n t s).jumps + 1⟩ :=by
            conv => lhs; unfold runR
            rw [hr]
            cases r with
            | st st => exact absurd ⟨st,rfl⟩ is
            | stop => exact absurd rfl ns0
            | jump t => cases ht; rfl
            | cnd neg c a b t => dsimp only; rw [ht]
            | tab e ts => dsimp only; rw [ht]
          have hb : t < rows.length :=by
            cases r with
            | st st => exact absurd ⟨st,rfl⟩ is
            | stop => exact absurd rfl ns0
            | jump t => cases ht; exact g
            | cnd neg c a b t' =>
              have ht : (if cond s.σ c a b = neg then none else some t') = some t := ht
              split at ht
              · cases ht
              · cases ht; exact g.2.2.2
            | tab e ts =>
              cases ht
              obtain ⟨_,g1,_,g2⟩ := g
              have q1 : 0 ≤ e.val s.σ % (ts.length : Int) := Int.emod_nonneg _ (by omega)
              have q2 : e.val s.σ % (ts.length : Int) < ts.length := Int.emod_lt_of_pos _ (by omega)
              rw [List.getD_eq_getElem?_getD,List.getElem?_eq_getElem (by omega),Option.getD_some]
              exact g2 _ (List.getElem_mem _)
          have lt : (0 : Int) ≤ ledI (some t) :=by show (0 : Int) ≤ (t:Int); omega
          rw [er'] at hrun
          rw [ht] at led
          try simp! only [aa,decide_eq_true lt]
          refine aM led fun w h4 qq_ => ?_
          obtain ⟨e1,e2⟩ := qq_
          subst e1 e2
          try simp! only [aa]
          refine ar (.inl ⟨_,rfl,s,j + 1,t,_,_,_,_,rfl,ed,es,el,f,H,hb,tk,by omega,?_⟩)
          rw [hn',hrun]; congr 1; show _ + 1 + j = _ + (j + 1); omega
  · rw [bz] at I
    obtain ⟨s,j,p,a5,a6,a11,a12,rfl,ed,es,el,f,H,hp,tk,sl',hrun⟩ := I
    have hrun : runR nums rows bound 0 (sta0 ps) = ⟨s.said, "on",j⟩ :=by
      rw [hrun,show bound - (((bound : Int)).toNat) = 0 by omega]
      show (⟨s.said, "on",0 + j⟩ : OutR) = _
      rw [Nat.zero_add]
    try simp! only [envL,aa]
    refine fX es ?_
    try simp! only [aa,tupW]
    refine ar ⟨fun i hi => ?_,?_⟩
    · rw [List.getElem?_set_ne (by omega)]; exact f i hi
    · rw [hrun]; rfl
  · obtain ⟨f,rfl⟩ := I
    try simp! only [aa]
    exact ar ⟨f,rfl⟩
end Q
set_option maxHeartbeats 1000000
namespace Q
open PySem L2
local macro_rules | `(tactic| simp! only [$xs,*]) => `(tactic| try simp only [finF,bK,cN,cM,cP,cO,cA,dQ,dR,sFor,mMet,aN,sAug,sAugW,sFldW,tupW,sRet,sSet,sNil,sEx,sPass,cB,sCont,sUnp,bn,mB,L2.m2,L2.m1,L2.m3,mVar,mC,mCall,mCons,mNil,mTup,mTl,mNew,lenG,listL,mPart,aW,mAnd,mOr,mNot,mAndV,mOrV,mNotV,mIf,cH,mMeth,isS,mSrc,mSrcA,srcL,srcT,srcS,tgN,tgT,setW,mYes,bt,bd_no,asB_bl,addW_int,subW_int,ltW_int,leW_int,gtW_int,geW_int,eqW_int,eqW_str,neW_int,neW_str,neW_bl,slW_tl,slW_cl,lenW_tl,lenW_tup,negW,List.set_cons_zero,List.set_cons_succ,List.getElem?_cons_zero,List.getElem?_cons_succ,List.length_cons,List.length_nil,arW,if_true,if_false,Bool.false_eq_true,ite_true,ite_false,reduceIte,decide_true,decide_false,Bool.not_true,Bool.not_false,dP,gdn0,gdn1,gdn2,gdn3,gdn4,gdn5,gdn6,gdn7,gdn8,gdn9,gdn10,gdn11,gdn12,gdn13,gdn14,gdn15,gdn16,gdn17,gdn18,gdn19,gdn20,gdn21,gdn22,gdn23,gdn24,$xs,*])
theorem alI {h:List Ob}{x y : W}{l:List Int}{n:Nat} (e:Lw h x (l.map W.int)) (e2 : Lw h y (l.map W.int)) (hl : l.length ≤ 1000) : Al h (n + 2) x y := .inr (.inr ⟨_,_,.inr ⟨e,e2⟩,rfl,by rw [List.length_map]; exact hl,fun i a b ha hb => by
  rw [ha] at hb
  cases hb
  rw [List.getElem?_map] at ha
  obtain ⟨v,_,rfl⟩ := Option.map_eq_some_iff.mp ha
  exact .inl ⟨v,rfl,rfl⟩⟩)
theorem gj (nums : List Int) (rows : List Rw) : ∀ (n p : Nat) (s:Sta),(runR nums rows n p s).said.length ≤ s.said.length + n
  | 0,p,s => Nat.le_refl _
  | n + 1,p,s => by
    have d0 := fun st => gF nums s st
    unfold runR
    split
    · exact Nat.le_add_right _ _
    · exact Nat.le_add_right _ _
    · rename_i st _
      split
      · exact Nat.le_add_right _ _
      · have := gj nums rows n (p + 1) (doS nums s st)
        have := d0 st
        omega
    · split
      · have := gj nums rows n (p + 1) s; omega
      · rename_i t _
        have := gj nums rows n t s
        show (runR nums rows n t s).said.length ≤ _
        omega
theorem qM (ns : List Int) (hh : List Ob) : Ok (jQ [.cl (ns.map W.int)]) hh fun w _ => w = .bl true :=by
  have e0 : jQ [.cl (ns.map W.int)] = bd (m4 [some (.cl (ns.map W.int)),none,none,none,none,none,none,none,none,none]) finF := rfl
  rw [e0]
  unfold m4
  obtain ⟨c2,ec2⟩ := ik ns 2 (by decide)
  try simp! only [aa]
  refine aM (lW ns hh) fun w h1 qq_ => ?_
  obtain ⟨ps,bl,ew,P1⟩ := qq_
  subst ew
  try simp! only [aa,tupW]
  refine aM (oa ns P1) fun w h2 qq_ => ?_
  obtain ⟨P2,nums,ew,nl⟩ := qq_
  subst ew
  obtain ⟨bs,PA,PG,eb⟩ := P2.pg
  obtain ⟨N,hN⟩ : ∃ N : Int,N = ((bl.map Bk.w).length : Int) := ⟨_,rfl⟩
  have hN' : N = (bs.length : Int) :=by rw [hN,List.length_map,eb]
  obtain ⟨bx',bl',ex,_,BA⟩ := PA.bl
  have ebl : .tl (bl.map Bk.w) = bl' :=by
    injection ex with ex
    injection ex with _ ex
    injection ex with ex _
  rw [← ebl] at BA
  clear P1 P2 PA
  try simp! only [aa,ec2,gW (i := c2) (show (0 : Int) < 3 by decide) (by decide)]
  refine gg fun a b => ?_
  try simp! only [aa,← hN]
  refine aM (nL (h := h2 ++ [.lst [.int a,.int b]]) (j := h2.length) (m := bs.length) hN' PG.l1 PG.l2 ⟨a,b,bu⟩) fun w h3 qq_ => ?_
  obtain ⟨os,ew,O,R3,f3⟩ := qq_
  subst ew
  have g3 : ∀ i,i < h2.length → h3[i]? = h2[i]? := fun i hi => by rw [f3 i (by simp; omega) (by omega),List.getElem?_append_left hi]
  have BA3 := BA.keep g3
  try simp! only [aa]
  refine aM (tE PG O BA3) fun w h4 qq_ => ?_
  obtain ⟨ew,f4⟩ := qq_
  subst ew
  have R4 : Reel h4 h2.length :=by
    obtain ⟨a,b,e⟩ := R3
    exact ⟨a,b,(f4 _ (cW e)).trans e⟩
  try simp! only [aa]
  refine aH (m := 200) R4 (by decide) (by decide) fun v h5 v0 v1 K5 => ?_
  obtain ⟨bound,hb⟩ : ∃ bound : Nat,1 + v = (bound : Int) := ⟨(1 + v).toNat,by omega⟩
  have bb : bound ≤ 200 :=by omega
  have RG := sS PG O
  have rl : (laidR bs os).length ≤ 100 :=by
    have := iC PG O bs.length
    have := PG.l2
    rw [jf]; omega
  clear f4 f3 g3 BA3 BA R3 R4 K5
  generalize laidR bs os = rows at *
  have b4 := PG.bx.len
  have bv := PG.bv
  try simp! only [aa,hb]
  refine aM (rR (bound := bound) RG (by omega) b4 bv (by omega)) fun w hC qq_ => ?_
  obtain ⟨fC,ew⟩ := qq_
  subst ew
  have ol := gj nums rows bound 0 (sta0 ps)
  have rw0 := fun (h:List Ob) => kX (nums := nums) (h := h) (bx := .tl (ps.map bxW)) (rw := .tl (rows.map Rw.w)) (nm := .tl (nums.map W.int)) (bound := bound) RG b4 bv (.inl rfl) (.inl rfl) (.inl rfl) (by omega)
  have pdr : ∀ r ∈ rows,Pd 9 r.w := fun r hr => by
    obtain ⟨p,hp⟩ := List.getElem?_of_mem hr
    exact (RG.g p r hp).1.pd
  generalize runR nums rows bound 0 (sta0 ps) = o at *
  have ol : o.said.length ≤ 200 :=by have : (sta0 ps).said.length = 0 := rfl; omega
  have alO : ∀ {h:List Ob}{k:Nat},h[k]? = some (.lst (o.said.map W.int)) → Al h 16 (.tup [.loc k,.tup [.str o.en],nI o.jumps]) (.tup [.tl (o.said.map W.int),.tup [.str o.en],nI o.jumps]) := fun {h k} e => .inr (.inr ⟨_,_,.inl ⟨rfl,rfl⟩,rfl,by simp,fun i x y ha hb => by
    match i,ha,hb with
    | 0,ha,hb => cases ha; cases hb; exact alI (.inr ⟨_,rfl,e⟩) (.inl rfl) (by omega)
    | 1,ha,hb => cases ha; cases hb; exact (pdT (n := 14) (by simp) (aV .str eR)).al
    | 2,ha,hb => cases ha; cases hb; exact .inl ⟨_,rfl,rfl⟩
    | n + 3,ha,hb => simp at ha⟩)
  try simp! only [aa,lI,tupW,ix0,ix1,ix2]
  refine aM (rw0 hC) fun w hD qq_ => ?_
  obtain ⟨fD,k,hk,ew,ek⟩ := qq_
  subst ew
  try simp! only [aa]
  refine kt (alO ek) ?_
  try simp! only [aa,ix0]
  refine cV ek ?_
  try simp! only [aa]
  refine dF ek (by rw [List.length_map]; exact Nat.lt_of_le_of_lt ol (by decide)) ?_
  try simp! only [aa,ix0,ix1,ix2]
  refine aM (rw0 _) fun w hF qq_ => ?_
  obtain ⟨fF,k2,hk2,ew,ek2⟩ := qq_
  subst ew
  try simp! only [aa]
  refine kt (alO ek2) ?_
  try simp! only [aa,tupW]
  refine kt ((pdT (n := 15) (by simp) (aV (Pd.lst (n := 14) (by rw [List.length_map]; omega) fun x hx => ?_) (aV (Pd.lst (n := 14) (by rw [List.length_map]; omega) fun x hx => ?_) (aV (Pd.lst (n := 14) (by rw [List.length_map]; omega) fun x hx => ?_) eR)))).al) ?_
  · obtain ⟨p,_,rfl⟩ := List.mem_map.mp hx
    exact Pd.up (n := 2) pd2i (by decide)
  · obtain ⟨r,hr,rfl⟩ := List.mem_map.mp hx
    exact (pdr r hr).up (by decide)
  · obtain ⟨v,_,rfl⟩ := List.mem_map.mp hx
    exact .int
  try simp! only [aa]
  exact ar rfl
theorem law_true (ns : List Int) (hh : List Ob) : ∃ h',jQ [.cl (ns.map W.int)] hh = .ok (.bl true) h' :=by
  obtain ⟨w,h',e,rfl⟩ := qM ns hh
  exact ⟨h',e⟩
end Q
namespace Q
open PySem L2
theorem ln1 {α : Type} : ∀ {us : List α},us.length = 1 → ∃ a0,us = [a0]
  | [a0],_ => ⟨a0,rfl⟩
theorem ln2 {α : Type} : ∀ {us : List α},us.length = 2 → ∃ a0 a1,us = [a0,a1]
  | [a0,a1],_ => ⟨a0,a1,rfl⟩
theorem ln3 {α : Type} : ∀ {us : List α},us.length = 3 → ∃ a0 a1 a2,us = [a0,a1,a2]
  | [a0,a1,a2],_ => ⟨a0,a1,a2,rfl⟩
theorem ln4 {α : Type} : ∀ {us : List α},us.length = 4 → ∃ a0 a1 a2 a3,us = [a0,a1,a2,a3]
  | [a0,a1,a2,a3],_ => ⟨a0,a1,a2,a3,rfl⟩
noncomputable def spLaw (K:PySem.W.Frag) : Sp := fun vs H Q _ => ∃ (a:Addr) (ns : List Int),vs = [.ref a] ∧ SqL K H a (ns.map V.int) ∧ ns.length ≤ 63 ∧ ∀ H',Q (.bl true) H'
theorem kW {K:PySem.W.Frag}{o:Wo} : ∀ ns : List Int,Rvs K o (ns.map W.int) (ns.map V.int)
  | [] => Rvs.nil
  | n :: r => Rvs.cons (rv_int.mpr rfl) (kW r)
theorem law_ok {P:Program}{w:World}{K:PySem.W.Frag}{mg : Str → Option Value}{base : Heap}{f:Addr}{fd : FuncData} (C:CG P w K mg base 18 "law" f fd ["script"] 1 jQ) : FnOk P w K mg base CX0 18 f fd ["script"] (spLaw K) :=
  C.ok.imp fun vs H Q E h => by
    obtain ⟨a,ns,rfl,sq,hn,q⟩ := h
    have nl : ¬ Lv ⟨fun _ => 0,[],H⟩ a := fun ⟨k,b,hk,_⟩ => by simp at hk
    refine ⟨⟨fun _ => 0,[],H⟩,[.cl (ns.map W.int)],rfl,rfl,⟨fun k b hk => by simp at hk,fun j k b c hj => by simp at hj⟩,Rvs.cons ?_ Rvs.nil,?_⟩
    · unfold Rv
      exact ⟨a,_,rfl,sq.imp (fun r => ⟨r,nl⟩) id,kW ns⟩
    · obtain ⟨h',e⟩ := law_true ns []
      show Ps _ _ _ (jQ [.cl (ns.map W.int)] []) Q
      rw [e]
      intro p b _ _ _ rb
      rw [rv_bl.mp rb]
      exact q _
theorem all_mk {l:PySem.W.OpenLaw}{w:World}{K:PySem.W.Frag}{h:Heap}{mg : Str → Option Value}{fa f1 f2 f3 f4 f5 f6 f7 f8 f9 f10 f11 f12 f13 f14 f15 f16 f17 f18 f19 f20 f21 f22 f23 f24 f25 f26 f27 f28 f29 f30 c_Doing c_STATEMENTS : Addr} (X:K.In h) (G:h.Ns mainGlobals mg) (hfa : mg "law" = some (.ref fa))
    {od1 an1 od2 an2 od3 an3 od4 an4 od5 an5 od6 an6 od7 an7 od8 an8 od9 an9 od10 an10 od11 an11 od12 an12 od13 an13 od14 an14 od15 an15 od16 an16 od17 an17 od18 an18 od19 an19 od20 an20 od21 an21 od22 an22 od23 an23 od24 an24 od25 an25 od26 an26 od27 an27 od28 an28 od29 an29 od30 an30 : Option Addr}{sl1 sl2 sl3 sl4 sl5 sl6 sl7 sl8 sl9 sl10 sl11 sl12 sl13 sl14 sl15 sl16 sl17 sl18 sl19 sl20 sl21 sl22 sl23 sl24 sl25 sl26 sl27 sl28 sl29 sl30 : Array (Option Value)}{oc1 kV1 dc1 pm1 cd1 ct1 oc2 kV2 dc2 pm2 cd2 ct2 oc3 kV3 dc3 pm3 cd3 ct3 oc4 kV4 dc4 pm4 cd4 ct4 oc5 kV5 dc5 pm5 cd5 ct5 oc6 kV6 dc6 pm6 cd6 ct6 oc7 kV7 dc7 pm7 cd7 ct7 oc8 kV8 dc8 pm8 cd8 ct8 oc9 kV9 dc9 pm9 cd9 ct9 oc10 kV10 dc10 pm10 cd10 ct10 oc11 kV11 dc11 pm11 cd11 ct11 oc12 kV12 dc12 pm12 cd12 ct12 oc13 kV13 dc13 pm13 cd13 ct13 oc14 kV14 dc14 pm14 cd14 ct14 oc15 kV15 dc15 pm15 cd15 ct15 oc16 kV16 dc16 pm16 cd16 ct16 oc17 kV17 dc17 pm17 cd17 ct17 oc18 kV18 dc18 pm18 cd18 ct18 oc19 kV19 dc19 pm19 cd19 ct19 oc20 kV20 dc20 pm20 cd20 ct20 oc21 kV21 dc21 pm21 cd21 ct21 oc22 kV22 dc22 pm22 cd22 ct22 oc23 kV23 dc23 pm23 cd23 ct23 oc24 kV24 dc24 pm24 cd24 ct24 oc25 kV25 dc25 pm25 cd25 ct25 oc26 kV26 dc26 pm26 cd26 ct26 oc27 kV27 dc27 pm27 cd27 ct27 oc28 kV28 dc28 pm28 cd28 ct28 oc29 kV29 dc29 pm29 cd29 ct29 oc30 kV30 dc30 pm30 cd30 ct30 : Value}
    {od_STATEMENTS : Option Addr}{nn_STATEMENTS : Nat}{sl_STATEMENTS : Array (Option Value)}{tt_STATEMENTS_0 tt_STATEMENTS_1 tt_STATEMENTS_2 : Tok}
    {t_BOX_RANGE : Tok}
    (n_Doing : PySem.W.nsIn K mainGlobals "Doing" = some (some (.ref c_Doing)))
    (a1 : PySem.W.nsIn K mainGlobals "worth" = some (some (.ref f1)))
    (l1 : K.lookup f1 = some ⟨oc1,od1,.func (PySem.W.fnOf "worth" "worth" (aK fL) (aI fL) (ap fL) .none kV1 dc1 pm1 an1 cd1 ct1),sl1⟩)
    (c1 : PySem.W.codeIn K cd1 "worth" = true)
    (k1 : PySem.W.keepIn K (.ref f1) = true)
    (a2 : PySem.W.findIn K (.ref c_Doing) "__init__" = some (some (.ref f2)))
    (i2 : PySem.W.isFn K (.ref f2) = true)
    (l2 : K.lookup f2 = some ⟨oc2,od2,.func (PySem.W.fnOf "__init__" "Doing.__init__" (aK bB) (aI bB) (ap bB) .none kV2 dc2 pm2 an2 cd2 ct2),sl2⟩)
    (c2 : PySem.W.codeIn K cd2 "Doing.__init__" = true)
    (k2 : PySem.W.keepIn K (.ref f2) = true)
    (a3 : PySem.W.findIn K (.ref c_Doing) "lacks_number" = some (some (.ref f3)))
    (i3 : PySem.W.isFn K (.ref f3) = true)
    (l3 : K.lookup f3 = some ⟨oc3,od3,.func (PySem.W.fnOf "lacks_number" "Doing.lacks_number" (aK bf) (aI bf) (ap bf) .none kV3 dc3 pm3 an3 cd3 ct3),sl3⟩)
    (c3 : PySem.W.codeIn K cd3 "Doing.lacks_number" = true)
    (k3 : PySem.W.keepIn K (.ref f3) = true)
    (a4 : PySem.W.findIn K (.ref c_Doing) "do_statement" = some (some (.ref f4)))
    (i4 : PySem.W.isFn K (.ref f4) = true)
    (l4 : K.lookup f4 = some ⟨oc4,od4,.func (PySem.W.fnOf "do_statement" "Doing.do_statement" (aK bg) (aI bg) (ap bg) .none kV4 dc4 pm4 an4 cd4 ct4),sl4⟩)
    (c4 : PySem.W.codeIn K cd4 "Doing.do_statement" = true)
    (k4 : PySem.W.keepIn K (.ref f4) = true)
    (a5 : PySem.W.findIn K (.ref c_Doing) "holds" = some (some (.ref f5)))
    (i5 : PySem.W.isFn K (.ref f5) = true)
    (l5 : K.lookup f5 = some ⟨oc5,od5,.func (PySem.W.fnOf "holds" "Doing.holds" (aK cr) (aI cr) (ap cr) .none kV5 dc5 pm5 an5 cd5 ct5),sl5⟩)
    (c5 : PySem.W.codeIn K cd5 "Doing.holds" = true)
    (k5 : PySem.W.keepIn K (.ref f5) = true)
    (a6 : PySem.W.findIn K (.ref c_Doing) "chosen" = some (some (.ref f6)))
    (i6 : PySem.W.isFn K (.ref f6) = true)
    (l6 : K.lookup f6 = some ⟨oc6,od6,.func (PySem.W.fnOf "chosen" "Doing.chosen" (aK cc) (aI cc) (ap cc) .none kV6 dc6 pm6 an6 cd6 ct6),sl6⟩)
    (c6 : PySem.W.codeIn K cd6 "Doing.chosen" = true)
    (k6 : PySem.W.keepIn K (.ref f6) = true)
    (a7 : PySem.W.nsIn K mainGlobals "row_gone_to" = some (some (.ref f7)))
    (l7 : K.lookup f7 = some ⟨oc7,od7,.func (PySem.W.fnOf "row_gone_to" "row_gone_to" (aK cp) (aI cp) (ap cp) .none kV7 dc7 pm7 an7 cd7 ct7),sl7⟩)
    (c7 : PySem.W.codeIn K cd7 "row_gone_to" = true)
    (k7 : PySem.W.keepIn K (.ref f7) = true)
    (a8 : PySem.W.nsIn K mainGlobals "run_rows" = some (some (.ref f8)))
    (l8 : K.lookup f8 = some ⟨oc8,od8,.func (PySem.W.fnOf "run_rows" "run_rows" (aK dw) (aI dw) (ap dw) .none kV8 dc8 pm8 an8 cd8 ct8),sl8⟩)
    (c8 : PySem.W.codeIn K cd8 "run_rows" = true)
    (k8 : PySem.W.keepIn K (.ref f8) = true)
    (a9 : PySem.W.nsIn K mainGlobals "_law_cell_at" = some (some (.ref f9)))
    (l9 : K.lookup f9 = some ⟨oc9,od9,.func (PySem.W.fnOf "_law_cell_at" "_law_cell_at" (aK cq) (aI cq) (ap cq) .none kV9 dc9 pm9 an9 cd9 ct9),sl9⟩)
    (c9 : PySem.W.codeIn K cd9 "_law_cell_at" = true)
    (k9 : PySem.W.keepIn K (.ref f9) = true)
    (a10 : PySem.W.nsIn K mainGlobals "_law_reel" = some (some (.ref f10)))
    (l10 : K.lookup f10 = some ⟨oc10,od10,.func (PySem.W.fnOf "_law_reel" "_law_reel" (aK dB) (aI dB) (ap dB) .none kV10 dc10 pm10 an10 cd10 ct10),sl10⟩)
    (c10 : PySem.W.codeIn K cd10 "_law_reel" = true)
    (k10 : PySem.W.keepIn K (.ref f10) = true)
    (a11 : PySem.W.nsIn K mainGlobals "_law_take" = some (some (.ref f11)))
    (l11 : K.lookup f11 = some ⟨oc11,od11,.func (PySem.W.fnOf "_law_take" "_law_take" (aK dz) (aI dz) (ap dz) .none kV11 dc11 pm11 an11 cd11 ct11),sl11⟩)
    (c11 : PySem.W.codeIn K cd11 "_law_take" = true)
    (k11 : PySem.W.keepIn K (.ref f11) = true)
    (a12 : PySem.W.nsIn K mainGlobals "_law_names" = some (some (.ref f12)))
    (l12 : K.lookup f12 = some ⟨oc12,od12,.func (PySem.W.fnOf "_law_names" "_law_names" (aK dg) (aI dg) (ap dg) .none kV12 dc12 pm12 an12 cd12 ct12),sl12⟩)
    (c12 : PySem.W.codeIn K cd12 "_law_names" = true)
    (k12 : PySem.W.keepIn K (.ref f12) = true)
    (a13 : PySem.W.nsIn K mainGlobals "_law_leaf" = some (some (.ref f13)))
    (l13 : K.lookup f13 = some ⟨oc13,od13,.func (PySem.W.fnOf "_law_leaf" "_law_leaf" (aK dD) (aI dD) (ap dD) .none kV13 dc13 pm13 an13 cd13 ct13),sl13⟩)
    (c13 : PySem.W.codeIn K cd13 "_law_leaf" = true)
    (k13 : PySem.W.keepIn K (.ref f13) = true)
    (a14 : PySem.W.nsIn K mainGlobals "_law_tree" = some (some (.ref f14)))
    (l14 : K.lookup f14 = some ⟨oc14,od14,.func (PySem.W.fnOf "_law_tree" "_law_tree" (aK dy) (aI dy) (ap dy) .none kV14 dc14 pm14 an14 cd14 ct14),sl14⟩)
    (c14 : PySem.W.codeIn K cd14 "_law_tree" = true)
    (k14 : PySem.W.keepIn K (.ref f14) = true)
    (a15 : PySem.W.nsIn K mainGlobals "_law_worth" = some (some (.ref f15)))
    (l15 : K.lookup f15 = some ⟨oc15,od15,.func (PySem.W.fnOf "_law_worth" "_law_worth" (aK df) (aI df) (ap df) .none kV15 dc15 pm15 an15 cd15 ct15),sl15⟩)
    (c15 : PySem.W.codeIn K cd15 "_law_worth" = true)
    (k15 : PySem.W.keepIn K (.ref f15) = true)
    (a16 : PySem.W.nsIn K mainGlobals "_law_statement" = some (some (.ref f16)))
    (l16 : K.lookup f16 = some ⟨oc16,od16,.func (PySem.W.fnOf "_law_statement" "_law_statement" (aK bF) (aI bF) (ap bF) .none kV16 dc16 pm16 an16 cd16 ct16),sl16⟩)
    (c16 : PySem.W.codeIn K cd16 "_law_statement" = true)
    (k16 : PySem.W.keepIn K (.ref f16) = true)
    (a17 : PySem.W.nsIn K mainGlobals "_law_if" = some (some (.ref f17)))
    (l17 : K.lookup f17 = some ⟨oc17,od17,.func (PySem.W.fnOf "_law_if" "_law_if" (aK eI) (aI eI) (ap eI) .none kV17 dc17 pm17 an17 cd17 ct17),sl17⟩)
    (c17 : PySem.W.codeIn K cd17 "_law_if" = true)
    (k17 : PySem.W.keepIn K (.ref f17) = true)
    (a18 : PySem.W.nsIn K mainGlobals "_law_end" = some (some (.ref f18)))
    (l18 : K.lookup f18 = some ⟨oc18,od18,.func (PySem.W.fnOf "_law_end" "_law_end" (aK dE) (aI dE) (ap dE) .none kV18 dc18 pm18 an18 cd18 ct18),sl18⟩)
    (c18 : PySem.W.codeIn K cd18 "_law_end" = true)
    (k18 : PySem.W.keepIn K (.ref f18) = true)
    (a19 : PySem.W.nsIn K mainGlobals "_law_number" = some (some (.ref f19)))
    (l19 : K.lookup f19 = some ⟨oc19,od19,.func (PySem.W.fnOf "_law_number" "_law_number" (aK cQ) (aI cQ) (ap cQ) .none kV19 dc19 pm19 an19 cd19 ct19),sl19⟩)
    (c19 : PySem.W.codeIn K cd19 "_law_number" = true)
    (k19 : PySem.W.keepIn K (.ref f19) = true)
    (a20 : PySem.W.nsIn K mainGlobals "_law_program" = some (some (.ref f20)))
    (l20 : K.lookup f20 = some ⟨oc20,od20,.func (PySem.W.fnOf "_law_program" "_law_program" (aK bW) (aI bW) (ap bW) .none kV20 dc20 pm20 an20 cd20 ct20),sl20⟩)
    (c20 : PySem.W.codeIn K cd20 "_law_program" = true)
    (k20 : PySem.W.keepIn K (.ref f20) = true)
    (a21 : PySem.W.nsIn K mainGlobals "_law_filled" = some (some (.ref f21)))
    (l21 : K.lookup f21 = some ⟨oc21,od21,.func (PySem.W.fnOf "_law_filled" "_law_filled" (aK bJ) (aI bJ) (ap bJ) .none kV21 dc21 pm21 an21 cd21 ct21),sl21⟩)
    (c21 : PySem.W.codeIn K cd21 "_law_filled" = true)
    (k21 : PySem.W.keepIn K (.ref f21) = true)
    (a22 : PySem.W.nsIn K mainGlobals "_law_alike" = some (some (.ref f22)))
    (l22 : K.lookup f22 = some ⟨oc22,od22,.func (PySem.W.fnOf "_law_alike" "_law_alike" (aK dh) (aI dh) (ap dh) .none kV22 dc22 pm22 an22 cd22 ct22),sl22⟩)
    (c22 : PySem.W.codeIn K cd22 "_law_alike" = true)
    (k22 : PySem.W.keepIn K (.ref f22) = true)
    (a23 : PySem.W.nsIn K mainGlobals "_law_order" = some (some (.ref f23)))
    (l23 : K.lookup f23 = some ⟨oc23,od23,.func (PySem.W.fnOf "_law_order" "_law_order" (aK cz) (aI cz) (ap cz) .none kV23 dc23 pm23 an23 cd23 ct23),sl23⟩)
    (c23 : PySem.W.codeIn K cd23 "_law_order" = true)
    (k23 : PySem.W.keepIn K (.ref f23) = true)
    (a24 : PySem.W.nsIn K mainGlobals "_law_next" = some (some (.ref f24)))
    (l24 : K.lookup f24 = some ⟨oc24,od24,.func (PySem.W.fnOf "_law_next" "_law_next" (aK dC) (aI dC) (ap dC) .none kV24 dc24 pm24 an24 cd24 ct24),sl24⟩)
    (c24 : PySem.W.codeIn K cd24 "_law_next" = true)
    (k24 : PySem.W.keepIn K (.ref f24) = true)
    (a25 : PySem.W.nsIn K mainGlobals "_law_tail" = some (some (.ref f25)))
    (l25 : K.lookup f25 = some ⟨oc25,od25,.func (PySem.W.fnOf "_law_tail" "_law_tail" (aK dA) (aI dA) (ap dA) .none kV25 dc25 pm25 an25 cd25 ct25),sl25⟩)
    (c25 : PySem.W.codeIn K cd25 "_law_tail" = true)
    (k25 : PySem.W.keepIn K (.ref f25) = true)
    (a26 : PySem.W.nsIn K mainGlobals "_law_first_row" = some (some (.ref f26)))
    (l26 : K.lookup f26 = some ⟨oc26,od26,.func (PySem.W.fnOf "_law_first_row" "_law_first_row" (aK bG) (aI bG) (ap bG) .none kV26 dc26 pm26 an26 cd26 ct26),sl26⟩)
    (c26 : PySem.W.codeIn K cd26 "_law_first_row" = true)
    (k26 : PySem.W.keepIn K (.ref f26) = true)
    (a27 : PySem.W.nsIn K mainGlobals "_law_laid" = some (some (.ref f27)))
    (l27 : K.lookup f27 = some ⟨oc27,od27,.func (PySem.W.fnOf "_law_laid" "_law_laid" (aK db) (aI db) (ap db) .none kV27 dc27 pm27 an27 cd27 ct27),sl27⟩)
    (c27 : PySem.W.codeIn K cd27 "_law_laid" = true)
    (k27 : PySem.W.keepIn K (.ref f27) = true)
    (a28 : PySem.W.nsIn K mainGlobals "_law_led" = some (some (.ref f28)))
    (l28 : K.lookup f28 = some ⟨oc28,od28,.func (PySem.W.fnOf "_law_led" "_law_led" (aK d4) (aI d4) (ap d4) .none kV28 dc28 pm28 an28 cd28 ct28),sl28⟩)
    (c28 : PySem.W.codeIn K cd28 "_law_led" = true)
    (k28 : PySem.W.keepIn K (.ref f28) = true)
    (a29 : PySem.W.nsIn K mainGlobals "_law_ran" = some (some (.ref f29)))
    (l29 : K.lookup f29 = some ⟨oc29,od29,.func (PySem.W.fnOf "_law_ran" "_law_ran" (aK dZ) (aI dZ) (ap dZ) .none kV29 dc29 pm29 an29 cd29 ct29),sl29⟩)
    (c29 : PySem.W.codeIn K cd29 "_law_ran" = true)
    (k29 : PySem.W.keepIn K (.ref f29) = true)
    (a30 : PySem.W.nsIn K mainGlobals "law" = some (some (.ref f30)))
    (l30 : K.lookup f30 = some ⟨oc30,od30,.func (PySem.W.fnOf "law" "law" (aK gi) (aI gi) (ap gi) .none kV30 dc30 pm30 an30 cd30 ct30),sl30⟩)
    (c30 : PySem.W.codeIn K cd30 "law" = true)
    (k30 : PySem.W.keepIn K (.ref f30) = true)
    (pg_Doing : PySem.W.plainGet K c_Doing Str.empty = true)
    (hd_Doing : PySem.W.hasDictIn K c_Doing = true)
    (po_Doing : PySem.W.plainOver K c_Doing = true)
    (sa_Doing : PySem.W.findIn K (.ref c_Doing) "__setattr__" = some (some (.builtin "object.__setattr__")))
    (mk_Doing : PySem.W.makesIn K c_Doing = true)
    (kc_Doing : PySem.W.keepIn K (.ref c_Doing) = true)
    (na_Doing_held : PySem.W.findIn K (.ref c_Doing) "held" = some none)
    (na_Doing_numbers : PySem.W.findIn K (.ref c_Doing) "numbers" = some none)
    (na_Doing_said : PySem.W.findIn K (.ref c_Doing) "said" = some none)
    (na_Doing_taken : PySem.W.findIn K (.ref c_Doing) "taken" = some none)
    (g_STATEMENTS : PySem.W.nsIn K mainGlobals "STATEMENTS" = some (some (.ref c_STATEMENTS)))
    (l_STATEMENTS : K.lookup c_STATEMENTS = some ⟨.type "tuple",od_STATEMENTS,.seq #[.str "put" tt_STATEMENTS_0,.str "say" tt_STATEMENTS_1,.str "ask" tt_STATEMENTS_2] nn_STATEMENTS,sl_STATEMENTS⟩)
    (h_BOX_RANGE : PySem.W.nsIn K mainGlobals "BOX_RANGE" = some (some (.int 1000000 t_BOX_RANGE)))
    (z_abs : PySem.W.nsIn K mainGlobals "abs" = some none)
    (z_bool : PySem.W.nsIn K mainGlobals "bool" = some none)
    (z_dict : PySem.W.nsIn K mainGlobals "dict" = some none)
    (z_int : PySem.W.nsIn K mainGlobals "int" = some none)
    (z_isinstance : PySem.W.nsIn K mainGlobals "isinstance" = some none)
    (z_len : PySem.W.nsIn K mainGlobals "len" = some none)
    (z_list : PySem.W.nsIn K mainGlobals "list" = some none)
    (z_max : PySem.W.nsIn K mainGlobals "max" = some none)
    (z_range : PySem.W.nsIn K mainGlobals "range" = some none)
    (z_str : PySem.W.nsIn K mainGlobals "str" = some none)
    (z_tuple : PySem.W.nsIn K mainGlobals "tuple" = some none) :
    ∃ fd : FuncData,(∀ (s:Shared) (v:Value),BindsTo s fd ⟨[v],[]⟩ [("script",v)]) ∧ ∀ base : Heap,K.In base → base.Ns mainGlobals mg → FnOk l.prog w K mg base CX0 18 fa fd ["script"] (spLaw K) :=by
  have e := hfa.symm.trans (PySem.W.mg_of X G a30)
  cases e
  have y_abs := PySem.W.mg_none_of X G z_abs
  have y_bool := PySem.W.mg_none_of X G z_bool
  have y_dict := PySem.W.mg_none_of X G z_dict
  have y_int := PySem.W.mg_none_of X G z_int
  have y_isinstance := PySem.W.mg_none_of X G z_isinstance
  have y_len := PySem.W.mg_none_of X G z_len
  have y_list := PySem.W.mg_none_of X G z_list
  have y_max := PySem.W.mg_none_of X G z_max
  have y_range := PySem.W.mg_none_of X G z_range
  have y_str := PySem.W.mg_none_of X G z_str
  have y_tuple := PySem.W.mg_none_of X G z_tuple
  have cl_Doing : Cls K c_Doing := ⟨pg_Doing,hd_Doing,po_Doing,sa_Doing⟩
  have m_Doing := PySem.W.mg_of X G n_Doing
  have m_STATEMENTS := PySem.W.mg_of X G g_STATEMENTS
  have q_STATEMENTS : ∀ H,SqT K H c_STATEMENTS ((["put", "say", "ask"] : List Str).map V.str) := fun H => .inr ⟨_,_,_,l_STATEMENTS,rfl,rfl,by show 3 ≤ sizeLine; decide,.cons ⟨_,rfl⟩ (.cons ⟨_,rfl⟩ (.cons ⟨_,rfl⟩ (.nil)))⟩
  have c_BOX_RANGE := PySem.W.mg_of X G h_BOX_RANGE
  have F1 := bj (st := fL) l1 c1 k1
  have b1 := F1.binds (ps := ["e", "values"]) fun _ _ _ _ _ _ us hl => by obtain ⟨_,_,rfl⟩ := ln2 hl; rfl
  have m1 := PySem.W.mg_of X G a1
  have F2 := bj (st := bB) l2 c2 k2
  have b2 := F2.binds (ps := ["self", "boxes", "numbers"]) fun _ _ _ _ _ _ us hl => by obtain ⟨_,_,_,rfl⟩ := ln3 hl; rfl
  have F3 := bj (st := bf) l3 c3 k3
  have b3 := F3.binds (ps := ["self", "row"]) fun _ _ _ _ _ _ us hl => by obtain ⟨_,_,rfl⟩ := ln2 hl; rfl
  have F4 := bj (st := bg) l4 c4 k4
  have b4 := F4.binds (ps := ["self", "statement"]) fun _ _ _ _ _ _ us hl => by obtain ⟨_,_,rfl⟩ := ln2 hl; rfl
  have F5 := bj (st := cr) l5 c5 k5
  have b5 := F5.binds (ps := ["self", "sign", "left", "right"]) fun _ _ _ _ _ _ us hl => by obtain ⟨_,_,_,_,rfl⟩ := ln4 hl; rfl
  have F6 := bj (st := cc) l6 c6 k6
  have b6 := F6.binds (ps := ["self", "e", "many"]) fun _ _ _ _ _ _ us hl => by obtain ⟨_,_,_,rfl⟩ := ln3 hl; rfl
  have F7 := bj (st := cp) l7 c7 k7
  have b7 := F7.binds (ps := ["doing", "row"]) fun _ _ _ _ _ _ us hl => by obtain ⟨_,_,rfl⟩ := ln2 hl; rfl
  have m7 := PySem.W.mg_of X G a7
  have F8 := bj (st := dw) l8 c8 k8
  have b8 := F8.binds (ps := ["boxes", "rows", "numbers", "bound"]) fun _ _ _ _ _ _ us hl => by obtain ⟨_,_,_,_,rfl⟩ := ln4 hl; rfl
  have m8 := PySem.W.mg_of X G a8
  have F9 := bj (st := cq) l9 c9 k9
  have b9 := F9.binds (ps := ["script", "k"]) fun _ _ _ _ _ _ us hl => by obtain ⟨_,_,rfl⟩ := ln2 hl; rfl
  have m9 := PySem.W.mg_of X G a9
  have F10 := bj (st := dB) l10 c10 k10
  have b10 := F10.binds (ps := ["cell"]) fun _ _ _ _ _ _ us hl => by obtain ⟨_,rfl⟩ := ln1 hl; rfl
  have m10 := PySem.W.mg_of X G a10
  have F11 := bj (st := dz) l11 c11 k11
  have b11 := F11.binds (ps := ["reel", "many"]) fun _ _ _ _ _ _ us hl => by obtain ⟨_,_,rfl⟩ := ln2 hl; rfl
  have m11 := PySem.W.mg_of X G a11
  have F12 := bj (st := dg) l12 c12 k12
  have b12 := F12.binds (ps := ["reel", "many"]) fun _ _ _ _ _ _ us hl => by obtain ⟨_,_,rfl⟩ := ln2 hl; rfl
  have m12 := PySem.W.mg_of X G a12
  have F13 := bj (st := dD) l13 c13 k13
  have b13 := F13.binds (ps := ["reel", "boxes"]) fun _ _ _ _ _ _ us hl => by obtain ⟨_,_,rfl⟩ := ln2 hl; rfl
  have m13 := PySem.W.mg_of X G a13
  have F14 := bj (st := dy) l14 c14 k14
  have b14 := F14.binds (ps := ["reel", "boxes", "leaves"]) fun _ _ _ _ _ _ us hl => by obtain ⟨_,_,_,rfl⟩ := ln3 hl; rfl
  have m14 := PySem.W.mg_of X G a14
  have F15 := bj (st := df) l15 c15 k15
  have b15 := F15.binds (ps := ["e", "values"]) fun _ _ _ _ _ _ us hl => by obtain ⟨_,_,rfl⟩ := ln2 hl; rfl
  have m15 := PySem.W.mg_of X G a15
  have F16 := bj (st := bF) l16 c16 k16
  have b16 := F16.binds (ps := ["reel", "boxes"]) fun _ _ _ _ _ _ us hl => by obtain ⟨_,_,rfl⟩ := ln2 hl; rfl
  have m16 := PySem.W.mg_of X G a16
  have F17 := bj (st := eI) l17 c17 k17
  have b17 := F17.binds (ps := ["reel", "boxes", "x", "y"]) fun _ _ _ _ _ _ us hl => by obtain ⟨_,_,_,_,rfl⟩ := ln4 hl; rfl
  have m17 := PySem.W.mg_of X G a17
  have F18 := bj (st := dE) l18 c18 k18
  have b18 := F18.binds (ps := ["reel", "boxes", "many"]) fun _ _ _ _ _ _ us hl => by obtain ⟨_,_,_,rfl⟩ := ln3 hl; rfl
  have m18 := PySem.W.mg_of X G a18
  have F19 := bj (st := cQ) l19 c19 k19
  have b19 := F19.binds (ps := ["reel"]) fun _ _ _ _ _ _ us hl => by obtain ⟨_,rfl⟩ := ln1 hl; rfl
  have m19 := PySem.W.mg_of X G a19
  have F20 := bj (st := bW) l20 c20 k20
  have b20 := F20.binds (ps := ["script"]) fun _ _ _ _ _ _ us hl => by obtain ⟨_,rfl⟩ := ln1 hl; rfl
  have m20 := PySem.W.mg_of X G a20
  have F21 := bj (st := bJ) l21 c21 k21
  have b21 := F21.binds (ps := ["script", "program"]) fun _ _ _ _ _ _ us hl => by obtain ⟨_,_,rfl⟩ := ln2 hl; rfl
  have m21 := PySem.W.mg_of X G a21
  have F22 := bj (st := dh) l22 c22 k22
  have b22 := F22.binds (ps := ["found", "due"]) fun _ _ _ _ _ _ us hl => by obtain ⟨_,_,rfl⟩ := ln2 hl; rfl
  have m22 := PySem.W.mg_of X G a22
  have F23 := bj (st := cz) l23 c23 k23
  have b23 := F23.binds (ps := ["reel", "many"]) fun _ _ _ _ _ _ us hl => by obtain ⟨_,_,rfl⟩ := ln2 hl; rfl
  have m23 := PySem.W.mg_of X G a23
  have F24 := bj (st := dC) l24 c24 k24
  have b24 := F24.binds (ps := ["order", "block"]) fun _ _ _ _ _ _ us hl => by obtain ⟨_,_,rfl⟩ := ln2 hl; rfl
  have m24 := PySem.W.mg_of X G a24
  have F25 := bj (st := dA) l25 c25 k25
  have b25 := F25.binds (ps := ["end", "after"]) fun _ _ _ _ _ _ us hl => by obtain ⟨_,_,rfl⟩ := ln2 hl; rfl
  have m25 := PySem.W.mg_of X G a25
  have F26 := bj (st := bG) l26 c26 k26
  have b26 := F26.binds (ps := ["blocks", "order", "block"]) fun _ _ _ _ _ _ us hl => by obtain ⟨_,_,_,rfl⟩ := ln3 hl; rfl
  have m26 := PySem.W.mg_of X G a26
  have F27 := bj (st := db) l27 c27 k27
  have b27 := F27.binds (ps := ["blocks", "order"]) fun _ _ _ _ _ _ us hl => by obtain ⟨_,_,rfl⟩ := ln2 hl; rfl
  have m27 := PySem.W.mg_of X G a27
  have F28 := bj (st := d4) l28 c28 k28
  have b28 := F28.binds (ps := ["row", "values"]) fun _ _ _ _ _ _ us hl => by obtain ⟨_,_,rfl⟩ := ln2 hl; rfl
  have m28 := PySem.W.mg_of X G a28
  have F29 := bj (st := dZ) l29 c29 k29
  have b29 := F29.binds (ps := ["boxes", "rows", "numbers", "bound"]) fun _ _ _ _ _ _ us hl => by obtain ⟨_,_,_,_,rfl⟩ := ln4 hl; rfl
  have m29 := PySem.W.mg_of X G a29
  have F30 := bj (st := gi) l30 c30 k30
  have b30 := F30.binds (ps := ["script"]) fun _ _ _ _ _ _ us hl => by obtain ⟨_,rfl⟩ := ln1 hl; rfl
  have m30 := PySem.W.mg_of X G a30
  refine ⟨PySem.W.fnOf "law" "law" (aK gi) (aI gi) (ap gi) .none kV30 dc30 pm30 an30 cd30 ct30,fun s v => .of_eq rfl,fun base _ _ => ?_⟩
  have M_Doing : Mk K c_Doing f2 := ⟨mk_Doing,a2,i2,kc_Doing⟩
  have C_worth := lb (P := l.prog) (w := w) (K := K) (mg := mg) (base := base)  F1 b1 m1 6
  have C_Doing___init__ := gq (P := l.prog) (w := w) (K := K) (mg := mg) (base := base) y_dict y_list n_Doing cl_Doing na_Doing_held na_Doing_numbers na_Doing_said na_Doing_taken F2 b2 ⟨a2,i2,k2⟩
  have C_Doing_lacks_number := fw (P := l.prog) (w := w) (K := K) (mg := mg) (base := base) y_len n_Doing cl_Doing na_Doing_numbers na_Doing_taken F3 b3 ⟨a3,i3,k3⟩
  have C_Doing_do_statement := fz (P := l.prog) (w := w) (K := K) (mg := mg) (base := base) c_BOX_RANGE n_Doing cl_Doing na_Doing_held na_Doing_numbers na_Doing_said na_Doing_taken C_worth F4 b4 ⟨a4,i4,k4⟩
  have C_Doing_holds := iR (P := l.prog) (w := w) (K := K) (mg := mg) (base := base) n_Doing cl_Doing na_Doing_held C_worth F5 b5 ⟨a5,i5,k5⟩
  have C_Doing_chosen := hE (P := l.prog) (w := w) (K := K) (mg := mg) (base := base) n_Doing cl_Doing na_Doing_held C_worth F6 b6 ⟨a6,i6,k6⟩
  have C_row_gone_to := iL (P := l.prog) (w := w) (K := K) (mg := mg) (base := base) y_len n_Doing cl_Doing C_Doing_holds C_Doing_chosen F7 b7 m7
  have C_run_rows := ld (P := l.prog) (w := w) (K := K) (mg := mg) (base := base) m_STATEMENTS q_STATEMENTS n_Doing cl_Doing na_Doing_said m_Doing M_Doing C_Doing___init__ C_Doing_lacks_number C_Doing_do_statement C_row_gone_to F8 b8 m8
  have C_law_cell_at := iO (P := l.prog) (w := w) (K := K) (mg := mg) (base := base) y_len F9 b9 m9
  have C_law_reel := li (P := l.prog) (w := w) (K := K) (mg := mg) (base := base) y_abs F10 b10 m10
  have C_law_take := lg (P := l.prog) (w := w) (K := K) (mg := mg) (base := base)  F11 b11 m11
  have C_law_names := j9 (P := l.prog) (w := w) (K := K) (mg := mg) (base := base) y_len y_max y_range C_law_take F12 b12 m12
  have C_law_leaf := lm (P := l.prog) (w := w) (K := K) (mg := mg) (base := base) y_len C_law_take F13 b13 m13
  have C_law_tree := gZ (P := l.prog) (w := w) (K := K) (mg := mg) (base := base) C_law_leaf C_law_take F14 b14 m14 6
  have C_law_worth := gn (P := l.prog) (w := w) (K := K) (mg := mg) (base := base)  F15 b15 m15 6
  have C_law_statement := gM (P := l.prog) (w := w) (K := K) (mg := mg) (base := base) y_len C_law_take C_law_tree F16 b16 m16
  have C_law_if := nM (P := l.prog) (w := w) (K := K) (mg := mg) (base := base) C_law_take C_law_tree F17 b17 m17
  have C_law_end := mi (P := l.prog) (w := w) (K := K) (mg := mg) (base := base) y_range y_tuple C_law_take C_law_if C_law_tree F18 b18 m18
  have C_law_number := js (P := l.prog) (w := w) (K := K) (mg := mg) (base := base) C_law_take F19 b19 m19
  have C_law_program := iN (P := l.prog) (w := w) (K := K) (mg := mg) (base := base) y_range C_law_names C_law_reel C_law_cell_at C_law_take C_law_end C_law_statement F20 b20 m20
  have C_law_filled := jt (P := l.prog) (w := w) (K := K) (mg := mg) (base := base) y_len y_range C_law_reel C_law_cell_at C_law_take C_law_statement C_law_number F21 b21 m21
  have C_law_alike := gp (P := l.prog) (w := w) (K := K) (mg := mg) (base := base) y_bool y_int y_isinstance y_len y_list y_range y_str y_tuple F22 b22 m22 16
  have C_law_order := j8 (P := l.prog) (w := w) (K := K) (mg := mg) (base := base) y_len y_range y_tuple C_law_take F23 b23 m23
  have C_law_next := lj (P := l.prog) (w := w) (K := K) (mg := mg) (base := base) y_len y_range F24 b24 m24
  have C_law_tail := lh (P := l.prog) (w := w) (K := K) (mg := mg) (base := base) y_int y_len F25 b25 m25
  have C_law_first_row := gN (P := l.prog) (w := w) (K := K) (mg := mg) (base := base) y_len C_law_tail C_law_next F26 b26 m26
  have C_law_laid := lr (P := l.prog) (w := w) (K := K) (mg := mg) (base := base) y_len y_tuple C_law_tail C_law_next C_law_first_row F27 b27 m27
  have C_law_led := mh (P := l.prog) (w := w) (K := K) (mg := mg) (base := base) y_len C_law_worth F28 b28 m28
  have C_law_ran := mf (P := l.prog) (w := w) (K := K) (mg := mg) (base := base) y_list y_range C_law_worth C_law_led F29 b29 m29
  have C_law := sI (P := l.prog) (w := w) (K := K) (mg := mg) (base := base) y_len y_list C_law_program C_law_filled C_law_reel C_law_cell_at C_law_laid C_law_order C_law_take C_law_ran C_run_rows C_law_alike F30 b30 m30
  exact law_ok C_law
theorem walk {l:PySem.W.OpenLaw}{q:Program}{loose : List Str}{XP : (Str → Option Value) → Heap → Prop}{YP : World → Heap → Prop}{d:DefRec}{K:Params → PySem.W.Frag} (hn : l.most = some 63) (hdf : d.params.defaults = [])
    (hY : ∀ (w:World) (h:Heap),YP w h → (K w.params).In h)
    (F:∀ (w:World) (mg : Str → Option Value) (fa : Addr) (h:Heap),(K w.params).In h → h.Ns mainGlobals mg → mg d.name = some (.ref fa) →
      ∃ fd : FuncData,(∀ (s:Shared) (u:Value),BindsTo s fd ⟨[u],[]⟩ [("script",u)]) ∧ ∀ base : Heap,(K w.params).In base → base.Ns mainGlobals mg → FnOk l.prog w (K w.params) mg base CX0 18 fa fd ["script"] (spLaw (K w.params))) :
    PySem.W.WalkO q loose XP YP l.row.toRowW d [] (fun f vs => PySem.call f vs) :=
  L2.walk_of (n := 63) (k := 18) (x := "script") (CX := fun _ => CX0) (sp := fun w => spLaw (K w.params)) hn (by decide) hdf ⟨rfl,by decide,by decide⟩ hY F (fun _ _ a ns hl _ hS => ⟨a,ns,rfl,hS,hl,fun _ => rfl⟩) fun _ _ _ _ _ z => z
end Q
open PySem PySem.W PyProof.Rows
set_option maxRecDepth 100000 in
set_option maxHeartbeats 0 in
theorem PySem.Challenge.cw_blockfall_k19_whole_runs_of_rows_holds : PySem.Challenge.rw_blockfall_k19_whole_runs_of_rows.Holds := by
  w_on; o_law; k_head; (case hw => w_witness2)
  k_fill
  refine Q.walk (l := PySem.Challenge.rw_blockfall_k19_whole_runs_of_rows) rfl rfl (fun w h Y => PySem.W.kIn_of Y) ?F
  case F =>
    intro w mg fa h KX G hmg
    refine' Q.all_mk KX G hmg ?n_Doing ?a1 ?l1 ?c1 ?k1 ?a2 ?i2 ?l2 ?c2 ?k2 ?a3 ?i3 ?l3 ?c3 ?k3 ?a4 ?i4 ?l4 ?c4 ?k4 ?a5 ?i5 ?l5 ?c5 ?k5 ?a6 ?i6 ?l6 ?c6 ?k6 ?a7 ?l7 ?c7 ?k7 ?a8 ?l8 ?c8 ?k8 ?a9 ?l9 ?c9 ?k9 ?a10 ?l10 ?c10 ?k10 ?a11 ?l11 ?c11 ?k11 ?a12 ?l12 ?c12 ?k12 ?a13 ?l13 ?c13 ?k13 ?a14 ?l14 ?c14 ?k14 ?a15 ?l15 ?c15 ?k15 ?a16 ?l16 ?c16 ?k16 ?a17 ?l17 ?c17 ?k17 ?a18 ?l18 ?c18 ?k18 ?a19 ?l19 ?c19 ?k19 ?a20 ?l20 ?c20 ?k20 ?a21 ?l21 ?c21 ?k21 ?a22 ?l22 ?c22 ?k22 ?a23 ?l23 ?c23 ?k23 ?a24 ?l24 ?c24 ?k24 ?a25 ?l25 ?c25 ?k25 ?a26 ?l26 ?c26 ?k26 ?a27 ?l27 ?c27 ?k27 ?a28 ?l28 ?c28 ?k28 ?a29 ?l29 ?c29 ?k29 ?a30 ?l30 ?c30 ?k30 ?pg_Doing ?hd_Doing ?po_Doing ?sa_Doing ?mk_Doing ?kc_Doing ?na_Doing_held ?na_Doing_numbers ?na_Doing_said ?na_Doing_taken ?g_STATEMENTS ?l_STATEMENTS ?h_BOX_RANGE ?z_abs ?z_bool ?z_dict ?z_int ?z_isinstance ?z_len ?z_list ?z_max ?z_range ?z_str ?z_tuple
    (case n_Doing => k_is)
    (case a1 => k_is)
    (case l1 => k_is)
    (case c1 => k_is)
    (case k1 => k_is)
    (case a2 => k_is)
    (case i2 => k_is)
    (case l2 => k_is)
    (case c2 => k_is)
    (case k2 => k_is)
    (case a3 => k_is)
    (case i3 => k_is)
    (case l3 => k_is)
    (case c3 => k_is)
    (case k3 => k_is)
    (case a4 => k_is)
    (case i4 => k_is)
    (case l4 => k_is)
    (case c4 => k_is)
    (case k4 => k_is)
    (case a5 => k_is)
    (case i5 => k_is)
    (case l5 => k_is)
    (case c5 => k_is)
    (case k5 => k_is)
    (case a6 => k_is)
    (case i6 => k_is)
    (case l6 => k_is)
    (case c6 => k_is)
    (case k6 => k_is)
    (case a7 => k_is)
    (case l7 => k_is)
    (case c7 => k_is)
    (case k7 => k_is)
    (case a8 => k_is)
    (case l8 => k_is)
    (case c8 => k_is)
    (case k8 => k_is)
    (case a9 => k_is)
    (case l9 => k_is)
    (case c9 => k_is)
    (case k9 => k_is)
    (case a10 => k_is)
    (case l10 => k_is)
    (case c10 => k_is)
    (case k10 => k_is)
    (case a11 => k_is)
    (case l11 => k_is)
    (case c11 => k_is)
    (case k11 => k_is)
    (case a12 => k_is)
    (case l12 => k_is)
    (case c12 => k_is)
    (case k12 => k_is)
    (case a13 => k_is)
    (case l13 => k_is)
    (case c13 => k_is)
    (case k13 => k_is)
    (case a14 => k_is)
    (case l14 => k_is)
    (case c14 => k_is)
    (case k14 => k_is)
    (case a15 => k_is)
    (case l15 => k_is)
    (case c15 => k_is)
    (case k15 => k_is)
    (case a16 => k_is)
    (case l16 => k_is)
    (case c16 => k_is)
    (case k16 => k_is)
    (case a17 => k_is)
    (case l17 => k_is)
    (case c17 => k_is)
    (case k17 => k_is)
    (case a18 => k_is)
    (case l18 => k_is)
    (case c18 => k_is)
    (case k18 => k_is)
    (case a19 => k_is)
    (case l19 => k_is)
    (case c19 => k_is)
    (case k19 => k_is)
    (case a20 => k_is)
    (case l20 => k_is)
    (case c20 => k_is)
    (case k20 => k_is)
    (case a21 => k_is)
    (case l21 => k_is)
    (case c21 => k_is)
    (case k21 => k_is)
    (case a22 => k_is)
    (case l22 => k_is)
    (case c22 => k_is)
    (case k22 => k_is)
    (case a23 => k_is)
    (case l23 => k_is)
    (case c23 => k_is)
    (case k23 => k_is)
    (case a24 => k_is)
    (case l24 => k_is)
    (case c24 => k_is)
    (case k24 => k_is)
    (case a25 => k_is)
    (case l25 => k_is)
    (case c25 => k_is)
    (case k25 => k_is)
    (case a26 => k_is)
    (case l26 => k_is)
    (case c26 => k_is)
    (case k26 => k_is)
    (case a27 => k_is)
    (case l27 => k_is)
    (case c27 => k_is)
    (case k27 => k_is)
    (case a28 => k_is)
    (case l28 => k_is)
    (case c28 => k_is)
    (case k28 => k_is)
    (case a29 => k_is)
    (case l29 => k_is)
    (case c29 => k_is)
    (case k29 => k_is)
    (case a30 => k_is)
    (case l30 => k_is)
    (case c30 => k_is)
    (case k30 => k_is)
    (case pg_Doing => k_is)
    (case hd_Doing => k_is)
    (case po_Doing => k_is)
    (case sa_Doing => k_is)
    (case mk_Doing => k_is)
    (case kc_Doing => k_is)
    (case na_Doing_held => k_is)
    (case na_Doing_numbers => k_is)
    (case na_Doing_said => k_is)
    (case na_Doing_taken => k_is)
    (case g_STATEMENTS => k_is)
    (case l_STATEMENTS => k_is)
    (case h_BOX_RANGE => k_is)
    (case z_abs => k_is)
    (case z_bool => k_is)
    (case z_dict => k_is)
    (case z_int => k_is)
    (case z_isinstance => k_is)
    (case z_len => k_is)
    (case z_list => k_is)
    (case z_max => k_is)
    (case z_range => k_is)
    (case z_str => k_is)
    (case z_tuple => k_is)
#print axioms PySem.Challenge.cw_blockfall_k19_whole_runs_of_rows_holds
