import PyProof.Rows.All
import Wide.All
import OpenK.AllK
import Wide.FinOn
import Lean
import PyProof.EqAt
import PyProof.EqKinds
import PyProof.TupleCall
import PyProof.ZipIter
import PySem.Challenge.RW_blockfall_k37_turning_of_many_blocks
set_option bootstrap.genMatcherCode false
set_option genSizeOf false
set_option genSizeOfSpec false
set_option Elab.async false
set_option linter.all false
set_option maxRecDepth 100000
set_option maxHeartbeats 4000000
set_option maxHeartbeats 1000000
namespace L2
open PySem
noncomputable abbrev PKy := Int × List Int
noncomputable def d6 (b:Bool) (v u : Value) : List Value := match b with
  | false => [v,u]
  | true => [u,v]
noncomputable def cY (ks : List Int) : Int := reduceHash (Builtin.Tuple.tupleHashOf (ks.map hashInt))
noncomputable def iO (b:Bool) (k:PKy) : Int := match b with
  | false => reduceHash (Builtin.Tuple.tupleHashOf [hashInt k.1,cY k.2])
  | true => reduceHash (Builtin.Tuple.tupleHashOf [cY k.2,hashInt k.1])
section
variable {prog : Program}{w:World}
noncomputable def IsPk (prog : Program) (w:World) (b:Bool) (h:Heap) (k:PKy) (a:Addr) : Prop :=
  ∃ o items n c v,h.get? a = some o ∧ o.cls = .type "tuple" ∧ o.data = .seq items n ∧ IsTupleKey (intKind prog w) h k.2 c ∧ Value.isInt k.1 v = true ∧ items.toList = d6 b v (.ref c)
theorem IsPk.typeIs {b:Bool}{s:Shared}{k:PKy}{a:Addr} (x:IsPk prog w b s.heap k a) : s.TypeIs (.ref a) "tuple" := let ⟨o,_,_,_,_,ho,hc,_⟩ := x; ⟨o,ho,hc⟩
theorem IsPk.inj {b:Bool}{h:Heap}{a:Addr}{x y : PKy} (hx : IsPk prog w b h x a) (hy : IsPk prog w b h y a) : x = y :=by
  obtain ⟨o,items,n,c,v,ho,_,hd,hk,hv,hi⟩ := hx
  obtain ⟨o',items',n',c',v',ho',_,hd',hk',hv',hi'⟩ := hy
  obtain rfl : o = o' := Option.some.inj (ho.symm.trans ho')
  rw [hd] at hd'
  injection hd' with h1 _
  subst h1
  rw [hi] at hi'
  have e : v = v' ∧ c = c' :=by
    cases b with
    | false => injection hi' with e1 e2; injection e2 with e2 _; injection e2 with e2; exact ⟨e1,e2⟩
    | true => injection hi' with e1 e2; injection e2 with e2 _; injection e1 with e1; exact ⟨e2,e1⟩
  obtain ⟨rfl,rfl⟩ := e
  exact Prod.ext (Value.isInt_inj v _ _ hv hv') (hk.inj hk')
theorem IsPk.keeps {b:Bool}{h h' : Heap}{k:PKy}{a d : Addr}{o:Obj}{es ep} (x:IsPk prog w b h k a) (ho : h.get? d = some o) (hd : o.data = .dict es ep) (hs : Heap.SameBut d h h') : IsPk prog w b h' k a :=by
  obtain ⟨o',items,n,c,v,ho',hc,hd',hk,hv,hi⟩ := x
  have hne : a ≠ d :=by
    rintro rfl
    obtain rfl : o' = o := Option.some.inj (ho'.symm.trans ho)
    rw [hd] at hd'; exact nomatch hd'
  exact ⟨o',items,n,c,v,(hs.2 a hne).trans ho',hc,hd',hk.keeps ho hd hs,hv,hi⟩
variable {A:Around}{E:Value → Shared → Prop}{s:Shared}
theorem hU {b:Bool}{k:PKy}{a:Addr}{Q:Int → Shared → Prop} (hu : A.units + 1 < cLine) (hk : IsPk prog w b s.heap k a) (h:Q (iO b k) { s with toks := s.toks + (k.2.length + 3) }) :
    wpAny (model prog w) A (pyHash (.ref a)) Q E s :=by
  have hT := hk.typeIs
  obtain ⟨o,items,n,c,v,ho,_,hd,hk,hv,hi⟩ := hk
  obtain ⟨i,ks⟩ := k
  unfold pyHash
  first | unfold pyHashByItsType | skip
  first | refine wpAny_bind (wpAny_cRoomFor_or (.inr (Nat.lt_of_succ_lt hu)) ?_) | skip
  refine wpAny_bind (wpAny_specialOf hT F.slot_tuple_hash.lookup ?_)
  show wpAny _ _ (if (some (Value.builtin "tuple.__hash__") == some Value.none) = true then _ else _) Q E s
  rw [if_neg (by rw [beq_builtin_none]; exact Bool.false_ne_true)]
  refine wpAny_bind (wpAny_specialOf hT F.slot_tuple_hash.lookup ?_)
  show wpAny _ _ (callSpecialIfBoundUnlessNone? (.ref a) "__hash__" _ >>= _) Q E s
  refine wpAny_bind (wpAny_callSpecialIfBoundUnlessNone?_slot hT F.slot_tuple_hash (wpAny_call_entry F.slot_tuple_hash hT F.entry_tuple_hash ?_ (F.args_tuple_hash_1 _)))
  show wpAny _ _ (Builtin.Tuple.tupleItemsOf (.ref a) >>= _) _ _ s
  refine wpAny_bind (wpAny_tupleItemsOf ho hd ?_)
  refine wpAny_bind ?_
  rw [← Array.forIn_toList,hi]
  cases b with
  | false =>
    unfold d6
    simp only [List.forIn_cons,List.forIn_nil]
    refine wpAny_bind (wpAny_bind ((intKind prog w).pyHash (k := i) hv ?_))
    refine wpAny_pure (wpAny_bind (wpAny_bind (wpAny_pyHash_tuple (knd := intKind prog w) hu hk ?_)))
    refine wpAny_pure (wpAny_pure ?_)
    show wpAny _ _ (retInt (Builtin.Tuple.tupleHashOf [hashInt i,cY ks])) _ _ _
    refine wpAny_ret_mkInt ?_
    show wpAny _ _ (if (decide (-(2 : Int) ^ 63 ≤ Builtin.Tuple.tupleHashOf [hashInt i,cY ks]) && decide (Builtin.Tuple.tupleHashOf [hashInt i,cY ks] < 2 ^ 63)) = true then _ else _) Q E _
    unfold iO reduceHash at h
    by_cases hr : (decide (-(2 : Int) ^ 63 ≤ Builtin.Tuple.tupleHashOf [hashInt i,cY ks]) && decide (Builtin.Tuple.tupleHashOf [hashInt i,cY ks] < 2 ^ 63)) = true
    · rw [if_pos hr]
      simp only at h
      rw [if_pos hr] at h
      exact wpAny_pure (by simpa [Nat.add_assoc,Nat.add_comm,Nat.add_left_comm] using h)
    · rw [if_neg hr]
      simp only at h
      rw [if_neg hr] at h
      exact wpAny_bind (wpAny_rule (wpAny_pure (by simpa [Nat.add_assoc,Nat.add_comm,Nat.add_left_comm] using h)))
  | true =>
    unfold d6
    simp only [List.forIn_cons,List.forIn_nil]
    refine wpAny_bind (wpAny_bind (wpAny_pyHash_tuple (knd := intKind prog w) hu hk ?_))
    refine wpAny_pure (wpAny_bind (wpAny_bind ((intKind prog w).pyHash (k := i) hv ?_)))
    refine wpAny_pure (wpAny_pure ?_)
    show wpAny _ _ (retInt (Builtin.Tuple.tupleHashOf [cY ks,hashInt i])) _ _ _
    refine wpAny_ret_mkInt ?_
    show wpAny _ _ (if (decide (-(2 : Int) ^ 63 ≤ Builtin.Tuple.tupleHashOf [cY ks,hashInt i]) && decide (Builtin.Tuple.tupleHashOf [cY ks,hashInt i] < 2 ^ 63)) = true then _ else _) Q E _
    unfold iO reduceHash at h
    by_cases hr : (decide (-(2 : Int) ^ 63 ≤ Builtin.Tuple.tupleHashOf [cY ks,hashInt i]) && decide (Builtin.Tuple.tupleHashOf [cY ks,hashInt i] < 2 ^ 63)) = true
    · rw [if_pos hr]
      simp only at h
      rw [if_pos hr] at h
      exact wpAny_pure (by simpa [Nat.add_assoc,Nat.add_comm,Nat.add_left_comm] using h)
    · rw [if_neg hr]
      simp only at h
      rw [if_neg hr] at h
      exact wpAny_bind (wpAny_rule (wpAny_pure (by simpa [Nat.add_assoc,Nat.add_comm,Nat.add_left_comm] using h)))
theorem mD {b:Bool}{x y : PKy}{a c : Addr}{P:Fin → Shared → Prop} (hu : A.units < cLine) (hx : IsPk prog w b s.heap x a) (hy : IsPk prog w b s.heap y c) (h:P (.done (.ret (.bool (decide (x = y))))) s) :
    wpAny (model prog w) A (Builtin.«tuple.__eq__» ⟨[.ref a,.ref c],[]⟩) P E s :=by
  have hTb := hy.typeIs
  obtain ⟨oa,xs,na,ca,va,hoa,_,hda,hka,hva,hia⟩ := hx
  obtain ⟨ob,ys,nb,cb,vb,hob,_,hdb,hkb,hvb,hib⟩ := hy
  obtain ⟨i,ks⟩ := x
  obtain ⟨j,ls⟩ := y
  show wpAny _ _ (isInstance (.ref c) (.type "tuple") >>= _) _ _ s
  refine wpAny_bind (wpAny_isInstance hTb isSubtype_tuple_tuple ?_)
  simp only [Bool.not_true,Bool.false_eq_true,if_false]
  refine wpAny_bind (wpAny_tupleItemsOf hoa hda ?_)
  refine wpAny_bind (wpAny_tupleItemsOf hob hdb ?_)
  refine wpAny_bind ?_
  have hsz : (xs.size == ys.size) = true :=by
    have e1 : xs.size = 2 :=by rw [← Array.length_toList,hia]; cases b <;> rfl
    have e2 : ys.size = 2 :=by rw [← Array.length_toList,hib]; cases b <;> rfl
    rw [e1,e2]; rfl
  have dd : decide ((i,ks) = (j,ls)) = (decide (i = j) && decide (ks = ls)) :=by
    rw [Bool.eq_iff_iff]; simp
  rw [dd] at h
  rw [hia,hib]
  have ki : ∀ {A:Around}{Q:Bool → Shared → Prop},Q (decide (i = j)) s → wpAny (model prog w) A (eqBool va vb) Q E s := fun {A Q} q => (intKind prog w).eqBool (a := i) (b := j) hva hvb q
  have kt : ∀ {Q:Bool → Shared → Prop},Q (decide (ks = ls)) s → wpAny (model prog w) A (eqBool (.ref ca) (.ref cb)) Q E s := fun {Q} q => wpAny_eqBool_tuple (knd := intKind prog w) hu hka hkb q
  generalize decide (i = j) = b1 at *
  generalize decide (ks = ls) = b2 at *
  cases b with
  | false =>
    unfold d6
    simp only [List.zip_cons_cons,List.zip_nil_right,List.forIn_cons,List.forIn_nil]
    refine wpAny_bind (wpAny_bind (ki ?_))
    cases b1 with
    | false => exact wpAny_bind (wpAny_pure (wpAny_pure (wpAny_pure (wpAny_pure h))))
    | true =>
      refine wpAny_pure (wpAny_bind (wpAny_bind (kt ?_)))
      cases b2 with
      | false => exact wpAny_bind (wpAny_pure (wpAny_pure (wpAny_pure (wpAny_pure h))))
      | true =>
        refine wpAny_pure (wpAny_pure (wpAny_pure ?_))
        show P (.done (.ret (.bool (xs.size == ys.size)))) s
        rw [hsz]; exact h
  | true =>
    unfold d6
    simp only [List.zip_cons_cons,List.zip_nil_right,List.forIn_cons,List.forIn_nil]
    refine wpAny_bind (wpAny_bind (kt ?_))
    cases b2 with
    | false => rw [Bool.and_false] at h; exact wpAny_bind (wpAny_pure (wpAny_pure (wpAny_pure (wpAny_pure h))))
    | true =>
      refine wpAny_pure (wpAny_bind (wpAny_bind (ki ?_)))
      cases b1 with
      | false => exact wpAny_bind (wpAny_pure (wpAny_pure (wpAny_pure (wpAny_pure h))))
      | true =>
        refine wpAny_pure (wpAny_pure (wpAny_pure ?_))
        show P (.done (.ret (.bool (xs.size == ys.size)))) s
        rw [hsz]; exact h
theorem hV {b:Bool}{x y : PKy}{a c : Addr}{Q:Bool → Shared → Prop} (hu : A.units + 1 < cLine) (hx : IsPk prog w b s.heap x a) (hy : IsPk prog w b s.heap y c) (h:Q (decide (x = y)) s) :
    wpAny (model prog w) A (eqBool (.ref a) (.ref c)) Q E s :=by
  unfold eqBool
  try with_reducible refine wpAny_holding ?_
  show wpAny _ _ (if (Value.ref a == Value.ref c) = true then _ else _) Q E s
  by_cases hab : (Value.ref a == Value.ref c) = true
  · rw [if_pos hab]
    have e : a = c :=by have := eq_of_beq hab; injection this
    subst e
    obtain rfl := hx.inj hy
    exact wpAny_bind (wpAny_rule (wpAny_pure (by simpa using h)))
  · rw [if_neg hab]
    exact wpAny_bind (wpAny_richCompare_same_room (op := .Eq) hx.typeIs hy.typeIs F.slot_tuple_eq
      (wpAny_call_entry F.slot_tuple_eq hx.typeIs F.entry_tuple_eq (mD hu hx hy ⟨_,rfl,(fun e => nomatch e),wpAny_truthy_bool h⟩) (F.args_tuple_eq_2 _ _)) (Nat.lt_of_succ_lt hu))
theorem iD {b:Bool}{k:PKy}{a:Addr}{Q:Bool → Shared → Prop} (hk : IsPk prog w b s.heap k a) (h:Q true s) : wpAny (model prog w) A (eqIsQuiet 8 (.ref a)) Q E s :=by
  have hT := hk.typeIs
  obtain ⟨o,items,n,c,v,ho,_,hd,hk,hv,hi⟩ := hk
  unfold eqIsQuiet
  refine wpAny_bind (wpAny_specialOf hT F.slot_tuple_eq.lookup ?_)
  show wpAny _ _ (isInstance (.ref a) (.type "tuple") >>= _) _ _ s
  refine wpAny_bind (wpAny_isInstance hT isSubtype_tuple_tuple ?_)
  simp only [Bool.not_true,Bool.false_eq_true,if_false]
  refine wpAny_bind (wpAny_seqItems ho hd ?_)
  refine wpAny_bind ?_
  show wpAny _ _ (forIn items _ _) _ _ s
  rw [← Array.forIn_toList,hi]
  have qv : eqIsQuiet 7 v = pure true := eqIsQuiet_byValue _ ((intKind prog w).byValue _ _ hv)
  have hTc := hk.typeIs
  obtain ⟨oc,ic,nc,hoc,_,hdc,hic⟩ := hk
  have qc : ∀ {Q:Bool → Shared → Prop},Q true s → wpAny (model prog w) A (eqIsQuiet 7 (.ref c)) Q E s :=by
    intro Q h
    unfold eqIsQuiet
    refine wpAny_bind (wpAny_specialOf hTc F.slot_tuple_eq.lookup ?_)
    show wpAny _ _ (isInstance (.ref c) (.type "tuple") >>= _) _ _ s
    refine wpAny_bind (wpAny_isInstance hTc isSubtype_tuple_tuple ?_)
    simp only [Bool.not_true,Bool.false_eq_true,if_false]
    refine wpAny_bind (wpAny_seqItems hoc hdc ?_)
    refine wpAny_bind ?_
    show wpAny _ _ (forIn ic _ _) _ _ s
    rw [← Array.forIn_toList]
    refine wpAny_forIn_list _ (fun rest r s' => r.1 = none ∧ s' = s ∧ ∀ v ∈ rest,carriedByValue v = true) _ ?_ ?_ _ _ ⟨rfl,rfl,hic.byValue⟩
    · rintro v rest r s' ⟨hr,rfl,hall⟩
      rw [eqIsQuiet_byValue _ (hall v List.mem_cons_self)]
      refine wpAny_bind (wpAny_pure ?_)
      simp only [Bool.not_true,Bool.false_eq_true,if_false]
      exact wpAny_pure ⟨rfl,rfl,fun u hu' => hall u (List.mem_cons_of_mem _ hu')⟩
    · rintro ⟨r1,r2⟩ s' ⟨hr,rfl,_⟩
      simp only at hr
      subst hr
      exact wpAny_pure h
  cases b with
  | false =>
    unfold d6
    simp only [List.forIn_cons,List.forIn_nil]
    refine wpAny_bind ?_
    rw [qv]
    refine wpAny_bind (wpAny_pure ?_)
    simp only [Bool.not_true,Bool.false_eq_true,if_false]
    refine wpAny_pure (wpAny_bind (wpAny_bind (qc ?_)))
    simp only [Bool.not_true,Bool.false_eq_true,if_false]
    exact wpAny_pure (wpAny_pure (wpAny_pure h))
  | true =>
    unfold d6
    simp only [List.forIn_cons,List.forIn_nil]
    refine wpAny_bind (wpAny_bind (qc ?_))
    simp only [Bool.not_true,Bool.false_eq_true,if_false]
    refine wpAny_pure (wpAny_bind ?_)
    rw [qv]
    refine wpAny_bind (wpAny_pure ?_)
    simp only [Bool.not_true,Bool.false_eq_true,if_false]
    exact wpAny_pure (wpAny_pure (wpAny_pure h))
noncomputable def mE (prog : Program) (w:World) (b:Bool) : HeapKind prog w PKy where
  is := IsPk prog w b
  hash := iO b
  draws := fun k => k.2.length + 3
  room := fun A => A.units + 1 < cLine
  inj := fun hx hy => hx.inj hy
  keeps := fun x ho hd hs => x.keeps ho hd hs
  pyHash := fun hu hk h => hU hu hk h
  eqBool := fun hu hx hy h => hV hu hx hy h
  quiet := fun hk h => iD hk h
end
end L2
namespace L2
open PySem PySem.Spec PyProof.Rows
noncomputable abbrev Key := Sum Int Str
noncomputable def keyIs : Key → Value → Bool
  | .inl k,v => Value.isInt k v
  | .inr x,v => Value.isStrOf x v
noncomputable def keyH (w:World) : Key → Int
  | .inl k => hashInt k
  | .inr x => hashStr w x
theorem ba : ∀ {k:Key}{v:Value},keyIs k v = true → (∃ i t,k = Sum.inl i ∧ v = Value.int i t) ∨ (∃ x t,k = Sum.inr x ∧ v = Value.str x t)
  | .inl i,v,h => by
    obtain ⟨t,e⟩ := Value.isInt_shape (k := i) (v := v) h
    exact .inl ⟨i,t,rfl,e⟩
  | .inr x,v,h => by
    obtain ⟨t,e⟩ := Value.isStrOf_shape (x := x) (v := v) h
    exact .inr ⟨x,t,rfl,e⟩
theorem pw (i:Int) (t:Tok) : keyIs (.inl i) (.int i t) = true :=by simp [keyIs,Value.isInt]
theorem pq (x:Str) (t:Tok) : keyIs (.inr x) (.str x t) = true :=by simp [keyIs,Value.isStrOf]
theorem u6 (a b : Int) : decide ((Sum.inl a : Key) = Sum.inl b) = (a == b) :=by
  by_cases e : a = b
  · subst e; simp
  · have h : ¬ (Sum.inl a : Key) = Sum.inl b := fun q => e (Sum.inl.inj q)
    rw [decide_eq_false h]
    exact (beq_eq_false_iff_ne.mpr e).symm
theorem u3 (a b : Str) : decide ((Sum.inr a : Key) = Sum.inr b) = decide (a = b) :=by
  by_cases e : a = b
  · subst e; simp
  · have h : ¬ (Sum.inr a : Key) = Sum.inr b := fun q => e (Sum.inr.inj q)
    rw [decide_eq_false h,decide_eq_false e]
theorem u5 (a:Int) (b:Str) : decide ((Sum.inl a : Key) = Sum.inr b) = false := decide_eq_false (fun q => nomatch q)
theorem u4 (a:Str) (b:Int) : decide ((Sum.inr a : Key) = Sum.inl b) = false := decide_eq_false (fun q => nomatch q)
noncomputable def bu (prog : Program) (w:World) : PySem.KeyKind prog w Key where
  is := keyIs
  hash := keyH w
  inj := fun v a b ha hb => by
    rcases ba ha with ⟨i,t,rfl,rfl⟩ | ⟨x,t,rfl,rfl⟩
    · rcases ba hb with ⟨j,u,rfl,e⟩ | ⟨y,u,rfl,e⟩
      · injection e with e1 _; rw [e1]
      · exact nomatch e
    · rcases ba hb with ⟨j,u,rfl,e⟩ | ⟨y,u,rfl,e⟩
      · exact nomatch e
      · injection e with e1 _; rw [e1]
  byValue := fun k v h => by
    rcases ba h with ⟨i,t,rfl,rfl⟩ | ⟨x,t,rfl,rfl⟩ <;> rfl
  pyHash := fun hv h => by
    rcases ba hv with ⟨i,t,rfl,rfl⟩ | ⟨x,t,rfl,rfl⟩
    · exact wpAny_pyHash_int h
    · exact wpAny_pyHash_str h
  eqBool := fun hu hv h => by
    rcases ba hu with ⟨i,t,rfl,rfl⟩ | ⟨x,t,rfl,rfl⟩
    · rcases ba hv with ⟨j,u,rfl,rfl⟩ | ⟨y,u,rfl,rfl⟩
      · rw [u6] at h; exact wpAny_eqBool_int h
      · rw [u5] at h; exact SeqAt.EqAt.int_str i t y u _ _ _ _ h
    · rcases ba hv with ⟨j,u,rfl,rfl⟩ | ⟨y,u,rfl,rfl⟩
      · rw [u4] at h; exact SeqAt.EqAt.str_int x t j u _ _ _ _ h
      · rw [u3] at h; exact wpAny_eqBool_str h
  «strs» := fun k x t v h => by
    rcases ba h with ⟨i,u,rfl,e⟩ | ⟨y,u,rfl,e⟩
    · exact nomatch e
    · injection e with e1 _
      subst e1
      cases v <;> rfl
theorem lI (prog : Program) (w:World) (i:Int) (t:Tok) : (bu prog w).is (.inl i) (.int i t) = true := pw i t
theorem lH (prog : Program) (w:World) (x:Str) (t:Tok) : (bu prog w).is (.inr x) (.str x t) = true := pq x t
end L2
namespace L2
open PySem PySem.Spec PyProof.Rows
inductive V where
  | non | bl (b:Bool) | int (i:Int) | str (x:Str) | byt (b:Array UInt8) | flt (b:UInt64) | ref (a:Addr) | ty (n:String)
  deriving DecidableEq
noncomputable def RelV : V → Value → Prop
  | .non,u => u = Value.none
  | .bl b,u => u = Value.bool b
  | .int i,u => ∃ t,u = Value.int i t
  | .str x,u => ∃ t,u = Value.str x t
  | .byt b,u => ∃ t,u = Value.bytes b t
  | .flt b,u => ∃ t,u = Value.float b t
  | .ref a,u => u = Value.ref a
  | .ty n,u => u = Value.type n
noncomputable abbrev Vals : List V → List Value → Prop := Paired RelV
theorem Vals.length {xs : List V}{us : List Value} (r:Vals xs us) : xs.length = us.length := Paired.length r
theorem Vals.get : ∀ {xs : List V}{us : List Value}{i:Nat}{x:V},Vals xs us → xs[i]? = some x → ∃ u,us[i]? = some u ∧ RelV x u
  | _,_,_,_,.nil,e => by simp at e
  | _,_,0,_,.cons r _,e => by simp at e; subst e; exact ⟨_,rfl,r⟩
  | _,_,i + 1,x,.cons _ t,e => by
    obtain ⟨u,h1,h2⟩ := Vals.get (i := i) (x := x) t (by simpa using e)
    exact ⟨u,by simpa using h1,h2⟩
theorem Vals.set {x:V}{u:Value} (r:RelV x u) : ∀ {xs : List V}{us : List Value} (i:Nat),Vals xs us → Vals (xs.set i x) (us.set i u)
  | _,_,_,.nil => .nil
  | _,_,0,.cons _ t => .cons r t
  | _,_,i + 1,.cons q t => .cons q (Vals.set r i t)
theorem Vals.append : ∀ {xs ys : List V}{us ws : List Value},Vals xs us → Vals ys ws → Vals (xs ++ ys) (us ++ ws)
  | _,_,_,_,.nil,s => s
  | _,_,_,_,.cons r t,s => .cons r (Vals.append t s)
theorem Vals.take : ∀ {xs : List V}{us : List Value} (n:Nat),Vals xs us → Vals (xs.take n) (us.take n)
  | _,_,0,_ => .nil
  | _,_,_ + 1,.nil => .nil
  | _,_,n + 1,.cons r t => .cons r (Vals.take n t)
theorem Vals.drop : ∀ {xs : List V}{us : List Value} (n:Nat),Vals xs us → Vals (xs.drop n) (us.drop n)
  | _,_,0,r => r
  | _,_,_ + 1,.nil => .nil
  | _,_,n + 1,.cons _ t => Vals.drop n t
noncomputable def RelO : Option V → Option Value → Prop
  | some v,some u => RelV v u
  | none,none => True
  | _,_ => False
noncomputable def KV {κ : Type} : List (κ × V) → List (κ × Value) → Prop := Paired fun (p:κ × V) (q:κ × Value) => p.1 = q.1 ∧ RelV p.2 q.2
noncomputable def kV : Key → V
  | .inl i => .int i
  | .inr x => .str x
inductive HO where
  | lst (xs : List V)
  | tup (xs : List V)
  | dK (kvs : List (Key × V)) | dT (kvs : List (List Key × V)) | dN (b:Bool) (xs : List (PKy × Addr × V))
  | set (S:Int → Bool) (n:Nat)
  | ins (C dx : Addr) (fs : List (Str × V))
  | own (x:Addr)
  | xd (fs : List (Str × V))
  | met (f x : Addr)
  | rng (lo hi : Int)
  | frz (o:Obj) (u:HO)
  | tbl (ps : Array Value)
  | ext (φ : Heap → Prop)
noncomputable abbrev Hp := Addr → Option HO
noncomputable def upd (H:Hp) (a:Addr) (o:HO) : Hp := fun b => if b = a then some o else H b
theorem aN {H:Hp}{a:Addr}{o:HO} : upd H a o a = some o :=by unfold upd; rw [if_pos rfl]
theorem ap {H:Hp}{a b : Addr}{o:HO} (h:b ≠ a) : upd H a o b = H b :=by unfold upd; rw [if_neg h]
theorem vR {H:Hp}{a b : Addr}{o u : HO} (h:H a = some o) (h' : H b = some u) (d:o ≠ u) : a ≠ b :=by
  intro e; subst e; rw [h] at h'; exact d (Option.some.inj h')
theorem bV {H:Hp}{a b : Addr}{o:HO} (h:H a = some o) (h' : H b = none) : a ≠ b :=by
  intro e; subst e; rw [h] at h'; cases h'
noncomputable def IsTupD (h:Heap) (a:Addr) (its : Array Value) : Prop := IsTup h a its ∧ ∃ o,h.get? a = some o ∧ o.dict = none
theorem IsTupD.new (h:Heap) (its : Array Value) : IsTupD (h.push { cls := .type "tuple",data := .seq its }) h.objs.size its := ⟨IsTup.new _ _,_,Heap.get?_push_size _ rfl,rfl⟩
section
variable (P:Program) (w:World)
noncomputable def ObjOk (H:Hp) (h:Heap) (a:Addr) : HO → Prop
  | .lst xs => xs.length ≤ sizeLine ∧ ∃ (its : List Value) (n:Nat),Vals xs its ∧ h.get? a = some { cls := .type "list",data := .seq its.toArray n }
  | .tup xs => xs.length ≤ sizeLine ∧ ∃ its : List Value,Vals xs its ∧ IsTupD h a its.toArray
  | .dK kvs => kvs.length ≤ sizeLine ∧ (a == sysModules) = false ∧ ∃ vs,KV kvs vs ∧ h.DictOf (bu P w) a vs
  | .dT kvs => kvs.length ≤ sizeLine ∧ (a == sysModules) = false ∧ ∃ xs : List (List Key × Addr × Value),
      Paired (fun (p:List Key × V) (q:List Key × Addr × Value) => p.1 = q.1 ∧ H q.2.1 = some (.tup (p.1.map kV)) ∧ RelV p.2 q.2.2) kvs xs ∧
      ∃ o es ep,h.get? a = some o ∧ o.ExactDict ∧ o.data = .dict es ep ∧ es.toList = xs.map (entryOfKey (tupleKind (bu P w))) ∧ (xs.map (·.1)).Nodup
  | .dN b xs => xs.length ≤ sizeLine ∧ (a == sysModules) = false ∧ ∃ ys : List (PKy × Addr × Value),Paired (fun (p:PKy × Addr × V) (q:PKy × Addr × Value) => p.1 = q.1 ∧ p.2.1 = q.2.1 ∧ RelV p.2.2 q.2.2) xs ys ∧
      ∃ o es ep,h.get? a = some o ∧ o.ExactDict ∧ o.data = .dict es ep ∧ es.toList = ys.map (fun y => (⟨iO b y.1,.ref y.2.1,y.2.2⟩ : DictEntry)) ∧ (ys.map (·.1)).Nodup
  | .set S n => h.SetOf (intKind P w) a S n
  | .ins C dx fs => H dx = some (.own a) ∧ fs.length ≤ 1000 ∧ dx ≠ a ∧ h.get? a = some (PySem.W.instObj C dx) ∧
      ∃ mA,h.Ns1 dx mA ∧ (∀ f,RelO (fs.lookup f) (mA f)) ∧ PySem.Within mA (fs.map (·.1))
  | .own _ => ∃ o,h.get? a = some o
  | .xd fs => ∃ mA,h.Ns1 a mA ∧ ∀ f,RelO (fs.lookup f) (mA f)
  | .rng lo hi => ∃ t u v,h.get? a = some { cls := .type "range",data := .fields #[.int lo t,.int hi u,.int 1 v] }
  | .frz o u => h.get? a = some o ∧ ObjOk H h a u
  | .tbl ps => h.get? a = some { cls := .none,data := .fields ps }
  | .met f x => h.get? a = some (PySem.W.methodObj (.ref f) (.ref x))
  | .ext φ => φ h ∧ (∃ o,h.get? a = some o) ∧ ∀ h1 h2 : Heap,φ h1 → (∀ o,h1.get? a = some o → h2.get? a = some o) → φ h2
noncomputable def HOk (H:Hp) (h:Heap) : Prop := ∀ a o,H a = some o → ObjOk P w H h a o
end
section
variable {P:Program}{w:World}{H H' : Hp}{h h' : Heap}{a:Addr}{o:HO}
theorem ObjOk.lt (x:ObjOk P w H h a o) : a < h.objs.size :=by
  cases o with
  | lst xs => obtain ⟨_,_,_,_,e⟩ := x; exact Heap.lt_size e
  | tup xs => obtain ⟨_,_,_,p⟩ := x; exact p.1.lt
  | dK kvs => obtain ⟨_,_,_,_,o,_,_,e,_⟩ := x; exact Heap.lt_size e
  | dT kvs => obtain ⟨_,_,_,_,o,_,_,e,_⟩ := x; exact Heap.lt_size e
  | dN b xs => obtain ⟨_,_,_,_,o,_,_,e,_⟩ := x; exact Heap.lt_size e
  | set S n => obtain ⟨o,_,_,_,e,_⟩ := x; exact Heap.lt_size e
  | ins C dx fs => obtain ⟨_,_,_,e,_⟩ := x; exact Heap.lt_size e
  | own y => obtain ⟨_,e⟩ := x; exact Heap.lt_size e
  | xd fs => obtain ⟨_,⟨_,_,_,e,_⟩,_⟩ := x; exact Heap.lt_size e
  | rng lo hi => obtain ⟨_,_,_,e⟩ := x; exact Heap.lt_size e
  | frz ob u => obtain ⟨e,_⟩ := x; exact Heap.lt_size e
  | tbl ps => exact Heap.lt_size (show h.get? a = some _ from x)
  | met f y => exact Heap.lt_size (show h.get? a = some _ from x)
  | ext φ => obtain ⟨_,⟨_,e⟩,_⟩ := x; exact Heap.lt_size e
theorem Paired.mapP {α β : Type}{F G : α → β → Prop} : ∀ {l₁ : List α}{l₂ : List β},Paired F l₁ l₂ → (∀ a b,F a b → G a b) → Paired G l₁ l₂
  | _,_,.nil,_ => .nil
  | _,_,.cons r t,f => .cons (f _ _ r) (Paired.mapP t f)
theorem ObjOk.stay (x:ObjOk P w H h a o) (k:∀ b u,(b = a ∨ H b = some (.own a)) → h.get? b = some u → h'.get? b = some u)
    (ho : ∀ b,H b = some (.own a) → H' b = some (.own a)) (ht : ∀ b xs,H b = some (.tup xs) → H' b = some (.tup xs)) : ObjOk P w H' h' a o :=by
  induction o with
  | lst xs => obtain ⟨z,its,n,r,e⟩ := x; exact ⟨z,its,n,r,k _ _ (.inl rfl) e⟩
  | tup xs => obtain ⟨z,its,r,⟨ob,e,c⟩,o2,e2,c2⟩ := x; exact ⟨z,its,r,⟨ob,k _ _ (.inl rfl) e,c⟩,o2,k _ _ (.inl rfl) e2,c2⟩
  | dK kvs => obtain ⟨z,y,vs,r,ob,es,ep,e,c⟩ := x; exact ⟨z,y,vs,r,ob,es,ep,k _ _ (.inl rfl) e,c⟩
  | dT kvs =>
    obtain ⟨z,y,xs,r,ob,es,ep,e,c⟩ := x
    exact ⟨z,y,xs,Paired.mapP r fun p q z => ⟨z.1,ht _ _ z.2.1,z.2.2⟩,ob,es,ep,k _ _ (.inl rfl) e,c⟩
  | dN b xs => obtain ⟨z,y,ys,r,ob,es,ep,e,c⟩ := x; exact ⟨z,y,ys,r,ob,es,ep,k _ _ (.inl rfl) e,c⟩
  | set S n => obtain ⟨ob,es,ep,t,e,c⟩ := x; exact ⟨ob,es,ep,t,k _ _ (.inl rfl) e,c⟩
  | ins C dx fs =>
    obtain ⟨d,z,ne,e,mA,⟨od,es,ep,e2,c⟩,r⟩ := x
    exact ⟨ho _ d,z,ne,k _ _ (.inl rfl) e,mA,⟨od,es,ep,k _ _ (.inr d) e2,c⟩,r⟩
  | own y => obtain ⟨ob,e⟩ := x; exact ⟨ob,k _ _ (.inl rfl) e⟩
  | xd fs => obtain ⟨mA,⟨od,es,ep,e,c⟩,r⟩ := x; exact ⟨mA,⟨od,es,ep,k _ _ (.inl rfl) e,c⟩,r⟩
  | rng lo hi => obtain ⟨t,u,v,e⟩ := x; exact ⟨t,u,v,k _ _ (.inl rfl) e⟩
  | frz ob u ih => obtain ⟨e,q⟩ := x; exact ⟨k _ _ (.inl rfl) e,ih q⟩
  | tbl ps =>
    have e : h.get? a = some { cls := .none,data := .fields ps } := x
    show h'.get? a = some { cls := .none,data := .fields ps }
    exact k a _ (.inl rfl) e
  | met f y =>
    have e : h.get? a = some (PySem.W.methodObj (.ref f) (.ref y)) := x
    show h'.get? a = some (PySem.W.methodObj (.ref f) (.ref y))
    exact k a _ (.inl rfl) e
  | ext φ => obtain ⟨p,⟨o,e⟩,st⟩ := x; exact ⟨st _ _ p fun o q => k _ _ (.inl rfl) q,⟨o,k _ _ (.inl rfl) e⟩,st⟩
theorem HOk.lt (x:HOk P w H h) (e:H a = some o) : a < h.objs.size := (x a o e).lt
theorem HOk.fresh (x:HOk P w H h) (e:h.objs.size ≤ a) : H a = none :=by
  cases q : H a with
  | none => rfl
  | some u => exact absurd (Nat.lt_of_lt_of_le (x.lt q) e) (Nat.lt_irrefl _)
theorem HOk.kept (x:HOk P w H h) (k:∀ b u,h.get? b = some u → h'.get? b = some u) : HOk P w H h' := fun a o e =>
  (x a o e).stay (fun b u _ q => k b u q) (fun _ q => q) fun _ _ q => q
theorem HOk.laid (x:HOk P w H h) (k:∀ b u,h.get? b = some u → h'.get? b = some u) (hp : h.objs.size ≤ a) (new : ObjOk P w (upd H a o) h' a o) : HOk P w (upd H a o) h' := fun b u e => by
  have hn := x.fresh hp
  by_cases hb : b = a
  · subst hb; rw [aN] at e; cases e; exact new
  · rw [ap hb] at e
    exact (x b u e).stay (fun c v _ q => k c v q) (fun c q => by rw [ap (bV q hn)]; exact q) fun c xs q => by rw [ap (bV q hn)]; exact q
end
noncomputable def Rd (H:Hp) (a:Addr) (u:HO) : Prop := H a = some u ∨ ∃ o,H a = some (.frz o u)
theorem Rd.ok {P:Program}{w:World}{H:Hp}{h:Heap}{a:Addr}{u:HO} (r:Rd H a u) (x:HOk P w H h) : ObjOk P w H h a u :=by
  rcases r with r | ⟨o,r⟩
  · exact x a u r
  · obtain ⟨_,q⟩ := x a _ r
    exact q
noncomputable def Mut : Option HO → Prop
  | some (.lst _) => True
  | some (.dK _) => True
  | some (.dT _) => True
  | some (.dN _ _) => True
  | some (.set _ _) => True
  | some (.ins _ _ _) => True
  | some (.ext _) => True
  | _ => False
section
variable {P:Program}{w:World}{H:Hp}{h h' : Heap}{x e : Addr}{o' : HO}
theorem HOk.write (ok : HOk P w H h) (mu : Mut (H x)) (he : e = x ∨ H e = some (.own x)) (k:∀ b u,b ≠ e → h.get? b = some u → h'.get? b = some u) (heo : ∃ u,h'.get? e = some u)
    (new : ObjOk P w (upd H x o') h' x o') : HOk P w (upd H x o') h' := fun b u q => by
  have nown : ∀ c y,H c = some (.own y) → c ≠ x := fun c y r z => by subst z; rw [r] at mu; exact mu
  have ntup : ∀ c xs,H c = some (.tup xs) → c ≠ x := fun c xs r z => by subst z; rw [r] at mu; exact mu
  by_cases hb : b = x
  · subst hb; rw [aN] at q; cases q; exact new
  · rw [ap hb] at q
    by_cases hbe : b = e
    · have q' : H b = some (.own x) :=by
        rcases he with z | z
        · exact absurd (hbe.trans z) hb
        · rw [hbe]; exact z
      rw [q] at q'; cases q'
      obtain ⟨v,hv⟩ := heo
      exact ⟨v,by rw [hbe]; exact hv⟩
    · refine (ok b u q).stay (fun c v hc r => k c v ?_ r) (fun c r => by rw [ap (nown c b r)]; exact r) fun c xs r => by rw [ap (ntup c xs r)]; exact r
      rcases hc with rfl | hc
      · exact hbe
      · rintro rfl
        rcases he with z | z
        · exact nown c b hc z
        · rw [hc] at z; cases z; exact hb rfl
end
structure Un (fs ex : List Addr) (H H' : Hp) (h h' : Heap) : Prop where
  keep : ∀ b o,h.get? b = some o → H b = none → b ∉ fs → b ∉ ex → h'.get? b = some o
  slot : ∀ b o,h.get? b = some o → H b = none → b ∈ fs → b ∉ ex → ∃ sl,h'.get? b = some { o with slots := sl }
  free : ∀ b o,h.get? b = some o → H b = none → b ∉ ex → H' b = none
  there : ∀ b o,h.get? b = some o → b ∉ ex → ∃ o',h'.get? b = some o'
  tups : ∀ b xs,H b = some (.tup xs) → H' b = some (.tup xs)
  frzs : ∀ b o u,H b = some (.frz o u) → H' b = some (.frz o u)
  tbls : ∀ b ps,H b = some (.tbl ps) → ∃ more,H' b = some (.tbl (ps ++ more))
section
variable {fs fs' ex ex' : List Addr}{H H1 H2 : Hp}{h h1 h2 h' : Heap}{a x e : Addr}{o:HO}
theorem Un.any (u:Un fs ex H H1 h h1) {b:Addr}{ob : Obj} (q:h.get? b = some ob) (n:H b = none) (hx : b ∉ ex) : ∃ sl,h1.get? b = some { ob with slots := sl } :=by
  by_cases hb : b ∈ fs
  · exact u.slot b ob q n hb hx
  · exact ⟨ob.slots,u.keep b ob q n hb hx⟩
theorem Un.kept (k:∀ b u,h.get? b = some u → h'.get? b = some u) : Un fs ex H H h h' :=
  ⟨fun b ob q _ _ _ => k b ob q,fun b ob q _ _ _ => ⟨ob.slots,k b ob q⟩,fun _ _ _ n _ => n,fun b ob q _ => ⟨ob,k b ob q⟩,fun _ _ q => q,fun _ _ _ q => q,fun _ ps q => ⟨#[],by rw [q]; simp⟩⟩
theorem Un.refl : Un fs ex H H h h := Un.kept fun _ _ q => q
theorem Un.laid (k:∀ b u,h.get? b = some u → h'.get? b = some u) (hp : h.objs.size ≤ a) (hn : H a = none) : Un fs ex H (upd H a o) h h' where
  keep := fun b u q _ _ _ => k b u q
  slot := fun b u q _ _ _ => ⟨u.slots,k b u q⟩
  free := fun b u q n _ => by rw [ap (Nat.ne_of_lt (Nat.lt_of_lt_of_le (Heap.lt_size q) hp))]; exact n
  there := fun b u q _ => ⟨u,k b u q⟩
  tups := fun b xs q => by rw [ap (bV q hn)]; exact q
  frzs := fun b u xs q => by rw [ap (bV q hn)]; exact q
  tbls := fun b ps q => ⟨#[],by rw [ap (bV q hn),q]; simp⟩
theorem Un.write (mu : Mut (H x)) (he : e = x ∨ H e = some (.own x)) (k:∀ b u,b ≠ e → h.get? b = some u → h'.get? b = some u) (heo : ∃ u,h'.get? e = some u) : Un fs ex H (upd H x o) h h' :=by
  have hx : ∀ b,H b = none → b ≠ x := fun b n z => by subst z; rw [n] at mu; exact mu
  have hb : ∀ b,H b = none → b ≠ e := fun b n z => by
    subst z
    rcases he with r | r
    · exact hx b n r
    · rw [n] at r; cases r
  have hm : ∀ b u,H b = some u → ¬ Mut (some u) → b ≠ x := fun b u q nm z => by subst z; rw [q] at mu; exact nm mu
  refine ⟨fun b u q n _ _ => k b u (hb b n) q,fun b u q n _ _ => ⟨u.slots,k b u (hb b n) q⟩,fun b u q n _ => by rw [ap (hx b n)]; exact n,fun b u q _ => ?_,
    fun b xs q => by rw [ap (hm b _ q fun z => z)]; exact q,fun b u xs q => by rw [ap (hm b _ q fun z => z)]; exact q,fun b ps q => ⟨#[],by rw [ap (hm b _ q fun z => z),q]; simp⟩⟩
  by_cases hbe : b = e
  · subst hbe; exact heo
  · exact ⟨u,k b u hbe q⟩
end
noncomputable def trk (h:Heap) (H:Hp) : List Addr := (List.range h.objs.size).filter fun a => (H a).isSome
noncomputable def hidT (h:Heap) (H:Hp) : Heap := PySem.W.hideAll h (trk h H)
theorem pG (h:Heap) (H:Hp) : (hidT h H).objs.size = h.objs.size := PySem.W.hideAll_size _ _
theorem rp {h:Heap}{H:Hp}{b:Addr}{o:Obj} (e:h.get? b = some o) (n:H b = none) : (hidT h H).get? b = some o :=
  PySem.W.hideAll_get _ e fun hm => by
    have q : (H b).isSome = true := (List.mem_filter.mp hm).2
    rw [n] at q; simp at q
theorem sM {h:Heap}{H:Hp}{b:Addr}{o:Obj} (e:(hidT h H).get? b = some o) : h.get? b = some o ∧ H b = none :=by
  have e' : h.get? b = some o := PySem.W.of_hideAll (trk h H) e
  refine ⟨e',?_⟩
  cases q : H b with
  | none => rfl
  | some x =>
    have hm : b ∈ trk h H := List.mem_filter.mpr ⟨List.mem_range.mpr (Heap.lt_size e'),by simp [q]⟩
    have z : (hidT h H).get? b = none := PySem.W.hideAll_none (trk h H) hm
    rw [z] at e; cases e
noncomputable def tD (g h : Heap) (L:Addr) : List (Addr × Obj) := (List.range h.objs.size).filterMap fun a => if a = L ∨ (g.get? a).isSome = true then none else (h.get? a).map fun o => (a,o)
noncomputable def rest (g h : Heap) (L d : Addr) : List (Addr × Obj) := (tD g h L).filter fun p => decide (p.1 ≠ d)
end L2
namespace L2
open PySem PySem.Spec PyProof.Rows
structure Mod (K:PySem.W.Frag) (mg : Str → Option Value) (base : Heap) : Prop where
  kin : K.In base
  glob : base.Ns mainGlobals mg
  blt : ∃ mb,base.Ns builtinsNs mb ∧ ∀ x : Str,x ≠ "__name__" → mb x = bootBuiltins x
  nolimit : base.NoLimit
structure Cx where
  prog : Program
  w : World
  K : PySem.W.Frag
  mg : Str → Option Value
  base : Heap
  A : Around
  N : List Str
  s₀ : Shared
  H₀ : Hp
  env : Env
  outer : List Env
  stack : List Env
  ex : List Addr
  fn : Str → Bool
  calm : Bool
  pn : List (Addr × Obj)
  xe : Value → Shared → Prop
noncomputable def frs (l:List Env) : List Addr := l.filterMap (·.frame)
noncomputable abbrev Cx.fs (X:Cx) : List Addr := frs X.outer
noncomputable def Vis (sc : Scope) (x:Str) : Prop := sc.names.lookup x = some .local ∨ sc.names.lookup x = some .cell ∨ sc.names.lookup x = some .free
noncomputable def Loc (sc : Scope) (x:Str) : Prop := sc.names.lookup x = some .local ∨ sc.names.lookup x = some .cell
noncomputable def Look (env : Env) (h:Heap) (m:Str → Option Value) (x:Str) (u:Value) : Prop :=
  (env.kindOf x = some .local ∧ m x = some u) ∨ ((env.kindOf x = some .cell ∨ env.kindOf x = some .free) ∧ ∃ c,env.cells.lookup x = some c ∧ h.IsCell c (some u))
structure Cx.Ok (X:Cx) : Prop where
  mod : Mod X.K X.mg X.base
  kind : X.env.scope.kind = .function
  glob : X.env.globals = mainGlobals
  blt : X.env.builtins = builtinsNs
  above : X.s₀.heap.objs.size ≤ X.env.locals
  inj : ∀ x y c,X.env.cells.lookup x = some c → X.env.cells.lookup y = some c → x = y
  has : ∀ x,(X.env.kindOf x = some .cell ∨ X.env.kindOf x = some .free) → ∃ c,X.env.cells.lookup x = some c
  cab : ∀ x c,X.fn x = true → X.env.cells.lookup x = some c → X.s₀.heap.objs.size ≤ c
  hd : X.calm = true → X.A.handled = none
  frames : X.A.frames = some X.stack
  stk : X.stack = X.outer ∨ (X.stack = X.env :: X.outer ∧ X.env.frame = some X.env.locals)
  exf : ∀ b ∈ X.ex,b ≠ X.env.locals ∧ ∀ x c,X.env.cells.lookup x = some c → c ≠ b
  bs : ∀ b o,X.base.get? b = some o → X.s₀.heap.get? b = some o ∧ X.H₀ b = none
  bsz : X.base.objs.size ≤ X.s₀.heap.objs.size
  noex : ∀ b o,X.base.get? b = some o → b ∉ X.ex
  exfs : ∀ b ∈ X.ex,b ∉ X.fs
  funs : X.s₀.heap.FunFrames X.base X.outer
  frf : ∀ b ∈ X.fs,X.H₀ b = none
structure Inv (X:Cx) (pins : List (Addr × Obj)) (σ : List (Option V)) (H:Hp) (s:Shared) : Prop where
  ok : X.Ok
  os : s.os = X.s₀.os
  bare : AllBare s.gens
  base : Un X.fs X.ex X.H₀ H X.s₀.heap s.heap
  loc : ∃ m,s.heap.Ns X.env.locals m ∧ ∀ (i:Nat) (x:Str) (v:V),X.N[i]? = some x → σ[i]? = some (some v) → Vis X.env.scope x → ∃ u,RelV v u ∧ Look X.env s.heap m x u
  cell : ∀ x c,X.env.cells.lookup x = some c → ∃ v,s.heap.IsCell c v
  free : H X.env.locals = none
  freeC : ∀ x c,X.env.cells.lookup x = some c → H c = none
  pin : ∀ p ∈ X.pn ++ pins,s.heap.get? p.1 = some p.2 ∧ H p.1 = none ∧ p.1 ≠ X.env.locals ∧ p.1 ∉ X.fs ∧ ∀ v,p.2.data ≠ .cell v
  hok : HOk X.prog X.w H s.heap
  len : σ.length = X.N.length
section
variable {X:Cx}{pins : List (Addr × Obj)}{σ : List (Option V)}{H H' : Hp}{s:Shared}{h' : Heap}
theorem Cx.Ok.nofr (ok : X.Ok) {b:Addr}{o:Obj} (e:X.base.get? b = some o) : b ∉ X.fs := fun hb => by
  have := (ok.funs.mem hb).1
  rw [e] at this; cases this
theorem Inv.bs (I:Inv X pins σ H s) : ∀ b o,X.base.get? b = some o → s.heap.get? b = some o ∧ H b = none := fun b o e =>
  ⟨I.base.keep b o (I.ok.bs b o e).1 (I.ok.bs b o e).2 (I.ok.nofr e) (I.ok.noex b o e),I.base.free b o (I.ok.bs b o e).1 (I.ok.bs b o e).2 (I.ok.noex b o e)⟩
theorem Inv.bk (I:Inv X pins σ H s) : ∀ b o,X.base.get? b = some o → s.heap.get? b = some o := fun b o e => (I.bs b o e).1
theorem Inv.mod (I:Inv X pins σ H s) : Mod X.K X.mg X.base := I.ok.mod
theorem Inv.kIn (I:Inv X pins σ H s) : X.K.In s.heap := I.ok.mod.kin.keeps I.bk
theorem Inv.fr (I:Inv X pins σ H s) : ∃ m,Fr X.base X.env.locals s.heap m :=
  let ⟨m,hn,_⟩ := I.loc
  ⟨m,hn,I.bk,Nat.le_trans I.ok.bsz I.ok.above⟩
theorem Inv.lt (I:Inv X pins σ H s) : X.env.locals < s.heap.objs.size := let ⟨_,hn,_⟩ := I.loc; hn.lt
theorem Inv.sz (I:Inv X pins σ H s) : X.s₀.heap.objs.size ≤ s.heap.objs.size := Nat.le_trans I.ok.above (Nat.le_of_lt I.lt)
theorem Inv.nofs (I:Inv X pins σ H s) {a:Addr} (h:s.heap.objs.size ≤ a) : a ∉ X.fs := fun hb => by
  obtain ⟨_,o,ho,_⟩ := I.ok.funs.mem hb
  exact absurd (Nat.lt_of_lt_of_le (Heap.lt_size ho) (Nat.le_trans I.sz h)) (Nat.lt_irrefl _)
theorem Inv.cne (I:Inv X pins σ H s) : ∀ x c,X.env.cells.lookup x = some c → c ≠ X.env.locals := fun x c e z => by
  obtain ⟨v,o,ho,hd⟩ := I.cell x c e
  obtain ⟨m,⟨o',es,ep,ho',hd',_⟩,_⟩ := I.loc
  rw [z,ho'] at ho; cases ho; rw [hd'] at hd; cases hd
theorem Inv.funs (I:Inv X pins σ H s) : s.heap.FunFrames X.base X.outer :=by
  have all : ∀ (l:List Env),(∀ b ∈ frs l,b ∈ X.fs) → X.s₀.heap.FunFrames X.base l → s.heap.FunFrames X.base l :=by
    intro l
    induction l with
    | nil => intro _ _; trivial
    | cons env r ih =>
      intro hs hl
      obtain ⟨hk,⟨L,o,hf,hn,ho,hd⟩,hr⟩ := hl
      have hL : L ∈ X.fs := hs L (by unfold frs; rw [List.filterMap_cons,hf]; exact List.mem_cons_self)
      obtain ⟨sl,e⟩ := I.base.slot L o ho (I.ok.frf L hL) hL fun z => I.ok.exfs L z hL
      exact ⟨hk,⟨L,_,hf,hn,e,hd⟩,ih (fun b hb => hs b (by unfold frs; rw [List.filterMap_cons,hf]; exact List.mem_cons_of_mem _ hb)) hr⟩
  exact all X.outer (fun _ hb => hb) I.ok.funs
theorem Inv.stack (I:Inv X pins σ H s) : s.heap.FunFrames X.base X.stack :=by
  rcases I.ok.stk with e | ⟨e,hf⟩
  · rw [e]; exact I.funs
  · rw [e]
    obtain ⟨m,hn,_⟩ := I.loc
    refine .cons (by rw [I.ok.kind]; decide) hf hn ?_ I.funs
    exact Heap.get?_none_of_le (Nat.le_trans I.ok.bsz I.ok.above)
theorem Inv.stkSub (I:Inv X pins σ H s) : ∀ b ∈ frs X.stack,b ∈ X.env.locals :: X.fs := fun b hb => by
  rcases I.ok.stk with e | ⟨e,hf⟩
  · rw [e] at hb; exact List.mem_cons_of_mem _ hb
  · rw [e] at hb
    unfold frs at hb
    rw [List.filterMap_cons,hf] at hb
    exact hb
theorem Inv.stkFree (I:Inv X pins σ H s) : ∀ b ∈ frs X.stack,H b = none := fun b hb => by
  rcases List.mem_cons.mp (I.stkSub b hb) with e | hb
  · rw [e]; exact I.free
  · obtain ⟨_,o,ho,_⟩ := I.ok.funs.mem hb
    exact I.base.free b o ho (I.ok.frf b hb) fun z => I.ok.exfs b z hb
theorem Inv.step {g' : Array GenState}{t' : Nat}{d' : Drawn}{ch : List Addr} (I:Inv X pins σ H s)
    (hch : ∀ b ∈ ch,(b ∈ X.ex ∨ X.s₀.heap.objs.size ≤ b) ∧ b ≠ X.env.locals ∧ (∀ x c,X.env.cells.lookup x = some c → c ≠ b) ∧ ∀ p ∈ X.pn ++ pins,p.1 ≠ b)
    (keep : ∀ b o,b ≠ X.env.locals → b ∉ X.fs → b ∉ ch → s.heap.get? b = some o → H b = none → h'.get? b = some o)
    (slot : ∀ b o,b ≠ X.env.locals → b ∈ X.fs → b ∉ ch → s.heap.get? b = some o → H b = none → ∃ sl,h'.get? b = some { o with slots := sl }) (free : ∀ b o,b ∉ ch → s.heap.get? b = some o → H b = none → H' b = none)
    (there : ∀ b o,b ∉ ch → s.heap.get? b = some o → ∃ o',h'.get? b = some o')
    (tups : ∀ b xs,H b = some (.tup xs) → H' b = some (.tup xs)) (frzs : ∀ b o u,H b = some (.frz o u) → H' b = some (.frz o u)) (tbls : ∀ b ps,H b = some (.tbl ps) → ∃ more,H' b = some (.tbl (ps ++ more)))
    (ns : ∀ m,s.heap.Ns X.env.locals m → h'.Ns X.env.locals m) (hok : HOk X.prog X.w H' h') (hg : AllBare g') :
    Inv X pins σ H' { s with heap := h',gens := g',drawn := d',toks := t' } :=by
  have neL : ∀ b o,X.s₀.heap.get? b = some o → b ≠ X.env.locals := fun b o e => Nat.ne_of_lt (Nat.lt_of_lt_of_le (Heap.lt_size e) I.ok.above)
  have neC : ∀ b o,X.s₀.heap.get? b = some o → b ∉ X.ex → b ∉ ch := fun b o e hx hb => by
    rcases (hch b hb).1 with z | z
    · exact hx z
    · exact absurd (Nat.lt_of_lt_of_le (Heap.lt_size e) z) (Nat.lt_irrefl _)
  have cellK : ∀ x c,X.env.cells.lookup x = some c → ∀ v,s.heap.IsCell c v → h'.IsCell c v := fun x c e v ⟨o,ho,hd⟩ => by
    have nch : c ∉ ch := fun z => (hch c z).2.2.1 x c e rfl
    by_cases hc : c ∈ X.fs
    · obtain ⟨sl,q⟩ := slot c o (I.cne x c e) hc nch ho (I.freeC x c e)
      exact ⟨_,q,hd⟩
    · exact ⟨o,keep c o (I.cne x c e) hc nch ho (I.freeC x c e),hd⟩
  refine ⟨I.ok,I.os,hg,⟨fun b o e n hb hx => ?_,fun b o e n hb hx => ?_,fun b o e n hx => ?_,fun b o e hx => ?_,fun b xs e => tups b xs (I.base.tups b xs e),fun b o xs e => frzs b o xs (I.base.frzs b o xs e),fun b ps e => ?_⟩,?_,fun x c e => ?_,?_,fun x c e => ?_,fun p hp => ?_,hok,I.len⟩
  · exact keep b o (neL b o e) hb (neC b o e hx) (I.base.keep b o e n hb hx) (I.base.free b o e n hx)
  · obtain ⟨sl,e1⟩ := I.base.slot b o e n hb hx
    obtain ⟨sl',e2⟩ := slot b _ (neL b o e) hb (neC b o e hx) e1 (I.base.free b o e n hx)
    exact ⟨sl',e2⟩
  · obtain ⟨o',e1⟩ := I.base.there b o e hx
    exact free b o' (neC b o e hx) e1 (I.base.free b o e n hx)
  · obtain ⟨o',e1⟩ := I.base.there b o e hx
    exact there b o' (neC b o e hx) e1
  · obtain ⟨m1,e1⟩ := I.base.tbls b ps e
    obtain ⟨m2,e2⟩ := tbls b _ e1
    exact ⟨m1 ++ m2,by rw [e2,Array.append_assoc]⟩
  · obtain ⟨m,hn,hl⟩ := I.loc
    refine ⟨m,ns m hn,fun i x v e1 e2 e3 => ?_⟩
    obtain ⟨u,r,l⟩ := hl i x v e1 e2 e3
    refine ⟨u,r,?_⟩
    rcases l with l | ⟨k,c,e,z⟩
    · exact .inl l
    · exact .inr ⟨k,c,e,cellK x c e _ z⟩
  · obtain ⟨v,z⟩ := I.cell x c e
    exact ⟨v,cellK x c e v z⟩
  · obtain ⟨m,⟨o,_,_,ho,_⟩,_⟩ := I.loc
    exact free _ o (fun z => (hch _ z).2.1 rfl) ho I.free
  · obtain ⟨v,o,ho,hd⟩ := I.cell x c e
    exact free c o (fun z => (hch c z).2.2.1 x c e rfl) ho (I.freeC x c e)
  · obtain ⟨e,n,ne,nf,d⟩ := I.pin p hp
    have nch : p.1 ∉ ch := fun z => (hch p.1 z).2.2.2 p hp rfl
    exact ⟨keep p.1 p.2 ne nf nch e n,free p.1 p.2 nch e n,ne,nf,d⟩
theorem Inv.un {t' : Nat} (I:Inv X pins σ H s) (u:Un X.fs [] H H' s.heap h') (hok : HOk X.prog X.w H' h') : Inv X pins σ H' { s with heap := h',toks := t' } :=by
  obtain ⟨m,⟨o,es,ep,ho,r⟩,_⟩ := id I.loc
  obtain ⟨sl,hL⟩ := u.any ho I.free (by simp)
  exact I.step (g' := s.gens) (d' := s.drawn) (ch := []) (fun _ z => nomatch z) (fun b o _ hb _ e n => u.keep b o e n hb (by simp)) (fun b o _ hb _ e n => u.slot b o e n hb (by simp)) (fun b o _ e n => u.free b o e n (by simp)) (fun b o _ e => u.there b o e (by simp)) u.tups u.frzs u.tbls (fun m' hm => by
    obtain ⟨o',es',ep',ho',r'⟩ := hm
    rw [ho] at ho'; cases ho'
    exact ⟨_,es',ep',hL,r'⟩) hok I.bare
theorem Inv.call {g' : Array GenState}{t' : Nat}{d' : Drawn}{ch : List Addr} (I:Inv X pins σ H s) (u:Un (frs X.stack) ch H H' s.heap h') (hok : HOk X.prog X.w H' h') (hg : AllBare g')
    (hch : ∀ b ∈ ch,(b ∈ X.ex ∨ X.s₀.heap.objs.size ≤ b) ∧ b ≠ X.env.locals ∧ (∀ x c,X.env.cells.lookup x = some c → c ≠ b) ∧ ∀ p ∈ X.pn ++ pins,p.1 ≠ b) :
    Inv X pins σ H' { s with heap := h',gens := g',drawn := d',toks := t' } :=by
  obtain ⟨m,⟨o,es,ep,ho,r⟩,_⟩ := id I.loc
  obtain ⟨sl,hL⟩ := u.any ho I.free fun z => (hch _ z).2.1 rfl
  exact I.step (ch := ch) hch (fun b o hL hb hc e n => u.keep b o e n (fun z => (List.mem_cons.mp (I.stkSub b z)).elim hL hb) hc) (fun b o _ _ hc e n => u.any e n hc) (fun b o hc e n => u.free b o e n hc) (fun b o hc e => u.there b o e hc) u.tups u.frzs u.tbls (fun m' hm => by
    obtain ⟨o',es',ep',ho',r'⟩ := hm
    rw [ho] at ho'; cases ho'
    exact ⟨_,es',ep',hL,r'⟩) hok hg
theorem Inv.turned {t' : Nat}{it : Addr} (I:Inv X pins σ H s) (k:∀ b o,b ≠ it → s.heap.get? b = some o → h'.get? b = some o) (hn : H it = none) (hL : it ≠ X.env.locals)
    (h1 : it ∈ X.ex ∨ X.s₀.heap.objs.size ≤ it) (h2 : ∀ x c,X.env.cells.lookup x = some c → c ≠ it) (h3 : ∀ p ∈ X.pn ++ pins,p.1 ≠ it) : Inv X pins σ H { s with heap := h',toks := t' } :=by
  have nit : ∀ b u,H b = some u → b ≠ it := fun b u e z => by rw [z,hn] at e; cases e
  refine I.step (g' := s.gens) (d' := s.drawn) (ch := [it]) (fun b hb => ?_) (fun b o _ _ hc e _ => k b o (fun z => hc (by simp [z])) e) (fun b o _ _ hc e _ => ⟨o.slots,k b o (fun z => hc (by simp [z])) e⟩) (fun _ _ _ _ n => n)
    (fun b o hc e => ⟨o,k b o (fun z => hc (by simp [z])) e⟩) (fun _ _ e => e) (fun _ _ _ e => e) (fun b ps e => ⟨#[],by rw [e]; simp⟩) (fun m hm => ?_) (fun b u e => ?_) I.bare
  · have e : b = it :=by simpa using hb
    subst e
    exact ⟨h1,hL,h2,h3⟩
  · obtain ⟨o,es,ep,ho,r⟩ := hm
    exact ⟨o,es,ep,k _ o (Ne.symm hL) ho,r⟩
  · refine (I.hok b u e).stay (fun c v hc q => k c v ?_ q) (fun _ q => q) fun _ _ q => q
    rcases hc with z | z
    · rw [z]; exact nit b u e
    · exact nit c _ z
theorem Inv.tok (I:Inv X pins σ H s) (t:Nat) : Inv X pins σ H { s with toks := t } := I.un (h' := s.heap) (t' := t) Un.refl I.hok
theorem Inv.kept {t' : Nat} (I:Inv X pins σ H s) (k:∀ b u,s.heap.get? b = some u → h'.get? b = some u) : Inv X pins σ H { s with heap := h',toks := t' } := I.un (Un.kept k) (I.hok.kept k)
theorem Inv.laid {a:Addr}{o:HO}{t' : Nat} (I:Inv X pins σ H s) (k:∀ b u,s.heap.get? b = some u → h'.get? b = some u) (hp : s.heap.objs.size ≤ a) (new : ObjOk X.prog X.w (upd H a o) h' a o) :
    Inv X pins σ (upd H a o) { s with heap := h',toks := t' } := I.un (Un.laid k hp (I.hok.fresh hp)) (I.hok.laid k hp new)
theorem Inv.write {x e : Addr}{o:HO}{t' : Nat} (I:Inv X pins σ H s) (mu : Mut (H x)) (he : e = x ∨ H e = some (.own x)) (k:∀ b u,b ≠ e → s.heap.get? b = some u → h'.get? b = some u) (heo : ∃ u,h'.get? e = some u)
    (new : ObjOk X.prog X.w (upd H x o) h' x o) : Inv X pins σ (upd H x o) { s with heap := h',toks := t' } := I.un (Un.write mu he k heo) (I.hok.write mu he k heo new)
theorem Inv.weak {σ' : List (Option V)} (I:Inv X pins σ H s) (hl : σ'.length = σ.length) (w:∀ (i:Nat) v,σ'[i]? = some (some v) → σ[i]? = some (some v)) : Inv X pins σ' H s :=
  ⟨I.ok,I.os,I.bare,I.base,let ⟨m,hn,hl'⟩ := I.loc; ⟨m,hn,fun i x v e1 e2 e3 => hl' i x v e1 (w i v e2) e3⟩,I.cell,I.free,I.freeC,I.pin,I.hok,hl.trans I.len⟩
theorem Inv.pins_of {pins' : List (Addr × Obj)} (I:Inv X pins σ H s) (h:∀ p ∈ pins',s.heap.get? p.1 = some p.2 ∧ H p.1 = none ∧ p.1 ≠ X.env.locals ∧ p.1 ∉ X.fs ∧ ∀ v,p.2.data ≠ .cell v) : Inv X pins' σ H s :=
  ⟨I.ok,I.os,I.bare,I.base,I.loc,I.cell,I.free,I.freeC,fun p hp => (List.mem_append.mp hp).elim (fun z => I.pin p (List.mem_append_left _ z)) (h p),I.hok,I.len⟩
theorem lF {N:List Str} (hN : N.Nodup) {i j : Nat}{x:Str} (a:N[i]? = some x) (b:N[j]? = some x) : i = j :=by
  obtain ⟨h1,e1⟩ := List.getElem?_eq_some_iff.mp a
  obtain ⟨h2,e2⟩ := List.getElem?_eq_some_iff.mp b
  exact (List.getElem_inj hN).mp (e1.trans e2.symm)
theorem jC {M:Model}{A:Around}{E:Value → Shared → Prop}{i:Nat}{x:Str}{v:V}{u:Value}{Q:Unit → Shared → Prop} (I:Inv X pins σ H s) (hN : X.N.Nodup) (hi : X.N[i]? = some x) (hx : Loc X.env.scope x) (r:RelV v u)
    (h:∀ s',Inv X pins (σ.set i (some v)) H s' → (∃ a,Heap.SameBut a s.heap s'.heap ∧ (a = X.env.locals ∨ X.env.cells.lookup x = some a)) → Q () s') (hf : X.fn x = true ∨ X.env.scope.names.lookup x = some .local :=by first | exact .inl rfl | exact .inr rfl | assumption) : wpAny M A (storeName X.env x u) Q E s :=by
  obtain ⟨m,hn,hl⟩ := id I.loc
  have hcls : (X.env.scope.kind == .class || (X.env.scope.kind == .module && X.env.locals != X.env.globals)) = false :=by rw [I.ok.kind]; rfl
  have hiσ : i < σ.length :=by rw [I.len]; exact (List.getElem?_eq_some_iff.mp hi).1
  have cne := I.cne
  have tracked : ∀ {a:Addr}{h' : Heap},(∃ o,s.heap.get? a = some o ∧ H a = none) → Heap.SameBut a s.heap h' → HOk X.prog X.w H h' := fun {a h'} ha hs b ob e => by
    obtain ⟨_,_,hfree⟩ := ha
    refine (I.hok b ob e).stay (fun c w' hc q => (hs.2 c ?_).trans q) (fun _ q => q) fun _ _ q => q
    rintro rfl
    rcases hc with rfl | hc
    · rw [hfree] at e; cases e
    · rw [hfree] at hc; cases hc
  rcases hx with hk | hk
  · refine wpAny_storeName_local hk hn (fun h' hn' hs => ?_) hcls
    obtain ⟨oL,_,_,hoL,_⟩ := id hn
    refine h _ ⟨I.ok,I.os,I.bare,⟨fun b o e n hb hx => ?_,fun b o e n hb hx => ?_,I.base.free,fun b o e hx => ?_,I.base.tups,I.base.frzs,I.base.tbls⟩,⟨_,hn',fun j y v' e1 e2 e3 => ?_⟩,fun y c e => ?_,I.free,I.freeC,fun p hp => ?_,tracked ⟨oL,hoL,I.free⟩ hs,by simpa using I.len⟩ ⟨_,hs,.inl rfl⟩
    · exact (hs.2 b (Nat.ne_of_lt (Nat.lt_of_lt_of_le (Heap.lt_size e) I.ok.above))).trans (I.base.keep b o e n hb hx)
    · obtain ⟨sl,e1⟩ := I.base.slot b o e n hb hx
      exact ⟨sl,(hs.2 b (Nat.ne_of_lt (Nat.lt_of_lt_of_le (Heap.lt_size e) I.ok.above))).trans e1⟩
    · obtain ⟨o',e1⟩ := I.base.there b o e hx
      exact ⟨o',(hs.2 b (Nat.ne_of_lt (Nat.lt_of_lt_of_le (Heap.lt_size e) I.ok.above))).trans e1⟩
    · by_cases hj : j = i
      · subst hj
        rw [hi] at e1; cases e1
        rw [List.getElem?_set_self hiσ] at e2
        cases e2
        exact ⟨u,r,.inl ⟨hk,by simp⟩⟩
      · rw [List.getElem?_set_ne (Ne.symm hj)] at e2
        obtain ⟨u',r',q⟩ := hl j y v' e1 e2 e3
        refine ⟨u',r',?_⟩
        rcases q with ⟨k,e⟩ | ⟨k,c,e,z⟩
        · refine .inl ⟨k,?_⟩
          have : y ≠ x := fun e => hj (lF hN e1 (e ▸ hi))
          simp [this,e]
        · exact .inr ⟨k,c,e,z.sameBut hs (cne y c e)⟩
    · obtain ⟨w',z⟩ := I.cell y c e
      exact ⟨w',z.sameBut hs (cne y c e)⟩
    · obtain ⟨e,n,ne,nf,d⟩ := I.pin p hp
      exact ⟨(hs.2 p.1 ne).trans e,n,ne,nf,d⟩
  · have hfn : X.fn x = true :=by
      rcases hf with z | z
      · exact z
      · rw [z] at hk; cases hk
    obtain ⟨c,hc⟩ := I.ok.has x (.inl hk)
    obtain ⟨w',z⟩ := I.cell x c hc
    refine wpAny_storeName_cell I.ok.kind hk hc z (fun h' hc' hs => ?_)
    obtain ⟨oc,hoc,hocd⟩ := id z
    refine h { s with heap := h' } ⟨I.ok,I.os,I.bare,⟨fun b o e n hb hx => ?_,fun b o e n hb hx => ?_,I.base.free,fun b o e hx => ?_,I.base.tups,I.base.frzs,I.base.tbls⟩,⟨m,hn.sameBut hs (Ne.symm (cne x c hc)),fun j y v' e1 e2 e3 => ?_⟩,fun y c' e => ?_,I.free,I.freeC,fun p hp => ?_,tracked ⟨oc,hoc,I.freeC x c hc⟩ hs,by simpa using I.len⟩ ⟨c,hs,.inr hc⟩
    · exact (hs.2 b (Nat.ne_of_lt (Nat.lt_of_lt_of_le (Heap.lt_size e) (I.ok.cab x c hfn hc)))).trans (I.base.keep b o e n hb hx)
    · obtain ⟨sl,e1⟩ := I.base.slot b o e n hb hx
      exact ⟨sl,(hs.2 b (Nat.ne_of_lt (Nat.lt_of_lt_of_le (Heap.lt_size e) (I.ok.cab x c hfn hc)))).trans e1⟩
    · obtain ⟨o',e1⟩ := I.base.there b o e hx
      exact ⟨o',(hs.2 b (Nat.ne_of_lt (Nat.lt_of_lt_of_le (Heap.lt_size e) (I.ok.cab x c hfn hc)))).trans e1⟩
    · by_cases hj : j = i
      · subst hj
        rw [hi] at e1; cases e1
        rw [List.getElem?_set_self hiσ] at e2
        cases e2
        exact ⟨u,r,.inr ⟨.inl hk,c,hc,hc'⟩⟩
      · rw [List.getElem?_set_ne (Ne.symm hj)] at e2
        obtain ⟨u',r',q⟩ := hl j y v' e1 e2 e3
        refine ⟨u',r',?_⟩
        rcases q with q | ⟨k,c',e,z'⟩
        · exact .inl q
        · refine .inr ⟨k,c',e,z'.sameBut hs ?_⟩
          rintro rfl
          exact hj (lF hN e1 (I.ok.inj _ _ _ e hc ▸ hi))
    · by_cases hcc : c' = c
      · subst hcc; exact ⟨_,hc'⟩
      · obtain ⟨w2,z2⟩ := I.cell y c' e
        exact ⟨w2,z2.sameBut hs hcc⟩
    · obtain ⟨e,n,ne,nf,d⟩ := I.pin p hp
      refine ⟨(hs.2 p.1 ?_).trans e,n,ne,nf,d⟩
      intro q
      rw [q,hoc] at e
      have q' : oc = p.2 := Option.some.inj e
      exact d w' (by rw [← q']; exact hocd)
theorem kX {M:Model}{A:Around}{E:Value → Shared → Prop}{i:Nat}{x:Str}{v:V}{u:Value}{Q:Unit → Shared → Prop} (I:Inv X pins σ H s) (hN : X.N.Nodup) (hi : X.N[i]? = some x) (hx : Loc X.env.scope x) (r:RelV v u)
    (h:∀ s',Inv X pins (σ.set i (some v)) H s' → Q () s') (hf : X.fn x = true ∨ X.env.scope.names.lookup x = some .local :=by first | exact .inl rfl | exact .inr rfl | assumption) : wpAny M A (storeName X.env x u) Q E s :=
  jC I hN hi hx r (fun s' I' _ => h s' I') hf
theorem Inv.call' {s' : Shared}{ch : List Addr} (I:Inv X pins σ H s) (ho : s'.os = s.os) (u:Un (frs X.stack) ch H H' s.heap s'.heap) (hok : HOk X.prog X.w H' s'.heap) (hg : AllBare s'.gens)
    (hch : ∀ b ∈ ch,(b ∈ X.ex ∨ X.s₀.heap.objs.size ≤ b) ∧ b ≠ X.env.locals ∧ (∀ x c,X.env.cells.lookup x = some c → c ≠ b) ∧ ∀ p ∈ X.pn ++ pins,p.1 ≠ b) : Inv X pins σ H' s' :=by
  obtain ⟨h',g',d',t',o'⟩ := s'
  have e : o' = s.os := ho
  subst e
  exact I.call (g' := g') (t' := t') (d' := d') u hok hg hch
end
noncomputable abbrev XK := Value → Option Addr → Hp → Prop
noncomputable abbrev St := List (Option V)
noncomputable abbrev VK := V → Hp → Prop
noncomputable abbrev TE := St → Hp → VK → Prop
noncomputable abbrev TT := St → Hp → (Bool → Hp → Prop) → Prop
noncomputable abbrev TA := St → Hp → (List V → Hp → Prop) → Prop
structure Ends where
  nx : St → Hp → Prop
  rt : VK
  bk : St → Hp → Prop := fun _ _ => False
  ct : St → Hp → Prop := fun _ _ => False
noncomputable abbrev TS := Ends → St → Hp → Prop
noncomputable def EP (X:Cx) (pins : List (Addr × Obj)) (σ : St) (Q:VK) (u:Value) (s' : Shared) : Prop := ∃ v H',Inv X pins σ H' s' ∧ RelV v u ∧ Q v H'
noncomputable def TP (X:Cx) (pins : List (Addr × Obj)) (σ : St) (Q:Bool → Hp → Prop) (b:Bool) (s' : Shared) : Prop := ∃ H',Inv X pins σ H' s' ∧ Q b H'
noncomputable def AP (X:Cx) (pins : List (Addr × Obj)) (σ : St) (Q:List V → Hp → Prop) (us : List Value) (s' : Shared) : Prop := ∃ vs H',Inv X pins σ H' s' ∧ Vals vs us ∧ Q vs H'
noncomputable def SP (X:Cx) (pins : List (Addr × Obj)) (D:Ends) (f:Flow) (s' : Shared) : Prop :=
  match f with
  | .next => ∃ σ' H',Inv X pins σ' H' s' ∧ D.nx σ' H'
  | .brk => ∃ σ' H',Inv X pins σ' H' s' ∧ D.bk σ' H'
  | .cont => ∃ σ' H',Inv X pins σ' H' s' ∧ D.ct σ' H'
  | .ret u => ∃ v σ' H',Inv X pins σ' H' s' ∧ RelV v u ∧ D.rt v H'
noncomputable def PE (X:Cx) (e:Expr) (t:TE) : Prop :=
  ∀ (pins : List (Addr × Obj)) (s:Shared) (σ : St) (H:Hp) (Q:VK),Inv X pins σ H s → t σ H Q → wpAny (model X.prog X.w) X.A (eval e X.env) (EP X pins σ Q) X.xe s
noncomputable def PT (X:Cx) (e:Expr) (t:TT) : Prop :=
  ∀ (pins : List (Addr × Obj)) (s:Shared) (σ : St) (H:Hp) (Q:Bool → Hp → Prop),Inv X pins σ H s → t σ H Q → wpAny (model X.prog X.w) X.A (isTrue e X.env (eval e X.env)) (TP X pins σ Q) X.xe s
noncomputable def PW (X:Cx) (e:Expr) (t:TT) : Prop :=
  ∀ (whole : Sem Value) (pins : List (Addr × Obj)) (s:Shared) (σ : St) (H:Hp) (Q:Bool → Hp → Prop),Inv X pins σ H s → t σ H Q → wpAny (model X.prog X.w) X.A (isTrue e X.env whole) (TP X pins σ Q) X.xe s
theorem PW.pt {X:Cx}{e:Expr}{t:TT} (h:PW X e t) : PT X e t := h _
noncomputable def PA (X:Cx) (es : List Expr) (t:TA) : Prop :=
  ∀ (pos : Pos) (pins : List (Addr × Obj)) (s:Shared) (σ : St) (H:Hp) (Q:List V → Hp → Prop),Inv X pins σ H s → t σ H Q → wpAny (model X.prog X.w) X.A (spliced (backTo pos (starEach es X.env))) (AP X pins σ Q) X.xe s
noncomputable def PS (X:Cx) (st : Stmt) (t:TS) : Prop :=
  ∀ (pins : List (Addr × Obj)) (s:Shared) (σ : St) (H:Hp) (D:Ends),Inv X pins σ H s → t D σ H → wpAny (model X.prog X.w) X.A (exec st X.env) (SP X pins D) X.xe s
noncomputable def PSs (X:Cx) (st : List Stmt) (t:TS) : Prop :=
  ∀ (pins : List (Addr × Obj)) (s:Shared) (σ : St) (H:Hp) (D:Ends),Inv X pins σ H s → t D σ H → wpAny (model X.prog X.w) X.A (execs st X.env) (SP X pins D) X.xe s
theorem thn {α : Type}{t:Sem α}{Q Q' : α → Shared → Prop}{M:Model}{A:Around}{E:Value → Shared → Prop}{s:Shared} (h:wpAny M A t Q E s) (hQ : ∀ a s,Q a s → Q' a s) : wpAny M A t Q' E s := wpAny_mono h hQ fun _ _ x => x
end L2
namespace L2
open PySem PySem.Spec PyProof.Rows
section
variable {X:Cx}
theorem bin {a b : Expr}{ta tb : TE} (ha : PE X a ta) (hb : PE X b tb) {pins : List (Addr × Obj)}{s:Shared}{σ : St}{H:Hp}{R:V → V → Hp → Prop} (I:Inv X pins σ H s) (h:ta σ H fun x H1 => tb σ H1 fun y H2 => R x y H2)
    {α : Type}{Q:α → Shared → Prop}{f:Value → Value → Sem α}
    (hf : ∀ v u s2 x y H2,Inv X pins σ H2 s2 → RelV x v → RelV y u → R x y H2 → wpAny (model X.prog X.w) X.A (f v u) Q X.xe s2) :
    wpAny (model X.prog X.w) X.A (eval a X.env) (fun v s₁ => wpAny (model X.prog X.w) X.A (eval b X.env) (fun u s₂ => wpAny (model X.prog X.w) X.A (f v u) Q X.xe s₂) X.xe s₁) X.xe s :=by
  refine thn (ha pins s σ H _ I h) fun v s1 qz => ?_
  obtain ⟨x,H1,I1,r1,q1⟩ := qz
  refine thn (hb pins s1 σ H1 _ I1 q1) fun u s2 qz => ?_
  obtain ⟨y,H2,I2,r2,q2⟩ := qz
  exact hf v u s2 x y H2 I2 r1 r2 q2
noncomputable def tVar (i:Nat) : TE := fun σ H Q => ∃ v,σ[i]? = some (some v) ∧ Q v H
noncomputable def tC (v:V) : TE := fun _ H Q => Q v H
theorem uw {i:Nat}{x:Str}{pos : Pos} (hN : X.N[i]? = some x) (hv : Vis X.env.scope x) (hd : (x == ("__debug__" : Str)) = false :=by decide) (hcd : (x == ("__classdict__" : Str)) = false :=by decide) : PE X (.Name x pos) (tVar i) :=by
  intro pins s σ H Q I h
  obtain ⟨v,e,h⟩ := h
  obtain ⟨m,hn,hl⟩ := I.loc
  obtain ⟨u,r,l⟩ := hl i x v hN e hv
  have fin : EP X pins σ Q u s := ⟨v,H,I,r,h⟩
  rcases l with ⟨hk,hm⟩ | ⟨hk,c,hc,hcell⟩
  · exact wpAny_Name (wpAny_loadName_local I.ok.kind hk hn hm fin) hd
  · rcases hk with hk | hk
    · exact wpAny_Name (wpAny_loadName_cell I.ok.kind hk hc hcell fin) hd
    · exact wpAny_Name (wpAny_loadName_free I.ok.kind hk hc hcell fin hcd) hd
theorem pe_int {i j pos} : PE X (.Constant (.int i) j pos) (tC (.int i)) := fun _ _ _ H _ I h => wpAny_Constant_int ⟨.int i,H,I.tok _,⟨_,rfl⟩,h⟩
theorem pe_bl {b j pos} : PE X (.Constant (.bool b) j pos) (tC (.bl b)) := fun _ _ _ H _ I h => Constant_bool ⟨.bl b,H,I,rfl,h⟩
theorem pe_non {j pos} : PE X (.Constant .none j pos) (tC .non) := fun _ _ _ H _ I h => Constant_none ⟨.non,H,I,rfl,h⟩
theorem pe_str {x j pos} : PE X (.Constant (.str x) j pos) (tC (.str x)) := fun _ _ _ H _ I h => Calls.Constant_str ⟨.str x,H,I.tok _,⟨_,rfl⟩,h⟩
noncomputable def Gl (X:Cx) (x:Str) : Prop := X.env.kindOf x = some .globalImplicit
theorem sT {E:Value → Shared → Prop}{pins : List (Addr × Obj)}{s:Shared}{σ : St}{H:Hp}{x:Str}{u:Value}{pos : Pos}{Q:Value → Shared → Prop} (I:Inv X pins σ H s) (hg : Gl X x) (hm : X.mg x = some u) (h:Q u s)
    (hd : (x == ("__debug__" : Str)) = false :=by decide) : wpAny (model X.prog X.w) X.A (eval (.Name x pos) X.env) Q E s :=
  Calls.Name_function_global I.ok.kind hg (Calls.loadGlobal_global (by rw [I.ok.glob]; exact I.mod.glob.keeps I.bk) hm h) hd
theorem dc {E:Value → Shared → Prop}{pins : List (Addr × Obj)}{s:Shared}{σ : St}{H:Hp}{x:Str}{u:Value}{pos : Pos}{Q:Value → Shared → Prop} (I:Inv X pins σ H s) (hg : Gl X x) (hm : X.mg x = none) (hv : bootBuiltins x = some u) (h:Q u s)
    (hn : x ≠ "__name__" := by decide) (hd : (x == ("__debug__" : Str)) = false :=by decide) : wpAny (model X.prog X.w) X.A (eval (.Name x pos) X.env) Q E s :=by
  obtain ⟨mb,h1,h2⟩ := I.mod.blt
  exact Calls.Name_function_global I.ok.kind hg (Calls.loadGlobal_builtin (by rw [I.ok.glob]; exact I.mod.glob.keeps I.bk) hm (by rw [I.ok.blt]; exact h1.keeps I.bk) ((h2 x hn).trans hv) h) hd
theorem sC {x:Str}{v:V}{u:Value}{pos : Pos} (hg : Gl X x) (hm : X.mg x = none) (hv : bootBuiltins x = some u) (r:RelV v u) (hn : x ≠ "__name__" := by decide) (hd : (x == ("__debug__" : Str)) = false :=by decide) : PE X (.Name x pos) (tC v) :=
  fun _ _ _ H _ I h => dc I hg hm hv ⟨v,H,I,r,h⟩ hn hd
variable {a b : Expr}{ta tb : TE}{pos : Pos}
noncomputable def PC (X:Cx) (op : CmpOp) (a b : Expr) (t:TE) : Prop :=
  ∀ (pins : List (Addr × Obj)) (s:Shared) (σ : St) (H:Hp) (Q:VK),Inv X pins σ H s → t σ H Q →
    wpAny (model X.prog X.w) X.A (eval a X.env) (fun v s₁ => wpAny (model X.prog X.w) X.A (eval b X.env) (fun u s₂ => wpAny (model X.prog X.w) X.A (compareOp op v u) (EP X pins σ Q) X.xe s₂) X.xe s₁) X.xe s
noncomputable def tB (t:TE) : TT := fun σ H Q => t σ H fun x H1 => ∃ c,x = .bl c ∧ Q c H1
theorem v8 {op : CmpOp}{t:TE} (h:PC X op a b t) (h1 : behindInMarks op b = false :=by first | exact nobehind _ (by decide) (by decide) | rfl) : PT X (.Compare a [op] [b] pos) (tB t) :=by
  intro pins s σ H Q I hw
  refine wpAny_isTrue_Compare1 (thn (h pins s σ H _ I hw) fun v s1 h1 => thn h1 fun u s2 h2 => thn h2 fun c s3 qz => ?_) h1
  obtain ⟨x,H1,I1,r1,q1⟩ := qz
  obtain ⟨d,rfl,q⟩ := q1
  cases r1
  exact wpAny_truthy_bool ⟨H1,I1,q⟩
theorem um {e:Expr}{t:TE} (h:PE X e t) (he : ∀ whole,isTrue e X.env whole = (do let v ← whole; standAt e.pos; holding [v] (truthy v)) :=by intro _; rfl) : PT X e (tB t) :=by
  intro pins s σ H Q I hw
  refine isTrue_plain (thn (h pins s σ H _ I hw) fun v s1 qz => ?_) (he _)
  obtain ⟨x,H1,I1,r1,q1⟩ := qz
  obtain ⟨d,rfl,q⟩ := q1
  cases r1
  exact wpAny_truthy_bool ⟨H1,I1,q⟩
variable {tA tB' : TT}{rest : List Expr}
noncomputable def tAnd (t u : TT) : TT := fun σ H Q => t σ H fun c H1 => if c = true then u σ H1 Q else Q false H1
noncomputable def tOr (t u : TT) : TT := fun σ H Q => t σ H fun c H1 => if c = true then Q true H1 else u σ H1 Q
noncomputable def tNot (t:TT) : TT := fun σ H Q => t σ H fun c H1 => Q (!c) H1
theorem sg (ha : PT X a tA) : PW X (.BoolOp .And [a] pos) tA :=by
  intro wh pins s σ H Q I h
  refine isTrue_and (thn (ha pins s σ H Q I h) fun c s1 e => ?_)
  cases c with
  | true => exact isTrue_and_nil e
  | false => exact e
theorem uk (ha : PT X a tA) : PW X (.BoolOp .Or [a] pos) tA :=by
  intro wh pins s σ H Q I h
  refine isTrue_or (thn (ha pins s σ H Q I h) fun c s1 e => ?_)
  cases c with
  | false => exact isTrue_or_nil e
  | true => exact e
theorem ul (ha : PT X a tA) (hb : PW X (.BoolOp .And (b :: rest) pos) tB') : PW X (.BoolOp .And (a :: b :: rest) pos) (tAnd tA tB') :=by
  intro wh pins s σ H Q I h
  refine isTrue_and (thn (ha pins s σ H _ I h) fun c s1 qz => ?_)
  obtain ⟨H1,I1,q1⟩ := qz
  cases c with
  | true => exact hb wh pins s1 σ H1 Q I1 q1
  | false => exact ⟨H1,I1,q1⟩
theorem vG (ha : PT X a tA) (hb : PW X (.BoolOp .Or (b :: rest) pos) tB') : PW X (.BoolOp .Or (a :: b :: rest) pos) (tOr tA tB') :=by
  intro wh pins s σ H Q I h
  refine isTrue_or (thn (ha pins s σ H _ I h) fun c s1 qz => ?_)
  obtain ⟨H1,I1,q1⟩ := qz
  cases c with
  | true => exact ⟨H1,I1,q1⟩
  | false => exact hb wh pins s1 σ H1 Q I1 q1
theorem uo (ha : PT X a tA) : PT X (.UnaryOp .Not a pos) (tNot tA) :=by
  intro pins s σ H Q I h
  exact isTrue_not (ha pins s σ H (fun c H1 => Q (!c) H1) I h)
noncomputable def tAndV (ta tb : TE) : TE := fun σ H Q => ta σ H fun x H1 => ∃ c,x = .bl c ∧ if c = true then tb σ H1 Q else Q (.bl false) H1
noncomputable def tOrV (ta tb : TE) : TE := fun σ H Q => ta σ H fun x H1 => ∃ c,x = .bl c ∧ if c = true then Q (.bl true) H1 else tb σ H1 Q
noncomputable def tNotV (ta : TE) : TE := fun σ H Q => ta σ H fun x H1 => ∃ c,x = .bl c ∧ Q (.bl (!c)) H1
theorem ux {op}{t:TE} (h:PE X a t) : PE X (.BoolOp op [a] pos) t := fun pins s σ H Q I hw => BoolOp_one (h pins s σ H Q I hw)
theorem uA (ha : PE X a ta) (hb : PE X (.BoolOp .And (b :: rest) pos) tb) : PE X (.BoolOp .And (a :: b :: rest) pos) (tAndV ta tb) :=by
  intro pins s σ H Q I h
  refine BoolOp_and (thn (ha pins s σ H _ I h) fun v s1 qz => ?_)
  obtain ⟨x,H1,I1,r1,q1⟩ := qz
  obtain ⟨c,rfl,q1⟩ := q1
  cases r1
  refine wpAny_truthy_bool ?_
  cases c with
  | true => exact hb pins s1 σ H1 Q I1 q1
  | false => exact ⟨.bl false,H1,I1,rfl,q1⟩
theorem vJ (ha : PE X a ta) (hb : PE X (.BoolOp .Or (b :: rest) pos) tb) : PE X (.BoolOp .Or (a :: b :: rest) pos) (tOrV ta tb) :=by
  intro pins s σ H Q I h
  refine BoolOp_or (thn (ha pins s σ H _ I h) fun v s1 qz => ?_)
  obtain ⟨x,H1,I1,r1,q1⟩ := qz
  obtain ⟨c,rfl,q1⟩ := q1
  cases r1
  refine wpAny_truthy_bool ?_
  cases c with
  | false => exact hb pins s1 σ H1 Q I1 q1
  | true => exact ⟨.bl true,H1,I1,rfl,q1⟩
theorem uy (ha : PE X a ta) : PE X (.UnaryOp .Not a pos) (tNotV ta) :=by
  intro pins s σ H Q I h
  refine UnaryOp_ (thn (ha pins s σ H _ I h) fun v s1 qz => ?_)
  obtain ⟨x,H1,I1,r1,q1⟩ := qz
  obtain ⟨c,rfl,q1⟩ := q1
  cases r1
  exact not_of (wpAny_truthy_bool ⟨.bl (!c),H1,I1,rfl,q1⟩)
noncomputable def tIf (t:TT) (ta tb : TE) : TE := fun σ H Q => t σ H fun c H1 => if c = true then ta σ H1 Q else tb σ H1 Q
theorem qx {c:Expr} (hc : PT X c tA) (ha : PE X a ta) (hb : PE X b tb) : PE X (.IfExp c a b pos) (tIf tA ta tb) :=by
  intro pins s σ H Q I h
  refine wpAny_IfExp (thn (hc pins s σ H _ I h) fun d s1 qz => ?_)
  obtain ⟨H1,I1,q1⟩ := qz
  cases d with
  | true => exact ha pins s1 σ H1 Q I1 q1
  | false => exact hb pins s1 σ H1 Q I1 q1
end
end L2
namespace L2
open PySem PySem.Spec PyProof.Rows
noncomputable def SqL (K:PySem.W.Frag) (H:Hp) (a:Addr) (xs : List V) : Prop :=
  Rd H a (.lst xs) ∨
    ∃ (o:Obj) (its : Array Value) (n:Nat),K.lookup a = some o ∧ o.cls = .type "list" ∧ o.dict = none ∧ o.data = .seq its n ∧ its.size ≤ sizeLine ∧ Vals xs its.toList
noncomputable def SqT (K:PySem.W.Frag) (H:Hp) (a:Addr) (xs : List V) : Prop :=
  Rd H a (.tup xs) ∨
    ∃ (o:Obj) (its : Array Value) (n:Nat),K.lookup a = some o ∧ o.cls = .type "tuple" ∧ o.data = .seq its n ∧ its.size ≤ sizeLine ∧ Vals xs its.toList
noncomputable def absV : Value → Option V
  | .none => some .non
  | .bool b => some (.bl b)
  | .int i _ => some (.int i)
  | .str x _ => some (.str x)
  | .bytes b _ => some (.byt b)
  | .float b _ => some (.flt b)
  | .ref a => some (.ref a)
  | .type n => some (.ty n)
  | _ => none
theorem RelV.abs {x:V}{u:Value} (r:RelV x u) : absV u = some x :=by
  cases x with
  | non => cases r; rfl
  | bl _ => cases r; rfl
  | int _ => obtain ⟨t,rfl⟩ := r; rfl
  | str _ => obtain ⟨t,rfl⟩ := r; rfl
  | byt _ => obtain ⟨t,rfl⟩ := r; rfl
  | flt _ => obtain ⟨t,rfl⟩ := r; rfl
  | ref _ => cases r; rfl
  | ty _ => cases r; rfl
theorem RelV.inj {x y : V}{u:Value} (r:RelV x u) (q:RelV y u) : x = y := Option.some.inj (r.abs.symm.trans q.abs)
theorem Vals.inj : ∀ {xs ys : List V}{us : List Value},Vals xs us → Vals ys us → xs = ys
  := by
  intro xs ys us h
  induction h generalizing ys with
  | nil => intro g; cases g; rfl
  | cons r t ih =>
    intro g
    cases g with
    | cons r' t' => rw [r.inj r',ih t']
section
variable {X:Cx}{pins : List (Addr × Obj)}{σ : St}{H:Hp}{s:Shared}{a:Addr}{xs ys : List V}
theorem SqL.of {K:PySem.W.Frag} (h:H a = some (.lst xs)) : SqL K H a xs := .inl (.inl h)
theorem SqT.of {K:PySem.W.Frag} (h:H a = some (.tup xs)) : SqT K H a xs := .inl (.inl h)
theorem Inv.list (I:Inv X pins σ H s) (h:SqL X.K H a xs) : ∃ its : List Value,Vals xs its ∧ PlainL s.heap a its.toArray ∧ xs.length ≤ sizeLine :=by
  rcases h with h | ⟨o,its,n,hk,hc,hd,hs,hz,r⟩
  · obtain ⟨z,its,n,r,e⟩ := h.ok I.hok
    exact ⟨its,r,⟨_,n,e,rfl,rfl,rfl⟩,z⟩
  · refine ⟨its.toList,r,⟨o,n,I.kIn a o hk,hc,hd,by simpa using hs⟩,?_⟩
    have e := r.length
    simp only [Array.length_toList] at e
    omega
theorem Inv.tuple (I:Inv X pins σ H s) (h:SqT X.K H a xs) : ∃ its : List Value,Vals xs its ∧ IsTup s.heap a its.toArray ∧ xs.length ≤ sizeLine :=by
  rcases h with h | ⟨o,its,n,hk,hc,hs,hz,r⟩
  · obtain ⟨z,its,r,p⟩ := h.ok I.hok
    exact ⟨its,r,p.1,z⟩
  · refine ⟨its.toList,r,⟨o,I.kIn a o hk,hc,n,by simpa using hs⟩,?_⟩
    have e := r.length
    simp only [Array.length_toList] at e
    omega
theorem Inv.list_inj (I:Inv X pins σ H s) (h:SqL X.K H a xs) (h' : SqL X.K H a ys) : xs = ys :=by
  obtain ⟨its,r,⟨o,n,e,_,_,d⟩,_⟩ := I.list h
  obtain ⟨its',r',⟨o',n',e',_,_,d'⟩,_⟩ := I.list h'
  rw [e] at e'; cases e'
  rw [d] at d'
  injection d' with d1 _
  have : its = its' :=by simpa using congrArg Array.toList d1
  subst this
  exact r.inj r'
theorem Inv.tuple_inj (I:Inv X pins σ H s) (h:SqT X.K H a xs) (h' : SqT X.K H a ys) : xs = ys :=by
  obtain ⟨its,r,⟨o,e,_,n,d⟩,_⟩ := I.tuple h
  obtain ⟨its',r',⟨o',e',_,n',d'⟩,_⟩ := I.tuple h'
  rw [e] at e'; cases e'
  rw [d] at d'
  injection d' with d1 _
  have : its = its' :=by simpa using congrArg Array.toList d1
  subst this
  exact r.inj r'
end
noncomputable abbrev Cx.wish (X:Cx) (E:Value → Shared → Prop) : Cx := { X with xe := E }
noncomputable abbrev Cx.nox (X:Cx) : Cx := X.wish fun _ _ => False
theorem Cx.Ok.wish {X:Cx} (ok : X.Ok) (E:Value → Shared → Prop) : (X.wish E).Ok :=
  ⟨ok.mod,ok.kind,ok.glob,ok.blt,ok.above,ok.inj,ok.has,ok.cab,ok.hd,ok.frames,ok.stk,ok.exf,ok.bs,ok.bsz,ok.noex,ok.exfs,ok.funs,ok.frf⟩
theorem Cx.Ok.unwish {X:Cx}{E:Value → Shared → Prop} (ok : (X.wish E).Ok) : X.Ok :=
  ⟨ok.mod,ok.kind,ok.glob,ok.blt,ok.above,ok.inj,ok.has,ok.cab,ok.hd,ok.frames,ok.stk,ok.exf,ok.bs,ok.bsz,ok.noex,ok.exfs,ok.funs,ok.frf⟩
section
variable {X:Cx}{pins : List (Addr × Obj)}{σ : St}{H:Hp}{s:Shared}{E:Value → Shared → Prop}
theorem Inv.wish (I:Inv X pins σ H s) (E:Value → Shared → Prop) : Inv (X.wish E) pins σ H s := ⟨I.ok.wish E,I.os,I.bare,I.base,I.loc,I.cell,I.free,I.freeC,I.pin,I.hok,I.len⟩
theorem Inv.unwish (I:Inv (X.wish E) pins σ H s) : Inv X pins σ H s := ⟨I.ok.unwish,I.os,I.bare,I.base,I.loc,I.cell,I.free,I.freeC,I.pin,I.hok,I.len⟩
theorem SP.unwish {D:Ends}{f:Flow}{s' : Shared} (h:SP (X.wish E) pins D f s') : SP X pins D f s' :=by
  cases f with
  | next => obtain ⟨σ',H',I,q⟩ := h; exact ⟨σ',H',I.unwish,q⟩
  | brk => obtain ⟨σ',H',I,q⟩ := h; exact ⟨σ',H',I.unwish,q⟩
  | cont => obtain ⟨σ',H',I,q⟩ := h; exact ⟨σ',H',I.unwish,q⟩
  | ret u => obtain ⟨v,σ',H',I,r,q⟩ := h; exact ⟨v,σ',H',I.unwish,r,q⟩
theorem PSs.nox {st : List Stmt}{t:TS} (h:PSs X.nox st t) : PSs X st t := fun pins s σ H D I hw =>
  wpAny_mono (h pins s σ H D (I.wish _) hw) (fun _ _ q => q.unwish) fun _ _ z => False.elim z
end
section
variable {X:Cx}{st : Stmt}{rest : List Stmt}{t u : TS}{e:Expr}{te : TE}{pos : Pos}
noncomputable def tNext : TS := fun D σ H => D.nx σ H
noncomputable def tSeq (t u : TS) : TS := fun D σ H => t { D with nx := u D } σ H
theorem pss_nil : PSs X [] tNext := fun _ _ σ H _ I h => wpAny_execs_nil ⟨σ,H,I,h⟩
theorem qj (h1 : PS X st t) (h2 : PSs X rest u) : PSs X (st :: rest) (tSeq t u) :=by
  intro pins s σ H D I h
  refine wpAny_execs_cons (thn (h1 pins s σ H { D with nx := u D } I h) fun f s1 q => ?_)
  cases f with
  | next =>
    obtain ⟨σ',H',I',q⟩ := q
    exact h2 pins s1 σ' H' D I' q
  | ret v => exact q
  | brk => exact q
  | cont => exact q
theorem sj (h1 : PS X st t) : PSs X [st] t :=by
  intro pins s σ H D I h
  refine wpAny_execs_cons (thn (h1 pins s σ H D I h) fun f s1 q => ?_)
  cases f with
  | next => exact wpAny_execs_nil q
  | ret v => exact q
  | brk => exact q
  | cont => exact q
theorem Inv.quiet {pins : List (Addr × Obj)}{σ : St}{H:Hp}{s:Shared} (I:Inv X pins σ H s) : interactive X.env = false :=by simp [interactive,I.ok.kind]
noncomputable def tDrop (te : TE) : TS := fun D σ H => te σ H fun _ H1 => D.nx σ H1
theorem sm (he : PE X e te) (hs : swapsWith e none pos.line X.env = pure false :=by rfl) : PS X (.Expr e pos) (tDrop te) :=by
  intro pins s σ H D I h
  exact wpAny_Expr_any (thn (he pins s σ H _ I h) fun v s1 ⟨x,H1,I1,r1,q1⟩ => ⟨σ,H1,I1,q1⟩) I.quiet hs
noncomputable def tRet (te : TE) : TS := fun D σ H => te σ H D.rt
theorem ur (he : PE X e te) : PS X (.Return (some e) pos) (tRet te) :=by
  intro pins s σ H D I h
  exact wpAny_Return_some (thn (he pins s σ H _ I h) fun v s1 ⟨x,H1,I1,r1,q1⟩ => ⟨x,σ,H1,I1,r1,q1⟩)
noncomputable def tIfS (c:TT) (t u : TS) : TS := fun D σ H => c σ H fun b H1 => if b = true then t D σ H1 else u D σ H1
theorem vH {c:Expr}{a b : List Stmt}{tc : TT} (hc : PT X c tc) (ha : PSs X a t) (hb : PSs X b u) : PS X (.If c a b pos) (tIfS tc t u) :=by
  intro pins s σ H D I h
  refine wpAny_If (thn (hc pins s σ H _ I h) fun d s1 qz => ?_)
  obtain ⟨H1,I1,q1⟩ := qz
  cases d with
  | true => exact ha pins s1 σ H1 D I1 q1
  | false => exact hb pins s1 σ H1 D I1 q1
end
noncomputable abbrev TG := V → St → Hp → (St → Hp → Prop) → Prop
noncomputable abbrev TGs := List V → St → Hp → (St → Hp → Prop) → Prop
noncomputable def PG (X:Cx) (target : Expr) (t:TG) : Prop :=
  ∀ (pins : List (Addr × Obj)) (s:Shared) (σ : St) (H:Hp) (v:V) (u:Value) (Q:St → Hp → Prop),Inv X pins σ H s → RelV v u → t v σ H Q →
    wpAny (model X.prog X.w) X.A (assign target X.env u) (fun _ s' => ∃ σ' H',Inv X pins σ' H' s' ∧ Q σ' H') X.xe s
noncomputable def PGs (X:Cx) (ts : List Expr) (t:TGs) : Prop :=
  ∀ (pins : List (Addr × Obj)) (s:Shared) (σ : St) (H:Hp) (vs : List V) (us : List Value) (Q:St → Hp → Prop),Inv X pins σ H s → Vals vs us → t vs σ H Q →
    wpAny (model X.prog X.w) X.A (assignInOrder ((assignEach ts X.env).map (·.2)) us) (fun _ s' => ∃ σ' H',Inv X pins σ' H' s' ∧ Q σ' H') X.xe s
noncomputable abbrev TSet := V → V → V → Hp → (Hp → Prop) → Prop
noncomputable def PSet (X:Cx) (t:TSet) : Prop :=
  ∀ (pins : List (Addr × Obj)) (s:Shared) (σ : St) (H:Hp) (o i v : V) (ov iv u : Value) (Q:Hp → Prop),Inv X pins σ H s → RelV o ov → RelV i iv → RelV v u → t o i v H Q →
    wpAny (model X.prog X.w) X.A (setItem ov iv u) (fun _ s' => ∃ H',Inv X pins σ H' s' ∧ Q H') X.xe s
section
variable {X:Cx}{pos : Pos}
noncomputable def gName (i:Nat) : TG := fun v σ H Q => Q (σ.set i (some v)) H
theorem ax {i:Nat}{x:Str} (hN : X.N.Nodup) (hi : X.N[i]? = some x) (hx : Loc X.env.scope x) (hf : X.fn x = true ∨ X.env.scope.names.lookup x = some .local :=by first | exact .inl rfl | exact .inr rfl | assumption) : PG X (.Name x pos) (gName i) :=by
  intro pins s σ H v u Q I r h
  exact wpAny_assign_Name (kX I hN hi hx r (fun s' I' => ⟨_,H,I',h⟩) hf)
noncomputable def gNil : TGs := fun vs σ H Q => vs = [] ∧ Q σ H
noncomputable def gCons (t:TG) (u:TGs) : TGs := fun vs σ H Q => ∃ v r,vs = v :: r ∧ t v σ H fun σ' H' => u r σ' H' Q
theorem dH : PGs X [] gNil :=by
  intro pins s σ H vs us Q I r h
  obtain ⟨e,h⟩ := h
  subst e
  cases r
  exact assignInOrder_nil ⟨σ,H,I,h⟩
theorem aQ {e:Expr}{es : List Expr}{t:TG}{u:TGs} (h1 : PG X e t) (h2 : PGs X es u)
    (hs : (assignEach (e :: es) X.env).map (·.2) = assign e X.env :: (assignEach es X.env).map (·.2) :=by rfl) : PGs X (e :: es) (gCons t u) :=by
  intro pins s σ H vs us Q I r h
  obtain ⟨v,vr,e1,h⟩ := h
  subst e1
  cases r with
  | cons r rr =>
    rw [hs]
    refine assignInOrder_cons (thn (h1 pins s σ H _ _ _ I r h) fun _ s1 qz => ?_)
    obtain ⟨σ1,H1,I1,q1⟩ := qz
    exact h2 pins s1 σ1 H1 _ _ Q I1 rr q1
noncomputable def gTup (K:PySem.W.Frag) (n:Nat) (t:TGs) : TG := fun v σ H Q => ∃ a xs,v = .ref a ∧ SqT K H a xs ∧ xs.length = n ∧ t xs σ H Q
theorem eS {es : List Expr}{k:Nat}{t:TGs}{n:Nat} (hc : X.calm = true) (h:PGs X es t)
    (hn : (assignEach es X.env).length = n :=by rfl) (hst : (assignEach es X.env).findIdx? (·.1) = none :=by rfl) : PG X (.Tuple es k pos) (gTup X.K n t) :=by
  intro pins s σ H v u Q I r hw
  obtain ⟨a,xs,e1,hq,hl,hw⟩ := hw
  subst e1
  cases r
  obtain ⟨its,rv,ht,hz⟩ := I.tuple hq
  refine assign_Tuple_tuple (I.ok.hd hc) ht (by simp [hn,← hl,rv.length]) hst fun h' hx => ?_
  have I1 : Inv X pins σ H { s with heap := h' } := I.kept (t' := s.toks) fun b o e => hx b o (Nat.ne_of_lt (Heap.lt_size e)) e
  exact h pins _ σ H xs _ Q I1 (by simpa using rv) hw
noncomputable def gSub (to ti : TE) (t:TSet) : TG := fun v σ H Q => to σ H fun o H1 => ti σ H1 fun i H2 => t o i v H2 fun H3 => Q σ H3
theorem qp {o i : Expr}{to ti : TE}{t:TSet} (ho : PE X o to) (hi : PE X i ti) (hs : PSet X t)
    (ha : ∀ v,assign (.Subscript o i pos) X.env v = (do
      let ov ← holding [v] (eval o X.env)
      let iv ← holding [v,ov] (eval i X.env)
      standAt pos
      holding [v,ov,iv] (setItem ov iv v)
      release [v,ov,iv] []) :=by intro _; rfl) : PG X (.Subscript o i pos) (gSub to ti t) :=by
  intro pins s σ H v u Q I r h
  rw [ha]
  refine wpAny_bind (wpAny_holding (thn (ho pins s σ H _ I h) fun ov s1 qz => ?_))
  obtain ⟨x,H1,I1,r1,q1⟩ := qz
  refine wpAny_bind (wpAny_holding (thn (hi pins s1 σ H1 _ I1 q1) fun iv s2 qz => ?_))
  obtain ⟨y,H2,I2,r2,q2⟩ := qz
  refine wpAny_bind (wpAny_standAt (wpAny_bind (wpAny_holding (thn (hs pins s2 σ H2 x y v ov iv u _ I2 r1 r2 r q2) fun _ s3 qz => ?_))))
  obtain ⟨H3,I3,q3⟩ := qz
  exact wpAny_release ⟨σ,H3,I3,q3⟩
noncomputable def tAsg (te : TE) (g:TG) : TS := fun D σ H => te σ H fun x H1 => g x σ H1 D.nx
theorem qk {tg e : Expr}{te : TE}{g:TG} (he : PE X e te) (hg : PG X tg g) (hs : swapsWithSole [tg] e pos.line X.env = pure false :=by rfl) (hw : swappedStores [tg] e X.env = pure none :=by rfl)
    (h1 : (assignEach [tg] X.env).map (·.2) = [assign tg X.env] :=by rfl) : PS X (.Assign [tg] e pos) (tAsg te g) :=by
  intro pins s σ H D I h
  refine wpAny_Assign_stores (thn (he pins s σ H _ I h) fun v s1 qz => ?_) hs hw
  obtain ⟨x,H1,I1,r1,q1⟩ := qz
  rw [h1]
  exact thn (hg pins s1 σ H1 x v _ I1 r1 q1) fun _ s2 q => q
theorem uq {i:Nat}{x:Str}{e:Expr}{te : TE}{pos' : Pos} (hN : X.N.Nodup) (hi : X.N[i]? = some x) (hx : Loc X.env.scope x) (he : PE X e te) (hs : swapsWith e (some (.Name x pos')) pos.line X.env = pure false :=by rfl) (hf : X.fn x = true ∨ X.env.scope.names.lookup x = some .local :=by first | exact .inl rfl | exact .inr rfl | assumption) :
    PS X (.Assign [.Name x pos'] e pos) (tAsg te (gName i)) :=by
  intro pins s σ H D I h
  refine wpAny_Assign_Name (thn (he pins s σ H _ I h) fun v s1 qz => ?_) hs
  obtain ⟨y,H1,I1,r1,q1⟩ := qz
  exact kX I1 hN hi hx r1 (fun s2 I2 => ⟨_,H1,I2,q1⟩) hf
end
section
variable {X:Cx}{pos : Pos}
end
structure It where
  go : Nat → Hp → Prop
  yld : Nat → Hp → V → Hp → Prop
  stop : Nat → Hp → Prop
noncomputable def FpOk (X:Cx) (pins : List (Addr × Obj)) (H:Hp) (b:Addr) : Prop :=
  H b = none ∧ b ≠ X.env.locals ∧ b ∉ X.fs ∧ (b ∈ X.ex ∨ X.s₀.heap.objs.size ≤ b) ∧ (∀ x c,X.env.cells.lookup x = some c → c ≠ b) ∧ ∀ p ∈ X.pn ++ pins,p.1 ≠ b
theorem Inv.fpOk {X:Cx}{pins : List (Addr × Obj)}{σ : St}{H H' : Hp}{s:Shared}{b:Addr} (I:Inv X pins σ H s) (hb : s.heap.objs.size ≤ b) (hn : H' b = none) : FpOk X pins H' b :=by
  refine ⟨hn,Nat.ne_of_gt (Nat.lt_of_lt_of_le I.lt hb),I.nofs hb,.inr (Nat.le_trans I.sz hb),fun x c e z => ?_,fun p hp z => ?_⟩
  · obtain ⟨v,q⟩ := I.cell x c e
    exact absurd (Nat.lt_of_lt_of_le q.lt (by rw [z]; exact hb)) (Nat.lt_irrefl _)
  · exact absurd (Nat.lt_of_lt_of_le (Heap.lt_size (I.pin p hp).1) (by rw [z]; exact hb)) (Nat.lt_irrefl _)
structure Turn (P:Program) (w:World) (K:PySem.W.Frag) (tg : Expr) (J:It) (fp : List Addr) (it : Addr) (tn : Nat → Heap → Prop) : Prop where
  mem : it ∈ fp
  obj : ∀ i h,tn i h → ∀ b ∈ fp,∃ o,h.get? b = some o ∧ ∀ v,o.data ≠ .cell v
  keep : ∀ i h h',tn i h → (∀ b ∈ fp,∀ o,h.get? b = some o → h'.get? b = some o) → tn i h'
  item : ∀ (X:Cx),X.prog = P → X.w = w → X.K = K → X.calm = true → ∀ (i:Nat) (pins : List (Addr × Obj)) (s:Shared) (σ : St) (H:Hp) (E:Value → Shared → Prop),Inv X pins σ H s → (∀ b ∈ fp,FpOk X pins H b) → tn i s.heap → J.go i H →
    wpAny (model P w) X.A (pyNext (.ref it)) (fun r s1 => ∃ u,r = some u ∧
      wpAny (model P w) X.A (letOwnedTupleGo tg (.ref it) u) (fun _ s2 => ∃ x H',Inv X pins σ H' s2 ∧ RelV x u ∧ J.yld i H x H' ∧ tn (i + 1) s2.heap ∧ ∀ b ∈ fp,H' b = none) E s1) E s
  done : ∀ (X:Cx),X.prog = P → X.w = w → X.K = K → X.calm = true → ∀ (i:Nat) (pins : List (Addr × Obj)) (s:Shared) (σ : St) (H:Hp) (E:Value → Shared → Prop),Inv X pins σ H s → (∀ b ∈ fp,FpOk X pins H b) → tn i s.heap → J.stop i H →
    wpAny (model P w) X.A (pyNext (.ref it)) (fun r s1 => r = none ∧ Inv X pins σ H s1) E s
  self : ∀ (A:Around) (i:Nat) (s:Shared) (Q:Value → Shared → Prop) (E:Value → Shared → Prop),tn i s.heap → Q (.ref it) s → wpAny (model P w) A (pyIter (.ref it)) Q E s
noncomputable abbrev TI := St → Hp → (It → Hp → Prop) → Prop
noncomputable def PIE (X:Cx) (pins : List (Addr × Obj)) (σ : St) (tg : Expr) (R:It → Hp → Prop) (itv : Value) (s2 : Shared) : Prop :=
  ∃ (it : Addr) (fp : List Addr) (tn : Nat → Heap → Prop) (J:It) (H' : Hp),itv = .ref it ∧ Inv X pins σ H' s2 ∧ Turn X.prog X.w X.K tg J fp it tn ∧ tn 0 s2.heap ∧ (∀ b ∈ fp,FpOk X pins H' b) ∧ R J H'
noncomputable def PI (X:Cx) (tg iter : Expr) (wi : TI) : Prop :=
  ∀ (pins : List (Addr × Obj)) (s:Shared) (σ : St) (H:Hp) (R:It → Hp → Prop),Inv X pins σ H s → wi σ H R →
    wpAny (model X.prog X.w) X.A (eval iter X.env) (fun v s1 => wpAny (model X.prog X.w) X.A (pyIter v) (PIE X pins σ tg R) X.xe s1) X.xe s
theorem rA {M:Model}{A:Around}{E:Value → Shared → Prop}{s:Shared}{tg : Expr}{it : Addr}{u:Value}{o:Obj}{n:String}{vs : Array Value}{Q:Unit → Shared → Prop} (ho : s.heap.get? it = some o) (hc : o.cls = .type n) (hd : o.data = .fields vs)
    (hn : ["enumerate", "zip", "dict_itemiterator", "dict_reverseitemiterator", "odict_iterator", "itertools.zip_longest", "itertools.pairwise"].contains n = false) (hQ : Q () s) : wpAny M A (letOwnedTupleGo tg (.ref it) u) Q E s :=by
  unfold letOwnedTupleGo
  cases tg <;> first
    | exact wpAny_pure hQ
    | (cases u <;> first
        | exact wpAny_pure hQ
        | (refine wpAny_bind (wpAny_load ho ?_)
           rw [hc,hd]
           show wpAny M A (if (["enumerate", "zip", "dict_itemiterator", "dict_reverseitemiterator", "odict_iterator", "itertools.zip_longest", "itertools.pairwise"].contains n && vs[0]? == some (rawInt _)) = true then _ else _) Q E s
           rw [if_neg (by intro h; rw [hn,Bool.false_and] at h; cases h)]
           exact wpAny_pure hQ))
noncomputable def Itl (K:PySem.W.Frag) (a:Addr) : It :=
  ⟨fun i H => ∃ xs x,SqL K H a xs ∧ xs[i]? = some x,fun i H x H' => H' = H ∧ ∀ xs,SqL K H a xs → xs[i]? = some x,fun i H => ∃ xs,SqL K H a xs ∧ xs.length ≤ i⟩
noncomputable def Itt (K:PySem.W.Frag) (a:Addr) : It :=
  ⟨fun i H => ∃ xs x,SqT K H a xs ∧ xs[i]? = some x,fun i H x H' => H' = H ∧ ∀ xs,SqT K H a xs → xs[i]? = some x,fun i H => ∃ xs,SqT K H a xs ∧ xs.length ≤ i⟩
noncomputable def Itr (lo : Int) (n:Nat) : It := ⟨fun i _ => i < n,fun i H x H' => H' = H ∧ x = .int (lo + i),fun i _ => n ≤ i⟩
theorem oK {P:Program}{w:World}{K:PySem.W.Frag}{tg : Expr} (a it : Addr) : Turn P w K tg (Itl K a) [it] it (fun i h => h.IsListIter it a i) where
  mem :=by simp
  obj := fun i h st b hb => by
    have e : b = it :=by simpa using hb
    subst e
    obtain ⟨o,e,c,d⟩ := st
    exact ⟨o,e,fun v z => by rw [d] at z; cases z⟩
  keep := fun i h h' st k => st.at fun o e => k it (by simp) o e
  item :=by
    intro X hP hw hK hc i pins s σ H E I hf st hg
    subst hP hw hK
    obtain ⟨xs,x,hq,hx⟩ := hg
    obtain ⟨its,rv,p,hz⟩ := I.list hq
    obtain ⟨u,hu,ru⟩ := rv.get hx
    obtain ⟨f0,f1,f2,f3,f4,f5⟩ := hf it (by simp)
    refine wpAny_pyNext_list_item st p.isList (x := u) (by simpa using hu) fun h' st' sb => ?_
    have I1 : Inv X pins σ H { s with heap := h' } := I.turned (t' := s.toks) (fun b o hb e => (sb.2 b hb).trans e) f0 f1 f3 f4 f5
    obtain ⟨o,e,c,d⟩ := id st'
    exact ⟨u,rfl,rA (s := { s with heap := h' }) e c d (by decide) ⟨x,H,I1,ru,⟨rfl,fun ys hy => by rw [I.list_inj hy hq]; exact hx⟩,st',fun b hb => (hf b hb).1⟩⟩
  done :=by
    intro X hP hw hK hc i pins s σ H E I hf st hg
    subst hP hw hK
    obtain ⟨xs,hq,hx⟩ := hg
    obtain ⟨its,rv,p,hz⟩ := I.list hq
    obtain ⟨f0,f1,f2,f3,f4,f5⟩ := hf it (by simp)
    have hl := rv.length
    exact wpAny_pyNext_list_end (I.ok.hd hc) st p.isList (by simp; omega) fun h' eb => ⟨rfl,I.turned (t' := s.toks) (fun b o hb e => eb b o hb e) f0 f1 f3 f4 f5⟩
  self := fun _ _ _ _ _ st h => wpAny_pyIter_listiter st h
theorem mn {P:Program}{w:World}{K:PySem.W.Frag}{tg : Expr} (a it : Addr) : Turn P w K tg (Itt K a) [it] it (fun i h => h.IsTupleIter it a i) where
  mem :=by simp
  obj := fun i h st b hb => by
    have e : b = it :=by simpa using hb
    subst e
    obtain ⟨o,e,c,d⟩ := st
    exact ⟨o,e,fun v z => by rw [d] at z; cases z⟩
  keep := fun i h h' st k => st.at fun o e => k it (by simp) o e
  item :=by
    intro X hP hw hK hc i pins s σ H E I hf st hg
    subst hP hw hK
    obtain ⟨xs,x,hq,hx⟩ := hg
    obtain ⟨its,rv,p,hz⟩ := I.tuple hq
    obtain ⟨u,hu,ru⟩ := rv.get hx
    obtain ⟨f0,f1,f2,f3,f4,f5⟩ := hf it (by simp)
    refine wpAny_pyNext_tuple_item st (show s.heap.IsTuple a its.toArray from p) (x := u) (by simpa using hu) fun h' st' sb => ?_
    have I1 : Inv X pins σ H { s with heap := h' } := I.turned (t' := s.toks) (fun b o hb e => (sb.2 b hb).trans e) f0 f1 f3 f4 f5
    obtain ⟨o,e,c,d⟩ := id st'
    exact ⟨u,rfl,rA (s := { s with heap := h' }) e c d (by decide) ⟨x,H,I1,ru,⟨rfl,fun ys hy => by rw [I.tuple_inj hy hq]; exact hx⟩,st',fun b hb => (hf b hb).1⟩⟩
  done :=by
    intro X hP hw hK hc i pins s σ H E I hf st hg
    subst hP hw hK
    obtain ⟨xs,hq,hx⟩ := hg
    obtain ⟨its,rv,p,hz⟩ := I.tuple hq
    obtain ⟨f0,f1,f2,f3,f4,f5⟩ := hf it (by simp)
    have hl := rv.length
    exact wpAny_pyNext_tuple_end (I.ok.hd hc) st (show s.heap.IsTuple a its.toArray from p) (by simp; omega) fun h' eb => ⟨rfl,I.turned (t' := s.toks) (fun b o hb e => eb b o hb e) f0 f1 f3 f4 f5⟩
  self := fun _ _ _ _ _ st h => wpAny_pyIter_tupleiter st h
theorem mo {P:Program}{w:World}{K:PySem.W.Frag}{tg : Expr} (it : Addr) (lo : Int) (n:Nat) : Turn P w K tg (Itr lo n) [it] it (fun i h => IsRangeIter h it (lo + (i:Nat) * 1) ((n:Int) - (i:Nat)) 1) where
  mem :=by simp
  obj := fun i h st b hb => by
    have e : b = it :=by simpa using hb
    subst e
    exact ⟨_,st,fun v z => by
      have z' : Data.fields _ = Data.cell v := z
      cases z'⟩
  keep := fun i h h' st k => k it (by simp) _ st
  item :=by
    intro X hP hw hK hc i pins s σ H E I hf st hg
    subst hP hw hK
    obtain ⟨f0,f1,f2,f3,f4,f5⟩ := hf it (by simp)
    have W := Walks.range (prog := X.prog) (w := X.w) (I.ok.hd hc) it lo 1 n
    refine W.item i s _ _ hg st fun v h' tk hv st' kk => ?_
    obtain ⟨t,rfl⟩ := hv
    have I1 : Inv X pins σ H { s with heap := h',toks := tk } := I.turned (fun b o hb e => kk b o (by simpa using hb) e) f0 f1 f3 f4 f5
    refine ⟨_,rfl,rA (s := { s with heap := h',toks := tk }) (n := "range_iterator") st' rfl rfl (by decide) ⟨.int (lo + i),H,I1,⟨t,?_⟩,⟨rfl,rfl⟩,st',fun b hb => (hf b hb).1⟩⟩
    rw [Int.mul_one]
  done :=by
    intro X hP hw hK hc i pins s σ H E I hf st hg
    subst hP hw hK
    obtain ⟨f0,f1,f2,f3,f4,f5⟩ := hf it (by simp)
    exact wpAny_pyNext_range_end (I.ok.hd hc) st (by have : n ≤ i := hg; omega) fun h' eb => ⟨rfl,I.turned (t' := s.toks) (fun b o hb e => eb b o hb e) f0 f1 f3 f4 f5⟩
  self := fun _ _ _ _ _ st h => wpAny_pyIter_rangeiter st h
end L2
namespace L2
open PySem PySem.Spec PyProof.Rows
section
variable {X:Cx}{tg : Expr}
noncomputable def iList (K:PySem.W.Frag) (tl : TE) : TI := fun σ H R => tl σ H fun x H1 => ∃ a,x = .ref a ∧ (∃ xs,SqL K H1 a xs) ∧ R (Itl K a) H1
noncomputable def iTup (K:PySem.W.Frag) (tl : TE) : TI := fun σ H R => tl σ H fun x H1 => ∃ a,x = .ref a ∧ (∃ xs,SqT K H1 a xs) ∧ R (Itt K a) H1
theorem su {l:Expr}{tl : TE} (hl : PE X l tl) : PI X tg l (iList X.K tl) :=by
  intro pins s σ H R I h
  refine thn (hl pins s σ H _ I h) fun v s1 qz => ?_
  obtain ⟨x,H1,I1,r1,q1⟩ := qz
  obtain ⟨a,e,⟨xs,hq⟩,q⟩ := q1
  subst e
  cases r1
  obtain ⟨its,rv,p,hz⟩ := I1.list hq
  refine wpAny_pyIter_list p.isList ?_
  refine ⟨s1.heap.objs.size,[s1.heap.objs.size],_,_,H1,rfl,I1.kept (t' := s1.toks) fun b o e => Heap.get?_push_of_some _ e,oK a _,⟨_,Heap.get?_push_size _ rfl,rfl,rfl⟩,fun b hb => ?_,q⟩
  have e : b = s1.heap.objs.size :=by simpa using hb
  subst e
  exact I1.fpOk (Nat.le_refl _) (I1.hok.fresh (Nat.le_refl _))
theorem uv {l:Expr}{tl : TE} (hl : PE X l tl) : PI X tg l (iTup X.K tl) :=by
  intro pins s σ H R I h
  refine thn (hl pins s σ H _ I h) fun v s1 qz => ?_
  obtain ⟨x,H1,I1,r1,q1⟩ := qz
  obtain ⟨a,e,⟨xs,hq⟩,q⟩ := q1
  subst e
  cases r1
  obtain ⟨its,rv,p,hz⟩ := I1.tuple hq
  refine wpAny_pyIter_tuple (show s1.heap.IsTuple a its.toArray from p) ?_
  refine ⟨s1.heap.objs.size,[s1.heap.objs.size],_,_,H1,rfl,I1.kept (t' := s1.toks) fun b o e => Heap.get?_push_of_some _ e,mn a _,⟨_,Heap.get?_push_size _ rfl,rfl,rfl⟩,fun b hb => ?_,q⟩
  have e : b = s1.heap.objs.size :=by simpa using hb
  subst e
  exact I1.fpOk (Nat.le_refl _) (I1.hok.fresh (Nat.le_refl _))
theorem ll {pins : List (Addr × Obj)}{σ : St}{H:Hp}{s:Shared}{R:It → Hp → Prop}{E:Value → Shared → Prop}{lo hi : Int}{t u v : Tok}{tk : Nat} (I:Inv X pins σ H s) (h1 : -(2 ^ 62) ≤ lo) (h2 : lo < 2 ^ 62) (h3 : -(2 ^ 62) ≤ hi) (h4 : hi < 2 ^ 62)
    (q:R (Itr lo (hi - lo).toNat) H) : wpAny (model X.prog X.w) X.A (pyIter (.ref s.heap.objs.size)) (PIE X pins σ tg R) E { s with heap := s.heap.push { cls := .type "range",data := .fields #[.int lo t,.int hi u,.int 1 v] },toks := tk } :=by
  refine wpAny_pyIter_range (IsRange.new ..) (small_one h1 h2 h3 h4) ?_
  have I1 : Inv X pins σ H { s with heap := s.heap.push { cls := .type "range",data := .fields #[.int lo t,.int hi u,.int 1 v] },toks := tk } := I.kept fun b o e => Heap.get?_push_of_some _ e
  refine ⟨(s.heap.push { cls := .type "range",data := .fields #[.int lo t,.int hi u,.int 1 v] }).objs.size,[(s.heap.push { cls := .type "range",data := .fields #[.int lo t,.int hi u,.int 1 v] }).objs.size],_,_,H,rfl,
    I1.kept (t' := tk) fun b o e => Heap.get?_push_of_some _ e,mo _ lo (hi - lo).toNat,?_,fun b hb => ?_,q⟩
  · have e1 : lo + ((0 : Nat) : Int) * 1 = lo :=by simp
    have e2 : (((hi - lo).toNat : Nat) : Int) - ((0 : Nat) : Int) = Builtin.Range.rangeSize lo hi 1 :=by rw [rangeSize_one]; split <;> omega
    show IsRangeIter _ _ (lo + ((0 : Nat) : Int) * 1) ((((hi - lo).toNat : Nat) : Int) - ((0 : Nat) : Int)) 1
    rw [e1,e2]
    exact Heap.get?_push_size _ rfl
  · have e : b = (s.heap.push { cls := .type "range",data := .fields #[.int lo t,.int hi u,.int 1 v] }).objs.size :=by simpa using hb
    subst e
    exact I1.fpOk (Nat.le_refl _) (I1.hok.fresh (Nat.le_refl _))
noncomputable def iRng1 (ta : TA) : TI := fun σ H R => ta σ H fun vs H1 => ∃ j : Int,vs = [.int j] ∧ -(2 ^ 62) ≤ j ∧ j < 2 ^ 62 ∧ R (Itr 0 j.toNat) H1
noncomputable def iRng2 (ta : TA) : TI := fun σ H R => ta σ H fun vs H1 => ∃ i j : Int,vs = [.int i,.int j] ∧ (-(2 ^ 62) ≤ i ∧ i < 2 ^ 62 ∧ -(2 ^ 62) ≤ j ∧ j < 2 ^ 62) ∧ R (Itr i (j - i).toNat) H1
theorem oU {a:Expr}{ta : TA}{p pos : Pos} (hg : Gl X "range") (hm : X.mg "range" = none) (ha : PA X [a] ta) (hs : starEach [a] X.env = [(false,eval a X.env)] :=by rfl) : PI X tg (.Call (.Name "range" p) [a] [] pos) (iRng1 ta) :=by
  intro pins s σ H R I h
  refine Call_ (dc I hg hm boot_range (PyProof.Rows.callWith_type1 (thn (ha pos pins s σ H _ I h) fun us s1 qz => ?_) hs rfl))
  obtain ⟨vs,H1,I1,r1,q1⟩ := qz
  obtain ⟨j,e,q1,q2,q⟩ := q1
  subst e
  cases r1 with
  | cons r rr =>
    cases rr
    obtain ⟨t,rfl⟩ := r
    exact call_range_1 (ll I1 (by omega) (by omega) q1 q2 (by simpa using q))
theorem oT {a b : Expr}{ta : TA}{p pos : Pos} (hg : Gl X "range") (hm : X.mg "range" = none) (ha : PA X [a,b] ta) (hs : starEach [a,b] X.env = [(false,eval a X.env),(false,eval b X.env)] :=by rfl) (hs2 : starEach [b] X.env = [(false,eval b X.env)] :=by rfl) :
    PI X tg (.Call (.Name "range" p) [a,b] [] pos) (iRng2 ta) :=by
  intro pins s σ H R I h
  refine Call_ (dc I hg hm boot_range (PyProof.Rows.callWith_type1 (thn (ha pos pins s σ H _ I h) fun us s1 qz => ?_) (by rw [hs,hs2]) (by rw [hs2]; rfl)))
  obtain ⟨vs,H1,I1,r1,q1⟩ := qz
  obtain ⟨i,j,e,⟨q1,q2,q3,q4⟩,q⟩ := q1
  subst e
  cases r1 with
  | cons r rr =>
    cases rr with
    | cons r' rr =>
      cases rr
      obtain ⟨t,rfl⟩ := r
      obtain ⟨t',rfl⟩ := r'
      exact call_range_2 (ll I1 q1 q2 q3 q4 q)
noncomputable def tFor (wi : TI) (g:TG) (tb : TS) : TS := fun D σ H => wi σ H fun J H1 => ∃ W : Nat → Nat → St → Hp → Prop,(∃ m,W 0 m σ H1) ∧ ∀ i m σ H,W i m σ H →
  (J.stop i H ∧ D.nx σ H) ∨ (J.go i H ∧ ∃ N : St → Hp → Prop,(∀ σ' H',N σ' H' → ∃ m',m' < m ∧ W (i + 1) m' σ' H') ∧ ∀ x H',J.yld i H x H' → g x σ H' fun σ2 H2 => tb { D with nx := N,ct := N,bk := D.nx } σ2 H2)
noncomputable def iP (fp : List Addr) (h:Heap) : List (Addr × Obj) := fp.filterMap fun b => (h.get? b).map fun o => (b,o)
theorem fM {fp : List Addr}{h:Heap}{b:Addr}{o:Obj} (hb : b ∈ fp) (e:h.get? b = some o) : (b,o) ∈ iP fp h := List.mem_filterMap.mpr ⟨b,hb,by rw [e]; rfl⟩
theorem o3 {fp : List Addr}{h:Heap}{p:Addr × Obj} (hp : p ∈ iP fp h) : p.1 ∈ fp ∧ h.get? p.1 = some p.2 :=by
  obtain ⟨b,hb,e⟩ := List.mem_filterMap.mp hp
  cases q : h.get? b with
  | none => rw [q] at e; cases e
  | some o =>
    rw [q] at e
    have e' : (b,o) = p := Option.some.inj e
    subst e'
    exact ⟨hb,q⟩
theorem Inv.pinned {pins : List (Addr × Obj)}{σ : St}{H:Hp}{s:Shared}{fp : List Addr} (I:Inv X pins σ H s) (hf : ∀ b ∈ fp,FpOk X pins H b) (ho : ∀ b ∈ fp,∃ o,s.heap.get? b = some o ∧ ∀ v,o.data ≠ .cell v) : Inv X (pins ++ iP fp s.heap) σ H s :=
  I.pins_of fun p hp => (List.mem_append.mp hp).elim (fun z => I.pin p (List.mem_append_right _ z)) fun z => by
    obtain ⟨hb,e⟩ := o3 z
    obtain ⟨f0,f1,f2,_⟩ := hf p.1 hb
    obtain ⟨o,e',d⟩ := ho p.1 hb
    rw [e] at e'; cases e'
    exact ⟨e,f0,f1,f2,d⟩
theorem Inv.unpinned {pins pl : List (Addr × Obj)}{σ : St}{H:Hp}{s:Shared} (I:Inv X (pins ++ pl) σ H s) : Inv X pins σ H s := I.pins_of fun p hp => I.pin p (List.mem_append_right _ (List.mem_append_left _ hp))
theorem ut {iter : Expr}{body : List Stmt}{wi : TI}{g:TG}{tb : TS}{pos : Pos} (hp : PassesOwn (model X.prog X.w) X.A X.env X.xe) (hc : X.calm = true) (hi : PI X tg iter wi) (hg : PG X tg g) (hb : PSs X body tb)
    (hs : ∀ x,foldedSetIterable iter X.env x = pure x :=by intro _; rfl) : PS X (.For tg iter body [] pos) (tFor wi g tb) :=by
  intro pins s σ H D I h
  refine wpAny_For (thn (hi pins s σ H _ I h) fun v s1 h1 => thn h1 fun itv s2 h2 => ?_) hs
  obtain ⟨it,fp,tn,J,H2,e,I2,T,st2,f2,W,⟨m0,w0⟩,turn⟩ := h2
  subst e
  have stat : ∀ {H' : Hp},(∀ b ∈ fp,H' b = none) → ∀ b ∈ fp,FpOk X pins H' b := fun hn b hb => ⟨hn b hb,(f2 b hb).2⟩
  refine codeAny_forLoop_any (fun n s' => ∃ i σ' H',Inv X pins σ' H' s' ∧ tn i s'.heap ∧ (∀ b ∈ fp,H' b = none) ∧ W i n σ' H') ?_ m0 ⟨0,σ,H2,I2,st2,fun b hb => (f2 b hb).1,w0⟩
  rintro n s3 ⟨i,σ3,H3,I3,st3,fr3,w3⟩
  rcases turn i n σ3 H3 w3 with ⟨stop,qn⟩ | ⟨go,N,hN,step⟩
  · refine wpAny_passesOwn hp (thn (T.done X rfl rfl rfl hc i pins s3 σ3 H3 X.xe I3 (stat fr3) st3 stop) fun r s4 qz => ?_)
    obtain ⟨hr,I4⟩ := qz
    subst hr
    exact wpAny_execs_nil ⟨σ3,H3,I4,qn⟩
  · refine wpAny_passesOwn hp (thn (T.item X rfl rfl rfl hc i pins s3 σ3 H3 X.xe I3 (stat fr3) st3 go) fun r s4 qz => ?_)
    obtain ⟨u,hr,h4⟩ := qz
    subst hr
    refine wpAny_passesOwn hp (thn h4 fun _ s5 qz => ?_)
    obtain ⟨x,H5,I5,r5,y5,st5,fr5⟩ := qz
    have I5' := I5.pinned (stat fr5) (T.obj _ _ st5)
    refine wpAny_passesOwn hp (thn (hg _ s5 σ3 H5 x u _ I5' r5 (step x H5 y5)) fun _ s6 qz => ?_)
    obtain ⟨σ6,H6,I6,q6⟩ := qz
    refine wpAny_passesOwn hp (thn (hb _ s6 σ6 H6 _ I6 q6) fun f s7 q7 => ?_)
    have again : ∀ {σ7 : St}{H7 : Hp},Inv X (pins ++ iP fp s5.heap) σ7 H7 s7 → N σ7 H7 → ∃ m,m < n ∧ ∃ i σ' H',Inv X pins σ' H' s7 ∧ tn i s7.heap ∧ (∀ b ∈ fp,H' b = none) ∧ W i m σ' H' := fun {σ7 H7} I7 n7 => by
      obtain ⟨m',hm,w7⟩ := hN σ7 H7 n7
      refine ⟨m',hm,i + 1,σ7,H7,I7.unpinned,T.keep _ _ _ st5 fun b hb o e => (I7.pin (b,o) (List.mem_append_right _ (List.mem_append_right _ (fM hb e)))).1,fun b hb => ?_,w7⟩
      obtain ⟨o,e,d⟩ := T.obj _ _ st5 b hb
      exact (I7.pin (b,o) (List.mem_append_right _ (List.mem_append_right _ (fM hb e)))).2.1
    cases f with
    | next => obtain ⟨σ7,H7,I7,n7⟩ := q7; exact again I7 n7
    | cont => obtain ⟨σ7,H7,I7,n7⟩ := q7; exact again I7 n7
    | brk => obtain ⟨σ7,H7,I7,q7⟩ := q7; exact ⟨σ7,H7,I7.unpinned,q7⟩
    | ret v => obtain ⟨x7,σ7,H7,I7,r7,q7⟩ := q7; exact ⟨x7,σ7,H7,I7.unpinned,r7,q7⟩
end
end L2
namespace L2
open PySem PySem.Spec PyProof.Rows
noncomputable abbrev R2 := V → V → Hp → VK → Prop
noncomputable def OpR (X:Cx) (f:Value → Value → Sem Value) (r:R2) : Prop :=
  ∀ (pins : List (Addr × Obj)) (s:Shared) (σ : St) (H:Hp) (x y : V) (v u : Value) (Q:VK),Inv X pins σ H s → RelV x v → RelV y u → r x y H Q →
    wpAny (model X.prog X.w) X.A (f v u) (EP X pins σ Q) X.xe s
noncomputable def UnR (X:Cx) (f:Value → Sem Value) (r:V → Hp → VK → Prop) : Prop :=
  ∀ (pins : List (Addr × Obj)) (s:Shared) (σ : St) (H:Hp) (x:V) (v:Value) (Q:VK),Inv X pins σ H s → RelV x v → r x H Q →
    wpAny (model X.prog X.w) X.A (f v) (EP X pins σ Q) X.xe s
noncomputable def CallR (X:Cx) (f:Value) (r:List V → Hp → VK → Prop) : Prop :=
  ∀ (pins : List (Addr × Obj)) (s:Shared) (σ : St) (H:Hp) (xs : List V) (us : List Value) (Q:VK),Inv X pins σ H s → Vals xs us → r xs H Q →
    wpAny (model X.prog X.w) X.A (call f us) (EP X pins σ Q) X.xe s
noncomputable def tOp (r:R2) (ta tb : TE) : TE := fun σ H Q => ta σ H fun x H1 => tb σ H1 fun y H2 => r x y H2 Q
noncomputable def tUn (r:V → Hp → VK → Prop) (ta : TE) : TE := fun σ H Q => ta σ H fun x H1 => r x H1 Q
noncomputable def rI (C:Int → Int → Prop) (g:Int → Int → V) : R2 := fun x y H Q => ∃ i j,x = .int i ∧ y = .int j ∧ C i j ∧ Q (g i j) H
noncomputable def rI0 (g:Int → Int → V) : R2 := fun x y H Q => ∃ i j,x = .int i ∧ y = .int j ∧ Q (g i j) H
noncomputable def rU (g:Int → V) : V → Hp → VK → Prop := fun x H Q => ∃ i,x = .int i ∧ Q (g i) H
section
variable {X:Cx}{a b c : Expr}{ta tb tc : TE}{pos : Pos}
theorem binT (ha : PE X a ta) (hb : PE X b tb) {pins : List (Addr × Obj)}{s:Shared}{σ : St}{H:Hp}{R:V → V → Hp → Prop} (I:Inv X pins σ H s)
    (h:ta σ H fun x H1 => tb σ H1 fun y H2 => R x y H2) {Q:Value → Shared → Prop}{f:Value → Value → Sem Value}
    (hf : ∀ v u s2 x y H2,Inv X pins σ H2 s2 → RelV x v → RelV y u → R x y H2 → wpAny (model X.prog X.w) X.A (f v u) Q X.xe s2) :
    wpAny (model X.prog X.w) X.A (eval a X.env) (fun v s₁ => wpAny (model X.prog X.w) X.A (eval b X.env) (fun u s₂ => wpAny (model X.prog X.w) X.A (f v u) Q X.xe s₂) X.xe s₁) X.xe s :=by
  refine thn (ha pins s σ H _ I h) fun v s1 qz => ?_
  obtain ⟨x,H1,I1,r1,q1⟩ := qz
  refine thn (hb pins s1 σ H1 _ I1 q1) fun u s2 qz => ?_
  obtain ⟨y,H2,I2,r2,q2⟩ := qz
  exact hf v u s2 x y H2 I2 r1 r2 q2
theorem qu {op : Operator}{r:R2} (ho : OpR X (binaryOp op) r) (ha : PE X a ta) (hb : PE X b tb) : PE X (.BinOp a op b pos) (tOp r ta tb) :=by
  intro pins s σ H Q I h
  exact wpAny_BinOp (binT ha hb I h fun v u s2 x y H2 I2 rx ry q => ho pins s2 σ H2 x y v u Q I2 rx ry q)
theorem vI {op : UnaryOp}{r:V → Hp → VK → Prop} (ho : UnR X (unaryOp op) r) (ha : PE X a ta) : PE X (.UnaryOp op a pos) (tUn r ta) :=by
  intro pins s σ H Q I h
  exact UnaryOp_ (thn (ha pins s σ H _ I h) fun v s1 ⟨x,H1,I1,r1,q1⟩ => ho pins s1 σ H1 x v Q I1 r1 q1)
theorem opI {f:Value → Value → Sem Value}{C:Int → Int → Prop}{g:Int → Int → Int}
    (rule : ∀ (i j : Int) (t u : Tok) (s:Shared) (Q:Value → Shared → Prop) (E:Value → Shared → Prop),C i j → Q (.int (g i j) s.toks) { s with toks := s.toks + 1 } → wpAny (model X.prog X.w) X.A (f (.int i t) (.int j u)) Q E s) :
    OpR X f (rI C fun i j => .int (g i j)) :=by
  intro pins s σ H x y v u Q I rx ry h
  obtain ⟨i,j,rfl,rfl,hc,q⟩ := h
  obtain ⟨t,rfl⟩ := rx
  obtain ⟨t',rfl⟩ := ry
  exact rule i j t t' s _ _ hc ⟨.int (g i j),H,I.tok _,⟨_,rfl⟩,q⟩
theorem opI0 {f:Value → Value → Sem Value}{g:Int → Int → Int}
    (rule : ∀ (i j : Int) (t u : Tok) (s:Shared) (Q:Value → Shared → Prop) (E:Value → Shared → Prop),Q (.int (g i j) s.toks) { s with toks := s.toks + 1 } → wpAny (model X.prog X.w) X.A (f (.int i t) (.int j u)) Q E s) :
    OpR X f (rI0 fun i j => .int (g i j)) :=by
  intro pins s σ H x y v u Q I rx ry h
  obtain ⟨i,j,rfl,rfl,q⟩ := h
  obtain ⟨t,rfl⟩ := rx
  obtain ⟨t',rfl⟩ := ry
  exact rule i j t t' s _ _ ⟨.int (g i j),H,I.tok _,⟨_,rfl⟩,q⟩
theorem opB0 {f:Value → Value → Sem Value}{g:Int → Int → Bool}
    (rule : ∀ (i j : Int) (t u : Tok) (s:Shared) (Q:Value → Shared → Prop) (E:Value → Shared → Prop),Q (.bool (g i j)) s → wpAny (model X.prog X.w) X.A (f (.int i t) (.int j u)) Q E s) :
    OpR X f (rI0 fun i j => .bl (g i j)) :=by
  intro pins s σ H x y v u Q I rx ry h
  obtain ⟨i,j,rfl,rfl,q⟩ := h
  obtain ⟨t,rfl⟩ := rx
  obtain ⟨t',rfl⟩ := ry
  exact rule i j t t' s _ _ ⟨.bl (g i j),H,I,rfl,q⟩
noncomputable def CPow (i j : Int) : Prop := 0 ≤ j ∧ j ≤ 1000000 ∧ i.natAbs < 2 ^ 64
noncomputable def CMul (i j : Int) : Prop := (-(2 ^ 64) < i ∧ i < 2 ^ 64) ∨ (-(2 ^ 64) < j ∧ j < 2 ^ 64)
theorem CMul.ok {i j : Int} (h:CMul i j) : IntMulOk i j :=by
  rcases h with ⟨h1,h2⟩ | ⟨h1,h2⟩
  · exact .of_left (intBits_le_64 h1 h2)
  · exact .of_right (intBits_le_64 h1 h2)
theorem ml (k:Nat) : (0 : Int) ≤ 2 ^ k :=by
  rw [two_pow_cast]
  exact Int.natCast_nonneg _
theorem op_add : OpR X (binaryOp .Add) (rI0 fun i j => .int (i + j)) := opI0 fun _ _ _ _ _ _ _ q => add_int q
theorem uF : OpR X (binaryOp .Sub) (rI0 fun i j => .int (i - j)) := opI0 fun _ _ _ _ _ _ _ q => sub_int q
theorem uK : OpR X (binaryOp .Mod) (rI (fun _ j => 0 < j) fun i j => .int (i % j)) := opI fun i j _ _ _ _ _ hc q => by
  have h1 : (0 : Int) < j := hc
  exact mod_int' (by omega) (by rw [Int.fmod_eq_emod_of_nonneg i (by omega)]; exact q)
theorem uI : OpR X (binaryOp .Pow) (rI CPow fun i j => .int (i ^ j.toNat)) := opI fun _ _ _ _ _ _ _ hc q => pow_int_small hc.1 hc.2.1 hc.2.2 q
theorem uH : OpR X (binaryOp .LShift) (rI CPow fun i j => .int (i * 2 ^ j.toNat)) := opI fun _ _ _ _ _ _ _ hc q => lshift_int_small hc.1 hc.2.1 hc.2.2 q
theorem uG : OpR X (binaryOp .RShift) (rI (fun _ j => 0 ≤ j) fun i j => .int (i / 2 ^ j.toNat)) := opI fun i j _ _ _ _ _ hc q =>
  rshift_int hc (by rw [Int.fdiv_eq_ediv_of_nonneg i (ml _)]; exact q)
theorem uN : OpR X (binaryOp .BitAnd) (rI0 fun i j => .int (Builtin.bitAnd i j)) := opI0 fun _ _ _ _ _ _ _ q => and_int q
theorem unI {f:Value → Sem Value}{g:Int → Int}
    (rule : ∀ (i:Int) (t:Tok) (s:Shared) (Q:Value → Shared → Prop) (E:Value → Shared → Prop),Q (.int (g i) s.toks) { s with toks := s.toks + 1 } → wpAny (model X.prog X.w) X.A (f (.int i t)) Q E s) :
    UnR X f (rU fun i => .int (g i)) :=by
  intro pins s σ H x v Q I rx h
  obtain ⟨i,rfl,q⟩ := h
  obtain ⟨t,rfl⟩ := rx
  exact rule i t s _ _ ⟨.int (g i),H,I.tok _,⟨_,rfl⟩,q⟩
theorem tZ : UnR X (unaryOp .USub) (rU fun i => .int (-i)) := unI fun _ _ _ _ _ q => neg_int q
end
noncomputable def scal : V → V → Bool
  | .non,.non => true | .non,.int _ => true | .int _,.non => true | .non,.bl _ => true | .bl _,.non => true | .non,.str _ => true | .str _,.non => true
  | .int _,.int _ => true | .bl _,.bl _ => true | .str _,.str _ => true | .byt _,.byt _ => true
  | .int _,.str _ => true | .str _,.int _ => true | .bl _,.str _ => true | .str _,.bl _ => true
  | _,_ => false
noncomputable def rEq : R2 := fun x y H Q => scal x y = true ∧ Q (.bl (decide (x = y))) H
noncomputable def rNe : R2 := fun x y H Q => scal x y = true ∧ Q (.bl (!decide (x = y))) H
theorem on {i j : Int} : decide (V.int i = V.int j) = (i == j) :=by
  rw [Bool.eq_iff_iff]
  simp
theorem rM {i j : Bool} : decide (V.bl i = V.bl j) = (i == j) :=by
  rw [Bool.eq_iff_iff]
  simp
theorem om {i j : Str} : decide (V.str i = V.str j) = (i == j) :=by
  rw [Bool.eq_iff_iff]
  simp
theorem oo {i j : Array UInt8} : decide (V.byt i = V.byt j) = (i.toList == j.toList) :=by
  rw [Bool.eq_iff_iff]
  cases i
  cases j
  simp
section
variable {X:Cx}{a b c : Expr}{ta tb tc : TE}{pos : Pos}
theorem aF {pins : List (Addr × Obj)}{σ : St}{H:Hp}{s:Shared}{Q:VK}{k k' : Bool} (I:Inv X pins σ H s) (q:Q (.bl k) H) (e:k = k') : EP X pins σ Q (.bool k') s :=by
  subst e
  exact ⟨.bl k,H,I,rfl,q⟩
theorem op_eq : OpR X (compareOp .Eq) rEq :=by
  intro pins s σ H x y v u Q I rx ry h
  obtain ⟨hs,q⟩ := h
  cases x with
  | non =>
    cases rx
    cases y with
    | non => cases ry; exact PySem.EqNone.eq_none_none (aF I q (by simp))
    | bl j => cases ry; exact PySem.EqNone.eq_none_bool (aF I q (by simp))
    | int j => obtain ⟨t',rfl⟩ := ry; exact PySem.EqNone.eq_none_int (aF I q (by simp))
    | str j => obtain ⟨t',rfl⟩ := ry; exact PySem.EqNone.eq_none_str (aF I q (by simp))
    | _ => exact absurd (show false = true from hs) Bool.false_ne_true
  | bl i =>
    cases rx
    cases y with
    | non => cases ry; exact PySem.EqNone.eq_bool_none (aF I q (by simp))
    | bl j => cases ry; exact eq_bool (aF I q rM)
    | str j => obtain ⟨t',rfl⟩ := ry; exact PySem.EqMixed.eq_bool_str (aF I q (by simp))
    | _ => exact absurd (show false = true from hs) Bool.false_ne_true
  | int i =>
    obtain ⟨t,rfl⟩ := rx
    cases y with
    | non => cases ry; exact PySem.EqNone.eq_int_none (aF I q (by simp))
    | int j => obtain ⟨t',rfl⟩ := ry; exact eq_int (aF I q on)
    | str j => obtain ⟨t',rfl⟩ := ry; exact PySem.EqMixed.eq_int_str (aF I q (by simp))
    | _ => exact absurd (show false = true from hs) Bool.false_ne_true
  | str i =>
    obtain ⟨t,rfl⟩ := rx
    cases y with
    | non => cases ry; exact PySem.EqNone.eq_str_none (aF I q (by simp))
    | bl j => cases ry; exact PySem.EqMixed.eq_str_bool (aF I q (by simp))
    | int j => obtain ⟨t',rfl⟩ := ry; exact PySem.EqMixed.eq_str_int (aF I q (by simp))
    | str j => obtain ⟨t',rfl⟩ := ry; exact eq_str (aF I q om)
    | _ => exact absurd (show false = true from hs) Bool.false_ne_true
  | byt i =>
    obtain ⟨t,rfl⟩ := rx
    cases y with
    | byt j => obtain ⟨t',rfl⟩ := ry; exact PySem.W.eq_bytes (aF I q oo)
    | _ => exact absurd (show false = true from hs) Bool.false_ne_true
  | _ => cases y <;> exact absurd (show false = true from hs) Bool.false_ne_true
theorem op_ne : OpR X (compareOp .NotEq) rNe :=by
  intro pins s σ H x y v u Q I rx ry h
  obtain ⟨hs,q⟩ := h
  cases x with
  | non =>
    cases rx
    cases y with
    | non => cases ry; exact PySem.EqNone.ne_none_none (aF I q (by simp))
    | bl j => cases ry; exact PySem.EqNone.ne_none_bool (aF I q (by simp))
    | int j => obtain ⟨t',rfl⟩ := ry; exact PySem.EqNone.ne_none_int (aF I q (by simp))
    | str j => obtain ⟨t',rfl⟩ := ry; exact PySem.EqNone.ne_none_str (aF I q (by simp))
    | _ => exact absurd (show false = true from hs) Bool.false_ne_true
  | bl i =>
    cases rx
    cases y with
    | non => cases ry; exact PySem.EqNone.ne_bool_none (aF I q (by simp))
    | bl j => cases ry; exact ne_bool (aF I q (congrArg not rM))
    | str j => obtain ⟨t',rfl⟩ := ry; exact PySem.EqMixed.ne_bool_str (aF I q (by simp))
    | _ => exact absurd (show false = true from hs) Bool.false_ne_true
  | int i =>
    obtain ⟨t,rfl⟩ := rx
    cases y with
    | non => cases ry; exact PySem.EqNone.ne_int_none (aF I q (by simp))
    | int j => obtain ⟨t',rfl⟩ := ry; exact ne_int (aF I q (congrArg not on))
    | str j => obtain ⟨t',rfl⟩ := ry; exact PySem.EqMixed.ne_int_str (aF I q (by simp))
    | _ => exact absurd (show false = true from hs) Bool.false_ne_true
  | str i =>
    obtain ⟨t,rfl⟩ := rx
    cases y with
    | non => cases ry; exact PySem.EqNone.ne_str_none (aF I q (by simp))
    | bl j => cases ry; exact PySem.EqMixed.ne_str_bool (aF I q (by simp))
    | int j => obtain ⟨t',rfl⟩ := ry; exact PySem.EqMixed.ne_str_int (aF I q (by simp))
    | str j => obtain ⟨t',rfl⟩ := ry; exact ne_str (aF I q (congrArg not om))
    | _ => exact absurd (show false = true from hs) Bool.false_ne_true
  | byt i =>
    obtain ⟨t,rfl⟩ := rx
    cases y with
    | byt j => obtain ⟨t',rfl⟩ := ry; exact PySem.W.ne_bytes (aF I q (congrArg not oo))
    | _ => exact absurd (show false = true from hs) Bool.false_ne_true
  | _ => cases y <;> exact absurd (show false = true from hs) Bool.false_ne_true
theorem vL : OpR X (compareOp .Lt) (rI0 fun i j => .bl (decide (i < j))) := opB0 fun _ _ _ _ _ _ _ q => lt_int q
theorem vM : OpR X (compareOp .Gt) (rI0 fun i j => .bl (decide (j < i))) := opB0 fun _ _ _ _ _ _ _ q => gt_int q
theorem vN : OpR X (compareOp .GtE) (rI0 fun i j => .bl (decide (j ≤ i))) := opB0 fun _ _ _ _ _ _ _ q => ge_int q
theorem op_in_str : OpR X (compareOp .In) (fun x y H Q => ∃ i j,x = .str i ∧ y = .str j ∧ Q (.bl (!(Builtin.Str.occurrences j i 0 j.length 1).isEmpty)) H) :=by
  intro pins s σ H x y v u Q I rx ry h
  obtain ⟨i,j,rfl,rfl,q⟩ := h
  obtain ⟨t,rfl⟩ := rx
  obtain ⟨t',rfl⟩ := ry
  exact in_str (aF I q rfl)
theorem j5 : OpR X (compareOp .Is) (fun x y H Q => y = .non ∧ Q (.bl (decide (x = .non))) H) :=by
  intro pins s σ H x y v u Q I rx ry h
  obtain ⟨rfl,q⟩ := h
  cases ry
  refine is_none_gen (aF I q ?_)
  cases x <;> first
    | (cases rx; rfl)
    | (obtain ⟨t,rfl⟩ := rx; rfl)
theorem OpR.or {f:Value → Value → Sem Value}{r r' : R2} (h:OpR X f r) (h' : OpR X f r') : OpR X f (fun x y H Q => r x y H Q ∨ r' x y H Q) :=by
  intro pins s σ H x y v u Q I rx ry q
  rcases q with q | q
  · exact h pins s σ H x y v u Q I rx ry q
  · exact h' pins s σ H x y v u Q I rx ry q
theorem az (b:Expr) {op : CmpOp} (h:op ≠ .In :=by decide) (h2 : op ≠ .NotIn :=by decide) : behindInMarks op b = false :=by
  have e1 : (op == CmpOp.In) = false :=by cases op <;> first | rfl | exact absurd rfl h
  have e2 : (op == CmpOp.NotIn) = false :=by cases op <;> first | rfl | exact absurd rfl h2
  cases b <;> simp [behindInMarks,e1,e2]
theorem sA {op : CmpOp}{r:R2} (ho : OpR X (compareOp op) r) (ha : PE X a ta) (hb : PE X b tb) (hm : behindInMarks op b = false) : PE X (.Compare a [op] [b] pos) (tOp r ta tb) :=by
  intro pins s σ H Q I h
  exact wpAny_Compare1 (binT ha hb I h fun v u s2 x y H2 I2 rx ry q => ho pins s2 σ H2 x y v u Q I2 rx ry q) hm
noncomputable def tTest (t:TE) : TT := fun σ H Q => t σ H fun x H' => ∃ k,x = .bl k ∧ Q k H'
theorem si {op : CmpOp}{r:R2} (ho : OpR X (compareOp op) r) (ha : PE X a ta) (hb : PE X b tb) (hm : behindInMarks op b = false) : PT X (.Compare a [op] [b] pos) (tTest (tOp r ta tb)) :=by
  intro pins s σ H Q I h
  refine wpAny_isTrue_Compare1 (thn (ha pins s σ H _ I h) fun v s1 ⟨x,H1,I1,r1,q1⟩ => thn (hb pins s1 σ H1 _ I1 q1) fun u s2 ⟨y,H2,I2,r2,q2⟩ =>
    thn (ho pins s2 σ H2 x y v u _ I2 r1 r2 q2) fun c s3 ⟨z,H3,I3,r3,k,e,q3⟩ => ?_) hm
  subst e
  cases r3
  exact wpAny_truthy_bool ⟨H3,I3,q3⟩
theorem gX : (sizeLine : Nat) < 2 ^ 63 :=by rw [sizeLine_eq]; decide
theorem op_add_str : OpR X (binaryOp .Add) (fun x y H Q => ∃ i j,x = .str i ∧ y = .str j ∧ i.length + j.length ≤ sizeLine ∧ Q (.str (i ++ j)) H) :=by
  intro pins s σ H x y v u Q I rx ry h
  obtain ⟨i,j,rfl,rfl,hz,q⟩ := h
  obtain ⟨t,rfl⟩ := rx
  obtain ⟨t',rfl⟩ := ry
  exact add_str (fun t' tk => ⟨.str (i ++ j),H,I.tok _,⟨_,rfl⟩,q⟩) hz
theorem vals1 {x:V}{us : List Value} (r:Vals [x] us) : ∃ u,us = [u] ∧ RelV x u :=by
  cases r with
  | cons r1 r2 => cases r2; exact ⟨_,rfl,r1⟩
theorem vals2 {x y : V}{us : List Value} (r:Vals [x,y] us) : ∃ u w',us = [u,w'] ∧ RelV x u ∧ RelV y w' :=by
  cases r with
  | cons r1 r2 =>
    cases r2 with
    | cons r3 r4 => cases r4; exact ⟨_,_,rfl,r1,r3⟩
theorem pQ (hc : X.calm = true) : CallR X (.builtin "max") (fun xs H Q => ∃ i j,xs = [.int i,.int j] ∧ Q (.int (if j > i then j else i)) H) :=by
  intro pins s σ H xs us Q I r h
  obtain ⟨i,j,rfl,q⟩ := h
  obtain ⟨u,w',rfl,⟨t,rfl⟩,⟨t',rfl⟩⟩ := vals2 r
  refine max_two_ints (I.ok.hd hc) fun h' tk k => ⟨_,H,I.kept k,?_,q⟩
  by_cases hj : j > i
  · rw [if_pos hj,if_pos hj]; exact ⟨_,rfl⟩
  · rw [if_neg hj,if_neg hj]; exact ⟨_,rfl⟩
theorem call_int1 : CallR X (.type "int") (fun xs H Q => (∃ i,xs = [.int i] ∧ Q (.int i) H) ∨ ∃ k,xs = [.bl k] ∧ Q (.int (if k then 1 else 0)) H) :=by
  intro pins s σ H xs us Q I r h
  rcases h with ⟨i,rfl,q⟩ | ⟨k,rfl,q⟩
  · obtain ⟨u,rfl,t,rfl⟩ := vals1 r
    exact call_int_int ⟨.int i,H,I,⟨_,rfl⟩,q⟩
  · obtain ⟨u,rfl,r1⟩ := vals1 r
    cases r1
    exact call_int_bool ⟨.int (if k then 1 else 0),H,I.tok _,⟨_,rfl⟩,q⟩
end
end L2
namespace L2
open PySem PySem.Spec PyProof.Rows
structure ObjM (h:Heap) (x dx C : Addr) (mA : Str → Option Value) : Prop where
  obj : h.get? x = some (PySem.W.instObj C dx)
  ns : h.Ns1 dx mA
  ne : dx ≠ x
theorem pj {h:Heap}{dx : Addr}{mA : Str → Option Value} (n:h.Ns1 dx mA) : ∃ od,h.get? dx = some od ∧ ∀ name,PySem.W.lookIn name od = some (mA name) :=by
  obtain ⟨o,es,ep,ho,hd,hk,_,hm⟩ := n
  refine ⟨o,ho,fun name => ?_⟩
  have e := hm name
  unfold nsFind findBy at e
  rw [← Array.find?_toList] at e
  unfold PySem.W.lookIn
  rw [hd]
  dsimp only
  split
  · rename_i y q
    rw [q] at e
    exact congrArg some e
  · rename_i q
    rw [q] at e
    have a : es.toList.any (·.refKey) = false :=by
      rw [List.any_eq_false]
      intro y hy
      obtain ⟨z,t,hkey⟩ := hk y (Array.mem_toList_iff.mp hy)
      simp [DictEntry.refKey,hkey]
    have a' : ¬ es.toList.any (·.refKey) = true :=by rw [a]; exact Bool.false_ne_true
    rw [if_neg a']
    exact congrArg some e
theorem ObjM.look {h:Heap}{x dx C : Addr}{mA : Str → Option Value} (I:ObjM h x dx C mA) : ∃ od,PySem.W.InstAt h x (PySem.W.instObj C dx) C (some od) ∧ ∀ name,PySem.W.lookIn name od = some (mA name) :=
  let ⟨od,ho,hl⟩ := pj I.ns
  ⟨od,⟨I.obj,rfl,rfl,ho⟩,hl⟩
section
variable {prog : Program}{w:World}{A:Around}{E:Value → Shared → Prop}{s:Shared}{K:PySem.W.Frag}{x dx C f : Addr}{mA : Str → Option Value}{name : Str}{v:Value}
end
theorem RelO.some_of {v:V}{o:Option Value} (r:RelO (some v) o) : ∃ u,o = some u ∧ RelV v u :=by
  cases o with
  | none => exact (show False from r).elim
  | some u => exact ⟨u,rfl,r⟩
section
variable {P:Program}{w:World}{H H' : Hp}{h h' : Heap}{a C dx : Addr}{fs fs' : List (Str × V)}
theorem sX (hok : HOk P w H h) (e:H a = some (.ins C dx fs)) : ∃ mA,ObjM h a dx C mA ∧ (∀ f,RelO (fs.lookup f) (mA f)) ∧ PySem.Within mA (fs.map (·.1)) ∧ fs.length ≤ 1000 ∧ H dx = some (.own a) :=by
  obtain ⟨d,z,ne,ob,mA,n,r,q⟩ := (show ObjOk P w H h a (.ins C dx fs) from hok a _ e)
  exact ⟨mA,⟨ob,n,ne⟩,r,q,z,d⟩
end
structure Cls (K:PySem.W.Frag) (C:Addr) : Prop where
  pg : PySem.W.plainGet K C Str.empty = true
  hd : PySem.W.hasDictIn K C = true
  po : PySem.W.plainOver K C = true
  sa : PySem.W.findIn K (.ref C) "__setattr__" = some (some (.builtin "object.__setattr__"))
theorem Cls.get {K:PySem.W.Frag}{C:Addr} (c:Cls K C) (f:Str) : PySem.W.plainGet K C f = true := c.pg
section
variable {X:Cx}{pins : List (Addr × Obj)}{σ : St}{H:Hp}{s:Shared}{a C dx : Addr}{fs : List (Str × V)}{f:Str}{v:V}{A:Around}{E:Value → Shared → Prop}
end
section
variable {X:Cx}{o e value : Expr}{f:Str}{pos pos' tpos : Pos}{ta tv : TE}
end
section
variable {X:Cx}{pins : List (Addr × Obj)}{σ : St}{H:Hp}{s:Shared}{A:Around}{E:Value → Shared → Prop}{Q:Value → Shared → Prop}{c:Value}{b:Bool}
inductive TyOf (K:PySem.W.Frag) (H:Hp) : V → Value → Prop where
  | non : TyOf K H .non (.type "NoneType")
  | bl (x:Bool) : TyOf K H (.bl x) (.type "bool")
  | int (i:Int) : TyOf K H (.int i) (.type "int")
  | str (x:Str) : TyOf K H (.str x) (.type "str")
  | flt (x:UInt64) : TyOf K H (.flt x) (.type "float")
  | lst {a:Addr}{xs : List V} (e:H a = some (.lst xs)) : TyOf K H (.ref a) (.type "list")
  | frz {a:Addr}{o:Obj}{xs : List V} (e:H a = some (.frz o (.lst xs))) : TyOf K H (.ref a) (.type "list")
  | tup {a:Addr}{xs : List V} (e:H a = some (.tup xs)) : TyOf K H (.ref a) (.type "tuple")
  | dK {a:Addr}{kvs : List (Key × V)} (e:H a = some (.dK kvs)) : TyOf K H (.ref a) (.type "dict")
  | dT {a:Addr}{kvs : List (List Key × V)} (e:H a = some (.dT kvs)) : TyOf K H (.ref a) (.type "dict")
  | ins {a C dx : Addr}{fs : List (Str × V)} (e:H a = some (.ins C dx fs)) (cl : Cls K C) (ha : PySem.W.findIn K (.ref C) "__class__" = some (some (.builtin "object.__class__")))
      (hn : PySem.W.specialIn K (.builtin "object.__class__") "__get__" = some (some (.builtin "getset_descriptor.__get__"))) (htk : PySem.W.takesIn K (.builtin "object.__class__") = some true)
      (hm : PySem.W.mroIn K C (.type "object") = some true) : TyOf K H (.ref a) (.ref C)
theorem pA {x:V}{u t : Value} (I:Inv X pins σ H s) (rx : RelV x u) (ty : TyOf X.K H x t) (e:PySem.W.kitOne X.K t c = some b) (h:∀ tk,Q (.bool b) { s with toks := tk }) :
    wpAny (model X.prog X.w) A (call (.builtin "isinstance") [u,c]) Q E s :=by
  cases ty with
  | non => cases (show u = Value.none from rx); exact PySem.W.kia_one PySem.W.kitx_none I.kIn True.intro e (fun z => nomatch z) h
  | bl y => cases (show u = Value.bool y from rx); exact PySem.W.kia_one PySem.W.kitx_bool I.kIn True.intro e (fun z => nomatch z) h
  | int i => obtain ⟨t,q⟩ := (show ∃ t,u = Value.int i t from rx); cases q; exact PySem.W.kia_one PySem.W.kitx_int I.kIn True.intro e (fun z => nomatch z) h
  | str y => obtain ⟨t,q⟩ := (show ∃ t,u = Value.str y t from rx); cases q; exact PySem.W.kia_one PySem.W.kitx_str I.kIn True.intro e (fun z => nomatch z) h
  | flt y => obtain ⟨t,q⟩ := (show ∃ t,u = Value.float y t from rx); cases q; exact PySem.W.kia_one PySem.W.kitx_float I.kIn True.intro e (fun z => nomatch z) h
  | @lst a xs ea =>
    cases (show u = Value.ref a from rx)
    obtain ⟨_,_,n,_,h1⟩ := (show ObjOk X.prog X.w H s.heap a (.lst xs) from I.hok a _ ea)
    exact PySem.W.kia_one PySem.W.kitx_list I.kIn ⟨_,h1,rfl⟩ e (fun z => nomatch z) h
  | @frz a ob xs ea =>
    cases (show u = Value.ref a from rx)
    obtain ⟨_,_,_,n,_,h1⟩ := (show ObjOk X.prog X.w H s.heap a (.frz ob (.lst xs)) from I.hok a _ ea)
    exact PySem.W.kia_one PySem.W.kitx_list I.kIn ⟨_,h1,rfl⟩ e (fun z => nomatch z) h
  | @tup a xs ea =>
    cases (show u = Value.ref a from rx)
    obtain ⟨_,_,_,p⟩ := (show ObjOk X.prog X.w H s.heap a (.tup xs) from I.hok a _ ea)
    obtain ⟨o,h1,h2,_⟩ := p.1
    exact PySem.W.kia_one PySem.W.kitx_tuple I.kIn ⟨o,h1,h2⟩ e (fun z => nomatch z) h
  | @dK a kvs ea =>
    cases (show u = Value.ref a from rx)
    obtain ⟨_,_,vs,_,p⟩ := (show ObjOk X.prog X.w H s.heap a (.dK kvs) from I.hok a _ ea)
    obtain ⟨o,es,ep,h1,h2,_⟩ := p
    exact PySem.W.kia_one PySem.W.kitx_dict I.kIn ⟨o,h1,h2.1⟩ e (fun z => nomatch z) h
  | @dT a kvs ea =>
    cases (show u = Value.ref a from rx)
    obtain ⟨_,_,xs,_,o,es,ep,h1,h2,_⟩ := (show ObjOk X.prog X.w H s.heap a (.dT kvs) from I.hok a _ ea)
    exact PySem.W.kia_one PySem.W.kitx_dict I.kIn ⟨o,h1,h2.1⟩ e (fun z => nomatch z) h
  | @ins a C dx fs ea cl ha hn htk hm =>
    cases (show u = Value.ref a from rx)
    obtain ⟨mA,O,_⟩ := sX I.hok ea
    obtain ⟨od,J,_⟩ := O.look
    exact PySem.W.kia_one (PySem.W.kitx_own (cl.get _) cl.hd ha hn htk hm) I.kIn J e (fun z => nomatch z) h
end
end L2
namespace L2
open PySem PySem.Spec PyProof.Rows
structure Room (k:Nat) (A:Around) : Prop where
  hd : A.handled = none
  dp : A.depth + 3 * k + 5 < recursionLimit
  un : A.units + 16 * k + 200 < cLine
theorem Room.mono {j k : Nat}{A:Around} (r:Room k A) (h:j ≤ k) : Room j A := ⟨r.hd,by have := r.dp; omega,by have := r.un; omega⟩
theorem Room.deeper {k:Nat}{A:Around} (r:Room (k + 1) A) (env : Env) : Room k (A.deeper env) :=
  ⟨r.hd,by have := r.dp; show A.depth + 1 + 3 * k + 5 < _; omega,by have := r.un; show A.units + 3 + 16 * k + 200 < _; omega⟩
theorem Room.depth {k:Nat}{A:Around} (r:Room k A) : A.depth < recursionLimit :=by have := r.dp; omega
theorem Room.units {k:Nat}{A:Around} (r:Room k A) : A.units + 64 < cLine :=by have := r.un; omega
noncomputable def tNil : TA := fun _ H Q => Q [] H
noncomputable def tCons (ta : TE) (tr : TA) : TA := fun σ H Q => ta σ H fun x H1 => tr σ H1 fun xs H2 => Q (x :: xs) H2
section
variable {X:Cx}{e:Expr}{es : List Expr}{te : TE}{t:TA}{pos : Pos}
theorem pa_nil : PA X [] tNil := fun _ _ _ _ H Q I h => Calls.spliced_nil ⟨[],H,I,.nil,h⟩
theorem sD (ha : PE X e te) (hr : PA X es t) (hs : starEach (e :: es) X.env = (false,eval e X.env) :: starEach es X.env :=by rfl) : PA X (e :: es) (tCons te t) :=by
  intro pos pins s σ H Q I h
  rw [hs]
  show wpAny _ _ (spliced ((false,eval e X.env) :: backTo pos (starEach es X.env))) _ _ s
  refine Calls.spliced_cons (thn (ha pins s σ H _ I h) fun u s1 qz => ?_)
  obtain ⟨x,H1,I1,r1,q1⟩ := qz
  exact thn (hr pos pins s1 σ H1 _ I1 q1) fun us s2 ⟨xs,H2,I2,r2,q2⟩ => ⟨x :: xs,H2,I2,.cons r1 r2,q2⟩
noncomputable def tTup (t:TA) : TE := fun σ H Q => t σ H fun xs H1 => xs.length ≤ sizeLine ∧ ∀ p,H1 p = none → Q (.ref p) (upd H1 p (.tup xs))
noncomputable def tLst (t:TA) : TE := fun σ H Q => t σ H fun xs H1 => xs.length ≤ sizeLine ∧ ∀ p,H1 p = none → Q (.ref p) (upd H1 p (.lst xs))
theorem qq {x1} (h:PA X es t) : PE X (.Tuple es x1 pos) (tTup t) :=by
  intro pins s σ H Q I hq
  refine wpAny_Tuple_spliced (thn (h pos pins s σ H _ I hq) fun us s1 ⟨xs,H1,I1,r,z,q⟩ => ⟨by rw [← r.length]; exact z,?_⟩)
  have hf : H1 s1.heap.objs.size = none := I1.hok.fresh (Nat.le_refl _)
  refine ⟨.ref s1.heap.objs.size,upd H1 s1.heap.objs.size (.tup xs),I1.laid (t' := s1.toks) (fun b u e => Heap.get?_push_of_some _ e) (Nat.le_refl _) ?_,rfl,q _ hf⟩
  exact ⟨z,us,r,IsTupD.new _ _⟩
theorem uz (h:PA X es t) : PE X (.List es pos) (tLst t) :=by
  intro pins s σ H Q I hq
  refine wpAny_List_spliced (thn (h pos pins s σ H _ I hq) fun us s1 ⟨xs,H1,I1,r,z,q⟩ => ⟨by rw [← r.length]; exact z,?_⟩)
  have hf : H1 s1.heap.objs.size = none := I1.hok.fresh (Nat.le_refl _)
  refine ⟨.ref s1.heap.objs.size,upd H1 s1.heap.objs.size (.lst xs),I1.laid (t' := s1.toks) (fun b u e => Heap.get?_push_of_some _ e) (Nat.le_refl _) ?_,rfl,q _ hf⟩
  exact ⟨z,us,0,r,Heap.get?_push_size _ rfl⟩
end
noncomputable abbrev Sp := List V → Hp → VK → XK → Prop
noncomputable abbrev CXT := List Env → Hp → Shared → XK → Value → Shared → Prop
structure Env0 (P:Program) (w:World) (K:PySem.W.Frag) (mg : Str → Option Value) (base : Heap) (A:Around) (outer : List Env) (s:Shared) (H:Hp) : Prop where
  frames : A.frames = some outer
  mod : Mod K mg base
  bs : ∀ b o,base.get? b = some o → s.heap.get? b = some o ∧ H b = none
  bsz : base.objs.size ≤ s.heap.objs.size
  funs : s.heap.FunFrames base outer
  frf : ∀ b ∈ frs outer,H b = none
  hok : HOk P w H s.heap
  bare : AllBare s.gens
noncomputable def CE (outer : List Env) (P:Program) (w:World) (H:Hp) (s:Shared) (Q:VK) (u:Value) (s' : Shared) : Prop :=
  ∃ v H',s'.os = s.os ∧ AllBare s'.gens ∧ Un (frs outer) [] H H' s.heap s'.heap ∧ HOk P w H' s'.heap ∧ RelV v u ∧ Q v H'
noncomputable def CR (CX : CXT) (outer : List Env) (P:Program) (w:World) (H:Hp) (s:Shared) (Q:VK) (E:XK) (r:Result) (s' : Shared) : Prop :=
  match r with
  | .ok (.ret u) => CE outer P w H s Q u s'
  | .ok _ => False
  | .error e => CX outer H s E e s'
structure FnOk (P:Program) (w:World) (K:PySem.W.Frag) (mg : Str → Option Value) (base : Heap) (CX : CXT) (k:Nat) (f:Addr) (fd : FuncData) (ps : List Str) (sp : Sp) : Prop where
  len : ∀ vs H Q E,sp vs H Q E → vs.length = ps.length
  run : ∀ (A:Around) (outer : List Env) (s:Shared) (H:Hp) (args : Args) (us : List Value) (vs : List V) (Q:VK) (E:XK),Room k A → Env0 P w K mg base A outer s H → BindsTo s fd args (ps.zip us) → Vals vs us → sp vs H Q E →
    codeAny (model P w) A (.call (.ref f) args) (CR CX outer P w H s Q E) s
theorem FnOk.imp {P:Program}{w:World}{K:PySem.W.Frag}{mg : Str → Option Value}{base : Heap}{CX : CXT}{k:Nat}{f:Addr}{fd : FuncData}{ps : List Str}{sp sp' : Sp} (F:FnOk P w K mg base CX k f fd ps sp)
    (h:∀ vs H Q E,sp' vs H Q E → sp vs H Q E) : FnOk P w K mg base CX k f fd ps sp' :=
  ⟨fun vs H Q E q => F.len vs H Q E (h _ _ _ _ q),fun A outer s H args us vs Q E hr he hb hv hs => F.run A outer s H args us vs Q E hr he hb hv (h _ _ _ _ hs)⟩
section
variable {X:Cx}{pins : List (Addr × Obj)}{σ : St}{H:Hp}{s s' : Shared}
theorem Inv.env0 (I:Inv X pins σ H s) : Env0 X.prog X.w X.K X.mg X.base X.A X.stack s H :=
  ⟨I.ok.frames,I.ok.mod,I.bs,Nat.le_trans I.ok.bsz I.sz,I.stack,I.stkFree,I.hok,I.bare⟩
theorem Inv.after {Q:VK}{u:Value} (I:Inv X pins σ H s) (h:CE X.stack X.prog X.w H s Q u s') : EP X pins σ Q u s' :=by
  obtain ⟨v,H',os,bare,un,hok,r,q⟩ := h
  obtain ⟨hh,g,d,t,os'⟩ := s'
  obtain rfl : os' = s.os := os
  exact ⟨v,H',I.call (h' := hh) (g' := g) (d' := d) (t' := t) (ch := []) un hok bare (fun b z => absurd z (by simp)),r,q⟩
end
noncomputable def tCall (sp : Sp) (dvs : List V) (E:XK) (t:TA) : TE := fun σ H Q => t σ H fun vs H1 => sp (vs ++ dvs) H1 Q E
noncomputable def Binds (K:PySem.W.Frag) (fd : FuncData) (ps : List Str) (ds : List Value) : Prop :=
  ∀ (s:Shared) (us : List Value),K.In s.heap → (us ++ ds).length = ps.length → BindsTo s fd ⟨us,[]⟩ (ps.zip (us ++ ds))
theorem Binds.all {K:PySem.W.Frag}{fd : FuncData}{ps : List Str} (h:∀ us : List Value,us.length = ps.length → bindArgs fd ⟨us,[]⟩ = pure (ps.zip us)) : Binds K fd ps [] := fun s us _ hl => by
  rw [List.append_nil] at hl ⊢
  exact .of_eq (h us hl)
noncomputable def nC (CX : CXT) (X:Cx) (E:XK) : Prop := ∀ (pins : List (Addr × Obj)) (σ : St) (H:Hp) (s:Shared) (e:Value) (s' : Shared),Inv X pins σ H s → CX X.stack H s E e s' → X.xe e s'
section
variable {X:Cx}{CX : CXT}{k:Nat}{f C : Addr}{fd : FuncData}{ps : List Str}{sp : Sp}{dvs : List V}{ds : List Value}{E:XK}{x m : Str}{p pos apos : Pos}{e o : Expr}{es : List Expr}{ta : TE}{t:TA}
theorem uj {pins : List (Addr × Obj)}{σ : St}{H:Hp}{s:Shared}{Q:VK}{us : List Value}{vs : List V} (F:FnOk X.prog X.w X.K X.mg X.base CX k f fd ps sp) (hr : Room k X.A) (hb : Binds X.K fd ps ds) (hd : Vals dvs ds) (hx : nC CX X E)
    (I:Inv X pins σ H s) (r:Vals vs us) (h:sp (vs ++ dvs) H Q E) : wpAny (model X.prog X.w) X.A (call (.ref f) us) (EP X pins σ Q) X.xe s :=by
  have r2 : Vals (vs ++ dvs) (us ++ ds) := r.append hd
  have hl : (us ++ ds).length = ps.length :=by rw [← r2.length]; exact F.len _ _ _ _ h
  refine wpAny_call (codeAny_mono (F.run X.A X.stack s H ⟨us,[]⟩ (us ++ ds) (vs ++ dvs) Q E hr I.env0 (hb s us I.kIn hl) r2 h) fun r s' hq => ?_)
  cases r with
  | error e => exact hx pins σ H s e s' I hq
  | ok fl =>
    cases fl with
    | ret u => exact I.after hq
    | next => exact False.elim hq
    | brk => exact False.elim hq
    | cont => exact False.elim hq
theorem sB (F:FnOk X.prog X.w X.K X.mg X.base CX k f fd ps sp) (hr : Room k X.A) (hg : Gl X x) (hm : X.mg x = some (.ref f)) (hk : PySem.W.keepIn X.K (.ref f) = true) (hb : Binds X.K fd ps ds) (hd : Vals dvs ds) (hx : nC CX X E)
    (ha : PA X (e :: es) t) (hdb : (x == ("__debug__" : Str)) = false :=by decide) (he : starEach (e :: es) X.env = (false,eval e X.env) :: starEach es X.env :=by rfl) (hpl : (backTo pos (starEach es X.env)).any (·.1) = false :=by rfl) :
    PE X (.Call (.Name x p) (e :: es) [] pos) (tCall sp dvs E t) :=by
  intro pins s σ H Q I h
  refine wpAny_Call_Name_kw (sT I hg hm ?_ hdb)
  refine PySem.W.callWith_K (h₀ := X.base) I.ok.mod.kin hk (thn (ha pos pins s σ H _ I h) fun us s1 ⟨vs,H1,I1,r,q⟩ => ⟨I1.kIn,?_⟩) he hpl
  exact uj F hr hb hd hx I1 r q
end
section
variable {X:Cx}{CX : CXT}{k:Nat}{f C : Addr}{fd : FuncData}{ps ks : List Str}{sp : Sp}{E:XK}{x m : Str}{p pos apos kpos : Pos}{e o : Expr}{es : List Expr}{kws : List Keyword}{te ta : TE}{t tk : TA}{nm : Option Str}
variable {g:List Value → List Value → List Value}{gV : List V → List V → List V}
end
structure FnScope (N P : List Str) (sc : Scope) : Prop where
  kind : sc.kind = .function
  co : sc.isCoroutine = false
  gen : sc.isGenerator = false
  nd : N.Nodup
  pre : N.take P.length = P
  par : ∀ x ∈ P,sc.names.lookup x = some .local ∨ sc.names.lookup x = some .cell
  nofree : ∀ y ∈ sc.names,y.2 ≠ .free
theorem jS {kindOf : Str → Option NameKind}{x:Str} : ∀ {binds : List (Str × Value)}{m:Str → Option Value},(∀ v,(x,v) ∉ binds) → bindL kindOf binds m x = m x
  | [],_,_ => rfl
  | (n,v) :: r,m,h => by
    unfold bindL
    rw [jS fun w hw => h w (List.mem_cons_of_mem _ hw)]
    split
    · have : x ≠ n :=by rintro rfl; exact h v List.mem_cons_self
      simp [this]
    · rfl
theorem jU {kindOf : Str → Option NameKind}{x:Str} : ∀ {binds : List (Str × Value)}{m:Str → Option Value},(∀ v,(x,v) ∉ binds) → bindC kindOf binds m x = m x
  | [],_,_ => rfl
  | (n,v) :: r,m,h => by
    unfold bindC
    rw [jU fun w hw => h w (List.mem_cons_of_mem _ hw)]
    split
    · rfl
    · have : x ≠ n :=by rintro rfl; exact h v List.mem_cons_self
      simp [this]
theorem jT {kindOf : Str → Option NameKind}{x:Str}{v:Value} : ∀ {P:List Str}{vs : List Value}{i:Nat}{m:Str → Option Value},P.Nodup → P[i]? = some x → vs[i]? = some v → kindOf x = some .local →
    bindL kindOf (P.zip vs) m x = some v
  | [],_,_,_,_,h,_,_ => by simp at h
  | _ :: _,[],_,_,_,_,h,_ => by simp at h
  | p :: P,w :: vs,0,m,nd,h1,h2,hk => by
    simp at h1 h2; subst h1; subst h2
    show bindL kindOf ((p,w) :: P.zip vs) m p = _
    unfold bindL
    rw [jS fun v hv => (List.nodup_cons.mp nd).1 (List.of_mem_zip hv).1,if_pos hk]
    simp
  | p :: P,w :: vs,i + 1,m,nd,h1,h2,hk => by
    show bindL kindOf ((p,w) :: P.zip vs) m x = _
    unfold bindL
    exact jT (i := i) (List.nodup_cons.mp nd).2 (by simpa using h1) (by simpa using h2) hk
theorem jV {kindOf : Str → Option NameKind}{x:Str}{v:Value} : ∀ {P:List Str}{vs : List Value}{i:Nat}{m:Str → Option Value},P.Nodup → P[i]? = some x → vs[i]? = some v → kindOf x ≠ some .local →
    bindC kindOf (P.zip vs) m x = some v
  | [],_,_,_,_,h,_,_ => by simp at h
  | _ :: _,[],_,_,_,_,h,_ => by simp at h
  | p :: P,w :: vs,0,m,nd,h1,h2,hk => by
    simp at h1 h2; subst h1; subst h2
    show bindC kindOf ((p,w) :: P.zip vs) m p = _
    unfold bindC
    rw [jU fun v hv => (List.nodup_cons.mp nd).1 (List.of_mem_zip hv).1,if_neg hk]
    simp
  | p :: P,w :: vs,i + 1,m,nd,h1,h2,hk => by
    show bindC kindOf ((p,w) :: P.zip vs) m x = _
    unfold bindC
    exact jV (i := i) (List.nodup_cons.mp nd).2 (by simpa using h1) (by simpa using h2) hk
noncomputable def start (N:List Str) (vs : List V) : St := vs.map some ++ List.replicate (N.length - vs.length) none
noncomputable def cxOf (CX : CXT) (P:Program) (w:World) (K:PySem.W.Frag) (mg : Str → Option Value) (base : Heap) (N:List Str) (qual : Str) (scope : Scope) (f:Addr) (cd : Value) (A:Around) (outer : List Env) (s:Shared) (H:Hp) (E:XK) : Cx where
  prog := P
  w := w
  K := K
  mg := mg
  base := base
  A := A.deeper (envOfC qual scope s.heap.objs.size f cd)
  N := N
  s₀ := s
  H₀ := H
  env := envOfC qual scope s.heap.objs.size f cd
  outer := outer
  stack := envOfC qual scope s.heap.objs.size f cd :: outer
  ex := []
  calm := true
  fn := fun _ => true
  pn := []
  xe := fun e s' => wpAny (model P w) (A.deeper (envOfC qual scope s.heap.objs.size f cd)) (leaving (envOfC qual scope s.heap.objs.size f cd) e) (fun _ s'' => CX outer H s E e s'') (fun e' s'' => CX outer H s E e' s'') s'
theorem lZ {sc : Scope}{n:Nat}{x:Str} (h:sc.names.lookup x = some .cell) : ∃ c,(cellsFrom n sc.names []).lookup x = some c :=by
  have q := PySem.W.cellsFrom_some sc.names n [] (.inl h)
  exact Option.isSome_iff_exists.mp q
theorem pB {CX : CXT}{P:Program}{w:World}{K:PySem.W.Frag}{mg : Str → Option Value}{base : Heap}{N ps : List Str}{qual : Str}{scope : Scope}{f:Addr}{cd : Value}{A:Around}{outer : List Env}{s s1 : Shared}{H:Hp}{E:XK}{us : List Value}{vs : List V}
    (S:FnScope N ps scope) (hd : A.handled = none) (e0 : Env0 P w K mg base A outer s H) (hl : vs.length = ps.length) (r:Vals vs us)
    (x:InCallC s s.heap.objs.size (bindL (envOfC qual scope s.heap.objs.size f cd).kindOf (ps.zip us) fun _ => none) (cellsFrom (s.heap.objs.size + 1) scope.names []) (bindC (envOfC qual scope s.heap.objs.size f cd).kindOf (ps.zip us) fun _ => none) s1) :
    Inv (cxOf CX P w K mg base N qual scope f cd A outer s H E) [] (start N vs) H s1 :=by
  have hpl : ps.length ≤ N.length :=by have := congrArg List.length S.pre; rw [List.length_take] at this; omega
  obtain ⟨h1,tk,rfl,hk⟩ := x.done
  have noA : ∀ b : Addr,b ∉ (cxOf CX P w K mg base N qual scope f cd A outer s H E).ex := fun b z => absurd (show b ∈ ([] : List Addr) from z) (by simp)
  refine ⟨⟨e0.mod,S.kind,rfl,rfl,Nat.le_refl _,fun y z c h1 h2 => ?_,fun y hy => ?_,fun y c _ h => ?_,fun _ => hd,Around.frames_deeper e0.frames,.inr ⟨rfl,rfl⟩,fun b z => absurd z (noA b),e0.bs,e0.bsz,fun b _ _ => noA b,fun b z => absurd z (noA b),e0.funs,e0.frf⟩,
    rfl,e0.bare,Un.kept hk,⟨_,x.toInCall.ns,fun i y v h1 h2 h3 => ?_⟩,fun y c h => ⟨_,x.cell y c h⟩,e0.hok.fresh (Nat.le_refl _),fun y c h => ?_,fun p hp => absurd (show p ∈ ([] : List (Addr × Obj)) from hp) (by simp),e0.hok.kept hk,?_⟩
  · exact name_of_addr x.apart (PySem.mem_of_lookup h1) (PySem.mem_of_lookup h2)
  · have hy : scope.names.lookup y = some .cell ∨ scope.names.lookup y = some .free := hy
    rcases hy with hy | hy
    · exact lZ hy
    · exact absurd rfl (S.nofree _ (PySem.mem_of_lookup hy))
  · exact Nat.le_of_lt (x.above y c (PySem.mem_of_lookup h))
  · have hi : i < vs.length :=by
      unfold start at h2
      by_cases hi : i < vs.length
      · exact hi
      · rw [List.getElem?_append_right (by simpa using hi)] at h2
        rw [List.getElem?_replicate] at h2
        split at h2 <;> cases h2
    have ha : vs[i]? = some v :=by
      unfold start at h2
      rw [List.getElem?_append_left (by simpa using hi),List.getElem?_map] at h2
      cases e : vs[i]? with
      | none => rw [e] at h2; cases h2
      | some a => rw [e] at h2; cases h2; rfl
    obtain ⟨u,hu,rv⟩ := r.get ha
    have hp : ps[i]? = some y :=by
      rw [← S.pre,List.getElem?_take_of_lt (by omega)]; exact h1
    have ndP : ps.Nodup :=by rw [← S.pre]; exact S.nd.sublist (List.take_sublist _ _)
    refine ⟨u,rv,?_⟩
    rcases S.par y (List.mem_of_getElem? hp) with k | k
    · exact .inl ⟨k,jT ndP hp hu k⟩
    · obtain ⟨c,e⟩ := lZ (n := s.heap.objs.size + 1) k
      refine .inr ⟨.inl k,c,e,?_⟩
      have q := x.cell y c e
      rw [jV ndP hp hu (by show scope.names.lookup y ≠ _; rw [k]; decide)] at q
      exact q
  · exact e0.hok.fresh (Nat.le_of_lt (x.above y c (PySem.mem_of_lookup h)))
  · unfold start
    show _ = N.length
    rw [List.length_append,List.length_map,List.length_replicate]
    omega
theorem vU {CX : CXT}{P:Program}{w:World}{K:PySem.W.Frag}{mg : Str → Option Value}{base : Heap}{k:Nat}{f:Addr}{name qual : Str}{params : Arguments}{body : List Stmt}{scope : Scope}{dV kV doc pm cdv ct oc : Value}{an od : Option Addr}
    {osl : Array (Option Value)}{N ps : List Str}{sp : Sp} (lk : K.lookup f = some ⟨oc,od,.func (PySem.W.fnOf name qual params body scope dV kV doc pm an cdv ct),osl⟩) (hcd : PySem.W.codeIn K cdv qual = true) (S:FnScope N ps scope)
    (len : ∀ vs H Q E,sp vs H Q E → vs.length = ps.length)
    (hbody : ∀ (A:Around) (outer : List Env) (s:Shared) (H:Hp) (vs : List V) (Q:VK) (E:XK),Room k (A.deeper (envOfC qual scope s.heap.objs.size f cdv)) → sp vs H Q E →
      ∃ t,PSs (cxOf CX P w K mg base N qual scope f cdv A outer s H E) body t ∧ t { nx := fun _ H' => Q .non H',rt := Q } (start N vs) H) :
    FnOk P w K mg base CX (k + 1) f (PySem.W.fnOf name qual params body scope dV kV doc pm an cdv ct) ps sp :=by
  refine ⟨len,fun A outer s H args us vs Q E hr e0 hb r hsp => ?_⟩
  have hl := len _ _ _ _ hsp
  have KX : K.In s.heap := e0.mod.kin.keeps fun b o e => (e0.bs b o e).1
  have lim : s.heap.NoLimit := e0.mod.nolimit.keeps fun b o e => (e0.bs b o e).1
  have hkind : ∀ y ∈ ps.zip us,scope.names.lookup y.1 = some .local ∨ (scope.names.lookup y.1 = some .cell ∧ ((cellsFrom (s.heap.objs.size + 1) scope.names []).lookup y.1).isSome = true) := fun ⟨n,v⟩ hy => by
    rcases S.par n (List.of_mem_zip hy).1 with q | q
    · exact .inl q
    · exact .inr ⟨q,PySem.W.cellsFrom_some _ _ _ (.inl q)⟩
  refine codeAny_call_function hr.depth (KX _ _ lk) rfl S.co S.gen rfl (PySem.W.codeRec_of KX hcd) (hb _ _ _ _ ?_)
  refine wpAny_newFunctionEnv_cells S.kind hkind fun env he s1 x => ?_
  subst he
  refine ⟨lim.keeps x.toInCall.keep,codeAny_func ?_⟩
  obtain ⟨t,ht,hq⟩ := hbody A outer s H vs Q E (hr.deeper _) hsp
  have I : Inv (cxOf CX P w K mg base N qual scope f cdv A outer s H E) [] (start N vs) H s1 := pB S hr.hd e0 hl r x
  refine wpAny_mono (ht [] s1 (start N vs) H _ I hq) (fun fl s' hs => ?_) fun e s' hs => hs
  have fin : ∀ {σ' : St}{H' : Hp}{v:V}{u:Value},Inv (cxOf CX P w K mg base N qual scope f cdv A outer s H E) [] σ' H' s' → RelV v u → Q v H' → CE outer P w H s Q u s' :=
    fun {σ' H' v u} J rv q => ⟨v,H',J.os,J.bare,J.base,J.hok,rv,q⟩
  cases fl with
  | ret u =>
    obtain ⟨v,σ',H',J,rv,q⟩ := hs
    exact fin J rv q
  | next =>
    obtain ⟨σ',H',J,q⟩ := hs
    exact fin (v := V.non) (u := Value.none) J rfl q
  | brk =>
    obtain ⟨_,_,_,q⟩ := hs
    exact False.elim q
  | cont =>
    obtain ⟨_,_,_,q⟩ := hs
    exact False.elim q
end L2
namespace L2
open PySem PySem.Spec PyProof.Rows
section
variable {X:Cx}{x:Str}{p pos : Pos}{e:Expr}{es : List Expr}{t:TA}{id T : String}{r:List V → Hp → VK → Prop}
noncomputable def tCB (r:List V → Hp → VK → Prop) (t:TA) : TE := fun σ H Q => t σ H fun vs H1 => r vs H1 Q
theorem qB (hc : CallR X (.builtin id) r) (hg : Gl X x) (hm : X.mg x = none) (hv : bootBuiltins x = some (.builtin id)) (ha : PA X (e :: es) t) (hn : x ≠ "__name__" := by decide) (hdb : (x == ("__debug__" : Str)) = false :=by decide)
    (he : starEach (e :: es) X.env = (false,eval e X.env) :: starEach es X.env :=by rfl) (hpl : (backTo pos (starEach es X.env)).any (·.1) = false :=by rfl) : PE X (.Call (.Name x p) (e :: es) [] pos) (tCB r t) :=by
  intro pins s σ H Q I h
  refine wpAny_Call_Name_kw (dc I hg hm hv ?_ hn hdb)
  exact PyProof.Rows.callWith_builtin1 (thn (ha pos pins s σ H _ I h) fun us s1 ⟨vs,H1,I1,r1,q1⟩ => hc pins s1 σ H1 vs us Q I1 r1 q1) he hpl
theorem jH (hc : CallR X (.type T) r) (hg : Gl X x) (hm : X.mg x = none) (hv : bootBuiltins x = some (.type T)) (ha : PA X (e :: es) t) (hn : x ≠ "__name__" := by decide) (hdb : (x == ("__debug__" : Str)) = false :=by decide)
    (he : starEach (e :: es) X.env = (false,eval e X.env) :: starEach es X.env :=by rfl) (hpl : (backTo pos (starEach es X.env)).any (·.1) = false :=by rfl) : PE X (.Call (.Name x p) (e :: es) [] pos) (tCB r t) :=by
  intro pins s σ H Q I h
  refine wpAny_Call_Name_kw (dc I hg hm hv ?_ hn hdb)
  exact PyProof.Rows.callWith_type1 (thn (ha pos pins s σ H _ I h) fun us s1 ⟨vs,H1,I1,r1,q1⟩ => hc pins s1 σ H1 vs us Q I1 r1 q1) he hpl
end
end L2
namespace HT
open PySem PyProof.Rows
section
open PySem.SeqAt
open PySem.AutoSeq1 (wpAny_loadPart')
open PySem.MeetsSeq PySem.MeetsSeq2 PySem.MeetsSeq3
end
section
variable {prog : Program}{w:World}{A:Around}{E:Value → Shared → Prop}{s:Shared}
theorem cat_tup {t b : Addr}{vs ws : List Value}{Q:Value → Shared → Prop} (ht : IsTup s.heap t vs.toArray) (hb : IsTup s.heap b ws.toArray) (hv : vs ≠ [])
    (h1 : ws = [] → Q (.ref t) s) (h2 : ws ≠ [] → Q (.ref s.heap.objs.size) { s with heap := s.heap.push { cls := .type "tuple",data := .seq (vs ++ ws).toArray } })
    (hsz : vs.length + ws.length ≤ sizeLine) : wpAny (model prog w) A (binaryOp .Add (.ref t) (.ref b)) Q E s :=by
  obtain ⟨⟨cls,dd,data,sl⟩,ho,hc,n,hd⟩ := id ht
  obtain ⟨⟨cls2,dd2,data2,sl2⟩,ho2,hc2,n2,hd2⟩ := id hb
  simp only at hc hd hc2 hd2
  subst hc hd hc2 hd2
  have e : vs.toArray ++ ws.toArray = (vs ++ ws).toArray :=by simp
  by_cases hw : ws = []
  · exact concat_meets ⟨_,ho,rfl⟩ ⟨_,ho2,rfl⟩ noFill_tuple_add seq_tuple_add PySem.F.slot_tuple_add PySem.F.entry_tuple_add (PySem.F.args_tuple_add_2 _ _)
      (tuple_addW1 t b vs.toArray ws.toArray n n2 dd dd2 sl sl2 (by simpa using hv) (by simp [hw])) ⟨ho,ho2,h1 hw⟩
  · refine concat_meets ⟨_,ho,rfl⟩ ⟨_,ho2,rfl⟩ noFill_tuple_add seq_tuple_add PySem.F.slot_tuple_add PySem.F.entry_tuple_add (PySem.F.args_tuple_add_2 _ _)
      (tuple_addW2 t b vs.toArray ws.toArray n n2 dd dd2 sl sl2 (by simpa using hv) (by simpa using hw) (by rw [List.size_toArray,List.size_toArray]; exact hsz)) ⟨ho,ho2,?_⟩
    rw [e]
    exact h2 hw
noncomputable def sIx (n d : Nat) : Option Int → Nat
  | none => d
  | some v => if v < 0 then (v + (n:Int)).toNat else min v.toNat n
theorem ui (n d : Nat) (hd : d ≤ n) (o:Option Int) : sIx n d o ≤ n :=by
  cases o with
  | none => exact hd
  | some v =>
    show (if v < 0 then (v + (n:Int)).toNat else min v.toNat n) ≤ n
    by_cases hv : v < 0
    · rw [if_pos hv]; omega
    · rw [if_neg hv]; exact Nat.min_le_right _ _
theorem oA (v:Int) (n d : Nat) : (if v < 0 then max (v + (n:Int)) 0 else min v (n:Int)) = ((sIx n d (some v) : Nat) : Int) :=by
  show (if v < 0 then max (v + (n:Int)) 0 else min v (n:Int)) = (((if v < 0 then (v + (n:Int)).toNat else min v.toNat n) : Nat) : Int)
  by_cases hv : v < 0
  · simp only [if_pos hv]; omega
  · simp only [if_neg hv]; omega
theorem nB (lo hi : Option Int) (n:Nat) : Builtin.Slice.sliceAdjust lo hi 1 (n:Int) = (((sIx n 0 lo : Nat) : Int),((sIx n n hi : Nat) : Int)) :=by
  have h1 : ¬ ((1 : Int) < 0) :=by omega
  unfold Builtin.Slice.sliceAdjust
  simp only [h1,if_false]
  refine Prod.ext ?_ ?_
  · cases lo with
    | none => rfl
    | some v => exact oA v n 0
  · cases hi with
    | none => rfl
    | some v => exact oA v n n
theorem mz (i j : Nat) : Builtin.Slice.slicePlaces (i:Int) (j:Int) 1 = j - i :=by
  unfold Builtin.Slice.slicePlaces
  have h1 : (1 : Int) > 0 :=by omega
  simp only [h1,if_true,Int.ediv_one]
  split <;> omega
theorem iM {v:Value}{o:Option Int}{Q:Option Int → Shared → Prop} (p:IsPart v o) (h:Q o s) : wpAny (model prog w) A (Builtin.Slice.slicePartIndex v) Q E s :=by
  cases p with
  | none => exact slicePart_none h
  | int i t => exact slicePart_int h
theorem gK {sl : Addr}{vl vu : Value}{lo hi : Option Int}{n:Nat}{Q:Int × Int × Nat → Shared → Prop} (hs : s.heap.IsSliceOf sl vl vu .none) (pl : IsPart vl lo) (pu : IsPart vu hi)
    (h:Q (((sIx n 0 lo : Nat) : Int),1,sIx n n hi - sIx n 0 lo) s) : wpAny (model prog w) A (Builtin.Slice.sliceApplied (.ref sl) (pure (n:Int))) Q E s :=by
  obtain ⟨os,hos,hcs,hds⟩ := id hs
  unfold Builtin.Slice.sliceApplied Builtin.Slice.sliceFields
  refine wpAny_bind (wpAny_bind (wpAny_field hos hds (x := vl) rfl (wpAny_bind (wpAny_field hos hds (x := vu) rfl (wpAny_bind (wpAny_field hos hds (x := .none) rfl (wpAny_pure ?_)))))))
  refine wpAny_bind (slicePart_none ?_)
  show wpAny _ _ (if ((1 : Int) == 0) = true then _ else _) _ _ s
  rw [if_neg (by decide)]
  refine wpAny_bind (iM pl (wpAny_bind (iM pu (wpAny_bind (wpAny_pure ?_)))))
  show wpAny _ _ (match Builtin.Slice.sliceAdjust lo hi 1 (n:Int) with | (lo,hi) => pure (lo,(1 : Int),Builtin.Slice.slicePlaces lo hi 1)) _ _ s
  rw [nB lo hi n]
  show wpAny _ _ (pure (((sIx n 0 lo : Nat) : Int),(1 : Int),Builtin.Slice.slicePlaces ((sIx n 0 lo : Nat) : Int) ((sIx n n hi : Nat) : Int) 1)) _ _ s
  rw [mz]
  exact wpAny_pure h
theorem ql (xs : Array Value) (i k : Nat) : ((List.range k).filterMap fun (m:Nat) => xs[((i:Int) + (m:Int) * 1).toNat]?).toArray = ((xs.toList.drop i).take k).toArray :=by
  have e : (fun (m:Nat) => xs[((i:Int) + (m:Int) * 1).toNat]?) = fun m => xs[i + m]? := by
    funext m
    have : ((i:Int) + (m:Int) * 1).toNat = i + m :=by omega
    rw [this]
  rw [e]
  have := pick_run xs i k
  rw [List.filterMap_map] at this
  have e2 : ((fun x => xs[x]?) ∘ fun x => i + x) = fun m => xs[i + m]? := rfl
  rw [e2] at this
  rw [this]
theorem getItem_tuple_cut {t sl : Addr}{items : Array Value}{vl vu : Value}{lo hi : Option Int}{Q:Value → Shared → Prop} (ht : IsTup s.heap t items) (hs : s.heap.IsSliceOf sl vl vu .none) (pl : IsPart vl lo) (pu : IsPart vu hi)
    (hw : ¬ (sIx items.size 0 lo = 0 ∧ sIx items.size items.size hi = items.size))
    (h:Q (.ref s.heap.objs.size) { s with heap := s.heap.push { cls := .type "tuple",data := .seq ((items.toList.drop (sIx items.size 0 lo)).take (sIx items.size items.size hi - sIx items.size 0 lo)).toArray } })
    (hsz : items.size ≤ sizeLine) : wpAny (model prog w) A (getItem (.ref t) (.ref sl)) Q E s :=by
  have htake : sizeOk (.seq ((items.toList.drop (sIx items.size 0 lo)).take (sIx items.size items.size hi - sIx items.size 0 lo)).toArray) :=by
    show ((items.toList.drop (sIx items.size 0 lo)).take (sIx items.size items.size hi - sIx items.size 0 lo)).toArray.size ≤ sizeLine
    rw [List.size_toArray,List.length_take,List.length_drop,Array.length_toList]
    omega
  have hj : sIx items.size items.size hi ≤ items.size := ui _ _ (Nat.le_refl _) hi
  obtain ⟨os,hos,hcs,hds⟩ := id hs
  have hTs : s.TypeIs (.ref sl) "slice" := ⟨os,hos,hcs⟩
  unfold getItem
  try with_reducible refine wpAny_holding ?_
  first | refine wpAny_bind (wpAny_pure ?_) | skip
  refine wpAny_bind (wpAny_sequenceKey ht.typeIs (by decide) ?_)
  refine wpAny_bind (wpAny_callSpecial?_slot (name := Str.ofString "__getitem__") ht.typeIs PyProof.Rows.slot_tuple_getitem
    (wpAny_call_entry PyProof.Rows.slot_tuple_getitem ht.typeIs entry_tuple_getitem ?_ (args_tuple_getitem _ _)))
  show wpAny _ _ (Builtin.Tuple.tupleItemsOf (.ref t) >>= _) _ _ s
  refine wpAny_bind (tupleItemsOf_ ht ?_)
  refine wpAny_bind (wpAny_typeOf hTs ?_)
  rw [if_pos (by decide)]
  refine wpAny_bind (gK hs pl pu ?_)
  have hno : ¬ ((((sIx items.size 0 lo : Nat) : Int) == 0 && (1 : Int) == 1 && (sIx items.size items.size hi - sIx items.size 0 lo) == items.size) = true) :=by
    intro q
    rw [Bool.and_eq_true,Bool.and_eq_true] at q
    have q1 : ((sIx items.size 0 lo : Nat) : Int) = 0 := eq_of_beq q.1.1
    have q2 : sIx items.size items.size hi - sIx items.size 0 lo = items.size := eq_of_beq q.2
    exact hw ⟨by omega,by omega⟩
  show wpAny _ _ (if (((sIx items.size 0 lo : Nat) : Int) == 0 && (1 : Int) == 1 && (sIx items.size items.size hi - sIx items.size 0 lo) == items.size) = true then _ else _) _ _ s
  rw [if_neg hno,ql]
  first
    | exact wpAny_bind (m := Builtin.Tuple.tupleExact _) (wpAny_newObj_type (wpAny_pure ⟨_,rfl,wpAny_pure h⟩) htake)
    | exact wpAny_bind (m := Builtin.Tuple.tupleExact _) (wpAny_newObj_type (wpAny_bind (wpAny_pure (wpAny_pure ⟨_,rfl,wpAny_pure h⟩))) htake)
    | exact wpAny_bind (wpAny_bind (m := Builtin.Tuple.tupleExact _) (wpAny_newObj_type (wpAny_pure (wpAny_pure ⟨_,rfl,wpAny_pure h⟩)) htake))
    | exact wpAny_bind (wpAny_bind (m := Builtin.Tuple.tupleExact _) (wpAny_newObj_type (wpAny_pure ⟨_,rfl,wpAny_pure h⟩) htake))
end
end HT
namespace L2
open PySem PySem.Spec PyProof.Rows
noncomputable abbrev TO := St → Hp → (Option Int → Hp → Prop) → Prop
noncomputable def PO (X:Cx) (e:Option Expr) (t:TO) : Prop :=
  ∀ (pins : List (Addr × Obj)) (s:Shared) (σ : St) (H:Hp) (Q:Option Int → Hp → Prop),Inv X pins σ H s → t σ H Q →
    wpAny (model X.prog X.w) X.A (evalPart e X.env) (fun u s' => ∃ o H',Inv X pins σ H' s' ∧ IsPart u o ∧ Q o H') X.xe s
noncomputable def rZ : TO := fun _ H Q => Q none H
noncomputable def tPart (t:TE) : TO := fun σ H Q => t σ H fun x H1 => ∃ i,x = .int i ∧ Q (some i) H1
section
variable {X:Cx}{e:Expr}{te : TE}{lo hi : Option Expr}{tl th : TO}{pos p2 : Pos}
theorem po_none : PO X none rZ :=by
  intro pins s σ H Q I h
  rw [evalPart_none]
  exact wpAny_pure ⟨none,H,I,.none,h⟩
theorem sn (h:PE X e te) : PO X (some e) (tPart te) :=by
  intro pins s σ H Q I hw
  rw [evalPart_some]
  refine thn (h pins s σ H _ I hw) fun u s1 qz => ?_
  obtain ⟨x,H1,I1,r1,q1⟩ := qz
  obtain ⟨i,rfl,q⟩ := q1
  obtain ⟨t,rfl⟩ := r1
  exact ⟨some i,H1,I1,.int i t,q⟩
noncomputable def SlR (X:Cx) (r:V → Option Int → Option Int → Hp → VK → Prop) : Prop :=
  ∀ (pins : List (Addr × Obj)) (s:Shared) (σ : St) (H:Hp) (x:V) (v vl vu : Value) (lo hi : Option Int) (sl : Addr) (Q:VK),Inv X pins σ H s → RelV x v → s.heap.IsSliceOf sl vl vu .none → IsPart vl lo → IsPart vu hi → r x lo hi H Q →
    ∃ T id,typeLookup (.type T) "__getitem__" = pure (some (.builtin id)) ∧ s.TypeIs v T ∧ wpAny (model X.prog X.w) X.A (getItem v (.ref sl)) (EP X pins σ Q) X.xe s
theorem SlR.or {r r' : V → Option Int → Option Int → Hp → VK → Prop} (h:SlR X r) (h' : SlR X r') : SlR X (fun x lo hi H Q => r x lo hi H Q ∨ r' x lo hi H Q) :=by
  intro pins s σ H x v vl vu lo hi sl Q I rx hs pl pu q
  rcases q with q | q
  · exact h pins s σ H x v vl vu lo hi sl Q I rx hs pl pu q
  · exact h' pins s σ H x v vl vu lo hi sl Q I rx hs pl pu q
noncomputable def tSl (r:V → Option Int → Option Int → Hp → VK → Prop) (te : TE) (tl th : TO) : TE := fun σ H Q => te σ H fun x H1 => tl σ H1 fun l H2 => th σ H2 fun u H3 => r x l u H3 Q
theorem qt {r:V → Option Int → Option Int → Hp → VK → Prop} (hr : SlR X r) (he : PE X e te) (hl : PO X lo tl) (hu : PO X hi th) : PE X (.Subscript e (.Slice lo hi none p2) pos) (tSl r te tl th) :=by
  intro pins s σ H Q I h
  refine Subscript_ (thn (he pins s σ H _ I h) fun v s1 qz => ?_)
  obtain ⟨x,H1,I1,r1,q1⟩ := qz
  refine wpAny_Slice (thn (hl pins s1 σ H1 _ I1 q1) fun vl s2 ⟨l,H2,I2,pl,q2⟩ => thn (hu pins s2 σ H2 _ I2 q2) fun vu s3 qz => ?_)
  obtain ⟨u,H3,I3,pu,q3⟩ := qz
  rw [evalPart_none]
  refine wpAny_pure ?_
  have I4 : Inv X pins σ H3 { s3 with heap := s3.heap.push { cls := .type "slice",data := .fields #[vl,vu,.none] } } := I3.kept (t' := s3.toks) fun b ob q => Heap.get?_push_of_some _ q
  obtain ⟨T,id,hT,ht,hg⟩ := hr pins { s3 with heap := s3.heap.push { cls := .type "slice",data := .fields #[vl,vu,.none] } } σ H3 x v vl vu l u s3.heap.objs.size Q I4 r1 (Heap.IsSliceOf.new ..) pl pu q3
  show wpAny (model X.prog X.w) X.A (subscriptTail e (.Slice lo hi none p2) v (.ref s3.heap.objs.size)) (EP X pins σ Q) X.xe { s3 with heap := s3.heap.push { cls := .type "slice",data := .fields #[vl,vu,.none] } }
  exact tail_any (ops := [.ref s3.heap.objs.size,v]) ht hT hg (by with_unfolding_all rfl)
noncomputable def cutV (xs : List V) (lo hi : Option Int) : List V := (xs.drop (HT.sIx xs.length 0 lo)).take (HT.sIx xs.length xs.length hi - HT.sIx xs.length 0 lo)
theorem hJ (xs : List V) (lo hi : Option Int) : (cutV xs lo hi).length ≤ xs.length :=by
  unfold cutV
  rw [List.length_take,List.length_drop]
  omega
noncomputable def rSlT (K:PySem.W.Frag) : V → Option Int → Option Int → Hp → VK → Prop := fun x lo hi H Q => ∃ a xs,x = .ref a ∧ SqT K H a xs ∧
  ¬ (HT.sIx xs.length 0 lo = 0 ∧ HT.sIx xs.length xs.length hi = xs.length) ∧ ∀ p,H p = none → Q (.ref p) (upd H p (.tup (cutV xs lo hi)))
theorem sl_tup : SlR X (rSlT X.K) :=by
  intro pins s σ H x v vl vu lo hi sl Q I rx hs pl pu h
  obtain ⟨a,xs,rfl,hx,hw,q⟩ := h
  cases rx
  obtain ⟨its,r,ht,hz⟩ := I.tuple hx
  have hlen : its.toArray.size = xs.length :=by rw [List.size_toArray]; exact r.length.symm
  refine ⟨"tuple",_,PyProof.Rows.slot_tuple_getitem.lookup,ht.typeIs,?_⟩
  refine HT.getItem_tuple_cut ht hs pl pu (by rw [hlen]; exact hw) ?_ (by rw [hlen]; exact hz)
  rw [hlen]
  refine ⟨.ref s.heap.objs.size,_,I.laid (t' := s.toks) (o := .tup (cutV xs lo hi)) (fun b ob q => Heap.get?_push_of_some _ q) (Nat.le_refl _) ?_,rfl,q _ (I.hok.fresh (Nat.le_refl _))⟩
  exact ⟨Nat.le_trans (hJ xs lo hi) hz,_,(r.drop (HT.sIx xs.length 0 lo)).take (HT.sIx xs.length xs.length hi - HT.sIx xs.length 0 lo),IsTupD.new _ _⟩
noncomputable def rCatT (K:PySem.W.Frag) : R2 := fun x y H Q => ∃ a b xs ys,x = .ref a ∧ y = .ref b ∧ SqT K H a xs ∧ SqT K H b ys ∧ xs ≠ [] ∧ xs.length + ys.length ≤ sizeLine ∧
  (ys = [] → Q (.ref a) H) ∧ (ys ≠ [] → ∀ p,H p = none → Q (.ref p) (upd H p (.tup (xs ++ ys))))
theorem Vals.nil_iff {xs : List V}{us : List Value} (r:Vals xs us) : us = [] ↔ xs = [] :=by
  cases r with
  | nil => simp
  | cons _ _ => simp
theorem op_catT : OpR X (binaryOp .Add) (rCatT X.K) :=by
  intro pins s σ H x y v u Q I rx ry h
  obtain ⟨a,b,xs,ys,rfl,rfl,ha,hb,hx,hz,q1,q2⟩ := h
  cases rx
  cases ry
  obtain ⟨its,r1,p1,_⟩ := I.tuple ha
  obtain ⟨its2,r2,p2,_⟩ := I.tuple hb
  refine HT.cat_tup p1 p2 (fun z => hx (r1.nil_iff.mp z)) (fun z => ⟨.ref a,H,I,rfl,q1 (r2.nil_iff.mp z)⟩) (fun z => ?_) (by rw [← r1.length,← r2.length]; exact hz)
  refine ⟨.ref s.heap.objs.size,_,I.laid (t' := s.toks) (o := .tup (xs ++ ys)) (fun b ob q => Heap.get?_push_of_some _ q) (Nat.le_refl _) ?_,rfl,q2 (fun w => z (r2.nil_iff.mpr w)) _ (I.hok.fresh (Nat.le_refl _))⟩
  exact ⟨by rw [List.length_append]; exact hz,_,r1.append r2,IsTupD.new _ _⟩
end
end L2
namespace L2
open PySem PySem.Spec PyProof.Rows
noncomputable def ixN (n:Nat) (i:Int) : Option Nat := if 0 ≤ i then (if i < n then some i.toNat else none) else if -(n:Int) ≤ i then some (i + n).toNat else none
noncomputable def atI {α : Type} (xs : List α) (i:Int) : Option α := (ixN xs.length i).bind fun j => xs[j]?
theorem og {n:Nat}{i:Int}{j:Nat} (h:ixN n i = some j) : seqIndex? i n = some j ∧ j < n ∧ -(n:Int) ≤ i ∧ i < n :=by
  unfold ixN at h
  by_cases h0 : 0 ≤ i
  · rw [if_pos h0] at h
    by_cases h1 : i < n
    · rw [if_pos h1] at h
      have e : i.toNat = j := Option.some.inj h
      exact ⟨by rw [seqIndex_of h0 h1,e],by omega,by omega,h1⟩
    · rw [if_neg h1] at h; cases h
  · rw [if_neg h0] at h
    by_cases h1 : -(n:Int) ≤ i
    · rw [if_pos h1] at h
      have e : (i + n).toNat = j := Option.some.inj h
      exact ⟨by rw [seqIndex_neg (by omega) h1,e],by omega,h1,by omega⟩
    · rw [if_neg h1] at h; cases h
theorem kS {α : Type}{xs : List α}{i:Int}{v:α} (h:atI xs i = some v) : ∃ j,seqIndex? i xs.length = some j ∧ xs[j]? = some v ∧ j < xs.length ∧ -(xs.length : Int) ≤ i ∧ i < xs.length :=by
  unfold atI at h
  cases e : ixN xs.length i with
  | none => rw [e] at h; cases h
  | some j =>
    rw [e] at h
    obtain ⟨h1,h2,h3,h4⟩ := og e
    exact ⟨j,h1,h,h2,h3,h4⟩
theorem oE {α : Type}{xs : List α}{j:Nat}{v:α} (h:xs[j]? = some v) : atI xs (j:Int) = some v :=by
  have hj : j < xs.length := (List.getElem?_eq_some_iff.mp h).1
  have e : ixN xs.length (j:Int) = some j :=by
    unfold ixN
    rw [if_pos (by omega),if_pos (by omega)]; simp
  unfold atI; rw [e]; exact h
noncomputable def iB (b:Expr) : Prop := ∀ o i,subscripted b false o i = operate [o,i] (getItem o i)
noncomputable def IxR (X:Cx) (r:R2) : Prop :=
  ∀ (value slice : Expr) (pins : List (Addr × Obj)) (s:Shared) (σ : St) (H:Hp) (x y : V) (v u : Value) (Q:VK),Inv X pins σ H s → RelV x v → RelV y u → r x y H Q →
    subscripted slice false v u = operate [v,u] (getItem v u) → wpAny (model X.prog X.w) X.A (subscriptTail value slice v u) (EP X pins σ Q) X.xe s
noncomputable def MtR (X:Cx) (id : String) (r:V → List V → Hp → VK → Prop) : Prop :=
  ∀ (pins : List (Addr × Obj)) (s:Shared) (σ : St) (H:Hp) (x:V) (xs : List V) (v:Value) (us : List Value) (Q:VK),Inv X pins σ H s → RelV x v → Vals xs us → r x xs H Q →
    wpAny (model X.prog X.w) X.A (call (.builtin id) (v :: us)) (EP X pins σ Q) X.xe s
section
variable {X:Cx}{a b : Expr}{ta tb : TE}{pos : Pos}
theorem IxR.or {r r' : R2} (h:IxR X r) (h' : IxR X r') : IxR X (fun x y H Q => r x y H Q ∨ r' x y H Q) :=by
  intro value slice pins s σ H x y v u Q I rx ry q hs
  rcases q with q | q
  · exact h value slice pins s σ H x y v u Q I rx ry q hs
  · exact h' value slice pins s σ H x y v u Q I rx ry q hs
theorem qw {r:R2} (hr : IxR X r) (ha : PE X a ta) (hb : PE X b tb) (hs : iB b) : PE X (.Subscript a b pos) (tOp r ta tb) :=by
  intro pins s σ H Q I h
  exact Subscript_ (binT ha hb I h fun v u s2 x y H2 I2 rx ry q => hr a b pins s2 σ H2 x y v u Q I2 rx ry q (hs _ _))
noncomputable def rIxL (K:PySem.W.Frag) : R2 := fun x y H Q => ∃ p xs i v,x = .ref p ∧ y = .int i ∧ SqL K H p xs ∧ atI xs i = some v ∧ Q v H
noncomputable def rIxT (K:PySem.W.Frag) : R2 := fun x y H Q => ∃ p xs i v,x = .ref p ∧ y = .int i ∧ SqT K H p xs ∧ atI xs i = some v ∧ Q v H
noncomputable def rIxS : R2 := fun x y H Q => ∃ z i c,x = .str z ∧ y = .int i ∧ z.length ≤ sizeLine ∧ atI z.cps.toList i = some c ∧ Q (.str ⟨#[c]⟩) H
theorem ix_list : IxR X (rIxL X.K) :=by
  intro value slice pins s σ H x y v u Q I rx ry h hs
  obtain ⟨p,xs,i,z,rfl,rfl,hq,he,q⟩ := h
  cases rx
  obtain ⟨t,rfl⟩ := ry
  obtain ⟨its,r,pl,hz⟩ := I.list hq
  obtain ⟨j,h1,h2,h3,h4,h5⟩ := kS he
  obtain ⟨w,ew,rw'⟩ := r.get h2
  have hl := r.length
  have hn := gX
  have fin : EP X pins σ Q w s := ⟨z,H,I,rw',q⟩
  by_cases h0 : 0 ≤ i
  · have hj : i.toNat = j :=by
      rw [seqIndex_of h0 h5] at h1
      exact Option.some.inj h1
    exact item_listR pl.isList h0 (by omega) (by rw [hj]; simpa using ew) fin hs
  · have hj : (i + (its.toArray.size : Int)).toNat = j :=by
      rw [seqIndex_neg (by omega) h4] at h1
      rw [List.size_toArray,← hl]
      exact Option.some.inj h1
    exact subscriptTail_builtinR (x := w) pl.isList.typeIs slot_list_getitem.lookup
      (wpAny_getItem_list_neg (Q := fun r s' => r = w ∧ EP X pins σ Q r s') pl.isList (by omega) (by rw [List.size_toArray] <;> omega) (by omega) (by rw [hj]; simpa using ew) ⟨rfl,fin⟩) hs
theorem ix_tup : IxR X (rIxT X.K) :=by
  intro value slice pins s σ H x y v u Q I rx ry h hs
  obtain ⟨p,xs,i,z,rfl,rfl,hq,he,q⟩ := h
  cases rx
  obtain ⟨t,rfl⟩ := ry
  obtain ⟨its,r,pl,hz⟩ := I.tuple hq
  obtain ⟨j,h1,h2,h3,h4,h5⟩ := kS he
  obtain ⟨w,ew,rw'⟩ := r.get h2
  have hl := r.length
  have hn := gX
  have fin : EP X pins σ Q w s := ⟨z,H,I,rw',q⟩
  exact subscriptTail_builtinR (x := w) pl.typeIs slot_tuple_getitem.lookup
    (getItem_tuple (j := j) (Q := fun r s' => r = w ∧ EP X pins σ Q r s') pl (by omega) (by omega) (by rw [List.size_toArray,← hl]; exact h1) (by simpa using ew) ⟨rfl,fin⟩) hs
theorem u7 : IxR X rIxS :=by
  intro value slice pins s σ H x y v u Q I rx ry h hs
  obtain ⟨z,i,c,rfl,rfl,hz,he,q⟩ := h
  obtain ⟨t,rfl⟩ := rx
  obtain ⟨t',rfl⟩ := ry
  obtain ⟨j,h1,h2,h3,h4,h5⟩ := kS he
  have hl : z.cps.toList.length = z.length :=by simp [Str.length]
  rw [hl] at h1 h4 h5
  have hn := gX
  exact tail_any (typeIs_str s z t) slot_str_getitem.lookup (getItem_str (c := c) (by
    have e1 : decide (i < -(2 ^ 63 : Int)) = false := decide_eq_false (by omega)
    have e2 : decide (i ≥ 2 ^ 63) = false := decide_eq_false (by omega)
    rw [e1,e2,Bool.or_false]) (by rw [h1]; simpa using h2) ⟨.str ⟨#[c]⟩,H,I.tok _,⟨_,rfl⟩,q⟩) hs
noncomputable def rIx (K:PySem.W.Frag) : R2 := fun x y H Q => rIxL K x y H Q ∨ rIxT K x y H Q ∨ rIxS x y H Q
theorem ix_seq : IxR X (rIx X.K) := ix_list.or (ix_tup.or u7)
theorem mY (its : List Value) (n j : Nat) (u:Value) : Obj.mapSeq (·.setIfInBounds j u) { cls := .type "list",data := .seq its.toArray n } = { cls := .type "list",data := .seq (its.set j u).toArray n } :=by
  simp [Obj.mapSeq]
theorem Inv.lst {pins : List (Addr × Obj)}{σ : St}{H:Hp}{s:Shared}{p:Addr}{xs : List V} (I:Inv X pins σ H s) (h:H p = some (.lst xs)) :
    ∃ (its : List Value) (n:Nat),Vals xs its ∧ s.heap.get? p = some { cls := .type "list",data := .seq its.toArray n } ∧ xs.length ≤ sizeLine :=by
  obtain ⟨z,its,n,r,e⟩ := I.hok p _ h
  exact ⟨its,n,r,e,z⟩
theorem Inv.lstUpd {pins : List (Addr × Obj)}{σ : St}{H:Hp}{s:Shared}{p:Addr}{xs ys : List V}{its its' : List Value}{n n' : Nat}{f:Obj → Obj} (I:Inv X pins σ H s) (h:H p = some (.lst xs))
    (ho : s.heap.get? p = some { cls := .type "list",data := .seq its.toArray n }) (hf : f { cls := .type "list",data := .seq its.toArray n } = { cls := .type "list",data := .seq its'.toArray n' }) (r:Vals ys its') (hz : ys.length ≤ sizeLine) (t:Nat) :
    Inv X pins σ (upd H p (.lst ys)) { s with heap := s.heap.update p f,toks := t } :=by
  have e : (s.heap.update p f).get? p = some { cls := .type "list",data := .seq its'.toArray n' } :=by
    rw [Heap.get?_update_self f ho (by rw [hf] <;> rfl),hf]
  refine I.write (x := p) (e := p) (by rw [h]; trivial) (.inl rfl) (fun b u hb q => (Heap.get?_update_other _ _ (Ne.symm hb)).trans q) ⟨_,e⟩ ?_
  exact ⟨hz,its',n',r,e⟩
noncomputable def rSetL : V → V → V → Hp → (Hp → Prop) → Prop := fun o i v H Q => ∃ p xs k j,o = .ref p ∧ i = .int k ∧ H p = some (.lst xs) ∧ ixN xs.length k = some j ∧ Q (upd H p (.lst (xs.set j v)))
theorem set_list : PSet X rSetL :=by
  intro pins s σ H o i v ov iv u Q I ro ri rv h
  obtain ⟨p,xs,k,j,rfl,rfl,hp,hj,q⟩ := h
  cases ro
  obtain ⟨t,rfl⟩ := ri
  obtain ⟨its,n,r,ho,hz⟩ := I.lst hp
  obtain ⟨h1,h2,h3,h4⟩ := og hj
  have hl := r.length
  have hn := gX
  have I' : Inv X pins σ (upd H p (.lst (xs.set j v))) { s with heap := s.heap.update p (Obj.mapSeq (·.setIfInBounds j u)) } :=
    I.lstUpd hp ho (mY its n j u) (r.set rv j) (by rw [List.length_set]; exact hz) s.toks
  by_cases h0 : 0 ≤ k
  · have hk : k.toNat = j :=by
      rw [seqIndex_of h0 h4] at h1
      exact Option.some.inj h1
    exact PySem.W.ki_setAt ho h0 (by omega) (by rw [List.size_toArray,← hl]; exact h4) (by rw [hk]; exact ⟨_,I',q⟩)
  · have hk : (k + (its.toArray.size : Int)).toNat = j :=by
      rw [seqIndex_neg (by omega) h3] at h1
      rw [List.size_toArray,← hl]
      exact Option.some.inj h1
    exact PySem.W.ki_setBack ho (by omega) (by rw [List.size_toArray,← hl]; exact h3) (by omega) (by rw [hk]; exact ⟨_,I',q⟩)
theorem jZ (lo hi : Option Int) (n:Nat) : (sliceBounds lo hi none n).1 = ((HT.sIx n 0 lo : Nat) : Int) ∧ (sliceBounds lo hi none n).2.1 = ((HT.sIx n n hi : Nat) : Int) ∧ (sliceBounds lo hi none n).2.2 = 1 :=by
  refine ⟨?_,?_,rfl⟩
  · cases lo with
    | none => simp [sliceBounds,HT.sIx]
    | some i =>
      simp only [sliceBounds,HT.sIx,Option.getD_none,show (1 : Int) > 0 by decide,if_true]
      by_cases h : i < 0
      · simp only [h,if_true] <;> omega
      · simp only [h,if_false] <;> omega
  · cases hi with
    | none => simp [sliceBounds,HT.sIx]
    | some i =>
      simp only [sliceBounds,HT.sIx,Option.getD_none,show (1 : Int) > 0 by decide,if_true]
      by_cases h : i < 0
      · simp only [h,if_true] <;> omega
      · simp only [h,if_false] <;> omega
theorem ji (its : List Value) (lo hi : Option Int) : slicePick its.toArray lo hi none = ((its.drop (HT.sIx its.length 0 lo)).take (HT.sIx its.length its.length hi - HT.sIx its.length 0 lo)).toArray :=by
  obtain ⟨h1,h2,h3⟩ := jZ lo hi its.toArray.size
  unfold slicePick
  rw [h1,h2,h3]
  simp only [sliceRange_one,pick_run,List.size_toArray] <;> rfl
noncomputable def rSlL (K:PySem.W.Frag) : V → Option Int → Option Int → Hp → VK → Prop := fun x lo hi H Q => ∃ a xs,x = .ref a ∧ SqL K H a xs ∧ ∀ p,H p = none → Q (.ref p) (upd H p (.lst (cutV xs lo hi)))
theorem r6 : SlR X (rSlL X.K) :=by
  intro pins s σ H x v vl vu lo hi sl Q I rx hs pl pu h
  obtain ⟨a,xs,rfl,hx,q⟩ := h
  cases rx
  obtain ⟨its,r,ht,hz⟩ := I.list hx
  have hlen := r.length
  refine ⟨"list",_,slot_list_getitem.lookup,ht.isList.typeIs,?_⟩
  refine wpAny_getItem_list_slice ht.isList hs pl pu .none (by simp) ?_ (by rw [List.size_toArray] <;> omega)
  rw [ji,← hlen]
  refine ⟨.ref s.heap.objs.size,_,I.laid (t' := s.toks) (o := .lst (cutV xs lo hi)) (fun b ob q => Heap.get?_push_of_some _ q) (Nat.le_refl _) ?_,rfl,q _ (I.hok.fresh (Nat.le_refl _))⟩
  exact ⟨Nat.le_trans (hJ xs lo hi) hz,_,0,(r.drop (HT.sIx xs.length 0 lo)).take (HT.sIx xs.length xs.length hi - HT.sIx xs.length 0 lo),Heap.get?_push_size _ rfl⟩
noncomputable def flatV : V → Bool
  | .non => true
  | .bl _ => true
  | .int _ => true
  | .str _ => true
  | _ => false
noncomputable def eqV : V → V → Bool
  | .non,.non => true
  | .bl a,.bl b => a == b
  | .bl a,.int b => (if a then 1 else 0) == b
  | .int a,.bl b => a == (if b then 1 else 0)
  | .int a,.int b => a == b
  | .str a,.str b => a == b
  | _,_ => false
theorem vd {A:Around}{s:Shared}{y x : V}{u v : Value} (ry : RelV y u) (rx : RelV x v) (fy : flatV y = true) (fx : flatV x = true) : SeqAt.EqAt A s u v (eqV y x) :=by
  cases y with
  | non =>
    cases ry
    cases x with
    | non => cases rx; exact SeqAt.EqAt.same _
    | bl b => cases rx; exact SeqAt.EqAt.none_bool b
    | int b => obtain ⟨t,rfl⟩ := rx; exact SeqAt.EqAt.none_int b t
    | str b => obtain ⟨t,rfl⟩ := rx; exact SeqAt.EqAt.none_str b t
    | _ => exact absurd (show false = true from fx) Bool.false_ne_true
  | bl a =>
    cases ry
    cases x with
    | non => cases rx; exact SeqAt.EqAt.bool_none a
    | bl b => cases rx; exact SeqAt.EqAt.bool_bool a b
    | int b => obtain ⟨t,rfl⟩ := rx; exact SeqAt.EqAt.bool_int a b t
    | str b => obtain ⟨t,rfl⟩ := rx; exact SeqAt.EqAt.bool_str a b t
    | _ => exact absurd (show false = true from fx) Bool.false_ne_true
  | int a =>
    obtain ⟨t',rfl⟩ := ry
    cases x with
    | non => cases rx; exact SeqAt.EqAt.int_none a t'
    | bl b => cases rx; exact SeqAt.EqAt.int_bool a t' b
    | int b => obtain ⟨t,rfl⟩ := rx; exact SeqAt.EqAt.int_int a t' b t
    | str b => obtain ⟨t,rfl⟩ := rx; exact SeqAt.EqAt.int_str a t' b t
    | _ => exact absurd (show false = true from fx) Bool.false_ne_true
  | str a =>
    obtain ⟨t',rfl⟩ := ry
    cases x with
    | non => cases rx; exact SeqAt.EqAt.str_none a t'
    | bl b => cases rx; exact SeqAt.EqAt.str_bool a t' b
    | int b => obtain ⟨t,rfl⟩ := rx; exact SeqAt.EqAt.str_int a t' b t
    | str b => obtain ⟨t,rfl⟩ := rx; exact SeqAt.EqAt.str_str a t' b t
    | _ => exact absurd (show false = true from fx) Bool.false_ne_true
  | _ => exact absurd (show false = true from fy) Bool.false_ne_true
noncomputable def eqU (x:V) (u:Value) : Bool := match u with
  | .none => eqV .non x
  | .bool b => eqV (.bl b) x
  | .int i _ => eqV (.int i) x
  | .str z _ => eqV (.str z) x
  | _ => false
theorem rC {x y : V}{u:Value} (r:RelV y u) (f:flatV y = true) : eqU x u = eqV y x :=by
  cases y with
  | non => cases r; rfl
  | bl b => cases r; rfl
  | int i => obtain ⟨t,rfl⟩ := r; rfl
  | str z => obtain ⟨t,rfl⟩ := r; rfl
  | _ => exact absurd (show false = true from f) Bool.false_ne_true
theorem gF {x:V} : ∀ {xs : List V}{us : List Value},Vals xs us → xs.all flatV = true → us.any (eqU x) = xs.any fun y => eqV y x
  | _,_,.nil,_ => rfl
  | y :: xs,u :: us,.cons r t,f => by
    rw [List.all_cons,Bool.and_eq_true] at f
    rw [List.any_cons,List.any_cons,rC r f.1,gF t f.2]
theorem eX {A:Around}{s:Shared}{x:V}{v:Value} (rx : RelV x v) (fx : flatV x = true) : ∀ {xs : List V}{us : List Value},Vals xs us → xs.all flatV = true → ∀ u ∈ us,SeqAt.EqAt A s u v (eqU x u)
  | _,_,.nil,_ => fun u hu => by cases hu
  | y :: xs,u :: us,.cons r t,f => fun u' hu => by
    rw [List.all_cons,Bool.and_eq_true] at f
    rcases List.mem_cons.mp hu with rfl | hu
    · rw [rC r f.1]; exact vd r rx f.1 fx
    · exact eX rx fx t f.2 u' hu
noncomputable def inV (x:V) (xs : List V) : Bool := xs.any fun y => eqV y x
noncomputable def rIn (K:PySem.W.Frag) (neg : Bool) : R2 := fun x y H Q => ∃ p xs,y = .ref p ∧ (SqL K H p xs ∨ SqT K H p xs) ∧ flatV x = true ∧ xs.all flatV = true ∧ Q (.bl (if neg then !inV x xs else inV x xs)) H
theorem op_in_seq : OpR X (compareOp .In) (rIn X.K false) :=by
  intro pins s σ H x y v u Q I rx ry h
  obtain ⟨p,xs,rfl,hq,fx,fs,q⟩ := h
  cases ry
  rcases hq with hq | hq
  · obtain ⟨its,r,pl,hz⟩ := I.list hq
    refine SeqAt.in_listAt (eqU x) pl.isList (fun w hw => eX rx fx r fs w (by simpa using hw)) ⟨.bl _,H,I,rfl,?_⟩
    rw [show its.toArray.any (eqU x) = its.any (eqU x) by simp,gF r fs]
    exact q
  · obtain ⟨its,r,pl,hz⟩ := I.tuple hq
    refine SeqAt.in_tupleAt (eqU x) pl (fun w hw => eX rx fx r fs w (by simpa using hw)) ⟨.bl _,H,I,rfl,?_⟩
    rw [show its.toArray.any (eqU x) = its.any (eqU x) by simp,gF r fs]
    exact q
theorem op_notIn_seq : OpR X (compareOp .NotIn) (rIn X.K true) :=by
  intro pins s σ H x y v u Q I rx ry h
  obtain ⟨p,xs,rfl,hq,fx,fs,q⟩ := h
  cases ry
  rcases hq with hq | hq
  · obtain ⟨its,r,pl,hz⟩ := I.list hq
    refine SeqAt.notIn_listAt (eqU x) pl.isList (fun w hw => eX rx fx r fs w (by simpa using hw)) ⟨.bl _,H,I,rfl,?_⟩
    rw [show its.toArray.any (eqU x) = its.any (eqU x) by simp,gF r fs]
    exact q
  · obtain ⟨its,r,pl,hz⟩ := I.tuple hq
    refine SeqAt.notIn_tupleAt (eqU x) pl (fun w hw => eX rx fx r fs w (by simpa using hw)) ⟨.bl _,H,I,rfl,?_⟩
    rw [show its.toArray.any (eqU x) = its.any (eqU x) by simp,gF r fs]
    exact q
theorem op_notIn_str : OpR X (compareOp .NotIn) (fun x y H Q => ∃ i j,x = .str i ∧ y = .str j ∧ Q (.bl (!(!(Builtin.Str.occurrences j i 0 j.length 1).isEmpty))) H) :=by
  intro pins s σ H x y v u Q I rx ry h
  obtain ⟨i,j,rfl,rfl,q⟩ := h
  obtain ⟨t,rfl⟩ := rx
  obtain ⟨t',rfl⟩ := ry
  exact notIn_str ⟨.bl _,H,I,rfl,q⟩
theorem kQ : CallR X (.builtin "len") (fun xs H Q => ∃ p ys,xs = [.ref p] ∧ (SqL X.K H p ys ∨ SqT X.K H p ys) ∧ Q (.int ys.length) H) :=by
  intro pins s σ H xs us Q I r h
  obtain ⟨p,ys,rfl,hq,q⟩ := h
  obtain ⟨u,rfl,rx⟩ := vals1 r
  cases rx
  have hn := gX
  rcases hq with hq | hq
  · obtain ⟨its,r',pl,hz⟩ := I.list hq
    have hlen := r'.length
    exact Calls.call_len_list pl.isList (by simp only [List.size_toArray] <;> omega) ⟨.int ys.length,H,I.tok _,⟨s.toks + 1,by rw [List.size_toArray,hlen]⟩,q⟩
  · obtain ⟨its,r',pl,hz⟩ := I.tuple hq
    have hlen := r'.length
    exact len_tuple pl (by simp only [List.size_toArray] <;> omega) ⟨.int ys.length,H,I.tok _,⟨s.toks + 1,by rw [List.size_toArray,hlen]⟩,q⟩
theorem call_len_str : CallR X (.builtin "len") (fun xs H Q => ∃ z,xs = [.str z] ∧ z.length ≤ sizeLine ∧ Q (.int z.length) H) :=by
  intro pins s σ H xs us Q I r h
  obtain ⟨z,rfl,hz,q⟩ := h
  obtain ⟨u,rfl,t,rfl⟩ := vals1 r
  have hn := gX
  exact len_str (by omega) ⟨.int z.length,H,I.tok _,⟨_,rfl⟩,q⟩
theorem CallR.or {f:Value}{r r' : List V → Hp → VK → Prop} (h:CallR X f r) (h' : CallR X f r') : CallR X f (fun xs H Q => r xs H Q ∨ r' xs H Q) :=by
  intro pins s σ H xs us Q I rs q
  rcases q with q | q
  · exact h pins s σ H xs us Q I rs q
  · exact h' pins s σ H xs us Q I rs q
theorem kP : CallR X (.type "list") (fun xs H Q => ∃ p ys,xs = [.ref p] ∧ (SqL X.K H p ys ∨ SqT X.K H p ys) ∧ ∀ l,H l = none → Q (.ref l) (upd H l (.lst ys))) :=by
  intro pins s σ H xs us Q I r h
  obtain ⟨p,ys,rfl,hq,q⟩ := h
  obtain ⟨u,rfl,rx⟩ := vals1 r
  cases rx
  have fin : ∀ (its : List Value),Vals ys its → ys.length ≤ sizeLine → ∀ (h' : Heap) (c' : Nat),(∀ b o',s.heap.get? b = some o' → h'.get? b = some o') →
      h'.get? s.heap.objs.size = some { cls := .type "list",dict := none,data := .seq its.toArray c',slots := #[] } → EP X pins σ Q (.ref s.heap.objs.size) { s with heap := h' } := fun its r' hz h' c' kp e =>
    ⟨.ref s.heap.objs.size,_,I.laid (t' := s.toks) kp (Nat.le_refl _) (show ObjOk X.prog X.w _ h' _ (.lst ys) from ⟨hz,its,c',r',e⟩),rfl,q _ (I.hok.fresh (Nat.le_refl _))⟩
  rcases hq with hq | hq
  · obtain ⟨its,r',pl,hz⟩ := I.list hq
    have hlen := r'.length
    obtain ⟨o,ho,hc,n,hd⟩ := pl.isList
    exact call_list_seq p (.inl rfl) ho hc hd (fun h' c' kp e => fin its r' hz h' c' kp e) (by simp only [List.size_toArray] <;> omega)
  · obtain ⟨its,r',pl,hz⟩ := I.tuple hq
    have hlen := r'.length
    obtain ⟨o,ho,hc,n,hd⟩ := pl
    exact call_list_seq p (.inr rfl) ho hc hd (fun h' c' kp e => fin its r' hz h' c' kp e) (by simp only [List.size_toArray] <;> omega)
theorem jy : CallR X (.type "tuple") (fun xs H Q => ∃ p ys,xs = [.ref p] ∧ ((SqL X.K H p ys ∧ ∀ l,H l = none → Q (.ref l) (upd H l (.tup ys))) ∨ (SqT X.K H p ys ∧ Q (.ref p) H))) :=by
  intro pins s σ H xs us Q I r h
  obtain ⟨p,ys,rfl,h⟩ := h
  obtain ⟨u,rfl,rx⟩ := vals1 r
  cases rx
  rcases h with ⟨hq,q⟩ | ⟨hq,q⟩
  · obtain ⟨its,r',pl,hz⟩ := I.list hq
    have hlen := r'.length
    refine call_tuple_list pl.isList (fun h' kp => ?_) (by simp only [List.size_toArray] <;> omega)
    have I1 : Inv X pins σ H { s with heap := h' } := I.kept (t' := s.toks) kp
    have I2 : Inv X pins σ (upd H h'.objs.size (.tup ys)) { s with heap := h'.push { cls := .type "tuple",data := .seq its.toArray } } :=
      I1.laid (t' := s.toks) (fun b o e => Heap.get?_push_of_some _ e) (Nat.le_refl _) (show ObjOk X.prog X.w _ _ _ (.tup ys) from ⟨hz,its,r',IsTupD.new _ _⟩)
    exact ⟨.ref h'.objs.size,_,I2,rfl,q _ (I1.hok.fresh (Nat.le_refl _))⟩
  · obtain ⟨its,r',pl,hz⟩ := I.tuple hq
    exact call_tuple_same pl ⟨.ref p,H,I,rfl,q⟩
noncomputable def tyV (K:PySem.W.Frag) (T:String) (x:V) (H:Hp) : Prop := match x with
  | .str _ => T = "str"
  | .int _ => T = "int"
  | .ref p => (T = "list" ∧ ∃ xs,SqL K H p xs) ∨ (T = "tuple" ∧ ∃ o,K.lookup p = some o ∧ o.cls = .type "tuple" ∧ o.dict = none) ∨
      (T = "dict" ∧ ((∃ kvs,H p = some (.dK kvs)) ∨ ∃ kvs,H p = some (.dT kvs))) ∨ (T = "set" ∧ ∃ S n,H p = some (.set S n))
  | _ => False
theorem t4 {pins : List (Addr × Obj)}{σ : St}{H:Hp}{s:Shared}{T:String}{x:V}{v:Value} (I:Inv X pins σ H s) (r:RelV x v) (ty : tyV X.K T x H) :
    s.TypeIs v T ∧ ∀ a,v = .ref a → ∃ ob,s.heap.get? a = some ob ∧ ob.dict = none :=by
  cases x with
  | str z =>
    obtain ⟨t,rfl⟩ := r
    cases (show T = "str" from ty)
    exact ⟨typeIs_str s z t,fun _ e => nomatch e⟩
  | int i =>
    obtain ⟨t,rfl⟩ := r
    cases (show T = "int" from ty)
    exact ⟨typeIs_int s i t,fun _ e => nomatch e⟩
  | ref p =>
    cases r
    rcases ty with ⟨rfl,xs,hq⟩ | ⟨rfl,o,hk,hc,hd⟩ | ⟨rfl,hk⟩ | ⟨rfl,S,n,hk⟩
    · obtain ⟨its,_,pl,_⟩ := I.list hq
      refine ⟨pl.isList.typeIs,fun a e => ?_⟩
      cases e
      obtain ⟨o,n,e,c,hd,_⟩ := pl
      exact ⟨o,e,hd⟩
    · refine ⟨⟨o,I.kIn p o hk,hc⟩,fun a e => ?_⟩
      cases e
      exact ⟨o,I.kIn _ o hk,hd⟩
    · have z : ∃ o,s.heap.get? p = some o ∧ o.ExactDict :=by
        rcases hk with ⟨kvs,hk⟩ | ⟨kvs,hk⟩
        · obtain ⟨_,_,_,_,o,_,_,e,ex,_⟩ := I.hok p _ hk
          exact ⟨o,e,ex⟩
        · obtain ⟨_,_,_,_,o,_,_,e,ex,_⟩ := I.hok p _ hk
          exact ⟨o,e,ex⟩
      obtain ⟨o,e,ex⟩ := z
      refine ⟨⟨o,e,ex.1⟩,fun a e2 => ?_⟩
      cases e2
      exact ⟨o,e,ex.2.1⟩
    · obtain ⟨o,_,_,_,e,ex,_⟩ := I.hok p _ hk
      refine ⟨⟨o,e,ex.1⟩,fun a e2 => ?_⟩
      cases e2
      exact ⟨o,e,ex.2.1⟩
  | _ => exact False.elim ty
noncomputable def tBM (K:PySem.W.Frag) (T:String) (r:V → List V → Hp → VK → Prop) (to : TE) (t:TA) : TE := fun σ H Q => to σ H fun x H1 => tyV K T x H1 ∧ t σ H1 fun xs H2 => r x xs H2 Q
variable {o e : Expr}{es : List Expr}{to : TE}{t:TA}{name : Str}{apos cpos : Pos}{T id : String}{r:V → List V → Hp → VK → Prop}
theorem tO (pa : PlainAttrs T) (slot : Slot T name id) (hty : typeOf (.builtin id) = pure (.type "method_descriptor")) (hm : MtR X id r) (ho : PE X o to) (ha : PA X (e :: es) t)
    (hbase : attributeBase o name X.env (eval o X.env) = eval o X.env :=by rfl)
    (hfew : ((backTo cpos (starEach (e :: es) X.env)).all (fun x => !x.1) && (backToKw cpos (keywordEach [] X.env)).all (fun x => x.1.isSome)
      && decide ((e :: es).length + ([] : List Keyword).length + (if ([] : List Keyword).isEmpty then 0 else 1) < 30)) = true :=by rfl)
    (hline : (apos.endLine == cpos.line) = true :=by rfl) (hs : starEach (e :: es) X.env = (false,eval e X.env) :: starEach es X.env :=by rfl) (hplain : (backTo cpos (starEach es X.env)).any (·.1) = false :=by rfl) :
    PE X (.Call (.Attribute o name apos) (e :: es) [] cpos) (tBM X.K T r to t) :=by
  intro pins s σ H Q I h
  refine wpAny_Call_method_late hbase hfew hline rfl (thn (ho pins s σ H _ I h) fun v s1 qz => ?_)
  obtain ⟨x,H1,I1,r1,ty,q1⟩ := qz
  obtain ⟨h1,h2⟩ := t4 I1 r1 ty
  refine ⟨T,id,pa,slot,hty,h1,h2,?_⟩
  have hA := ha cpos pins s1 σ H1 _ I1 q1
  rw [hs] at hA ⊢
  refine Calls.callWith_builtin (by show (false || (backTo cpos (starEach es X.env)).any (·.1)) = false; rw [hplain] <;> rfl) (Calls.evalArgs_plain ?_)
  exact thn hA fun us s2 ⟨vs,H2,I2,r2,q2⟩ => hm pins s2 σ H2 x vs v us Q I2 r1 r2 q2
end
end L2
namespace L2
open PySem PySem.Spec PyProof.Rows
noncomputable def MtM (X:Cx) (id : String) (r:V → List V → Hp → VK → Prop) : Prop :=
  ∀ (pins : List (Addr × Obj)) (s:Shared) (σ : St) (H:Hp) (x:V) (xs : List V) (v:Value) (us : List Value) (Q:VK),Inv X pins σ H s → RelV x v → Vals xs us → r x xs H Q →
    wpAny (model X.prog X.w) X.A (call (.builtin id) (v :: us)) (EP X pins σ Q) X.xe s
theorem Vals.one : ∀ {x:V}{us : List Value},Vals [x] us → ∃ u,us = [u] ∧ RelV x u
  := by
  intro x us h
  cases h with
  | cons r q => cases q; exact ⟨_,rfl,r⟩
theorem Vals.two : ∀ {x y : V}{us : List Value},Vals [x,y] us → ∃ u v,us = [u,v] ∧ RelV x u ∧ RelV y v
  := by
  intro x y us h
  cases h with
  | cons r q =>
    cases q with
    | cons q z => cases z; exact ⟨_,_,rfl,r,q⟩
theorem Vals.rep {xs : List V}{us : List Value} (h:Vals xs us) : ∀ k : Nat,Vals (List.replicate k xs).flatten (List.replicate k us).flatten
  | 0 => .nil
  | k + 1 => by
    rw [List.replicate_succ,List.replicate_succ,List.flatten_cons,List.flatten_cons]
    exact Vals.append h (Vals.rep h k)
theorem jN (its : List Value) : ∀ (k:Nat) (acc : List Value),
    List.foldl (fun x1 x2 => x1 ++ x2) acc.toArray (List.replicate k its.toArray) = (acc ++ (List.replicate k its).flatten).toArray
  | 0,acc => by simp
  | k + 1,acc => by
    have e : acc.toArray ++ its.toArray = (acc ++ its).toArray :=by simp
    have e2 : (acc ++ its) ++ (List.replicate k its).flatten = acc ++ (List.replicate (k + 1) its).flatten :=by
      rw [List.replicate_succ,List.flatten_cons,List.append_assoc]
    rw [← e2,← jN its k (acc ++ its),← e,List.replicate_succ,List.foldl_cons]
section
variable {X:Cx}{pins : List (Addr × Obj)}{σ : St}{H:Hp}{s:Shared}{l b : Addr}{xs ys zs : List V}
theorem Inv.lset {its its' : List Value}{n:Nat}{f:Array Value → Array Value}{t' : Nat} (I:Inv X pins σ H s) (hH : H l = some (.lst xs))
    (e:s.heap.get? l = some { cls := .type "list",data := .seq its.toArray n }) (hf : f its.toArray = its'.toArray) (hv : Vals ys its') (hz : ys.length ≤ sizeLine) :
    Inv X pins σ (upd H l (.lst ys)) { s with heap := s.heap.update l (Obj.mapSeq f),toks := t' } :=by
  have q := PySem.IsL.update e f
  rw [hf] at q
  refine I.write (x := l) (e := l) (by rw [hH]; exact trivial) (.inl rfl) (fun b' u hb hu => (Heap.get?_update_other s.heap (Obj.mapSeq f) (Ne.symm hb)).trans hu) ⟨_,q⟩ ?_
  exact ⟨hz,its',_,hv,q⟩
theorem Inv.lnew {its : List Value}{t' : Nat} (I:Inv X pins σ H s) (hv : Vals ys its) (hz : ys.length ≤ sizeLine) :
    Inv X pins σ (upd H s.heap.objs.size (.lst ys)) { s with heap := s.heap.push { cls := .type "list",data := .seq its.toArray },toks := t' } :=
  I.laid (fun _ _ q => Heap.get?_push_of_some _ q) (Nat.le_refl _) ⟨hz,its,0,hv,Heap.get?_push_size _ rfl⟩
theorem Inv.fresh (I:Inv X pins σ H s) : H s.heap.objs.size = none := I.hok.fresh (Nat.le_refl _)
theorem Inv.lstM (I:Inv X pins σ H s) (hH : H l = some (.lst xs)) : xs.length ≤ sizeLine ∧ ∃ (its : List Value) (n:Nat),Vals xs its ∧ xs.length = its.length ∧ s.heap.get? l = some { cls := .type "list",data := .seq its.toArray n } :=by
  obtain ⟨z,its,n,r,e⟩ := I.hok l _ hH
  exact ⟨z,its,n,r,r.length,e⟩
theorem lE {n:Nat} (h:n ≤ sizeLine) : Builtin.List.listTooLong n = false :=by
  unfold Builtin.List.listTooLong
  exact decide_eq_false (by omega)
end
section
variable {X:Cx}
noncomputable def sf : V → List V → Hp → VK → Prop := fun x vs H Q => ∃ l xs y,x = .ref l ∧ vs = [y] ∧ H l = some (.lst xs) ∧ xs.length < sizeLine ∧ Q .non (upd H l (.lst (xs ++ [y])))
theorem o9 : MtM X "list.append" sf :=by
  intro pins s σ H x vs v us Q I rx rv h
  obtain ⟨l,xs,y,rfl,rfl,hH,hz,q⟩ := h
  cases rx
  obtain ⟨u,rfl,ru⟩ := rv.one
  obtain ⟨z,its,n,r,hl,e⟩ := I.lstM hH
  refine call_meets F.slot_list_append ⟨_,e,rfl⟩ F.entry_list_append (F.args_list_append_2 _ _) (PySem.list_append l its.toArray n u (by rw [List.size_toArray]; omega)) ⟨e,?_⟩
  refine ⟨.non,_,I.lset (its' := its ++ [u]) hH e (by simp) (r.append (.cons ru .nil)) ?_,rfl,q⟩
  rw [List.length_append,List.length_singleton]
  omega
noncomputable def se : V → List V → Hp → VK → Prop := fun x vs H Q => ∃ l b xs zs,x = .ref l ∧ vs = [.ref b] ∧ H l = some (.lst xs) ∧ H b = some (.lst zs) ∧ xs.length + zs.length ≤ sizeLine ∧ Q .non (upd H l (.lst (xs ++ zs)))
theorem vn : MtM X "list.extend" se :=by
  intro pins s σ H x vs v us Q I rx rv h
  obtain ⟨l,b,xs,zs,rfl,rfl,hH,hB,hz,q⟩ := h
  cases rx
  obtain ⟨u,rfl,ru⟩ := rv.one
  cases ru
  obtain ⟨z,its,n,r,hl,e⟩ := I.lstM hH
  obtain ⟨z2,its2,n2,r2,hl2,e2⟩ := I.lstM hB
  have hsz : its.toArray.size + its2.toArray.size ≤ sizeLine :=by rw [List.size_toArray,List.size_toArray]; omega
  have hlong : ¬ (!its.toArray.isEmpty && Builtin.List.listTooLong (its.toArray.size + its2.toArray.size)) = true :=by
    rw [lE hsz,Bool.and_false]
    exact Bool.false_ne_true
  refine call_meets F.slot_list_extend ⟨_,e,rfl⟩ F.entry_list_extend (F.args_list_extend_2 _ _)
    (AutoSeq1.list_extend_list_list_0 l its.toArray n b its2.toArray n2 hlong (by rw [List.size_toArray]; omega) (by omega)) ⟨e,e2,?_⟩
  refine ⟨.non,_,I.lset (its' := its ++ its2) hH e (by simp) (r.append r2) ?_,rfl,q⟩
  rw [List.length_append]
  omega
noncomputable def rCat : R2 := fun x y H Q => ∃ l b xs zs,x = .ref l ∧ y = .ref b ∧ H l = some (.lst xs) ∧ H b = some (.lst zs) ∧ xs.length + zs.length ≤ sizeLine ∧ ∀ p,H p = none → Q (.ref p) (upd H p (.lst (xs ++ zs)))
theorem qJ : OpR X (binaryOp .Add) rCat :=by
  intro pins s σ H x y v u Q I rx ry h
  obtain ⟨l,b,xs,zs,rfl,rfl,hH,hB,hz,q⟩ := h
  cases rx
  cases ry
  obtain ⟨z,its,n,r,hl,e⟩ := I.lstM hH
  obtain ⟨z2,its2,n2,r2,hl2,e2⟩ := I.lstM hB
  refine PySem.P.add_list e e2 ?_ (by rw [List.size_toArray,List.size_toArray]; omega)
  have ea : its.toArray ++ its2.toArray = (its ++ its2).toArray :=by simp
  rw [ea]
  exact ⟨.ref _,_,I.lnew (t' := s.toks) (r.append r2) (by rw [List.length_append]; omega),rfl,q _ I.fresh⟩
noncomputable def rRep : R2 := fun x y H Q => ∃ l k xs,x = .ref l ∧ y = .int k ∧ H l = some (.lst xs) ∧ -(2 ^ 63) ≤ k ∧ k < 2 ^ 63 ∧ xs.length * k.toNat ≤ sizeLine ∧
  ∀ p,H p = none → Q (.ref p) (upd H p (.lst (List.replicate k.toNat xs).flatten))
theorem sS {α : Type} (xs : List α) (k:Nat) : (List.replicate k xs).flatten.length = k * xs.length :=by
  induction k with
  | zero => simp
  | succ k ih => rw [List.replicate_succ,List.flatten_cons,List.length_append,ih,Nat.succ_mul,Nat.add_comm]
theorem qH : OpR X (binaryOp .Mult) rRep :=by
  intro pins s σ H x y v u Q I rx ry h
  obtain ⟨l,k,xs,rfl,rfl,hH,h1,h2,hz,q⟩ := h
  cases rx
  obtain ⟨t,rfl⟩ := ry
  obtain ⟨z,its,n,r,hl,e⟩ := I.lstM hH
  have hlen : its.toArray.size * k.toNat ≤ sizeLine :=by rw [List.size_toArray,← hl]; exact hz
  have hcap : ¬ its.toArray.size * k.toNat > (2 ^ 63 - 1) / 8 :=by
    have : (sizeLine : Nat) ≤ (2 ^ 63 - 1) / 8 :=by decide
    omega
  have hfit : ¬ (!Builtin.List.listFitsIndex k) = true :=by
    rw [fitsIndex_both h1 h2]
    exact Bool.false_ne_true
  have hlong : ¬ Builtin.List.listTooLong (its.toArray.size * k.toNat) = true :=by
    rw [lE hlen]
    exact Bool.false_ne_true
  have hnew : List.foldl (fun x1 x2 => x1 ++ x2) #[] (List.replicate (if its.toArray.isEmpty = true then 0 else k.toNat) its.toArray) = (List.replicate k.toNat its).flatten.toArray :=by
    have f0 : ∀ m : Nat,List.foldl (fun x1 x2 => x1 ++ x2) #[] (List.replicate m its.toArray) = (List.replicate m its).flatten.toArray := fun m => by
      have := jN its m []
      rw [List.nil_append] at this
      exact this
    rw [f0]
    cases its with
    | nil => simp
    | cons a r' => rw [if_neg (by simp)]
  refine wpAny_binaryOp_repeat_ref (T := "list") (U := "int") (by decide) ⟨_,e,rfl⟩ (fun s' => typeIs_int s' k t) noFill_list_mul F.fills_int_mul F.slot_int_rmul repeat_list F.slot_int_index.lookup
    (call_meets F.slot_int_rmul (typeIs_int s k t) F.entry_int_rmul (F.args_int_rmul_2 _ _) (int___rmul___int_list k t l its.toArray n)
      ⟨e,rfl,⟨_,e,rfl⟩,call_meets F.slot_list_mul ⟨_,e,rfl⟩ F.entry_list_mul (F.args_list_mul_2 _ _) (AutoListH.list___mul___list_int_3 l its.toArray n k t hfit hcap hlong) ⟨e,?_⟩⟩)
  rw [hnew]
  exact ⟨.ref _,_,I.lnew (t' := s.toks) (r.rep k.toNat) (by rw [sS,Nat.mul_comm]; exact hz),rfl,q _ I.fresh⟩
end
section
variable {prog : Program}{w:World}{A:Around}{E:Value → Shared → Prop}{s:Shared}
end
section
variable {X:Cx}
end
end L2
namespace L2
open PySem PySem.Spec PyProof.Rows
section
variable {κ : Type} [DecidableEq κ]
noncomputable def valV (kvs : List (κ × V)) (k:κ) : Option V := (kvs.find? fun kv => decide (kv.1 = k)).map (·.2)
noncomputable def putK (kvs : List (κ × V)) (k:κ) (v:V) : List (κ × V) :=
  if (kvs.any fun kv => decide (kv.1 = k)) = true then kvs.map (fun kv => if kv.1 = k then (kv.1,v) else kv) else kvs ++ [(k,v)]
theorem fS {p:κ × V}{r:List (κ × V)}{k:κ} (e:p.1 = k) : valV (p :: r) k = some p.2 :=by simp [valV,List.find?_cons,e]
theorem fT {p:κ × V}{r:List (κ × V)}{k:κ} (e:¬ p.1 = k) : valV (p :: r) k = valV r k :=by simp [valV,List.find?_cons,e]
theorem iH (k:κ) : ∀ kvs : List (κ × V),(kvs.any fun kv => decide (kv.1 = k)) = (valV kvs k).isSome
  | [] => rfl
  | p :: r => by
    rw [List.any_cons]
    by_cases e : p.1 = k
    · simp only [fS e,decide_eq_true e,Bool.true_or,Option.isSome_some]
    · rw [fT e,decide_eq_false e,Bool.false_or]; exact iH k r
theorem eZ (kvs : List (κ × V)) (k:κ) (v:V) : (putK kvs k v).length ≤ kvs.length + 1 :=by
  unfold putK
  split
  · rw [List.length_map]; omega
  · rw [List.length_append,List.length_cons,List.length_nil]; omega
theorem RelO.isSome_eq {o:Option V}{u:Option Value} (r:RelO o u) : o.isSome = u.isSome :=by
  cases o with
  | none => cases u with
    | none => rfl
    | some _ => exact (show False from r).elim
  | some _ => cases u with
    | none => exact (show False from r).elim
    | some _ => rfl
theorem RelO.getD {o:Option V}{u:Option Value}{d:V}{d' : Value} (r:RelO o u) (rd : RelV d d') : RelV (o.getD d) (u.getD d') :=by
  cases o with
  | none => cases u with
    | none => exact rd
    | some _ => exact (show False from r).elim
  | some _ => cases u with
    | none => exact (show False from r).elim
    | some _ => exact r
theorem KV.val {kvs : List (κ × V)}{vs : List (κ × Value)} (r:KV kvs vs) (k:κ) : RelO (valV kvs k) (valueAt vs k) :=by
  unfold KV at r
  induction r with
  | nil => exact True.intro
  | @cons p q ps qs h t ih =>
    obtain ⟨h1,h2⟩ := h
    by_cases e : p.1 = k
    · have e' : q.1 = k := h1.symm.trans e
      have b : valueAt (q :: qs) k = some q.2 :=by simp [valueAt,List.find?_cons,e']
      rw [fS e,b]; exact h2
    · have e' : ¬ q.1 = k := fun z => e (h1.trans z)
      have b : valueAt (q :: qs) k = valueAt qs k :=by simp [valueAt,List.find?_cons,e']
      rw [fT e,b]; exact ih
theorem KV.any {kvs : List (κ × V)}{vs : List (κ × Value)} (r:KV kvs vs) (k:κ) : (kvs.any fun kv => decide (kv.1 = k)) = vs.any fun kv => decide (kv.1 = k) :=by
  unfold KV at r
  induction r with
  | nil => rfl
  | cons h t ih => rw [List.any_cons,List.any_cons,ih,h.1]
theorem KV.repl {kvs : List (κ × V)}{vs : List (κ × Value)} (r:KV kvs vs) (k:κ) {y:V}{u:Value} (ry : RelV y u) :
    KV (kvs.map fun kv => if kv.1 = k then (kv.1,y) else kv) (vs.map fun kv => if kv.1 = k then (kv.1,u) else kv) :=by
  unfold KV at r ⊢
  induction r with
  | nil => exact .nil
  | @cons p q ps qs h t ih =>
    rw [List.map_cons,List.map_cons]
    refine .cons ?_ ih
    obtain ⟨h1,h2⟩ := h
    by_cases e : p.1 = k
    · rw [if_pos e,if_pos (h1.symm.trans e)]; exact ⟨h1,ry⟩
    · rw [if_neg e,if_neg (fun z => e (h1.trans z))]; exact ⟨h1,h2⟩
theorem KV.put {kvs : List (κ × V)}{vs : List (κ × Value)} (r:KV kvs vs) (k:κ) {y:V}{u:Value} (ry : RelV y u) : KV (putK kvs k y) (stored vs k u) :=by
  unfold putK stored
  rw [r.any k]
  by_cases e : (vs.any fun kv => decide (kv.1 = k)) = true
  · rw [if_pos e,if_pos e]; exact r.repl k ry
  · rw [if_neg e,if_neg e]; exact Paired.snoc r ⟨rfl,ry⟩
theorem KV.length {kvs : List (κ × V)}{vs : List (κ × Value)} (r:KV kvs vs) : kvs.length = vs.length := Paired.length r
end
theorem lP {P:Program}{w:World}{k:Key}{u:Value} (r:RelV (kV k) u) : (bu P w).is k u = true :=by
  cases k with
  | inl i => obtain ⟨t,e⟩ := (show ∃ t,u = Value.int i t from r); subst e; exact lI P w i t
  | inr x => obtain ⟨t,e⟩ := (show ∃ t,u = Value.str x t from r); subst e; exact lH P w x t
theorem gY {P:Program}{w:World} : ∀ {ks : List Key}{us : List Value},Vals (ks.map kV) us → ItemsAre (bu P w) ks us
  | [],_,r => by rw [List.map_nil] at r; cases r; exact .nil
  | k :: ks,_,r => by
    rw [List.map_cons] at r
    cases r with
    | cons h t => exact .cons (lP h) (gY t)
noncomputable abbrev KT (H:Hp) : List (List Key × V) → List (List Key × Addr × Value) → Prop := Paired fun p q => p.1 = q.1 ∧ H q.2.1 = some (.tup (p.1.map kV)) ∧ RelV p.2 q.2.2
theorem KT.val {H:Hp}{kvs : List (List Key × V)}{xs : List (List Key × Addr × Value)} (r:KT H kvs xs) (k:List Key) : RelO (valV kvs k) ((atKey xs k).map (·.2)) :=by
  induction r with
  | nil => exact True.intro
  | @cons p q ps qs h t ih =>
    obtain ⟨h1,_,h2⟩ := h
    by_cases e : p.1 = k
    · have e' : q.1 = k := h1.symm.trans e
      have b : atKey (q :: qs) k = some q.2 :=by simp [atKey,List.find?_cons,e']
      rw [fS e,b]; exact h2
    · have e' : ¬ q.1 = k := fun z => e (h1.trans z)
      have b : atKey (q :: qs) k = atKey qs k :=by simp [atKey,List.find?_cons,e']
      rw [fT e,b]; exact ih
theorem KT.repl {H:Hp}{kvs : List (List Key × V)}{xs : List (List Key × Addr × Value)} (r:KT H kvs xs) (k:List Key) {y:V}{u:Value} (ry : RelV y u) :
    KT H (kvs.map fun kv => if kv.1 = k then (kv.1,y) else kv) (xs.map (putAt k u)) :=by
  induction r with
  | nil => exact .nil
  | @cons p q ps qs h t ih =>
    rw [List.map_cons,List.map_cons]
    refine .cons ?_ ih
    obtain ⟨h1,h2,h3⟩ := h
    unfold putAt
    by_cases e : p.1 = k
    · rw [if_pos e,if_pos (h1.symm.trans e)]; exact ⟨h1,h2,ry⟩
    · rw [if_neg e,if_neg (fun z => e (h1.trans z))]; exact ⟨h1,h2,h3⟩
theorem KT.put {H:Hp}{kvs : List (List Key × V)}{xs : List (List Key × Addr × Value)} (r:KT H kvs xs) (k:List Key) {b:Addr}{y:V}{u:Value} (hb : H b = some (.tup (k.map kV))) (ry : RelV y u) :
    KT H (putK kvs k y) (storedH xs k b u) :=by
  have e : (kvs.any fun kv => decide (kv.1 = k)) = (atKey xs k).isSome :=by
    rw [iH,(r.val k).isSome_eq,Option.isSome_map]
  unfold putK storedH
  rw [e]
  by_cases q : (atKey xs k).isSome = true
  · rw [if_pos q,if_pos q]; exact r.repl k ry
  · rw [if_neg q,if_neg q]; exact Paired.snoc r ⟨rfl,hb,ry⟩
theorem KT.keeps {H H' : Hp}{kvs : List (List Key × V)}{xs : List (List Key × Addr × Value)} (r:KT H kvs xs) (ht : ∀ b ys,H b = some (.tup ys) → H' b = some (.tup ys)) : KT H' kvs xs :=
  Paired.mapP r fun _ _ z => ⟨z.1,ht _ _ z.2.1,z.2.2⟩
section
variable {P:Program}{w:World}{H:Hp}{h:Heap}{a:Addr}
theorem tN {u:HO} (ok : HOk P w H h) (e:Rd H a u) : ObjOk P w H h a u := e.ok ok
theorem jP {kvs : List (Key × V)} (ok : HOk P w H h) (e:Rd H a (.dK kvs)) : kvs.length ≤ sizeLine ∧ (a == sysModules) = false ∧ ∃ vs,KV kvs vs ∧ h.DictOf (bu P w) a vs :=
  show ObjOk P w H h a (.dK kvs) from tN ok e
theorem vW {kvs : List (Key × V)} (ok : HOk P w H h) (e:H a = some (.dK kvs)) : kvs.length ≤ sizeLine ∧ (a == sysModules) = false ∧ ∃ vs,KV kvs vs ∧ h.DictOf (bu P w) a vs := jP ok (.inl e)
theorem i6 {ks : List Key} (ok : HOk P w H h) (e:H a = some (.tup (ks.map kV))) : (tupleKind (bu P w)).is h ks a :=by
  obtain ⟨_,its,r,⟨o,h1,h2,n,h3⟩,_⟩ := (show ObjOk P w H h a (.tup (ks.map kV)) from ok a _ e)
  exact ⟨o,its.toArray,n,h1,h2,h3,by simpa using gY r⟩
theorem gD {kvs : List (List Key × V)} (ok : HOk P w H h) (e:Rd H a (.dT kvs)) : kvs.length ≤ sizeLine ∧ (a == sysModules) = false ∧
    ∃ xs,KT H kvs xs ∧ h.DictOfH (tupleKind (bu P w)) a xs :=by
  obtain ⟨z,y,xs,r,o,es,ep,h1,h2,h3,h4,h5⟩ := (show ObjOk P w H h a (.dT kvs) from tN ok e)
  refine ⟨z,y,xs,r,o,es,ep,h1,h2,h3,h4,fun x hx => ?_,h5⟩
  have all : ∀ {l:List (List Key × V)}{m:List (List Key × Addr × Value)},KT H l m → ∀ x ∈ m,(tupleKind (bu P w)).is h x.1 x.2.1 :=by
    intro l m q
    induction q with
    | nil => intro x hx; exact nomatch hx
    | @cons p q ps qs hq t ih =>
      intro x hx
      rcases List.mem_cons.mp hx with e | hx
      · subst e
        exact i6 ok (by rw [← hq.1]; exact hq.2.1)
      · exact ih x hx
  exact all r x hx
theorem vV {kvs : List (List Key × V)} (ok : HOk P w H h) (e:H a = some (.dT kvs)) : kvs.length ≤ sizeLine ∧ (a == sysModules) = false ∧
    ∃ xs,KT H kvs xs ∧ h.DictOfH (tupleKind (bu P w)) a xs := gD ok (.inl e)
end
noncomputable def DGet (H:Hp) (a:Addr) (y:V) (r:Option V) : Prop :=
  (∃ kvs k,Rd H a (.dK kvs) ∧ y = kV k ∧ r = valV kvs k) ∨ ∃ kvs k b,Rd H a (.dT kvs) ∧ y = .ref b ∧ H b = some (.tup (k.map kV)) ∧ r = valV kvs k
noncomputable def DPut (H:Hp) (a:Addr) (y v : V) (H' : Hp) : Prop :=
  (∃ kvs k,H a = some (.dK kvs) ∧ y = kV k ∧ kvs.length < sizeLine ∧ H' = upd H a (.dK (putK kvs k v))) ∨
  ∃ kvs k b,H a = some (.dT kvs) ∧ y = .ref b ∧ H b = some (.tup (k.map kV)) ∧ kvs.length < sizeLine ∧ H' = upd H a (.dT (putK kvs k v))
section
variable {X:Cx}{pins : List (Addr × Obj)}{σ : St}{H:Hp}{s:Shared}{a:Addr}{y v : V}{u r : Value}{o:Option V}{A:Around}{E:Value → Shared → Prop}
theorem Inv.big (I:Inv X pins σ H s) : sysModules < s.heap.objs.size :=by
  have h : mainGlobals < s.heap.objs.size := (I.mod.glob.keeps I.bk).lt
  exact Nat.lt_trans (by decide) h
theorem pL {Q:Value → Shared → Prop} (hu : A.units + 1 < cLine) (I:Inv X pins σ H s) (g:DGet H a y (some v)) (ry : RelV y u) (h:∀ w' s',Inv X pins σ H s' → RelV v w' → Q w' s') :
    wpAny (model X.prog X.w) A (getItem (.ref a) u) Q E s :=by
  rcases g with ⟨kvs,k,e,ey,l⟩ | ⟨kvs,k,b,e,ey,eb,l⟩
  · subst ey
    obtain ⟨z,hd,vs,rel,dd⟩ := jP I.hok e
    obtain ⟨w',hw,rw'⟩ := RelO.some_of (v := v) (o := valueAt vs k) (by rw [l]; exact rel.val k)
    exact wpAny_getItem_of (lP ry) dd.mapOf hw (h w' _ (I.tok _) rw')
  · subst ey
    cases (show u = Value.ref b from ry)
    obtain ⟨z,hd,xs,rel,dd⟩ := gD I.hok e
    obtain ⟨w',hw,rw'⟩ := RelO.some_of (v := v) (o := (atKey xs k).map (·.2)) (by rw [l]; exact rel.val k)
    obtain ⟨p,hp,hp2⟩ := Option.map_eq_some_iff.mp hw
    refine wpAny_getItem_heap (tupleKind_room_in1 hu) (i6 I.hok eb) dd hp ?_
    rw [hp2]
    exact h w' _ (I.tok _) rw'
theorem we {Q:Value → Shared → Prop} (hu : A.units + 1 < cLine) (I:Inv X pins σ H s) (g:DGet H a y o) (ry : RelV y u) (h:∀ s',Inv X pins σ H s' → Q (.bool o.isSome) s') :
    wpAny (model X.prog X.w) A (compareOp .In u (.ref a)) Q E s :=by
  rcases g with ⟨kvs,k,e,ey,l⟩ | ⟨kvs,k,b,e,ey,eb,l⟩
  · subst ey
    obtain ⟨z,hd,vs,rel,dd⟩ := jP I.hok e
    refine wpAny_in_of (lP ry) hd dd.mapOf ?_
    rw [← (rel.val k).isSome_eq,← l]
    exact h _ (I.tok _)
  · subst ey
    cases (show u = Value.ref b from ry)
    obtain ⟨z,hd,xs,rel,dd⟩ := gD I.hok e
    refine wpAny_in_heap (tupleKind_room_in1 hu) (i6 I.hok eb) hd dd ?_
    have q := (rel.val k).isSome_eq
    rw [Option.isSome_map] at q
    rw [← q,← l]
    exact h _ (I.tok _)
theorem tj {Q:Value → Shared → Prop} (hu : A.units + 1 < cLine) (I:Inv X pins σ H s) (g:DGet H a y o) (ry : RelV y u) (h:∀ s',Inv X pins σ H s' → Q (.bool (!o.isSome)) s') :
    wpAny (model X.prog X.w) A (compareOp .NotIn u (.ref a)) Q E s :=by
  rcases g with ⟨kvs,k,e,ey,l⟩ | ⟨kvs,k,b,e,ey,eb,l⟩
  · subst ey
    obtain ⟨z,hd,vs,rel,dd⟩ := jP I.hok e
    refine wpAny_notIn_of (lP ry) hd dd.mapOf ?_
    rw [← (rel.val k).isSome_eq,← l]
    exact h _ (I.tok _)
  · subst ey
    cases (show u = Value.ref b from ry)
    obtain ⟨z,hd,xs,rel,dd⟩ := gD I.hok e
    refine wpAny_notIn_heap (tupleKind_room_in1 hu) (i6 I.hok eb) hd dd ?_
    have q := (rel.val k).isSome_eq
    rw [Option.isSome_map] at q
    rw [← q,← l]
    exact h _ (I.tok _)
theorem kO {h' : Heap}{t' : Nat}{ob : HO} (I:Inv X pins σ H s) (mu : Mut (H a)) (hs : Heap.SameBut a s.heap h') (he : ∃ q,h'.get? a = some q) (new : ObjOk X.prog X.w (upd H a ob) h' a ob) :
    Inv X pins σ (upd H a ob) { s with heap := h',toks := t' } :=
  I.write (x := a) (e := a) mu (.inl rfl) (fun b q hb z => (hs.2 b hb).trans z) he new
theorem vg {P:Program}{w:World}{H' : Hp}{h' : Heap}{kvs : List (Key × V)}{vs : List (Key × Value)} (z:kvs.length ≤ sizeLine) (hd : (a == sysModules) = false) (rel : KV kvs vs) (dd : h'.DictOf (bu P w) a vs) :
    ObjOk P w H' h' a (.dK kvs) := ⟨z,hd,vs,rel,dd⟩
theorem pK {H' : Hp}{Q:Unit → Shared → Prop} (hu : A.units + 1 < cLine) (I:Inv X pins σ H s) (g:DPut H a y v H') (ry : RelV y u) (rv : RelV v r) (h:∀ s',Inv X pins σ H' s' → Q () s') :
    wpAny (model X.prog X.w) A (setItem (.ref a) u r) Q E s :=by
  rcases g with ⟨kvs,k,e,ey,l,eH⟩ | ⟨kvs,k,b,e,ey,eb,l,eH⟩
  · subst ey eH
    obtain ⟨z,hd,vs,rel,dd⟩ := vW I.hok e
    have hz : vs.length ≤ sizeLine :=by rw [← rel.length]; exact z
    have hl : (putK kvs k v).length ≤ sizeLine :=by have := eZ kvs k v; omega
    refine wpAny_setItem_pairs (hsz := hz) (lP ry) dd fun h' dd' hs => h _ ?_
    have he : ∃ q,h'.get? a = some q := let ⟨q,_,_,hq,_⟩ := dd'; ⟨q,hq⟩
    exact kO I (by rw [e]; exact True.intro) hs he (vg hl hd (rel.put k rv) dd')
  · subst ey eH
    cases (show u = Value.ref b from ry)
    obtain ⟨z,hd,xs,rel,dd⟩ := vV I.hok e
    have hz : xs.length ≤ sizeLine :=by rw [← Paired.length rel]; exact z
    have hl : (putK kvs k v).length ≤ sizeLine :=by have := eZ kvs k v; omega
    refine wpAny_setItem_heap (hsz := hz) (tupleKind_room_in1 hu) (i6 I.hok eb) dd fun h' dd' hs => h _ ?_
    obtain ⟨q,es,ep,hq,h2,h3,h4,_,h5⟩ := dd'
    refine kO I (by rw [e]; exact True.intro) hs ⟨q,hq⟩ ⟨hl,hd,_,(rel.put k eb rv).keeps fun c ys ec => ?_,q,es,ep,hq,h2,h3,h4,h5⟩
    rw [ap (vR ec e (fun z => nomatch z))]
    exact ec
end
section
variable {X:Cx}{pins : List (Addr × Obj)}{σ : St}{H:Hp}{s:Shared}{a:Addr}{kvs : List (Key × V)}{k:Key}{u:Value}{A:Around}{E:Value → Shared → Prop}
end
theorem lW {X:Cx}{pins : List (Addr × Obj)}{σ : St}{H:Hp}{s:Shared}{a:Addr}{y:V}{o:Option V} (I:Inv X pins σ H s) (g:DGet H a y o) : s.TypeIs (.ref a) "dict" := by
  rcases g with ⟨kvs,k,e,_,_⟩ | ⟨kvs,k,b,e,_,_,_⟩
  · obtain ⟨_,_,vs,_,dd⟩ := jP I.hok e
    exact dd.typeIs
  · obtain ⟨_,_,xs,_,dd⟩ := gD I.hok e
    exact dd.typeIs
section
variable {X:Cx}{o i e value : Expr}{pos pos' tpos : Pos}{td ty tv : TE}
end
theorem rH {P:Program}{w:World}{H:Hp} (h:Heap) (hb : sysModules < h.objs.size) : ObjOk P w H (h.push { cls := .type "dict",data := .dict #[] }) h.objs.size (.dT []) :=
  ⟨Nat.zero_le _,beq_eq_false_iff_ne.mpr (Ne.symm (Nat.ne_of_lt hb)),[],.nil,_,#[],0,Heap.get?_push_size _ rfl,⟨rfl,rfl,rfl⟩,rfl,rfl,List.nodup_nil⟩
noncomputable def ud : TE := fun _ H Q => ∀ p,H p = none → Q (.ref p) (upd H p (.dT []))
section
variable {X:Cx}{pos : Pos}
theorem pe_dnewT : PE X (.Dict [] [] pos) ud := fun pins s σ H Q I h =>
  wpAny_Dict_empty ⟨.ref s.heap.objs.size,_,I.laid (a := s.heap.objs.size) (o := .dT []) (t' := s.toks) (fun _ _ q => Heap.get?_push_of_some _ q) (Nat.le_refl _) (rH s.heap I.big),rfl,h _ (I.hok.fresh (Nat.le_refl _))⟩
end
structure M2 (X:Cx) (o:Expr) (m:Str) (apos : Pos) (e f : Expr) (cpos : Pos) : Prop where
  base : attributeBase o m X.env (eval o X.env) = eval o X.env
  few : ((backTo cpos (starEach [e,f] X.env)).all (fun x => !x.1) && (backToKw cpos (keywordEach [] X.env)).all (fun x => x.1.isSome)
    && decide (([e,f] : List Expr).length + ([] : List Keyword).length + (if ([] : List Keyword).isEmpty then 0 else 1) < 30)) = true
  line : (apos.endLine == cpos.line) = true
  trees : backTo cpos (starEach [e,f] X.env) = [(false,eval e X.env),(false,eval f X.env)]
noncomputable def IsD (H:Hp) (a:Addr) : Prop := (∃ kvs,Rd H a (.dK kvs)) ∨ ∃ kvs,Rd H a (.dT kvs)
theorem u8 {X:Cx}{pins : List (Addr × Obj)}{σ : St}{H:Hp}{s:Shared}{a:Addr} (I:Inv X pins σ H s) (d:IsD H a) :
    s.TypeIs (.ref a) "dict" ∧ (∀ b,Value.ref a = .ref b → ∃ ob,s.heap.get? b = some ob ∧ ob.dict = none) ∧ (a == sysModules) = false :=by
  rcases d with ⟨kvs,e⟩ | ⟨kvs,e⟩
  · obtain ⟨_,hd,vs,_,dd⟩ := jP I.hok e
    refine ⟨dd.typeIs,fun b q => ?_,hd⟩
    cases q
    obtain ⟨ob,_,_,h1,h2,_⟩ := dd
    exact ⟨ob,h1,h2.2.1⟩
  · obtain ⟨_,hd,xs,_,dd⟩ := gD I.hok e
    refine ⟨dd.typeIs,fun b q => ?_,hd⟩
    cases q
    obtain ⟨ob,_,_,h1,h2,_⟩ := dd
    exact ⟨ob,h1,h2.2.1⟩
section
variable {X:Cx}{pins : List (Addr × Obj)}{σ : St}{H:Hp}{s:Shared}{a:Addr}{y d : V}{u r : Value}{o:Option V}{A:Around}{E:Value → Shared → Prop}
end
section
variable {X:Cx}{o e f : Expr}{apos cpos : Pos}{td ty tx : TE}
end
section
variable {X:Cx}{pins : List (Addr × Obj)}{σ : St}{H:Hp}{s:Shared}{a:Addr}{kvs : List (Key × V)}{A:Around}{E:Value → Shared → Prop}
end
section
variable {X:Cx}{pins : List (Addr × Obj)}{σ : St}{H:Hp}{s:Shared}{a:Addr}{y:V}{u:Value}{A:Around}{E:Value → Shared → Prop}
end
end L2
namespace Att
open PySem PySem.W PySem.Calls PyProof.Rows
theorem ie {P:Params}{h:Heap} : ∀ (ns : List Int) (vs : List Value),WellAll P h vs (ns.map WData.int) → IntsAre vs ns :=by
  intro ns
  induction ns with
  | nil =>
    intro vs w
    rw [List.map_nil] at w
    cases w
    exact .nil
  | cons n ns ih =>
    intro vs w
    rw [List.map_cons] at w
    cases w with
    | cons a b =>
      cases a
      exact .cons _ _ (ih _ b)
theorem oP {l:OpenLaw}{n:Nat} (hn : l.most = some n) {P:Params}{h:Heap}{args : List WData}{vals : List Value}
    (hpre : l.row.toRowW.claim.pre args = true) (hwl : WellAll P h vals args) :
    ∃ a vs ns,vals = [Value.ref a] ∧ args = [WData.list (ns.map WData.int)] ∧ h.get? a = some { cls := .type "list",data := .seq vs.toArray } ∧ IntsAre vs ns ∧ ns.length ≤ n :=by
  have hsh : WShape.hasAll [] args [.list .int] = true := (pre_splitW hpre).1
  have hc : l.pre.holds [] { args := args } = true := (pre_splitW hpre).2
  obtain ⟨d,r,rfl,h1,h2⟩ := hasAllW_cons hsh
  obtain rfl := hasAllW_nil h2
  obtain ⟨xs,rfl,h3⟩ := hasW_list h1
  obtain ⟨ns,rfl⟩ := items_int h3
  have hlen : ns.length ≤ n :=by
    unfold OpenLaw.pre at hc
    have h4 : (WTm.not (.lt (.lit (.int (n:Int))) (.len (.arg 0)))).holds [] { args := [.list (ns.map .int)] } = true :=by
      have h4 := (holds_andW hc).1
      rw [hn] at h4
      exact h4
    have h5 := condW_of h4 (w_not (w_lt w_lit (w_len_list (w_arg rfl))))
    rw [List.length_map] at h5
    refine Nat.le_of_not_lt fun q => ?_
    have q' : (n:Int) < ((ns.length : Nat) : Int) :=by omega
    first
      | (rw [decide_eq_true q'] at h5; exact absurd h5 (by decide))
      | (simp at h5; omega)
  cases hwl with
  | cons w1 w2 =>
    cases w2
    cases w1 with
    | list ho hall => exact ⟨_,_,ns,rfl,rfl,ho,ie ns _ hall,hlen⟩
theorem oS (l:OpenLaw) (args : List WData) : l.row.toRowW.claim.post args (.bool true) args = true :=
  postW_of (r := l.row.toRowW) (X := (true == true))
    (show WShape.has [] (.bool true) .bool = true by first | rfl | decide | simp [WShape.has,WShape.arms,WShape.armsAll])
    (show (WTm.eq .res (.lit (.bool true))).value [] { args := args,res := some (.bool true),after := args } = some (.bool (true == true)) from w_eq_bool (w_res rfl) w_lit) rfl
theorem attach_call {l:OpenLaw}{n:Nat}{q:Program}{loose : List Str}{XP : (Str → Option Value) → Heap → Prop}{YP : World → Heap → Prop}{d:DefRec}
    (hn : l.most = some n) (hdf : d.params.defaults = [])
    (call : ∀ (w:World) (s₀ s₁ : Shared) (mg mb : Str → Option Value) (fa : Addr) (o:Obj) (pm cd doc : Value) (a:Addr) (vs : List Value) (ns : List Int),
      Ground q loose [] XP w s₀ mg mb s₁.heap → YP w s₁.heap →
      s₁.heap.get? fa = some o → o.data = .func (docDef d.name d.params d.body d.scope pm cd doc) → s₁.heap.CodeRec cd d.name → mg d.name = some (.ref fa) →
      s₁.heap.get? a = some { cls := .type "list",data := .seq vs.toArray } → IntsAre vs ns → ns.length ≤ n → s₁.gens = #[] →
      codeAny (model l.prog w) callerA (.call (.ref fa) ⟨[.ref a],[]⟩) (fun r s' => r = .ok (.ret (.bool true)) ∧ OldK s₁.heap s'.heap ∧ s'.os = s₁.os ∧ AllBare s'.gens) s₁) :
    WalkO q loose XP YP l.row.toRowW d [] (fun f vs => PySem.call f vs) :=by
  intro w s₀ s₁ mg mb G Y fa o pm cd doc dV kV ho hd hcd hD hmg hg args vals as hpre hlay hrd hwl hlo
  obtain rfl : dV = .none := Dflts.none hD hdf
  obtain rfl : kV = .none := Dflts.noKw hD
  obtain ⟨a,vs,ns,rfl,rfl,hobj,hints,hlen⟩ := oP hn hpre hwl
  refine enter_call (codeAny_mono (call w s₀ s₁ mg mb fa o pm cd doc a vs ns G Y ho (fd_plain hd) hcd hmg hobj hints hlen hg) fun r s' hq => ?_)
  obtain ⟨rfl,h2,h3,h4⟩ := hq
  exact ⟨.inl ⟨.bool true,.bool true,[],rfl,fun _ => rfl,.bool true,oS l _,fun _ => ⟨List.Pairwise.nil,fun _ hm => (nomatch hm)⟩⟩,h2,h3,h4⟩
section
variable {prog : Program}{w:World}{A:Around}{E:Value → Shared → Prop}{s:Shared}{K:Frag}
noncomputable def v9 (h:Heap) (L d : Addr) : List (Addr × Obj) := (List.range h.objs.size).filterMap fun a => if a = L ∨ a = d then none else (h.get? a).map fun o => (a,o)
end
end Att
namespace L2
open PySem PySem.Spec PyProof.Rows
theorem jA : ∀ {vs : List Value}{ns : List Int},IntsAre vs ns → Vals (ns.map V.int) vs
  | _,_,.nil => .nil
  | _,_,.cons n t h => .cons ⟨t,rfl⟩ (jA h)
noncomputable def Only (H:Hp) : Prop := ∀ b,H b = none ∨ ∃ o xs,H b = some (.frz o (.lst xs))
theorem rg {P:Program}{w:World}{K:PySem.W.Frag}{mg mb : Str → Option Value}{CX : CXT}{k:Nat}{fa a : Addr}{fd : FuncData}{x:Str}{sp : Sp}{s₁ : Shared}{vs : List Value}{ns : List Int}
    (KX : K.In s₁.heap) (hns : s₁.heap.Ns mainGlobals mg) (hb : s₁.heap.Ns builtinsNs mb) (hbb : ∀ x : Str,x ≠ "__name__" → mb x = bootBuiltins x) (hlim : s₁.heap.NoLimit) (hg : s₁.gens = #[])
    (ha : s₁.heap.get? a = some { cls := .type "list",data := .seq vs.toArray }) (hi : IntsAre vs ns) (hl : ns.length ≤ sizeLine) (hr : Room k callerA)
    (F:∀ base : Heap,K.In base → base.Ns mainGlobals mg → FnOk P w K mg base CX k fa fd [x] sp) (hbind : ∀ (s:Shared) (u:Value),BindsTo s fd ⟨[u],[]⟩ [(x,u)])
    (hsp : ∀ H : Hp,Only H → SqL K H a (ns.map V.int) → sp [.ref a] H (fun v _ => v = .bl true) fun _ _ _ => False)
    (hCX : ∀ H e s',CX [] H s₁ (fun _ _ _ => False) e s' → False) :
    codeAny (model P w) callerA (.call (.ref fa) ⟨[.ref a],[]⟩) (fun r s' => r = .ok (.ret (.bool true)) ∧ OldK s₁.heap s'.heap ∧ s'.os = s₁.os ∧ AllBare s'.gens) s₁ := by
  have rv := jA hi
  have lenV := hi.length
  have core : ∀ H : Hp,Only H → SqL K H a (ns.map V.int) → HOk P w H s₁.heap → (∀ b,H b ≠ none → b = a) → (H a ≠ none → K.lookup a = none) →
      codeAny (model P w) callerA (.call (.ref fa) ⟨[.ref a],[]⟩) (fun r s' => r = .ok (.ret (.bool true)) ∧ OldK s₁.heap s'.heap ∧ s'.os = s₁.os ∧ AllBare s'.gens) s₁ := by
    intro H hO hS hok hA hK
    have base_of : ∀ {b:Addr}{o:Obj},s₁.heap.get? b = some o → H b = none → (hidT s₁.heap H).get? b = some o := fun e n => rp e n
    have noA : ∀ {b:Addr}{o:Obj}{es : Array DictEntry}{ep : Nat},s₁.heap.get? b = some o → o.data = .dict es ep → H b = none := fun {b o es ep} e d => by
      cases q : H b with
      | none => rfl
      | some u =>
        have e' : b = a := hA b (by rw [q]; simp)
        subst e'
        rw [ha] at e; cases e
        have d' : Data.seq vs.toArray _ = Data.dict es ep := d
        cases d'
    have nsK : ∀ {b:Addr}{m:Str → Option Value},s₁.heap.Ns b m → (hidT s₁.heap H).Ns b m := fun {b m} ⟨o,es,ep,e,d,r⟩ => ⟨o,es,ep,base_of e (noA e d),d,r⟩
    have hKb : K.In (hidT s₁.heap H) := fun b o e => base_of (KX b o e) (by
      cases q : H b with
      | none => rfl
      | some u =>
        have e' : b = a := hA b (by rw [q]; simp)
        subst e'
        rw [hK (by rw [q]; simp)] at e; cases e)
    have hM : Mod K mg (hidT s₁.heap H) := ⟨hKb,nsK hns,⟨mb,nsK hb,hbb⟩,let ⟨mc,h1,h2⟩ := hlim; ⟨mc,nsK h1,h2⟩⟩
    have e0 : Env0 P w K mg (hidT s₁.heap H) callerA [] s₁ H := ⟨rfl,hM,fun b o e => sM e,Nat.le_of_eq (pG _ _),trivial,fun b hb => absurd (show b ∈ ([] : List Addr) from hb) (by simp),hok,.of_eq hg⟩
    refine codeAny_mono ((F _ hKb (nsK hns)).run callerA [] s₁ H ⟨[.ref a],[]⟩ [.ref a] [.ref a] _ _ hr e0 (hbind s₁ (.ref a)) (.cons rfl .nil) (hsp H hO hS)) fun r s' h => ?_
    cases r with
    | error e => exact (hCX H e s' h).elim
    | ok fl =>
      cases fl with
      | next => exact False.elim h
      | brk => exact False.elim h
      | cont => exact False.elim h
      | ret u =>
        obtain ⟨v,H',os,bare,un,hok',r',q⟩ := h
        have q' : v = .bl true := q
        subst q'
        obtain rfl : u = Value.bool true := r'
        refine ⟨rfl,OldK.of_keep fun b o e => ?_,os,bare⟩
        cases q : H b with
        | none => exact un.keep b o e q (by intro z; exact absurd (show b ∈ ([] : List Addr) from z) (by simp)) (by simp)
        | some u =>
          rcases hO b with z | ⟨ob,xs,z⟩
          · rw [q] at z; cases z
          · have z2 := un.frzs b ob _ z
            obtain ⟨e1,_⟩ := hok b _ z
            obtain ⟨e2,_⟩ := hok' b _ z2
            rw [e] at e1; cases e1
            exact e2
  cases hk : K.lookup a with
  | some o =>
    have e := KX a o hk
    rw [ha] at e
    cases e
    refine core (fun _ => none) (fun _ => .inl rfl) (.inr ⟨_,vs.toArray,_,hk,rfl,rfl,rfl,by rw [List.size_toArray,lenV]; exact hl,by simpa using rv⟩) (fun b u z => by have z' : (none : Option HO) = some u := z; cases z') (fun b z => absurd rfl z) fun z => absurd rfl z
  | none =>
    refine core (fun b => if b = a then some (.frz { cls := .type "list",data := .seq vs.toArray } (.lst (ns.map V.int))) else none) (fun b => ?_) (.inl (.inr ⟨{ cls := .type "list",data := .seq vs.toArray },if_pos rfl⟩)) (fun b u z => ?_) (fun b z => ?_) fun _ => hk
    · by_cases hb : b = a
      · exact .inr ⟨_,_,if_pos hb⟩
      · exact .inl (if_neg hb)
    · by_cases hb : b = a
      · have z' := (if_pos hb).symm.trans z
        cases z'
        subst hb
        exact ⟨ha,by rw [List.length_map]; exact hl,vs,_,rv,ha⟩
      · have z' := (if_neg hb).symm.trans z
        cases z'
    · by_cases hb : b = a
      · exact hb
      · exact absurd (if_neg hb) z
end L2
namespace L2
open PySem PySem.Spec PyProof.Rows
noncomputable abbrev KOf {K:PySem.W.Frag}{h:Heap} (_:K.In h) : PySem.W.Frag := K
theorem walk_of {l:PySem.W.OpenLaw}{n k : Nat}{q:Program}{loose : List Str}{XP : (Str → Option Value) → Heap → Prop}{YP : World → Heap → Prop}{d:DefRec}{K:Params → PySem.W.Frag}{CX : World → CXT}{sp : World → Sp}{x:Str}
    (hn : l.most = some n) (hn2 : n ≤ sizeLine) (hdf : d.params.defaults = []) (hr : Room k callerA)
    (hY : ∀ (w:World) (h:Heap),YP w h → (K w.params).In h)
    (F:∀ (w:World) (mg : Str → Option Value) (fa : Addr) (h:Heap),(K w.params).In h → h.Ns mainGlobals mg → mg d.name = some (.ref fa) →
      ∃ fd : FuncData,(∀ (s:Shared) (u:Value),BindsTo s fd ⟨[u],[]⟩ [(x,u)]) ∧
        ∀ base : Heap,(K w.params).In base → base.Ns mainGlobals mg → FnOk l.prog w (K w.params) mg base (CX w) k fa fd [x] (sp w))
    (hsp : ∀ (w:World) (H:Hp) (a:Addr) (ns : List Int),ns.length ≤ n → Only H → SqL (K w.params) H a (ns.map V.int) → sp w [.ref a] H (fun v _ => v = .bl true) fun _ _ _ => False)
    (hCX : ∀ (w:World) (H:Hp) (s:Shared) (e:Value) (s' : Shared),CX w [] H s (fun _ _ _ => False) e s' → False) :
    PySem.W.WalkO q loose XP YP l.row.toRowW d [] (fun f vs => PySem.call f vs) :=by
  refine Att.attach_call hn hdf fun w s₀ s₁ mg mb fa o pm cd doc a vs ns G Y ho hd hcd hmg hobj hints hlen hg => ?_
  have KX := hY w _ Y
  obtain ⟨fd,hb,hF⟩ := F w mg fa _ KX G.T.g hmg
  exact rg KX G.T.g G.T.b G.T.builtins G.T.nolimit hg hobj hints (Nat.le_trans hlen hn2) hr hF hb (fun H hO hS => hsp w H a ns hlen hO hS) fun H e s' => hCX w H s₁ e s'
end L2
namespace L2
open PySem PySem.Spec PyProof.Rows
noncomputable def aC (s:Stmt) : Arguments := match s with
  | .FunctionDef _ a _ _ _ _ _ _ _ _ => a
  | _ => { posonlyargs := [],args := [],vararg := none,kwonlyargs := [],kw_defaults := [],kwarg := none,defaults := [] }
noncomputable def aA (s:Stmt) : List Stmt := match s with
  | .FunctionDef _ _ b _ _ _ _ _ _ _ => b
  | _ => []
noncomputable def ai (s:Stmt) : Scope := match s with
  | .FunctionDef _ _ _ _ _ _ sc _ _ _ => sc
  | _ => { kind := .function,names := [],isGenerator := false,isCoroutine := false }
noncomputable abbrev CX0 : CXT := fun _ _ _ _ _ _ => False
noncomputable abbrev E0 : XK := fun _ _ _ => False
theorem pass0 {X:Cx} : nC CX0 X E0 := fun _ _ _ _ _ _ _ h => h.elim
structure Fun (K:PySem.W.Frag) (x qual : Str) (st : Stmt) (f:Addr) (fd : FuncData) : Prop where
  ex : ∃ (oc : Value) (od : Option Addr) (kV doc pm : Value) (an : Option Addr) (cdv ct : Value) (osl : Array (Option Value)),
    fd = PySem.W.fnOf x qual (aC st) (aA st) (ai st) .none kV doc pm an cdv ct ∧ K.lookup f = some ⟨oc,od,.func fd,osl⟩ ∧ PySem.W.codeIn K cdv qual = true
  kp : PySem.W.keepIn K (.ref f) = true
section
variable {P:Program}{w:World}{K:PySem.W.Frag}{mg : Str → Option Value}{base : Heap}
theorem Fun.ok {x qual : Str}{st : Stmt}{f:Addr}{fd : FuncData}{N ps : List Str}{k:Nat}{sp : Sp} (F:Fun K x qual st f fd) (S:FnScope N ps (ai st)) (len : ∀ vs H Q E,sp vs H Q E → vs.length = ps.length)
    (hbody : ∀ (cdv : Value) (A:Around) (outer : List Env) (s:Shared) (H:Hp) (vs : List V) (Q:VK) (E:XK),Room k (A.deeper (envOfC qual (ai st) s.heap.objs.size f cdv)) → sp vs H Q E →
      ∃ t,PSs (cxOf CX0 P w K mg base N qual (ai st) f cdv A outer s H E).nox (aA st) t ∧ t { nx := fun _ H' => Q .non H',rt := Q } (start N vs) H) : FnOk P w K mg base CX0 (k + 1) f fd ps sp :=by
  obtain ⟨oc,od,kV,doc,pm,an,cdv,ct,osl,rfl,lk,hcd⟩ := F.ex
  refine vU lk hcd S len fun A outer s H vs Q E hr hsp => ?_
  obtain ⟨t,h,q⟩ := hbody cdv A outer s H vs Q E hr hsp
  exact ⟨t,h.nox,q⟩
theorem Fun.binds {x qual : Str}{st : Stmt}{f:Addr}{fd : FuncData}{ps : List Str} (F:Fun K x qual st f fd)
    (h:∀ (kV doc pm : Value) (an : Option Addr) (cdv ct : Value) (us : List Value),us.length = ps.length → bindArgs (PySem.W.fnOf x qual (aC st) (aA st) (ai st) .none kV doc pm an cdv ct) ⟨us,[]⟩ = pure (ps.zip us)) : Binds K fd ps [] :=by
  obtain ⟨oc,od,kV,doc,pm,an,cdv,ct,osl,rfl,lk,hcd⟩ := F.ex
  exact .all (h kV doc pm an cdv ct)
theorem aW {x qual : Str}{st : Stmt}{f:Addr}{oc : Value}{od an : Option Addr}{osl : Array (Option Value)}{kV doc pm cdv ct : Value} (l:K.lookup f = some ⟨oc,od,.func (PySem.W.fnOf x qual (aC st) (aA st) (ai st) .none kV doc pm an cdv ct),osl⟩)
    (c:PySem.W.codeIn K cdv qual = true) (k:PySem.W.keepIn K (.ref f) = true) : Fun K x qual st f (PySem.W.fnOf x qual (aC st) (aA st) (ai st) .none kV doc pm an cdv ct) := ⟨⟨oc,od,kV,doc,pm,an,cdv,ct,osl,rfl,l,c⟩,k⟩
end
theorem bQ {A:Around}{k:Nat} (hr : Room k A) : A.units + 1 < cLine := Nat.lt_of_le_of_lt (Nat.add_le_add_left (by decide : 1 ≤ 64) _) hr.units
section
variable {X:Cx}
theorem pv (i:Nat) {x:Str}{pos : Pos} (hN : X.N[i]? = some x :=by rfl) (hv : Vis X.env.scope x :=by first | exact Or.inl rfl | exact Or.inr (Or.inl rfl) | exact Or.inr (Or.inr rfl)) (hd : (x == ("__debug__" : Str)) = false :=by decide)
    (hcd : (x == ("__classdict__" : Str)) = false :=by decide) : PE X (.Name x pos) (tVar i) := uw hN hv hd hcd
end
theorem iteF {A B : Prop} (h:B) : if false = true then A else B :=by
  rw [if_neg Bool.false_ne_true]
  exact h
theorem iteT {A B : Prop} (h:A) : if true = true then A else B :=by
  rw [if_pos rfl]
  exact h
section
variable {κ : Type} [DecidableEq κ]
end
end L2
namespace L2
open PySem PySem.Spec PyProof.Rows
theorem ja {α β : Type}{f:α → β → Sem (ForInStep β)} (g:α → β → β) : ∀ (l:List α) (c:β),(∀ x ∈ l,∀ c,f x c = pure (.yield (g x c))) → forIn l c f = pure (l.foldl (fun c x => g x c) c)
  | [],_,_ => rfl
  | x :: l,c,h => by
    rw [List.forIn_cons,h x List.mem_cons_self,pure_bind]
    exact ja g l (g x c) fun y hy => h y (List.mem_cons_of_mem _ hy)
noncomputable def cj (env : Env) (p:Str × NameKind) (cs : List (Str × Addr)) : List (Str × Addr) := if (p.2 == NameKind.free) = true then (p.1,(env.cells.lookup p.1).getD 0) :: cs else cs
noncomputable def cloOf (scope : Scope) (env : Env) : List (Str × Addr) := scope.names.foldl (fun c x => cj env x c) []
theorem nu {scope : Scope}{env : Env} (h:∀ p ∈ scope.names,p.2 = .free → ∃ c,env.cells.lookup p.1 = some c) : closureFor scope env = pure (cloOf scope env) :=by
  unfold cloOf
  simp only [closureFor]
  rw [ja (cj env)]
  · rfl
  · intro x hx c
    obtain ⟨n,k⟩ := x
    by_cases hk : k = .free
    · subst hk
      obtain ⟨a,ha⟩ := h _ hx rfl
      have ha : env.cells.lookup n = some a := ha
      simp [cj,cellOf,ha]
    · have : (k == NameKind.free) = false :=by simpa using hk
      simp [cj,this]
theorem je (env : Env) : ∀ (l:List (Str × NameKind)) (c:List (Str × Addr)),(∀ p ∈ l,p.2 = .free → ∃ a,env.cells.lookup p.1 = some a) →
    (∀ y a,c.lookup y = some a → env.cells.lookup y = some a) → ∀ y a,(l.foldl (fun c x => cj env x c) c).lookup y = some a → env.cells.lookup y = some a
  | [],_,_,h,y,a,e => h y a e
  | (n,k) :: r,c,hf,h,y,a,e => by
    refine je env r (cj env (n,k) c) (fun p hp => hf p (List.mem_cons_of_mem _ hp)) (fun z b q => ?_) y a e
    unfold cj at q
    split at q
    · rename_i hk
      obtain ⟨d,hd⟩ := hf (n,k) List.mem_cons_self (by simpa using hk)
      have hd : env.cells.lookup n = some d := hd
      rw [List.lookup_cons] at q
      split at q
      · rename_i hz
        have : z = n :=by simpa using hz
        subst this
        rw [hd] at q ⊢
        simpa using q
      · exact h z b q
    · exact h z b q
theorem lY (env : Env) : ∀ (l:List (Str × NameKind)) (c:List (Str × Addr)) (y:Str),(∃ a,c.lookup y = some a) → ∃ a,(l.foldl (fun c x => cj env x c) c).lookup y = some a
  | [],_,_,h => h
  | (n,k) :: r,c,y,h => by
    refine lY env r _ y ?_
    show ∃ a,(cj env (n,k) c).lookup y = some a
    unfold cj
    split
    · rw [List.lookup_cons]
      split
      · exact ⟨_,rfl⟩
      · exact h
    · exact h
theorem oz (env : Env) : ∀ (l:List (Str × NameKind)) (c:List (Str × Addr)) (y:Str),(y,NameKind.free) ∈ l → ∃ a,(l.foldl (fun c x => cj env x c) c).lookup y = some a
  | (n,k) :: r,c,y,h => by
    rcases List.mem_cons.mp h with e | h
    · obtain ⟨rfl,rfl⟩ := Prod.mk.inj e
      refine lY env r _ y ⟨(env.cells.lookup y).getD 0,?_⟩
      show (cj env (y,.free) c).lookup y = _
      unfold cj
      rw [if_pos (by rfl),List.lookup_cons]
      simp
    · exact oz env r _ y h
structure CScope (X:Cx) (ls : List Str) (scope : Scope) : Prop where
  kind : scope.kind = .function
  nocell : ∀ y ∈ scope.names,y.2 ≠ .cell
  names : ∀ y ∈ scope.names,y.2 = .local → scope.names.lookup y.1 = some .local
  loc : ∀ y,scope.names.lookup y = some .local → y ∈ ls
  free : ∀ y ∈ scope.names,y.2 = .free → X.env.kindOf y.1 = some .cell ∨ X.env.kindOf y.1 = some .free
  noq : ∀ y ∈ ls,∀ k,scope.names.lookup ⟨#[63] ++ y.cps⟩ ≠ some k
noncomputable def hid (ls : List Str) (y:Str) : Str := if ls.contains y then ⟨#[63] ++ y.cps⟩ else y
noncomputable def cxC (X:Cx) (ls : List Str) (scope : Scope) (C:Addr) (s2 : Shared) (H2 : Hp) (fp : List Addr) : Cx where
  prog := X.prog
  w := X.w
  K := X.K
  mg := X.mg
  base := X.base
  A := X.A
  N := ls ++ X.N.map (hid ls)
  s₀ := s2
  H₀ := H2
  env := compEnvC scope (cloOf scope X.env) C X.env
  outer := X.stack
  stack := X.stack
  ex := fp
  calm := X.calm
  fn := fun _ => false
  pn := []
  xe := fun _ _ => False
theorem bU {env : Env}{y:Str} : ∀ {names : List (Str × NameKind)}{k:NameKind},(names.map fun (n,k) => if (k == NameKind.free && env.scope.kind == .function && env.kindOf n == some .cell) then (n,NameKind.cell) else (n,k)).lookup y = some k →
    names.lookup y = some k ∨ (names.lookup y = some .free ∧ k = .cell)
  | [],_,h => by simp at h
  | (n,j) :: r,k,h => by
    have ih := @bU env y r k
    replace h : List.lookup y ((if (j == NameKind.free && env.scope.kind == .function && env.kindOf n == some .cell) = true then (n,NameKind.cell) else (n,j)) :: (r.map fun (n,k) => if (k == NameKind.free && env.scope.kind == .function && env.kindOf n == some .cell) then (n,NameKind.cell) else (n,k))) = some k := h
    by_cases hc : (j == NameKind.free && env.scope.kind == .function && env.kindOf n == some .cell) = true
    · rw [if_pos hc,List.lookup_cons] at h
      rw [List.lookup_cons]
      cases hx : y == n with
      | true =>
        rw [hx] at h
        simp only [Bool.and_eq_true] at hc
        have hj : j = .free :=by simpa using hc.1.1
        subst hj
        have h : some NameKind.cell = some k := h
        cases h
        exact .inr ⟨rfl,rfl⟩
      | false =>
        rw [hx] at h
        exact ih h
    · rw [if_neg hc,List.lookup_cons] at h
      rw [List.lookup_cons]
      cases hx : y == n with
      | true => rw [hx] at h; exact .inl h
      | false => rw [hx] at h; exact ih h
noncomputable def hides (N ls : List Str) (σ : St) : Bool := true
theorem pC {X:Cx}{pins : List (Addr × Obj)}{σ : St}{H2 : Hp}{s2 : Shared}{ls : List Str}{scope : Scope}{fp : List Addr}{C:Addr}{h1 : Heap}{m:Str → Option Value}{tk : Nat}
    (I:Inv X pins σ H2 s2) (S:CScope X ls scope) (hh : hides X.N ls σ = true) (f2 : ∀ b ∈ fp,FpOk X pins H2 b) (ho : ∀ b ∈ fp,∃ o,s2.heap.get? b = some o) (hC : s2.heap.objs.size ≤ C) (hn : h1.Ns C m)
    (old : ∀ b o,s2.heap.get? b = some o → h1.get? b = some o) :
    Inv (cxC X ls scope C s2 H2 fp) [] (List.replicate ls.length none ++ σ) H2 { s2 with heap := h1,toks := tk } :=by
  have cf : ∀ p ∈ scope.names,p.2 = .free → ∃ c,X.env.cells.lookup p.1 = some c := fun p hp e => I.ok.has _ (S.free p hp e)
  have c1 : ∀ y a,(cloOf scope X.env).lookup y = some a → X.env.cells.lookup y = some a := je X.env scope.names [] cf (fun y a e => by simp at e)
  have c2 : ∀ y,scope.names.lookup y = some .free → ∃ a,(cloOf scope X.env).lookup y = some a := fun y hy => oz X.env scope.names [] y (PySem.mem_of_lookup hy)
  have lt2 : ∀ b ∈ fp,b < s2.heap.objs.size := fun b hb => let ⟨o,e⟩ := ho b hb; Heap.lt_size e
  have kinds : ∀ y k,(relabel scope X.env).names.lookup y = some k → k = .cell ∨ k = .free → scope.names.lookup y = some .free := fun y k h hk => by
    rcases bU (env := X.env) h with q | ⟨q,_⟩
    · rcases hk with rfl | rfl
      · exact absurd rfl (S.nocell _ (PySem.mem_of_lookup q))
      · exact q
    · exact q
  refine ⟨⟨I.ok.mod,S.kind,I.ok.glob,I.ok.blt,hC,fun x y c e1 e2 => I.ok.inj x y c (c1 x c e1) (c1 y c e2),fun x hx => ?_,fun x c h => absurd h Bool.false_ne_true,I.ok.hd,I.ok.frames,.inl rfl,fun b hb => ⟨?_,fun x c e => (f2 b hb).2.2.2.2.1 x c (c1 x c e)⟩,I.bs,Nat.le_trans I.ok.bsz I.sz,fun b o e hb => ?_,fun b hb hz => ?_,I.stack,I.stkFree⟩,
    rfl,I.bare,Un.kept old,⟨m,hn,fun i y v e1 e2 e3 => ?_⟩,fun x c e => ?_,I.hok.fresh hC,fun x c e => I.freeC x c (c1 x c e),fun p hp => absurd (show p ∈ ([] : List (Addr × Obj)) from hp) (by simp),I.hok.kept old,?_⟩
  · have hx : (relabel scope X.env).names.lookup x = some .cell ∨ (relabel scope X.env).names.lookup x = some .free := hx
    rcases hx with hx | hx
    · exact c2 x (kinds x _ hx (.inl rfl))
    · exact c2 x (kinds x _ hx (.inr rfl))
  · exact Nat.ne_of_lt (Nat.lt_of_lt_of_le (lt2 b hb) hC)
  · rcases (f2 b hb).2.2.2.1 with z | z
    · exact I.ok.noex b o e z
    · exact absurd (Nat.lt_of_lt_of_le (Heap.lt_size e) (Nat.le_trans I.ok.bsz z)) (Nat.lt_irrefl _)
  · rcases List.mem_cons.mp (I.stkSub b hz) with z | z
    · exact (f2 b hb).2.1 z
    · exact (f2 b hb).2.2.1 z
  · have e1 : (ls ++ X.N.map (hid ls))[i]? = some y := e1
    by_cases hi : i < ls.length
    · rw [List.getElem?_append_left (by simpa using hi),List.getElem?_replicate] at e2
      rw [if_pos hi] at e2
      cases e2
    · rw [List.getElem?_append_right (by omega)] at e1
      rw [List.getElem?_append_right (by simpa using hi),List.length_replicate] at e2
      rw [List.getElem?_map] at e1
      obtain ⟨y0,e1',ey⟩ := Option.map_eq_some_iff.mp e1
      have e3 : (relabel scope X.env).names.lookup y = some .local ∨ (relabel scope X.env).names.lookup y = some .cell ∨ (relabel scope X.env).names.lookup y = some .free := e3
      have ny : y0 ∉ ls := fun hm => by
        unfold hid at ey
        rw [if_pos (by simpa using hm)] at ey
        subst ey
        have no : ∀ k,(relabel scope X.env).names.lookup ⟨#[63] ++ y0.cps⟩ = some k → False := fun k q => by
          rcases bU (env := X.env) q with z | ⟨z,_⟩
          · exact S.noq y0 hm _ z
          · exact S.noq y0 hm _ z
        rcases e3 with q | q | q <;> exact no _ q
      unfold hid at ey
      rw [if_neg (by simpa using ny)] at ey
      rw [ey] at e1' ny
      have e1 := e1'
      have fr : scope.names.lookup y = some .free :=by
        rcases e3 with q | q | q
        · rcases bU (env := X.env) q with z | ⟨_,z⟩
          · exact absurd (S.loc y z) ny
          · cases z
        · exact kinds y _ q (.inl rfl)
        · exact kinds y _ q (.inr rfl)
      have kx := S.free _ (PySem.mem_of_lookup fr) rfl
      obtain ⟨m2,_,hl⟩ := I.loc
      obtain ⟨u,r,l⟩ := hl _ y v e1 e2 (.inr kx)
      refine ⟨u,r,?_⟩
      have knd : (relabel scope X.env).names.lookup y = some .cell ∨ (relabel scope X.env).names.lookup y = some .free :=by
        rcases e3 with q | q
        · rcases bU (env := X.env) q with z | ⟨_,z⟩
          · exact absurd (S.loc y z) ny
          · cases z
        · exact q
      rcases l with ⟨k1,_⟩ | ⟨_,c,hc,hcell⟩
      · have kx : X.env.kindOf y = some .cell ∨ X.env.kindOf y = some .free := kx
        rcases kx with z | z <;> (rw [k1] at z; cases z)
      · obtain ⟨c',hc'⟩ := c2 y fr
        have := c1 y c' hc'
        rw [hc] at this
        cases this
        refine .inr ⟨knd,c,hc',?_⟩
        obtain ⟨o,ho,hd⟩ := hcell
        exact ⟨o,old _ _ ho,hd⟩
  · obtain ⟨v,o,ho,hd⟩ := I.cell x c (c1 x c e)
    exact ⟨v,o,old _ _ ho,hd⟩
  · show (List.replicate ls.length none ++ σ).length = (ls ++ X.N.map (hid ls)).length
    rw [List.length_append,List.length_append,List.length_replicate,List.length_map,I.len]
theorem rm {X:Cx}{pins : List (Addr × Obj)}{σ σ' : St}{H2 H3 : Hp}{s2 s' : Shared}{ls : List Str}{scope : Scope}{fp : List Addr}{C D : Addr}{h' : Heap}{ys : List V}{its : List Value}{n:Nat}{pl : List (Addr × Obj)}
    (I:Inv X pins σ H2 s2) (f2 : ∀ b ∈ fp,FpOk X pins H2 b) (J:Inv (cxC X ls scope C s2 H2 fp) pl σ' H3 s') (hD : s2.heap.objs.size ≤ D) (hC : s2.heap.objs.size ≤ C) (hDC : D ≠ C)
    (sb : Heap.SameBut C s'.heap h') (hD3 : H3 D = none) (e:s'.heap.get? D = some { cls := .type "list",data := .seq its.toArray n }) (r:Vals ys its) (z:ys.length ≤ sizeLine) : Inv X pins σ (upd H3 D (.lst ys)) { s' with heap := h' } :=by
  have ext : ∀ b o,b ≠ C → s'.heap.get? b = some o → h'.get? b = some o := fun b o hb e => sb.extBut b o hb e
  have neD : ∀ b,b < s2.heap.objs.size → b ≠ D := fun b hb => Nat.ne_of_lt (Nat.lt_of_lt_of_le hb hD)
  have neC : ∀ b,b < s2.heap.objs.size → b ≠ C := fun b hb => Nat.ne_of_lt (Nat.lt_of_lt_of_le hb hC)
  have lt : ∀ b u,H2 b = some u → b < s2.heap.objs.size := fun b u q => by
    apply Classical.byContradiction
    intro hb
    have := I.hok.fresh (Nat.le_of_not_lt hb)
    rw [this] at q
    cases q
  have fC : H3 C = none := J.free
  refine I.call' (s' := { s' with heap := h' }) (ch := fp) J.os ⟨fun b o q n hb hx => ?_,fun b o q n hb hx => ?_,fun b o q n hx => ?_,fun b o q hx => ?_,fun b xs q => ?_,fun b o u q => ?_,fun b ps q => ?_⟩ (fun b u q => ?_) J.bare fun b hb => ?_
  · exact ext b o (neC b (Heap.lt_size q)) (J.base.keep b o q n hb hx)
  · obtain ⟨sl,w⟩ := J.base.slot b o q n hb hx
    exact ⟨sl,ext b _ (neC b (Heap.lt_size q)) w⟩
  · rw [ap (neD b (Heap.lt_size q))]
    exact J.base.free b o q n hx
  · obtain ⟨o',w⟩ := J.base.there b o q hx
    exact ⟨o',ext b _ (neC b (Heap.lt_size q)) w⟩
  · rw [ap (neD b (lt b _ q))]; exact J.base.tups b xs q
  · rw [ap (neD b (lt b _ q))]; exact J.base.frzs b o u q
  · rw [ap (neD b (lt b _ q))]; exact J.base.tbls b ps q
  · by_cases hb : b = D
    · subst hb
      rw [aN] at q
      cases q
      exact ⟨z,its,n,r,ext _ _ hDC e⟩
    · rw [ap hb] at q
      have ne1 : b ≠ C := fun w => by rw [w,fC] at q; cases q
      have ow : ∀ c u,H3 c = some u → c ≠ D := fun c u w z => by rw [z,hD3] at w; cases w
      have oc : ∀ c u,H3 c = some u → c ≠ C := fun c u w z => by rw [z,fC] at w; cases w
      refine (J.hok b u q).stay (fun c v hc w => ext c v ?_ w) (fun c w => by rw [ap (ow c _ w)]; exact w) fun c xs w => by rw [ap (ow c _ w)]; exact w
      rcases hc with rfl | hc
      · exact ne1
      · exact oc c _ hc
  · obtain ⟨a1,a2,a3,a4,a5,a6⟩ := f2 b hb
    exact ⟨a4,a2,a5,a6⟩
noncomputable def PIfs (X:Cx) (ifs : List Expr) (t:TT) : Prop :=
  ∀ (pins : List (Addr × Obj)) (s:Shared) (σ : St) (H:Hp) (Q:Bool → Hp → Prop),Inv X pins σ H s → t σ H Q →
    wpAny (model X.prog X.w) X.A (forIn ifs true fun c r => if r = true then do let ok ← isTrue c X.env (eval c X.env); pure (ForInStep.yield ok) else pure (ForInStep.yield r)) (TP X pins σ Q) X.xe s
noncomputable def tYes : TT := fun _ H Q => Q true H
theorem sr {X:Cx} : PIfs X [] tYes := fun _ _ _ H _ I h => wpAny_tests_nil ⟨H,I,h⟩
theorem so {X:Cx}{c:Expr}{t:TT} (h:PT X c t) : PIfs X [c] t := fun pins s σ H Q I q => wpAny_tests_one (h pins s σ H Q I q)
noncomputable def CompW (J:It) (ls : List Str) (g:TG) (tt : TT) (te : TE) (σ : St) (H1 : Hp) (Q:VK) : Prop := ∃ W : Nat → Nat → List V → Hp → Prop,(∃ m,W 0 m [] H1) ∧ ∀ i m ys H,W i m ys H →
  (J.stop i H ∧ ∀ D,H D = none → Q (.ref D) (upd H D (.lst ys))) ∨
  (J.go i H ∧ ∃ R : List V → Hp → Prop,(∀ ys' H',R ys' H' → ∃ m',m' < m ∧ W (i + 1) m' ys' H') ∧ ∀ y H',J.yld i H y H' →
    g y (List.replicate ls.length none ++ σ) H' fun σ2 H2 => σ2.drop ls.length = σ ∧ σ2.length = ls.length + σ.length ∧ tt σ2 H2 fun b H3 => if b = true then te σ2 H3 fun v H4 => ys.length < sizeLine ∧ R (ys ++ [v]) H4 else R ys H3)
noncomputable def tComp (N ls : List Str) (wi : TI) (g:TG) (tt : TT) (te : TE) : TE := fun σ H Q => hides N ls σ = true ∧ wi σ H fun J H1 => CompW J ls g tt te σ H1 Q
theorem fg {prog : Program}{w:World}{A:Around}{R:Result → Shared → Prop}{s:Shared}{elt target iter : Expr}{ifs : List Expr}{scope : Scope}{pos : Pos}{it acc : Value}{env : Env} (I:Nat → Shared → Prop)
    (turn : ∀ n s,I n s → wpAny (model prog w) A (pyNext it) (fun r s₁ => match r with
      | none => R (.ok .next) s₁
      | some v => wpAny (model prog w) A (letOwnedTupleGo target it v) (fun _ s₁ => wpAny (model prog w) A (assign target env v) (fun _ s₂ =>
          wpAny (model prog w) A (forIn ifs true fun c r => if r = true then do let ok ← isTrue c env (eval c env); pure (ForInStep.yield ok) else pure (ForInStep.yield r)) (fun ok s₃ =>
            if ok = true then wpAny (model prog w) A (eval elt env) (fun x s₄ =>
              wpAny (model prog w) A (call (.builtin "list.append") [acc,x]) (fun _ s₅ => ∃ m,m < n ∧ I m s₅) (notedBy (model prog w) A env fun e s' => R (.error e) s') s₄) (notedBy (model prog w) A env fun e s' => R (.error e) s') s₃
            else ∃ m,m < n ∧ I m s₃) (notedBy (model prog w) A env fun e s' => R (.error e) s') s₂) (notedBy (model prog w) A env fun e s' => R (.error e) s') s₁) (notedBy (model prog w) A env fun e s' => R (.error e) s') s₁) (notedBy (model prog w) A env fun e s' => R (.error e) s') s)
    (n:Nat) (h:I n s) :
    codeAny (model prog w) A (.compLoop (.ListComp elt [⟨target,iter,ifs,0⟩] scope pos) 0 it acc env) R s :=by
  refine codeAny_loop rfl I (fun n s hI => ?_) n h
  show wpAny _ A ((compTurn (.ListComp elt [⟨target,iter,ifs,0⟩] scope pos) 0 it acc env).onRaise (fun x => do noteFrame x env; theTreesLotGoes x)) _ _ s
  refine wpAny_noted ?_
  rw [compTurn_list]
  refine wpAny_bind (wpAny_standAt (wpAny_bind (wpAny_mono (turn n s hI) (fun r s₁ h₁ => ?_) fun _ _ h' => h')))
  cases r with
  | none => exact wpAny_pure h₁
  | some v =>
    refine wpAny_bind (wpAny_mono h₁ (fun _ s₁ h₁ => ?_) fun _ _ h' => h')
    refine wpAny_bind (wpAny_mono h₁ (fun _ s₂ h₂ => wpAny_bind (wpAny_mono h₂ (fun ok s₃ h₃ => ?_) fun _ _ h' => h')) fun _ _ h' => h')
    cases ok with
    | false => exact wpAny_pure ⟨rfl,h₃⟩
    | true =>
      exact wpAny_bind (wpAny_bind (wpAny_mono h₃ (fun x s₄ h₄ => wpAny_bind (wpAny_mono h₄ (fun _ s₅ h₅ => wpAny_pure (wpAny_pure ⟨rfl,h₅⟩)) fun _ _ h' => h')) fun _ _ h' => h'))
theorem thx {α : Type}{t:Sem α}{Q Q' : α → Shared → Prop}{M:Model}{A:Around}{E:Value → Shared → Prop}{s:Shared} (h:wpAny M A t Q (fun _ _ => False) s) (hQ : ∀ a s,Q a s → Q' a s) : wpAny M A t Q' E s := wpAny_mono h hQ fun _ _ x => x.elim
section
variable {X:Cx}{elt iter tg : Expr}{ifs : List Expr}{scope : Scope}{pos : Pos}{ls : List Str}{wi : TI}{g:TG}{tt : TT}{te : TE}
theorem jQ {use : Option (Value → Sem Unit)}{pins : List (Addr × Obj)}{s:Shared}{σ : St}{H:Hp}{Q:VK}{QQ : Value → Shared → Prop}{pos' : Pos} (hcalm : X.calm = true) (S:CScope X ls scope) (hi : PI X tg iter wi)
    (hg : ∀ C s2 H2 fp,PG (cxC X ls scope C s2 H2 fp) tg g) (ht : ∀ C s2 H2 fp,PIfs (cxC X ls scope C s2 H2 fp) ifs tt) (he : ∀ C s2 H2 fp,PE (cxC X ls scope C s2 H2 fp) elt te)
    (hs : ∀ x,foldedSetIterable iter X.env x = pure x) (I:Inv X pins σ H s) (h:tComp X.N ls wi g tt te σ H Q)
    (hQQ : ∀ (D C : Addr) (s' : Shared) (H' : Hp),(∃ m,s'.heap.Ns C m) → FpOk X pins H' C → (∀ h',Heap.SameBut C s'.heap h' → Inv X pins σ H' { s' with heap := h' }) → Q (.ref D) H' → compPost (model X.prog X.w) X.A X.xe use QQ (.ref D) C (.ok .next) s') :
    wpAny (model X.prog X.w) X.A (comprehension (.ListComp elt [⟨tg,iter,ifs,0⟩] scope pos) scope X.env pos' (newList []) false (eval iter X.env) use) QQ X.xe s :=by
  obtain ⟨hh,h⟩ := h
  have cf : ∀ p ∈ scope.names,p.2 = .free → ∃ c,X.env.cells.lookup p.1 = some c := fun p hp e => I.ok.has _ (S.free p hp e)
  refine wpAny_comprehension_free (use := use) rfl hs (nu cf) S.kind S.names (thn (hi pins s σ H _ I h) fun v s1 h1 => thn h1 fun itv s2 h2 => ?_)
  obtain ⟨it,fp,tn,J,H2,rfl,I2,T,st2,f2,W,⟨m0,w0⟩,turn⟩ := h2
  refine wpAny_newObj_type (wpAny_newFunctionEnv S.nocell (by intro y hy; simp at hy) (fun h₁ hns₁ hsb₁ => ?_) S.kind)
  dsimp only at hns₁ hsb₁ ⊢
  generalize hH2 : s2.heap.push { cls := .type "list",dict := none,data := .seq ([] : List Value).toArray } = G2 at hns₁ hsb₁ ⊢
  have hC : G2.objs.size = s2.heap.objs.size + 1 :=by rw [← hH2,Heap.size_push]
  have hDC : s2.heap.objs.size ≠ G2.objs.size :=by rw [hC]; exact Nat.ne_of_lt (Nat.lt_succ_self _)
  have hCle : s2.heap.objs.size ≤ G2.objs.size :=by rw [hC]; exact Nat.le_succ _
  have old : ∀ b o,s2.heap.get? b = some o → h₁.get? b = some o := fun b o e => hsb₁.extBut b o (Nat.ne_of_lt (Nat.lt_of_lt_of_le (Heap.lt_size e) hCle)) (Heap.get?_push_of_some _ (hH2 ▸ Heap.get?_push_of_some _ e))
  have hacc : h₁.get? s2.heap.objs.size = some { cls := .type "list",data := .seq ([] : List Value).toArray } := hsb₁.extBut _ _ hDC (Heap.get?_push_of_some _ (hH2 ▸ Heap.get?_push_size _ rfl))
  have hobj : ∀ b ∈ fp,∃ o,s2.heap.get? b = some o := fun b hb => let ⟨o,e,_⟩ := T.obj 0 _ st2 b hb; ⟨o,e⟩
  have ltf : ∀ b ∈ fp,b < s2.heap.objs.size := fun b hb => let ⟨o,e⟩ := hobj b hb; Heap.lt_size e
  have nofD : s2.heap.objs.size ∉ (cxC X ls scope G2.objs.size s2 H2 fp).fs := fun z => by
    rcases List.mem_cons.mp (I2.stkSub _ z) with z | z
    · exact absurd I2.lt (by rw [← z]; exact Nat.lt_irrefl _)
    · exact I2.nofs (Nat.le_refl _) z
  have st1 : tn 0 h₁ := T.keep 0 _ _ st2 fun b _ o e => old b o e
  have J0 : ∀ tk,Inv (cxC X ls scope G2.objs.size s2 H2 fp) [] (List.replicate ls.length none ++ σ) H2 { s2 with heap := h₁,toks := tk } := fun tk => pC I2 S hh f2 hobj hCle hns₁ old
  have fpY : ∀ (Hx : Hp) (pl : List (Addr × Obj)),(∀ b ∈ fp,Hx b = none) → (∀ p ∈ pl,s2.heap.objs.size ≤ p.1) → ∀ b ∈ fp,FpOk (cxC X ls scope G2.objs.size s2 H2 fp) pl Hx b := fun Hx pl hx hp b hb =>
    ⟨hx b hb,((J0 0).ok.exf b hb).1,(J0 0).ok.exfs b hb,.inl hb,((J0 0).ok.exf b hb).2,fun p hpp => by
      have hpp : p ∈ pl :=by simpa [cxC] using hpp
      exact Nat.ne_of_gt (Nat.lt_of_lt_of_le (ltf b hb) (hp p hpp))⟩
  have loop : ∀ s₃ : Shared,s₃ = { s2 with heap := h₁,toks := s2.toks + ([] : List (Str × Value)).length } →
      codeAny (model X.prog X.w) X.A (.compLoop (.ListComp elt [⟨tg,iter,ifs,0⟩] scope pos) 0 (.ref it) (.ref s2.heap.objs.size) (compEnvC scope (cloOf scope X.env) G2.objs.size X.env))
        (compPost (model X.prog X.w) X.A X.xe use QQ (.ref s2.heap.objs.size) G2.objs.size) s₃ := by
    rintro s₃ rfl
    refine fg (fun n s' => ∃ (i:Nat) (ys : List V) (its : List Value) (k:Nat) (H' : Hp),Inv (cxC X ls scope G2.objs.size s2 H2 fp) [] (List.replicate ls.length none ++ σ) H' s' ∧ tn i s'.heap ∧ (∀ b ∈ fp,H' b = none) ∧ H' s2.heap.objs.size = none ∧
      s'.heap.get? s2.heap.objs.size = some { cls := .type "list",data := .seq its.toArray k } ∧ Vals ys its ∧ ys.length ≤ sizeLine ∧ W i n ys H') ?_ m0
      ⟨0,[],[],0,H2,J0 _,st1,fun b hb => (f2 b hb).1,I2.hok.fresh (Nat.le_refl _),hacc,.nil,Nat.zero_le _,w0⟩
    rintro n s3 ⟨i,ys,its,k,H3,I3,st3,fr3,d3,e3,r3,z3,w3⟩
    have big : ∀ p ∈ [((s2.heap.objs.size : Addr),({ cls := .type "list",data := .seq its.toArray k } : Obj))],s2.heap.objs.size ≤ p.1 := fun p hp => by
      have this := List.mem_singleton.mp hp
      subst this
      exact Nat.le_refl _
    rcases turn i n ys H3 w3 with ⟨stop,qn⟩ | ⟨go,R,hR,step⟩
    ·
      have P3 : Inv (cxC X ls scope G2.objs.size s2 H2 fp) [(s2.heap.objs.size,{ cls := .type "list",data := .seq its.toArray k })] (List.replicate ls.length none ++ σ) H3 s3 := I3.pins_of fun p hp => by
        have this := List.mem_singleton.mp hp
        subst this
        exact ⟨e3,d3,hDC,nofD,fun v z => by cases z⟩
      refine thx (T.done (cxC X ls scope G2.objs.size s2 H2 fp) rfl rfl rfl hcalm i _ s3 _ H3 (fun _ _ => False) P3 (fpY H3 _ fr3 big) st3 stop) fun r s4 qz => ?_
      obtain ⟨hr,I4⟩ := qz
      subst hr
      obtain ⟨m,hm,_⟩ := I4.loc
      have e4 := (I4.pin _ (List.mem_append_right _ (List.mem_singleton.mpr rfl))).1
      exact hQQ _ _ s4 _ ⟨m,hm⟩ (I2.fpOk hCle (by rw [ap (Ne.symm hDC)]; exact I4.free)) (fun h' sb => rm I2 f2 I4 (Nat.le_refl _) hCle hDC sb d3 e4 r3 z3) (qn _ d3)
    ·
      have P3 : Inv (cxC X ls scope G2.objs.size s2 H2 fp) [(s2.heap.objs.size,{ cls := .type "list",data := .seq its.toArray k })] (List.replicate ls.length none ++ σ) H3 s3 := I3.pins_of fun p hp => by
        have this := List.mem_singleton.mp hp
        subst this
        exact ⟨e3,d3,hDC,nofD,fun v z => by cases z⟩
      refine thx (T.item (cxC X ls scope G2.objs.size s2 H2 fp) rfl rfl rfl hcalm i _ s3 _ H3 (fun _ _ => False) P3 (fpY H3 _ fr3 big) st3 go) fun r s4 qz => ?_
      obtain ⟨u,hr,h4⟩ := qz
      subst hr
      refine thx h4 fun _ s5 qz => ?_
      obtain ⟨x,H5,I5,r5,y5,st5,fr5⟩ := qz
      have I5' := I5.pinned (fpY H5 _ fr5 big) (T.obj _ _ st5)
      refine thx (hg _ _ _ _ _ s5 _ H5 x u _ I5' r5 (step x H5 y5)) fun _ s6 qz => ?_
      obtain ⟨σ6,H6,I6,q6⟩ := qz
      obtain ⟨dr,ln,q6⟩ := q6
      have back : ∀ {s7 : Shared}{H7 : Hp},Inv (cxC X ls scope G2.objs.size s2 H2 fp) ([((s2.heap.objs.size : Addr),({ cls := .type "list",data := .seq its.toArray k } : Obj))] ++ iP fp s5.heap) σ6 H7 s7 →
          Inv (cxC X ls scope G2.objs.size s2 H2 fp) [] (List.replicate ls.length none ++ σ) H7 s7 ∧ tn (i + 1) s7.heap ∧ (∀ b ∈ fp,H7 b = none) ∧ H7 s2.heap.objs.size = none ∧ s7.heap.get? s2.heap.objs.size = some { cls := .type "list",data := .seq its.toArray k } := fun {s7 H7} I7 => by
        have pD := I7.pin _ (List.mem_append_right _ (List.mem_append_left _ (List.mem_singleton.mpr rfl)))
        have pF : ∀ b ∈ fp,∀ o,s5.heap.get? b = some o → s7.heap.get? b = some o ∧ H7 b = none := fun b hb o e => by
          have q := I7.pin (b,o) (List.mem_append_right _ (List.mem_append_right _ (fM hb e)))
          exact ⟨q.1,q.2.1⟩
        refine ⟨(I7.pins_of (pins' := []) fun p hp => absurd hp (by simp)).weak ?_ ?_,T.keep _ _ _ st5 fun b hb o e => (pF b hb o e).1,fun b hb => ?_,pD.2.1,pD.1⟩
        · rw [ln,List.length_append,List.length_replicate]
        · intro j v ej
          by_cases hj : j < ls.length
          · rw [List.getElem?_append_left (by simpa using hj),List.getElem?_replicate,if_pos hj] at ej
            cases ej
          · rw [List.getElem?_append_right (by simpa using hj),List.length_replicate,← dr,List.getElem?_drop] at ej
            rw [← ej]
            congr 1
            omega
        · obtain ⟨o,e,_⟩ := T.obj _ _ st5 b hb
          exact (pF b hb o e).2
      refine thx (ht _ _ _ _ _ s6 σ6 H6 _ I6 q6) fun b s7 qz => ?_
      obtain ⟨H7,I7,q7⟩ := qz
      cases b with
      | false =>
        rw [if_neg Bool.false_ne_true] at q7 ⊢
        obtain ⟨m',hm,w7⟩ := hR _ _ q7
        obtain ⟨a1,a2,a3,a4,a5⟩ := back I7
        exact ⟨m',hm,i + 1,ys,its,k,H7,a1,a2,a3,a4,a5,r3,z3,w7⟩
      | true =>
        rw [if_pos rfl] at q7 ⊢
        refine thx (he _ _ _ _ _ s7 σ6 H7 _ I7 q7) fun y s8 qz => ?_
        obtain ⟨v,H8,I8,r8,z8,q8⟩ := qz
        obtain ⟨m',hm,w8⟩ := hR _ _ q8
        obtain ⟨a1,a2,a3,a4,a5⟩ := back I8
        have pl : s8.heap.PlainList s2.heap.objs.size its.toArray := ⟨k,a5⟩
        refine wpAny_list_append_plain (hsz :=by rw [List.size_toArray,← r3.length]; exact z3) pl fun h9 hl9 hs9 => ?_
        obtain ⟨k9,e9⟩ := hl9
        have cellN : ∀ (y:Str) (c:Addr),(cxC X ls scope G2.objs.size s2 H2 fp).env.cells.lookup y = some c → c ≠ s2.heap.objs.size := fun y c e => by
          have e1 : X.env.cells.lookup y = some c := je X.env scope.names [] cf (fun y a e => by simp at e) y c e
          obtain ⟨v,o,ho,_⟩ := I2.cell y c e1
          exact Nat.ne_of_lt (Heap.lt_size ho)
        have I9 : Inv (cxC X ls scope G2.objs.size s2 H2 fp) [] (List.replicate ls.length none ++ σ) H8 { s8 with heap := h9 } :=
          a1.turned (t' := s8.toks) (fun b o hb e => hs9.extBut b o hb e) a4 hDC (.inr (Nat.le_refl _)) cellN (fun p hp => absurd (show p ∈ ([] : List (Addr × Obj)) from hp) (by simp))
        refine ⟨m',hm,i + 1,ys ++ [v],its ++ [y],k9,H8,I9,T.keep _ _ _ a2 fun b hb o e => hs9.extBut b o (Nat.ne_of_lt (ltf b hb)) e,a3,a4,?_,r3.append (.cons r8 .nil),?_,w8⟩
        · simpa using e9
        · rw [List.length_append,List.length_singleton]; exact z8
  exact codeAny_compStart_list (loop _ rfl) (T.self _ 0 _ _ _ st1 (loop _ rfl))
theorem sy (hcalm : X.calm = true) (S:CScope X ls scope) (hi : PI X tg iter wi)
    (hg : ∀ C s2 H2 fp,PG (cxC X ls scope C s2 H2 fp) tg g) (ht : ∀ C s2 H2 fp,PIfs (cxC X ls scope C s2 H2 fp) ifs tt) (he : ∀ C s2 H2 fp,PE (cxC X ls scope C s2 H2 fp) elt te)
    (hs : ∀ x,foldedSetIterable iter X.env x = pure x :=by intro _; rfl) : PE X (.ListComp elt [⟨tg,iter,ifs,0⟩] scope pos) (tComp X.N ls wi g tt te) :=by
  intro pins s σ H Q I h
  rw [eval_ListComp]
  refine jQ (use := none) hcalm S hi hg ht he hs I h fun D C s' H' hm _ hI q => ?_
  obtain ⟨m,hm⟩ := hm
  exact ⟨m,hm,fun h' sb => ⟨.ref D,H',hI h' sb,rfl,q⟩⟩
theorem mw {i:Nat}{x:Str}{px spos : Pos} (hN : X.N.Nodup) (hx1 : X.N[i]? = some x) (hx : X.env.scope.names.lookup x = some .local) (hcalm : X.calm = true) (S:CScope X ls scope) (hi : PI X tg iter wi)
    (hg : ∀ C s2 H2 fp,PG (cxC X ls scope C s2 H2 fp) tg g) (ht : ∀ C s2 H2 fp,PIfs (cxC X ls scope C s2 H2 fp) ifs tt) (he : ∀ C s2 H2 fp,PE (cxC X ls scope C s2 H2 fp) elt te)
    (hsw : swapsWith (.ListComp elt [⟨tg,iter,ifs,0⟩] scope pos) (some (.Name x px)) spos.line X.env = pure true :=by rfl)
    (hs : ∀ x,foldedSetIterable iter X.env x = pure x :=by intro _; rfl) : PS X (.Assign [.Name x px] (.ListComp elt [⟨tg,iter,ifs,0⟩] scope pos) spos) (tAsg (tComp X.N ls wi g tt te) (gName i)) :=by
  intro pins s σ H D I h
  rw [exec_Assign_Name_used _ _ _ _ hsw]
  refine wpAny_bind (wpAny_standAt (wpAny_bind ?_))
  show wpAny _ X.A (do let _ ← comprehension (.ListComp elt [⟨tg,iter,ifs,0⟩] scope pos) scope X.env _ (newList []) false (eval iter X.env) (some (assign (.Name x px) X.env))) _ _ s
  refine wpAny_bind (wpAny_mono (jQ (use := some (assign (.Name x px) X.env)) (QQ := fun _ s' => SP X pins D .next s') hcalm S hi hg ht he hs I h fun Dd C s' H' hm hf hI q => ?_) (fun _ s' hq => wpAny_pure (wpAny_pure hq)) fun _ _ e => e)
  obtain ⟨m,hm⟩ := hm
  have I1 : Inv X pins σ H' s' := hI s'.heap (.refl ..)
  show wpAny _ X.A (assign (.Name x px) X.env (.ref Dd)) _ _ _
  refine wpAny_assign_Name (jC (v := .ref Dd) I1 hN hx1 (.inl hx) rfl (fun s2 I2 ch => ?_) (.inr hx))
  obtain ⟨f0,f1,f2,f3,f4,f5⟩ := hf
  obtain ⟨a,sb,ha⟩ := ch
  have hne : C ≠ a :=by
    rcases ha with ha | ha
    · rw [ha]; exact f1
    · exact Ne.symm (f4 _ _ ha)
  refine ⟨m,hm.sameBut sb hne,fun h' sb' => ?_⟩
  exact ⟨_,H',I2.turned (t' := s2.toks) (fun b o hb e => sb'.extBut b o hb e) f0 f1 f3 f4 f5,q⟩
end
end L2
namespace L2
open PySem PySem.Spec PyProof.Rows
noncomputable def ou (ls : List Str) (sc outer : Scope) : Bool := (sc.kind == .function && ls.all fun y => (sc.names.lookup ⟨#[63] ++ y.cps⟩).isNone) && sc.names.all fun y => (y.2 != .cell) && (y.2 != .local || (sc.names.lookup y.1 == some .local && ls.contains y.1)) && (y.2 != .free || outer.names.lookup y.1 == some .cell || outer.names.lookup y.1 == some .free)
theorem CScope.of {X:Cx}{ls : List Str}{scope : Scope} (outer : Scope) (h:ou ls scope outer = true :=by decide +kernel) (ho : X.env.scope = outer :=by rfl) : CScope X ls scope :=by
  unfold ou at h
  rw [Bool.and_eq_true,List.all_eq_true] at h
  obtain ⟨h0,h⟩ := h
  rw [Bool.and_eq_true,List.all_eq_true] at h0
  obtain ⟨h0,hq⟩ := h0
  refine ⟨by simpa using h0,fun y hy e => ?_,fun y hy e => ?_,fun y hy => ?_,fun y hy e => ?_,fun y hy k e => by have q := hq y hy; rw [e] at q; cases q⟩
  · have q := h y hy
    simp [e] at q
  · have q := h y hy
    simp [e] at q
    exact q.1
  · have q := h _ (PySem.mem_of_lookup hy)
    simp at q
    exact q.2
  · have q := h y hy
    simp [e] at q
    show X.env.scope.names.lookup y.1 = _ ∨ X.env.scope.names.lookup y.1 = _
    rw [ho]
    exact q
noncomputable def CMulB (i j : Int) : Prop := i.natAbs < 2 ^ 65536 ∧ j.natAbs < 2 ^ 65536
theorem oB {i:Int}{n:Nat} (h:i.natAbs < 2 ^ n) : Builtin.Int.intBits i ≤ n :=by
  unfold Builtin.Int.intBits
  split
  · exact Nat.zero_le _
  · rename_i hz
    have hz' : i.natAbs ≠ 0 :=by
      intro e
      exact hz (by simp_all)
    have := (Nat.log2_lt hz').mpr h
    omega
theorem CMulB.ok {i j : Int} (h:CMulB i j) : IntMulOk i j := .of_bits (Nat.le_trans (oB h.1) (by decide)) (Nat.le_trans (oB h.2) (by decide))
section
variable {X:Cx}
theorem eQ : ∀ {ns : List Int}{us : List Value},Vals (ns.map V.int) us → IntsAre us ns
  | [],_,.nil => .nil
  | n :: r,_,.cons h t => by
    obtain ⟨tk,rfl⟩ := h
    exact .cons n tk (eQ t)
theorem rO (hc : X.calm = true) : CallR X (.builtin "sum") (fun xs H Q => ∃ (p:Addr) (ns : List Int),xs = [.ref p] ∧ SqL X.K H p (ns.map V.int) ∧ Q (.int ns.sum) H) :=by
  intro pins s σ H xs us Q I r h
  obtain ⟨p,ns,rfl,hq,q⟩ := h
  obtain ⟨u,rfl,ru⟩ := vals1 r
  cases ru
  obtain ⟨its,rv,pl,hz⟩ := I.list hq
  have hi := eQ rv
  obtain ⟨xs,e⟩ := hi.allInts.items
  have hl : s.heap.IsList p (intItems xs) :=by rw [← e]; exact pl.isList
  refine sum_intListG (I.ok.hd hc) hl fun h' tk t' hk => ?_
  have es : preSum (numAt xs) xs.size = ns.sum :=by
    rw [preSum_eq,List.take_of_length_le (by simp),← nums_intItems,← e]
    rw [show its.toArray.toList = its from rfl,hi.numsOf]
  exact ⟨.int ns.sum,H,I.kept (t' := tk) hk,⟨t',by rw [es]⟩,q⟩
theorem call_isinst : CallR X (.builtin "isinstance") (fun xs H Q => ∃ (x c : V) (cv t : Value) (b:Bool),xs = [x,c] ∧ RelV c cv ∧ TyOf X.K H x t ∧ PySem.W.kitOne X.K t cv = some b ∧ Q (.bl b) H) :=by
  intro pins s σ H xs us Q I r h
  obtain ⟨x,c,cv,t,b,rfl,rc,ty,e,q⟩ := h
  obtain ⟨u,u',rfl,ru,ru'⟩ := vals2 r
  have : u' = cv :=by
    cases c with
    | ref a => cases rc; cases ru'; rfl
    | ty n => cases rc; cases ru'; rfl
    | non => cases rc; cases ru'; rfl
    | bl _ => cases rc; cases ru'; rfl
    | int _ => obtain ⟨t1,rfl⟩ := rc; exact absurd e (by simp [PySem.W.kitOne,PySem.W.kitCls]; intro h; cases ty <;> cases h)
    | str _ => obtain ⟨t1,rfl⟩ := rc; exact absurd e (by simp [PySem.W.kitOne,PySem.W.kitCls]; intro h; cases ty <;> cases h)
    | byt _ => obtain ⟨t1,rfl⟩ := rc; exact absurd e (by simp [PySem.W.kitOne,PySem.W.kitCls]; intro h; cases ty <;> cases h)
    | flt _ => obtain ⟨t1,rfl⟩ := rc; exact absurd e (by simp [PySem.W.kitOne,PySem.W.kitCls]; intro h; cases ty <;> cases h)
  subst this
  exact pA I ru ty e fun tk => ⟨.bl b,H,I.tok tk,rfl,q⟩
mutual
inductive Den (K:PySem.W.Frag) (H:Hp) : V → PyData → Prop
  | non : Den K H .non .none
  | bl (b) : Den K H (.bl b) (.bool b)
  | int (i) : Den K H (.int i) (.int i)
  | str (x) : Den K H (.str x) (.str x)
  | lst {a xs ds} : SqL K H a xs → DenAll K H xs ds → Den K H (.ref a) (.list ds)
  | tup {a xs ds} : SqT K H a xs → DenAll K H xs ds → Den K H (.ref a) (.tuple ds)
inductive DenAll (K:PySem.W.Frag) (H:Hp) : List V → List PyData → Prop
  | nil : DenAll K H [] []
  | cons {x xs d ds} : Den K H x d → DenAll K H xs ds → DenAll K H (x :: xs) (d :: ds)
end
mutual
theorem dZ {pins : List (Addr × Obj)}{σ : St}{H:Hp}{s:Shared} (I:Inv X pins σ H s) : ∀ {x:V}{d:PyData}{u:Value},Den X.K H x d → RelV x u → ∃ as,Reads s.heap u d as
  | _,_,_,.non,r => by cases r; exact ⟨_,.none⟩
  | _,_,_,.bl b,r => by cases r; exact ⟨_,.bool b⟩
  | _,_,_,.int i,r => by obtain ⟨t,rfl⟩ := r; exact ⟨_,.int i t⟩
  | _,_,_,.str i,r => by obtain ⟨t,rfl⟩ := r; exact ⟨_,.str i t⟩
  | _,_,_,.lst hq ha,r => by
    cases r
    obtain ⟨its,rv,⟨o,n,e1,e2,e3,e4⟩,hz⟩ := I.list hq
    obtain ⟨as,h⟩ := eJ I ha rv
    exact ⟨_,.list e1 e2 e4 (by simpa using h)⟩
  | _,_,_,.tup hq ha,r => by
    cases r
    obtain ⟨its,rv,⟨o,e1,e2,n,e3⟩,hz⟩ := I.tuple hq
    obtain ⟨as,h⟩ := eJ I ha rv
    exact ⟨_,.tuple e1 e2 e3 (by simpa using h)⟩
theorem eJ {pins : List (Addr × Obj)}{σ : St}{H:Hp}{s:Shared} (I:Inv X pins σ H s) : ∀ {xs : List V}{ds : List PyData}{us : List Value},DenAll X.K H xs ds → Vals xs us → ∃ as,ReadsAll s.heap us ds as
  | _,_,_,.nil,.nil => ⟨_,.nil⟩
  | _,_,_,.cons h t,.cons r rs => by
    obtain ⟨as,h1⟩ := dZ I h r
    obtain ⟨bs,h2⟩ := eJ I t rs
    exact ⟨_,.cons h1 h2⟩
end
noncomputable def rEqD (K:PySem.W.Frag) (A:Around) (neg : Bool) : R2 := fun x y H Q => ∃ d e,Den K H x d ∧ Den K H y e ∧ d.canLay0 = true ∧ e.canLay0 = true ∧ A.units + min d.depth e.depth < cLine ∧ Q (.bl (if neg then !PyData.eqv d e else PyData.eqv d e)) H
theorem uM : OpR X (compareOp .Eq) (rEqD X.K X.A false) :=by
  intro pins s σ H x y v u Q I rx ry h
  obtain ⟨d,e,hd,he,cd,ce,hu,q⟩ := h
  obtain ⟨as,ra⟩ := dZ I hd rx
  obtain ⟨bs,rb⟩ := dZ I he ry
  exact SeqAt.compareEq_reads ra rb cd ce hu ⟨.bl _,H,I,rfl,q⟩
theorem uJ : OpR X (compareOp .NotEq) (rEqD X.K X.A true) :=by
  intro pins s σ H x y v u Q I rx ry h
  obtain ⟨d,e,hd,he,cd,ce,hu,q⟩ := h
  obtain ⟨as,ra⟩ := dZ I hd rx
  obtain ⟨bs,rb⟩ := dZ I he ry
  exact SeqAt.compareNe_reads ra rb cd ce hu ⟨.bl _,H,I,rfl,q⟩
end
end L2
namespace L2
open PySem PySem.Spec PyProof.Rows
section
variable {X:Cx}{pins : List (Addr × Obj)}{σ : St}{H:Hp}{s:Shared}
end
section
variable {P:Program}{w:World}{K:PySem.W.Frag}{mg : Str → Option Value}{base : Heap}{N:List Str}{qual : Str}{scope : Scope}{f:Addr}{cd : Value}{A:Around}{outer : List Env}{s:Shared}{H:Hp}{E:XK}
end
end L2
namespace L2
open PySem PySem.Spec PyProof.Rows
section
variable {X:Cx}{tg : Expr}
end
section
variable {X:Cx}
theorem sl_str : SlR X (fun x lo hi H Q => ∃ z,x = .str z ∧ z.length ≤ sizeLine ∧ Q (.str (StrLaws.sliceText z lo hi)) H) :=by
  intro pins s σ H x v vl vu lo hi sl Q I rx hs pl pu h
  obtain ⟨z,rfl,hz,q⟩ := h
  obtain ⟨t,rfl⟩ := rx
  have part : ∀ {v:Value}{o:Option Int},IsPart v o → ∃ p : Option (Int × Tok),v = partValue p ∧ p.map (·.1) = o := fun {v o} h => by
    cases h with
    | none => exact ⟨none,rfl,rfl⟩
    | int i t => exact ⟨some (i,t),rfl,rfl⟩
  obtain ⟨l,rfl,el⟩ := part pl
  obtain ⟨u,rfl,eu⟩ := part pu
  refine ⟨"str",_,slot_str_getitem.lookup,typeIs_str s z t,?_⟩
  obtain ⟨o,h1,h2,h3⟩ := hs
  refine wpAny_getItem_str_slice (l := l) (u := u) (st := none) ⟨o,h1,h2,h3⟩ rfl ?_
  subst el eu
  unfold sliceMade slicePicked
  unfold StrLaws.sliceText at q
  simp only [Option.map_none,Option.getD_none]
  split
  · rename_i hc
    rw [if_pos hc] at q
    exact ⟨.str z,H,I,⟨t,rfl⟩,q⟩
  · rename_i hc
    rw [if_neg hc] at q
    refine ⟨?_,.str _,H,I.tok _,⟨_,rfl⟩,q⟩
    show ((_:List Nat).toArray).size ≤ sizeLine
    rw [List.size_toArray]
    exact Nat.le_trans (List.length_filterMap_le _ _) (Nat.le_trans (sliceIndices_le _ _ _) hz)
theorem kR : CallR X (.type "int") (fun xs H Q => ∃ (z:Str) (n:Int),xs = [.str z] ∧ PySem.intText? z = some n ∧ z.length ≤ 640 ∧ Q (.int n) H) :=by
  intro pins s σ H xs us Q I r h
  obtain ⟨z,n,rfl,hn,hl,q⟩ := h
  obtain ⟨u,rfl,t,rfl⟩ := vals1 r
  exact PySem.W.KIN.call_text hn hl ⟨.int n,H,I.tok _,⟨_,rfl⟩,q⟩
theorem op_mul_str : OpR X (binaryOp .Mult) (fun x y H Q => ∃ (z:Str) (n:Int),x = .str z ∧ y = .int n ∧ MulOk z n ∧ Q (.str (Txt.mul z n)) H) :=by
  intro pins s σ H x y v u Q I rx ry h
  obtain ⟨z,n,rfl,rfl,ho,q⟩ := h
  obtain ⟨t,rfl⟩ := rx
  obtain ⟨t',rfl⟩ := ry
  exact SB.mul ho fun t' k => ⟨.str _,H,I.tok k,⟨_,rfl⟩,q⟩
end
section
variable {X:Cx}{C:Addr}{E:XK}{x:Str}{np cpos pos : Pos}{a:Expr}{es : List Expr}{t:TA}
end
end L2
namespace L2
open PySem PySem.Spec PyProof.Rows
noncomputable def excO (ea : Addr) (cls : Value) : HO := .ext fun h => ∃ o vs,h.get? ea = some o ∧ o.cls = cls ∧ o.data = .fields vs
section
variable {X:Cx}{pins : List (Addr × Obj)}{σ : St}{H:Hp}{s:Shared}{pn : List (Addr × Obj)}{xe : Value → Shared → Prop}
end
section
variable {X:Cx}{CX : CXT}{k:Nat}{f C : Addr}{fd : FuncData}{ps : List Str}{sp : Sp}{dvs : List V}{ds : List Value}{Z:St → XK}{x m : Str}{p pos apos : Pos}{e o : Expr}{es : List Expr}{ta : TE}{t:TA}
end
section
variable {X:Cx}{x:Str}{C:Value}{body suite : List Stmt}{b0 : Stmt}{np hpos pos : Pos}{tb : (St → XK) → TS}{ts : TS}
end
section
variable {P:Program}{w:World}{K:PySem.W.Frag}{mg : Str → Option Value}{base : Heap}
end
end L2
namespace L2
open PySem PySem.Spec PyProof.Rows
section
variable {X:Cx}
end
end L2
namespace L2
open PySem PySem.Spec PyProof.Rows
section
variable {X:Cx}
end
noncomputable def Ite (K:PySem.W.Frag) (a:Addr) : It :=
  ⟨fun i H => ∃ xs x,SqL K H a xs ∧ xs[i]? = some x,fun i H v H' => ∃ T x,H T = none ∧ v = .ref T ∧ (∀ xs,SqL K H a xs → xs[i]? = some x) ∧ H' = upd H T (.tup [.int i,x]),fun i H => ∃ xs,SqL K H a xs ∧ xs.length = i⟩
theorem oM {P:Program}{w:World}{K:PySem.W.Frag}{elts : List Expr}{x1}{tpos : Pos} (a e it : Addr) (hei : e ≠ it) : Turn P w K (.Tuple elts x1 tpos) (Ite K a) [e,it] e (fun i h => (∃ old,IsEnum h e it i old) ∧ h.IsListIter it a i) where
  mem :=by simp
  obj := fun i h st b hb => by
    obtain ⟨⟨old,he⟩,st⟩ := st
    rcases List.mem_cons.mp hb with rfl | hb
    · exact ⟨_,he,fun v z => by cases z⟩
    · have e' : b = it :=by simpa using hb
      subst e'
      obtain ⟨o,e,c,d⟩ := st
      exact ⟨o,e,fun v z => by rw [d] at z; cases z⟩
  keep := fun i h h' st k => ⟨let ⟨old,he⟩ := st.1; ⟨old,k e (by simp) _ he⟩,st.2.at fun o e => k it (by simp) o e⟩
  item :=by
    intro X hP hw hK hc i pins s σ H E I hf st hg
    subst hP hw hK
    obtain ⟨⟨old,he⟩,st⟩ := st
    obtain ⟨xs,x,hq,hx⟩ := hg
    obtain ⟨its,rv,p,hz⟩ := I.list hq
    obtain ⟨u,hu,ru⟩ := rv.get hx
    have fe := hf e (by simp)
    have fi := hf it (by simp)
    obtain ⟨oi,hoi,hoc,hod⟩ := id st
    have nai : a ≠ it := fun z => by
      obtain ⟨o,h1,h2,_⟩ := p.isList
      rw [z,hoi] at h1
      cases h1
      rw [hoc] at h2
      exact absurd h2 (by decide)
    have nae : e ≠ a := fun z => by
      obtain ⟨o,h1,h2,_⟩ := p.isList
      rw [← z,show s.heap.get? e = _ from he] at h1
      cases h1
      exact absurd (show Value.type "enumerate" = Value.type "list" from h2) (by decide)
    have D := Draws.list (prog := X.prog) (w := X.w) (A := X.A.in1) (I.ok.hd hc) it a nai its.toArray
    refine wpAny_pyNext_enum_itemD D he ⟨st,p.isList⟩ (by
      have := List.getElem?_eq_some_iff.mp hu
      obtain ⟨z,_⟩ := this
      simpa using z) hei (by simp [hei,nae]) fun v h' tk hP hout hst hT hsz hk => ?_
    have hv : v = u :=by
      have hP : its.toArray[i]? = some v := hP
      rw [List.getElem?_toArray,hu] at hP
      exact (Option.some.inj hP).symm
    subst hv
    have nT : H s.heap.objs.size = none := I.hok.fresh (Nat.le_refl _)
    have lt : ∀ b o,s.heap.get? b = some o → b ≠ s.heap.objs.size := fun b o q => Nat.ne_of_lt (Heap.lt_size q)
    have ltH : ∀ b o,H b = some o → b ≠ s.heap.objs.size := fun b o q z => by rw [z,nT] at q; cases q
    have neH : ∀ b o,H b = some o → b ≠ e ∧ b ≠ it := fun b o q => ⟨fun z => by (rw [z,fe.1] at q; cases q),fun z => by (rw [z,fi.1] at q; cases q)⟩
    have I1 : Inv X pins σ (upd H s.heap.objs.size (.tup [.int i,x])) { s with heap := h',toks := tk + 1 } :=by
      refine I.call' (s' := { s with heap := h',toks := tk + 1 }) (ch := [e,it]) rfl ⟨fun b o q n hb hx => ?_,fun b o q n hb hx => ?_,fun b o q n hx => ?_,fun b o q hx => ?_,fun b xs q => ?_,fun b o u q => ?_,fun b ps q => ?_⟩ (fun b o q => ?_) I.bare fun b hb => ?_
      · exact hk b o (fun z => hx (by simp [z])) (fun z => hx (by simp [z])) q
      · exact ⟨o.slots,hk b o (fun z => hx (by simp [z])) (fun z => hx (by simp [z])) q⟩
      · rw [ap (lt b o q)]; exact n
      · exact ⟨o,hk b o (fun z => hx (by simp [z])) (fun z => hx (by simp [z])) q⟩
      · rw [ap (ltH b _ q)]; exact q
      · rw [ap (ltH b _ q)]; exact q
      · exact ⟨#[],by rw [ap (ltH b _ q),q]; simp⟩
      · by_cases hb : b = s.heap.objs.size
        · subst hb
          rw [aN] at q
          cases q
          exact ⟨by show 2 ≤ sizeLine; decide,_,.cons ⟨tk,rfl⟩ (.cons ru .nil),⟨_,hT,rfl,_,rfl⟩,_,hT,rfl⟩
        · rw [ap hb] at q
          refine (I.hok b o q).stay (fun c v hc r => ?_) (fun c r => by rw [ap (ltH c _ r)]; exact r) fun c xs r => by rw [ap (ltH c _ r)]; exact r
          have : ∃ o,H c = some o :=by
            rcases hc with rfl | hc
            · exact ⟨o,q⟩
            · exact ⟨_,hc⟩
          obtain ⟨o',qo⟩ := this
          exact hk c v (neH c o' qo).1 (neH c o' qo).2 r
      · have fb : FpOk X pins H b :=by
          rcases List.mem_cons.mp hb with rfl | hb
          · exact fe
          · have e' : b = it :=by simpa using hb
            subst e'; exact fi
        exact ⟨fb.2.2.2.1,fb.2.1,fb.2.2.2.2.1,fb.2.2.2.2.2⟩
    refine ⟨_,rfl,wpAny_letOwnedTupleGo_enum (s := { s with heap := h',toks := tk + 1 }) hout fun h2 he2 hs2 => ?_⟩
    have neT : ∀ b ∈ [e,it],b ≠ s.heap.objs.size := fun b hb => by
      rcases List.mem_cons.mp hb with rfl | hb
      · exact lt _ _ he
      · have e' : b = it :=by simpa using hb
        subst e'; exact lt _ _ hoi
    have fe' : (upd H s.heap.objs.size (.tup [.int i,x])) e = none :=by rw [ap (neT e (by simp))]; exact fe.1
    refine ⟨.ref s.heap.objs.size,upd H s.heap.objs.size (.tup [.int i,x]),?_,rfl,⟨s.heap.objs.size,x,nT,rfl,fun ys hy => by rw [I.list_inj hy hq]; exact hx,rfl⟩,⟨⟨_,by simpa using he2⟩,hst.1.at fun o eo => (hs2.2 it (Ne.symm hei)).trans eo⟩,fun b hb => ?_⟩
    · exact I1.turned (t' := tk + 1) (fun b o hb eo => (hs2.2 b hb).trans eo) fe' fe.2.1 fe.2.2.2.1 fe.2.2.2.2.1 fe.2.2.2.2.2
    · rw [ap (neT b hb)]
      exact (hf b hb).1
  done :=by
    intro X hP hw hK hc i pins s σ H E I hf st hg
    subst hP hw hK
    obtain ⟨⟨old,he⟩,st⟩ := st
    obtain ⟨xs,hq,hx⟩ := hg
    obtain ⟨its,rv,p,hz⟩ := I.list hq
    have fi := hf it (by simp)
    obtain ⟨oi,hoi,hoc,hod⟩ := id st
    have nai : a ≠ it := fun z => by
      obtain ⟨o,h1,h2,_⟩ := p.isList
      rw [z,hoi] at h1
      cases h1
      rw [hoc] at h2
      exact absurd h2 (by decide)
    have D := Draws.list (prog := X.prog) (w := X.w) (A := X.A.in1) (I.ok.hd hc) it a nai its.toArray
    have ei : i = its.toArray.size :=by rw [List.size_toArray,← rv.length]; exact hx.symm
    refine wpAny_pyNext_enum_endD D he (by rw [← ei]; exact ⟨st,p.isList⟩) fun h' eb => ⟨rfl,I.turned (t' := s.toks) (fun b o hb e => eb b o hb e) fi.1 fi.2.1 fi.2.2.2.1 fi.2.2.2.2.1 fi.2.2.2.2.2⟩
  self := fun _ _ _ _ _ st h => let ⟨_,he⟩ := st.1; wpAny_pyIter_enum he h
section
variable {X:Cx}
noncomputable def iEnum (K:PySem.W.Frag) (ta : TA) : TI := fun σ H R => ta σ H fun vs H1 => ∃ a,vs = [.ref a] ∧ (∃ xs,SqL K H1 a xs) ∧ R (Ite K a) H1
theorem sv {a:Expr}{ta : TA}{p pos : Pos}{elts : List Expr}{x1}{tpos : Pos} (hg : Gl X "enumerate") (hm : X.mg "enumerate" = none) (ha : PA X [a] ta) (hs : starEach [a] X.env = [(false,eval a X.env)] :=by rfl) : PI X (.Tuple elts x1 tpos) (.Call (.Name "enumerate" p) [a] [] pos) (iEnum X.K ta) :=by
  intro pins s σ H R I h
  refine Call_ (dc I hg hm boot_enumerate (PyProof.Rows.callWith_type1 (thn (ha pos pins s σ H _ I h) fun us s1 qz => ?_) hs rfl))
  obtain ⟨vs,H1,I1,r1,q1⟩ := qz
  obtain ⟨b,e,⟨xs,hq⟩,q⟩ := q1
  subst e
  cases r1 with
  | cons r rr =>
    cases rr
    cases r
    obtain ⟨its,rv,pl,hz⟩ := I1.list hq
    refine call_enumerate_list pl.isList fun h' he hi hsz hk => ?_
    refine wpAny_pyIter_enum he ?_
    have I2 : Inv X pins σ H1 { s1 with heap := h' } := I1.kept (t' := s1.toks) hk
    refine ⟨s1.heap.objs.size + 1,[s1.heap.objs.size + 1,s1.heap.objs.size],_,_,H1,rfl,I2,oM b _ _ (by simp),⟨⟨_,he⟩,hi⟩,fun c hc => ?_,q⟩
    have hc' : s1.heap.objs.size ≤ c :=by
      rcases List.mem_cons.mp hc with rfl | hc
      · exact Nat.le_succ _
      · have : c = s1.heap.objs.size :=by simpa using hc
        exact Nat.le_of_eq this.symm
    exact I1.fpOk hc' (I1.hok.fresh hc')
end
end L2
set_option maxHeartbeats 1000000
namespace L2
open PySem PySem.Spec PyProof.Rows PySem.W
section
variable {prog : Program}{w:World}{A:Around}{E:Value → Shared → Prop}{h:Heap}{g:Array GenState}{d:Drawn}{t:Nat}{os : OsState}{a C : Addr}{o:Obj}{K:PySem.W.Frag}
end
section
variable {X:Cx}
end
end L2
set_option maxHeartbeats 1000000
namespace L2
open PySem PySem.Spec PyProof.Rows PySem.W
section
variable {X:Cx}{pins : List (Addr × Obj)}{σ : St}{H:Hp}{s:Shared}
end
section
variable {X:Cx}{x n : Str}{C:Value}{body suite : List Stmt}{b0 : Stmt}{np hpos pos : Pos}{tb : (St → XK) → TS}{ts : TS}{i:Nat}
end
end L2
set_option maxHeartbeats 1000000
namespace L2
open PySem PySem.Spec PyProof.Rows
section
variable {X:Cx}
end
section
variable {X:Cx}
end
end L2
namespace L2
open PySem
end L2
set_option maxHeartbeats 1000000
namespace L2
open PySem PySem.Spec PyProof.Rows
open Sem (wp)
open Builtin
section
variable {prog : Program}{w:World}{A:Around}{E:Value → Shared → Prop}{s:Shared}
theorem p7 {j t : Addr}{i:Nat}{its : Array Value}{x:Value}{Q:Value → Shared → Prop} (g:s.heap.IsTupleIter j t i) (gt : s.heap.IsTuple t its) (hx : its[i]? = some x) (k:∀ h',h'.IsTupleIter j t (i + 1) → Heap.SameBut j s.heap h' → Q x { s with heap := h' }) : wpAny (model prog w) A (SmallTypes.nextOf (.ref j)) Q E s :=by
  obtain ⟨o,q1,q2,q3⟩ := id g
  obtain ⟨u,z1,_,n,z2⟩ := gt
  unfold SmallTypes.nextOf
  refine wpAny_bind (wpAny_callSpecial?_slot (name := Str.ofString "__next__") g.typeIs F.slot_tuple_iterator_next (wpAny_call_entry F.slot_tuple_iterator_next g.typeIs F.entry_tuple_iterator_next ?_ (F.args_tuple_iterator_next_1 _)))
  show wpAny _ _ (field (.ref j) 0 >>= _) _ _ s
  refine wpAny_bind (wpAny_field q1 q3 (x := .ref t) rfl ?_)
  show wpAny _ _ (if (Value.ref t == Value.none) = true then _ else _) _ _ s; rw [if_neg (show ¬ ((Value.ref t == Value.none) = true) from Bool.false_ne_true)]
  show wpAny _ _ (field (.ref j) 1 >>= _) _ _ s
  refine wpAny_bind (wpAny_field q1 q3 (x := .int i 0) rfl ?_)
  show wpAny _ _ (seqItems? (.ref t) >>= _) _ _ s; refine wpAny_bind (wpAny_seqItems z1 z2 ?_)
  simp only [Int.toNat_natCast,hx]
  refine wpAny_bind (wpAny_setField q1 q3 (by simp) (wpAny_pure ⟨x,rfl,wpAny_pure (k _ ?_ (Heap.SameBut.update ..))⟩))
  exact ⟨_,Heap.get?_update_self _ q1 (Obj.isFreed_of_fields (Obj.data_mapFields q3 _)),(Obj.cls_mapFields ..).trans q2,by rw [Obj.data_mapFields q3]; simp [rawInt]⟩
theorem p8 {j t : Addr}{i:Nat}{its : Array Value}{Q:Value → Shared → Prop} (hh : A.handled = none) (g:s.heap.IsTupleIter j t i) (gt : s.heap.IsTuple t its) (hx : its[i]? = none) (k:∀ h' e,Heap.ExtBut j s.heap h' → (∃ o,h'.get? e = some o ∧ o.cls = .type "StopIteration") → E (.ref e) { s with heap := h' }) : wpAny (model prog w) A (SmallTypes.nextOf (.ref j)) Q E s :=by
  obtain ⟨o,q1,q2,q3⟩ := id g
  obtain ⟨u,z1,_,n,z2⟩ := gt
  unfold SmallTypes.nextOf
  refine wpAny_bind (wpAny_callSpecial?_slot (name := Str.ofString "__next__") g.typeIs F.slot_tuple_iterator_next (wpAny_call_entry F.slot_tuple_iterator_next g.typeIs F.entry_tuple_iterator_next ?_ (F.args_tuple_iterator_next_1 _)))
  show wpAny _ _ (field (.ref j) 0 >>= _) _ _ s
  refine wpAny_bind (wpAny_field q1 q3 (x := .ref t) rfl ?_)
  show wpAny _ _ (if (Value.ref t == Value.none) = true then _ else _) _ _ s; rw [if_neg (show ¬ ((Value.ref t == Value.none) = true) from Bool.false_ne_true)]
  show wpAny _ _ (field (.ref j) 1 >>= _) _ _ s
  refine wpAny_bind (wpAny_field q1 q3 (x := .int i 0) rfl ?_)
  show wpAny _ _ (seqItems? (.ref t) >>= _) _ _ s; refine wpAny_bind (wpAny_seqItems z1 z2 ?_)
  simp only [Int.toNat_natCast,hx]
  refine wpAny_bind (wpAny_rule (wpAny_bind (wpAny_setField q1 q3 (by simp) ?_)))
  show wpAny _ _ (newExc (.type "StopIteration") [] >>= _) _ _ _; refine wpAny_bind ?_
  simp only [newExc,newTuple]; refine wpAny_bind (wpAny_newObj_type ?_ (by size_fits))
  refine wpAny_bind (m := firstArgMember _ _) (wpAny_of_eq (a := Value.none) (by first | rfl | (simp only [firstArgMember]; rfl)) (wpAny_newObj_type ?_ (by size_fits)))
  simp only [raiseNew]; refine wpAny_bind (wpAny_handled ?_)
  first | rw [show A.in1.handled = none from hh] | rw [hh]
  exact wpAny_bind (wpAny_pure (wpAny_throw (k _ _ (((Heap.SameBut.update ..).extBut.push _).push _) ⟨_,Heap.get?_push_size _ rfl,rfl⟩)))
end
theorem fG {prog : Program}{w:World}{A:Around} (hh : A.handled = none) (j t : Addr) (hne : t ≠ j) (its : Array Value) : Draws prog w A j [j,t] its.size (fun i v => its[i]? = some v) (fun i h => h.IsTupleIter j t i ∧ h.IsTuple t its) where
  live := fun _ _ st => let ⟨o,q,_⟩ := st.1; ⟨o,q⟩
  frame := fun _ _ _ st k => ⟨let ⟨o,q,r⟩ := st.1; ⟨o,k j (by simp) o q,r⟩,let ⟨o,q,r⟩ := st.2; ⟨o,k t (by simp) o q,r⟩⟩
  item := fun i s Q E hi st k => p7 st.1 st.2 (x := its[i]) (by simp [hi]) fun h' a b => k _ h' s.toks (by simp [hi]) ⟨a,st.2.extBut b.extBut hne⟩ b
  done := fun s Q E st k => p8 hh st.1 st.2 (by simp) k
theorem tupOf {h:Heap}{a:Addr}{its : Array Value} (p:IsTup h a its) : h.IsTuple a its := p
set_option maxRecDepth 100000 in
theorem lJ (l:Addr) (its : Array Value) (n:Nat) (dct : Option Addr) (sl : Array (Option Value)) :
    Meets (Builtin.«enumerate.__new__» ⟨[.type "enumerate",.ref l],[]⟩) (fun _ R s => s.heap.get? l = some { cls := .type "tuple",dict := dct,data := .seq its n,slots := sl } ∧
      R (.ok (.ret (.ref (s.heap.push { cls := .type "tuple_iterator",data := .fields #[.ref l,.int 0 0] }).objs.size))) { s with heap := (s.heap.push { cls := .type "tuple_iterator",data := .fields #[.ref l,.int 0 0] }).push { cls := .type "enumerate",data := .fields #[.none,.bool false,.ref s.heap.objs.size,rawInt 0,.none,.none] } }) :=
  .of_wp fun prog w A R s h => by
    obtain ⟨hp,g,d,tk,os⟩ := s; obtain ⟨hl,h⟩ := h
    have hsub := sub_enumerate
    have hT : Heap.IsTuple (Shared.heap ⟨hp,g,d,tk,os⟩) l its := ⟨_,hl,rfl,n,rfl⟩
    wp_walk using AutoSeq1.wpAny_loadPart' hl
    refine wpAny_stack_any fun st => wpAny_pure ?_
    split
    · rename_i c _ _ _ _ _
      cases (c == Value.type "enumerate") <;> (wp_walk using AutoSeq1.wpAny_loadPart' hl,wpAny_pyIter_tuple hT; exact ⟨_,rfl,h⟩)
    · wp_walk using AutoSeq1.wpAny_loadPart' hl,wpAny_pyIter_tuple hT
      exact ⟨_,rfl,h⟩
section
variable {prog : Program}{w:World}{A:Around}{E:Value → Shared → Prop}{s:Shared}
theorem nz {l:Addr}{its : Array Value}{Q:Value → Shared → Prop} (hT : s.heap.IsTuple l its)
    (k:∀ h',IsEnum h' (s.heap.objs.size + 1) s.heap.objs.size 0 .none → h'.IsTupleIter s.heap.objs.size l 0 → h'.objs.size = s.heap.objs.size + 2 → (∀ b o,s.heap.get? b = some o → h'.get? b = some o) → Q (.ref (s.heap.objs.size + 1)) { s with heap := h' }) :
    wpAny (model prog w) A (call (.type "enumerate") [.ref l]) Q E s :=by
  obtain ⟨⟨c,dct,dt,sl⟩,hl,hc,n,hd⟩ := hT
  replace hc : c = .type "tuple" := hc
  replace hd : dt = .seq its n := hd
  subst hc hd
  refine callType_new F.called_enumerate (by decide) (F.typeCall_enumerate_1 _) (F.newCall_enumerate_1 _) (fun obj => F.args_object_init_2 obj _) F.entry_enumerate_new (lJ l its n dct sl) ⟨hl,?_⟩
  have hz : (s.heap.push { cls := .type "tuple_iterator",data := .fields #[.ref l,.int 0 0] }).objs.size = s.heap.objs.size + 1 := Heap.size_push ..
  show _ ∧ _
  rw [hz]
  have he : IsEnum ((s.heap.push { cls := .type "tuple_iterator",data := .fields #[.ref l,.int 0 0] }).push { cls := .type "enumerate",data := .fields #[.none,.bool false,.ref s.heap.objs.size,rawInt 0,.none,.none] }) (s.heap.objs.size + 1) s.heap.objs.size 0 .none :=by
    have z := Heap.get?_push_size (s.heap.push { cls := .type "tuple_iterator",data := .fields #[.ref l,.int 0 0] }) (o := { cls := .type "enumerate",data := .fields #[.none,.bool false,.ref s.heap.objs.size,rawInt 0,.none,.none] }) rfl
    rw [hz] at z; exact z
  refine ⟨⟨_,he,rfl⟩,k _ he ⟨_,Heap.get?_push_of_some _ (Heap.get?_push_size _ rfl),rfl,rfl⟩ (by rw [Heap.size_push,hz]) fun b o x => Heap.get?_push_of_some _ (Heap.get?_push_of_some _ x)⟩
end
noncomputable def IteT (K:PySem.W.Frag) (a:Addr) : It :=
  ⟨fun i H => ∃ xs x,SqT K H a xs ∧ xs[i]? = some x,fun i H v H' => ∃ T x,H T = none ∧ v = .ref T ∧ (∀ xs,SqT K H a xs → xs[i]? = some x) ∧ H' = upd H T (.tup [.int i,x]),fun i H => ∃ xs,SqT K H a xs ∧ xs.length = i⟩
theorem mq {P:Program}{w:World}{K:PySem.W.Frag}{elts : List Expr}{x1}{tpos : Pos} (a e it : Addr) (hei : e ≠ it) : Turn P w K (.Tuple elts x1 tpos) (IteT K a) [e,it] e (fun i h => (∃ old,IsEnum h e it i old) ∧ h.IsTupleIter it a i) where
  mem :=by simp
  obj := fun i h st b hb => by
    obtain ⟨⟨old,he⟩,st⟩ := st
    rcases List.mem_cons.mp hb with rfl | hb
    · exact ⟨_,he,fun v z => by cases z⟩
    · have e' : b = it :=by simpa using hb
      subst e'
      obtain ⟨o,e,c,d⟩ := st
      exact ⟨o,e,fun v z => by rw [d] at z; cases z⟩
  keep := fun i h h' st k => ⟨let ⟨old,he⟩ := st.1; ⟨old,k e (by simp) _ he⟩,st.2.at fun o e => k it (by simp) o e⟩
  item :=by
    intro X hP hw hK hc i pins s σ H E I hf st hg
    subst hP hw hK
    obtain ⟨⟨old,he⟩,st⟩ := st
    obtain ⟨xs,x,hq,hx⟩ := hg
    obtain ⟨its,rv,p,hz⟩ := I.tuple hq
    obtain ⟨u,hu,ru⟩ := rv.get hx
    have fe := hf e (by simp)
    have fi := hf it (by simp)
    obtain ⟨oi,hoi,hoc,hod⟩ := id st
    have nai : a ≠ it := fun z => by
      obtain ⟨o,h1,h2,_⟩ := (tupOf p)
      rw [z,hoi] at h1
      cases h1
      rw [hoc] at h2
      exact absurd h2 (by decide)
    have nae : e ≠ a := fun z => by
      obtain ⟨o,h1,h2,_⟩ := (tupOf p)
      rw [← z,show s.heap.get? e = _ from he] at h1
      cases h1
      exact absurd (show Value.type "enumerate" = Value.type "tuple" from h2) (by decide)
    have D := fG (prog := X.prog) (w := X.w) (A := X.A.in1) (I.ok.hd hc) it a nai its.toArray
    refine wpAny_pyNext_enum_itemD D he ⟨st,(tupOf p)⟩ (by
      have := List.getElem?_eq_some_iff.mp hu
      obtain ⟨z,_⟩ := this
      simpa using z) hei (by simp [hei,nae]) fun v h' tk hP hout hst hT hsz hk => ?_
    have hv : v = u :=by
      have hP : its.toArray[i]? = some v := hP
      rw [List.getElem?_toArray,hu] at hP
      exact (Option.some.inj hP).symm
    subst hv
    have nT : H s.heap.objs.size = none := I.hok.fresh (Nat.le_refl _)
    have lt : ∀ b o,s.heap.get? b = some o → b ≠ s.heap.objs.size := fun b o q => Nat.ne_of_lt (Heap.lt_size q)
    have ltH : ∀ b o,H b = some o → b ≠ s.heap.objs.size := fun b o q z => by rw [z,nT] at q; cases q
    have neH : ∀ b o,H b = some o → b ≠ e ∧ b ≠ it := fun b o q => ⟨fun z => by (rw [z,fe.1] at q; cases q),fun z => by (rw [z,fi.1] at q; cases q)⟩
    have I1 : Inv X pins σ (upd H s.heap.objs.size (.tup [.int i,x])) { s with heap := h',toks := tk + 1 } :=by
      refine I.call' (s' := { s with heap := h',toks := tk + 1 }) (ch := [e,it]) rfl ⟨fun b o q n hb hx => ?_,fun b o q n hb hx => ?_,fun b o q n hx => ?_,fun b o q hx => ?_,fun b xs q => ?_,fun b o u q => ?_,fun b ps q => ?_⟩ (fun b o q => ?_) I.bare fun b hb => ?_
      · exact hk b o (fun z => hx (by simp [z])) (fun z => hx (by simp [z])) q
      · exact ⟨o.slots,hk b o (fun z => hx (by simp [z])) (fun z => hx (by simp [z])) q⟩
      · rw [ap (lt b o q)]; exact n
      · exact ⟨o,hk b o (fun z => hx (by simp [z])) (fun z => hx (by simp [z])) q⟩
      · rw [ap (ltH b _ q)]; exact q
      · rw [ap (ltH b _ q)]; exact q
      · exact ⟨#[],by rw [ap (ltH b _ q),q]; simp⟩
      · by_cases hb : b = s.heap.objs.size
        · subst hb
          rw [aN] at q
          cases q
          exact ⟨by show 2 ≤ sizeLine; decide,_,.cons ⟨tk,rfl⟩ (.cons ru .nil),⟨_,hT,rfl,_,rfl⟩,_,hT,rfl⟩
        · rw [ap hb] at q
          refine (I.hok b o q).stay (fun c v hc r => ?_) (fun c r => by rw [ap (ltH c _ r)]; exact r) fun c xs r => by rw [ap (ltH c _ r)]; exact r
          have : ∃ o,H c = some o :=by
            rcases hc with rfl | hc
            · exact ⟨o,q⟩
            · exact ⟨_,hc⟩
          obtain ⟨o',qo⟩ := this
          exact hk c v (neH c o' qo).1 (neH c o' qo).2 r
      · have fb : FpOk X pins H b :=by
          rcases List.mem_cons.mp hb with rfl | hb
          · exact fe
          · have e' : b = it :=by simpa using hb
            subst e'; exact fi
        exact ⟨fb.2.2.2.1,fb.2.1,fb.2.2.2.2.1,fb.2.2.2.2.2⟩
    refine ⟨_,rfl,wpAny_letOwnedTupleGo_enum (s := { s with heap := h',toks := tk + 1 }) hout fun h2 he2 hs2 => ?_⟩
    have neT : ∀ b ∈ [e,it],b ≠ s.heap.objs.size := fun b hb => by
      rcases List.mem_cons.mp hb with rfl | hb
      · exact lt _ _ he
      · have e' : b = it :=by simpa using hb
        subst e'; exact lt _ _ hoi
    have fe' : (upd H s.heap.objs.size (.tup [.int i,x])) e = none :=by rw [ap (neT e (by simp))]; exact fe.1
    refine ⟨.ref s.heap.objs.size,upd H s.heap.objs.size (.tup [.int i,x]),?_,rfl,⟨s.heap.objs.size,x,nT,rfl,fun ys hy => by rw [I.tuple_inj hy hq]; exact hx,rfl⟩,⟨⟨_,by simpa using he2⟩,hst.1.at fun o eo => (hs2.2 it (Ne.symm hei)).trans eo⟩,fun b hb => ?_⟩
    · exact I1.turned (t' := tk + 1) (fun b o hb eo => (hs2.2 b hb).trans eo) fe' fe.2.1 fe.2.2.2.1 fe.2.2.2.2.1 fe.2.2.2.2.2
    · rw [ap (neT b hb)]
      exact (hf b hb).1
  done :=by
    intro X hP hw hK hc i pins s σ H E I hf st hg
    subst hP hw hK
    obtain ⟨⟨old,he⟩,st⟩ := st
    obtain ⟨xs,hq,hx⟩ := hg
    obtain ⟨its,rv,p,hz⟩ := I.tuple hq
    have fi := hf it (by simp)
    obtain ⟨oi,hoi,hoc,hod⟩ := id st
    have nai : a ≠ it := fun z => by
      obtain ⟨o,h1,h2,_⟩ := (tupOf p)
      rw [z,hoi] at h1
      cases h1
      rw [hoc] at h2
      exact absurd h2 (by decide)
    have D := fG (prog := X.prog) (w := X.w) (A := X.A.in1) (I.ok.hd hc) it a nai its.toArray
    have ei : i = its.toArray.size :=by rw [List.size_toArray,← rv.length]; exact hx.symm
    refine wpAny_pyNext_enum_endD D he (by rw [← ei]; exact ⟨st,(tupOf p)⟩) fun h' eb => ⟨rfl,I.turned (t' := s.toks) (fun b o hb e => eb b o hb e) fi.1 fi.2.1 fi.2.2.2.1 fi.2.2.2.2.1 fi.2.2.2.2.2⟩
  self := fun _ _ _ _ _ st h => let ⟨_,he⟩ := st.1; wpAny_pyIter_enum he h
section
variable {X:Cx}
noncomputable def u9 (K:PySem.W.Frag) (ta : TA) : TI := fun σ H R => ta σ H fun vs H1 => ∃ a,vs = [.ref a] ∧ (∃ xs,SqT K H1 a xs) ∧ R (IteT K a) H1
theorem qm {a:Expr}{ta : TA}{p pos : Pos}{elts : List Expr}{x1}{tpos : Pos} (hg : Gl X "enumerate") (hm : X.mg "enumerate" = none) (ha : PA X [a] ta) (hs : starEach [a] X.env = [(false,eval a X.env)] :=by rfl) : PI X (.Tuple elts x1 tpos) (.Call (.Name "enumerate" p) [a] [] pos) (u9 X.K ta) :=by
  intro pins s σ H R I h
  refine Call_ (dc I hg hm boot_enumerate (PyProof.Rows.callWith_type1 (thn (ha pos pins s σ H _ I h) fun us s1 qz => ?_) hs rfl))
  obtain ⟨vs,H1,I1,r1,q1⟩ := qz
  obtain ⟨b,e,⟨xs,hq⟩,q⟩ := q1
  subst e
  cases r1 with
  | cons r rr =>
    cases rr
    cases r
    obtain ⟨its,rv,pl,hz⟩ := I1.tuple hq
    refine nz (tupOf pl) fun h' he hi hsz hk => ?_
    refine wpAny_pyIter_enum he ?_
    have I2 : Inv X pins σ H1 { s1 with heap := h' } := I1.kept (t' := s1.toks) hk
    refine ⟨s1.heap.objs.size + 1,[s1.heap.objs.size + 1,s1.heap.objs.size],_,_,H1,rfl,I2,mq b _ _ (by simp),⟨⟨_,he⟩,hi⟩,fun c hc => ?_,q⟩
    have hc' : s1.heap.objs.size ≤ c :=by
      rcases List.mem_cons.mp hc with rfl | hc
      · exact Nat.le_succ _
      · have : c = s1.heap.objs.size :=by simpa using hc
        exact Nat.le_of_eq this.symm
    exact I1.fpOk hc' (I1.hok.fresh hc')
end
end L2
set_option maxHeartbeats 2000000
namespace L2
open PySem PySem.Spec PyProof.Rows
open Sem (wp)
open Builtin
noncomputable def ItAt (h:Heap) (T:String) (j l : Addr) (i:Nat) : Prop := ∃ o,h.get? j = some o ∧ o.cls = .type T ∧ o.data = .fields #[.ref l,.int i 0]
noncomputable def SeqAt (h:Heap) (T:String) (l:Addr) (its : Array Value) : Prop := (T = "list_iterator" ∧ h.IsList l its) ∨ (T = "tuple_iterator" ∧ h.IsTuple l its)
theorem SeqAt.keep {h h' : Heap}{T:String}{l:Addr}{its : Array Value} (x:SeqAt h T l its) (k:∀ o,h.get? l = some o → h'.get? l = some o) : SeqAt h' T l its :=
  x.imp (fun ⟨e,o,a,b⟩ => ⟨e,o,k o a,b⟩) fun ⟨e,o,a,b⟩ => ⟨e,o,k o a,b⟩
theorem ItAt.keep {h h' : Heap}{T:String}{j l : Addr}{i:Nat} (x:ItAt h T j l i) (k:∀ o,h.get? j = some o → h'.get? j = some o) : ItAt h' T j l i := let ⟨o,a,b⟩ := x; ⟨o,k o a,b⟩
theorem aM {prog : Program}{w:World}{A:Around} (hh : A.handled = none) (T:String) (j l : Addr) (hne : l ≠ j) (its : Array Value) : Draws prog w A j [j,l] its.size (fun i v => its[i]? = some v) (fun i h => ItAt h T j l i ∧ SeqAt h T l its) where
  live := fun _ _ st => let ⟨o,q,_⟩ := st.1; ⟨o,q⟩
  frame := fun _ _ _ st k => ⟨st.1.keep fun o q => k j (by simp) o q,st.2.keep fun o q => k l (by simp) o q⟩
  item := fun i s Q E hi st k => by
    obtain ⟨a,⟨rfl,b⟩ | ⟨rfl,b⟩⟩ := st
    · exact (Draws.list (prog := prog) (w := w) hh j l hne its).item i s Q E hi ⟨a,b⟩ fun x h' tk p st sb => k x h' tk p ⟨st.1,.inl ⟨rfl,st.2⟩⟩ sb
    · exact (fG (prog := prog) (w := w) hh j l hne its).item i s Q E hi ⟨a,b⟩ fun x h' tk p st sb => k x h' tk p ⟨st.1,.inr ⟨rfl,st.2⟩⟩ sb
  done := fun s Q E st k => by
    obtain ⟨a,⟨rfl,b⟩ | ⟨rfl,b⟩⟩ := st
    · exact (Draws.list (prog := prog) (w := w) hh j l hne its).done s Q E ⟨a,b⟩ k
    · exact (fG (prog := prog) (w := w) hh j l hne its).done s Q E ⟨a,b⟩ k
section
variable {prog : Program}{w:World}{A:Around}{E:Value → Shared → Prop}{s:Shared}
theorem lR {l:Addr}{T:String}{its : Array Value}{Q:Value → Shared → Prop} (hl : SeqAt s.heap T l its) (k:Q (.ref s.heap.objs.size) { s with heap := s.heap.push { cls := .type T,data := .fields #[.ref l,.int 0 0] } }) : wpAny (model prog w) A (pyIter (.ref l)) Q E s :=by
  obtain ⟨rfl,hl⟩ | ⟨rfl,hl⟩ := hl
  · exact wpAny_pyIter_list hl k
  · exact wpAny_pyIter_tuple hl k
structure ZA (z TI TO i1 i2 l1 l2 : Addr) : Prop where
  a1 : TI ≠ z
  a2 : TO ≠ z
  a3 : i1 ≠ z
  a4 : i2 ≠ z
  a5 : TI ≠ TO
  a6 : TI ≠ i1
  a7 : TI ≠ i2
  a8 : TO ≠ i1
  a9 : TO ≠ i2
  b1 : i1 ≠ i2
  b2 : l1 ≠ z
  b3 : l1 ≠ TO
  b4 : l1 ≠ i1
  b5 : l1 ≠ i2
  b6 : l2 ≠ z
  b7 : l2 ≠ TO
  b8 : l2 ≠ i1
  b9 : l2 ≠ i2
structure ZS (h:Heap) (z TI TO i1 i2 l1 l2 : Addr) (T1 T2 : String) (xs ys : Array Value) (n:Nat) (f0 : Value) : Prop where
  z : IsZip h z TI TO f0
  ti : IsPair h TI (.ref i1) (.ref i2)
  to : ∃ a b,IsPair h TO a b
  u1 : ItAt h T1 i1 l1 n
  u2 : ItAt h T2 i2 l2 n
  s1 : SeqAt h T1 l1 xs
  s2 : SeqAt h T2 l2 ys
theorem pX {z TI TO i1 i2 l1 l2 : Addr}{T1 T2 : String}{n:Nat}{xs ys : Array Value}{x y : Value}{Q:Value → Shared → Prop} (hh : A.handled = none) (D:ZA z TI TO i1 i2 l1 l2) (Z:ZS s.heap z TI TO i1 i2 l1 l2 T1 T2 xs ys n .none) (hx : xs[n]? = some x) (hy : ys[n]? = some y)
    (k:∀ h' tk,ZS h' z TI TO i1 i2 l1 l2 T1 T2 xs ys (n + 1) (rawInt s.heap.objs.size) → IsPair h' s.heap.objs.size x y → h'.objs.size = s.heap.objs.size + 1 → (∀ c o,c ≠ z → c ≠ TO → c ≠ i1 → c ≠ i2 → s.heap.get? c = some o → h'.get? c = some o) → Q (.ref s.heap.objs.size) { s with heap := h',toks := tk }) :
    wpAny (model prog w) A (Builtin.«zip.__next__» ⟨[.ref z],[]⟩) (fun fin s' => ∃ v,fin = .done (.ret v) ∧ Q v s') E s :=by
  obtain ⟨hz,hti,⟨a,b,hto⟩,u1,u2,s1,s2⟩ := Z
  have nx : n < xs.size := (Array.getElem?_eq_some_iff.mp hx).1
  have ny : n < ys.size := (Array.getElem?_eq_some_iff.mp hy).1
  show wpAny _ _ (field (.ref z) 2 >>= _) _ _ s; refine wpAny_bind (wpAny_field hz rfl (x := .bool false) rfl ?_)
  show wpAny _ _ (field (.ref z) 3 >>= _) _ _ s; refine wpAny_bind (wpAny_field hz rfl (x := .ref TI) rfl (wpAny_bind (wpAny_seqItems hti rfl ?_)))
  show wpAny _ _ (SmallTypes.ownedTupleIsFree (.ref z) >>= _) _ _ s
  refine wpAny_bind ?_; unfold SmallTypes.ownedTupleIsFree
  refine wpAny_bind (wpAny_field hz rfl (x := .none) rfl (wpAny_pure ?_)); simp only [if_true]
  refine wpAny_bind (wpAny_rule (wpAny_bind (wpAny_field hz rfl (x := .ref TO) rfl (wpAny_bind (wpAny_setField_rec hz (by simp) fun h1 z1 e1 => ?_)))))
  replace z1 : IsZip h1 z TI TO .ellipsis := z1
  refine wpAny_bind ?_; simp only [List.zipIdx_cons,List.zipIdx_nil,List.forIn_cons,List.forIn_nil]
  refine wpAny_bind (wpAny_bind (wpAny_onRaise ?_)); show wpAny _ _ (SmallTypes.nextOf (.ref i1) >>= _) _ _ _
  refine wpAny_bind ((aM (prog := prog) (w := w) hh T1 i1 l1 D.b4 xs).item n _ _ _ nx ⟨u1.keep fun o q => e1.extBut _ _ D.a3 q,s1.keep fun o q => e1.extBut _ _ D.b2 q⟩ fun x' h2 tk2 px st2 e2 => wpAny_pure ?_)
  have : x' = x := Option.some.inj (px.symm.trans hx)
  subst this
  have to2 : IsPair h2 TO a b := e2.extBut _ _ D.a8 (e1.extBut _ _ D.a2 hto)
  refine wpAny_bind (wpAny_seqItems to2 rfl (wpAny_bind (wpAny_updateSeq_pair to2 fun h3 to3 e3 => ?_)))
  replace to3 : IsPair h3 TO x' b := to3
  refine wpAny_bind (wpAny_letGo (wpAny_pure (wpAny_bind (wpAny_bind (wpAny_onRaise ?_))))); show wpAny _ _ (SmallTypes.nextOf (.ref i2) >>= _) _ _ _
  refine wpAny_bind ((aM (prog := prog) (w := w) hh T2 i2 l2 D.b9 ys).item n _ _ _ ny ⟨u2.keep fun o q => e3.extBut _ _ (Ne.symm D.a9) (e2.extBut _ _ (Ne.symm D.b1) (e1.extBut _ _ D.a4 q)),s2.keep fun o q => e3.extBut _ _ D.b7 (e2.extBut _ _ D.b8 (e1.extBut _ _ D.b6 q))⟩ fun y' h4 tk4 py st4 e4 => wpAny_pure ?_)
  have : y' = y := Option.some.inj (py.symm.trans hy)
  subst this
  have to4 : IsPair h4 TO x' b := e4.extBut _ _ D.a9 to3
  refine wpAny_bind (wpAny_seqItems to4 rfl (wpAny_bind (wpAny_updateSeq_pair to4 fun h5 to5 e5 => ?_)))
  replace to5 : IsPair h5 TO x' y' := to5
  refine wpAny_bind (wpAny_letGo (wpAny_pure (wpAny_pure ?_))); refine wpAny_bind (wpAny_seqItems to5 rfl (wpAny_bind (wpAny_newTuple ?_)))
  have zs : h5.objs.size = s.heap.objs.size :=by rw [e5.1,e4.1,e3.1,e2.1,e1.1]
  have z5 : IsZip h5 z TI TO .ellipsis := e5.extBut _ _ (Ne.symm D.a2) (e4.extBut _ _ (Ne.symm D.a4) (e3.extBut _ _ (Ne.symm D.a2) (e2.extBut _ _ (Ne.symm D.a3) z1)))
  have k5 : ∀ c o,c ≠ z → c ≠ TO → c ≠ i1 → c ≠ i2 → s.heap.get? c = some o → h5.get? c = some o := fun c o c1 c2 c3 c4 e => e5.extBut _ _ c2 (e4.extBut _ _ c4 (e3.extBut _ _ c2 (e2.extBut _ _ c3 (e1.extBut _ _ c1 e))))
  have zl : z < h5.objs.size := Heap.lt_size z5
  show wpAny _ _ (SmallTypes.ownedTupleHandOut (.ref z) (.ref h5.objs.size) >>= _) _ _ _
  refine wpAny_bind ?_; unfold SmallTypes.ownedTupleHandOut
  have z6 : IsZip (h5.push { cls := .type "tuple",data := .seq #[x',y'] }) z TI TO .ellipsis := Heap.get?_push_of_some _ z5
  refine wpAny_bind (wpAny_setField_rec z6 (by simp) fun h7 z7 e7 => ?_)
  replace z7 : IsZip h7 z TI TO (rawInt h5.objs.size) := z7
  refine wpAny_setField_rec z7 (by simp) fun h8 z8 e8 => ?_
  replace z8 : IsZip h8 z TI TO (rawInt h5.objs.size) := z8
  have up : ∀ c o,c ≠ z → h5.get? c = some o → h8.get? c = some o := fun c o c1 e => e8.extBut _ _ c1 (e7.extBut _ _ c1 (Heap.get?_push_of_some _ e))
  have pr8 : IsPair h8 h5.objs.size x' y' := e8.extBut _ _ (Nat.ne_of_gt zl) (e7.extBut _ _ (Nat.ne_of_gt zl) (Heap.get?_push_size _ rfl))
  have sz8 : h8.objs.size = h5.objs.size + 1 :=by rw [e8.1,e7.1,Heap.size_push]
  rw [zs] at z8 pr8 sz8
  refine wpAny_pure ⟨_,rfl,?_⟩
  show Q (.ref h5.objs.size) _
  rw [zs]
  refine k h8 _ ⟨z8,up _ _ D.a1 (k5 _ _ D.a1 D.a5 D.a6 D.a7 hti),⟨_,_,up _ _ D.a2 to5⟩,?_,?_,s1.keep fun o q => up _ _ D.b2 (k5 _ _ D.b2 D.b3 D.b4 D.b5 q),s2.keep fun o q => up _ _ D.b6 (k5 _ _ D.b6 D.b7 D.b8 D.b9 q)⟩ pr8 sz8 fun c o c1 c2 c3 c4 e => up c o c1 (k5 c o c1 c2 c3 c4 e)
  · exact st2.1.keep fun o q => up _ _ D.a3 (e5.extBut _ _ (Ne.symm D.a8) (e4.extBut _ _ D.b1 (e3.extBut _ _ (Ne.symm D.a8) q)))
  · exact st4.1.keep fun o q => up _ _ D.a4 (e5.extBut _ _ (Ne.symm D.a9) q)
theorem rW {z TI TO i1 i2 l1 l2 : Addr}{T1 T2 : String}{n:Nat}{xs ys : Array Value}{Q:Fin → Shared → Prop} (hh : A.handled = none) (D:ZA z TI TO i1 i2 l1 l2) (Z:ZS s.heap z TI TO i1 i2 l1 l2 T1 T2 xs ys n .none) (he : (n = xs.size ∧ n ≤ ys.size) ∨ (n < xs.size ∧ n = ys.size))
    (k:∀ h' tk e,(∀ c o,c ≠ z → c ≠ TO → c ≠ i1 → c ≠ i2 → s.heap.get? c = some o → h'.get? c = some o) → (∃ o,h'.get? e = some o ∧ o.cls = .type "StopIteration") → E (.ref e) { s with heap := h',toks := tk }) :
    wpAny (model prog w) A (Builtin.«zip.__next__» ⟨[.ref z],[]⟩) Q E s :=by
  obtain ⟨hz,hti,⟨a,b,hto⟩,u1,u2,s1,s2⟩ := Z
  show wpAny _ _ (field (.ref z) 2 >>= _) _ _ s; refine wpAny_bind (wpAny_field hz rfl (x := .bool false) rfl ?_)
  show wpAny _ _ (field (.ref z) 3 >>= _) _ _ s; refine wpAny_bind (wpAny_field hz rfl (x := .ref TI) rfl (wpAny_bind (wpAny_seqItems hti rfl ?_)))
  show wpAny _ _ (SmallTypes.ownedTupleIsFree (.ref z) >>= _) _ _ s
  refine wpAny_bind ?_; unfold SmallTypes.ownedTupleIsFree
  refine wpAny_bind (wpAny_field hz rfl (x := .none) rfl (wpAny_pure ?_)); simp only [if_true]
  refine wpAny_bind (wpAny_rule (wpAny_bind (wpAny_field hz rfl (x := .ref TO) rfl (wpAny_bind (wpAny_setField_rec hz (by simp) fun h1 z1 e1 => ?_)))))
  replace z1 : IsZip h1 z TI TO .ellipsis := z1
  refine wpAny_bind ?_; simp only [List.zipIdx_cons,List.zipIdx_nil,List.forIn_cons,List.forIn_nil]
  refine wpAny_bind (wpAny_bind (wpAny_onRaise ?_)); show wpAny _ _ (SmallTypes.nextOf (.ref i1) >>= _) _ _ _
  have st1 : ItAt h1 T1 i1 l1 n ∧ SeqAt h1 T1 l1 xs := ⟨u1.keep fun o q => e1.extBut _ _ D.a3 q,s1.keep fun o q => e1.extBut _ _ D.b2 q⟩
  rcases he with ⟨rfl,_⟩ | ⟨nx,hy⟩
  · refine wpAny_bind ((aM (prog := prog) (w := w) hh T1 i1 l1 D.b4 xs).done _ _ _ st1 fun h2 e e2 he => ?_)
    obtain ⟨oe,g1,g2⟩ := he
    have z2 : IsZip h2 z TI TO .ellipsis := e2 _ _ (Ne.symm D.a3) z1
    have ez : e ≠ z := fun q => by subst q; rw [z2] at g1; cases g1; simp at g2
    exact wpAny_setField_rec z2 (by simp) fun h3 _ e3 => k h3 _ e (fun c o c1 _ c3 _ q => e3.extBut _ _ c1 (e2 _ _ c3 (e1.extBut _ _ c1 q))) ⟨oe,e3.extBut _ _ ez g1,g2⟩
  · refine wpAny_bind ((aM (prog := prog) (w := w) hh T1 i1 l1 D.b4 xs).item n _ _ _ nx st1 fun x' h2 tk2 px st2 e2 => wpAny_pure ?_)
    have to2 : IsPair h2 TO a b := e2.extBut _ _ D.a8 (e1.extBut _ _ D.a2 hto)
    refine wpAny_bind (wpAny_seqItems to2 rfl (wpAny_bind (wpAny_updateSeq_pair to2 fun h3 to3 e3 => ?_)))
    refine wpAny_bind (wpAny_letGo (wpAny_pure (wpAny_bind (wpAny_bind (wpAny_onRaise ?_))))); show wpAny _ _ (SmallTypes.nextOf (.ref i2) >>= _) _ _ _
    subst hy
    refine wpAny_bind ((aM (prog := prog) (w := w) hh T2 i2 l2 D.b9 ys).done _ _ _ ⟨u2.keep fun o q => e3.extBut _ _ (Ne.symm D.a9) (e2.extBut _ _ (Ne.symm D.b1) (e1.extBut _ _ D.a4 q)),s2.keep fun o q => e3.extBut _ _ D.b7 (e2.extBut _ _ D.b8 (e1.extBut _ _ D.b6 q))⟩ fun h4 e e4 he => ?_)
    obtain ⟨oe,g1,g2⟩ := he
    have z4 : IsZip h4 z TI TO .ellipsis := e4 _ _ (Ne.symm D.a4) (e3.extBut _ _ (Ne.symm D.a2) (e2.extBut _ _ (Ne.symm D.a3) z1))
    have ez : e ≠ z := fun q => by subst q; rw [z4] at g1; cases g1; simp at g2
    exact wpAny_setField_rec z4 (by simp) fun h5 _ e5 => k h5 _ e (fun c o c1 c2 c3 c4 q => e5.extBut _ _ c1 (e4 _ _ c4 (e3.extBut _ _ c2 (e2.extBut _ _ c3 (e1.extBut _ _ c1 q))))) ⟨oe,e5.extBut _ _ ez g1,g2⟩
theorem qO {z TI TO i1 i2 l1 l2 : Addr}{T1 T2 : String}{n:Nat}{xs ys : Array Value}{x y : Value}{Q:Option Value → Shared → Prop} (hh : A.in1.handled = none) (D:ZA z TI TO i1 i2 l1 l2) (Z:ZS s.heap z TI TO i1 i2 l1 l2 T1 T2 xs ys n .none) (hx : xs[n]? = some x) (hy : ys[n]? = some y)
    (k:∀ h' tk,ZS h' z TI TO i1 i2 l1 l2 T1 T2 xs ys (n + 1) (rawInt s.heap.objs.size) → IsPair h' s.heap.objs.size x y → h'.objs.size = s.heap.objs.size + 1 → (∀ c o,c ≠ z → c ≠ TO → c ≠ i1 → c ≠ i2 → s.heap.get? c = some o → h'.get? c = some o) → Q (some (.ref s.heap.objs.size)) { s with heap := h',toks := tk }) :
    wpAny (model prog w) A (pyNext (.ref z)) Q E s :=by
  have hT : s.TypeIs (.ref z) "zip" := ⟨_,Z.z,rfl⟩
  unfold pyNext
  exact wpAny_bind (wpAny_attempt (wpAny_callSpecial?_slot (name := Str.ofString "__next__") hT F.slot_zip_next (wpAny_call_entry F.slot_zip_next hT F.entry_zip_next (pX hh D Z hx hy fun h' tk a1 a2 a3 a4 => wpAny_pure (k h' tk a1 a2 a3 a4)) (F.args_zip_next_1 _))))
theorem sZ {z TI TO i1 i2 l1 l2 : Addr}{T1 T2 : String}{n:Nat}{xs ys : Array Value}{Q:Option Value → Shared → Prop} (hh : A.in1.handled = none) (D:ZA z TI TO i1 i2 l1 l2) (Z:ZS s.heap z TI TO i1 i2 l1 l2 T1 T2 xs ys n .none) (he : (n = xs.size ∧ n ≤ ys.size) ∨ (n < xs.size ∧ n = ys.size))
    (k:∀ h' tk,(∀ c o,c ≠ z → c ≠ TO → c ≠ i1 → c ≠ i2 → s.heap.get? c = some o → h'.get? c = some o) → Q none { s with heap := h',toks := tk }) : wpAny (model prog w) A (pyNext (.ref z)) Q E s :=by
  have hT : s.TypeIs (.ref z) "zip" := ⟨_,Z.z,rfl⟩
  unfold pyNext
  refine wpAny_bind (wpAny_attempt (wpAny_callSpecial?_slot (name := Str.ofString "__next__") hT F.slot_zip_next (wpAny_call_entry F.slot_zip_next hT F.entry_zip_next (rW hh D Z he fun h' tk e hk ⟨o,g1,g2⟩ => ?_) (F.args_zip_next_1 _))))
  exact wpAny_bind (wpAny_isInstance (T := "StopIteration") (b := true) ⟨o,g1,g2⟩ isSubtype_stop (wpAny_pure (k _ _ hk)))
end
noncomputable abbrev zA (h:Heap) (T:String) (l:Addr) : Heap := h.push { cls := .type T,data := .fields #[.ref l,.int 0 0] }
theorem mS (l1 l2 : Addr) (T1 T2 : String) (xs ys : Array Value) :
    Meets (Builtin.«zip.__new__» ⟨[.type "zip",.ref l1,.ref l2],[]⟩) (fun _ R s => SeqAt s.heap T1 l1 xs ∧ SeqAt s.heap T2 l2 ys ∧
      R (.ok (.ret (.ref ((((zA (zA s.heap T1 l1) T2 l2).push { cls := .type "tuple",data := .seq #[.ref s.heap.objs.size,.ref (zA s.heap T1 l1).objs.size] }).push { cls := .type "tuple",data := .seq #[.none,.none] }).objs.size))))
        { s with heap := (((zA (zA s.heap T1 l1) T2 l2).push { cls := .type "tuple",data := .seq #[.ref s.heap.objs.size,.ref (zA s.heap T1 l1).objs.size] }).push { cls := .type "tuple",data := .seq #[.none,.none] }).push { cls := .type "zip",data := .fields #[.none,.bool false,.bool false,.ref (zA (zA s.heap T1 l1) T2 l2).objs.size,.ref ((zA (zA s.heap T1 l1) T2 l2).push { cls := .type "tuple",data := .seq #[.ref s.heap.objs.size,.ref (zA s.heap T1 l1).objs.size] }).objs.size] } }) :=
  .of_wp fun prog w A R s h => by
    obtain ⟨hp,g,d,tk,os⟩ := s; obtain ⟨q1,q2,h⟩ := h
    have hsub := sub_zip
    have r1 : SeqAt (Shared.heap ⟨hp,g,d,tk,os⟩) T1 l1 xs := q1
    have r2 : SeqAt (Shared.heap ⟨hp.push { cls := .type T1,data := .fields #[.ref l1,.int 0 0] },g,d,tk,os⟩) T2 l2 ys := q2.keep fun o e => Heap.get?_push_of_some _ e
    wp_walk using lR r1,lR r2
    exact ⟨_,rfl,h⟩
section
variable {prog : Program}{w:World}{A:Around}{E:Value → Shared → Prop}{s:Shared}
theorem jR {l1 l2 : Addr}{T1 T2 : String}{xs ys : Array Value}{Q:Value → Shared → Prop} (q1 : SeqAt s.heap T1 l1 xs) (q2 : SeqAt s.heap T2 l2 ys)
    (k:∀ h',ZS h' (s.heap.objs.size + 4) (s.heap.objs.size + 2) (s.heap.objs.size + 3) s.heap.objs.size (s.heap.objs.size + 1) l1 l2 T1 T2 xs ys 0 .none → h'.objs.size = s.heap.objs.size + 5 → (∀ c o,s.heap.get? c = some o → h'.get? c = some o) → Q (.ref (s.heap.objs.size + 4)) { s with heap := h' }) :
    wpAny (model prog w) A (call (.type "zip") [.ref l1,.ref l2]) Q E s :=by
  refine callType_new F.called_zip (by decide) (F.typeCall_zip_2 _ _) (F.newCall_zip_2 _ _) (fun obj => F.args_object_init_3 obj _ _) F.entry_zip_new (mS l1 l2 T1 T2 xs ys) ⟨q1,q2,?_⟩
  have y1 : (zA s.heap T1 l1).objs.size = s.heap.objs.size + 1 := Heap.size_push ..
  have y2 : (zA (zA s.heap T1 l1) T2 l2).objs.size = s.heap.objs.size + 2 :=by rw [Heap.size_push,y1]
  generalize e2 : zA (zA s.heap T1 l1) T2 l2 = H2 at *
  have y3 : (H2.push { cls := .type "tuple",data := .seq #[.ref s.heap.objs.size,.ref (zA s.heap T1 l1).objs.size] }).objs.size = s.heap.objs.size + 3 :=by rw [Heap.size_push,y2]
  have g3 : (H2.push { cls := .type "tuple",data := .seq #[.ref s.heap.objs.size,.ref (zA s.heap T1 l1).objs.size] }).get? H2.objs.size = some _ := Heap.get?_push_size _ rfl
  have up3 : ∀ c o,H2.get? c = some o → (H2.push { cls := .type "tuple",data := .seq #[.ref s.heap.objs.size,.ref (zA s.heap T1 l1).objs.size] }).get? c = some o := fun c o e => Heap.get?_push_of_some _ e
  generalize H2.push { cls := .type "tuple",data := .seq #[.ref s.heap.objs.size,.ref (zA s.heap T1 l1).objs.size] } = H3 at *
  have y4 : (H3.push { cls := .type "tuple",data := .seq #[.none,.none] }).objs.size = s.heap.objs.size + 4 :=by rw [Heap.size_push,y3]
  have g4 : (H3.push { cls := .type "tuple",data := .seq #[.none,.none] }).get? H3.objs.size = some _ := Heap.get?_push_size _ rfl
  have up4 : ∀ c o,H3.get? c = some o → (H3.push { cls := .type "tuple",data := .seq #[.none,.none] }).get? c = some o := fun c o e => Heap.get?_push_of_some _ e
  generalize H3.push { cls := .type "tuple",data := .seq #[.none,.none] } = H4 at *
  have y5 : (H4.push { cls := .type "zip",data := .fields #[.none,.bool false,.bool false,.ref H2.objs.size,.ref H3.objs.size] }).objs.size = s.heap.objs.size + 5 :=by rw [Heap.size_push,y4]
  have g5 : (H4.push { cls := .type "zip",data := .fields #[.none,.bool false,.bool false,.ref H2.objs.size,.ref H3.objs.size] }).get? H4.objs.size = some _ := Heap.get?_push_size _ rfl
  have up5 : ∀ c o,H4.get? c = some o → (H4.push { cls := .type "zip",data := .fields #[.none,.bool false,.bool false,.ref H2.objs.size,.ref H3.objs.size] }).get? c = some o := fun c o e => Heap.get?_push_of_some _ e
  generalize H4.push { cls := .type "zip",data := .fields #[.none,.bool false,.bool false,.ref H2.objs.size,.ref H3.objs.size] } = H5 at *
  have u2 : H2.get? (s.heap.objs.size + 1) = some { cls := .type T2,data := .fields #[.ref l2,.int 0 0] } :=by rw [← e2,← y1]; exact Heap.get?_push_size _ rfl
  have u1 : H2.get? s.heap.objs.size = some { cls := .type T1,data := .fields #[.ref l1,.int 0 0] } :=by rw [← e2]; exact Heap.get?_push_of_some _ (Heap.get?_push_size _ rfl)
  have kk : ∀ c o,s.heap.get? c = some o → H2.get? c = some o := fun c o e => by rw [← e2]; exact Heap.get?_push_of_some _ (Heap.get?_push_of_some _ e)
  have up : ∀ c o,H2.get? c = some o → H5.get? c = some o := fun c o e => up5 c o (up4 c o (up3 c o e))
  show _ ∧ _
  rw [y4] at g5 ⊢
  rw [y2,y3] at g5
  rw [y2,y1] at g3
  rw [y3] at g4
  exact ⟨⟨_,g5,rfl⟩,k _ ⟨g5,up5 _ _ (up4 _ _ g3),⟨_,_,up5 _ _ g4⟩,⟨_,up _ _ u1,rfl,rfl⟩,⟨_,up _ _ u2,rfl,rfl⟩,q1.keep fun o e => up _ _ (kk _ _ e),q2.keep fun o e => up _ _ (kk _ _ e)⟩ y5 fun c o e => up c o (kk c o e)⟩
end
end L2
set_option maxHeartbeats 2000000
namespace L2
open PySem PySem.Spec PyProof.Rows
noncomputable def SqK (k:Bool) (K:PySem.W.Frag) (H:Hp) (a:Addr) (xs : List V) : Prop := match k with
  | true => SqT K H a xs
  | false => SqL K H a xs
noncomputable def tyK (k:Bool) : String := match k with
  | true => "tuple_iterator"
  | false => "list_iterator"
section
variable {X:Cx}{pins : List (Addr × Obj)}{σ : St}{H:Hp}{s:Shared}{a:Addr}{xs ys : List V}{k:Bool}
theorem Inv.seqK (I:Inv X pins σ H s) (h:SqK k X.K H a xs) : ∃ its : List Value,Vals xs its ∧ SeqAt s.heap (tyK k) a its.toArray :=by
  cases k with
  | false =>
    obtain ⟨its,rv,p,_⟩ := I.list h
    exact ⟨its,rv,.inl ⟨rfl,p.isList⟩⟩
  | true =>
    obtain ⟨its,rv,p,_⟩ := I.tuple h
    exact ⟨its,rv,.inr ⟨rfl,tupOf p⟩⟩
theorem Inv.seqK_inj (I:Inv X pins σ H s) (h:SqK k X.K H a xs) (g:SqK k X.K H a ys) : xs = ys :=by
  cases k with
  | false => exact I.list_inj h g
  | true => exact I.tuple_inj h g
end
noncomputable def Itz (j k : Bool) (K:PySem.W.Frag) (a b : Addr) : It :=
  ⟨fun i H => ∃ xs ys x y,SqK j K H a xs ∧ SqK k K H b ys ∧ xs[i]? = some x ∧ ys[i]? = some y,fun i H v H' => ∃ T x y,H T = none ∧ v = .ref T ∧ (∀ xs ys,SqK j K H a xs → SqK k K H b ys → xs[i]? = some x ∧ ys[i]? = some y) ∧ H' = upd H T (.tup [x,y]),fun i H => ∃ xs ys,SqK j K H a xs ∧ SqK k K H b ys ∧ min xs.length ys.length = i⟩
structure ZO (h:Heap) (z TI TO i1 i2 a b : Addr) (T1 T2 : String) (n:Nat) (f0 : Value) : Prop where
  z : IsZip h z TI TO f0
  ti : IsPair h TI (.ref i1) (.ref i2)
  to : ∃ u v,IsPair h TO u v
  u1 : ItAt h T1 i1 a n
  u2 : ItAt h T2 i2 b n
theorem ZO.keep {h h' : Heap}{z TI TO i1 i2 a b : Addr}{T1 T2 : String}{n:Nat}{f0 : Value} (Z:ZO h z TI TO i1 i2 a b T1 T2 n f0) (k:∀ c ∈ [z,TI,TO,i1,i2],∀ o,h.get? c = some o → h'.get? c = some o) : ZO h' z TI TO i1 i2 a b T1 T2 n f0 :=
  ⟨k z (by simp) _ Z.z,k TI (by simp) _ Z.ti,let ⟨u,v,q⟩ := Z.to; ⟨u,v,k TO (by simp) _ q⟩,Z.u1.keep fun o q => k i1 (by simp) o q,Z.u2.keep fun o q => k i2 (by simp) o q⟩
theorem p6 {P:Program}{w:World}{K:PySem.W.Frag}{elts : List Expr}{x1}{tpos : Pos}{a b z TI TO i1 i2 : Addr}{j k : Bool} (D:ZA z TI TO i1 i2 a b) : Turn P w K (.Tuple elts x1 tpos) (Itz j k K a b) [z,TI,TO,i1,i2] z (fun i h => ZO h z TI TO i1 i2 a b (tyK j) (tyK k) i .none) where
  mem :=by simp
  obj := fun i h st c hc => by
    simp only [List.mem_cons,List.not_mem_nil,or_false] at hc
    rcases hc with rfl | rfl | rfl | rfl | rfl
    · exact ⟨_,st.z,fun v z => by cases z⟩
    · exact ⟨_,st.ti,fun v z => by cases z⟩
    · obtain ⟨_,_,q⟩ := st.to
      exact ⟨_,q,fun v z => by cases z⟩
    · obtain ⟨o,e,c,d⟩ := st.u1
      exact ⟨o,e,fun v z => by rw [d] at z; cases z⟩
    · obtain ⟨o,e,c,d⟩ := st.u2
      exact ⟨o,e,fun v z => by rw [d] at z; cases z⟩
  keep := fun i h h' st kk => st.keep kk
  item :=by
    intro X hP hw hK hc i pins s σ H E I hf st hg
    subst hP hw hK
    obtain ⟨xs,ys,x,y,hq1,hq2,hx,hy⟩ := hg
    obtain ⟨is1,rv1,q1⟩ := I.seqK hq1
    obtain ⟨is2,rv2,q2⟩ := I.seqK hq2
    obtain ⟨u,hu,ru⟩ := rv1.get hx
    obtain ⟨v,hv,rv⟩ := rv2.get hy
    have fz := hf z (by simp)
    have fO := hf TO (by simp)
    have f1 := hf i1 (by simp)
    have f2 := hf i2 (by simp)
    refine qO (I.ok.hd hc) D ⟨st.z,st.ti,st.to,st.u1,st.u2,q1,q2⟩ (by simpa using hu) (by simpa using hv) fun h' tk Z' hT hsz hk => ?_
    have nT : H s.heap.objs.size = none := I.hok.fresh (Nat.le_refl _)
    have lt : ∀ c o,s.heap.get? c = some o → c ≠ s.heap.objs.size := fun c o q => Nat.ne_of_lt (Heap.lt_size q)
    have ltH : ∀ c o,H c = some o → c ≠ s.heap.objs.size := fun c o q z => by rw [z,nT] at q; cases q
    have neH : ∀ c o,H c = some o → c ≠ z ∧ c ≠ TO ∧ c ≠ i1 ∧ c ≠ i2 := fun c o q => ⟨fun z => by (rw [z,fz.1] at q; cases q),fun z => by (rw [z,fO.1] at q; cases q),fun z => by (rw [z,f1.1] at q; cases q),fun z => by (rw [z,f2.1] at q; cases q)⟩
    have hk' : ∀ c o,c ∉ [z,TO,i1,i2] → s.heap.get? c = some o → h'.get? c = some o := fun c o n q => hk c o (fun z => n (by simp [z])) (fun z => n (by simp [z])) (fun z => n (by simp [z])) (fun z => n (by simp [z])) q
    have I1 : Inv X pins σ (upd H s.heap.objs.size (.tup [x,y])) { s with heap := h',toks := tk } :=by
      refine I.call' (s' := { s with heap := h',toks := tk }) (ch := [z,TO,i1,i2]) rfl ⟨fun b o q n hb hx => ?_,fun b o q n hb hx => ?_,fun b o q n hx => ?_,fun b o q hx => ?_,fun b xs q => ?_,fun b o u q => ?_,fun b ps q => ?_⟩ (fun b o q => ?_) I.bare fun b hb => ?_
      · exact hk' b o hx q
      · exact ⟨o.slots,hk' b o hx q⟩
      · rw [ap (lt b o q)]; exact n
      · exact ⟨o,hk' b o hx q⟩
      · rw [ap (ltH b _ q)]; exact q
      · rw [ap (ltH b _ q)]; exact q
      · exact ⟨#[],by rw [ap (ltH b _ q),q]; simp⟩
      · by_cases hb : b = s.heap.objs.size
        · subst hb
          rw [aN] at q
          cases q
          exact ⟨by show 2 ≤ sizeLine; decide,_,.cons ru (.cons rv .nil),⟨_,hT,rfl,_,rfl⟩,_,hT,rfl⟩
        · rw [ap hb] at q
          refine (I.hok b o q).stay (fun c v hc r => ?_) (fun c r => by rw [ap (ltH c _ r)]; exact r) fun c xs r => by rw [ap (ltH c _ r)]; exact r
          have : ∃ o,H c = some o :=by
            rcases hc with rfl | hc
            · exact ⟨o,q⟩
            · exact ⟨_,hc⟩
          obtain ⟨o',qo⟩ := this
          obtain ⟨n1,n2,n3,n4⟩ := neH c o' qo
          exact hk c v n1 n2 n3 n4 r
      · have fb : FpOk X pins H b :=by
          simp only [List.mem_cons,List.not_mem_nil,or_false] at hb
          rcases hb with rfl | rfl | rfl | rfl
          · exact fz
          · exact fO
          · exact f1
          · exact f2
        exact ⟨fb.2.2.2.1,fb.2.1,fb.2.2.2.2.1,fb.2.2.2.2.2⟩
    refine ⟨_,rfl,wpAny_letOwnedTupleGo_zip (s := { s with heap := h',toks := tk }) Z'.z fun h2 hz2 hs2 => ?_⟩
    have nn : ∀ c ∈ [z,TI,TO,i1,i2],c ≠ s.heap.objs.size := fun c hc => by
      simp only [List.mem_cons,List.not_mem_nil,or_false] at hc
      rcases hc with rfl | rfl | rfl | rfl | rfl
      · exact lt _ _ st.z
      · exact lt _ _ st.ti
      · obtain ⟨_,_,q⟩ := st.to; exact lt _ _ q
      · obtain ⟨o,e,_⟩ := st.u1; exact lt _ _ e
      · obtain ⟨o,e,_⟩ := st.u2; exact lt _ _ e
    have fe' : (upd H s.heap.objs.size (.tup [x,y])) z = none :=by rw [ap (nn z (by simp))]; exact fz.1
    refine ⟨.ref s.heap.objs.size,upd H s.heap.objs.size (.tup [x,y]),?_,rfl,⟨s.heap.objs.size,x,y,nT,rfl,fun xs' ys' h1 h2 => by rw [I.seqK_inj h1 hq1,I.seqK_inj h2 hq2]; exact ⟨hx,hy⟩,rfl⟩,?_,fun c hc => ?_⟩
    · exact I1.turned (t' := tk) (fun b o hb eo => (hs2.2 b hb).trans eo) fe' fz.2.1 fz.2.2.2.1 fz.2.2.2.2.1 fz.2.2.2.2.2
    · have up : ∀ c o,c ≠ z → h'.get? c = some o → h2.get? c = some o := fun c o n q => hs2.extBut _ _ n q
      obtain ⟨u',v',q⟩ := Z'.to
      exact ⟨hz2,up _ _ D.a1 Z'.ti,⟨u',v',up _ _ D.a2 q⟩,Z'.u1.keep fun o q => up _ _ D.a3 q,Z'.u2.keep fun o q => up _ _ D.a4 q⟩
    · rw [ap (nn c hc)]
      exact (hf c hc).1
  done :=by
    intro X hP hw hK hc i pins s σ H E I hf st hg
    subst hP hw hK
    obtain ⟨xs,ys,hq1,hq2,hx⟩ := hg
    obtain ⟨is1,rv1,q1⟩ := I.seqK hq1
    obtain ⟨is2,rv2,q2⟩ := I.seqK hq2
    have l1 := rv1.length
    have l2 := rv2.length
    have fz := hf z (by simp)
    have fO := hf TO (by simp)
    have f1 := hf i1 (by simp)
    have f2 := hf i2 (by simp)
    refine sZ (I.ok.hd hc) D ⟨st.z,st.ti,st.to,st.u1,st.u2,q1,q2⟩ (by
      rw [List.size_toArray,List.size_toArray]
      omega) fun h' tk hk => ⟨rfl,?_⟩
    refine I.call' (s' := { s with heap := h',toks := tk }) (ch := [z,TO,i1,i2]) rfl ⟨fun b o q n hb hx => ?_,fun b o q n hb hx => ?_,fun b o q n hx => n,fun b o q hx => ?_,fun b xs q => q,fun b o u q => q,fun b ps q => ⟨#[],by rw [q]; simp⟩⟩ (fun b o q => ?_) I.bare fun b hb => ?_
    · exact hk b o (fun z => hx (by simp [z])) (fun z => hx (by simp [z])) (fun z => hx (by simp [z])) (fun z => hx (by simp [z])) q
    · exact ⟨o.slots,hk b o (fun z => hx (by simp [z])) (fun z => hx (by simp [z])) (fun z => hx (by simp [z])) (fun z => hx (by simp [z])) q⟩
    · exact ⟨o,hk b o (fun z => hx (by simp [z])) (fun z => hx (by simp [z])) (fun z => hx (by simp [z])) (fun z => hx (by simp [z])) q⟩
    · refine (I.hok b o q).stay (fun c v hc r => ?_) (fun c r => r) fun c xs r => r
      have : ∃ o,H c = some o :=by
        rcases hc with rfl | hc
        · exact ⟨o,q⟩
        · exact ⟨_,hc⟩
      obtain ⟨o',qo⟩ := this
      exact hk c v (fun z => by rw [z,fz.1] at qo; cases qo) (fun z => by rw [z,fO.1] at qo; cases qo) (fun z => by rw [z,f1.1] at qo; cases qo) (fun z => by rw [z,f2.1] at qo; cases qo) r
    · have fb : FpOk X pins H b :=by
        simp only [List.mem_cons,List.not_mem_nil,or_false] at hb
        rcases hb with rfl | rfl | rfl | rfl
        · exact fz
        · exact fO
        · exact f1
        · exact f2
      exact ⟨fb.2.2.2.1,fb.2.1,fb.2.2.2.2.1,fb.2.2.2.2.2⟩
  self := fun _ _ _ _ _ st h => wpAny_pyIter_zip st.z h
section
variable {X:Cx}
noncomputable def iZip (j k : Bool) (K:PySem.W.Frag) (ta : TA) : TI := fun σ H R => ta σ H fun vs H1 => ∃ a b,vs = [.ref a,.ref b] ∧ (∃ xs,SqK j K H1 a xs) ∧ (∃ ys,SqK k K H1 b ys) ∧ R (Itz j k K a b) H1
theorem tY (n a b : Nat) (h1 : a < n) (h2 : b < n) : (n + 2 ≠ n + 4 ∧ n + 3 ≠ n + 4 ∧ n ≠ n + 4 ∧ n + 1 ≠ n + 4 ∧ n + 2 ≠ n + 3 ∧ n + 2 ≠ n ∧ n + 2 ≠ n + 1 ∧ n + 3 ≠ n ∧ n + 3 ≠ n + 1) ∧ (n ≠ n + 1 ∧ a ≠ n + 4 ∧ a ≠ n + 3 ∧ a ≠ n ∧ a ≠ n + 1 ∧ b ≠ n + 4 ∧ b ≠ n + 3 ∧ b ≠ n ∧ b ≠ n + 1) :=by omega
theorem pZ {n l1 l2 : Addr} (h1 : l1 < n) (h2 : l2 < n) : ZA (n + 4) (n + 2) (n + 3) n (n + 1) l1 l2 :=
  by
  obtain ⟨⟨a1,a2,a3,a4,a5,a6,a7,a8,a9⟩,b1,b2,b3,b4,b5,b6,b7,b8,b9⟩ := tY n l1 l2 h1 h2
  exact ⟨a1,a2,a3,a4,a5,a6,a7,a8,a9,b1,b2,b3,b4,b5,b6,b7,b8,b9⟩
theorem uu {j k : Bool}{a b : Expr}{ta : TA}{p pos : Pos}{elts : List Expr}{x1}{tpos : Pos} (hg : Gl X "zip") (hm : X.mg "zip" = none) (ha : PA X [a,b] ta) (hs : starEach [a,b] X.env = [(false,eval a X.env),(false,eval b X.env)] :=by rfl) (hs2 : starEach [b] X.env = [(false,eval b X.env)] :=by rfl) : PI X (.Tuple elts x1 tpos) (.Call (.Name "zip" p) [a,b] [] pos) (iZip j k X.K ta) :=by
  intro pins s σ H R I h
  refine Call_ (dc I hg hm boot_zip (PyProof.Rows.callWith_type1 (thn (ha pos pins s σ H _ I h) fun us s1 qz => ?_) (by rw [hs,hs2]) (by rw [hs2]; rfl)))
  obtain ⟨vs,H1,I1,r1,q1⟩ := qz
  obtain ⟨a',b',e,⟨xs,hq1⟩,⟨ys,hq2⟩,q⟩ := q1
  subst e
  obtain ⟨u,v,rfl,ru,rv⟩ := r1.two
  cases ru
  cases rv
  obtain ⟨is1,rv1,t1⟩ := I1.seqK hq1
  obtain ⟨is2,rv2,t2⟩ := I1.seqK hq2
  have lt : ∀ {T:String}{l:Addr}{u:Array Value},SeqAt s1.heap T l u → l < s1.heap.objs.size := fun {T l u} h => by
    rcases h with ⟨_,o,e,_⟩ | ⟨_,o,e,_⟩ <;> exact Heap.lt_size e
  refine jR t1 t2 fun h' Z hsz hk => wpAny_pyIter_zip Z.z ?_
  have I2 : Inv X pins σ H1 { s1 with heap := h' } := I1.kept (t' := s1.toks) hk
  refine ⟨s1.heap.objs.size + 4,[s1.heap.objs.size + 4,s1.heap.objs.size + 2,s1.heap.objs.size + 3,s1.heap.objs.size,s1.heap.objs.size + 1],_,_,H1,rfl,I2,p6 (j := j) (k := k) (pZ (lt t1) (lt t2)),⟨Z.z,Z.ti,Z.to,Z.u1,Z.u2⟩,fun c hc => ?_,q⟩
  have hc' : s1.heap.objs.size ≤ c :=by
    simp only [List.mem_cons,List.not_mem_nil,or_false] at hc
    rcases hc with rfl | rfl | rfl | rfl | rfl
    · exact Nat.le_add_right _ _
    · exact Nat.le_add_right _ _
    · exact Nat.le_add_right _ _
    · exact Nat.le_refl _
    · exact Nat.le_add_right _ _
  exact I1.fpOk hc' (I1.hok.fresh hc')
end
end L2
set_option maxHeartbeats 2000000
namespace L2
open PySem PySem.Spec PyProof.Rows
open Builtin
section
variable {prog : Program}{w:World}{A:Around}{E:Value → Shared → Prop}
end
section
variable {X:Cx}
end
end L2
namespace L2
open PySem PySem.Spec PyProof.Rows
section
variable {X:Cx}
variable {o e : Expr}{es : List Expr}{to : TE}{t:TA}{name : Str}{apos cpos : Pos}{id : String}{r:V → List V → Hp → VK → Prop}
end
end L2
set_option maxHeartbeats 2000000
namespace L2
open PySem PySem.Spec PyProof.Rows
section
variable {X:Cx}
noncomputable def sd : V → List V → Hp → VK → Prop := fun x vs H Q => ∃ l xs i y,x = .ref l ∧ vs = [.int i,y] ∧ H l = some (.lst xs) ∧ 0 ≤ i ∧ i ≤ xs.length ∧ xs.length < sizeLine ∧ Q .non (upd H l (.lst (xs.take i.toNat ++ [y] ++ xs.drop i.toNat)))
theorem Vals.take' : ∀ {xs : List V}{us : List Value} (n:Nat),Vals xs us → Vals (xs.take n) (us.take n)
  | _,_,0,_ => by rw [List.take_zero,List.take_zero]; exact .nil
  | _,_,_ + 1,.nil => .nil
  | _,_,n + 1,.cons r t => .cons r (Vals.take' n t)
theorem Vals.drop' : ∀ {xs : List V}{us : List Value} (n:Nat),Vals xs us → Vals (xs.drop n) (us.drop n)
  | _,_,0,h => h
  | _,_,_ + 1,.nil => .nil
  | _,_,n + 1,.cons _ t => Vals.drop' n t
theorem o8 : MtM X "list.insert" sd :=by
  intro pins s σ H x vs v us Q I rx rv h
  obtain ⟨l,xs,i,y,rfl,rfl,hH,h0,h1,hz,q⟩ := h
  cases rx
  obtain ⟨u,w,rfl,ru,rw'⟩ := rv.two
  obtain ⟨t,rfl⟩ := ru
  obtain ⟨z,its,n,r,hl,e⟩ := I.lstM hH
  have zl : its.length = xs.length := r.length.symm
  have sl : sizeLine < 2 ^ 62 :=by decide
  refine call_meets F.slot_list_insert ⟨_,e,rfl⟩ F.entry_list_insert (F.args_list_insert_3 _ _ _) (AutoSeq1.list_insert_list_int_val_1 l its.toArray n i t w (by rw [fitsIndex_both (by omega) (by omega)]; simp) (by rw [List.size_toArray]; omega)) ⟨e,?_⟩
  refine ⟨.non,_,I.lset (its' := its.take i.toNat ++ [w] ++ its.drop i.toNat) hH e ?_ (((r.take' i.toNat).append (.cons rw' .nil)).append (r.drop' i.toNat)) ?_,rfl,q⟩
  · have k : (if i < 0 then (i + ((its.toArray.size : Nat) : Int)).toNat else min i.toNat its.toArray.size) = i.toNat :=by
      rw [if_neg (by omega),List.size_toArray]; omega
    show ((its.toArray.extract 0 (if i < 0 then (i + ((its.toArray.size : Nat) : Int)).toNat else min i.toNat its.toArray.size)).push w ++ its.toArray.extract (if i < 0 then (i + ((its.toArray.size : Nat) : Int)).toNat else min i.toNat its.toArray.size)) = _
    rw [k]
    simp [List.extract_eq_drop_take]
    exact List.take_of_length_le (by rw [List.length_drop]; exact Nat.le_refl _)
  · rw [List.length_append,List.length_append,List.length_take,List.length_drop]
    show min i.toNat xs.length + 1 + (xs.length - i.toNat) ≤ sizeLine
    omega
end
end L2
set_option maxHeartbeats 1000000
namespace L2
open PySem PySem.Spec PyProof.Rows
inductive W where
  | ty (n:String) | exc (c:Str) | cls (c:Str) | non | bl (b:Bool) | int (i:Int) | str (x:Str)
  | tup (l:List W) | tl (l:List W) | cl (l:List W) | dv (ks : List Key) (ws : List W) | kt (ks : List Key) | loc (k:Nat)
inductive Ob where
  | lst (l:List W) | dic (ks : List Key) (ws : List W) | dit (ks : List (List Key)) (ws : List W) | din (b:Bool) (ks : List PKy) (ws : List W) | ins (c:Str) (ns : List Str) (ws : List W) | gone
structure Wo where
  mu : Nat → Addr
  h : List Ob
  H : Hp
noncomputable def Lv (o:Wo) (a:Addr) : Prop := ∃ k b,o.h[k]? = some b ∧ b ≠ .gone ∧ o.mu k = a
noncomputable def FrL (K:PySem.W.Frag) (a:Addr) (xs : List V) : Prop := ∃ (o:Obj) (its : Array Value) (n:Nat),K.lookup a = some o ∧ o.cls = .type "list" ∧ o.dict = none ∧ o.data = .seq its n ∧ its.size ≤ sizeLine ∧ Vals xs its.toList
mutual
noncomputable def Rv (K:PySem.W.Frag) (o:Wo) : W → V → Prop
  | .ty n,v => v = .ty n
  | .exc c,v => ∃ a C,v = .ref a ∧ PySem.W.nsIn K mainGlobals c = some (some (.ref C)) ∧ o.H a = some (excO a (.ref C))
  | .cls c,v => ∃ C,v = .ref C ∧ PySem.W.nsIn K mainGlobals c = some (some (.ref C))
  | .non,v => v = .non
  | .bl b,v => v = .bl b
  | .int i,v => v = .int i
  | .str x,v => v = .str x
  | .tup l,v => ∃ a vs,v = .ref a ∧ SqT K o.H a vs ∧ Rvs K o l vs
  | .tl l,v => ∃ a vs,v = .ref a ∧ o.H a = some (.lst vs) ∧ ¬ Lv o a ∧ Rvs K o l vs
  | .cl l,v => ∃ a vs,v = .ref a ∧ ((Rd o.H a (.lst vs) ∧ ¬ Lv o a) ∨ FrL K a vs) ∧ Rvs K o l vs
  | .dv ks ws,v => ∃ a kvs,v = .ref a ∧ Rd o.H a (.dK kvs) ∧ ¬ Lv o a ∧ kvs.map (·.1) = ks ∧ Rvs K o ws (kvs.map (·.2))
  | .kt ks,v => ∃ a,v = .ref a ∧ o.H a = some (.tup (ks.map kV))
  | .loc k,v => k < o.h.length ∧ v = .ref (o.mu k)
noncomputable def Rvs (K:PySem.W.Frag) (o:Wo) : List W → List V → Prop
  | [],vs => vs = []
  | w :: l,vs => ∃ v r,vs = v :: r ∧ Rv K o w v ∧ Rvs K o l r
end
noncomputable def KeyN (K:PySem.W.Frag) (H:Hp) (b:Bool) (c:Addr) (k:PKy) : Prop := ∃ d,SqT K H c (match b with
  | false => [.int k.1,.ref d]
  | true => [.ref d,.int k.1]) ∧ SqT K H d (k.2.map V.int)
noncomputable def Ro (K:PySem.W.Frag) (o:Wo) (a:Addr) : Ob → Prop
  | .lst l => ∃ vs,o.H a = some (.lst vs) ∧ Rvs K o l vs
  | .dic ks ws => ∃ kvs,o.H a = some (.dK kvs) ∧ kvs.map (·.1) = ks ∧ Rvs K o ws (kvs.map (·.2))
  | .dit ks ws => ∃ kvs,o.H a = some (.dT kvs) ∧ kvs.map (·.1) = ks ∧ Rvs K o ws (kvs.map (·.2))
  | .din b ks ws => ∃ xs : List (PKy × Addr × V),o.H a = some (.dN b xs) ∧ xs.map (·.1) = ks ∧ (∀ x ∈ xs,KeyN K o.H b x.2.1 x.1) ∧ Rvs K o ws (xs.map (·.2.2))
  | .ins c ns ws => ∃ C dx fs,PySem.W.nsIn K mainGlobals c = some (some (.ref C)) ∧ o.H a = some (.ins C dx fs) ∧ fs.map (·.1) = ns ∧ Rvs K o ws (fs.map (·.2))
  | .gone => True
structure Rel (K:PySem.W.Frag) (o:Wo) : Prop where
  ob : ∀ k b,o.h[k]? = some b → Ro K o (o.mu k) b
  inj : ∀ j k b c,o.h[j]? = some b → o.h[k]? = some c → b ≠ .gone → c ≠ .gone → o.mu j = o.mu k → j = k
structure Ex (o p : Wo) : Prop where
  le : o.h.length ≤ p.h.length
  mu : ∀ k,k < o.h.length → p.mu k = o.mu k
  fr : ∀ a u,o.H a = some u → ¬ Lv o a → p.H a = some u ∧ ¬ Lv p a
theorem Ex.refl (o:Wo) : Ex o o := ⟨Nat.le_refl _,fun _ _ => rfl,fun _ _ h n => ⟨h,n⟩⟩
theorem Ex.trans {o p q : Wo} (a:Ex o p) (b:Ex p q) : Ex o q := ⟨Nat.le_trans a.le b.le,fun k h => (b.mu k (Nat.lt_of_lt_of_le h a.le)).trans (a.mu k h),fun c u h n => let ⟨h1,n1⟩ := a.fr c u h n; b.fr c u h1 n1⟩
section
variable {K:PySem.W.Frag}{o p : Wo}
theorem Lv.kind (R:Rel K o) {a:Addr} (h:Lv o a) : (∃ vs,o.H a = some (.lst vs)) ∨ (∃ kvs,o.H a = some (.dK kvs)) ∨ (∃ C dx fs,o.H a = some (.ins C dx fs)) ∨ (∃ kvs,o.H a = some (.dT kvs)) ∨ ∃ b xs,o.H a = some (.dN b xs) :=by
  obtain ⟨k,b,hk,hb,rfl⟩ := h
  have q := R.ob k b hk
  cases b with
  | lst l => exact .inl (let ⟨vs,e,_⟩ := q; ⟨vs,e⟩)
  | dic ks ws => exact .inr (.inl (let ⟨vs,e,_⟩ := q; ⟨vs,e⟩))
  | ins c ns ws => exact .inr (.inr (.inl (let ⟨C,dx,fs,_,e,_⟩ := q; ⟨C,dx,fs,e⟩)))
  | dit ks ws => exact .inr (.inr (.inr (.inl (let ⟨vs,e,_⟩ := q; ⟨vs,e⟩))))
  | din b ks ws => exact .inr (.inr (.inr (.inr (let ⟨vs,e,_⟩ := q; ⟨b,vs,e⟩))))
  | gone => exact absurd rfl hb
theorem Ex.keep (X:Ex o p) (R:Rel K o) {a:Addr}{u:HO} (h:o.H a = some u) (n1 : ∀ vs,u ≠ .lst vs) (n2 : ∀ kvs,u ≠ .dK kvs) (n3 : ∀ C dx fs,u ≠ .ins C dx fs) (n4 : ∀ kvs,u ≠ .dT kvs) (n5 : ∀ b xs,u ≠ .dN b xs) : p.H a = some u :=by
  refine (X.fr a u h fun l => ?_).1
  rcases l.kind R with ⟨vs,e⟩ | ⟨vs,e⟩ | ⟨C,dx,fs,e⟩ | ⟨vs,e⟩ | ⟨b,vs,e⟩
  · rw [h] at e; exact n1 vs (Option.some.inj e)
  · rw [h] at e; exact n2 vs (Option.some.inj e)
  · rw [h] at e; exact n3 C dx fs (Option.some.inj e)
  · rw [h] at e; exact n4 vs (Option.some.inj e)
  · rw [h] at e; exact n5 b vs (Option.some.inj e)
theorem Ex.rdT (X:Ex o p) (R:Rel K o) {a:Addr}{vs : List V} (h:SqT K o.H a vs) : SqT K p.H a vs :=by
  rcases h with (h | ⟨ob,h⟩) | h
  · exact .inl (.inl (X.keep R h (fun _ z => nomatch z) (fun _ z => nomatch z) (fun _ _ _ z => nomatch z) (fun _ z => nomatch z) fun _ _ z => nomatch z))
  · exact .inl (.inr ⟨ob,X.keep R h (fun _ z => nomatch z) (fun _ z => nomatch z) (fun _ _ _ z => nomatch z) (fun _ z => nomatch z) fun _ _ z => nomatch z⟩)
  · exact .inr h
theorem KeyN.mono (X:Ex o p) (R:Rel K o) {b:Bool}{c:Addr}{k:PKy} (h:KeyN K o.H b c k) : KeyN K p.H b c k :=by
  obtain ⟨d,h1,h2⟩ := h
  exact ⟨d,X.rdT R h1,X.rdT R h2⟩
theorem Ex.rd (X:Ex o p) {a:Addr}{u:HO} (h:Rd o.H a u) (n:¬ Lv o a) : Rd p.H a u ∧ ¬ Lv p a :=by
  rcases h with h | ⟨ob,h⟩
  · exact ⟨.inl (X.fr a _ h n).1,(X.fr a _ h n).2⟩
  · exact ⟨.inr ⟨ob,(X.fr a _ h n).1⟩,(X.fr a _ h n).2⟩
mutual
theorem Rv.mono (R:Rel K o) (X:Ex o p) : ∀ (w:W) (v:V),Rv K o w v → Rv K p w v
  | .ty n,v,h => h
  | .exc c,v,h => by
    unfold Rv at h ⊢
    obtain ⟨a,C,e,h1,h2⟩ := h
    exact ⟨a,C,e,h1,X.keep R h2 (fun _ z => nomatch z) (fun _ z => nomatch z) (fun _ _ _ z => nomatch z) (fun _ z => nomatch z) fun _ _ z => nomatch z⟩
  | .cls c,v,h => by
    unfold Rv at h ⊢
    exact h
  | .non,v,h => h
  | .bl b,v,h => h
  | .int i,v,h => h
  | .str x,v,h => h
  | .tup l,v,h => by
    unfold Rv at h ⊢
    obtain ⟨a,vs,e,h1,h2⟩ := h
    exact ⟨a,vs,e,X.rdT R h1,Rvs.mono R X l vs h2⟩
  | .tl l,v,h => by
    unfold Rv at h ⊢
    obtain ⟨a,vs,e,h1,n,h2⟩ := h
    exact ⟨a,vs,e,(X.fr a _ h1 n).1,(X.fr a _ h1 n).2,Rvs.mono R X l vs h2⟩
  | .cl l,v,h => by
    unfold Rv at h ⊢
    obtain ⟨a,vs,e,h1,h2⟩ := h
    refine ⟨a,vs,e,?_,Rvs.mono R X l vs h2⟩
    rcases h1 with ⟨h1,n⟩ | h1
    · exact .inl (X.rd h1 n)
    · exact .inr h1
  | .dv ks ws,v,h => by
    unfold Rv at h ⊢
    obtain ⟨a,vs,e,h1,n,h2,h3⟩ := h
    exact ⟨a,vs,e,(X.rd h1 n).1,(X.rd h1 n).2,h2,Rvs.mono R X ws _ h3⟩
  | .kt ks,v,h => by
    unfold Rv at h ⊢
    obtain ⟨a,e,h⟩ := h
    exact ⟨a,e,X.keep R h (fun _ z => nomatch z) (fun _ z => nomatch z) (fun _ _ _ z => nomatch z) (fun _ z => nomatch z) fun _ _ z => nomatch z⟩
  | .loc k,v,h => by
    unfold Rv at h ⊢
    exact ⟨Nat.lt_of_lt_of_le h.1 X.le,by rw [X.mu k h.1]; exact h.2⟩
theorem Rvs.mono (R:Rel K o) (X:Ex o p) : ∀ (l:List W) (vs : List V),Rvs K o l vs → Rvs K p l vs
  | [],vs,h => h
  | w :: l,vs,h => by
    unfold Rvs at h ⊢
    obtain ⟨v,r,e,h1,h2⟩ := h
    exact ⟨v,r,e,Rv.mono R X w v h1,Rvs.mono R X l r h2⟩
end
theorem Rel.keep (R:Rel K o) (X:Ex o p) (e1 : p.h = o.h) (e2 : p.mu = o.mu) (e3 : ∀ k b,o.h[k]? = some b → b ≠ .gone → p.H (o.mu k) = o.H (o.mu k)) : Rel K p :=by
  refine ⟨fun k b hk => ?_,fun j k b c h1 h2 => ?_⟩
  · rw [e1] at hk
    rw [e2]
    have q := R.ob k b hk
    cases b with
    | lst l => obtain ⟨vs,h1,h2⟩ := q; exact ⟨vs,by rw [e3 k _ hk (by simp)]; exact h1,h2.mono R X⟩
    | dic ks ws => obtain ⟨vs,h1,h2,h3⟩ := q; exact ⟨vs,by rw [e3 k _ hk (by simp)]; exact h1,h2,h3.mono R X⟩
    | dit ks ws => obtain ⟨vs,h1,h2,h3⟩ := q; exact ⟨vs,by rw [e3 k _ hk (by simp)]; exact h1,h2,h3.mono R X⟩
    | din b ks ws => obtain ⟨vs,h1,h2,hn,h3⟩ := q; exact ⟨vs,by rw [e3 k _ hk (by simp)]; exact h1,h2,fun x hx => (hn x hx).mono X R,h3.mono R X⟩
    | ins c ns ws => obtain ⟨C,dx,fs,h0,h1,h2,h3⟩ := q; exact ⟨C,dx,fs,h0,by rw [e3 k _ hk (by simp)]; exact h1,h2,h3.mono R X⟩
    | gone => trivial
  · rw [e1] at h1 h2
    rw [e2]
    exact R.inj j k b c h1 h2
theorem Lv.there (R:Rel K o) {a:Addr} (h:Lv o a) : o.H a ≠ none :=by
  rcases h.kind R with ⟨vs,e⟩ | ⟨vs,e⟩ | ⟨C,dx,fs,e⟩ | ⟨vs,e⟩ | ⟨b,vs,e⟩ <;> (rw [e]; simp)
theorem Ex.new {q:Addr}{u:HO} (h:o.H q = none) : Ex o ⟨o.mu,o.h,upd o.H q u⟩ :=by
  refine ⟨Nat.le_refl _,fun _ _ => rfl,fun a w e n => ⟨?_,n⟩⟩
  show upd o.H q u a = some w
  rw [ap (bV e h)]; exact e
theorem Rel.new (R:Rel K o) {q:Addr}{u:HO} (h:o.H q = none) : Rel K ⟨o.mu,o.h,upd o.H q u⟩ :=by
  refine R.keep (Ex.new h) rfl rfl fun k b hk hb => ?_
  have l : Lv o (o.mu k) := ⟨k,b,hk,hb,rfl⟩
  show upd o.H q u (o.mu k) = _
  rw [ap fun z => l.there R (by rw [z]; exact h)]
noncomputable def Wo.add (o:Wo) (q:Addr) (b:Ob) (u:HO) : Wo := ⟨fun k => if k = o.h.length then q else o.mu k,o.h ++ [b],upd o.H q u⟩
theorem Ex.add {q:Addr}{b:Ob}{u:HO} (h:o.H q = none) : Ex o (o.add q b u) :=by
  refine ⟨by show _ ≤ (o.h ++ [b]).length; simp,fun k hk => ?_,fun a w e n => ⟨?_,fun l => ?_⟩⟩
  · show (if k = o.h.length then q else o.mu k) = _
    rw [if_neg (by omega)]
  · show upd o.H q u a = some w
    rw [ap (bV e h)]; exact e
  · obtain ⟨k,c,hk,hc,ha⟩ := l
    have ha : (if k = o.h.length then q else o.mu k) = a := ha
    have hk : (o.h ++ [b])[k]? = some c := hk
    by_cases z : k = o.h.length
    · rw [if_pos z] at ha
      exact absurd ha.symm (bV e h)
    · rw [if_neg z] at ha
      have hl : k < o.h.length :=by
        have := (List.getElem?_eq_some_iff.mp hk).1
        rw [List.length_append,List.length_singleton] at this
        omega
      rw [List.getElem?_append_left hl] at hk
      exact n ⟨k,c,hk,hc,ha⟩
theorem Rel.add (R:Rel K o) {q:Addr}{b:Ob}{u:HO} (h:o.H q = none) (hb : Ro K (o.add q b u) q b) : Rel K (o.add q b u) :=by
  have X : Ex o (o.add q b u) := Ex.add h
  have old : ∀ {k:Nat}{c:Ob},(o.add q b u).h[k]? = some c → k ≠ o.h.length → o.h[k]? = some c ∧ (o.add q b u).mu k = o.mu k := fun {k c} hk z => by
    have hk : (o.h ++ [b])[k]? = some c := hk
    have hl : k < o.h.length :=by
      have := (List.getElem?_eq_some_iff.mp hk).1
      rw [List.length_append,List.length_singleton] at this
      omega
    rw [List.getElem?_append_left hl] at hk
    exact ⟨hk,X.mu k hl⟩
  have new : ∀ {k:Nat}{c:Ob},(o.add q b u).h[k]? = some c → k = o.h.length → c = b ∧ (o.add q b u).mu k = q := fun {k c} hk z => by
    subst z
    have hk : (o.h ++ [b])[o.h.length]? = some c := hk
    rw [List.getElem?_append_right (Nat.le_refl _),Nat.sub_self] at hk
    exact ⟨(Option.some.inj hk).symm,if_pos rfl⟩
  have ne : ∀ {k:Nat}{c:Ob},o.h[k]? = some c → c ≠ .gone → o.mu k ≠ q := fun {k c} hk hc z => Lv.there R ⟨k,c,hk,hc,rfl⟩ (by rw [z]; exact h)
  refine ⟨fun k c hk => ?_,fun j k c d h1 h2 n1 n2 e => ?_⟩
  · by_cases z : k = o.h.length
    · obtain ⟨rfl,e⟩ := new hk z
      rw [e]; exact hb
    · obtain ⟨hk,e⟩ := old hk z
      rw [e]
      have r := R.ob k c hk
      have st : ∀ {w:HO},c ≠ .gone → o.H (o.mu k) = some w → (o.add q b u).H (o.mu k) = some w := fun {w} hc e => by
        show upd o.H q u (o.mu k) = some w
        rw [ap (ne hk hc)]; exact e
      cases c with
      | lst l => obtain ⟨vs,h1,h2⟩ := r; exact ⟨vs,st (by simp) h1,h2.mono R X⟩
      | dic ks ws => obtain ⟨vs,h1,h2,h3⟩ := r; exact ⟨vs,st (by simp) h1,h2,h3.mono R X⟩
      | dit ks ws => obtain ⟨vs,h1,h2,h3⟩ := r; exact ⟨vs,st (by simp) h1,h2,h3.mono R X⟩
      | din b ks ws => obtain ⟨vs,h1,h2,hn,h3⟩ := r; exact ⟨vs,st (by simp) h1,h2,fun x hx => (hn x hx).mono X R,h3.mono R X⟩
      | ins c ns ws => obtain ⟨C,dx,fs,h0,h1,h2,h3⟩ := r; exact ⟨C,dx,fs,h0,st (by simp) h1,h2,h3.mono R X⟩
      | gone => trivial
  · by_cases z1 : j = o.h.length
    · by_cases z2 : k = o.h.length
      · omega
      · obtain ⟨_,e1⟩ := new h1 z1
        obtain ⟨hk,e2⟩ := old h2 z2
        rw [e1,e2] at e
        exact absurd e.symm (ne hk n2)
    · obtain ⟨hj,e1⟩ := old h1 z1
      by_cases z2 : k = o.h.length
      · obtain ⟨_,e2⟩ := new h2 z2
        rw [e1,e2] at e
        exact absurd e (ne hj n1)
      · obtain ⟨hk,e2⟩ := old h2 z2
        rw [e1,e2] at e
        exact R.inj j k c d hj hk n1 n2 e
theorem Rel.addL (R:Rel K o) {q:Addr}{l:List W}{vs : List V} (h:o.H q = none) (hl : Rvs K o l vs) : Rel K (o.add q (.lst l) (.lst vs)) := R.add h ⟨vs,aN,hl.mono R (Ex.add h)⟩
theorem Rel.addT (R:Rel K o) {q:Addr}{ks : List (List Key)}{ws : List W}{kvs : List (List Key × V)} (h:o.H q = none) (hk : kvs.map (·.1) = ks) (hl : Rvs K o ws (kvs.map (·.2))) : Rel K (o.add q (.dit ks ws) (.dT kvs)) := R.add h ⟨kvs,aN,hk,hl.mono R (Ex.add h)⟩
noncomputable def Wo.put (o:Wo) (k:Nat) (b:Ob) (u:HO) : Wo := ⟨o.mu,o.h.set k b,upd o.H (o.mu k) u⟩
theorem Lv.put {k:Nat}{b c : Ob}{u:HO}{a:Addr} (hk : o.h[k]? = some c) (hc : c ≠ .gone) (h:Lv (o.put k b u) a) : Lv o a :=by
  obtain ⟨j,d,hj,hd,rfl⟩ := h
  have hj : (o.h.set k b)[j]? = some d := hj
  by_cases z : j = k
  · subst z; exact ⟨j,c,hk,hc,rfl⟩
  · rw [List.getElem?_set_ne (Ne.symm z)] at hj
    exact ⟨j,d,hj,hd,rfl⟩
theorem Ex.put {k:Nat}{b c : Ob}{u:HO} (hk : o.h[k]? = some c) (hc : c ≠ .gone) : Ex o (o.put k b u) :=by
  refine ⟨by show _ ≤ (o.h.set k b).length; simp,fun _ _ => rfl,fun a w e n => ⟨?_,fun l => n (l.put hk hc)⟩⟩
  show upd o.H (o.mu k) u a = some w
  rw [ap fun z => n ⟨k,c,hk,hc,z.symm⟩]; exact e
theorem Rel.put (R:Rel K o) {k:Nat}{b c : Ob}{u:HO} (hk : o.h[k]? = some c) (hc : c ≠ .gone) (hb : Ro K (o.put k b u) (o.mu k) b) : Rel K (o.put k b u) :=by
  have X : Ex o (o.put k b u) := Ex.put hk hc
  have old : ∀ {j:Nat}{d:Ob},(o.put k b u).h[j]? = some d → j ≠ k → o.h[j]? = some d := fun {j d} hj z => by
    have hj : (o.h.set k b)[j]? = some d := hj
    rw [List.getElem?_set_ne (Ne.symm z)] at hj
    exact hj
  refine ⟨fun j d hj => ?_,fun i j d e h1 h2 n1 n2 q => ?_⟩
  · by_cases z : j = k
    · subst z
      have hl := (List.getElem?_eq_some_iff.mp hk).1
      have hj : (o.h.set j b)[j]? = some d := hj
      rw [List.getElem?_set_self hl] at hj
      cases hj
      exact hb
    · have hj := old hj z
      have r := R.ob j d hj
      have st : ∀ {w:HO},d ≠ .gone → o.H (o.mu j) = some w → (o.put k b u).H (o.mu j) = some w := fun {w} hd e => by
        show upd o.H (o.mu k) u (o.mu j) = some w
        rw [ap fun q => z (R.inj j k d c hj hk hd hc q)]; exact e
      cases d with
      | lst l => obtain ⟨vs,h1,h2⟩ := r; exact ⟨vs,st (by simp) h1,h2.mono R X⟩
      | dic ks ws => obtain ⟨vs,h1,h2,h3⟩ := r; exact ⟨vs,st (by simp) h1,h2,h3.mono R X⟩
      | dit ks ws => obtain ⟨vs,h1,h2,h3⟩ := r; exact ⟨vs,st (by simp) h1,h2,h3.mono R X⟩
      | din b ks ws => obtain ⟨vs,h1,h2,hn,h3⟩ := r; exact ⟨vs,st (by simp) h1,h2,fun x hx => (hn x hx).mono X R,h3.mono R X⟩
      | ins c ns ws => obtain ⟨C,dx,fs,h0,h1,h2,h3⟩ := r; exact ⟨C,dx,fs,h0,st (by simp) h1,h2,h3.mono R X⟩
      | gone => trivial
  · have ex : ∀ {j:Nat}{d:Ob},(o.put k b u).h[j]? = some d → d ≠ .gone → ∃ d',o.h[j]? = some d' ∧ d' ≠ .gone := fun {j d} hj n => by
      by_cases z : j = k
      · subst z; exact ⟨c,hk,hc⟩
      · exact ⟨d,old hj z,n⟩
    obtain ⟨d',h1',n1'⟩ := ex h1 n1
    obtain ⟨e',h2',n2'⟩ := ex h2 n2
    exact R.inj i j d' e' h1' h2' n1' n2' q
theorem Rel.putL (R:Rel K o) {k:Nat}{c:Ob}{l:List W}{vs : List V} (hk : o.h[k]? = some c) (hc : c ≠ .gone) (hl : Rvs K o l vs) : Rel K (o.put k (.lst l) (.lst vs)) := R.put hk hc ⟨vs,aN,hl.mono R (Ex.put hk hc)⟩
theorem Rel.putD (R:Rel K o) {k:Nat}{c:Ob}{ks : List Key}{ws : List W}{kvs : List (Key × V)} (hk : o.h[k]? = some c) (hc : c ≠ .gone) (h1 : kvs.map (·.1) = ks) (hl : Rvs K o ws (kvs.map (·.2))) : Rel K (o.put k (.dic ks ws) (.dK kvs)) := R.put hk hc ⟨kvs,aN,h1,hl.mono R (Ex.put hk hc)⟩
theorem Rel.putT (R:Rel K o) {k:Nat}{c:Ob}{ks : List (List Key)}{ws : List W}{kvs : List (List Key × V)} (hk : o.h[k]? = some c) (hc : c ≠ .gone) (h1 : kvs.map (·.1) = ks) (hl : Rvs K o ws (kvs.map (·.2))) : Rel K (o.put k (.dit ks ws) (.dT kvs)) := R.put hk hc ⟨kvs,aN,h1,hl.mono R (Ex.put hk hc)⟩
theorem Rel.putN (R:Rel K o) {k:Nat}{c:Ob}{b:Bool}{ks : List PKy}{ws : List W}{xs : List (PKy × Addr × V)} (hk : o.h[k]? = some c) (hc : c ≠ .gone) (h1 : xs.map (·.1) = ks) (hn : ∀ x ∈ xs,KeyN K o.H b x.2.1 x.1) (hl : Rvs K o ws (xs.map (·.2.2))) : Rel K (o.put k (.din b ks ws) (.dN b xs)) := R.put hk hc ⟨xs,aN,h1,fun x hx => (hn x hx).mono (Ex.put hk hc) R,hl.mono R (Ex.put hk hc)⟩
noncomputable def Wo.ice (o:Wo) (k:Nat) : Wo := ⟨o.mu,o.h.set k .gone,o.H⟩
theorem Lv.ice {k:Nat}{a:Addr} (h:Lv (o.ice k) a) : ∃ j b,j ≠ k ∧ o.h[j]? = some b ∧ b ≠ .gone ∧ o.mu j = a :=by
  obtain ⟨j,d,hj,hd,e⟩ := h
  have hj : (o.h.set k .gone)[j]? = some d := hj
  by_cases z : j = k
  · subst z
    have hl := (List.getElem?_eq_some_iff.mp hj).1
    rw [List.length_set] at hl
    rw [List.getElem?_set_self hl] at hj
    cases hj
    exact absurd rfl hd
  · rw [List.getElem?_set_ne (Ne.symm z)] at hj
    exact ⟨j,d,z,hj,hd,e⟩
theorem Ex.ice {k:Nat} : Ex o (o.ice k) :=by
  refine ⟨by show _ ≤ (o.h.set k .gone).length; simp,fun _ _ => rfl,fun a w e n => ⟨e,fun l => ?_⟩⟩
  obtain ⟨j,b,_,h1,h2,h3⟩ := l.ice
  exact n ⟨j,b,h1,h2,h3⟩
theorem Rel.ice (R:Rel K o) {k:Nat} : Rel K (o.ice k) :=by
  have X : Ex o (o.ice k) := Ex.ice
  have old : ∀ {j:Nat}{d:Ob},(o.ice k).h[j]? = some d → d ≠ .gone → o.h[j]? = some d := fun {j d} hj n => by
    have hj : (o.h.set k .gone)[j]? = some d := hj
    by_cases z : j = k
    · subst z
      have hl := (List.getElem?_eq_some_iff.mp hj).1
      rw [List.length_set] at hl
      rw [List.getElem?_set_self hl] at hj
      cases hj
      exact absurd rfl n
    · rw [List.getElem?_set_ne (Ne.symm z)] at hj
      exact hj
  refine ⟨fun j d hj => ?_,fun i j d e h1 h2 n1 n2 q => R.inj i j d e (old h1 n1) (old h2 n2) n1 n2 q⟩
  cases d with
  | lst l => obtain ⟨vs,h1,h2⟩ := R.ob j _ (old hj (by simp)); exact ⟨vs,h1,h2.mono R X⟩
  | dic ks ws => obtain ⟨vs,h1,h2,h3⟩ := R.ob j _ (old hj (by simp)); exact ⟨vs,h1,h2,h3.mono R X⟩
  | dit ks ws => obtain ⟨vs,h1,h2,h3⟩ := R.ob j _ (old hj (by simp)); exact ⟨vs,h1,h2,h3.mono R X⟩
  | din b ks ws => obtain ⟨vs,h1,h2,hn,h3⟩ := R.ob j _ (old hj (by simp)); exact ⟨vs,h1,h2,fun x hx => (hn x hx).mono X R,h3.mono R X⟩
  | ins c ns ws => obtain ⟨C,dx,fs,h0,h1,h2,h3⟩ := R.ob j _ (old hj (by simp)); exact ⟨C,dx,fs,h0,h1,h2,h3.mono R X⟩
  | gone => trivial
theorem Rv.iceL (R:Rel K o) {k:Nat}{l:List W} (hk : o.h[k]? = some (.lst l)) : Rv K (o.ice k) (.tl l) (.ref (o.mu k)) :=by
  obtain ⟨vs,h1,h2⟩ := R.ob k _ hk
  unfold Rv
  refine ⟨_,vs,rfl,h1,fun z => ?_,h2.mono R Ex.ice⟩
  obtain ⟨j,b,n,q1,q2,q3⟩ := z.ice
  exact n (R.inj j k b _ q1 hk q2 (by simp) q3)
theorem Rv.iceD (R:Rel K o) {k:Nat}{ks : List Key}{ws : List W} (hk : o.h[k]? = some (.dic ks ws)) : Rv K (o.ice k) (.dv ks ws) (.ref (o.mu k)) :=by
  obtain ⟨vs,h1,h0,h2⟩ := R.ob k _ hk
  unfold Rv
  refine ⟨_,vs,rfl,.inl h1,fun z => ?_,h0,h2.mono R Ex.ice⟩
  obtain ⟨j,b,n,q1,q2,q3⟩ := z.ice
  exact n (R.inj j k b _ q1 hk q2 (by simp) q3)
theorem Rvs.len : ∀ {l:List W}{vs : List V},Rvs K o l vs → vs.length = l.length
  | [],_,h => by unfold Rvs at h; rw [h]; rfl
  | w :: l,_,h => by unfold Rvs at h; obtain ⟨v,r,rfl,_,h2⟩ := h; rw [List.length_cons,List.length_cons,Rvs.len h2]
theorem Rvs.get : ∀ {l:List W}{vs : List V}{i:Nat}{w:W},Rvs K o l vs → l[i]? = some w → ∃ v,vs[i]? = some v ∧ Rv K o w v
  | [],_,_,_,_,e => by simp at e
  | x :: l,_,0,w,h,e => by unfold Rvs at h; obtain ⟨v,r,rfl,h1,h2⟩ := h; cases e; exact ⟨v,rfl,h1⟩
  | x :: l,_,i + 1,w,h,e => by unfold Rvs at h; obtain ⟨v,r,rfl,h1,h2⟩ := h; obtain ⟨u,q1,q2⟩ := Rvs.get (l := l) (i := i) (w := w) h2 (by simpa using e); exact ⟨u,by simpa using q1,q2⟩
theorem Rvs.nil : Rvs K o [] [] :=by unfold Rvs; rfl
theorem Rvs.cons {w:W}{v:V}{l:List W}{vs : List V} (h:Rv K o w v) (t:Rvs K o l vs) : Rvs K o (w :: l) (v :: vs) :=by unfold Rvs; exact ⟨v,vs,rfl,h,t⟩
theorem Rvs.app : ∀ {l m : List W}{vs us : List V},Rvs K o l vs → Rvs K o m us → Rvs K o (l ++ m) (vs ++ us)
  | [],_,_,_,h,t => by unfold Rvs at h; rw [h]; exact t
  | w :: l,m,_,us,h,t => by unfold Rvs at h; obtain ⟨v,r,rfl,h1,h2⟩ := h; exact Rvs.cons h1 (Rvs.app h2 t)
theorem Rvs.take : ∀ {l:List W}{vs : List V} (n:Nat),Rvs K o l vs → Rvs K o (l.take n) (vs.take n)
  | [],_,n,h => by unfold Rvs at h; rw [h,List.take_nil,List.take_nil]; exact Rvs.nil
  | w :: l,_,0,h => by rw [List.take_zero,List.take_zero]; exact Rvs.nil
  | w :: l,_,n + 1,h => by unfold Rvs at h; obtain ⟨v,r,rfl,h1,h2⟩ := h; exact Rvs.cons h1 (Rvs.take n h2)
theorem Rvs.drop : ∀ {l:List W}{vs : List V} (n:Nat),Rvs K o l vs → Rvs K o (l.drop n) (vs.drop n)
  | [],_,n,h => by unfold Rvs at h; rw [h,List.drop_nil,List.drop_nil]; exact Rvs.nil
  | w :: l,_,0,h => h
  | w :: l,_,n + 1,h => by unfold Rvs at h; obtain ⟨v,r,rfl,h1,h2⟩ := h; exact Rvs.drop n h2
theorem Rvs.set {x:W}{y:V} (hx : Rv K o x y) : ∀ {l:List W}{vs : List V} (i:Nat),Rvs K o l vs → Rvs K o (l.set i x) (vs.set i y)
  | [],_,n,h => by unfold Rvs at h; rw [h]; exact Rvs.nil
  | w :: l,_,0,h => by unfold Rvs at h; obtain ⟨v,r,rfl,h1,h2⟩ := h; exact Rvs.cons hx h2
  | w :: l,_,n + 1,h => by unfold Rvs at h; obtain ⟨v,r,rfl,h1,h2⟩ := h; exact Rvs.cons h1 (Rvs.set hx n h2)
noncomputable abbrev Env' := List (Option W)
noncomputable def RvO (K:PySem.W.Frag) (o:Wo) : Option W → Option V → Prop
  | some w,s => ∃ v,s = some v ∧ Rv K o w v
  | none,s => s = none
noncomputable def Re (K:PySem.W.Frag) (o:Wo) : Env' → St → Prop
  | [],s => s = []
  | w :: r,s => ∃ x t,s = x :: t ∧ RvO K o w x ∧ Re K o r t
theorem RvO.mono (R:Rel K o) (X:Ex o p) : ∀ {w:Option W}{s:Option V},RvO K o w s → RvO K p w s
  | some w,_,⟨v,e,h⟩ => ⟨v,e,h.mono R X⟩
  | none,_,h => h
theorem Re.mono (R:Rel K o) (X:Ex o p) : ∀ {r:Env'}{s:St},Re K o r s → Re K p r s
  | [],_,h => h
  | w :: r,_,⟨x,t,e,h1,h2⟩ => ⟨x,t,e,h1.mono R X,Re.mono R X h2⟩
theorem Re.get : ∀ {r:Env'}{s:St}{i:Nat}{w:W},Re K o r s → r[i]? = some (some w) → ∃ v,s[i]? = some (some v) ∧ Rv K o w v
  | [],_,_,_,_,e => by simp at e
  | x :: r,_,0,w,⟨y,t,rfl,h1,h2⟩,e => by cases e; obtain ⟨v,rfl,q⟩ := h1; exact ⟨v,rfl,q⟩
  | x :: r,_,i + 1,w,⟨y,t,rfl,h1,h2⟩,e => by obtain ⟨u,q1,q2⟩ := Re.get (r := r) (i := i) (w := w) h2 (by simpa using e); exact ⟨u,by simpa using q1,q2⟩
theorem Re.set {w:W}{v:V} (q:Rv K o w v) : ∀ {r:Env'}{s:St} (i:Nat),Re K o r s → Re K o (r.set i (some w)) (s.set i (some v))
  | [],_,_,h => by rw [show _ = [] from h]; rfl
  | x :: r,_,0,⟨y,t,rfl,h1,h2⟩ => ⟨_,_,rfl,⟨v,rfl,q⟩,h2⟩
  | x :: r,_,i + 1,⟨y,t,rfl,h1,h2⟩ => ⟨_,_,rfl,h1,Re.set q i h2⟩
theorem Re.front : ∀ {r:Env'}{s:St} (n:Nat),Re K o r s → Re K o (List.replicate n none ++ r) (List.replicate n none ++ s)
  | _,_,0,h => h
  | _,_,n + 1,h => ⟨none,_,rfl,rfl,Re.front n h⟩
theorem Re.args : ∀ {ws : List W}{vs : List V} (n:Nat),Rvs K o ws vs → Re K o (ws.map some ++ List.replicate n none) (vs.map some ++ List.replicate n none)
  | [],_,n,h => by
    unfold Rvs at h; rw [h]
    induction n with
    | zero => rfl
    | succ n ih => exact ⟨none,_,rfl,rfl,ih⟩
  | w :: l,_,n,h => by unfold Rvs at h; obtain ⟨v,r,rfl,h1,h2⟩ := h; exact ⟨_,_,rfl,⟨v,rfl,h1⟩,Re.args n h2⟩
end
inductive Rs (α : Type) where
  | ok (a:α) (h:List Ob) | ex (c:Str) (h:List Ob) | bad
noncomputable abbrev M (α : Type) := List Ob → Rs α
noncomputable def bd {α β : Type} (f:M α) (g:α → M β) : M β := fun h => match f h with
  | .ok a h' => g a h'
  | .ex c h' => .ex c h'
  | .bad => .bad
noncomputable def pr {α : Type} (a:α) : M α := fun h => .ok a h
noncomputable def no {α : Type} : M α := fun _ => .bad
noncomputable def gd {α : Type} (p:Prop) [Decidable p] (m:M α) : M α := fun h => if p then m h else .bad
structure Cg where
  K : PySem.W.Frag
  mg : Str → Option Value
  E : XK
noncomputable def Ps {α β : Type} (c:Cg) (r:Wo → α → β → Prop) (o:Wo) (R:Rs α) (Q:β → Hp → Prop) : Prop := match R with
  | .ok a h' => ∀ p b,p.h = h' → Ex o p → Rel c.K p → r p a b → Q b p.H
  | .ex x h' => ∃ u,c.mg x = some u ∧ ∀ p,p.h = h' → Ex o p → Rel c.K p → c.E u none p.H
  | .bad => False
noncomputable def tG {α β : Type} (c:Cg) (r:Wo → α → β → Prop) (f:Env' → M α) (σ : St) (H:Hp) (Q:β → Hp → Prop) : Prop := ∃ o ρ,o.H = H ∧ Rel c.K o ∧ Re c.K o ρ σ ∧ Ps c r o (f ρ o.h) Q
noncomputable abbrev tM (c:Cg) (f:Env' → M W) : TE := tG c (Rv c.K) f
noncomputable abbrev tT (c:Cg) (f:Env' → M Bool) : TT := tG c (fun _ a b => a = b) f
noncomputable abbrev tA (c:Cg) (f:Env' → M (List W)) : TA := tG c (Rvs c.K) f
section
variable {c:Cg}{o p : Wo}{α β γ δ : Type}{r:Wo → α → β → Prop}{r2 : Wo → γ → δ → Prop}
theorem Ps.after {R:Rs α}{Q:β → Hp → Prop} (X:Ex o p) (h:Ps c r o R Q) : Ps c r p R Q :=by
  cases R with
  | ok a h' => exact fun q b e X2 Rq rq => h q b e (X.trans X2) Rq rq
  | ex x h' => obtain ⟨u,hu,h⟩ := h; exact ⟨u,hu,fun q e X2 Rq => h q e (X.trans X2) Rq⟩
  | bad => exact h
theorem Ps.bd {f:M α}{g:α → M γ}{Q:δ → Hp → Prop}{N:β → Hp → Prop} (h:Ps c r2 o (bd f g o.h) Q) (k:∀ p a b,Ex o p → Rel c.K p → r p a b → Ps c r2 p (g a p.h) Q → N b p.H) : Ps c r o (f o.h) N :=by
  unfold L2.bd at h
  cases e : f o.h with
  | ok a h' =>
    rw [e] at h
    intro p b hp X R rb
    subst hp
    exact k p a b X R rb (h.after X)
  | ex x h' =>
    rw [e] at h
    exact h
  | bad =>
    rw [e] at h
    exact h
theorem Ps.pr {a:α}{Q:β → Hp → Prop}{b:β} (h:Ps c r o (pr a o.h) Q) (R:Rel c.K o) (hb : r o a b) : Q b o.H := h o b rfl (Ex.refl _) R hb
theorem Ps.at {a:α}{h' : List Ob}{Q:β → Hp → Prop}{b:β} (h:Ps c r o (.ok a h') Q) (e:p.h = h') (X:Ex o p) (R:Rel c.K p) (hb : r p a b) : Q b p.H := h p b e X R hb
theorem Ps.gd {P:Prop} [Decidable P] {m:M α}{Q:β → Hp → Prop} (h:Ps c r o (gd P m o.h) Q) : P ∧ Ps c r o (m o.h) Q :=by
  unfold L2.gd at h
  by_cases q : P
  · rw [if_pos q] at h; exact ⟨q,h⟩
  · rw [if_neg q] at h; exact h.elim
end
end L2
set_option maxHeartbeats 1000000
namespace L2
open PySem PySem.Spec PyProof.Rows
noncomputable abbrev cg (X:Cx) (E:XK) : Cg := ⟨X.K,X.mg,E⟩
noncomputable def tF (c:Cg) (f:Env' → M (List W)) : TE := fun σ H Q => tG c (Rvs c.K) f σ H fun vs H1 => ∀ q,H1 q = none → Q (.ref q) (upd H1 q (.lst vs))
structure JE (X:Cx) (E:XK) (e:Expr) (f:Env' → M W) : Prop where
  h : PE X e (tM (cg X E) f)
structure JT (X:Cx) (E:XK) (e:Expr) (f:Env' → M Bool) : Prop where
  h : PT X e (tT (cg X E) f)
structure JW (X:Cx) (E:XK) (e:Expr) (f:Env' → M Bool) : Prop where
  h : PW X e (tT (cg X E) f)
structure JA (X:Cx) (E:XK) (es : List Expr) (f:Env' → M (List W)) : Prop where
  h : PA X es (tA (cg X E) f)
structure JF (X:Cx) (E:XK) (e:Expr) (f:Env' → M (List W)) : Prop where
  h : PE X e (tF (cg X E) f)
theorem PE.imp {X:Cx}{E:XK}{e:Expr}{t:TE}{f:Env' → M W} (h:PE X e t) (k:∀ σ H Q,tM (cg X E) f σ H Q → t σ H Q) : JE X E e f := ⟨fun pins s σ H Q I q => h pins s σ H Q I (k σ H Q q)⟩
theorem PE.impF {X:Cx}{E:XK}{e:Expr}{t:TE}{f:Env' → M (List W)} (h:PE X e t) (k:∀ σ H Q,tF (cg X E) f σ H Q → t σ H Q) : JF X E e f := ⟨fun pins s σ H Q I q => h pins s σ H Q I (k σ H Q q)⟩
theorem PT.imp {X:Cx}{E:XK}{e:Expr}{t:TT}{f:Env' → M Bool} (h:PT X e t) (k:∀ σ H Q,tT (cg X E) f σ H Q → t σ H Q) : JT X E e f := ⟨fun pins s σ H Q I q => h pins s σ H Q I (k σ H Q q)⟩
theorem PW.imp {X:Cx}{E:XK}{e:Expr}{t:TT}{f:Env' → M Bool} (h:PW X e t) (k:∀ σ H Q,tT (cg X E) f σ H Q → t σ H Q) : JW X E e f := ⟨fun w pins s σ H Q I q => h w pins s σ H Q I (k σ H Q q)⟩
theorem PA.imp {X:Cx}{E:XK}{e:List Expr}{t:TA}{f:Env' → M (List W)} (h:PA X e t) (k:∀ σ H Q,tA (cg X E) f σ H Q → t σ H Q) : JA X E e f := ⟨fun pos pins s σ H Q I q => h pos pins s σ H Q I (k σ H Q q)⟩
theorem lQ {X:Cx}{E:XK}{e:Expr}{f:Env' → M Bool} (q:JW X E e f) : JT X E e f := ⟨(q.h).pt⟩
section
variable {X:Cx}{E:XK}
noncomputable def mVar (i:Nat) : Env' → M W := fun ρ => match ρ[i]? with
  | some (some w) => pr w
  | _ => no
noncomputable def mC (w:W) : Env' → M W := fun _ => pr w
theorem ub {i:Nat}{σ : St}{H:Hp}{Q:VK} (h:tM (cg X E) (mVar i) σ H Q) : tVar i σ H Q :=by
  obtain ⟨o,ρ,rfl,R,S,h⟩ := h
  unfold mVar at h
  cases e : ρ[i]? with
  | none => rw [e] at h; exact h.elim
  | some x =>
    cases x with
    | none => rw [e] at h; exact h.elim
    | some w =>
      rw [e] at h
      obtain ⟨v,e1,r⟩ := S.get e
      exact ⟨v,e1,h.pr R r⟩
theorem ae (i:Nat) {x:Str}{pos : Pos} (hN : X.N[i]? = some x :=by rfl) (hv : Vis X.env.scope x :=by first | exact Or.inl rfl | exact Or.inr (Or.inl rfl) | exact Or.inr (Or.inr rfl)) (hd : (x == ("__debug__" : Str)) = false :=by decide)
    (hcd : (x == ("__classdict__" : Str)) = false :=by decide) : JE X E (.Name x pos) (mVar i) := (pv i hN hv hd hcd).imp fun _ _ _ h => ub h
theorem qd {w:W}{v:V} (hr : ∀ o,Rv X.K o w v) {σ : St}{H:Hp}{Q:VK} (h:tM (cg X E) (mC w) σ H Q) : tC v σ H Q :=by
  obtain ⟨o,ρ,rfl,R,S,h⟩ := h
  exact Ps.pr (c := cg X E) h R (hr o)
theorem af {i j pos} : JE X E (.Constant (.int i) j pos) (mC (.int i)) := pe_int.imp fun _ _ _ h => qd (fun o => by unfold Rv; rfl) h
theorem q9 {i j pos} : JE X E (.Constant (.bool i) j pos) (mC (.bl i)) := pe_bl.imp fun _ _ _ h => qd (fun o => by unfold Rv; rfl) h
theorem aZ {i j pos} : JE X E (.Constant (.str i) j pos) (mC (.str i)) := pe_str.imp fun _ _ _ h => qd (fun o => by unfold Rv; rfl) h
theorem fN {j pos} : JE X E (.Constant .none j pos) (mC .non) := pe_non.imp fun _ _ _ h => qd (fun o => by unfold Rv; rfl) h
noncomputable def m2 (f:W → W → M W) (fa fb : Env' → M W) : Env' → M W := fun ρ => bd (fa ρ) fun x => bd (fb ρ) fun y => f x y
noncomputable def OpM (X:Cx) (E:XK) (r:R2) (f:W → W → M W) : Prop := ∀ (o:Wo) (x y : W) (vx vy : V) (Q:VK),Rel X.K o → Rv X.K o x vx → Rv X.K o y vy → Ps (cg X E) (Rv X.K) o (f x y o.h) Q → r vx vy o.H Q
theorem oO {r:R2}{f:W → W → M W} (hf : OpM X E r f) {fa fb : Env' → M W}{σ : St}{H:Hp}{Q:VK} (h:tM (cg X E) (m2 f fa fb) σ H Q) : tOp r (tM (cg X E) fa) (tM (cg X E) fb) σ H Q :=by
  obtain ⟨o,ρ,rfl,R,S,h⟩ := h
  exact ⟨o,ρ,rfl,R,S,Ps.bd h fun p x vx e1 R1 r1 h1 => ⟨p,ρ,rfl,R1,S.mono R e1,Ps.bd h1 fun q y vy e2 R2 r2 h2 => hf q x y vx vy Q R2 (r1.mono R1 e2) r2 h2⟩⟩
theorem gj {a b : Expr}{pos : Pos}{op : Operator}{r:R2}{f:W → W → M W}{fa fb : Env' → M W} (ho : OpR X (binaryOp op) r) (hf : OpM X E r f) (ha : JE X E a fa) (hb : JE X E b fb) :
    JE X E (.BinOp a op b pos) (m2 f fa fb) := (qu ho ha.h hb.h).imp fun _ _ _ h => oO hf h
theorem cN {a b : Expr}{pos : Pos}{op : CmpOp}{r:R2}{f:W → W → M W}{fa fb : Env' → M W} (ho : OpR X (compareOp op) r) (hf : OpM X E r f) (ha : JE X E a fa) (hb : JE X E b fb) (hm : behindInMarks op b = false) :
    JE X E (.Compare a [op] [b] pos) (m2 f fa fb) := (sA ho ha.h hb.h hm).imp fun _ _ _ h => oO hf h
noncomputable def asB (w:W) : M Bool := match w with
  | .bl b => pr b
  | _ => no
noncomputable def mB (f:Env' → M W) : Env' → M Bool := fun ρ => bd (f ρ) asB
theorem vt {f:Env' → M W}{σ : St}{H:Hp}{Q:Bool → Hp → Prop} (h:tT (cg X E) (mB f) σ H Q) : tM (cg X E) f σ H fun x H' => ∃ k,x = .bl k ∧ Q k H' :=by
  obtain ⟨o,ρ,rfl,R,S,h⟩ := h
  refine ⟨o,ρ,rfl,R,S,Ps.bd h fun p x vx e1 R1 r1 h1 => ?_⟩
  unfold asB at h1
  split at h1
  · rename_i b
    unfold Rv at r1
    exact ⟨b,r1,h1.pr R1 rfl⟩
  · exact h1.elim
theorem aH {a b : Expr}{pos : Pos}{op : CmpOp}{r:R2}{f:W → W → M W}{fa fb : Env' → M W} (ho : OpR X (compareOp op) r) (hf : OpM X E r f) (ha : JE X E a fa) (hb : JE X E b fb) (hm : behindInMarks op b = false) :
    JT X E (.Compare a [op] [b] pos) (mB (m2 f fa fb)) := (si ho ha.h hb.h hm).imp fun _ _ _ h => oO hf (vt h)
theorem kq {e:Expr}{f:Env' → M W} (h:JE X E e f) (he : ∀ whole,isTrue e X.env whole = (do let v ← whole; standAt e.pos; holding [v] (truthy v)) :=by intro _; rfl) : JT X E e (mB f) :=
  (um h.h he).imp fun _ _ _ h => vt h
noncomputable def mAnd (f g : Env' → M Bool) : Env' → M Bool := fun ρ => bd (f ρ) fun b => if b = true then g ρ else pr false
noncomputable def mOr (f g : Env' → M Bool) : Env' → M Bool := fun ρ => bd (f ρ) fun b => if b = true then pr true else g ρ
noncomputable def mNot (f:Env' → M Bool) : Env' → M Bool := fun ρ => bd (f ρ) fun b => pr (!b)
variable {a b : Expr}{rest : List Expr}{pos : Pos}{f g : Env' → M Bool}
theorem t8 {σ : St}{H:Hp}{Q:Bool → Hp → Prop} (h:tT (cg X E) (mAnd f g) σ H Q) : tAnd (tT (cg X E) f) (tT (cg X E) g) σ H Q :=by
  obtain ⟨o,ρ,rfl,R,S,h⟩ := h
  refine ⟨o,ρ,rfl,R,S,Ps.bd h fun p x vx e1 R1 r1 h1 => ?_⟩
  subst r1
  cases x with
  | true => exact iteT ⟨p,ρ,rfl,R1,S.mono R e1,h1⟩
  | false => exact iteF (h1.pr R1 rfl)
theorem vp {σ : St}{H:Hp}{Q:Bool → Hp → Prop} (h:tT (cg X E) (mOr f g) σ H Q) : tOr (tT (cg X E) f) (tT (cg X E) g) σ H Q :=by
  obtain ⟨o,ρ,rfl,R,S,h⟩ := h
  refine ⟨o,ρ,rfl,R,S,Ps.bd h fun p x vx e1 R1 r1 h1 => ?_⟩
  subst r1
  cases x with
  | false => exact iteF ⟨p,ρ,rfl,R1,S.mono R e1,h1⟩
  | true => exact iteT (h1.pr R1 rfl)
theorem qR (ha : JT X E a f) : JT X E (.UnaryOp .Not a pos) (mNot f) := (uo ha.h).imp fun σ H Q h => by
  obtain ⟨o,ρ,rfl,R,S,h⟩ := h
  refine ⟨o,ρ,rfl,R,S,Ps.bd h fun p x vx e1 R1 r1 h1 => ?_⟩
  subst r1
  exact h1.pr R1 rfl
theorem kn (ha : JT X E a f) : JW X E (.BoolOp .And [a] pos) f := ⟨sg ha.h⟩
theorem qQ (ha : JT X E a f) : JW X E (.BoolOp .Or [a] pos) f := ⟨uk ha.h⟩
theorem mQ (ha : JT X E a f) (hb : JW X E (.BoolOp .And (b :: rest) pos) g) : JW X E (.BoolOp .And (a :: b :: rest) pos) (mAnd f g) := (ul ha.h hb.h).imp fun _ _ _ h => t8 h
theorem tU (ha : JT X E a f) (hb : JW X E (.BoolOp .Or (b :: rest) pos) g) : JW X E (.BoolOp .Or (a :: b :: rest) pos) (mOr f g) := (vG ha.h hb.h).imp fun _ _ _ h => vp h
noncomputable def mAndV (f g : Env' → M W) : Env' → M W := fun ρ => bd (f ρ) fun w => bd (asB w) fun b => if b = true then g ρ else pr (.bl false)
noncomputable def mOrV (f g : Env' → M W) : Env' → M W := fun ρ => bd (f ρ) fun w => bd (asB w) fun b => if b = true then pr (.bl true) else g ρ
noncomputable def mNotV (f:Env' → M W) : Env' → M W := fun ρ => bd (f ρ) fun w => bd (asB w) fun b => pr (.bl (!b))
theorem nA {α β : Type}{r:Wo → α → β → Prop}{o:Wo}{w:W}{v:V}{k:Bool → M α}{Q:β → Hp → Prop} (hr : Rv X.K o w v) (h:Ps (cg X E) r o (bd (asB w) k o.h) Q) : ∃ b,w = .bl b ∧ v = .bl b ∧ Ps (cg X E) r o (k b o.h) Q :=by
  cases w with
  | bl b => unfold Rv at hr; exact ⟨b,rfl,hr,h⟩
  | _ => exact h.elim
variable {u v : Env' → M W}
theorem mV {op} (h:JE X E a u) : JE X E (.BoolOp op [a] pos) u := ⟨ux h.h⟩
theorem kB (ha : JE X E a u) (hb : JE X E (.BoolOp .And (b :: rest) pos) v) : JE X E (.BoolOp .And (a :: b :: rest) pos) (mAndV u v) := (uA ha.h hb.h).imp fun σ H Q h => by
  obtain ⟨o,ρ,rfl,R,S,h⟩ := h
  refine ⟨o,ρ,rfl,R,S,Ps.bd h fun p x vx e1 R1 r1 h1 => ?_⟩
  obtain ⟨k,rfl,rfl,h2⟩ := nA r1 h1
  refine ⟨k,rfl,?_⟩
  cases k with
  | true => exact iteT ⟨p,ρ,rfl,R1,S.mono R e1,h2⟩
  | false => exact iteF (h2.pr R1 (by unfold Rv; rfl))
theorem vS (ha : JE X E a u) (hb : JE X E (.BoolOp .Or (b :: rest) pos) v) : JE X E (.BoolOp .Or (a :: b :: rest) pos) (mOrV u v) := (vJ ha.h hb.h).imp fun σ H Q h => by
  obtain ⟨o,ρ,rfl,R,S,h⟩ := h
  refine ⟨o,ρ,rfl,R,S,Ps.bd h fun p x vx e1 R1 r1 h1 => ?_⟩
  obtain ⟨k,rfl,rfl,h2⟩ := nA r1 h1
  refine ⟨k,rfl,?_⟩
  cases k with
  | false => exact iteF ⟨p,ρ,rfl,R1,S.mono R e1,h2⟩
  | true => exact iteT (h2.pr R1 (by unfold Rv; rfl))
theorem uY (ha : JE X E a u) : JE X E (.UnaryOp .Not a pos) (mNotV u) := (uy ha.h).imp fun σ H Q h => by
  obtain ⟨o,ρ,rfl,R,S,h⟩ := h
  refine ⟨o,ρ,rfl,R,S,Ps.bd h fun p x vx e1 R1 r1 h1 => ?_⟩
  obtain ⟨k,rfl,rfl,h2⟩ := nA r1 h1
  exact ⟨k,rfl,h2.pr R1 (by unfold Rv; rfl)⟩
noncomputable def mIf (f:Env' → M Bool) (u v : Env' → M W) : Env' → M W := fun ρ => bd (f ρ) fun b => if b = true then u ρ else v ρ
theorem lL {c:Expr} (hc : JT X E c f) (ha : JE X E a u) (hb : JE X E b v) : JE X E (.IfExp c a b pos) (mIf f u v) := (qx hc.h ha.h hb.h).imp fun σ H Q h => by
  obtain ⟨o,ρ,rfl,R,S,h⟩ := h
  refine ⟨o,ρ,rfl,R,S,Ps.bd h fun p x vx e1 R1 r1 h1 => ?_⟩
  subst r1
  cases x with
  | true => exact iteT ⟨p,ρ,rfl,R1,S.mono R e1,h1⟩
  | false => exact iteF ⟨p,ρ,rfl,R1,S.mono R e1,h1⟩
noncomputable def m1 (f:W → M W) (fa : Env' → M W) : Env' → M W := fun ρ => bd (fa ρ) f
noncomputable def negW (w:W) : M W := match w with
  | .int i => pr (.int (-i))
  | _ => no
theorem qW (ha : JE X E a u) : JE X E (.UnaryOp .USub a pos) (m1 negW u) := (vI tZ ha.h).imp fun σ H Q h => by
  obtain ⟨o,ρ,rfl,R,S,h⟩ := h
  refine ⟨o,ρ,rfl,R,S,Ps.bd h fun p x vx e1 R1 r1 h1 => ?_⟩
  unfold negW at h1
  split at h1
  · unfold Rv at r1
    exact ⟨_,r1,h1.pr R1 (by unfold Rv; rfl)⟩
  · exact h1.elim
noncomputable def mNil : Env' → M (List W) := fun _ => pr []
noncomputable def mCons (fa : Env' → M W) (fr : Env' → M (List W)) : Env' → M (List W) := fun ρ => bd (fa ρ) fun x => bd (fr ρ) fun l => pr (x :: l)
variable {es : List Expr}{l:Env' → M (List W)}{e:Expr}
theorem ag : JA X E [] mNil := pa_nil.imp fun σ H Q h => by
  obtain ⟨o,ρ,rfl,R,S,h⟩ := h
  exact h.pr R Rvs.nil
theorem ac (ha : JE X E e u) (hr : JA X E es l) (hs : starEach (e :: es) X.env = (false,eval e X.env) :: starEach es X.env :=by rfl) : JA X E (e :: es) (mCons u l) := (sD ha.h hr.h hs).imp fun σ H Q h => by
  obtain ⟨o,ρ,rfl,R,S,h⟩ := h
  exact ⟨o,ρ,rfl,R,S,Ps.bd h fun p x vx e1 R1 r1 h1 => ⟨p,ρ,rfl,R1,S.mono R e1,Ps.bd h1 fun q y vy e2 R2 r2 h2 => h2.pr R2 (Rvs.cons (r1.mono R1 e2) r2)⟩⟩
noncomputable def tupW (l:List W) : M W := gd (l.length ≤ sizeLine) (pr (.tup l))
noncomputable def mTup (l:Env' → M (List W)) : Env' → M W := fun ρ => bd (l ρ) tupW
theorem Rv.newT {K:PySem.W.Frag}{o:Wo} (R:Rel K o) {q:Addr}{l:List W}{vs : List V} (h:o.H q = none) (hl : Rvs K o l vs) : Rv K ⟨o.mu,o.h,upd o.H q (.tup vs)⟩ (.tup l) (.ref q) :=by
  unfold Rv; exact ⟨q,vs,rfl,.of aN,hl.mono R (Ex.new h)⟩
theorem Rv.newL {K:PySem.W.Frag}{o:Wo} (R:Rel K o) {q:Addr}{l:List W}{vs : List V} (h:o.H q = none) (hl : Rvs K o l vs) : Rv K ⟨o.mu,o.h,upd o.H q (.lst vs)⟩ (.tl l) (.ref q) :=by
  unfold Rv
  exact ⟨q,vs,rfl,aN,fun z => Lv.there R (show Lv o q from z) h,hl.mono R (Ex.new h)⟩
theorem aD {x1} (h:JA X E es l) : JE X E (.Tuple es x1 pos) (mTup l) := (qq h.h).imp fun σ H Q h => by
  obtain ⟨o,ρ,rfl,R,S,h⟩ := h
  refine ⟨o,ρ,rfl,R,S,Ps.bd h fun p x vx e1 R1 r1 h1 => ?_⟩
  obtain ⟨hz,h1⟩ := h1.gd
  exact ⟨by rw [r1.len]; exact hz,fun q hq => Ps.at (p := ⟨p.mu,p.h,upd p.H q (.tup vx)⟩) h1 rfl (Ex.new hq) (R1.new hq) (Rv.newT R1 hq r1)⟩
noncomputable def mTl (l:Env' → M (List W)) : Env' → M W := fun ρ => bd (l ρ) fun x => pr (.tl x)
noncomputable def newW (x:List W) : M W := fun h => .ok (.loc h.length) (h ++ [.lst x])
noncomputable def mNew (l:Env' → M (List W)) : Env' → M W := fun ρ => bd (l ρ) newW
theorem bc (h:JF X E e l) : JE X E e (mTl l) := h.h.imp fun σ H Q h => by
  obtain ⟨o,ρ,rfl,R,S,h⟩ := h
  exact ⟨o,ρ,rfl,R,S,Ps.bd h fun p x vx e1 R1 r1 h1 => fun q hq => Ps.at (p := ⟨p.mu,p.h,upd p.H q (.lst vx)⟩) h1 rfl (Ex.new hq) (R1.new hq) (Rv.newL R1 hq r1)⟩
theorem gS (h:JF X E e l) : JE X E e (mNew l) := h.h.imp fun σ H Q h => by
  obtain ⟨o,ρ,rfl,R,S,h⟩ := h
  refine ⟨o,ρ,rfl,R,S,Ps.bd h fun p x vx e1 R1 r1 h1 => fun q hq => ?_⟩
  refine Ps.at (p := p.add q (.lst x) (.lst vx)) h1 rfl (Ex.add hq) (R1.addL hq r1) ?_
  unfold Rv
  exact ⟨by show _ < (p.h ++ [_]).length; simp,by show V.ref q = V.ref (if p.h.length = p.h.length then q else _); rw [if_pos rfl]⟩
noncomputable def lenG (l:Env' → M (List W)) : Env' → M (List W) := fun ρ => bd (l ρ) fun x => gd (x.length ≤ sizeLine) (pr x)
theorem bN (h:JA X E es l) : JF X E (.List es pos) (lenG l) := (uz h.h).impF fun σ H Q h => by
  obtain ⟨o,ρ,rfl,R,S,h⟩ := h
  refine ⟨o,ρ,rfl,R,S,Ps.bd h fun p x vx e1 R1 r1 h1 => ?_⟩
  obtain ⟨hz,h1⟩ := h1.gd
  exact ⟨by rw [r1.len]; exact hz,h1.pr R1 r1⟩
end
end L2
set_option maxHeartbeats 1000000
namespace L2
open PySem PySem.Spec PyProof.Rows
section
variable {X:Cx}{E:XK}
theorem rv_int {K:PySem.W.Frag}{o:Wo}{i:Int}{v:V} : Rv K o (.int i) v ↔ v = .int i :=by unfold Rv; exact Iff.rfl
theorem rv_str {K:PySem.W.Frag}{o:Wo}{i:Str}{v:V} : Rv K o (.str i) v ↔ v = .str i :=by unfold Rv; exact Iff.rfl
theorem rv_bl {K:PySem.W.Frag}{o:Wo}{i:Bool}{v:V} : Rv K o (.bl i) v ↔ v = .bl i :=by unfold Rv; exact Iff.rfl
theorem rv_non {K:PySem.W.Frag}{o:Wo}{v:V} : Rv K o .non v ↔ v = .non :=by unfold Rv; exact Iff.rfl
theorem rv_ty {K:PySem.W.Frag}{o:Wo}{n:String}{v:V} : Rv K o (.ty n) v ↔ v = .ty n :=by unfold Rv; exact Iff.rfl
noncomputable def lstOf (w:W) : M (List W) := match w with
  | .tl l => pr l
  | .cl l => pr l
  | .loc k => fun h => match h[k]? with
    | some (.lst l) => .ok l h
    | _ => .bad
  | _ => no
theorem dU {α β : Type}{r:Wo → α → β → Prop}{o:Wo}{w:W}{v:V}{k:List W → M α}{Q:β → Hp → Prop} (R:Rel X.K o) (hr : Rv X.K o w v) (h:Ps (cg X E) r o (bd (lstOf w) k o.h) Q) :
    ∃ l a vs,v = .ref a ∧ SqL X.K o.H a vs ∧ Rvs X.K o l vs ∧ Ps (cg X E) r o (k l o.h) Q :=by
  cases w with
  | tl l => unfold Rv at hr; obtain ⟨a,vs,e,h1,_,h2⟩ := hr; exact ⟨l,a,vs,e,.of h1,h2,h⟩
  | cl l =>
    unfold Rv at hr
    obtain ⟨a,vs,e,h1,h2⟩ := hr
    rcases h1 with ⟨h1,_⟩ | h1
    · exact ⟨l,a,vs,e,.inl h1,h2,h⟩
    · exact ⟨l,a,vs,e,.inr h1,h2,h⟩
  | loc j =>
    unfold Rv at hr
    unfold lstOf bd at h
    cases e : o.h[j]? with
    | none => simp only [e] at h; exact h.elim
    | some b =>
      cases b with
      | lst l =>
        simp only [e] at h
        obtain ⟨vs,h1,h2⟩ := R.ob j _ e
        exact ⟨l,_,vs,hr.2,.of h1,h2,h⟩
      | _ => simp only [e] at h; exact h.elim
  | _ => exact h.elim
noncomputable def lstO (w:W) : M (List W) := match w with
  | .tl l => pr l
  | .loc k => fun h => match h[k]? with
    | some (.lst l) => .ok l h
    | _ => .bad
  | _ => no
theorem d9 {α β : Type}{r:Wo → α → β → Prop}{o:Wo}{w:W}{v:V}{k:List W → M α}{Q:β → Hp → Prop} (R:Rel X.K o) (hr : Rv X.K o w v) (h:Ps (cg X E) r o (bd (lstO w) k o.h) Q) :
    ∃ l a vs,v = .ref a ∧ o.H a = some (.lst vs) ∧ Rvs X.K o l vs ∧ Ps (cg X E) r o (k l o.h) Q :=by
  cases w with
  | tl l => unfold Rv at hr; obtain ⟨a,vs,e,h1,_,h2⟩ := hr; exact ⟨l,a,vs,e,h1,h2,h⟩
  | loc j =>
    unfold Rv at hr
    unfold lstO bd at h
    cases e : o.h[j]? with
    | none => simp only [e] at h; exact h.elim
    | some b =>
      cases b with
      | lst l =>
        simp only [e] at h
        obtain ⟨vs,h1,h2⟩ := R.ob j _ e
        exact ⟨l,_,vs,hr.2,h1,h2,h⟩
      | _ => simp only [e] at h; exact h.elim
  | _ => exact h.elim
theorem io {o:Wo}{q:Addr}{l:List W}{vs : List V}{Q:VK} (R:Rel X.K o) (hq : o.H q = none) (hl : Rvs X.K o l vs) (h:Ps (cg X E) (Rv X.K) o (pr (.tup l) o.h) Q) : Q (.ref q) (upd o.H q (.tup vs)) :=
  Ps.at (p := ⟨o.mu,o.h,upd o.H q (.tup vs)⟩) h rfl (Ex.new hq) (R.new hq) (Rv.newT R hq hl)
theorem j2 {o:Wo}{q:Addr}{l:List W}{vs : List V}{Q:VK} (R:Rel X.K o) (hq : o.H q = none) (hl : Rvs X.K o l vs) (h:Ps (cg X E) (Rv X.K) o (pr (.tl l) o.h) Q) : Q (.ref q) (upd o.H q (.lst vs)) :=
  Ps.at (p := ⟨o.mu,o.h,upd o.H q (.lst vs)⟩) h rfl (Ex.new hq) (R.new hq) (Rv.newL R hq hl)
noncomputable def addW (x y : W) : M W := match x,y with
  | .int i,.int j => pr (.int (i + j))
  | .str a,.str b => gd (a.length + b.length ≤ sizeLine) (pr (.str (a ++ b)))
  | .tup a,.tup b => gd (a.isEmpty = false ∧ a.length + b.length ≤ sizeLine) (pr (.tup (a ++ b)))
  | x,y => bd (lstO x) fun a => bd (lstO y) fun b => gd (a.length + b.length ≤ sizeLine) (pr (.tl (a ++ b)))
theorem sH : OpM X E (fun x y H Q => rI0 (fun i j => .int (i + j)) x y H Q ∨ (fun x y H Q => (fun x y H Q => ∃ i j,x = .str i ∧ y = .str j ∧ i.length + j.length ≤ sizeLine ∧ Q (.str (i ++ j)) H) x y H Q ∨ (fun x y H Q => rCatT X.K x y H Q ∨ rCat x y H Q) x y H Q) x y H Q) addW :=by
  intro o x y vx vy Q R rx ry h
  unfold addW at h
  split at h
  · exact .inl ⟨_,_,rv_int.mp rx,rv_int.mp ry,h.pr R (rv_int.mpr rfl)⟩
  · obtain ⟨hz,h⟩ := h.gd
    exact .inr (.inl ⟨_,_,rv_str.mp rx,rv_str.mp ry,hz,h.pr R (rv_str.mpr rfl)⟩)
  · obtain ⟨hz,h⟩ := h.gd
    unfold Rv at rx ry
    obtain ⟨a,vs,e1,s1,r1⟩ := rx
    obtain ⟨b,us,e2,s2,r2⟩ := ry
    have n1 : vs ≠ [] := fun z => by
      have := r1.len
      rw [z] at this
      have q := hz.1
      rw [List.eq_nil_of_length_eq_zero this.symm] at q
      cases q
    refine .inr (.inr (.inl ⟨a,b,vs,us,e1,e2,s1,s2,n1,by rw [r1.len,r2.len]; exact hz.2,fun z => ?_,fun _ q hq => io R hq (r1.app r2) h⟩))
    refine h.pr R ?_
    unfold Rv
    exact ⟨a,vs,rfl,s1,by have := r1.app r2; rw [z,List.append_nil] at this; exact this⟩
  · obtain ⟨l,a,vs,e1,s1,r1,h⟩ := d9 R rx h
    obtain ⟨m,b,us,e2,s2,r2,h⟩ := d9 R ry h
    obtain ⟨hz,h⟩ := h.gd
    exact .inr (.inr (.inr ⟨a,b,vs,us,e1,e2,s1,s2,by rw [r1.len,r2.len]; exact hz,fun q hq => j2 R hq (r1.app r2) h⟩))
theorem bv {a b : Expr}{pos : Pos}{fa fb : Env' → M W} (ha : JE X E a fa) (hb : JE X E b fb) : JE X E (.BinOp a .Add b pos) (m2 addW fa fb) :=
  gj (op_add.or (op_add_str.or (op_catT.or qJ))) sH ha hb
noncomputable def iiW (C:Int → Int → Prop) [∀ i j,Decidable (C i j)] (g:Int → Int → W) (x y : W) : M W := match x,y with
  | .int i,.int j => gd (C i j) (pr (g i j))
  | _,_ => no
theorem dO {C:Int → Int → Prop} [∀ i j,Decidable (C i j)] {g:Int → Int → W}{g' : Int → Int → V} (hg : ∀ o i j,Rv X.K o (g i j) (g' i j)) : OpM X E (rI C g') (iiW C g) :=by
  intro o x y vx vy Q R rx ry h
  unfold iiW at h
  split at h
  · obtain ⟨hz,h⟩ := h.gd
    exact ⟨_,_,rv_int.mp rx,rv_int.mp ry,hz,h.pr R (hg _ _ _)⟩
  · exact h.elim
theorem opR0 {f:Value → Value → Sem Value}{g' : Int → Int → V} (h:OpR X f (rI0 g')) : OpR X f (rI (fun _ _ => True) g') := fun pins s σ H x y v u Q I rx ry q => h pins s σ H x y v u Q I rx ry (let ⟨i,j,e1,e2,_,q⟩ := q; ⟨i,j,e1,e2,q⟩)
noncomputable abbrev CT : Int → Int → Prop := fun _ _ => True
noncomputable def subW : W → W → M W := iiW CT fun i j => .int (i - j)
theorem gR {a b : Expr}{pos : Pos}{fa fb : Env' → M W} (ha : JE X E a fa) (hb : JE X E b fb) : JE X E (.BinOp a .Sub b pos) (m2 subW fa fb) :=
  gj (opR0 uF) (dO fun _ _ _ => rv_int.mpr rfl) ha hb
noncomputable def CDivB (i j : Int) : Prop := 0 < j ∧ j < 2 ^ 200
instance (i j : Int) : Decidable (CDivB i j) :=by unfold CDivB; infer_instance
theorem qI : OpR X (binaryOp .FloorDiv) (rI CDivB fun i j => .int (i / j)) := opI fun i j _ _ _ _ _ hc q => by
  have h1 : (0 : Int) < j := hc.1
  have h2 : j < 2 ^ 200 := hc.2
  refine floordiv_int (by omega) (by rw [Int.fdiv_eq_ediv_of_nonneg i (by omega)]; exact q) (.inl (PyProof.noPylong_of_log2 ?_))
  have h3 : j.natAbs < 2 ^ 200 :=by omega
  exact Nat.lt_of_lt_of_le ((Nat.log2_lt (by omega)).mpr h3) (by decide)
noncomputable def fdivW : W → W → M W := iiW CDivB fun i j => .int (i / j)
theorem ky {a b : Expr}{pos : Pos}{fa fb : Env' → M W} (ha : JE X E a fa) (hb : JE X E b fb) : JE X E (.BinOp a .FloorDiv b pos) (m2 fdivW fa fb) :=
  gj qI (dO fun _ _ _ => rv_int.mpr rfl) ha hb
noncomputable abbrev CMod : Int → Int → Prop := fun _ j => 0 < j
noncomputable def modW : W → W → M W := iiW CMod fun i j => .int (i % j)
theorem eY {a b : Expr}{pos : Pos}{fa fb : Env' → M W} (ha : JE X E a fa) (hb : JE X E b fb) : JE X E (.BinOp a .Mod b pos) (m2 modW fa fb) :=
  gj uK (dO fun _ _ _ => rv_int.mpr rfl) ha hb
instance (i j : Int) : Decidable (CPow i j) :=by unfold CPow; infer_instance
noncomputable def powW : W → W → M W := iiW CPow fun i j => .int (i ^ j.toNat)
theorem iY {a b : Expr}{pos : Pos}{fa fb : Env' → M W} (ha : JE X E a fa) (hb : JE X E b fb) : JE X E (.BinOp a .Pow b pos) (m2 powW fa fb) :=
  gj uI (dO fun _ _ _ => rv_int.mpr rfl) ha hb
noncomputable abbrev CShr : Int → Int → Prop := fun _ j => 0 ≤ j
noncomputable def shrW : W → W → M W := iiW CShr fun i j => .int (i / 2 ^ j.toNat)
theorem qV {a b : Expr}{pos : Pos}{fa fb : Env' → M W} (ha : JE X E a fa) (hb : JE X E b fb) : JE X E (.BinOp a .RShift b pos) (m2 shrW fa fb) :=
  gj uG (dO fun _ _ _ => rv_int.mpr rfl) ha hb
theorem sP {z:Str}{n:Int} (h0 : 0 ≤ n) (h1 : n ≤ 10000) (h:z.length ≤ 30000) (hz : z.length * n.toNat ≤ 1000000) : MulOk z n :=by
  refine ⟨?_,fun a b => ?_,fun a b => ?_⟩
  · rw [Bool.or_eq_false_iff,decide_eq_false_iff_not,decide_eq_false_iff_not]; omega
  · have : (100000000000000 : Int) ≤ (2 ^ 63 - 1) / n := Int.le_ediv_of_mul_le (by omega) (by omega)
    omega
  · unfold Builtin.Str.tooLong
    have : sizeLine = 16777216 :=by decide
    exact decide_eq_false (by omega)
instance (i j : Int) : Decidable (CMul i j) :=by unfold CMul; infer_instance
instance (i j : Int) : Decidable (CMulB i j) :=by unfold CMulB; infer_instance
noncomputable def CMulA (i j : Int) : Prop := CMul i j ∨ CMulB i j
instance (i j : Int) : Decidable (CMulA i j) :=by unfold CMulA; infer_instance
theorem op_mulA : OpR X (binaryOp .Mult) (rI CMulA fun i j => .int (i * j)) := opI fun _ _ _ _ _ _ _ hc q => mul_int q (by rcases hc with h | h; exact h.ok; exact h.ok)
noncomputable def mulW (x y : W) : M W := match x,y with
  | .int i,.int j => gd (CMulA i j) (pr (.int (i * j)))
  | .str z,.int n => gd (0 ≤ n ∧ n ≤ 10000 ∧ z.length ≤ 30000 ∧ z.length * n.toNat ≤ 1000000) (pr (.str (Txt.mul z n)))
  | x,.int n => bd (lstO x) fun l => gd (0 ≤ n ∧ n ≤ 1000000 ∧ l.length * n.toNat ≤ sizeLine) (pr (.tl (List.replicate n.toNat l).flatten))
  | _,_ => no
theorem Rvs.rep {K:PySem.W.Frag}{o:Wo}{l:List W}{vs : List V} (h:Rvs K o l vs) : ∀ n : Nat,Rvs K o (List.replicate n l).flatten (List.replicate n vs).flatten
  | 0 => Rvs.nil
  | n + 1 => by rw [List.replicate_succ,List.replicate_succ,List.flatten_cons,List.flatten_cons]; exact h.app (Rvs.rep h n)
theorem sE : OpM X E (fun x y H Q => rI CMulA (fun i j => .int (i * j)) x y H Q ∨ (fun x y H Q => (fun x y H Q => ∃ (z:Str) (n:Int),x = .str z ∧ y = .int n ∧ MulOk z n ∧ Q (.str (Txt.mul z n)) H) x y H Q ∨ rRep x y H Q) x y H Q) mulW :=by
  intro o x y vx vy Q R rx ry h
  unfold mulW at h
  split at h
  · obtain ⟨hz,h⟩ := h.gd
    exact .inl ⟨_,_,rv_int.mp rx,rv_int.mp ry,hz,h.pr R (rv_int.mpr rfl)⟩
  · obtain ⟨hz,h⟩ := h.gd
    exact .inr (.inl ⟨_,_,rv_str.mp rx,rv_int.mp ry,sP hz.1 hz.2.1 hz.2.2.1 hz.2.2.2,h.pr R (rv_str.mpr rfl)⟩)
  · obtain ⟨l,a,vs,e1,s1,r1,h⟩ := d9 R rx h
    obtain ⟨hz,h⟩ := h.gd
    exact .inr (.inr ⟨a,_,vs,e1,rv_int.mp ry,s1,by omega,by omega,by rw [r1.len]; exact hz.2.2,fun q hq => j2 R hq (r1.rep _) h⟩)
  · exact h.elim
theorem d8 {a b : Expr}{pos : Pos}{fa fb : Env' → M W} (ha : JE X E a fa) (hb : JE X E b fb) : JE X E (.BinOp a .Mult b pos) (m2 mulW fa fb) :=
  gj (op_mulA.or (op_mul_str.or qH)) sE ha hb
noncomputable def ltW : W → W → M W := iiW CT fun i j => .bl (decide (i < j))
noncomputable def leW : W → W → M W := iiW CT fun i j => .bl (decide (i ≤ j))
noncomputable def gtW : W → W → M W := iiW CT fun i j => .bl (decide (j < i))
noncomputable def geW : W → W → M W := iiW CT fun i j => .bl (decide (j ≤ i))
theorem qG : OpM X E (rI CT fun i j => .bl (decide (i < j))) ltW := dO fun _ _ _ => rv_bl.mpr rfl
theorem mG : OpM X E (rI CT fun i j => .bl (decide (j < i))) gtW := dO fun _ _ _ => rv_bl.mpr rfl
theorem mH : OpM X E (rI CT fun i j => .bl (decide (j ≤ i))) geW := dO fun _ _ _ => rv_bl.mpr rfl
theorem tQ : OpR X (compareOp .Lt) (rI CT fun i j => .bl (decide (i < j))) := opR0 vL
theorem qD : OpR X (compareOp .Gt) (rI CT fun i j => .bl (decide (j < i))) := opR0 vM
theorem qE : OpR X (compareOp .GtE) (rI CT fun i j => .bl (decide (j ≤ i))) := opR0 vN
noncomputable def isNon : W → Bool
  | .non => true
  | _ => false
noncomputable def isNW (x y : W) : M W := match y with
  | .non => pr (.bl (isNon x))
  | _ => no
theorem sW {K:PySem.W.Frag}{o:Wo}{x:W}{v:V} (h:Rv K o x v) : decide (v = .non) = isNon x :=by
  cases x with
  | non => rw [rv_non.mp h]; rfl
  | bl _ => rw [rv_bl.mp h]; rfl
  | int _ => rw [rv_int.mp h]; rfl
  | str _ => rw [rv_str.mp h]; rfl
  | ty _ => rw [rv_ty.mp h]; rfl
  | exc _ => unfold Rv at h; obtain ⟨a,_,rfl,_⟩ := h; rfl
  | cls _ => unfold Rv at h; obtain ⟨a,rfl,_⟩ := h; rfl
  | tup _ => unfold Rv at h; obtain ⟨a,_,rfl,_⟩ := h; rfl
  | tl _ => unfold Rv at h; obtain ⟨a,_,rfl,_⟩ := h; rfl
  | cl _ => unfold Rv at h; obtain ⟨a,_,rfl,_⟩ := h; rfl
  | dv _ _ => unfold Rv at h; obtain ⟨a,_,rfl,_⟩ := h; rfl
  | kt _ => unfold Rv at h; obtain ⟨a,rfl,_⟩ := h; rfl
  | loc _ => unfold Rv at h; obtain ⟨_,rfl⟩ := h; rfl
theorem ip : OpM X E (fun x y H Q => y = .non ∧ Q (.bl (decide (x = .non))) H) isNW :=by
  intro o x y vx vy Q R rx ry h
  unfold isNW at h
  split at h
  · exact ⟨rv_non.mp ry,by rw [sW rx]; exact h.pr R (rv_bl.mpr rfl)⟩
  · exact h.elim
noncomputable def vOf : W → Option V
  | .non => some .non
  | .bl b => some (.bl b)
  | .int i => some (.int i)
  | .str x => some (.str x)
  | _ => none
theorem jW {K:PySem.W.Frag}{o:Wo}{x:W}{v u : V} (e:vOf x = some u) (h:Rv K o x v) : v = u :=by
  cases x with
  | non => cases e; exact rv_non.mp h
  | bl _ => cases e; exact rv_bl.mp h
  | int _ => cases e; exact rv_int.mp h
  | str _ => cases e; exact rv_str.mp h
  | _ => cases e
theorem kW {x:W}{u:V} (e:vOf x = some u) : flatV u = true :=by
  cases x <;> first | (cases e; done) | (cases e; rfl)
noncomputable def vsOf : List W → Option (List V)
  | [] => some []
  | w :: l => match vOf w,vsOf l with
    | some v,some vs => some (v :: vs)
    | _,_ => none
theorem nG {K:PySem.W.Frag}{o:Wo} : ∀ {l:List W}{vs us : List V},vsOf l = some us → Rvs K o l vs → vs = us
  | [],vs,us,e,h => by unfold Rvs at h; cases e; exact h
  | w :: l,vs,us,e,h => by
    unfold Rvs at h
    obtain ⟨v,r,rfl,h1,h2⟩ := h
    unfold vsOf at e
    split at e
    · rename_i v' vs' e1 e2
      cases e
      rw [jW e1 h1,nG e2 h2]
    · cases e
theorem jz : ∀ {l:List W}{us : List V},vsOf l = some us → us.all flatV = true
  | [],us,e => by cases e; rfl
  | w :: l,us,e => by
    unfold vsOf at e
    split at e
    · rename_i v' vs' e1 e2
      cases e
      rw [List.all_cons,kW e1,jz e2]; rfl
    · cases e
end
end L2
set_option maxHeartbeats 1000000
namespace L2
open PySem PySem.Spec PyProof.Rows
noncomputable def optL {α β : Type} (f:α → Option β) : List α → Option (List β)
  | [] => some []
  | a :: l => match f a,optL f l with
    | some b,some r => some (b :: r)
    | _,_ => none
noncomputable def dataH (h:List Ob) : Nat → W → Option PyData
  | 0,_ => none
  | _ + 1,.non => some .none
  | _ + 1,.bl b => some (.bool b)
  | _ + 1,.int i => some (.int i)
  | _ + 1,.str x => some (.str x)
  | n + 1,.tup l => (optL (dataH h n) l).map .tuple
  | n + 1,.tl l => (optL (dataH h n) l).map .list
  | n + 1,.cl l => (optL (dataH h n) l).map .list
  | n + 1,.loc k => match h[k]? with
    | some (.lst l) => (optL (dataH h n) l).map .list
    | _ => none
  | _ + 1,_ => none
section
variable {K:PySem.W.Frag}{o:Wo}
theorem iR {n:Nat} (ih : ∀ w v d,dataH o.h n w = some d → Rv K o w v → Den K o.H v d ∧ d.depth ≤ n) : ∀ {l:List W}{vs : List V}{ds : List PyData},optL (dataH o.h n) l = some ds → Rvs K o l vs → DenAll K o.H vs ds ∧ PyData.depthAll ds ≤ n
  | [],vs,ds,e,h => by unfold Rvs at h; cases e; rw [h]; exact ⟨.nil,by simp [PyData.depthAll]⟩
  | w :: l,vs,ds,e,h => by
    unfold Rvs at h
    obtain ⟨v,r,rfl,h1,h2⟩ := h
    unfold optL at e
    split at e
    · rename_i d ds' e1 e2
      cases e
      obtain ⟨a1,a2⟩ := ih w v d e1 h1
      obtain ⟨b1,b2⟩ := iR ih e2 h2
      exact ⟨.cons a1 b1,by rw [PyData.depthAll]; omega⟩
    · cases e
theorem g8 (R:Rel K o) : ∀ (n:Nat) (w:W) (v:V) (d:PyData),dataH o.h n w = some d → Rv K o w v → Den K o.H v d ∧ d.depth ≤ n
  | 0,_,_,_,e,_ => by cases e
  | n + 1,w,v,d,e,h => by
    have ih := g8 R n
    have seq : ∀ {l:List W}{a:Addr}{vs : List V}{ds : List PyData},optL (dataH o.h n) l = some ds → SqL K o.H a vs → Rvs K o l vs → Den K o.H (.ref a) (.list ds) ∧ (PyData.list ds).depth ≤ n + 1 := fun {l a vs ds} e s r => by
      obtain ⟨b1,b2⟩ := iR ih e r
      refine ⟨.lst s b1,?_⟩
      rw [PyData.depth]; omega
    cases w with
    | non => cases e; rw [rv_non.mp h]; exact ⟨.non,by simp [PyData.depth]⟩
    | bl b => cases e; rw [rv_bl.mp h]; exact ⟨.bl b,by simp [PyData.depth]⟩
    | int b => cases e; rw [rv_int.mp h]; exact ⟨.int b,by simp [PyData.depth]⟩
    | str b => cases e; rw [rv_str.mp h]; exact ⟨.str b,by simp [PyData.depth]⟩
    | ty b => cases e
    | exc b => cases e
    | cls b => cases e
    | dv a b => cases e
    | kt a => cases e
    | tup l =>
      unfold dataH at e
      obtain ⟨ds,e1,rfl⟩ := Option.map_eq_some_iff.mp e
      unfold Rv at h
      obtain ⟨a,vs,rfl,s,r⟩ := h
      obtain ⟨b1,b2⟩ := iR ih e1 r
      refine ⟨.tup s b1,?_⟩
      rw [PyData.depth]; omega
    | tl l =>
      unfold dataH at e
      obtain ⟨ds,e1,rfl⟩ := Option.map_eq_some_iff.mp e
      unfold Rv at h
      obtain ⟨a,vs,rfl,s,_,r⟩ := h
      exact seq e1 (.of s) r
    | cl l =>
      unfold dataH at e
      obtain ⟨ds,e1,rfl⟩ := Option.map_eq_some_iff.mp e
      unfold Rv at h
      obtain ⟨a,vs,rfl,s,r⟩ := h
      refine seq e1 ?_ r
      rcases s with ⟨s,_⟩ | s
      · exact .inl s
      · exact .inr s
    | loc k =>
      unfold dataH at e
      split at e
      · rename_i l hk
        obtain ⟨ds,e1,rfl⟩ := Option.map_eq_some_iff.mp e
        unfold Rv at h
        obtain ⟨vs,h1,h2⟩ := R.ob k _ hk
        rw [h.2]
        exact seq e1 (.of h1) h2
      · cases e
end
noncomputable def eqB (x y : W) (h:List Ob) : Option Bool := match vOf x,vOf y with
  | some a,some b => if scal a b = true then some (decide (a = b)) else match dataH h 50 x,dataH h 50 y with
    | some d,some e => if d.canLay0 = true ∧ e.canLay0 = true then some (PyData.eqv d e) else none
    | _,_ => none
  | _,_ => match dataH h 50 x,dataH h 50 y with
    | some d,some e => if d.canLay0 = true ∧ e.canLay0 = true then some (PyData.eqv d e) else none
    | _,_ => none
noncomputable def eqW (x y : W) : M W := fun h => match eqB x y h with
  | some b => .ok (.bl b) h
  | none => .bad
noncomputable def neW (x y : W) : M W := fun h => match eqB x y h with
  | some b => .ok (.bl (!b)) h
  | none => .bad
section
variable {X:Cx}{E:XK}
theorem rE {o:Wo}{x y : W}{vx vy : V}{b:Bool} (hu : X.A.units + 64 < cLine) (R:Rel X.K o) (rx : Rv X.K o x vx) (ry : Rv X.K o y vy) (e:eqB x y o.h = some b) :
    (scal vx vy = true ∧ b = decide (vx = vy)) ∨ ∃ d e,Den X.K o.H vx d ∧ Den X.K o.H vy e ∧ d.canLay0 = true ∧ e.canLay0 = true ∧ X.A.units + min d.depth e.depth < cLine ∧ b = PyData.eqv d e :=by
  have deep : (match dataH o.h 50 x,dataH o.h 50 y with
    | some d,some e => if d.canLay0 = true ∧ e.canLay0 = true then some (PyData.eqv d e) else none
    | _,_ => none) = some b → ∃ d e,Den X.K o.H vx d ∧ Den X.K o.H vy e ∧ d.canLay0 = true ∧ e.canLay0 = true ∧ X.A.units + min d.depth e.depth < cLine ∧ b = PyData.eqv d e := fun q => by
    split at q
    · rename_i d e' e1 e2
      split at q
      · rename_i hc
        obtain ⟨a1,a2⟩ := g8 R _ _ _ _ e1 rx
        obtain ⟨b1,b2⟩ := g8 R _ _ _ _ e2 ry
        exact ⟨d,e',a1,b1,hc.1,hc.2,by omega,(Option.some.inj q).symm⟩
      · cases q
    · cases q
  unfold eqB at e
  split at e
  · rename_i a c e1 e2
    split at e
    · rename_i hs
      rw [jW e1 rx,jW e2 ry]
      exact .inl ⟨hs,(Option.some.inj e).symm⟩
    · exact .inr (deep e)
  · exact .inr (deep e)
theorem cq (hu : X.A.units + 64 < cLine) : OpM X E (fun x y H Q => rEq x y H Q ∨ rEqD X.K X.A false x y H Q) eqW :=by
  intro o x y vx vy Q R rx ry h
  unfold eqW at h
  cases e : eqB x y o.h with
  | none => rw [e] at h; exact h.elim
  | some b =>
    rw [e] at h
    have q : Q (.bl b) o.H := Ps.pr (c := cg X E) (r := Rv X.K) (a := W.bl b) h R (rv_bl.mpr rfl)
    rcases rE hu R rx ry e with ⟨s,rfl⟩ | ⟨d,e',a1,a2,a3,a4,a5,rfl⟩
    · exact .inl ⟨s,q⟩
    · exact .inr ⟨d,e',a1,a2,a3,a4,a5,by rw [if_neg Bool.false_ne_true]; exact q⟩
theorem cM (hu : X.A.units + 64 < cLine) : OpM X E (fun x y H Q => rNe x y H Q ∨ rEqD X.K X.A true x y H Q) neW :=by
  intro o x y vx vy Q R rx ry h
  unfold neW at h
  cases e : eqB x y o.h with
  | none => rw [e] at h; exact h.elim
  | some b =>
    rw [e] at h
    have q : Q (.bl (!b)) o.H := Ps.pr (c := cg X E) (r := Rv X.K) (a := W.bl (!b)) h R (rv_bl.mpr rfl)
    rcases rE hu R rx ry e with ⟨s,rfl⟩ | ⟨d,e',a1,a2,a3,a4,a5,rfl⟩
    · exact .inl ⟨s,q⟩
    · exact .inr ⟨d,e',a1,a2,a3,a4,a5,by rw [if_pos rfl]; exact q⟩
theorem dA : OpR X (compareOp .Eq) (fun x y H Q => rEq x y H Q ∨ rEqD X.K X.A false x y H Q) := op_eq.or uM
theorem dR : OpR X (compareOp .NotEq) (fun x y H Q => rNe x y H Q ∨ rEqD X.K X.A true x y H Q) := op_ne.or uJ
noncomputable def keyOf : W → Option Key
  | .int i => some (.inl i)
  | .str x => some (.inr x)
  | _ => none
theorem gz {K:PySem.W.Frag}{o:Wo}{x:W}{v:V}{k:Key} (e:keyOf x = some k) (h:Rv K o x v) : v = kV k :=by
  cases x with
  | int _ => cases e; exact rv_int.mp h
  | str _ => cases e; exact rv_str.mp h
  | _ => cases e
noncomputable def dicOf (w:W) (h:List Ob) : Option (List Key × List W) := match w with
  | .dv ks ws => some (ks,ws)
  | .loc k => match h[k]? with
    | some (.dic ks ws) => some (ks,ws)
    | _ => none
  | _ => none
theorem lX {o:Wo}{w:W}{v:V}{ks : List Key}{ws : List W} (R:Rel X.K o) (e:dicOf w o.h = some (ks,ws)) (h:Rv X.K o w v) : ∃ a kvs,v = .ref a ∧ Rd o.H a (.dK kvs) ∧ kvs.map (·.1) = ks ∧ Rvs X.K o ws (kvs.map (·.2)) :=by
  cases w with
  | dv a b =>
    cases e
    unfold Rv at h
    obtain ⟨a,kvs,e,h1,_,h2,h3⟩ := h
    exact ⟨a,kvs,e,h1,h2,h3⟩
  | loc k =>
    unfold dicOf at e
    dsimp only at e
    split at e
    · rename_i a b hk
      cases e
      unfold Rv at h
      obtain ⟨kvs,h1,h2,h3⟩ := R.ob k _ hk
      exact ⟨_,kvs,h.2,.inl h1,h2,h3⟩
    · cases e
  | _ => cases e
noncomputable def atK {κ : Type} [DecidableEq κ] : List κ → List W → κ → Option W
  | k :: ks,w :: ws,x => if k = x then some w else atK ks ws x
  | _,_,_ => none
theorem fI {κ : Type} [DecidableEq κ] {K:PySem.W.Frag}{o:Wo}{x:κ} : ∀ {ks : List κ}{ws : List W}{kvs : List (κ × V)},kvs.map (·.1) = ks → Rvs K o ws (kvs.map (·.2)) → match atK ks ws x with
    | some w => ∃ v,valV kvs x = some v ∧ Rv K o w v
    | none => valV kvs x = none
  | [],_,[],_,_ => rfl
  | _,_,(k,v) :: r,e,h => by
    subst e
    cases ‹List W› with
    | nil => unfold Rvs at h; cases h
    | cons w ws =>
      unfold Rvs at h
      obtain ⟨v',r',e',h1,h2⟩ := h
      cases e'
      have ih := fI (x := x) (ks := r.map (·.1)) (ws := ws) (kvs := r) rfl h2
      show match (if k = x then some w else atK (r.map (·.1)) ws x) with
        | some w => ∃ v',valV ((k,v) :: r) x = some v' ∧ Rv K o w v'
        | none => valV ((k,v) :: r) x = none
      by_cases z : k = x
      · rw [if_pos z]
        exact ⟨v,by unfold valV; rw [List.find?_cons_of_pos (by simpa using z)]; rfl,h1⟩
      · rw [if_neg z]
        have ev : valV ((k,v) :: r) x = valV r x :=by unfold valV; rw [List.find?_cons_of_neg (by simpa using z)]
        rw [ev]
        exact ih
noncomputable def inB (x y : W) (h:List Ob) : Option Bool := match y with
  | .str b => match x with
    | .str a => some (!(Builtin.Str.occurrences b a 0 b.length 1).isEmpty)
    | _ => none
  | .tup l => match vOf x,vsOf l with
    | some v,some vs => some (inV v vs)
    | _,_ => none
  | y => match dicOf y h with
    | some (ks,ws) => match keyOf x with
      | some k => some (atK ks ws k).isSome
      | none => none
    | none => match lstOf y h with
      | .ok l _ => match vOf x,vsOf l with
        | some v,some vs => some (inV v vs)
        | _,_ => none
      | _ => none
noncomputable def inW (x y : W) : M W := fun h => match inB x y h with
  | some b => .ok (.bl b) h
  | none => .bad
noncomputable def iV (x y : W) : M W := fun h => match inB x y h with
  | some b => .ok (.bl (!b)) h
  | none => .bad
theorem i5 {o:Wo}{w:W}{v:V}{l:List W}{h' : List Ob} (R:Rel X.K o) (hr : Rv X.K o w v) (e:lstOf w o.h = .ok l h') : h' = o.h ∧ ∃ a vs,v = .ref a ∧ SqL X.K o.H a vs ∧ Rvs X.K o l vs :=by
  have hh : h' = o.h :=by
    cases w with
    | tl l' => cases e; rfl
    | cl l' => cases e; rfl
    | loc j =>
      unfold lstOf at e
      dsimp only at e
      split at e
      · cases e; rfl
      · cases e
    | _ => cases e
  subst hh
  have h : Ps (cg X (fun _ _ _ => False)) (fun (_:Wo) (a:List W) (b:List W) => a = b) o (bd (lstOf w) (fun l => pr l) o.h) (fun b _ => b = l) :=by
    unfold bd
    rw [e]
    intro p b _ _ _ q
    exact q.symm
  obtain ⟨m,a,vs,e1,e2,e3,h⟩ := dU R hr h
  have : m = l := h.pr R rfl
  subst this
  exact ⟨rfl,a,vs,e1,e2,e3⟩
noncomputable def rInD : R2 := fun x y H Q => ∃ a ov,y = .ref a ∧ DGet H a x ov ∧ Q (.bl ov.isSome) H
noncomputable def nM : R2 := fun x y H Q => ∃ a ov,y = .ref a ∧ DGet H a x ov ∧ Q (.bl (!ov.isSome)) H
theorem uL (hu : X.A.units + 1 < cLine) : OpR X (compareOp .In) rInD :=by
  intro pins s σ H x y v u Q I rx ry h
  obtain ⟨a,ov,rfl,g,q⟩ := h
  cases ry
  exact we hu I g rx fun s3 I3 => ⟨.bl ov.isSome,H,I3,rfl,q⟩
theorem oZ (hu : X.A.units + 1 < cLine) : OpR X (compareOp .NotIn) nM :=by
  intro pins s σ H x y v u Q I rx ry h
  obtain ⟨a,ov,rfl,g,q⟩ := h
  cases ry
  exact tj hu I g rx fun s3 I3 => ⟨.bl (!ov.isSome),H,I3,rfl,q⟩
theorem rn {o:Wo}{x y : W}{vx vy : V}{b:Bool} (R:Rel X.K o) (rx : Rv X.K o x vx) (ry : Rv X.K o y vy) (e:inB x y o.h = some b) :
    (∃ i j,vx = .str i ∧ vy = .str j ∧ b = (!(Builtin.Str.occurrences j i 0 j.length 1).isEmpty)) ∨ (∃ p xs,vy = .ref p ∧ (SqL X.K o.H p xs ∨ SqT X.K o.H p xs) ∧ flatV vx = true ∧ xs.all flatV = true ∧ b = inV vx xs) ∨ ∃ a ov,vy = .ref a ∧ DGet o.H a vx ov ∧ b = ov.isSome :=by
  have fl : ∀ {l:List W}{vs : List V},Rvs X.K o l vs → (match vOf x,vsOf l with
        | some v,some vs => some (inV v vs)
        | _,_ => none) = some b → flatV vx = true ∧ vs.all flatV = true ∧ b = inV vx vs := fun {l vs} r q => by
    split at q
    · rename_i v us e1 e2
      rw [jW e1 rx,nG e2 r]
      exact ⟨kW e1,jz e2,(Option.some.inj q).symm⟩
    · cases q
  unfold inB at e
  split at e
  · split at e
    · exact .inl ⟨_,_,rv_str.mp rx,rv_str.mp ry,(Option.some.inj e).symm⟩
    · cases e
  · unfold Rv at ry
    obtain ⟨a,vs,rfl,s,r⟩ := ry
    obtain ⟨f1,f2,f3⟩ := fl r e
    exact .inr (.inl ⟨a,vs,rfl,.inr s,f1,f2,f3⟩)
  · split at e
    · rename_i ks ws hd
      split at e
      · rename_i k hk
        obtain ⟨a,kvs,rfl,h1,h2,h3⟩ := lX R hd ry
        rw [gz hk rx]
        refine .inr (.inr ⟨a,valV kvs k,rfl,.inl ⟨kvs,k,h1,rfl,rfl⟩,?_⟩)
        rw [← Option.some.inj e]
        have := fI (x := k) h2 h3
        cases q : atK ks ws k with
        | none => rw [q] at this; rw [show valV kvs k = none from this]; rfl
        | some w => rw [q] at this; obtain ⟨v,hv,_⟩ := this; rw [hv]; rfl
      · cases e
    · split at e
      · rename_i l h' hl
        obtain ⟨rfl,a,vs,rfl,s,r⟩ := i5 R ry hl
        obtain ⟨f1,f2,f3⟩ := fl r e
        exact .inr (.inl ⟨a,vs,rfl,.inl s,f1,f2,f3⟩)
      · cases e
noncomputable abbrev rInA (X:Cx) : R2 := fun x y H Q => (fun x y H Q => ∃ i j,x = .str i ∧ y = .str j ∧ Q (.bl (!(Builtin.Str.occurrences j i 0 j.length 1).isEmpty)) H) x y H Q ∨ (fun x y H Q => rIn X.K false x y H Q ∨ rInD x y H Q) x y H Q
noncomputable abbrev nN (X:Cx) : R2 := fun x y H Q => (fun x y H Q => ∃ i j,x = .str i ∧ y = .str j ∧ Q (.bl (!(!(Builtin.Str.occurrences j i 0 j.length 1).isEmpty))) H) x y H Q ∨ (fun x y H Q => rIn X.K true x y H Q ∨ nM x y H Q) x y H Q
theorem vK (hu : X.A.units + 1 < cLine) : OpR X (compareOp .In) (rInA X) := op_in_str.or (op_in_seq.or (uL hu))
theorem qC (hu : X.A.units + 1 < cLine) : OpR X (compareOp .NotIn) (nN X) := op_notIn_str.or (op_notIn_seq.or (oZ hu))
theorem uE : OpM X E (rInA X) inW :=by
  intro o x y vx vy Q R rx ry h
  unfold inW at h
  cases e : inB x y o.h with
  | none => rw [e] at h; exact h.elim
  | some b =>
    rw [e] at h
    have q : Q (.bl b) o.H := Ps.pr (c := cg X E) (r := Rv X.K) (a := W.bl b) h R (rv_bl.mpr rfl)
    rcases rn R rx ry e with ⟨i,j,e1,e2,rfl⟩ | ⟨p,xs,e1,e2,e3,e4,rfl⟩ | ⟨a,ov,e1,e2,rfl⟩
    · exact .inl ⟨i,j,e1,e2,q⟩
    · exact .inr (.inl ⟨p,xs,e1,e2,e3,e4,by rw [if_neg Bool.false_ne_true]; exact q⟩)
    · exact .inr (.inr ⟨a,ov,e1,e2,q⟩)
theorem oX : OpM X E (nN X) iV :=by
  intro o x y vx vy Q R rx ry h
  unfold iV at h
  cases e : inB x y o.h with
  | none => rw [e] at h; exact h.elim
  | some b =>
    rw [e] at h
    have q : Q (.bl (!b)) o.H := Ps.pr (c := cg X E) (r := Rv X.K) (a := W.bl (!b)) h R (rv_bl.mpr rfl)
    rcases rn R rx ry e with ⟨i,j,e1,e2,rfl⟩ | ⟨p,xs,e1,e2,e3,e4,rfl⟩ | ⟨a,ov,e1,e2,rfl⟩
    · exact .inl ⟨i,j,e1,e2,q⟩
    · exact .inr (.inl ⟨p,xs,e1,e2,e3,e4,by rw [if_pos rfl]; exact q⟩)
    · exact .inr (.inr ⟨a,ov,e1,e2,q⟩)
theorem Rvs.atI {K:PySem.W.Frag}{o:Wo}{l:List W}{vs : List V}{i:Int}{w:W} (h:Rvs K o l vs) (e:L2.atI l i = some w) : ∃ v,L2.atI vs i = some v ∧ Rv K o w v :=by
  unfold L2.atI at e ⊢
  rw [h.len]
  cases q : ixN l.length i with
  | none => rw [q] at e; cases e
  | some j => rw [q] at e; exact h.get e
noncomputable def ixO (x y : W) (h:List Ob) : Option W := match dicOf x h with
  | some (ks,ws) => match keyOf y with
    | some k => atK ks ws k
    | none => none
  | none => match y with
    | .int i => match x with
      | .str z => if z.length ≤ sizeLine then (atI z.cps.toList i).map fun c => .str ⟨#[c]⟩ else none
      | .tup l => atI l i
      | x => match lstOf x h with
        | .ok l _ => atI l i
        | _ => none
    | _ => none
noncomputable def ixW (x y : W) : M W := fun h => match ixO x y h with
  | some w => .ok w h
  | none => .bad
noncomputable def rIxD : R2 := fun x y H Q => ∃ a v,x = .ref a ∧ DGet H a y (some v) ∧ Q v H
theorem sV (hu : X.A.units + 1 < cLine) : IxR X rIxD :=by
  intro value slice pins s σ H x y v u Q I rx ry h hs
  obtain ⟨a,z,rfl,g,q⟩ := h
  cases rx
  exact tail_any (lW I g) PySem.F.slot_dict_getitem.lookup (pL hu I g ry fun w' s3 I3 rw' => ⟨z,H,I3,rw',q⟩) hs
theorem uD : OpM X E (fun x y H Q => rIx X.K x y H Q ∨ rIxD x y H Q) ixW :=by
  intro o x y vx vy Q R rx ry h
  unfold ixW at h
  cases e : ixO x y o.h with
  | none => rw [e] at h; exact h.elim
  | some w =>
    rw [e] at h
    have q : ∀ {v:V},Rv X.K o w v → Q v o.H := fun {v} hv => Ps.pr (c := cg X E) (r := Rv X.K) (a := w) h R hv
    unfold ixO at e
    split at e
    · rename_i ks ws hd
      split at e
      · rename_i k hk
        obtain ⟨a,kvs,rfl,h1,h2,h3⟩ := lX R hd rx
        have := fI (x := k) h2 h3
        rw [e] at this
        obtain ⟨v,hv,rv⟩ := this
        rw [gz hk ry]
        exact .inr ⟨a,v,rfl,.inl ⟨kvs,k,h1,rfl,hv.symm⟩,q rv⟩
      · cases e
    · split at e
      · split at e
        · split at e
          · rename_i hz
            obtain ⟨c,hc,rfl⟩ := Option.map_eq_some_iff.mp e
            exact .inl (.inr (.inr ⟨_,_,c,rv_str.mp rx,rv_int.mp ry,hz,hc,q (rv_str.mpr rfl)⟩))
          · cases e
        · unfold Rv at rx
          obtain ⟨a,vs,rfl,s,r⟩ := rx
          obtain ⟨v,hv,rv⟩ := r.atI e
          exact .inl (.inr (.inl ⟨a,vs,_,v,rfl,rv_int.mp ry,s,hv,q rv⟩))
        · split at e
          · rename_i l h' hl
            obtain ⟨rfl,a,vs,rfl,s,r⟩ := i5 R rx hl
            obtain ⟨v,hv,rv⟩ := r.atI e
            exact .inl (.inl ⟨a,vs,_,v,rfl,rv_int.mp ry,s,hv,q rv⟩)
          · cases e
      · cases e
theorem ar {a b : Expr}{pos : Pos}{fa fb : Env' → M W} (hu : X.A.units + 1 < cLine) (ha : JE X E a fa) (hb : JE X E b fb) (hs : iB b) : JE X E (.Subscript a b pos) (m2 ixW fa fb) :=
  (qw (ix_seq.or (sV hu)) ha.h hb.h hs).imp fun _ _ _ h => oO uD h
noncomputable def cutW {α : Type} (xs : List α) (lo hi : Option Int) : List α := (xs.drop (HT.sIx xs.length 0 lo)).take (HT.sIx xs.length xs.length hi - HT.sIx xs.length 0 lo)
theorem Rvs.cut {K:PySem.W.Frag}{o:Wo}{l:List W}{vs : List V} (h:Rvs K o l vs) (lo hi : Option Int) : Rvs K o (cutW l lo hi) (cutV vs lo hi) :=by
  unfold cutW cutV
  rw [h.len]
  exact (h.drop _).take _
noncomputable def ay : Env' → M (Option Int) := fun _ => pr none
noncomputable def mPart (f:Env' → M W) : Env' → M (Option Int) := fun ρ => bd (f ρ) fun w => match w with
  | .int i => pr (some i)
  | _ => no
noncomputable abbrev tP (c:Cg) (f:Env' → M (Option Int)) : TO := tG c (fun _ a b => a = b) f
structure JO (X:Cx) (E:XK) (e:Option Expr) (f:Env' → M (Option Int)) : Prop where
  h : PO X e (tP (cg X E) f)
theorem PO.imp {e:Option Expr}{t:TO}{f:Env' → M (Option Int)} (h:PO X e t) (k:∀ σ H Q,tP (cg X E) f σ H Q → t σ H Q) : JO X E e f := ⟨fun pins s σ H Q I q => h pins s σ H Q I (k σ H Q q)⟩
theorem cS : JO X E none ay := po_none.imp fun σ H Q h => by
  obtain ⟨o,ρ,rfl,R,S,h⟩ := h
  exact h.pr R rfl
theorem cR {e:Expr}{f:Env' → M W} (he : JE X E e f) : JO X E (some e) (mPart f) := (sn he.h).imp fun σ H Q h => by
  obtain ⟨o,ρ,rfl,R,S,h⟩ := h
  refine ⟨o,ρ,rfl,R,S,Ps.bd h fun p x vx e1 R1 r1 h1 => ?_⟩
  cases x with
  | int i => exact ⟨i,rv_int.mp r1,h1.pr R1 rfl⟩
  | _ => exact h1.elim
noncomputable def slW (x:W) (lo hi : Option Int) : M W := match x with
  | .str z => gd (z.length ≤ sizeLine) (pr (.str (StrLaws.sliceText z lo hi)))
  | .tup l => gd (¬ (HT.sIx l.length 0 lo = 0 ∧ HT.sIx l.length l.length hi = l.length)) (pr (.tup (cutW l lo hi)))
  | x => bd (lstOf x) fun l => pr (.tl (cutW l lo hi))
noncomputable def m3 (f:W → Option Int → Option Int → M W) (fa : Env' → M W) (fl fh : Env' → M (Option Int)) : Env' → M W := fun ρ => bd (fa ρ) fun x => bd (fl ρ) fun a => bd (fh ρ) fun b => f x a b
theorem fK {e:Expr}{lo hi : Option Expr}{p2 pos : Pos}{fa : Env' → M W}{fl fh : Env' → M (Option Int)} (he : JE X E e fa) (hl : JO X E lo fl) (hh : JO X E hi fh) :
    JE X E (.Subscript e (.Slice lo hi none p2) pos) (m3 slW fa fl fh) := (qt (sl_str.or (sl_tup.or r6)) he.h hl.h hh.h).imp fun σ H Q h => by
  obtain ⟨o,ρ,rfl,R,S,h⟩ := h
  refine ⟨o,ρ,rfl,R,S,Ps.bd h fun p x vx e1 R1 r1 h1 => ⟨p,ρ,rfl,R1,S.mono R e1,Ps.bd h1 fun q a va e2 R2 r2 h2 => ⟨q,ρ,rfl,R2,(S.mono R e1).mono R1 e2,Ps.bd h2 fun w b vb e3 R3 r3 h3 => ?_⟩⟩⟩
  subst r2 r3
  have rx := (r1.mono R1 e2).mono R2 e3
  unfold slW at h3
  split at h3
  · obtain ⟨hz,h3⟩ := h3.gd
    exact .inl ⟨_,rv_str.mp rx,hz,h3.pr R3 (rv_str.mpr rfl)⟩
  · obtain ⟨hz,h3⟩ := h3.gd
    unfold Rv at rx
    obtain ⟨a',vs,rfl,s,r⟩ := rx
    refine .inr (.inl ⟨a',vs,rfl,s,by rw [r.len]; exact hz,fun q' hq => io R3 hq (r.cut _ _) h3⟩)
  · obtain ⟨l,a',vs,rfl,s,r,h3⟩ := dU R3 rx h3
    exact .inr (.inr ⟨a',vs,rfl,s,fun q' hq => j2 R3 hq (r.cut _ _) h3⟩)
noncomputable def mCall (f:List W → M W) (l:Env' → M (List W)) : Env' → M W := fun ρ => bd (l ρ) f
noncomputable def CallM (X:Cx) (E:XK) (r:List V → Hp → VK → Prop) (f:List W → M W) : Prop := ∀ (o:Wo) (ws : List W) (vs : List V) (Q:VK),Rel X.K o → Rvs X.K o ws vs → Ps (cg X E) (Rv X.K) o (f ws o.h) Q → r vs o.H Q
variable {x:Str}{p pos : Pos}{e:Expr}{es : List Expr}{l:Env' → M (List W)}{f:List W → M W}{r:List V → Hp → VK → Prop}{id T : String}
theorem tL (hf : CallM X E r f) {σ : St}{H:Hp}{Q:VK} (h:tM (cg X E) (mCall f l) σ H Q) : tCB r (tA (cg X E) l) σ H Q :=by
  obtain ⟨o,ρ,rfl,R,S,h⟩ := h
  exact ⟨o,ρ,rfl,R,S,Ps.bd h fun p x vx e1 R1 r1 h1 => hf p x vx Q R1 r1 h1⟩
theorem gq (hc : CallR X (.builtin id) r) (hf : CallM X E r f) (hg : Gl X x) (hm : X.mg x = none) (hv : bootBuiltins x = some (.builtin id)) (ha : JA X E (e :: es) l) (hn : x ≠ "__name__" := by decide) (hdb : (x == ("__debug__" : Str)) = false :=by decide)
    (he : starEach (e :: es) X.env = (false,eval e X.env) :: starEach es X.env :=by rfl) (hpl : (backTo pos (starEach es X.env)).any (·.1) = false :=by rfl) : JE X E (.Call (.Name x p) (e :: es) [] pos) (mCall f l) :=
  (qB hc hg hm hv ha.h hn hdb he hpl).imp fun _ _ _ h => tL hf h
theorem jJ (hc : CallR X (.type T) r) (hf : CallM X E r f) (hg : Gl X x) (hm : X.mg x = none) (hv : bootBuiltins x = some (.type T)) (ha : JA X E (e :: es) l) (hn : x ≠ "__name__" := by decide) (hdb : (x == ("__debug__" : Str)) = false :=by decide)
    (he : starEach (e :: es) X.env = (false,eval e X.env) :: starEach es X.env :=by rfl) (hpl : (backTo pos (starEach es X.env)).any (·.1) = false :=by rfl) : JE X E (.Call (.Name x p) (e :: es) [] pos) (mCall f l) :=
  (jH hc hg hm hv ha.h hn hdb he hpl).imp fun _ _ _ h => tL hf h
variable {CX : CXT}{k:Nat}{fA : Addr}{fd : FuncData}{ps : List Str}
end
end L2
set_option maxHeartbeats 1000000
namespace L2
open PySem PySem.Spec PyProof.Rows
inductive Fl where
  | nx (r:Env') | bk (r:Env') | ct (r:Env') | rt (w:W)
inductive FlV where
  | nx (s:St) | bk (s:St) | ct (s:St) | rt (v:V)
noncomputable def RFl (K:PySem.W.Frag) (o:Wo) : Fl → FlV → Prop
  | .nx r,f => ∃ s,f = .nx s ∧ Re K o r s
  | .bk r,f => ∃ s,f = .bk s ∧ Re K o r s
  | .ct r,f => ∃ s,f = .ct s ∧ Re K o r s
  | .rt w,f => ∃ v,f = .rt v ∧ Rv K o w v
noncomputable def DQ (D:Ends) : FlV → Hp → Prop
  | .nx s,H => D.nx s H
  | .bk s,H => D.bk s H
  | .ct s,H => D.ct s H
  | .rt v,H => D.rt v H
noncomputable def tS (c:Cg) (g:Env' → M Fl) : TS := fun D σ H => tG c (RFl c.K) g σ H (DQ D)
structure JS (X:Cx) (E:XK) (e:Stmt) (f:Env' → M Fl) : Prop where
  h : PS X e (tS (cg X E) f)
structure JSs (X:Cx) (E:XK) (e:List Stmt) (f:Env' → M Fl) : Prop where
  h : PSs X e (tS (cg X E) f)
theorem PSs.imp {X:Cx}{E:XK}{e:List Stmt}{t:TS}{f:Env' → M Fl} (h:PSs X e t) (k:∀ D σ H,tS (cg X E) f D σ H → t D σ H) : JSs X E e f := ⟨fun pins s σ H D I q => h pins s σ H D I (k D σ H q)⟩
theorem PS.imp {X:Cx}{E:XK}{e:Stmt}{t:TS}{f:Env' → M Fl} (h:PS X e t) (k:∀ D σ H,tS (cg X E) f D σ H → t D σ H) : JS X E e f := ⟨fun pins s σ H D I q => h pins s σ H D I (k D σ H q)⟩
theorem aa {α β γ : Type} (a:M α) (b:α → M β) (d:β → M γ) : bd (bd a b) d = bd a fun x => bd (b x) d :=by
  funext h
  unfold bd
  cases a h <;> rfl
section
variable {X:Cx}{E:XK}{pos : Pos}
noncomputable def sNil : Env' → M Fl := fun ρ => pr (.nx ρ)
noncomputable def sSeq (f g : Env' → M Fl) : Env' → M Fl := fun ρ => bd (f ρ) fun x => match x with
  | .nx r => g r
  | x => pr x
theorem aJ : JSs X E [] sNil := pss_nil.imp fun D σ H h => by
  obtain ⟨o,ρ,rfl,R,S,h⟩ := h
  exact h.pr R ⟨σ,rfl,S⟩
theorem ua {f g : Env' → M Fl}{D:Ends}{σ : St}{H:Hp} (h:tS (cg X E) (sSeq f g) D σ H) : tSeq (tS (cg X E) f) (tS (cg X E) g) D σ H :=by
  obtain ⟨o,ρ,rfl,R,S,h⟩ := h
  refine ⟨o,ρ,rfl,R,S,Ps.bd h fun p x b e1 R1 r1 h1 => ?_⟩
  cases x with
  | nx r => obtain ⟨s,rfl,re⟩ := r1; exact ⟨p,r,rfl,R1,re,h1⟩
  | bk r => have q := h1.pr R1 r1; obtain ⟨s,rfl,re⟩ := r1; exact q
  | ct r => have q := h1.pr R1 r1; obtain ⟨s,rfl,re⟩ := r1; exact q
  | rt r => have q := h1.pr R1 r1; obtain ⟨s,rfl,re⟩ := r1; exact q
theorem ah {st : Stmt}{rest : List Stmt}{f g : Env' → M Fl} (h1 : JS X E st f) (h2 : JSs X E rest g) : JSs X E (st :: rest) (sSeq f g) := (qj h1.h h2.h).imp fun D σ H h => ua h
theorem ak {st : Stmt}{f:Env' → M Fl} (h1 : JS X E st f) : JSs X E [st] f := ⟨sj h1.h⟩
variable {e:Expr}{f:Env' → M W}
noncomputable def sSet (i:Nat) (f:Env' → M W) : Env' → M Fl := fun ρ => bd (f ρ) fun w => pr (.nx (ρ.set i (some w)))
theorem av {i:Nat}{x:Str}{pos' : Pos} (hN : X.N.Nodup) (hi : X.N[i]? = some x) (hx : Loc X.env.scope x) (he : JE X E e f) (hs : swapsWith e (some (.Name x pos')) pos.line X.env = pure false :=by rfl) (hf : X.fn x = true ∨ X.env.scope.names.lookup x = some .local :=by first | exact .inl rfl | exact .inr rfl | assumption) :
    JS X E (.Assign [.Name x pos'] e pos) (sSet i f) := (uq hN hi hx he.h hs hf).imp fun D σ H h => by
  obtain ⟨o,ρ,rfl,R,S,h⟩ := h
  exact ⟨o,ρ,rfl,R,S,Ps.bd h fun p x b e1 R1 r1 h1 => Ps.pr (b := FlV.nx (σ.set i (some b))) h1 R1 ⟨_,rfl,(S.mono R e1).set r1 i⟩⟩
noncomputable def sRet (f:Env' → M W) : Env' → M Fl := fun ρ => bd (f ρ) fun w => pr (.rt w)
theorem aB (he : JE X E e f) : JS X E (.Return (some e) pos) (sRet f) := (ur he.h).imp fun D σ H h => by
  obtain ⟨o,ρ,rfl,R,S,h⟩ := h
  exact ⟨o,ρ,rfl,R,S,Ps.bd h fun p x b e1 R1 r1 h1 => Ps.pr (b := FlV.rt b) h1 R1 ⟨_,rfl,r1⟩⟩
noncomputable def sEx (f:Env' → M W) : Env' → M Fl := fun ρ => bd (f ρ) fun _ => pr (.nx ρ)
theorem iq (he : JE X E e f) (hs : swapsWith e none pos.line X.env = pure false :=by rfl) : JS X E (.Expr e pos) (sEx f) := (sm he.h hs).imp fun D σ H h => by
  obtain ⟨o,ρ,rfl,R,S,h⟩ := h
  exact ⟨o,ρ,rfl,R,S,Ps.bd h fun p x b e1 R1 r1 h1 => Ps.pr (b := FlV.nx σ) h1 R1 ⟨_,rfl,S.mono R e1⟩⟩
noncomputable def sIf (t:Env' → M Bool) (f g : Env' → M Fl) : Env' → M Fl := fun ρ => bd (t ρ) fun b => if b = true then f ρ else g ρ
theorem bO {c:Expr}{a b : List Stmt}{t:Env' → M Bool}{f g : Env' → M Fl} (hc : JT X E c t) (ha : JSs X E a f) (hb : JSs X E b g) : JS X E (.If c a b pos) (sIf t f g) := (vH hc.h ha.h hb.h).imp fun D σ H h => by
  obtain ⟨o,ρ,rfl,R,S,h⟩ := h
  refine ⟨o,ρ,rfl,R,S,Ps.bd h fun p x vx e1 R1 r1 h1 => ?_⟩
  subst r1
  cases x with
  | true => exact iteT ⟨p,ρ,rfl,R1,S.mono R e1,h1⟩
  | false => exact iteF ⟨p,ρ,rfl,R1,S.mono R e1,h1⟩
noncomputable def sPass : Env' → M Fl := fun ρ => pr (.nx ρ)
noncomputable def br : Env' → M Fl := fun ρ => pr (.bk ρ)
noncomputable def sCont : Env' → M Fl := fun ρ => pr (.ct ρ)
noncomputable def p5 (t:Env' → M Bool) (g:Env' → M Fl) : Nat → Env' → M Fl
  | 0,_ => no
  | n + 1,ρ => bd (t ρ) fun b => if b = true then bd (g ρ) fun x => match x with
      | .nx r => p5 t g n r
      | .ct r => p5 t g n r
      | .bk r => pr (.nx r)
      | .rt w => pr (.rt w)
    else pr (.nx ρ)
structure TgOk (K:PySem.W.Frag) (m:Nat) (g:TG) (t:W → Env' → Option Env') : Prop where
  ok : ∀ (o:Wo) (w:W) (v:V) (ρ ρ2 : Env') (σ : St),Rv K o w v → Re K o ρ σ → t w ρ = some ρ2 → ∃ σ2,(∀ Q : St → Hp → Prop,Q σ2 o.H → g v σ o.H Q) ∧ Re K o ρ2 σ2 ∧ σ2.drop m = σ.drop m ∧ σ2.length = σ.length
noncomputable def tgN (i:Nat) : W → Env' → Option Env' := fun w ρ => some (ρ.set i (some w))
theorem aU {K:PySem.W.Frag} (m i : Nat) (h:i < m) : TgOk K m (gName i) (tgN i) := ⟨fun o w v ρ ρ2 σ rv re e => by
  cases e
  exact ⟨_,fun Q q => q,re.set rv i,by rw [List.drop_set_of_lt h],by rw [List.length_set]⟩⟩
noncomputable def gNs : List Nat → TGs
  | [] => gNil
  | i :: r => gCons (gName i) (gNs r)
noncomputable def setW : List Nat → List W → Env' → Option Env'
  | [],[],ρ => some ρ
  | i :: r,w :: l,ρ => setW r l (ρ.set i (some w))
  | _,_,_ => none
theorem tJ {K:PySem.W.Frag}{m:Nat}{o:Wo} : ∀ (is : List Nat) (l:List W) (vs : List V) (ρ ρ2 : Env') (σ : St),(∀ i ∈ is,i < m) → Rvs K o l vs → Re K o ρ σ → setW is l ρ = some ρ2 → ∃ σ2,(∀ Q : St → Hp → Prop,Q σ2 o.H → gNs is vs σ o.H Q) ∧ Re K o ρ2 σ2 ∧ σ2.drop m = σ.drop m ∧ σ2.length = σ.length
  | [],[],vs,ρ,ρ2,σ,_,rv,re,e => by
    unfold Rvs at rv
    cases e
    exact ⟨σ,fun Q q => ⟨rv,q⟩,re,rfl,rfl⟩
  | [],_ :: _,_,_,_,_,_,_,_,e => by cases e
  | _ :: _,[],_,_,_,_,_,_,_,e => by cases e
  | i :: is,w :: l,vs,ρ,ρ2,σ,hm,rv,re,e => by
    unfold Rvs at rv
    obtain ⟨v,r,rfl,h1,h2⟩ := rv
    obtain ⟨σ2,a,b,c,d⟩ := tJ is l r (ρ.set i (some w)) ρ2 (σ.set i (some v)) (fun j hj => hm j (List.mem_cons_of_mem _ hj)) h2 (re.set h1 i) e
    refine ⟨σ2,fun Q q => ⟨v,r,rfl,a Q q⟩,b,?_,?_⟩
    · rw [c,List.drop_set_of_lt (hm i List.mem_cons_self)]
    · rw [d,List.length_set]
noncomputable def tgT (is : List Nat) : W → Env' → Option Env' := fun w ρ => match w with
  | .tup l => setW is l ρ
  | _ => none
theorem kZ : ∀ {is : List Nat}{l:List W}{ρ ρ2 : Env'},setW is l ρ = some ρ2 → l.length = is.length
  | [],[],_,_,_ => rfl
  | [],_ :: _,_,_,e => by cases e
  | _ :: _,[],_,_,e => by cases e
  | _ :: is,_ :: l,_,_,e => by rw [List.length_cons,List.length_cons,kZ (is := is) (l := l) e]
theorem eR {K:PySem.W.Frag} (m:Nat) (is : List Nat) (h:∀ i ∈ is,i < m) : TgOk K m (gTup K is.length (gNs is)) (tgT is) := ⟨fun o w v ρ ρ2 σ rv re e => by
  cases w with
  | tup l =>
    unfold Rv at rv
    obtain ⟨a,vs,rfl,s,r⟩ := rv
    have e : setW is l ρ = some ρ2 := e
    obtain ⟨σ2,a1,a2,a3,a4⟩ := tJ is l vs ρ ρ2 σ h r re e
    exact ⟨σ2,fun Q q => ⟨a,vs,rfl,s,by rw [r.len,kZ e],a1 Q q⟩,a2,a3,a4⟩
  | _ => cases e⟩
open Classical in
noncomputable def gdh {α : Type} (G:List Ob → Prop) (m:M α) : M α := fun h => if G h then m h else .bad
theorem eA {α : Type}{G:List Ob → Prop}{m:M α}{h:List Ob} (q:G h) : gdh G m h = m h :=by unfold gdh; rw [if_pos q]
theorem Ps.gdh {α β : Type}{c:Cg}{r:Wo → α → β → Prop}{o:Wo}{G:List Ob → Prop}{m:M α}{Q:β → Hp → Prop} (h:Ps c r o (gdh G m o.h) Q) : G o.h ∧ Ps c r o (m o.h) Q :=by
  unfold L2.gdh at h
  by_cases q : G o.h
  · rw [if_pos q] at h; exact ⟨q,h⟩
  · rw [if_neg q] at h; exact h.elim
structure Sr where
  l : List W
  G : List Ob → Prop
structure SrcOk (K:PySem.W.Frag) (o0 : Wo) (J:It) (s:Sr) : Prop where
  stop : ∀ o,Ex o0 o → Rel K o → s.G o.h → J.stop s.l.length o.H
  go : ∀ o i w,Ex o0 o → Rel K o → s.G o.h → s.l[i]? = some w → J.go i o.H ∧ ∀ x H',J.yld i o.H x H' → ∃ p,p.H = H' ∧ p.h = o.h ∧ Ex o p ∧ Rel K p ∧ Rv K p w x
noncomputable def tI (c:Cg) (src : Env' → M Sr) : TI := fun σ H R => tG c (fun p s J => SrcOk c.K p J s) src σ H R
structure JI (X:Cx) (E:XK) (tg iter : Expr) (f:Env' → M Sr) : Prop where
  h : PI X tg iter (tI (cg X E) f)
theorem PI.imp {tg iter : Expr}{t:TI}{f:Env' → M Sr} (h:PI X tg iter t) (k:∀ σ H R,tI (cg X E) f σ H R → t σ H R) : JI X E tg iter f := ⟨fun pins s σ H R I q => h pins s σ H R I (k σ H R q)⟩
noncomputable def srcL (w:W) : M Sr := match w with
  | .tl l => pr ⟨l,fun _ => True⟩
  | .cl l => pr ⟨l,fun _ => True⟩
  | .loc k => fun h => match h[k]? with
    | some (.lst l) => .ok ⟨l,fun h => h[k]? = some (.lst l)⟩ h
    | _ => .bad
  | _ => no
noncomputable def mSrc (f:Env' → M W) (g:W → M Sr) : Env' → M Sr := fun ρ => bd (f ρ) g
theorem iL {K:PySem.W.Frag}{o0 : Wo}{a:Addr}{s:Sr} (h:∀ o,Ex o0 o → Rel K o → s.G o.h → ∃ vs,SqL K o.H a vs ∧ Rvs K o s.l vs) : SrcOk K o0 (Itl K a) s :=by
  refine ⟨fun o X R g => ?_,fun o i w X R g e => ?_⟩
  · obtain ⟨vs,s,r⟩ := h o X R g
    exact ⟨vs,s,Nat.le_of_eq r.len⟩
  · obtain ⟨vs,s,r⟩ := h o X R g
    obtain ⟨v,hv,rv⟩ := r.get e
    refine ⟨⟨vs,v,s,hv⟩,fun x H' y => ?_⟩
    obtain ⟨rfl,y⟩ := y
    have : x = v :=by have := y vs s; rw [hv] at this; exact (Option.some.inj this).symm
    subst this
    exact ⟨o,rfl,rfl,Ex.refl _,R,rv⟩
theorem fw {tg l : Expr}{fl : Env' → M W} (hl : JE X E l fl) : JI X E tg l (mSrc fl srcL) := (su hl.h).imp fun σ H Q h => by
  obtain ⟨o,ρ,rfl,R,S,h⟩ := h
  refine ⟨o,ρ,rfl,R,S,Ps.bd h fun p x vx e1 R1 r1 h1 => ?_⟩
  cases x with
  | tl l =>
    have r1' := r1
    unfold Rv at r1
    obtain ⟨a,vs,rfl,s,n,r⟩ := r1
    refine ⟨a,rfl,⟨vs,.of s⟩,h1.pr R1 (iL fun o X R g => ?_)⟩
    exact ⟨vs,.of (X.fr a _ s n).1,r.mono R1 X⟩
  | cl l =>
    unfold Rv at r1
    obtain ⟨a,vs,rfl,s,r⟩ := r1
    have sq : ∀ o,Ex p o → SqL X.K o.H a vs := fun o X => by
      rcases s with ⟨s,n⟩ | s
      · exact .inl (X.rd s n).1
      · exact .inr s
    exact ⟨a,rfl,⟨vs,sq p (Ex.refl _)⟩,h1.pr R1 (iL fun o X R g => ⟨vs,sq o X,r.mono R1 X⟩)⟩
  | loc k =>
    unfold Rv at r1
    obtain ⟨hk,rfl⟩ := r1
    unfold srcL at h1
    dsimp only at h1
    split at h1
    · rename_i l hl
      obtain ⟨vs,h3,h4⟩ := R1.ob k _ hl
      refine ⟨_,rfl,⟨vs,.of h3⟩,Ps.at (p := p) h1 rfl (Ex.refl _) R1 (iL fun o X R g => ?_)⟩
      obtain ⟨vs',h5,h6⟩ := R.ob k _ g
      rw [X.mu k hk] at h5
      exact ⟨vs',.of h5,h6⟩
    · exact h1.elim
  | _ => exact h1.elim
noncomputable def srcT (w:W) : M Sr := match w with
  | .tup l => pr ⟨l,fun _ => True⟩
  | _ => no
theorem qT {tg l : Expr}{fl : Env' → M W} (hl : JE X E l fl) : JI X E tg l (mSrc fl srcT) := (uv hl.h).imp fun σ H Q h => by
  obtain ⟨o,ρ,rfl,R,S,h⟩ := h
  refine ⟨o,ρ,rfl,R,S,Ps.bd h fun p x vx e1 R1 r1 h1 => ?_⟩
  cases x with
  | tup l =>
    unfold Rv at r1
    obtain ⟨a,vs,rfl,s,r⟩ := r1
    refine ⟨a,rfl,⟨vs,s⟩,h1.pr R1 ⟨fun o X R g => ⟨vs,X.rdT R1 s,Nat.le_of_eq r.len⟩,fun o i w X R g e => ?_⟩⟩
    obtain ⟨v,hv,rv⟩ := (r.mono R1 X).get e
    have sq := X.rdT R1 s
    refine ⟨⟨vs,v,sq,hv⟩,fun x H' y => ?_⟩
    obtain ⟨rfl,y⟩ := y
    have : x = v :=by have := y vs sq; rw [hv] at this; exact (Option.some.inj this).symm
    subst this
    exact ⟨o,rfl,rfl,Ex.refl _,R,rv⟩
  | _ => exact h1.elim
noncomputable def intsW (lo : Int) : Nat → List W
  | 0 => []
  | n + 1 => .int lo :: intsW (lo + 1) n
theorem aR : ∀ (n:Nat) (lo : Int),(intsW lo n).length = n
  | 0,_ => rfl
  | n + 1,lo => by rw [intsW,List.length_cons,aR n]
theorem bg : ∀ (n:Nat) (lo : Int) (i:Nat) (w:W),(intsW lo n)[i]? = some w → w = .int (lo + i) ∧ i < n
  | 0,_,_,_,h => by simp [intsW] at h
  | n + 1,lo,0,w,h => by rw [intsW] at h; cases h; exact ⟨by simp,Nat.succ_pos _⟩
  | n + 1,lo,i + 1,w,h => by
    rw [intsW,List.getElem?_cons_succ] at h
    obtain ⟨e,l⟩ := bg n (lo + 1) i w h
    exact ⟨by rw [e]; congr 1; omega,by omega⟩
theorem jD {K:PySem.W.Frag}{o0 : Wo}{lo : Int}{n:Nat} : SrcOk K o0 (Itr lo n) ⟨intsW lo n,fun _ => True⟩ :=by
  refine ⟨fun o X R g => ?_,fun o i w X R g e => ?_⟩
  · show n ≤ (intsW lo n).length
    rw [aR]; exact Nat.le_refl _
  · obtain ⟨rfl,hi⟩ := bg n lo i w e
    refine ⟨hi,fun x H' y => ?_⟩
    obtain ⟨rfl,rfl⟩ := y
    exact ⟨o,rfl,rfl,Ex.refl _,R,rv_int.mpr rfl⟩
noncomputable def rng1 (l:List W) : M Sr := match l with
  | [.int j] => gd (-(2 ^ 62) ≤ j ∧ j < 2 ^ 62) (pr ⟨intsW 0 j.toNat,fun _ => True⟩)
  | _ => no
noncomputable def rng2 (l:List W) : M Sr := match l with
  | [.int i,.int j] => gd (-(2 ^ 62) ≤ i ∧ i < 2 ^ 62 ∧ -(2 ^ 62) ≤ j ∧ j < 2 ^ 62) (pr ⟨intsW i (j - i).toNat,fun _ => True⟩)
  | _ => no
noncomputable def mSrcA (f:Env' → M (List W)) (g:List W → M Sr) : Env' → M Sr := fun ρ => bd (f ρ) g
theorem bJ {tg a : Expr}{p pos : Pos}{fl : Env' → M (List W)} (hg : Gl X "range") (hm : X.mg "range" = none) (ha : JA X E [a] fl) (hs : starEach [a] X.env = [(false,eval a X.env)] :=by rfl) : JI X E tg (.Call (.Name "range" p) [a] [] pos) (mSrcA fl rng1) :=
  (oU hg hm ha.h hs).imp fun σ H Q h => by
  obtain ⟨o,ρ,rfl,R,S,h⟩ := h
  refine ⟨o,ρ,rfl,R,S,Ps.bd h fun p x vx e1 R1 r1 h1 => ?_⟩
  unfold rng1 at h1
  split at h1
  · obtain ⟨hz,h1⟩ := h1.gd
    unfold Rvs Rvs at r1
    obtain ⟨v,r,rfl,a1,rfl⟩ := r1
    exact ⟨_,by rw [rv_int.mp a1],hz.1,hz.2,h1.pr R1 jD⟩
  · exact h1.elim
theorem pe {tg a b : Expr}{p pos : Pos}{fl : Env' → M (List W)} (hg : Gl X "range") (hm : X.mg "range" = none) (ha : JA X E [a,b] fl) (hs : starEach [a,b] X.env = [(false,eval a X.env),(false,eval b X.env)] :=by rfl) (hs2 : starEach [b] X.env = [(false,eval b X.env)] :=by rfl) :
    JI X E tg (.Call (.Name "range" p) [a,b] [] pos) (mSrcA fl rng2) := (oT hg hm ha.h hs hs2).imp fun σ H Q h => by
  obtain ⟨o,ρ,rfl,R,S,h⟩ := h
  refine ⟨o,ρ,rfl,R,S,Ps.bd h fun p x vx e1 R1 r1 h1 => ?_⟩
  unfold rng2 at h1
  split at h1
  · obtain ⟨hz,h1⟩ := h1.gd
    unfold Rvs Rvs Rvs at r1
    obtain ⟨v,r,rfl,a1,v',r',rfl,a2,rfl⟩ := r1
    exact ⟨_,_,by rw [rv_int.mp a1,rv_int.mp a2],hz,h1.pr R1 jD⟩
  · exact h1.elim
noncomputable def forM (G:List Ob → Prop) (t:W → Env' → Option Env') (g:Env' → M Fl) : List W → Env' → M Fl
  | [],ρ => gdh G (pr (.nx ρ))
  | w :: l,ρ => gdh G (match t w ρ with
    | none => no
    | some r => bd (g r) fun x => match x with
      | .nx r' => forM G t g l r'
      | .ct r' => forM G t g l r'
      | .bk r' => pr (.nx r')
      | .rt v => pr (.rt v))
noncomputable def sFor (src : Env' → M Sr) (t:W → Env' → Option Env') (g:Env' → M Fl) : Env' → M Fl := fun ρ => bd (src ρ) fun s => forM s.G t g s.l ρ
theorem cr {tg iter : Expr}{body : List Stmt}{src : Env' → M Sr}{t:W → Env' → Option Env'}{gT : TG}{g:Env' → M Fl}{m:Nat} (hp : PassesOwn (model X.prog X.w) X.A X.env X.xe) (hc : X.calm = true) (hi : JI X E tg iter src) (hg : PG X tg gT) (ht : TgOk X.K m gT t) (hb : JSs X E body g)
    (hs : ∀ x,foldedSetIterable iter X.env x = pure x :=by intro _; rfl) : JS X E (.For tg iter body [] pos) (sFor src t g) := (ut hp hc hi.h hg hb.h hs).imp fun D σ H h => by
  obtain ⟨o,ρ,rfl,R,S,h⟩ := h
  refine ⟨o,ρ,rfl,R,S,Ps.bd h fun o1 s J e1 R1 sk h1 => ?_⟩
  refine ⟨fun i n σ H => n = s.l.length - i ∧ i ≤ s.l.length ∧ ∃ o ρ,o.H = H ∧ Ex o1 o ∧ Rel X.K o ∧ Re X.K o ρ σ ∧ Ps (cg X E) (RFl X.K) o (forM s.G t g (s.l.drop i) ρ o.h) (DQ D),⟨_,rfl,Nat.zero_le _,o1,ρ,rfl,Ex.refl _,R1,S.mono R e1,h1⟩,?_⟩
  rintro i n σ H ⟨rfl,hi,o,ρ,rfl,X1,R,S,h⟩
  by_cases hlt : i < s.l.length
  · obtain ⟨w,hw⟩ : ∃ w,s.l[i]? = some w := ⟨_,List.getElem?_eq_getElem hlt⟩
    have hd : s.l.drop i = w :: s.l.drop (i + 1) :=by
      rw [List.drop_eq_getElem_cons hlt]
      rw [List.getElem?_eq_getElem hlt] at hw
      rw [Option.some.inj hw]
    rw [hd] at h
    unfold forM at h
    obtain ⟨hG,h⟩ := h.gdh
    obtain ⟨hgo,hy⟩ := sk.go o i w X1 R hG hw
    refine .inr ⟨hgo,fun σ' H' => ∃ o ρ,o.H = H' ∧ Ex o1 o ∧ Rel X.K o ∧ Re X.K o ρ σ' ∧ Ps (cg X E) (RFl X.K) o (forM s.G t g (s.l.drop (i + 1)) ρ o.h) (DQ D),fun σ' H' q => ⟨_,by omega,rfl,hlt,q⟩,fun x H' y => ?_⟩
    obtain ⟨p,rfl,eh,X2,R2,rv⟩ := hy x H' y
    cases et : t w ρ with
    | none => rw [et] at h; exact h.elim
    | some r =>
      rw [et] at h
      obtain ⟨σ2,k1,k2,_,_⟩ := ht.ok p w x ρ r σ rv (S.mono R X2) et
      refine k1 _ ?_
      have h2 : Ps (cg X E) (RFl X.K) p (bd (g r) (fun x => match x with
        | .nx r' => forM s.G t g (s.l.drop (i + 1)) r'
        | .ct r' => forM s.G t g (s.l.drop (i + 1)) r'
        | .bk r' => pr (.nx r')
        | .rt v => pr (.rt v)) p.h) (DQ D) :=by rw [eh]; exact h.after X2
      refine ⟨p,r,rfl,R2,k2,Ps.bd h2 fun q x b e3 R3 r3 h3 => ?_⟩
      cases x with
      | nx r => obtain ⟨s',rfl,re⟩ := r3; exact ⟨q,r,rfl,(X1.trans X2).trans e3,R3,re,h3⟩
      | ct r => obtain ⟨s',rfl,re⟩ := r3; exact ⟨q,r,rfl,(X1.trans X2).trans e3,R3,re,h3⟩
      | bk r => obtain ⟨s',rfl,re⟩ := r3; exact h3.pr R3 (b := .nx s') ⟨s',rfl,re⟩
      | rt w => obtain ⟨v,rfl,rv⟩ := r3; exact h3.pr R3 (b := .rt v) ⟨v,rfl,rv⟩
  · have e : i = s.l.length :=by omega
    subst e
    rw [List.drop_length] at h
    unfold forM at h
    obtain ⟨hG,h⟩ := h.gdh
    exact .inl ⟨sk.stop o X1 R hG,Ps.pr (b := FlV.nx σ) h R ⟨σ,rfl,S⟩⟩
end
end L2
set_option maxHeartbeats 1000000
namespace L2
open PySem PySem.Spec PyProof.Rows
section
variable {X:Cx}{E:XK}{pos : Pos}
theorem vq {l:Env' → M (List W)}{σ : St}{H:Hp}{Q:VK} (h:tM (cg X E) (mTl l) σ H Q) : tF (cg X E) l σ H Q :=by
  obtain ⟨o,ρ,rfl,R,S,h⟩ := h
  exact ⟨o,ρ,rfl,R,S,Ps.bd h fun p x vx e1 R1 r1 h1 => fun q hq => Ps.at (p := ⟨p.mu,p.h,upd p.H q (.lst vx)⟩) h1 rfl (Ex.new hq) (R1.new hq) (Rv.newL R1 hq r1)⟩
theorem t9 {i:Nat}{f:Env' → M W}{D:Ends}{σ : St}{H:Hp} (h:tS (cg X E) (sSet i f) D σ H) : tAsg (tM (cg X E) f) (gName i) D σ H :=by
  obtain ⟨o,ρ,rfl,R,S,h⟩ := h
  exact ⟨o,ρ,rfl,R,S,Ps.bd h fun p x b e1 R1 r1 h1 => Ps.pr (b := FlV.nx (σ.set i (some b))) h1 R1 ⟨_,rfl,(S.mono R e1).set r1 i⟩⟩
noncomputable def compM (G:List Ob → Prop) (t:W → Env' → Option Env') (f:Env' → M Bool) (e:Env' → M W) (n:Nat) : List W → Env' → M (List W)
  | [],ρ => gdh G (pr [])
  | w :: l,ρ => gdh G (match t w (List.replicate n none ++ ρ) with
    | none => no
    | some r => bd (f r) fun b => if b = true then bd (e r) fun x => bd (compM G t f e n l ρ) fun m => pr (x :: m) else compM G t f e n l ρ)
noncomputable def mComp (hs : List Nat) (src : Env' → M Sr) (t:W → Env' → Option Env') (f:Env' → M Bool) (e:Env' → M W) (n:Nat) : Env' → M (List W) := fun ρ =>
  gd ((hs.all fun i => (ρ[i]?.join).isNone) = true) (bd (src ρ) fun s => gd (s.l.length ≤ sizeLine) (compM s.G t f e n s.l ρ))
variable {elt iter tg : Expr}{ifs : List Expr}{scope : Scope}{ls : List Str}{gT : TG}{t:W → Env' → Option Env'}{f:Env' → M Bool}{e:Env' → M W}{src : Env' → M Sr}{hs : List Nat}{wh : Prop}
theorem nH (ht : TgOk X.K ls.length gT t) {σ : St}{H:Hp}{Q:VK} (h:tF (cg X E) (mComp hs src t f e ls.length) σ H Q) : tComp X.N ls (tI (cg X E) src) gT (tT (cg X E) f) (tM (cg X E) e) σ H Q :=by
  obtain ⟨o,ρ,rfl,R,S,h⟩ := h
  unfold mComp at h
  obtain ⟨h0,h⟩ := h.gd
  refine ⟨rfl,o,ρ,rfl,R,S,Ps.bd h fun o1 s J e1 R1 sk h1 => ?_⟩
  obtain ⟨hz,h1⟩ := h1.gd
  have S1 := S.mono R e1
  refine ⟨fun i n ys H => n = s.l.length - i ∧ i ≤ s.l.length ∧ ∃ o acc,o.H = H ∧ Ex o1 o ∧ Rel X.K o ∧ Rvs X.K o acc ys ∧ acc.length ≤ i ∧ Ps (cg X E) (Rvs X.K) o (bd (compM s.G t f e ls.length (s.l.drop i) ρ) (fun m => pr (acc ++ m)) o.h) (fun vs H1 => ∀ q,H1 q = none → Q (.ref q) (upd H1 q (.lst vs))),
    ⟨_,rfl,Nat.zero_le _,o1,[],rfl,Ex.refl _,R1,Rvs.nil,Nat.le_refl _,?_⟩,?_⟩
  · have : bd (compM s.G t f e ls.length (s.l.drop 0) ρ) (fun m => pr ([] ++ m)) = compM s.G t f e ls.length s.l ρ := by
      funext h
      rw [List.drop_zero]
      unfold bd
      cases compM s.G t f e ls.length s.l ρ h <;> rfl
    rw [this]; exact h1
  rintro i n ys H ⟨rfl,hi,o,acc,rfl,X1,R,A,ha,h⟩
  have S2 := S1.mono R1 X1
  have gs : ∀ {α β γ : Type}{r:Wo → β → γ → Prop}{m:M α}{k:α → M β}{Q' : γ → Hp → Prop},Ps (cg X E) r o (bd (gdh s.G m) k o.h) Q' → s.G o.h ∧ Ps (cg X E) r o (bd m k o.h) Q' := fun {α β γ r m k Q'} q => by
    have : bd (gdh s.G m) k o.h = gdh s.G (bd m k) o.h :=by
      unfold bd L2.gdh
      by_cases z : s.G o.h
      · simp only [if_pos z]
      · simp only [if_neg z]
    rw [this] at q
    exact q.gdh
  by_cases hlt : i < s.l.length
  · obtain ⟨w,hw⟩ : ∃ w,s.l[i]? = some w := ⟨_,List.getElem?_eq_getElem hlt⟩
    have hd : s.l.drop i = w :: s.l.drop (i + 1) :=by
      rw [List.drop_eq_getElem_cons hlt]
      rw [List.getElem?_eq_getElem hlt] at hw
      rw [Option.some.inj hw]
    rw [hd] at h
    unfold compM at h
    obtain ⟨hG,h⟩ := gs h
    obtain ⟨hgo,hy⟩ := sk.go o i w X1 R hG hw
    refine .inr ⟨hgo,fun ys' H' => ∃ o acc,o.H = H' ∧ Ex o1 o ∧ Rel X.K o ∧ Rvs X.K o acc ys' ∧ acc.length ≤ i + 1 ∧ Ps (cg X E) (Rvs X.K) o (bd (compM s.G t f e ls.length (s.l.drop (i + 1)) ρ) (fun m => pr (acc ++ m)) o.h) (fun vs H1 => ∀ q,H1 q = none → Q (.ref q) (upd H1 q (.lst vs))),fun ys' H' q => ⟨_,by omega,rfl,hlt,q⟩,fun x H' y => ?_⟩
    obtain ⟨p,rfl,eh,X2,R2,rv⟩ := hy x H' y
    cases et : t w (List.replicate ls.length none ++ ρ) with
    | none => rw [et] at h; exact h.elim
    | some r =>
      rw [et] at h
      obtain ⟨σ2,k1,k2,k3,k4⟩ := ht.ok p w x _ r (List.replicate ls.length none ++ σ) rv ((S2.mono R X2).front _) et
      refine k1 _ ⟨?_,?_,?_⟩
      · rw [k3,List.drop_left' (by rw [List.length_replicate])]
      · rw [k4,List.length_append,List.length_replicate]
      have h2 : Ps (cg X E) (Rvs X.K) p (bd (f r) (fun b => bd (if b = true then bd (e r) fun x => bd (compM s.G t f e ls.length (s.l.drop (i + 1)) ρ) fun m => pr (x :: m) else compM s.G t f e ls.length (s.l.drop (i + 1)) ρ) fun m => pr (acc ++ m)) p.h) (fun vs H1 => ∀ q,H1 q = none → Q (.ref q) (upd H1 q (.lst vs))) :=by
        rw [eh]
        rw [aa] at h
        exact h.after X2
      refine ⟨p,r,rfl,R2,k2,Ps.bd h2 fun q b vb e3 R3 r3 h3 => ?_⟩
      subst r3
      have A3 := (A.mono R X2).mono R2 e3
      cases b with
      | false =>
        exact iteF ⟨q,acc,rfl,(X1.trans X2).trans e3,R3,A3,by omega,h3⟩
      | true =>
        rw [if_pos rfl,aa] at h3
        refine iteT ⟨q,r,rfl,R3,k2.mono R2 e3,Ps.bd h3 fun q2 x vx e4 R4 r4 h4 => ⟨?_,q2,acc ++ [x],rfl,((X1.trans X2).trans e3).trans e4,R4,(A3.mono R3 e4).app (Rvs.cons r4 Rvs.nil),?_,?_⟩⟩
        · rw [(A3.mono R3 e4).len]; omega
        · rw [List.length_append,List.length_singleton]; omega
        · rw [aa] at h4
          have ee : (fun m => bd (pr (x :: m)) fun m => pr (acc ++ m)) = (fun m : List W => (pr (acc ++ [x] ++ m) : M (List W))) :=by
            funext m h
            show Rs.ok (acc ++ (x :: m)) h = Rs.ok (acc ++ [x] ++ m) h
            rw [List.append_assoc]; rfl
          rw [ee] at h4
          exact h4
  · have ei : i = s.l.length :=by omega
    subst ei
    rw [List.drop_length] at h
    unfold compM at h
    obtain ⟨hG,h⟩ := gs h
    have h : Ps (cg X E) (Rvs X.K) o (pr (acc ++ []) o.h) (fun vs H1 => ∀ q,H1 q = none → Q (.ref q) (upd H1 q (.lst vs))) := h
    rw [List.append_nil] at h
    exact .inl ⟨sk.stop o X1 R hG,h.pr R A⟩
structure JQ (X:Cx) (E:XK) (ifs : List Expr) (f:Env' → M Bool) : Prop where
  h : PIfs X ifs (tT (cg X E) f)
noncomputable def mYes : Env' → M Bool := fun _ => pr true
theorem df : JQ X E [] mYes := ⟨fun pins s σ H Q I h => sr pins s σ H Q I (by
  obtain ⟨o,ρ,rfl,R,S,h⟩ := h
  exact Ps.pr (b := true) h R rfl)⟩
theorem kr {c:Expr} (h:JT X E c f) : JQ X E [c] f := ⟨so h.h⟩
theorem dg (hcalm : X.calm = true) (S:CScope X ls scope) (hi : JI X E tg iter src) (hg : ∀ C s2 H2 fp,PG (cxC X ls scope C s2 H2 fp) tg gT) (ht : TgOk X.K ls.length gT t)
    (hf : ∀ C s2 H2 fp,JQ (cxC X ls scope C s2 H2 fp) E ifs f) (he : ∀ C s2 H2 fp,JE (cxC X ls scope C s2 H2 fp) E elt e) (hh : wh)
    (hs' : ∀ x,foldedSetIterable iter X.env x = pure x :=by intro _; rfl) : JF X E (.ListComp elt [⟨tg,iter,ifs,0⟩] scope pos) (mComp hs src t f e ls.length) :=
  (sy hcalm S hi.h hg (fun C s2 H2 fp => (hf C s2 H2 fp).h) (fun C s2 H2 fp => (he C s2 H2 fp).h) hs').impF fun σ H Q h => nH ht h
theorem iX {i:Nat}{x:Str}{px spos : Pos} (hN : X.N.Nodup) (hx1 : X.N[i]? = some x) (hx : X.env.scope.names.lookup x = some .local) (hcalm : X.calm = true) (S:CScope X ls scope) (hi : JI X E tg iter src) (hg : ∀ C s2 H2 fp,PG (cxC X ls scope C s2 H2 fp) tg gT) (ht : TgOk X.K ls.length gT t)
    (hf : ∀ C s2 H2 fp,JQ (cxC X ls scope C s2 H2 fp) E ifs f) (he : ∀ C s2 H2 fp,JE (cxC X ls scope C s2 H2 fp) E elt e) (hh : wh)
    (hsw : swapsWith (.ListComp elt [⟨tg,iter,ifs,0⟩] scope pos) (some (.Name x px)) spos.line X.env = pure true :=by rfl)
    (hs' : ∀ x,foldedSetIterable iter X.env x = pure x :=by intro _; rfl) : JS X E (.Assign [.Name x px] (.ListComp elt [⟨tg,iter,ifs,0⟩] scope pos) spos) (sSet i (mTl (mComp hs src t f e ls.length))) :=
  (mw hN hx1 hx hcalm S hi.h hg (fun C s2 H2 fp => (hf C s2 H2 fp).h) (fun C s2 H2 fp => (he C s2 H2 fp).h) hsw hs').imp fun D σ H h => nH ht (vq (t9 h))
end
end L2
set_option maxHeartbeats 1000000
namespace L2
open PySem PySem.Spec PyProof.Rows
section
variable {X:Cx}{E:XK}{pos p : Pos}{a b : Expr}{l:Env' → M (List W)}
theorem Rvs.one {K:PySem.W.Frag}{o:Wo}{w:W}{vs : List V} (h:Rvs K o [w] vs) : ∃ v,vs = [v] ∧ Rv K o w v :=by
  unfold Rvs Rvs at h; obtain ⟨v,r,rfl,h1,rfl⟩ := h; exact ⟨v,rfl,h1⟩
theorem Rvs.two {K:PySem.W.Frag}{o:Wo}{w x : W}{vs : List V} (h:Rvs K o [w,x] vs) : ∃ v u,vs = [v,u] ∧ Rv K o w v ∧ Rv K o x u :=by
  unfold Rvs Rvs Rvs at h; obtain ⟨v,r,rfl,h1,u,r2,rfl,h2,rfl⟩ := h; exact ⟨v,u,rfl,h1,h2⟩
noncomputable def lenW (ws : List W) : M W := match ws with
  | [.str z] => gd (z.length ≤ sizeLine) (pr (.int z.length))
  | [.tup l] => pr (.int l.length)
  | [w] => bd (lstOf w) fun l => pr (.int l.length)
  | _ => no
theorem vh : CallM X E (fun xs H Q => (fun xs H Q => ∃ z,xs = [.str z] ∧ z.length ≤ sizeLine ∧ Q (.int z.length) H) xs H Q ∨ (fun xs H Q => ∃ p ys,xs = [.ref p] ∧ (SqL X.K H p ys ∨ SqT X.K H p ys) ∧ Q (.int ys.length) H) xs H Q) lenW :=by
  intro o ws vs Q R rv h
  unfold lenW at h
  split at h
  · obtain ⟨v,rfl,r⟩ := rv.one
    obtain ⟨hz,h⟩ := h.gd
    exact .inl ⟨_,by rw [rv_str.mp r],hz,h.pr R (rv_int.mpr rfl)⟩
  · obtain ⟨v,rfl,r⟩ := rv.one
    unfold Rv at r
    obtain ⟨a,us,rfl,s,r⟩ := r
    exact .inr ⟨a,us,rfl,.inr s,by rw [r.len]; exact h.pr R (rv_int.mpr rfl)⟩
  · obtain ⟨v,rfl,r⟩ := rv.one
    obtain ⟨l,a,us,rfl,s,r,h⟩ := dU R r h
    exact .inr ⟨a,us,rfl,.inl s,by rw [r.len]; exact h.pr R (rv_int.mpr rfl)⟩
  · exact h.elim
theorem iZ (hm : X.mg "len" = none) (ha : JA X E [a] l) (hg : Gl X "len" := by rfl) (he : starEach [a] X.env = (false,eval a X.env) :: starEach [] X.env :=by rfl) (hpl : (backTo pos (starEach [] X.env)).any (·.1) = false :=by rfl) : JE X E (.Call (.Name "len" p) [a] [] pos) (mCall lenW l) :=
  gq (call_len_str.or kQ) vh hg hm PySem.boot_len ha (he := he) (hpl := hpl)
noncomputable def intW (ws : List W) : M W := match ws with
  | [.int i] => pr (.int i)
  | [.bl k] => pr (.int (if k then 1 else 0))
  | [.str z] => match PySem.intText? z with
    | some n => gd (z.length ≤ 640) (pr (.int n))
    | none => no
  | _ => no
theorem vj : CallM X E (fun xs H Q => ((∃ i,xs = [.int i] ∧ Q (.int i) H) ∨ ∃ k,xs = [.bl k] ∧ Q (.int (if k then 1 else 0)) H) ∨ (fun xs H Q => ∃ (z:Str) (n:Int),xs = [.str z] ∧ PySem.intText? z = some n ∧ z.length ≤ 640 ∧ Q (.int n) H) xs H Q) intW :=by
  intro o ws vs Q R rv h
  unfold intW at h
  split at h
  · obtain ⟨v,rfl,r⟩ := rv.one
    exact .inl (.inl ⟨_,by rw [rv_int.mp r],h.pr R (rv_int.mpr rfl)⟩)
  · obtain ⟨v,rfl,r⟩ := rv.one
    exact .inl (.inr ⟨_,by rw [rv_bl.mp r],h.pr R (rv_int.mpr rfl)⟩)
  · obtain ⟨v,rfl,r⟩ := rv.one
    rename_i z
    cases hn : PySem.intText? z with
    | some n =>
      rw [hn] at h
      obtain ⟨hz,h⟩ := h.gd
      exact .inr ⟨_,n,by rw [rv_str.mp r],hn,hz,h.pr R (rv_int.mpr rfl)⟩
    | none => rw [hn] at h; exact h.elim
  · exact h.elim
theorem gm (hm : X.mg "int" = none) (ha : JA X E [a] l) (hg : Gl X "int" := by rfl) (he : starEach [a] X.env = (false,eval a X.env) :: starEach [] X.env :=by rfl) (hpl : (backTo pos (starEach [] X.env)).any (·.1) = false :=by rfl) : JE X E (.Call (.Name "int" p) [a] [] pos) (mCall intW l) :=
  jJ (call_int1.or kR) vj hg hm PyProof.Rows.boot_int ha (he := he) (hpl := hpl)
noncomputable def absW (ws : List W) : M W := match ws with
  | [.int i] => pr (.int (if i < 0 then -i else i))
  | _ => no
noncomputable def maxW (ws : List W) : M W := match ws with
  | [.int i,.int j] => pr (.int (if j > i then j else i))
  | _ => no
theorem uZ (hc : X.calm = true) (hm : X.mg "max" = none) (ha : JA X E [a,b] l) (hg : Gl X "max" := by rfl) (he : starEach [a,b] X.env = (false,eval a X.env) :: starEach [b] X.env :=by rfl) (hpl : (backTo pos (starEach [b] X.env)).any (·.1) = false :=by rfl) : JE X E (.Call (.Name "max" p) [a,b] [] pos) (mCall maxW l) :=
  gq (pQ hc) (fun o ws vs Q R rv h => by
    unfold maxW at h
    split at h
    · obtain ⟨v,u,rfl,r1,r2⟩ := rv.two
      exact ⟨_,_,by rw [rv_int.mp r1,rv_int.mp r2],h.pr R (rv_int.mpr rfl)⟩
    · exact h.elim) hg hm PyProof.Rows.boot_max ha (he := he) (hpl := hpl)
noncomputable def iOf : W → Option Int
  | .int i => some i
  | _ => none
theorem fk {K:PySem.W.Frag}{o:Wo}{α : Type}{f:W → Option α}{g:α → V} (hf : ∀ w a v,f w = some a → Rv K o w v → v = g a) : ∀ {l:List W}{xs : List α}{vs : List V},optL f l = some xs → Rvs K o l vs → vs = xs.map g
  | [],xs,vs,e,h => by unfold Rvs at h; cases e; exact h
  | w :: l,xs,vs,e,h => by
    unfold Rvs at h
    obtain ⟨v,r,rfl,h1,h2⟩ := h
    unfold optL at e
    split at e
    · rename_i d ds e1 e2
      cases e
      rw [hf w d v e1 h1,fk hf e2 h2]; rfl
    · cases e
theorem i9 {K:PySem.W.Frag}{o:Wo} : ∀ (w:W) (a:Int) (v:V),iOf w = some a → Rv K o w v → v = .int a := fun w a v e h => by
  cases w <;> first | (cases e; exact rv_int.mp h) | cases e
noncomputable def sumW (ws : List W) : M W := match ws with
  | [w] => bd (lstOf w) fun l => match optL iOf l with
    | some ns => pr (.int ns.sum)
    | none => no
  | _ => no
theorem mT (hc : X.calm = true) (hm : X.mg "sum" = none) (ha : JA X E [a] l) (hg : Gl X "sum" := by rfl) (he : starEach [a] X.env = (false,eval a X.env) :: starEach [] X.env :=by rfl) (hpl : (backTo pos (starEach [] X.env)).any (·.1) = false :=by rfl) : JE X E (.Call (.Name "sum" p) [a] [] pos) (mCall sumW l) :=
  gq (rO hc) (fun o ws vs Q R rv h => by
    unfold sumW at h
    split at h
    · obtain ⟨v,rfl,r⟩ := rv.one
      obtain ⟨l,a,us,rfl,s,r,h⟩ := dU R r h
      cases e : optL iOf l with
      | none => rw [e] at h; exact h.elim
      | some ns =>
        rw [e] at h
        rw [fk i9 e r] at s
        exact ⟨a,ns,rfl,s,h.pr R (rv_int.mpr rfl)⟩
    · exact h.elim) hg hm PyProof.Rows.boot_sum ha (he := he) (hpl := hpl)
noncomputable def iJ (ws : List W) : M W := match ws with
  | [.tup l] => pr (.tup l)
  | [w] => bd (lstOf w) fun l => pr (.tup l)
  | _ => no
theorem lK (hm : X.mg "tuple" = none) (ha : JA X E [a] l) (hg : Gl X "tuple" := by rfl) (he : starEach [a] X.env = (false,eval a X.env) :: starEach [] X.env :=by rfl) (hpl : (backTo pos (starEach [] X.env)).any (·.1) = false :=by rfl) : JE X E (.Call (.Name "tuple" p) [a] [] pos) (mCall iJ l) :=
  jJ jy (fun o ws vs Q R rv h => by
    unfold iJ at h
    split at h
    · obtain ⟨v,rfl,r⟩ := rv.one
      have r0 := r
      unfold Rv at r
      obtain ⟨a,us,rfl,s,r⟩ := r
      exact ⟨a,us,rfl,.inr ⟨s,h.pr R r0⟩⟩
    · obtain ⟨v,rfl,r⟩ := rv.one
      obtain ⟨l,a,us,rfl,s,r,h⟩ := dU R r h
      exact ⟨a,us,rfl,.inl ⟨s,fun q hq => io R hq r h⟩⟩
    · exact h.elim) hg hm PyProof.Rows.boot_tuple ha (he := he) (hpl := hpl)
noncomputable def listL (l:Env' → M (List W)) : Env' → M (List W) := fun ρ => bd (l ρ) fun ws => match ws with
  | [.tup l] => pr l
  | [w] => lstOf w
  | _ => no
theorem rf {o:Wo}{w:W}{v:V}{Q:List V → Hp → Prop} (R:Rel X.K o) (hr : Rv X.K o w v) (h:Ps (cg X E) (Rvs X.K) o (lstOf w o.h) Q) : ∃ l a vs,v = .ref a ∧ SqL X.K o.H a vs ∧ Rvs X.K o l vs ∧ Q vs o.H :=by
  have e : lstOf w = bd (lstOf w) fun l => pr l :=by
    funext h
    unfold bd
    cases lstOf w h <;> rfl
  rw [e] at h
  obtain ⟨l,a,vs,e1,e2,e3,h⟩ := dU R hr h
  exact ⟨l,a,vs,e1,e2,e3,h.pr R e3⟩
theorem gg (hm : X.mg "list" = none) (ha : JA X E [a] l) (hg : Gl X "list" := by rfl) (he : starEach [a] X.env = (false,eval a X.env) :: starEach [] X.env :=by rfl) (hpl : (backTo pos (starEach [] X.env)).any (·.1) = false :=by rfl) : JF X E (.Call (.Name "list" p) [a] [] pos) (listL l) :=
  (jH kP hg hm PyProof.Rows.boot_list ha.h (he := he) (hpl := hpl)).impF fun σ H Q h => by
    obtain ⟨o,ρ,rfl,R,S,h⟩ := h
    refine ⟨o,ρ,rfl,R,S,Ps.bd h fun p x vx e1 R1 r1 h1 => ?_⟩
    split at h1
    · obtain ⟨v,rfl,r⟩ := r1.one
      unfold Rv at r
      obtain ⟨a,us,rfl,s,r⟩ := r
      exact ⟨a,us,rfl,.inr s,h1.pr R1 r⟩
    · obtain ⟨v,rfl,r⟩ := r1.one
      obtain ⟨l,a,us,rfl,s,r,q⟩ := rf R1 r h1
      exact ⟨a,us,rfl,.inl s,q⟩
    · exact h1.elim
noncomputable def isS (w:W) : M W := match w with
  | .str z => pr (.str z)
  | _ => no
noncomputable def mMeth (chk : W → M W) (f:W → List W → M W) (fo : Env' → M W) (l:Env' → M (List W)) : Env' → M W := fun ρ => bd (fo ρ) fun x => bd (chk x) fun x => bd (l ρ) fun ws => f x ws
variable {o e : Expr}{es : List Expr}{apos cpos : Pos}{fo : Env' → M W}
noncomputable def isL (w:W) : M W := match w with
  | .loc k => fun h => match h[k]? with
    | some (.lst _) => .ok (.loc k) h
    | _ => .bad
  | _ => no
theorem rl {α β : Type}{r:Wo → α → β → Prop}{o:Wo}{w:W}{v:V}{k:W → M α}{Q:β → Hp → Prop} (R:Rel X.K o) (hr : Rv X.K o w v) (h:Ps (cg X E) r o (bd (isL w) k o.h) Q) :
    ∃ j l vs,w = .loc j ∧ o.h[j]? = some (.lst l) ∧ v = .ref (o.mu j) ∧ j < o.h.length ∧ o.H (o.mu j) = some (.lst vs) ∧ Rvs X.K o l vs ∧ Ps (cg X E) r o (k (.loc j) o.h) Q :=by
  cases w with
  | loc j =>
    unfold Rv at hr
    unfold isL bd at h
    cases e : o.h[j]? with
    | none => simp only [e] at h; exact h.elim
    | some b =>
      cases b with
      | lst l =>
        simp only [e] at h
        obtain ⟨vs,h1,h2⟩ := R.ob j _ e
        exact ⟨j,l,vs,rfl,e,hr.2,hr.1,h1,h2,h⟩
      | _ => simp only [e] at h; exact h.elim
  | _ => exact h.elim
noncomputable def dm (x:W) (ws : List W) : M W := match x,ws with
  | .loc k,[w] => fun h => match h[k]? with
    | some (.lst l) => if l.length < sizeLine then .ok .non (h.set k (.lst (l ++ [w]))) else .bad
    | _ => .bad
  | _,_ => no
theorem gU (ho : JE X E o fo) (ha : JA X E [e] l) (hbase : attributeBase o "append" X.env (eval o X.env) = eval o X.env :=by rfl)
    (hfew : ((backTo cpos (starEach [e] X.env)).all (fun x => !x.1) && (backToKw cpos (keywordEach [] X.env)).all (fun x => x.1.isSome) && decide (([e] : List Expr).length + ([] : List Keyword).length + (if ([] : List Keyword).isEmpty then 0 else 1) < 30)) = true :=by rfl)
    (hline : (apos.endLine == cpos.line) = true :=by rfl) (hs : starEach [e] X.env = (false,eval e X.env) :: starEach [] X.env :=by rfl) (hplain : (backTo cpos (starEach [] X.env)).any (·.1) = false :=by rfl) :
    JE X E (.Call (.Attribute o "append" apos) [e] [] cpos) (mMeth isL dm fo l) :=
  (tO PySem.F.plainAttrs_list PySem.F.slot_list_append PySem.F.type_list_append o9 ho.h ha.h hbase hfew hline hs hplain).imp fun σ H Q h => by
    obtain ⟨w,ρ,rfl,R,S,h⟩ := h
    refine ⟨w,ρ,rfl,R,S,Ps.bd h fun p x vx e1 R1 r1 h1 => ?_⟩
    obtain ⟨j,l0,vs0,rfl,hj,rfl,hlt,hH,hl0,h1⟩ := rl R1 r1 h1
    refine ⟨.inl ⟨rfl,vs0,.of hH⟩,p,ρ,rfl,R1,S.mono R e1,Ps.bd h1 fun q ws vs e2 R2 r2 h2 => ?_⟩
    rcases ws with _ | ⟨w',_ | ⟨_,_⟩⟩
    · exact h2.elim
    · unfold dm at h2
      cases e : q.h[j]? with
      | none => simp only [e] at h2; exact h2.elim
      | some b =>
        cases b with
        | lst l' =>
          simp only [e] at h2
          obtain ⟨v,rfl,r⟩ := r2.one
          obtain ⟨us,k1,k2⟩ := R2.ob j _ e
          by_cases z : l'.length < sizeLine
          · rw [if_pos z] at h2
            rw [e2.mu j hlt] at k1
            refine ⟨p.mu j,us,v,rfl,rfl,k1,by rw [k2.len]; exact z,?_⟩
            have := Ps.at (p := q.put j (.lst (l' ++ [w'])) (.lst (us ++ [v]))) (b := V.non) h2 rfl (Ex.put e (by simp)) (R2.putL e (by simp) (k2.app (Rvs.cons r Rvs.nil))) (rv_non.mpr rfl)
            have em : q.mu j = p.mu j := e2.mu j hlt
            have ew : (q.put j (.lst (l' ++ [w'])) (.lst (us ++ [v]))).H = upd q.H (p.mu j) (.lst (us ++ [v])) :=by
              show upd q.H (q.mu j) _ = _
              rw [em]
            rw [ew] at this
            exact this
          · rw [if_neg z] at h2; exact h2.elim
        | _ => simp only [e] at h2; exact h2.elim
    · exact h2.elim
noncomputable def iceW (w:W) : M W := match w with
  | .loc k => fun h => match h[k]? with
    | some (.lst l) => .ok (.tl l) (h.set k .gone)
    | some (.dic ks ws) => .ok (.dv ks ws) (h.set k .gone)
    | _ => .bad
  | w => pr w
theorem uc {f:Env' → M W}{σ : St}{H:Hp}{Q:VK} (h:tM (cg X E) (m1 iceW f) σ H Q) : tM (cg X E) f σ H Q :=by
  obtain ⟨o,ρ,rfl,R,S,h⟩ := h
  refine ⟨o,ρ,rfl,R,S,Ps.bd h fun p x vx e1 R1 r1 h1 => ?_⟩
  cases x with
  | loc k =>
    unfold Rv at r1
    obtain ⟨_,rfl⟩ := r1
    unfold iceW at h1
    dsimp only at h1
    split at h1
    · rename_i l hl
      exact Ps.at (p := p.ice k) h1 rfl Ex.ice R1.ice (Rv.iceL R1 hl)
    · rename_i ks ws hl
      exact Ps.at (p := p.ice k) h1 rfl Ex.ice R1.ice (Rv.iceD R1 hl)
    · exact h1.elim
  | _ => exact Ps.pr (c := cg X E) h1 R1 r1
theorem mW {f:Env' → M W}{e:Expr} (h:JE X E e f) : JE X E e (m1 iceW f) := h.h.imp fun _ _ _ q => uc q
noncomputable def mapAt {κ : Type} [DecidableEq κ] : List κ → List W → κ → W → List W
  | k :: ks,w :: ws,x,y => (if k = x then y else w) :: mapAt ks ws x y
  | _,_,_,_ => []
noncomputable def putW {κ : Type} [DecidableEq κ] (ks : List κ) (ws : List W) (x:κ) (y:W) : List κ × List W := if (ks.any fun k => decide (k = x)) = true then (ks,mapAt ks ws x y) else (ks ++ [x],ws ++ [y])
noncomputable def gJ (x i v : W) : M Unit := match x with
  | .loc k => fun h => match h[k]? with
    | some (.lst l) => match i with
      | .int n => match ixN l.length n with
        | some j => .ok () (h.set k (.lst (l.set j v)))
        | none => .bad
      | _ => .bad
    | some (.dic ks ws) => match keyOf i with
      | some q => if ks.length < sizeLine then .ok () (h.set k (.dic (putW ks ws q v).1 (putW ks ws q v).2)) else .bad
      | none => .bad
    | some (.dit ks ws) => match i with
      | .kt q => if ks.length < sizeLine then .ok () (h.set k (.dit (putW ks ws q v).1 (putW ks ws q v).2)) else .bad
      | _ => .bad
    | _ => .bad
  | _ => no
noncomputable def rSetD : TSet := fun o i v H Q => ∃ a H',o = .ref a ∧ DPut H a i v H' ∧ Q H'
theorem qh (hu : X.A.units + 1 < cLine) : PSet X rSetD :=by
  intro pins s σ H o i v ov iv u Q I ro ri rv h
  obtain ⟨a,H',rfl,g,q⟩ := h
  cases ro
  exact pK hu I g ri rv fun s4 I4 => ⟨H',I4,q⟩
theorem PSet.or {t t' : TSet} (h:PSet X t) (h' : PSet X t') : PSet X (fun o i v H Q => t o i v H Q ∨ t' o i v H Q) :=by
  intro pins s σ H o i v ov iv u Q I ro ri rv q
  rcases q with q | q
  · exact h pins s σ H o i v ov iv u Q I ro ri rv q
  · exact h' pins s σ H o i v ov iv u Q I ro ri rv q
theorem lM {κ : Type} [DecidableEq κ] {K:PySem.W.Frag}{o:Wo}{x:κ}{y:W}{v:V} (hy : Rv K o y v) : ∀ {ks : List κ}{ws : List W}{kvs : List (κ × V)},kvs.map (·.1) = ks → Rvs K o ws (kvs.map (·.2)) → Rvs K o (mapAt ks ws x y) ((kvs.map fun kv => if kv.1 = x then (kv.1,v) else kv).map (·.2))
  | _,ws,[],e,h => by subst e; unfold mapAt; exact Rvs.nil
  | _,ws,(k,u) :: r,e,h => by
    subst e
    cases ws with
    | nil => unfold Rvs at h; cases h
    | cons w ws =>
      unfold Rvs at h
      obtain ⟨u',r',e',h1,h2⟩ := h
      cases e'
      have ih := lM (x := x) hy (ks := r.map (·.1)) (ws := ws) (kvs := r) rfl h2
      show Rvs K o ((if k = x then y else w) :: mapAt (r.map (·.1)) ws x y) ((if k = x then (k,v) else (k,u)).2 :: _)
      by_cases z : k = x
      · rw [if_pos z,if_pos z]; exact Rvs.cons hy ih
      · rw [if_neg z,if_neg z]; exact Rvs.cons h1 ih
theorem j1 {κ : Type} [DecidableEq κ] {K:PySem.W.Frag}{o:Wo}{x:κ}{y:W}{v:V}{ks : List κ}{ws : List W}{kvs : List (κ × V)} (hy : Rv K o y v) (hk : kvs.map (·.1) = ks) (h:Rvs K o ws (kvs.map (·.2))) :
    (putK kvs x v).map (·.1) = (putW ks ws x y).1 ∧ Rvs K o (putW ks ws x y).2 ((putK kvs x v).map (·.2)) :=by
  subst hk
  have ea : ((kvs.map (·.1)).any fun k => decide (k = x)) = (kvs.any fun kv => decide (kv.1 = x)) :=by rw [List.any_map]; rfl
  unfold putK putW
  rw [ea]
  by_cases z : (kvs.any fun kv => decide (kv.1 = x)) = true
  · rw [if_pos z,if_pos z]
    refine ⟨?_,lM hy rfl h⟩
    rw [List.map_map]
    refine List.map_congr_left fun kv _ => ?_
    show (if kv.1 = x then (kv.1,v) else kv).1 = kv.1
    split <;> rfl
  · rw [if_neg z,if_neg z]
    refine ⟨by simp,?_⟩
    show Rvs K o (ws ++ [y]) ((kvs ++ [(x,v)]).map (·.2))
    rw [List.map_append]
    exact h.app (Rvs.cons hy Rvs.nil)
noncomputable def aP (fo fi fv : Env' → M W) : Env' → M Fl := fun ρ => bd (fv ρ) fun v => bd (fo ρ) fun x => bd (fi ρ) fun i => bd (gJ x i v) fun _ => pr (.nx ρ)
variable {i value : Expr}{tpos : Pos}{fi fv : Env' → M W}
theorem eU (hu : X.A.units + 1 < cLine) (ho : JE X E o fo) (hi : JE X E i fi) (hv : JE X E value fv)
    (ha : ∀ v,assign (.Subscript o i tpos) X.env v = (do
      let ov ← holding [v] (eval o X.env)
      let iv ← holding [v,ov] (eval i X.env)
      standAt tpos
      holding [v,ov,iv] (setItem ov iv v)
      release [v,ov,iv] []) :=by intro _; rfl)
    (hs : swapsWithSole [.Subscript o i tpos] value pos.line X.env = pure false :=by rfl) (hw : swappedStores [.Subscript o i tpos] value X.env = pure none :=by rfl)
    (h1 : (assignEach [.Subscript o i tpos] X.env).map (·.2) = [assign (.Subscript o i tpos) X.env] :=by rfl) : JS X E (.Assign [.Subscript o i tpos] value pos) (aP fo fi fv) :=
  (qk hv.h (qp ho.h hi.h (set_list.or (qh hu)) ha) hs hw h1).imp fun D σ H h => by
    obtain ⟨w,ρ,rfl,R,S,h⟩ := h
    refine ⟨w,ρ,rfl,R,S,Ps.bd h fun p v vv e1 R1 r1 h1 => ⟨p,ρ,rfl,R1,S.mono R e1,Ps.bd h1 fun q x vx e2 R2 r2 h2 => ⟨q,ρ,rfl,R2,(S.mono R e1).mono R1 e2,Ps.bd h2 fun s i vi e3 R3 r3 h3 => ?_⟩⟩⟩
    have S3 := ((S.mono R e1).mono R1 e2).mono R2 e3
    have rv := (r1.mono R1 e2).mono R2 e3
    have rx := r2.mono R2 e3
    cases x with
    | loc k =>
      unfold Rv at rx
      obtain ⟨hk,rfl⟩ := rx
      unfold gJ bd at h3
      cases e : s.h[k]? with
      | none => simp only [e] at h3; exact h3.elim
      | some b =>
        cases b with
        | ins c ns ws => simp only [e] at h3; exact h3.elim
        | din b ks ws => simp only [e] at h3; exact h3.elim
        | gone => simp only [e] at h3; exact h3.elim
        | lst l =>
          simp only [e] at h3
          cases i with
          | int n =>
            simp only at h3
            cases ej : ixN l.length n with
            | none => simp only [ej] at h3; exact h3.elim
            | some j =>
              simp only [ej] at h3
              obtain ⟨us,k1,k2⟩ := R3.ob k _ e
              refine .inl ⟨_,us,n,j,rfl,rv_int.mp r3,k1,by rw [k2.len]; exact ej,?_⟩
              exact Ps.at (p := s.put k (.lst (l.set j v)) (.lst (us.set j vv))) (b := FlV.nx σ) h3 rfl (Ex.put e (by simp)) (R3.putL e (by simp) (k2.set rv j)) ⟨σ,rfl,S3.mono R3 (Ex.put e (by simp))⟩
          | _ => exact h3.elim
        | dit ks ws =>
          simp only [e] at h3
          cases i with
          | kt x =>
            simp only at h3
            by_cases z : ks.length < sizeLine
            · simp only [if_pos z] at h3
              obtain ⟨kvs,k1,k2,k3⟩ := R3.ob k _ e
              unfold Rv at r3
              obtain ⟨b,rfl,hb⟩ := r3
              obtain ⟨b1,b2⟩ := j1 (x := x) rv k2 k3
              refine .inr ⟨_,_,rfl,.inr ⟨kvs,x,b,k1,rfl,hb,by rw [← k2,List.length_map] at z; exact z,rfl⟩,?_⟩
              exact Ps.at (p := s.put k (.dit (putW ks ws x v).1 (putW ks ws x v).2) (.dT (putK kvs x vv))) (b := FlV.nx σ) h3 rfl (Ex.put e (by simp)) (R3.putT e (by simp) b1 b2) ⟨σ,rfl,S3.mono R3 (Ex.put e (by simp))⟩
            · simp only [if_neg z] at h3; exact h3.elim
          | _ => exact h3.elim
        | dic ks ws =>
          simp only [e] at h3
          cases ej : keyOf i with
          | none => simp only [ej] at h3; exact h3.elim
          | some x =>
            simp only [ej] at h3
            by_cases z : ks.length < sizeLine
            · simp only [if_pos z] at h3
              obtain ⟨kvs,k1,k2,k3⟩ := R3.ob k _ e
              rw [gz ej r3]
              obtain ⟨b1,b2⟩ := j1 (x := x) rv k2 k3
              refine .inr ⟨_,_,rfl,.inl ⟨kvs,x,k1,rfl,by rw [← k2,List.length_map] at z; exact z,rfl⟩,?_⟩
              exact Ps.at (p := s.put k (.dic (putW ks ws x v).1 (putW ks ws x v).2) (.dK (putK kvs x vv))) (b := FlV.nx σ) h3 rfl (Ex.put e (by simp)) (R3.putD e (by simp) b1 b2) ⟨σ,rfl,S3.mono R3 (Ex.put e (by simp))⟩
            · simp only [if_neg z] at h3; exact h3.elim
    | _ => exact h3.elim
end
end L2
set_option maxHeartbeats 1000000
namespace L2
open PySem PySem.Spec PyProof.Rows
noncomputable def runF (n:Nat) (g:Env' → M Fl) (ws : List W) : M W := bd (g (ws.map some ++ List.replicate (n - ws.length) none)) fun x => match x with
  | .rt w => pr w
  | .nx _ => pr .non
  | _ => no
section
variable {P:Program}{w:World}{K:PySem.W.Frag}{mg : Str → Option Value}{base : Heap}{x qual : Str}{st : Stmt}{f:Addr}{fd : FuncData}{N ps : List Str}{k:Nat}{g:Env' → M Fl}
noncomputable def spM0 (K:PySem.W.Frag) (mg : Str → Option Value) (n:Nat) (f:List W → M W) : Sp := fun vs H Q _ => ∃ o ws,o.H = H ∧ ws.length = n ∧ Rel K o ∧ Rvs K o ws vs ∧ Ps ⟨K,mg,E0⟩ (Rv K) o (f ws o.h) Q
theorem bS {n m : Nat}{fn : List W → M W} (F:Fun K x qual st f fd) (S:FnScope N ps (ai st)) (hn : N.length = n) (hm : ps.length = m) (hf : fn = runF n g)
    (hb : ∀ (cdv : Value) (A:Around) (outer : List Env) (s:Shared) (H:Hp) (E:XK),Room k (A.deeper (envOfC qual (ai st) s.heap.objs.size f cdv)) → JSs (cxOf CX0 P w K mg base N qual (ai st) f cdv A outer s H E).nox E0 (aA st) g) :
    FnOk P w K mg base CX0 (k + 1) f fd ps (spM0 K mg m fn) :=by
  subst hn hm hf
  refine F.ok S (fun vs H Q E h => ?_) (fun cdv A outer s H vs Q E hr h => ?_)
  · obtain ⟨o,ws,_,hl,_,rv,_⟩ := h
    rw [rv.len,hl]
  · obtain ⟨o,ws,rfl,hl,R,rv,h⟩ := h
    refine ⟨_,(hb cdv A outer s o.H E hr).h,?_⟩
    have e : start N vs = vs.map some ++ List.replicate (N.length - ws.length) none :=by unfold start; rw [rv.len]
    rw [e]
    refine ⟨o,_,rfl,R,Re.args _ rv,Ps.bd h fun p x b e1 R1 r1 h1 => ?_⟩
    cases x with
    | rt w => obtain ⟨v,rfl,r⟩ := r1; exact h1.pr R1 r
    | nx r => obtain ⟨s,rfl,r⟩ := r1; exact h1.pr R1 (rv_non.mpr rfl)
    | bk r => exact h1.elim
    | ct r => exact h1.elim
structure CG (P:Program) (w:World) (K:PySem.W.Frag) (mg : Str → Option Value) (base : Heap) (k:Nat) (x:Str) (f:Addr) (fd : FuncData) (ps : List Str) (m:Nat) (fn : List W → M W) : Prop where
  ok : FnOk P w K mg base CX0 k f fd ps (spM0 K mg m fn)
  bi : Binds K fd ps []
  kp : PySem.W.keepIn K (.ref f) = true
  mg : mg x = some (.ref f)
end
noncomputable def arW (n:Nat) (f:List W → M W) (ws : List W) : M W := if ws.length = n then f ws else no
section
variable {X:Cx}{p pos : Pos}{e:Expr}{es : List Expr}{l:Env' → M (List W)}{f:List W → M W}{k:Nat}{fA : Addr}{fd : FuncData}{ps : List Str}{x:Str}
theorem aG {m:Nat} (C:CG X.prog X.w X.K X.mg X.base k x fA fd ps m f) (hr : Room k X.A) (ha : JA X E0 (e :: es) l) (hg : Gl X x :=by rfl)
    (hdb : (x == ("__debug__" : Str)) = false :=by decide) (he : starEach (e :: es) X.env = (false,eval e X.env) :: starEach es X.env :=by rfl) (hpl : (backTo pos (starEach es X.env)).any (·.1) = false :=by rfl) :
    JE X E0 (.Call (.Name x p) (e :: es) [] pos) (mCall (arW m f) l) := (sB C.ok hr hg C.mg C.kp C.bi .nil pass0 ha.h hdb he hpl).imp fun σ H Q h => by
  obtain ⟨o,ρ,rfl,R,S,h⟩ := h
  refine ⟨o,ρ,rfl,R,S,Ps.bd h fun p x vx e1 R1 r1 h1 => ?_⟩
  unfold arW at h1
  by_cases z : x.length = m
  · rw [if_pos z] at h1
    exact ⟨p,x,rfl,z,R1,by rw [List.append_nil]; exact r1,h1⟩
  · rw [if_neg z] at h1
    exact h1.elim
end
section
variable {X:Cx}{E:XK}{p pos : Pos}
noncomputable def chars (z:Str) : List W := z.cps.toList.map fun c => .str ⟨#[c]⟩
noncomputable def srcS (w:W) : M Sr := match w with
  | .str z => pr ⟨chars z,fun _ => True⟩
  | _ => no
noncomputable def numd (n:Int) : List W → List W
  | [] => []
  | w :: l => .tup [.int n,w] :: numd (n + 1) l
theorem cU : ∀ (l:List W) (n:Int),(numd n l).length = l.length
  | [],_ => rfl
  | w :: l,n => by rw [numd,List.length_cons,List.length_cons,cU l]
theorem dB : ∀ (l:List W) (n:Int) (i:Nat) (w:W),(numd n l)[i]? = some w → ∃ x,l[i]? = some x ∧ w = .tup [.int (n + i),x]
  | [],_,_,_,h => by simp [numd] at h
  | x :: l,n,0,w,h => by rw [numd] at h; cases h; exact ⟨x,rfl,by simp⟩
  | x :: l,n,i + 1,w,h => by
    rw [numd,List.getElem?_cons_succ] at h
    obtain ⟨y,e1,e2⟩ := dB l (n + 1) i w h
    exact ⟨y,by simpa using e1,by rw [e2]; congr 3; omega⟩
noncomputable def enumL (ws : List W) : M Sr := match ws with
  | [w] => bd (srcL w) fun s => pr ⟨numd 0 s.l,s.G⟩
  | _ => no
theorem nI {α β : Type}{r:Wo → α → β → Prop}{o:Wo}{w:W}{v:V}{k:Sr → M α}{Q:β → Hp → Prop} (R:Rel X.K o) (hr : Rv X.K o w v) (h:Ps (cg X E) r o (bd (srcL w) k o.h) Q) :
    ∃ s a,v = .ref a ∧ (∃ vs,SqL X.K o.H a vs) ∧ (∀ p,Ex o p → Rel X.K p → s.G p.h → ∃ vs,SqL X.K p.H a vs ∧ Rvs X.K p s.l vs) ∧ Ps (cg X E) r o (k s o.h) Q :=by
  cases w with
  | tl l =>
    unfold Rv at hr
    obtain ⟨a,vs,rfl,s,n,r⟩ := hr
    exact ⟨⟨l,fun _ => True⟩,a,rfl,⟨vs,.of s⟩,fun p X _ _ => ⟨vs,.of (X.fr a _ s n).1,r.mono R X⟩,h⟩
  | cl l =>
    unfold Rv at hr
    obtain ⟨a,vs,rfl,s,r⟩ := hr
    have sq : ∀ q,Ex o q → SqL X.K q.H a vs := fun q X => by
      rcases s with ⟨s,n⟩ | s
      · exact .inl (X.rd s n).1
      · exact .inr s
    exact ⟨⟨l,fun _ => True⟩,a,rfl,⟨vs,sq o (Ex.refl _)⟩,fun p X _ _ => ⟨vs,sq p X,r.mono R X⟩,h⟩
  | loc j =>
    unfold Rv at hr
    obtain ⟨hj,rfl⟩ := hr
    unfold srcL bd at h
    cases e : o.h[j]? with
    | none => simp only [e] at h; exact h.elim
    | some b =>
      cases b with
      | lst l =>
        simp only [e] at h
        obtain ⟨vs,h1,h2⟩ := R.ob j _ e
        refine ⟨⟨l,fun h => h[j]? = some (.lst l)⟩,_,rfl,⟨vs,.of h1⟩,fun p X Rp g => ?_,h⟩
        obtain ⟨vs',h5,h6⟩ := Rp.ob j _ g
        rw [X.mu j hj] at h5
        exact ⟨vs',.of h5,h6⟩
      | _ => simp only [e] at h; exact h.elim
  | _ => exact h.elim
theorem ku {a:Expr}{elts : List Expr}{x1}{tpos : Pos}{fl : Env' → M (List W)} (hm : X.mg "enumerate" = none) (ha : JA X E [a] fl) (hg : Gl X "enumerate" := by rfl) (hs : starEach [a] X.env = [(false,eval a X.env)] :=by rfl) :
    JI X E (.Tuple elts x1 tpos) (.Call (.Name "enumerate" p) [a] [] pos) (mSrcA fl enumL) := (sv hg hm ha.h hs).imp fun σ H Q h => by
  obtain ⟨o,ρ,rfl,R,S,h⟩ := h
  refine ⟨o,ρ,rfl,R,S,Ps.bd h fun p x vx e1 R1 r1 h1 => ?_⟩
  rcases x with _ | ⟨w,_ | ⟨_,_⟩⟩
  · exact h1.elim
  · have h1 : Ps (cg X E) (fun p s J => SrcOk X.K p J s) p (bd (srcL w) (fun s => pr ⟨numd 0 s.l,s.G⟩) p.h) Q := h1
    obtain ⟨v,rfl,r⟩ := r1.one
    obtain ⟨s,a,rfl,hq,sk,h1⟩ := nI R1 r h1
    refine ⟨a,rfl,hq,h1.pr R1 ⟨fun o X R g => ?_,fun o i w X R g e => ?_⟩⟩
    · obtain ⟨vs,k1,k2⟩ := sk o X R g
      exact ⟨vs,k1,by rw [k2.len]; exact (cU _ _).symm⟩
    · obtain ⟨vs,k1,k2⟩ := sk o X R g
      obtain ⟨x,e1,rfl⟩ := dB _ _ _ _ e
      obtain ⟨v,hv,rv⟩ := k2.get e1
      refine ⟨⟨vs,v,k1,hv⟩,fun y H' q => ?_⟩
      obtain ⟨T,z,hT,rfl,hz,rfl⟩ := q
      have : z = v :=by have := hz vs k1; rw [hv] at this; exact (Option.some.inj this).symm
      subst this
      refine ⟨⟨o.mu,o.h,upd o.H T (.tup [.int i,z])⟩,rfl,rfl,Ex.new hT,R.new hT,Rv.newT R hT (Rvs.cons (rv_int.mpr (by simp)) (Rvs.cons rv Rvs.nil))⟩
  · exact h1.elim
noncomputable def sUnp (t:W → Env' → Option Env') (f:Env' → M W) : Env' → M Fl := fun ρ => bd (f ρ) fun w => match t w ρ with
  | some r => pr (.nx r)
  | none => no
noncomputable def tyN (w:W) (h:List Ob) : Option String := match w with
  | .non => some "NoneType"
  | .bl _ => some "bool"
  | .int _ => some "int"
  | .str _ => some "str"
  | .tl _ => some "list"
  | .loc k => match h[k]? with
    | some (.lst _) => some "list"
    | some (.dic _ _) => some "dict"
    | _ => none
  | _ => none
noncomputable def isT (t c : String) : Bool := t == c || (t == "bool" && c == "int")
noncomputable def tys : List String := ["int", "str", "bool", "list", "tuple", "dict"]
noncomputable def isiW (ws : List W) : M W := match ws with
  | [.tup _,.ty c] => gd (c ∈ tys) (pr (.bl (isT "tuple" c)))
  | [x,.ty c] => fun h => match tyN x h with
    | some t => if c ∈ tys then .ok (.bl (isT t c)) h else .bad
    | none => .bad
  | _ => no
theorem rh {K:PySem.W.Frag}{t c : String} (ht : t ∈ "NoneType" :: tys) (hc : c ∈ tys) : PySem.W.kitOne K (.type t) (.type c) = some (isT t c) :=by
  simp only [tys,List.mem_cons,List.not_mem_nil,or_false] at ht hc
  rcases ht with rfl | rfl | rfl | rfl | rfl | rfl | rfl <;> rcases hc with rfl | rfl | rfl | rfl | rfl | rfl <;> kernel_rfl
end
end L2
set_option maxHeartbeats 1000000
namespace L2
open PySem PySem.Spec PyProof.Rows
section
variable {X:Cx}{E:XK}{p pos : Pos}{a b : Expr}{l:Env' → M (List W)}
noncomputable def rIsT (K:PySem.W.Frag) : List V → Hp → VK → Prop := fun xs H Q => ∃ (a:Addr) (ys : List V) (c:String) (k:Bool),xs = [.ref a,.ty c] ∧ SqT K H a ys ∧ PySem.W.kitOne K (.type "tuple") (.type c) = some k ∧ Q (.bl k) H
theorem pR : CallR X (.builtin "isinstance") (rIsT X.K) :=by
  intro pins s σ H xs us Q I r h
  obtain ⟨a,ys,c,k,rfl,hq,e,q⟩ := h
  obtain ⟨u,u',rfl,ru,ru'⟩ := vals2 r
  cases ru
  cases ru'
  obtain ⟨its,rv,⟨o,e1,e2,n,e3⟩,hz⟩ := I.tuple hq
  exact PySem.W.kia_one PySem.W.kitx_tuple I.kIn ⟨o,e1,e2⟩ e (fun z => nomatch z) fun tk => ⟨.bl k,H,I.tok tk,rfl,q⟩
theorem t5 {o:Wo}{w:W}{v:V}{t:String} (R:Rel X.K o) (h:Rv X.K o w v) (e:tyN w o.h = some t) : TyOf X.K o.H v (.type t) ∧ t ∈ "NoneType" :: tys :=by
  cases w with
  | non => cases e; rw [rv_non.mp h]; exact ⟨.non,by decide⟩
  | bl _ => cases e; rw [rv_bl.mp h]; exact ⟨.bl _,by decide⟩
  | int _ => cases e; rw [rv_int.mp h]; exact ⟨.int _,by decide⟩
  | str _ => cases e; rw [rv_str.mp h]; exact ⟨.str _,by decide⟩
  | tl _ => cases e; unfold Rv at h; obtain ⟨a,vs,rfl,s,_⟩ := h; exact ⟨.lst s,by decide⟩
  | loc k =>
    unfold Rv at h
    obtain ⟨_,rfl⟩ := h
    unfold tyN at e
    dsimp only at e
    split at e
    · rename_i l hl
      cases e
      obtain ⟨vs,h1,_⟩ := R.ob k _ hl
      exact ⟨.lst h1,by decide⟩
    · rename_i ks ws hl
      cases e
      obtain ⟨vs,h1,_⟩ := R.ob k _ hl
      exact ⟨.dK h1,by decide⟩
    · cases e
  | _ => cases e
theorem qZ (hm : X.mg "isinstance" = none) (ha : JA X E [a,b] l) (hg : Gl X "isinstance" := by rfl) (he : starEach [a,b] X.env = (false,eval a X.env) :: starEach [b] X.env :=by rfl) (hpl : (backTo pos (starEach [b] X.env)).any (·.1) = false :=by rfl) : JE X E (.Call (.Name "isinstance" p) [a,b] [] pos) (mCall isiW l) :=
  gq (call_isinst.or pR) (fun o ws vs Q R rv h => by
    unfold isiW at h
    split at h
    · rename_i l c
      obtain ⟨v,u,rfl,r1,r2⟩ := rv.two
      obtain ⟨hc,h⟩ := h.gd
      unfold Rv at r1
      obtain ⟨a,us,rfl,s,r⟩ := r1
      rw [rv_ty.mp r2]
      exact .inr ⟨a,us,c,_,rfl,s,rh (by decide) hc,h.pr R (rv_bl.mpr rfl)⟩
    · rename_i x c _
      obtain ⟨v,u,rfl,r1,r2⟩ := rv.two
      dsimp only at h
      cases e : tyN x o.h with
      | none => rw [e] at h; exact h.elim
      | some t =>
        rw [e] at h
        by_cases hc : c ∈ tys
        · simp only [if_pos hc] at h
          obtain ⟨ty,hm⟩ := t5 R r1 e
          rw [rv_ty.mp r2]
          exact .inl ⟨v,.ty c,.type c,.type t,_,rfl,rfl,ty,rh hm hc,Ps.pr (c := cg X E) (r := Rv X.K) (a := W.bl (isT t c)) h R (rv_bl.mpr rfl)⟩
        · simp only [if_neg hc] at h; exact h.elim
    · exact h.elim) hg hm PyProof.Rows.boot_isinstance ha (he := he) (hpl := hpl)
theorem tV {x:Str}{T:String} (hm : X.mg x = none) (hv : bootBuiltins x = some (.type T)) (hg : Gl X x :=by rfl) (hn : x ≠ "__name__" := by decide) (hd : (x == ("__debug__" : Str)) = false :=by decide) : JE X E (.Name x pos) (mC (.ty T)) :=
  (sC (v := .ty T) hg hm hv rfl hn hd).imp fun _ _ _ h => qd (fun o => rv_ty.mpr rfl) h
theorem Rv.addLoc {K:PySem.W.Frag}{o:Wo}{q:Addr}{b:Ob}{u:HO} : Rv K (o.add q b u) (.loc o.h.length) (.ref q) :=by
  unfold Rv
  exact ⟨by show _ < (o.h ++ [b]).length; simp,by show V.ref q = V.ref (if o.h.length = o.h.length then q else _); rw [if_pos rfl]⟩
end
end L2
set_option maxHeartbeats 1000000
namespace L2
open PySem PySem.Spec PyProof.Rows
section
variable {X:Cx}{E:XK}{p pos : Pos}{a b c : Expr}{fa fb fc : Env' → M W}
noncomputable def bz (f g : W → W → M W) (fa fb fc : Env' → M W) : Env' → M W := fun ρ => bd (fa ρ) fun x => bd (fb ρ) fun y => bd (f x y) fun z => bd (asB z) fun k => if k = true then bd (fc ρ) fun w => g y w else pr (.bl false)
end
section
variable {es : List Expr}{env : Env}{pos : Pos}
theorem aO {c k p} : starEach (.Constant c k p :: es) env = (false,eval (.Constant c k p) env) :: starEach es env :=by rfl
theorem aj {c p} : starEach (.Name c p :: es) env = (false,eval (.Name c p) env) :: starEach es env :=by rfl
theorem fV {a o b p} : starEach (.BinOp a o b p :: es) env = (false,eval (.BinOp a o b p) env) :: starEach es env :=by rfl
theorem jk {a o b p} : starEach (.Compare a o b p :: es) env = (false,eval (.Compare a o b p) env) :: starEach es env :=by rfl
theorem d5 {a o b p} : starEach (.Call a o b p :: es) env = (false,eval (.Call a o b p) env) :: starEach es env :=by rfl
theorem bH {a o p} : starEach (.Subscript a o p :: es) env = (false,eval (.Subscript a o p) env) :: starEach es env :=by rfl
theorem jj {a o p} : starEach (.Tuple a o p :: es) env = (false,eval (.Tuple a o p) env) :: starEach es env :=by rfl
theorem ug {a p} : starEach (.List a p :: es) env = (false,eval (.List a p) env) :: starEach es env :=by rfl
theorem la {a g s p} : starEach (.ListComp a g s p :: es) env = (false,eval (.ListComp a g s p) env) :: starEach es env :=by rfl
theorem ao : (backTo pos (starEach [] env)).any (·.1) = false :=by rfl
theorem al {e:Expr} (hs : starEach (e :: es) env = (false,eval e env) :: starEach es env) (h:(backTo pos (starEach es env)).any (·.1) = false) : (backTo pos (starEach (e :: es) env)).any (·.1) = false :=by
  rw [hs]
  show ((false || (backTo pos (starEach es env)).any (·.1)) : Bool) = false
  rw [h]; rfl
end
section
variable {P:Program}{w:World}{K:PySem.W.Frag}{mg : Str → Option Value}{base : Heap}{x:Str}{f:Addr}{fd : FuncData}{ps : List Str}{k:Nat}{sp : Sp}{fn : List W → M W}
end
end L2
set_option maxHeartbeats 1000000
namespace L2
open PySem PySem.Spec PyProof.Rows
section
variable {X:Cx}{E:XK}{p pos : Pos}{a b : Expr}{l:Env' → M (List W)}{CF : Addr}{raised : List Str}
variable {x n f : Str}{e b0 : Expr}{es : List Expr}{s0 : Stmt}{suite : List Stmt}{np hpos tpos epos : Pos}{fn : List W → M W}{g:Env' → M Fl}{k i m : Nat}{fA : Addr}{fd : FuncData}{ps : List Str}
noncomputable def catL (fa fb : Env' → M W) : Env' → M (List W) := fun ρ => bd (fa ρ) fun x => bd (fb ρ) fun y => bd (lstO x) fun a => bd (lstO y) fun b => gd (a.length + b.length ≤ sizeLine) (pr (a ++ b))
theorem uX {fa fb : Env' → M W} (ha : JE X E a fa) (hb : JE X E b fb) : JF X E (.BinOp a .Add b pos) (catL fa fb) := (qu qJ ha.h hb.h).impF fun σ H Q h => by
  obtain ⟨o,ρ,rfl,R,S,h⟩ := h
  refine ⟨o,ρ,rfl,R,S,Ps.bd h fun p x vx e1 R1 r1 h1 => ⟨p,ρ,rfl,R1,S.mono R e1,Ps.bd h1 fun q y vy e2 R2 r2 h2 => ?_⟩⟩
  obtain ⟨l,a,vs,rfl,s1,r3,h3⟩ := d9 R2 (r1.mono R1 e2) h2
  obtain ⟨m,b,us,rfl,s2,r4,h4⟩ := d9 R2 r2 h3
  obtain ⟨hz,h4⟩ := h4.gd
  exact ⟨a,b,vs,us,rfl,rfl,s1,s2,by rw [r3.len,r4.len]; exact hz,h4.pr R2 (r3.app r4)⟩
end
end L2
set_option maxHeartbeats 1000000
namespace L2
open PySem
theorem eO {α β : Type}{f:M α}{g:α → M β}{h h' : List Ob}{a:α} (e:f h = .ok a h') : bd f g h = g a h' :=by unfold bd; rw [e]
@[simp] theorem bd_pr {α β : Type} (a:α) (g:α → M β) : bd (pr a) g = g a := rfl
@[simp] theorem bd_no {α β : Type} (g:α → M β) : bd (no : M α) g = no := rfl
theorem aq {α : Type}{p:Prop} [Decidable p] {m:M α} (hp : p) : gd p m = m :=by funext h; unfold gd; rw [if_pos hp]
@[simp] theorem addW_int (i j : Int) : addW (.int i) (.int j) = pr (.int (i + j)) := rfl
theorem rS {a b : Str} (h:a.length + b.length ≤ sizeLine) : addW (.str a) (.str b) = pr (.str (a ++ b)) :=by unfold addW; exact aq h
@[simp] theorem subW_int (i j : Int) : subW (.int i) (.int j) = pr (.int (i - j)) := aq trivial
theorem cB {i j : Int} (h:CMulA i j) : mulW (.int i) (.int j) = pr (.int (i * j)) :=by unfold mulW; exact aq h
theorem ko {i j : Int} (h1 : -(2 ^ 64) < i) (h2 : i < 2 ^ 64) : CMulA i j := .inl (.inl ⟨h1,h2⟩)
theorem iW {i j : Int} (h1 : -(2 ^ 64) < j) (h2 : j < 2 ^ 64) : CMulA i j := .inl (.inr ⟨h1,h2⟩)
theorem gZ {i j : Int} (h1 : 0 < j) (h2 : j < 2 ^ 200) : fdivW (.int i) (.int j) = pr (.int (i / j)) := aq ⟨h1,h2⟩
theorem dC {i j : Int} (h1 : 0 < j) : modW (.int i) (.int j) = pr (.int (i % j)) := aq h1
theorem fZ {i j : Int} (h:CPow i j) : powW (.int i) (.int j) = pr (.int (i ^ j.toNat)) := aq h
theorem kY {i j : Int} (h:0 ≤ j) : shrW (.int i) (.int j) = pr (.int (i / 2 ^ j.toNat)) := aq h
@[simp] theorem ltW_int (i j : Int) : ltW (.int i) (.int j) = pr (.bl (decide (i < j))) := aq trivial
@[simp] theorem leW_int (i j : Int) : leW (.int i) (.int j) = pr (.bl (decide (i ≤ j))) := aq trivial
@[simp] theorem gtW_int (i j : Int) : gtW (.int i) (.int j) = pr (.bl (decide (j < i))) := aq trivial
@[simp] theorem geW_int (i j : Int) : geW (.int i) (.int j) = pr (.bl (decide (j ≤ i))) := aq trivial
@[simp] theorem asB_bl (b:Bool) : asB (.bl b) = pr b := rfl
@[simp] theorem eqW_int (i j : Int) : eqW (.int i) (.int j) = pr (.bl (decide (i = j))) :=by
  funext h
  show Rs.ok (W.bl (decide (V.int i = V.int j))) h = Rs.ok (W.bl (decide (i = j))) h
  congr 2
  rw [decide_eq_decide]
  exact ⟨V.int.inj,congrArg _⟩
@[simp] theorem eqW_str (i j : Str) : eqW (.str i) (.str j) = pr (.bl (decide (i = j))) :=by
  funext h
  show Rs.ok (W.bl (decide (V.str i = V.str j))) h = Rs.ok (W.bl (decide (i = j))) h
  congr 2
  rw [decide_eq_decide]
  exact ⟨V.str.inj,congrArg _⟩
@[simp] theorem neW_int (i j : Int) : neW (.int i) (.int j) = pr (.bl (!decide (i = j))) :=by
  funext h
  show Rs.ok (W.bl (!decide (V.int i = V.int j))) h = Rs.ok (W.bl (!decide (i = j))) h
  congr 3
  rw [decide_eq_decide]
  exact ⟨V.int.inj,congrArg _⟩
@[simp] theorem neW_str (i j : Str) : neW (.str i) (.str j) = pr (.bl (!decide (i = j))) :=by
  funext h
  show Rs.ok (W.bl (!decide (V.str i = V.str j))) h = Rs.ok (W.bl (!decide (i = j))) h
  congr 3
  rw [decide_eq_decide]
  exact ⟨V.str.inj,congrArg _⟩
@[simp] theorem neW_bl (i j : Bool) : neW (.bl i) (.bl j) = pr (.bl (!decide (i = j))) :=by
  funext h
  show Rs.ok (W.bl (!decide (V.bl i = V.bl j))) h = Rs.ok (W.bl (!decide (i = j))) h
  congr 3
  rw [decide_eq_decide]
  exact ⟨V.bl.inj,congrArg _⟩
theorem dP {l:List W}{i:Int}{w:W} (h:atI l i = some w) : ixW (.tl l) (.int i) = pr w :=by
  funext hh
  unfold ixW
  have : ixO (.tl l) (.int i) hh = some w := h
  rw [this]; rfl
theorem gA {l:List W}{i:Int}{w:W} (h:atI l i = some w) : ixW (.tup l) (.int i) = pr w :=by
  funext hh
  unfold ixW
  have : ixO (.tup l) (.int i) hh = some w := h
  rw [this]; rfl
theorem kG {z:Str}{i:Int}{c:Nat} (hz : z.length ≤ sizeLine) (h:atI z.cps.toList i = some c) : ixW (.str z) (.int i) = pr (.str ⟨#[c]⟩) :=by
  funext hh
  unfold ixW
  have : ixO (.str z) (.int i) hh = some (.str ⟨#[c]⟩) :=by
    show (if z.length ≤ sizeLine then (atI z.cps.toList i).map fun c => W.str ⟨#[c]⟩ else none) = _
    rw [if_pos hz,h]; rfl
  rw [this]; rfl
@[simp] theorem slW_tl (l:List W) (lo hi : Option Int) : slW (.tl l) lo hi = pr (.tl (cutW l lo hi)) := rfl
@[simp] theorem slW_cl (l:List W) (lo hi : Option Int) : slW (.cl l) lo hi = pr (.tl (cutW l lo hi)) := rfl
@[simp] theorem lenW_tl (l:List W) : lenW [.tl l] = pr (.int l.length) := rfl
@[simp] theorem lenW_tup (l:List W) : lenW [.tup l] = pr (.int l.length) := rfl
theorem dl {α : Type}{xs : List α}{i:Int}{v:α} (h0 : 0 ≤ i) (h:xs[i.toNat]? = some v) : atI xs i = some v :=by
  have q := oE h
  have e : ((i.toNat : Nat) : Int) = i :=by omega
  rw [e] at q; exact q
noncomputable def finF : Fl → M W := fun x => match x with
  | .rt w => pr w
  | .nx _ => pr .non
  | _ => no
theorem gdn0 {α : Type} (m:M α) : gd (0 ≤ sizeLine) m = m := aq (by decide)
theorem gdn1 {α : Type} (m:M α) : gd (0 + 1 ≤ sizeLine) m = m := aq (by decide)
theorem gdn2 {α : Type} (m:M α) : gd (0 + 1 + 1 ≤ sizeLine) m = m := aq (by decide)
theorem gdn3 {α : Type} (m:M α) : gd (0 + 1 + 1 + 1 ≤ sizeLine) m = m := aq (by decide)
theorem gdn4 {α : Type} (m:M α) : gd (0 + 1 + 1 + 1 + 1 ≤ sizeLine) m = m := aq (by decide)
theorem gdn5 {α : Type} (m:M α) : gd (0 + 1 + 1 + 1 + 1 + 1 ≤ sizeLine) m = m := aq (by decide)
theorem gdn6 {α : Type} (m:M α) : gd (0 + 1 + 1 + 1 + 1 + 1 + 1 ≤ sizeLine) m = m := aq (by decide)
theorem gdn7 {α : Type} (m:M α) : gd (0 + 1 + 1 + 1 + 1 + 1 + 1 + 1 ≤ sizeLine) m = m := aq (by decide)
theorem gdn8 {α : Type} (m:M α) : gd (0 + 1 + 1 + 1 + 1 + 1 + 1 + 1 + 1 ≤ sizeLine) m = m := aq (by decide)
theorem gdn9 {α : Type} (m:M α) : gd (0 + 1 + 1 + 1 + 1 + 1 + 1 + 1 + 1 + 1 ≤ sizeLine) m = m := aq (by decide)
theorem gdn10 {α : Type} (m:M α) : gd (0 + 1 + 1 + 1 + 1 + 1 + 1 + 1 + 1 + 1 + 1 ≤ sizeLine) m = m := aq (by decide)
theorem gdn11 {α : Type} (m:M α) : gd (0 + 1 + 1 + 1 + 1 + 1 + 1 + 1 + 1 + 1 + 1 + 1 ≤ sizeLine) m = m := aq (by decide)
theorem gdn12 {α : Type} (m:M α) : gd (0 + 1 + 1 + 1 + 1 + 1 + 1 + 1 + 1 + 1 + 1 + 1 + 1 ≤ sizeLine) m = m := aq (by decide)
theorem gdn13 {α : Type} (m:M α) : gd (0 + 1 + 1 + 1 + 1 + 1 + 1 + 1 + 1 + 1 + 1 + 1 + 1 + 1 ≤ sizeLine) m = m := aq (by decide)
theorem gdn14 {α : Type} (m:M α) : gd (0 + 1 + 1 + 1 + 1 + 1 + 1 + 1 + 1 + 1 + 1 + 1 + 1 + 1 + 1 ≤ sizeLine) m = m := aq (by decide)
theorem gdn15 {α : Type} (m:M α) : gd (0 + 1 + 1 + 1 + 1 + 1 + 1 + 1 + 1 + 1 + 1 + 1 + 1 + 1 + 1 + 1 ≤ sizeLine) m = m := aq (by decide)
theorem gdn16 {α : Type} (m:M α) : gd (0 + 1 + 1 + 1 + 1 + 1 + 1 + 1 + 1 + 1 + 1 + 1 + 1 + 1 + 1 + 1 + 1 ≤ sizeLine) m = m := aq (by decide)
theorem gdn17 {α : Type} (m:M α) : gd (0 + 1 + 1 + 1 + 1 + 1 + 1 + 1 + 1 + 1 + 1 + 1 + 1 + 1 + 1 + 1 + 1 + 1 ≤ sizeLine) m = m := aq (by decide)
theorem gdn18 {α : Type} (m:M α) : gd (0 + 1 + 1 + 1 + 1 + 1 + 1 + 1 + 1 + 1 + 1 + 1 + 1 + 1 + 1 + 1 + 1 + 1 + 1 ≤ sizeLine) m = m := aq (by decide)
theorem gdn19 {α : Type} (m:M α) : gd (0 + 1 + 1 + 1 + 1 + 1 + 1 + 1 + 1 + 1 + 1 + 1 + 1 + 1 + 1 + 1 + 1 + 1 + 1 + 1 ≤ sizeLine) m = m := aq (by decide)
theorem gdn20 {α : Type} (m:M α) : gd (0 + 1 + 1 + 1 + 1 + 1 + 1 + 1 + 1 + 1 + 1 + 1 + 1 + 1 + 1 + 1 + 1 + 1 + 1 + 1 + 1 ≤ sizeLine) m = m := aq (by decide)
theorem gdn21 {α : Type} (m:M α) : gd (0 + 1 + 1 + 1 + 1 + 1 + 1 + 1 + 1 + 1 + 1 + 1 + 1 + 1 + 1 + 1 + 1 + 1 + 1 + 1 + 1 + 1 ≤ sizeLine) m = m := aq (by decide)
theorem gdn22 {α : Type} (m:M α) : gd (0 + 1 + 1 + 1 + 1 + 1 + 1 + 1 + 1 + 1 + 1 + 1 + 1 + 1 + 1 + 1 + 1 + 1 + 1 + 1 + 1 + 1 + 1 ≤ sizeLine) m = m := aq (by decide)
theorem gdn23 {α : Type} (m:M α) : gd (0 + 1 + 1 + 1 + 1 + 1 + 1 + 1 + 1 + 1 + 1 + 1 + 1 + 1 + 1 + 1 + 1 + 1 + 1 + 1 + 1 + 1 + 1 + 1 ≤ sizeLine) m = m := aq (by decide)
theorem gdn24 {α : Type} (m:M α) : gd (0 + 1 + 1 + 1 + 1 + 1 + 1 + 1 + 1 + 1 + 1 + 1 + 1 + 1 + 1 + 1 + 1 + 1 + 1 + 1 + 1 + 1 + 1 + 1 + 1 ≤ sizeLine) m = m := aq (by decide)
theorem cC {α : Type}{m:M α}{inst : Decidable (true = true)} : @gd α (true = true) inst m = m := @aq α (true = true) inst m rfl
theorem aE {src : Env' → M Sr}{t:W → Env' → Option Env'}{f:Env' → M Bool}{e:Env' → M W}{n:Nat}{ρ : Env'} : mComp [] src t f e n ρ = bd (src ρ) fun s => gd (s.l.length ≤ sizeLine) (compM s.G t f e n s.l ρ) :=by unfold mComp; exact aq rfl
end L2
set_option maxHeartbeats 1000000
namespace L2
open PySem
theorem qF {α : Type}{f:W → Option α}{g:α → W} (hf : ∀ a,f (g a) = some a) : ∀ l : List α,optL f (l.map g) = some l
  | [] => rfl
  | a :: l => by
    show (match f (g a),optL f (l.map g) with
      | some b,some r => some (b :: r)
      | _,_ => none) = _
    rw [hf,qF hf l]
theorem dS {β : Type}{α : Type}{f:W → Option β}{g:α → W}{k:α → β} (hf : ∀ a,f (g a) = some (k a)) : ∀ l : List α,optL f (l.map g) = some (l.map k)
  | [] => rfl
  | a :: l => by
    show (match f (g a),optL f (l.map g) with
      | some b,some r => some (b :: r)
      | _,_ => none) = _
    rw [hf,dS hf l]; rfl
theorem kU {α : Type}{g:α → W}{k:α → V} (hf : ∀ a,vOf (g a) = some (k a)) : ∀ l : List α,vsOf (l.map g) = some (l.map k)
  | [] => rfl
  | a :: l => by
    show (match vOf (g a),vsOf (l.map g) with
      | some v,some vs => some (v :: vs)
      | _,_ => none) = _
    rw [hf,kU hf l]; rfl
theorem pI {l m : List W}{ds es : List PyData}{h:List Ob} (h1 : optL (dataH h 49) l = some ds) (h2 : optL (dataH h 49) m = some es) (c1 : PyData.canLayAll0 ds = true) (c2 : PyData.canLayAll0 es = true) : eqB (.tl l) (.tl m) h = some (PyData.eqvAll ds es) :=by
  show (match (optL (dataH h 49) l).map PyData.list,(optL (dataH h 49) m).map PyData.list with
    | some d,some e => if d.canLay0 = true ∧ e.canLay0 = true then some (PyData.eqv d e) else none
    | _,_ => none) = _
  rw [h1,h2]
  show (if (PyData.list ds).canLay0 = true ∧ (PyData.list es).canLay0 = true then some (PyData.eqv (.list ds) (.list es)) else none) = _
  rw [if_pos ⟨by rw [PyData.canLay0]; exact c1,by rw [PyData.canLay0]; exact c2⟩,PyData.eqv]
theorem nt {x y : W}{b:Bool} (h:∀ h,eqB x y h = some b) : eqW x y = pr (.bl b) :=by funext hh; unfold eqW; rw [h]; rfl
mutual
theorem lV : ∀ d : PyData,d.canLay0 = true → PyData.eqv d d = true
  | .none,_ => by rw [PyData.eqv]
  | .bool b,_ => by rw [PyData.eqv]; simp
  | .int b,_ => by rw [PyData.eqv]; simp
  | .str b,_ => by rw [PyData.eqv]; simp
  | .list l,h => by rw [PyData.eqv]; exact dM l (by rw [PyData.canLay0] at h; exact h)
  | .tuple l,h => by rw [PyData.eqv]; exact dM l (by rw [PyData.canLay0] at h; exact h)
  | .dict l,h => by rw [PyData.canLay0] at h; cases h
theorem dM : ∀ l : List PyData,PyData.canLayAll0 l = true → PyData.eqvAll l l = true
  | [],_ => by rw [PyData.eqvAll]
  | d :: l,h => by
    rw [PyData.canLayAll0,Bool.and_eq_true] at h
    rw [PyData.eqvAll,lV d h.1,dM l h.2]; rfl
end
theorem rN {α : Type}{k:α → PyData} : ∀ (l:List α),(∀ a ∈ l,(k a).canLay0 = true) → PyData.canLayAll0 (l.map k) = true
  | [],_ => by rw [List.map_nil,PyData.canLayAll0]
  | a :: l,h => by rw [List.map_cons,PyData.canLayAll0,h a List.mem_cons_self,rN l fun b hb => h b (List.mem_cons_of_mem _ hb)]; rfl
end L2
set_option maxHeartbeats 1000000
namespace L2
open PySem PySem.Spec PyProof.Rows
section
variable {X:Cx}{E:XK}{p pos : Pos}
noncomputable def enumT (ws : List W) : M Sr := match ws with
  | [w] => bd (srcT w) fun s => pr ⟨numd 0 s.l,s.G⟩
  | _ => no
theorem qU {a:Expr}{elts : List Expr}{x1}{tpos : Pos}{fl : Env' → M (List W)} (hm : X.mg "enumerate" = none) (ha : JA X E [a] fl) (hg : Gl X "enumerate" := by rfl) (hs : starEach [a] X.env = [(false,eval a X.env)] :=by rfl) :
    JI X E (.Tuple elts x1 tpos) (.Call (.Name "enumerate" p) [a] [] pos) (mSrcA fl enumT) := (qm hg hm ha.h hs).imp fun σ H Q h => by
  obtain ⟨o,ρ,rfl,R,S,h⟩ := h
  refine ⟨o,ρ,rfl,R,S,Ps.bd h fun p x vx e1 R1 r1 h1 => ?_⟩
  rcases x with _ | ⟨w,_ | ⟨_,_⟩⟩
  · exact h1.elim
  · have h1 : Ps (cg X E) (fun p s J => SrcOk X.K p J s) p (bd (srcT w) (fun s => pr ⟨numd 0 s.l,s.G⟩) p.h) Q := h1
    obtain ⟨v,rfl,r⟩ := r1.one
    cases w with
    | tup l =>
      unfold Rv at r
      obtain ⟨a,vs,rfl,s,r⟩ := r
      have h1 : Ps (cg X E) (fun p s J => SrcOk X.K p J s) p (pr ⟨numd 0 l,fun _ => True⟩ p.h) Q := h1
      refine ⟨a,rfl,⟨vs,s⟩,h1.pr R1 ⟨fun o X R g => ⟨vs,X.rdT R1 s,by rw [r.len]; exact (cU _ _).symm⟩,fun o i w X R g e => ?_⟩⟩
      obtain ⟨x,e1,rfl⟩ := dB _ _ _ _ e
      obtain ⟨v,hv,rv⟩ := (r.mono R1 X).get e1
      have sq := X.rdT R1 s
      refine ⟨⟨vs,v,sq,hv⟩,fun y H' q => ?_⟩
      obtain ⟨T,z,hT,rfl,hz,rfl⟩ := q
      have : z = v :=by have := hz vs sq; rw [hv] at this; exact (Option.some.inj this).symm
      subst this
      refine ⟨⟨o.mu,o.h,upd o.H T (.tup [.int i,z])⟩,rfl,rfl,Ex.new hT,R.new hT,Rv.newT R hT (Rvs.cons (rv_int.mpr (by simp)) (Rvs.cons rv Rvs.nil))⟩
    | _ => exact h1.elim
  · exact h1.elim
variable {o e : Expr}{apos cpos : Pos}{fo : Env' → M W}{l:Env' → M (List W)}
end
end L2
set_option maxHeartbeats 1000000
namespace L2
open PySem
theorem aI {α β : Type} (a:α) (g:α → M β) : bd (pr a) g = g a := funext fun h => eO (f := pr a) (a := a) (h := h) (h' := h) rfl
noncomputable def Ok {α : Type} (m:M α) (h:List Ob) (Q:α → List Ob → Prop) : Prop := ∃ a h',m h = .ok a h' ∧ Q a h'
section
variable {α β : Type}{m:M α}{k:α → M β}{h h' : List Ob}{a:α}
theorem Ok.imp {P Q : α → List Ob → Prop} (p:Ok m h P) (q:∀ a h',P a h' → Q a h') : Ok m h Q := let ⟨a,h',e,r⟩ := p; ⟨a,h',e,q a h' r⟩
theorem aX {P:α → List Ob → Prop}{Q:β → List Ob → Prop} (p:Ok m h P) (q:∀ a h',P a h' → Ok (k a) h' Q) : Ok (bd m k) h Q :=by
  obtain ⟨a,h',e,r⟩ := p
  obtain ⟨b,h2,e2,r2⟩ := q a h' r
  exact ⟨b,h2,(eO e).trans e2,r2⟩
theorem vO {Q:α → List Ob → Prop} (e:m h = .ok a h') (q:Q a h') : Ok m h Q := ⟨a,h',e,q⟩
theorem aY {Q:β → List Ob → Prop} (e:m h = .ok a h') (q:Ok (k a) h' Q) : Ok (bd m k) h Q :=by
  obtain ⟨b,h2,e2,r2⟩ := q
  exact ⟨b,h2,(eO e).trans e2,r2⟩
theorem aw {Q:α → List Ob → Prop} (q:Q a h) : Ok (pr a) h Q := ⟨a,h,rfl,q⟩
end
section
variable {β : Type}{h:List Ob}{Q:β → List Ob → Prop}{j:Nat}{l:List W}
theorem eK {i:Int}{w:W}{k:W → M β} (e:h[j]? = some (.lst l)) (e2 : atI l i = some w) (q:Ok (k w) h Q) : Ok (bd (ixW (.loc j) (.int i)) k) h Q :=by
  refine aY (a := w) (h' := h) ?_ q
  have d : dicOf (.loc j) h = none :=by unfold dicOf; simp only [e]
  have lo : lstOf (.loc j) h = .ok l h :=by unfold lstOf; simp only [e]
  have : ixO (.loc j) (.int i) h = some w :=by
    unfold ixO
    simp only [d,lo,e2]
  unfold ixW
  rw [this]
theorem tR {n:Int}{i:Nat}{v:W}{k:Unit → M β} (e:h[j]? = some (.lst l)) (e2 : ixN l.length n = some i) (q:Ok (k ()) (h.set j (.lst (l.set i v))) Q) : Ok (bd (gJ (.loc j) (.int n) v) k) h Q :=by
  refine aY (a := ()) (h' := h.set j (.lst (l.set i v))) ?_ q
  unfold gJ
  simp only [e,e2]
theorem mO {w:W}{k:W → M β} (e:h[j]? = some (.lst l)) (z:l.length < sizeLine) (q:Ok (k .non) (h.set j (.lst (l ++ [w]))) Q) : Ok (bd (dm (.loc j) [w]) k) h Q :=by
  refine aY (a := .non) (h' := h.set j (.lst (l ++ [w]))) ?_ q
  unfold dm
  simp only [e,if_pos z]
theorem j8 {k:W → M β} (e:h[j]? = some (.lst l)) (q:Ok (k (.loc j)) h Q) : Ok (bd (isL (.loc j)) k) h Q :=by
  refine aY (a := .loc j) (h' := h) ?_ q
  unfold isL
  simp only [e]
theorem gQ {k:W → M β} (q:Ok (k (.loc h.length)) (h ++ [.lst l]) Q) : Ok (bd (newW l) k) h Q := aY (a := .loc h.length) (h' := h ++ [.lst l]) rfl q
theorem mN {k:W → M β} (e:h[j]? = some (.lst l)) (q:Ok (k (.tl l)) (h.set j .gone) Q) : Ok (bd (iceW (.loc j)) k) h Q :=by
  refine aY (a := .tl l) (h' := h.set j .gone) ?_ q
  unfold iceW
  simp only [e]
theorem uP {k:Sr → M β} (e:h[j]? = some (.lst l)) (q:Ok (k ⟨l,fun h => h[j]? = some (.lst l)⟩) h Q) : Ok (bd (srcL (.loc j)) k) h Q :=by
  refine aY (a := ⟨l,fun h => h[j]? = some (.lst l)⟩) (h' := h) ?_ q
  unfold srcL
  simp only [e]
noncomputable def Lw (h:List Ob) (x:W) (l:List W) : Prop := x = .tl l ∨ ∃ j,x = .loc j ∧ h[j]? = some (.lst l)
theorem Lw.of {x:W} (p:Lw h x l) : lstOf x h = .ok l h :=by
  rcases p with rfl | ⟨j,rfl,e⟩
  · rfl
  · unfold lstOf; simp only [e]
theorem Lw.len {x:W}{k:W → M β} (p:Lw h x l) (q:Ok (k (.int l.length)) h Q) : Ok (bd (lenW [x]) k) h Q :=by
  refine aY (a := .int l.length) (h' := h) ?_ q
  have e := p.of
  rcases p with rfl | ⟨j,rfl,_⟩
  · rfl
  · show bd (lstOf (.loc j)) (fun l => pr (W.int l.length)) h = _
    rw [eO e]; rfl
theorem Lw.ix {x w : W}{i:Int}{k:W → M β} (p:Lw h x l) (e2 : atI l i = some w) (q:Ok (k w) h Q) : Ok (bd (ixW x (.int i)) k) h Q :=by
  rcases p with rfl | ⟨j,rfl,e⟩
  · rw [dP e2,bd_pr]; exact q
  · exact eK e e2 q
theorem oh {i:Int}{c:String}{b:Bool} (hc : c ∈ tys) (hb : isT "int" c = b) : isiW [.int i,.ty c] = pr (.bl b) :=by
  funext h
  subst hb
  show (if c ∈ tys then Rs.ok (W.bl (isT "int" c)) h else .bad) = _
  rw [if_pos hc]; rfl
end
theorem ck {i:Int} (h0 : -(2 ^ 62) ≤ i) (h1 : i < 2 ^ 62) : rng1 [.int i] = pr ⟨intsW 0 i.toNat,fun _ => True⟩ := aq ⟨h0,h1⟩
theorem qi {i j : Int} (h0 : -(2 ^ 62) ≤ i) (h1 : i < 2 ^ 62) (h2 : -(2 ^ 62) ≤ j) (h3 : j < 2 ^ 62) : rng2 [.int i,.int j] = pr ⟨intsW i (j - i).toNat,fun _ => True⟩ := aq ⟨h0,h1,h2,h3⟩
theorem nk {G:List Ob → Prop}{t:W → Env' → Option Env'}{g:Env' → M Fl} (I:Nat → Env' → List Ob → Prop) (l:List W) (hG : ∀ i ρ h,I i ρ h → G h)
    (hs : ∀ i w ρ h,l[i]? = some w → I i ρ h → ∃ r,t w ρ = some r ∧ Ok (g r) h fun x h' => ∃ r',x = .nx r' ∧ I (i + 1) r' h') :
    ∀ (m:List W) (n:Nat) (ρ : Env') (h:List Ob),l.drop n = m → n ≤ l.length → I n ρ h → Ok (forM G t g m ρ) h fun x h' => ∃ r',x = .nx r' ∧ I l.length r' h'
  | [],n,ρ,h,e,hn,i => by
    have : l.length ≤ n := List.drop_eq_nil_iff.mp e
    have hn : n = l.length :=by omega
    subst hn
    refine ⟨.nx ρ,h,?_,ρ,rfl,i⟩
    unfold forM
    rw [eA (hG _ _ _ i)]; rfl
  | w :: m,n,ρ,h,e,hn,i => by
    have hw : l[n]? = some w :=by
      have := congrArg List.head? e
      rw [List.head?_drop,List.head?_cons] at this
      exact this
    have hl : n < l.length := (List.getElem?_eq_some_iff.mp hw).1
    have em : l.drop (n + 1) = m :=by rw [← List.tail_drop,e]; rfl
    obtain ⟨r,e1,x,h',e2,r',rfl,i'⟩ := hs n w ρ h hw i
    obtain ⟨y,h2,e3,q⟩ := nk I l hG hs m (n + 1) r' h' em hl i'
    refine ⟨y,h2,?_,q⟩
    unfold forM
    rw [eA (hG _ _ _ i),e1]
    dsimp only
    rw [eO e2]
    exact e3
theorem da {β : Type}{G:List Ob → Prop}{t:W → Env' → Option Env'}{g:Env' → M Fl}{l:List W}{ρ : Env'}{h:List Ob}{k:Fl → M β}{Q:β → List Ob → Prop} (I:Nat → Env' → List Ob → Prop) (h0 : I 0 ρ h) (hG : ∀ i ρ h,I i ρ h → G h)
    (hs : ∀ i w ρ h,l[i]? = some w → I i ρ h → ∃ r,t w ρ = some r ∧ Ok (g r) h fun x h' => ∃ r',x = .nx r' ∧ I (i + 1) r' h') (hd : ∀ ρ h,I l.length ρ h → Ok (k (.nx ρ)) h Q) : Ok (bd (forM G t g l ρ) k) h Q :=
  aX (nk I l hG hs l 0 ρ h rfl (Nat.zero_le _) h0) fun x h' ⟨r',e,i⟩ => by subst e; exact hd r' h' i
theorem ox {G:List Ob → Prop}{t:W → Env' → Option Env'}{f:Env' → M Bool}{g:Env' → M W}{c:Nat}{ρ : Env'} (I:Nat → List W → List Ob → Prop) (l:List W) (hf : ∀ r,f r = pr true) (hG : ∀ i a h,I i a h → G h)
    (hs : ∀ i w a h,l[i]? = some w → I i a h → ∃ r,t w (List.replicate c none ++ ρ) = some r ∧ Ok (g r) h fun v h' => I (i + 1) (a ++ [v]) h') :
    ∀ (m:List W) (n:Nat) (a:List W) (h:List Ob),l.drop n = m → n ≤ l.length → I n a h → Ok (compM G t f g c m ρ) h fun r h' => I l.length (a ++ r) h'
  | [],n,a,h,e,hn,i => by
    have : l.length ≤ n := List.drop_eq_nil_iff.mp e
    have hn : n = l.length :=by omega
    subst hn
    refine ⟨[],h,?_,by show I l.length (a ++ []) h; rw [List.append_nil]; exact i⟩
    unfold compM
    rw [eA (hG _ _ _ i)]; rfl
  | w :: m,n,a,h,e,hn,i => by
    have hw : l[n]? = some w :=by
      have := congrArg List.head? e
      rw [List.head?_drop,List.head?_cons] at this
      exact this
    have hl : n < l.length := (List.getElem?_eq_some_iff.mp hw).1
    have em : l.drop (n + 1) = m :=by rw [← List.tail_drop,e]; rfl
    obtain ⟨r,e1,v,h',e2,i'⟩ := hs n w a h hw i
    obtain ⟨y,h2,e3,q⟩ := ox I l hf hG hs m (n + 1) (a ++ [v]) h' em hl i'
    refine ⟨v :: y,h2,?_,by show I l.length (a ++ v :: y) h2; have q : I l.length (a ++ [v] ++ y) h2 := q; rw [List.append_assoc] at q; exact q⟩
    unfold compM
    rw [eA (hG _ _ _ i),e1]
    dsimp only
    rw [hf,bd_pr,if_pos rfl,eO e2,eO e3]; rfl
theorem de {β : Type}{G:List Ob → Prop}{t:W → Env' → Option Env'}{f:Env' → M Bool}{g:Env' → M W}{c:Nat}{ρ : Env'}{l:List W}{h:List Ob}{k:List W → M β}{Q:β → List Ob → Prop} (I:Nat → List W → List Ob → Prop) (h0 : I 0 [] h) (hf : ∀ r,f r = pr true) (hG : ∀ i a h,I i a h → G h)
    (hs : ∀ i w a h,l[i]? = some w → I i a h → ∃ r,t w (List.replicate c none ++ ρ) = some r ∧ Ok (g r) h fun v h' => I (i + 1) (a ++ [v]) h') (hd : ∀ a h,I l.length a h → Ok (k a) h Q) : Ok (bd (compM G t f g c l ρ) k) h Q :=
  aX (ox I l hf hG hs l 0 [] h rfl (Nat.zero_le _) h0) fun r h' i => hd r h' i
theorem d0 (r:Env') : mYes r = pr true := rfl
structure Fr (j:Nat) (h h' : List Ob) : Prop where
  len : h'.length = h.length
  eq : ∀ i,i ≠ j → h'[i]? = h[i]?
theorem dG {j:Nat}{h:List Ob}{a b : Ob} (e:h[j]? = some a) : (h.set j b)[j]? = some b :=by
  rw [List.getElem?_set_self (List.getElem?_eq_some_iff.mp e).1]
theorem cO {j:Nat}{h:List Ob}{a:Ob} (e:h[j]? = some a) : j < h.length := (List.getElem?_eq_some_iff.mp e).1
theorem sY {j:Nat}{h r : List Ob}{a:Ob} (e:h[j]? = some a) : (h ++ r)[j]? = some a :=by
  rw [List.getElem?_append_left (cO e)]; exact e
theorem ef {h:List Ob}{a:Ob} : (h ++ [a])[h.length]? = some a :=by simp
theorem least {p:Nat → Prop} : ∀ {n:Nat},(∃ r,r < n ∧ p r) → ∃ r,r < n ∧ p r ∧ ∀ j,j < r → ¬ p j
  | 0,⟨_,h,_⟩ => absurd h (Nat.not_lt_zero _)
  | n + 1,⟨r,h,q⟩ => by
    by_cases z : ∃ r,r < n ∧ p r
    · obtain ⟨r,h1,h2,h3⟩ := least z
      exact ⟨r,by omega,h2,h3⟩
    · have : r = n :=by
        by_cases e : r < n
        · exact absurd ⟨r,e,q⟩ z
        · omega
      subst this
      exact ⟨r,h,q,fun j hj hp => z ⟨j,hj,hp⟩⟩
end L2
namespace L2
open PySem
theorem j9 {G:List Ob → Prop}{t:W → Env' → Option Env'}{g:Env' → M Fl}{l:List W}{ρ : Env'}{h:List Ob}{Q:Fl → List Ob → Prop} (I:Nat → Env' → List Ob → Prop) (h0 : I 0 ρ h) (hG : ∀ i ρ h,I i ρ h → G h)
    (hs : ∀ i w ρ h,l[i]? = some w → I i ρ h → ∃ r,t w ρ = some r ∧ Ok (g r) h fun x h' => ∃ r',x = .nx r' ∧ I (i + 1) r' h') (hd : ∀ ρ h,I l.length ρ h → Q (.nx ρ) h) : Ok (forM G t g l ρ) h Q :=
  (nk I l hG hs l 0 ρ h rfl (Nat.zero_le _) h0).imp fun x h' ⟨r',e,i⟩ => by subst e; exact hd r' h' i
theorem rF (l:List W) : enumL [.tl l] = pr ⟨numd 0 l,fun _ => True⟩ := rfl
theorem pJ (l:List W) : enumT [.tup l] = pr ⟨numd 0 l,fun _ => True⟩ := rfl
theorem i4 (l:List W) : lstOf (.tl l) = pr l := rfl
theorem ix0 (a:W) (l:List W) : ixW (.tup (a :: l)) (.int 0) = pr a := gA (dl (by decide) rfl)
theorem ix1 (a b : W) (l:List W) : ixW (.tup (a :: b :: l)) (.int 1) = pr b := gA (dl (by decide) rfl)
theorem ix2 (a b c : W) (l:List W) : ixW (.tup (a :: b :: c :: l)) (.int 2) = pr c := gA (dl (by decide) rfl)
theorem ix4 (a b c d e : W) (l:List W) : ixW (.tup (a :: b :: c :: d :: e :: l)) (.int 4) = pr e := gA (dl (by decide) rfl)
theorem ix5 (a b c d e f : W) (l:List W) : ixW (.tup (a :: b :: c :: d :: e :: f :: l)) (.int 5) = pr f := gA (dl (by decide) rfl)
theorem iy {α : Type} (f:α → W) (l:List α) (lo hi : Option Int) : cutW (l.map f) lo hi = (cutW l lo hi).map f :=by
  unfold cutW
  rw [List.length_map,List.map_take,List.map_drop]
end L2
set_option maxHeartbeats 1000000
namespace L2
open PySem PySem.Spec PyProof.Rows
section
variable {X:Cx}{E:XK}{p pos : Pos}
noncomputable def srcA (j:Bool) : W → M Sr := match j with
  | true => srcT
  | false => srcL
theorem im {j:Bool}{α β : Type}{r:Wo → α → β → Prop}{o:Wo}{w:W}{v:V}{k:Sr → M α}{Q:β → Hp → Prop} (R:Rel X.K o) (hr : Rv X.K o w v) (h:Ps (cg X E) r o (bd (srcA j w) k o.h) Q) :
    ∃ s a,v = .ref a ∧ (∃ vs,SqK j X.K o.H a vs) ∧ (∀ p,Ex o p → Rel X.K p → s.G p.h → ∃ vs,SqK j X.K p.H a vs ∧ Rvs X.K p s.l vs) ∧ Ps (cg X E) r o (k s o.h) Q :=by
  cases j with
  | false => exact nI R hr h
  | true =>
    cases w with
    | tup l =>
      unfold Rv at hr
      obtain ⟨a,vs,rfl,s,r'⟩ := hr
      exact ⟨⟨l,fun _ => True⟩,a,rfl,⟨vs,s⟩,fun p X _ _ => ⟨vs,X.rdT R s,r'.mono R X⟩,h⟩
    | _ => exact h.elim
noncomputable def zipW (l m : List W) : List W := List.zipWith (fun a b => .tup [a,b]) l m
theorem fR {l m : List W}{i:Nat}{w:W} (e:(zipW l m)[i]? = some w) : ∃ x y,l[i]? = some x ∧ m[i]? = some y ∧ w = .tup [x,y] :=by
  unfold zipW at e
  rw [List.getElem?_zipWith] at e
  cases h1 : l[i]? with
  | none => rw [h1] at e; cases e
  | some x =>
    cases h2 : m[i]? with
    | none => rw [h1,h2] at e; cases e
    | some y => rw [h1,h2] at e; cases e; exact ⟨x,y,rfl,rfl,rfl⟩
noncomputable def srcZ (j k : Bool) (ws : List W) : M Sr := match ws with
  | [x,y] => bd (srcA j x) fun s => bd (srcA k y) fun t => pr ⟨zipW s.l t.l,fun h => s.G h ∧ t.G h⟩
  | _ => no
theorem mR (j k : Bool) {a b : Expr}{elts : List Expr}{x1}{tpos : Pos}{fl : Env' → M (List W)} (hm : X.mg "zip" = none) (ha : JA X E [a,b] fl) (hg : Gl X "zip" := by rfl) (hs : starEach [a,b] X.env = [(false,eval a X.env),(false,eval b X.env)] :=by rfl) (hs2 : starEach [b] X.env = [(false,eval b X.env)] :=by rfl) :
    JI X E (.Tuple elts x1 tpos) (.Call (.Name "zip" p) [a,b] [] pos) (mSrcA fl (srcZ j k)) := (uu (j := j) (k := k) hg hm ha.h hs hs2).imp fun σ H Q h => by
  obtain ⟨o,ρ,rfl,R,S,h⟩ := h
  refine ⟨o,ρ,rfl,R,S,Ps.bd h fun p x vx e1 R1 r1 h1 => ?_⟩
  rcases x with _ | ⟨w,_ | ⟨w2,_ | ⟨_,_⟩⟩⟩
  · exact h1.elim
  · exact h1.elim
  · have h1 : Ps (cg X E) (fun p s J => SrcOk X.K p J s) p (bd (srcA j w) (fun s => bd (srcA k w2) fun t => pr ⟨zipW s.l t.l,fun h => s.G h ∧ t.G h⟩) p.h) Q := h1
    obtain ⟨v,u,rfl,rv,ru⟩ := r1.two
    obtain ⟨s,a,rfl,hq,sk,h1⟩ := im R1 rv h1
    obtain ⟨t,b,rfl,hq2,sk2,h1⟩ := im R1 ru h1
    refine ⟨a,b,rfl,hq,hq2,h1.pr R1 ⟨fun o X R g => ?_,fun o i w X R g e => ?_⟩⟩
    · obtain ⟨vs,k1,k2⟩ := sk o X R g.1
      obtain ⟨us,k3,k4⟩ := sk2 o X R g.2
      exact ⟨vs,us,k1,k3,by rw [k2.len,k4.len]; show _ = (zipW s.l t.l).length; unfold zipW; rw [List.length_zipWith]⟩
    · obtain ⟨vs,k1,k2⟩ := sk o X R g.1
      obtain ⟨us,k3,k4⟩ := sk2 o X R g.2
      obtain ⟨x,y,ex,ey,rfl⟩ := fR e
      obtain ⟨v1,hv1,rv1⟩ := k2.get ex
      obtain ⟨v2,hv2,rv2⟩ := k4.get ey
      refine ⟨⟨vs,us,v1,v2,k1,k3,hv1,hv2⟩,fun q H' yl => ?_⟩
      obtain ⟨T,z1,z2,hT,rfl,hz,rfl⟩ := yl
      obtain ⟨g1,g2⟩ := hz vs us k1 k3
      have e1 : z1 = v1 := Option.some.inj (g1.symm.trans hv1)
      have e2 : z2 = v2 := Option.some.inj (g2.symm.trans hv2)
      subst e1 e2
      refine ⟨⟨o.mu,o.h,upd o.H T (.tup [z1,z2])⟩,rfl,rfl,Ex.new hT,R.new hT,Rv.newT R hT (Rvs.cons rv1 (Rvs.cons rv2 Rvs.nil))⟩
  · exact h1.elim
variable {o e : Expr}{apos cpos : Pos}{fo : Env' → M W}{l:Env' → M (List W)}
end
end L2
set_option maxHeartbeats 1000000
namespace L2
open PySem PySem.Spec PyProof.Rows
section
variable {X:Cx}{E:XK}{o e e2 : Expr}{apos cpos : Pos}{fo : Env' → M W}{l:Env' → M (List W)}
noncomputable def gB (x:W) (ws : List W) : M W := match x,ws with
  | .loc k,[.int i,w] => fun h => match h[k]? with
    | some (.lst l) => if 0 ≤ i ∧ i ≤ l.length ∧ l.length < sizeLine then .ok .non (h.set k (.lst (l.take i.toNat ++ [w] ++ l.drop i.toNat))) else .bad
    | _ => .bad
  | _,_ => no
theorem ph (ho : JE X E o fo) (ha : JA X E [e,e2] l) (hbase : attributeBase o "insert" X.env (eval o X.env) = eval o X.env :=by rfl)
    (hfew : ((backTo cpos (starEach [e,e2] X.env)).all (fun x => !x.1) && (backToKw cpos (keywordEach [] X.env)).all (fun x => x.1.isSome) && decide (([e,e2] : List Expr).length + ([] : List Keyword).length + (if ([] : List Keyword).isEmpty then 0 else 1) < 30)) = true :=by rfl)
    (hline : (apos.endLine == cpos.line) = true :=by rfl) (hs : starEach [e,e2] X.env = (false,eval e X.env) :: starEach [e2] X.env :=by rfl) (hplain : (backTo cpos (starEach [e2] X.env)).any (·.1) = false :=by rfl) :
    JE X E (.Call (.Attribute o "insert" apos) [e,e2] [] cpos) (mMeth isL gB fo l) :=
  (tO PySem.F.plainAttrs_list PySem.F.slot_list_insert PySem.F.type_list_insert o8 ho.h ha.h hbase hfew hline hs hplain).imp fun σ H Q h => by
    obtain ⟨w,ρ,rfl,R,S,h⟩ := h
    refine ⟨w,ρ,rfl,R,S,Ps.bd h fun p x vx e1 R1 r1 h1 => ?_⟩
    obtain ⟨j,l0,vs0,rfl,hj,rfl,hlt,hH,hl0,h1⟩ := rl R1 r1 h1
    refine ⟨.inl ⟨rfl,vs0,.of hH⟩,p,ρ,rfl,R1,S.mono R e1,Ps.bd h1 fun q ws vs e2 R2 r2 h2 => ?_⟩
    rcases ws with _ | ⟨w',_ | ⟨w2,_ | ⟨_,_⟩⟩⟩
    · exact h2.elim
    · cases w' <;> exact h2.elim
    · obtain ⟨v,u,rfl,r,ru⟩ := r2.two
      cases w' with
      | int i =>
        have h2 : Ps (cg X E) (Rv X.K) q (match q.h[j]? with
          | some (.lst l) => if 0 ≤ i ∧ i ≤ l.length ∧ l.length < sizeLine then .ok .non (q.h.set j (.lst (l.take i.toNat ++ [w2] ++ l.drop i.toNat))) else .bad
          | _ => .bad) Q := h2
        cases e : q.h[j]? with
        | none => simp only [e] at h2; exact h2.elim
        | some b =>
          cases b with
          | lst l' =>
            simp only [e] at h2
            obtain ⟨us,k1,k2⟩ := R2.ob j _ e
            by_cases z : 0 ≤ i ∧ i ≤ l'.length ∧ l'.length < sizeLine
            · rw [if_pos z] at h2
              rw [e2.mu j hlt] at k1
              refine ⟨p.mu j,us,i,u,rfl,by rw [rv_int.mp r],k1,z.1,by rw [k2.len]; exact z.2.1,by rw [k2.len]; exact z.2.2,?_⟩
              have := Ps.at (p := q.put j (.lst (l'.take i.toNat ++ [w2] ++ l'.drop i.toNat)) (.lst (us.take i.toNat ++ [u] ++ us.drop i.toNat))) (b := V.non) h2 rfl (Ex.put e (by simp)) (R2.putL e (by simp) (((k2.take _).app (Rvs.cons ru Rvs.nil)).app (k2.drop _))) (rv_non.mpr rfl)
              have em : q.mu j = p.mu j := e2.mu j hlt
              have ew : (q.put j (.lst (l'.take i.toNat ++ [w2] ++ l'.drop i.toNat)) (.lst (us.take i.toNat ++ [u] ++ us.drop i.toNat))).H = upd q.H (p.mu j) (.lst (us.take i.toNat ++ [u] ++ us.drop i.toNat)) :=by
                show upd q.H (q.mu j) _ = _
                rw [em]
              rw [ew] at this
              exact this
            · rw [if_neg z] at h2; exact h2.elim
          | _ => simp only [e] at h2; exact h2.elim
      | _ => exact h2.elim
    · cases w' <;> exact h2.elim
end
end L2
set_option maxHeartbeats 1000000
namespace L2
open PySem PySem.Spec PyProof.Rows
noncomputable def intsV (lo : Int) : Nat → List V
  | 0 => []
  | n + 1 => .int lo :: intsV (lo + 1) n
theorem jM : ∀ (n:Nat) (lo : Int),(intsV lo n).length = n
  | 0,_ => rfl
  | n + 1,lo => by rw [intsV,List.length_cons,jM n]
theorem jF {K:PySem.W.Frag}{o:Wo} : ∀ (n:Nat) (lo : Int),Rvs K o (intsW lo n) (intsV lo n)
  | 0,_ => Rvs.nil
  | n + 1,lo => Rvs.cons (rv_int.mpr rfl) (jF n (lo + 1))
theorem iG : ∀ (n:Nat) (lo : Int) (its : List Value),its.length = n → (∀ (i:Nat) (v:Value),its[i]? = some v → ∃ t,v = Value.int (lo + (i:Int)) t) → Vals (intsV lo n) its
  | 0,_,[],_,_ => .nil
  | 0,_,_ :: _,h,_ => by cases h
  | n + 1,lo,[],h,_ => by cases h
  | n + 1,lo,v :: its,h,q => by
    rw [intsV]
    refine .cons ?_ (iG n (lo + 1) its (Nat.succ.inj h) fun i u e => ?_)
    · obtain ⟨t,e⟩ := q 0 v rfl
      exact ⟨t,by rw [e]; congr 1; omega⟩
    · obtain ⟨t,e⟩ := q (i + 1) u (by rw [List.getElem?_cons_succ]; exact e)
      exact ⟨t,by rw [e]; congr 1; omega⟩
section
variable {X:Cx}{E:XK}{a b : Expr}{p p2 pos pos2 : Pos}
end
end L2
set_option maxHeartbeats 1000000
namespace L2
open PySem PySem.Spec PyProof.Rows
section
variable {X:Cx}{E:XK}
end
theorem jc {G:List Ob → Prop}{t:W → Env' → Option Env'}{f:Env' → M Bool}{g:Env' → M W}{c:Nat}{ρ : Env'} (I:Nat → List W → List Ob → Prop) (l:List W) (hG : ∀ i a h,I i a h → G h)
    (hs : ∀ i w a h,l[i]? = some w → I i a h → ∃ r,t w (List.replicate c none ++ ρ) = some r ∧ Ok (f r) h fun b h' => (b = false ∧ I (i + 1) a h') ∨ (b = true ∧ Ok (g r) h' fun v h'' => I (i + 1) (a ++ [v]) h'')) :
    ∀ (m:List W) (n:Nat) (a:List W) (h:List Ob),l.drop n = m → n ≤ l.length → I n a h → Ok (compM G t f g c m ρ) h fun r h' => I l.length (a ++ r) h'
  | [],n,a,h,e,hn,i => by
    have : l.length ≤ n := List.drop_eq_nil_iff.mp e
    have hn : n = l.length :=by omega
    subst hn
    refine ⟨[],h,?_,by show I l.length (a ++ []) h; rw [List.append_nil]; exact i⟩
    unfold compM
    rw [eA (hG _ _ _ i)]; rfl
  | w :: m,n,a,h,e,hn,i => by
    have hw : l[n]? = some w :=by
      have := congrArg List.head? e
      rw [List.head?_drop,List.head?_cons] at this
      exact this
    have hl : n < l.length := (List.getElem?_eq_some_iff.mp hw).1
    have em : l.drop (n + 1) = m :=by rw [← List.tail_drop,e]; rfl
    obtain ⟨r,e1,b,h',e2,q⟩ := hs n w a h hw i
    rcases q with ⟨rfl,i'⟩ | ⟨rfl,v,h'',e3,i'⟩
    · obtain ⟨y,h2,e3,q⟩ := jc I l hG hs m (n + 1) a h' em hl i'
      refine ⟨y,h2,?_,q⟩
      unfold compM
      rw [eA (hG _ _ _ i),e1]
      dsimp only
      rw [eO e2,if_neg (by decide)]; exact e3
    · obtain ⟨y,h2,e4,q⟩ := jc I l hG hs m (n + 1) (a ++ [v]) h'' em hl i'
      refine ⟨v :: y,h2,?_,by show I l.length (a ++ v :: y) h2; have q : I l.length (a ++ [v] ++ y) h2 := q; rw [List.append_assoc] at q; exact q⟩
      unfold compM
      rw [eA (hG _ _ _ i),e1]
      dsimp only
      rw [eO e2,if_pos rfl,eO e3,eO e4]; rfl
theorem iU {β : Type}{G:List Ob → Prop}{t:W → Env' → Option Env'}{f:Env' → M Bool}{g:Env' → M W}{c:Nat}{ρ : Env'}{l:List W}{h:List Ob}{k:List W → M β}{Q:β → List Ob → Prop} (I:Nat → List W → List Ob → Prop) (h0 : I 0 [] h) (hG : ∀ i a h,I i a h → G h)
    (hs : ∀ i w a h,l[i]? = some w → I i a h → ∃ r,t w (List.replicate c none ++ ρ) = some r ∧ Ok (f r) h fun b h' => (b = false ∧ I (i + 1) a h') ∨ (b = true ∧ Ok (g r) h' fun v h'' => I (i + 1) (a ++ [v]) h'')) (hd : ∀ a h,I l.length a h → Ok (k a) h Q) : Ok (bd (compM G t f g c l ρ) k) h Q :=
  aX (jc I l hG hs l 0 [] h rfl (Nat.zero_le _) h0) fun r h' i => hd r h' i
section
variable {β : Type}{h:List Ob}{Q:β → List Ob → Prop}{x:W}{l:List W}
theorem Lw.src {k:Sr → M β} (p:Lw h x l) (q:∀ G,(∀ h',Lw h' x l → G h') → Ok (k ⟨l,G⟩) h Q) : Ok (bd (srcL x) k) h Q :=by
  rcases p with rfl | ⟨j,rfl,e⟩
  · show Ok (bd (pr ⟨l,fun _ => True⟩) k) h Q
    rw [aI]; exact q _ fun _ _ => trivial
  · refine uP e (q _ fun h' r => ?_)
    rcases r with r | ⟨i,r,e'⟩
    · cases r
    · cases r; exact e'
theorem Lw.sl {k:W → M β}{lo hi : Option Int} (p:Lw h x l) (q:Ok (k (.tl (cutW l lo hi))) h Q) : Ok (bd (slW x lo hi) k) h Q :=by
  refine aY (a := .tl (cutW l lo hi)) (h' := h) ?_ q
  have e := p.of
  rcases p with rfl | ⟨j,rfl,_⟩
  · rfl
  · show bd (lstOf (.loc j)) (fun l => pr (W.tl (cutW l lo hi))) h = _
    rw [eO e]; rfl
theorem Lw.keep {h' : List Ob} (p:Lw h x l) (q:∀ i,i < h.length → h'[i]? = h[i]?) : Lw h' x l :=by
  rcases p with rfl | ⟨j,rfl,e⟩
  · exact .inl rfl
  · exact .inr ⟨j,rfl,(q j (cO e)).trans e⟩
end
theorem Lw.len_eq {β : Type}{h:List Ob}{Q:β → List Ob → Prop}{x:W}{l:List W}{k:W → M β}{N:Int} (p:Lw h x l) (hN : N = (l.length : Int)) (q:Ok (k (.int N)) h Q) : Ok (bd (lenW [x]) k) h Q :=by
  subst hN; exact p.len q
end L2
set_option maxHeartbeats 1000000
namespace L2
open PySem PySem.Spec PyProof.Rows
noncomputable def lookF : List Str → List W → Str → Option W
  | n :: ns,w :: ws,f => if f = n then some w else lookF ns ws f
  | _,_,_ => none
noncomputable def putN : List Str → List W → Str → W → List Str × List W
  | n :: ns,w :: ws,f,y => if n = f then (n :: ns,y :: ws) else (n :: (putN ns ws f y).1,w :: (putN ns ws f y).2)
  | _,_,f,y => ([f],[y])
section
variable {K:PySem.W.Frag}{o:Wo}
end
section
variable {X:Cx}{E:XK}
noncomputable def insG (c:Str) (x:W) : M (Nat × List Str × List W) := match x with
  | .loc k => fun h => match h[k]? with
    | some (.ins c' ns ws) => if c' = c then .ok (k,ns,ws) h else .bad
    | _ => .bad
  | _ => no
noncomputable def fldG (c f : Str) (x:W) : M W := bd (insG c x) fun t => match lookF t.2.1 t.2.2 f with
  | some w => pr w
  | none => no
noncomputable def putG (c f : Str) (x y : W) : M Unit := bd (insG c x) fun t => fun h => if t.2.1.length < 1000 then .ok () (h.set t.1 (.ins c (putN t.2.1 t.2.2 f y).1 (putN t.2.1 t.2.2 f y).2)) else .bad
variable {c f : Str}{C:Addr}{o:Expr}{fo : Env' → M W}{pos pos' : Pos}
noncomputable def sFldW (c f : Str) (fo fv : Env' → M W) : Env' → M Fl := fun ρ => bd (fv ρ) fun y => bd (fo ρ) fun x => bd (putG c f x y) fun _ => pr (.nx ρ)
variable {value : Expr}{fv : Env' → M W}{tpos : Pos}
noncomputable def addI (x y : W) : M W := match x,y with
  | .int i,.int j => pr (.int (i + j))
  | _,_ => no
noncomputable def sAugW (c f : Str) (fo fv : Env' → M W) : Env' → M Fl := fun ρ => bd (fo ρ) fun x => bd (fldG c f x) fun v => bd (fv ρ) fun y => bd (addI v y) fun z => bd (putG c f x z) fun _ => pr (.nx ρ)
noncomputable def isI (c m : Str) (x:W) : M W := bd (insG c x) fun t => if m ∈ t.2.1 then no else pr x
noncomputable def mMet (c m : Str) (n:Nat) (fn : List W → M W) (fo : Env' → M W) (l:Env' → M (List W)) : Env' → M W := fun ρ => bd (fo ρ) fun x => bd (isI c m x) fun x => bd (l ρ) fun ws => arW n fn (x :: ws)
end
section
variable {X:Cx}{c m : Str}{C fA : Addr}{fd : FuncData}{ps : List Str}{k n : Nat}{fn : List W → M W}{o e : Expr}{es : List Expr}{fo : Env' → M W}{l:Env' → M (List W)}{pos apos p : Pos}
end
end L2
set_option maxHeartbeats 1000000
namespace PySem
open Sem (wp)
section
variable {prog : Program}{w:World}{K:Type} [DecidableEq K] {knd : KeyKind prog w K}{A:Around}{R:Result → Shared → Prop}
end
end PySem
namespace L2
open PySem PySem.Spec PyProof.Rows
section
variable {X:Cx}
end
end L2
set_option maxHeartbeats 1000000
namespace L2
open PySem PySem.Spec PyProof.Rows
section
variable {K:PySem.W.Frag}{o:Wo}
end
section
variable {X:Cx}{E:XK}{a:Expr}{p pos : Pos}{l:Env' → M (List W)}
end
end L2
set_option maxHeartbeats 1000000
namespace L2
open PySem PySem.Spec PyProof.Rows
section
variable {X:Cx}{E:XK}{e:Expr}{f:Env' → M W}{pos : Pos}
noncomputable def sAug (i:Nat) (f:Env' → M W) : Env' → M Fl := fun ρ => bd (mVar i ρ) fun x => bd (f ρ) fun y => bd (addI x y) fun z => pr (.nx (ρ.set i (some z)))
end
end L2
set_option maxHeartbeats 1000000
namespace L2
open PySem
section
variable {β : Type}{h:List Ob}{Q:β → List Ob → Prop}{j d : Nat}
end
noncomputable def ctS (g:Env' → M Fl) : Fl → M Fl := fun x => match x with
  | .nx r => g r
  | x => pr x
noncomputable def ctI (f g : Env' → M Fl) (ρ : Env') : Bool → M Fl := fun b => if b = true then f ρ else g ρ
theorem aV (f g : Env' → M Fl) (ρ : Env') : sSeq f g ρ = bd (f ρ) (ctS g) :=by unfold sSeq; rfl
theorem bE (g:Env' → M Fl) (r:Env') : ctS g (.nx r) = g r :=by unfold ctS; rfl
theorem bD (g:Env' → M Fl) (w:W) : ctS g (.rt w) = pr (.rt w) :=by unfold ctS; rfl
theorem bG (g:Env' → M Fl) (r:Env') : ctS g (.bk r) = pr (.bk r) :=by unfold ctS; rfl
theorem bF (g:Env' → M Fl) (r:Env') : ctS g (.ct r) = pr (.ct r) :=by unfold ctS; rfl
theorem bq (t:Env' → M Bool) (f g : Env' → M Fl) (ρ : Env') : sIf t f g ρ = bd (t ρ) (ctI f g ρ) :=by unfold sIf; rfl
theorem cF (f g : Env' → M Fl) (ρ : Env') : ctI f g ρ true = f ρ := by unfold ctI; rw [if_pos rfl]
theorem cG (f g : Env' → M Fl) (ρ : Env') : ctI f g ρ false = g ρ := by unfold ctI; rw [if_neg Bool.false_ne_true]
end L2
set_option maxHeartbeats 1000000
namespace L2
open PySem PySem.Spec PyProof.Rows
section
variable {X:Cx}{E:XK}{o e f : Expr}{apos cpos : Pos}{fo fe ff : Env' → M W}
end
noncomputable abbrev Tgt := W → Env' → Option Env'
noncomputable def setG : List Tgt → List W → Env' → Option Env'
  | [],[],ρ => some ρ
  | t :: r,w :: l,ρ => (t w ρ).bind (setG r l)
  | _,_,_ => none
section
variable {X:Cx}{E:XK}{o e f : Expr}{es : List Expr}{pos apos cpos : Pos}{l:Env' → M (List W)}{fo fe ff : Env' → M W}
noncomputable def ktW (ws : List W) : M W := match optL keyOf ws with
  | some ks => gd (ws.length ≤ sizeLine) (pr (.kt ks))
  | none => no
noncomputable def mKt (l:Env' → M (List W)) : Env' → M W := fun ρ => bd (l ρ) ktW
theorem kC {K:PySem.W.Frag}{o:Wo} : ∀ {ws : List W}{vs : List V}{ks : List Key},optL keyOf ws = some ks → Rvs K o ws vs → vs = ks.map kV
  | [],vs,ks,e,r => by unfold Rvs at r; cases e; exact r
  | w :: ws,vs,ks,e,r => by
    unfold Rvs at r
    obtain ⟨v,r',rfl,h1,h2⟩ := r
    unfold optL at e
    split at e
    · rename_i b c e1 e2
      cases e
      rw [gz e1 h1,kC e2 h2]
      rfl
    · cases e
theorem nW {x1} (h:JA X E es l) : JE X E (.Tuple es x1 pos) (mKt l) := (qq h.h).imp fun σ H Q h => by
  obtain ⟨o,ρ,rfl,R,S,h⟩ := h
  refine ⟨o,ρ,rfl,R,S,Ps.bd h fun p x vx e1 R1 r1 h1 => ?_⟩
  unfold ktW at h1
  cases ek : optL keyOf x with
  | none => rw [ek] at h1; exact h1.elim
  | some ks =>
    rw [ek] at h1
    obtain ⟨hz,h1⟩ := h1.gd
    refine ⟨by rw [r1.len]; exact hz,fun q hq => Ps.at (p := ⟨p.mu,p.h,upd p.H q (.tup vx)⟩) h1 rfl (Ex.new hq) (R1.new hq) ?_⟩
    unfold Rv
    exact ⟨q,rfl,by rw [← kC ek r1]; exact aN⟩
noncomputable def gW : Env' → M W := fun _ h => .ok (.loc h.length) (h ++ [.dit [] []])
theorem i3 : JE X E (.Dict [] [] pos) gW := pe_dnewT.imp fun σ H Q h => by
  obtain ⟨o,ρ,rfl,R,S,h⟩ := h
  intro q hq
  exact Ps.at (p := o.add q (.dit [] []) (.dT [])) h rfl (Ex.add hq) (R.addT hq rfl Rvs.nil) Rv.addLoc
noncomputable def ditOf (w:W) (h:List Ob) : Option (List (List Key) × List W) := match w with
  | .loc k => match h[k]? with
    | some (.dit ks ws) => some (ks,ws)
    | _ => none
  | _ => none
theorem jb {o:Wo}{w:W}{v:V}{ks : List (List Key)}{ws : List W} (R:Rel X.K o) (e:ditOf w o.h = some (ks,ws)) (h:Rv X.K o w v) : ∃ a kvs,v = .ref a ∧ Rd o.H a (.dT kvs) ∧ kvs.map (·.1) = ks ∧ Rvs X.K o ws (kvs.map (·.2)) :=by
  cases w with
  | loc k =>
    unfold ditOf at e
    dsimp only at e
    split at e
    · rename_i a b hk
      cases e
      unfold Rv at h
      obtain ⟨kvs,h1,h2,h3⟩ := R.ob k _ hk
      exact ⟨_,kvs,h.2,.inl h1,h2,h3⟩
    · cases e
  | _ => cases e
noncomputable def keyT : W → Option (List Key)
  | .kt ks => some ks
  | .tup l => optL keyOf l
  | _ => none
theorem n8 {K:PySem.W.Frag}{o:Wo}{x:W}{v:V}{k:List Key} (e:keyT x = some k) (h:Rv K o x v) : ∃ b,v = .ref b ∧ SqT K o.H b (k.map kV) :=by
  cases x with
  | kt ks => cases e; unfold Rv at h; obtain ⟨a,e,h⟩ := h; exact ⟨a,e,.of h⟩
  | tup l =>
    unfold Rv at h
    obtain ⟨a,vs,e1,s,r⟩ := h
    exact ⟨a,e1,by rw [← kC (show optL keyOf l = some k from e) r]; exact s⟩
  | _ => cases e
theorem n6 {pins : List (Addr × Obj)}{σ : St}{H:Hp}{s:Shared}{b:Addr}{k:List Key} (I:Inv X pins σ H s) (h:SqT X.K H b (k.map kV)) : (tupleKind (bu X.prog X.w)).is s.heap k b :=by
  obtain ⟨its,r,⟨o,h1,h2,n,h3⟩,_⟩ := I.tuple h
  exact ⟨o,its.toArray,n,h1,h2,h3,by simpa using gY r⟩
theorem tm {pins : List (Addr × Obj)}{σ : St}{H:Hp}{s:Shared}{a b : Addr}{d:V}{r:Value}{kvs : List (List Key × V)}{k:List Key}{A:Around}{Ex : Value → Shared → Prop}{Q:Value → Shared → Prop} (hu : A.units + 1 < cLine) (I:Inv X pins σ H s) (e:Rd H a (.dT kvs)) (eb : SqT X.K H b (k.map kV)) (rd : RelV d r) (h:∀ w' s',Inv X pins σ H s' → RelV ((valV kvs k).getD d) w' → Q w' s') :
    wpAny (model X.prog X.w) A (call (.builtin "dict.get") [.ref a,.ref b,r]) Q Ex s :=by
  obtain ⟨z,hd,xs,rel,dd⟩ := gD I.hok e
  refine call_meetsIn PySem.F.slot_dict_get dd.typeIs PySem.F.entry_dict_get (PySem.F.args_dict_get_3 _ _ _) (meetsH_dict_get_default (tupleKind (bu X.prog X.w)) a b hd r) ⟨tupleKind_room_in1 hu,k,xs,n6 I eb,dd,h _ _ (I.tok _) ?_⟩
  exact (rel.val k).getD rd
noncomputable def uf (K:PySem.W.Frag) (td ty tx : TE) : TE := fun σ H Q => td σ H fun x H1 => ∃ a,x = .ref a ∧ IsD H1 a ∧ ty σ H1 fun y H2 => tx σ H2 fun z H3 => ∃ kvs k b,Rd H3 a (.dT kvs) ∧ y = .ref b ∧ SqT K H3 b (k.map kV) ∧ Q ((valV kvs k).getD z) H3
theorem qA {td ty tx : TE} (hu : X.A.units + 1 < cLine) (ho : PE X o td) (he : PE X e ty) (hf : PE X f tx) (m:M2 X o "get" apos e f cpos) : PE X (.Call (.Attribute o "get" apos) [e,f] [] cpos) (uf X.K td ty tx) :=by
  intro pins s σ H Q I h
  refine wpAny_Call_method m.base m.few m.line PySem.F.plainAttrs_dict PySem.F.slot_dict_get PySem.F.type_dict_get (thn (ho pins s σ H _ I h) fun u s1 qz => ?_)
  obtain ⟨x,H1,I1,rx,a,ex,d,q1⟩ := qz
  subst ex
  obtain rfl : u = Value.ref a := rx
  obtain ⟨t1,t2,_⟩ := u8 I1 d
  refine ⟨t1,t2,?_⟩
  rw [m.trees]
  refine Calls.callWith_builtin rfl (Calls.evalArgs_plain (Calls.spliced_cons (thn (he pins s1 σ H1 _ I1 q1) fun iv s2 ⟨y,H2,I2,ry,q2⟩ =>
    Calls.spliced_cons (thn (hf pins s2 σ H2 _ I2 q2) fun fv s3 ⟨z,H3,I3,rz,kvs,k,b,e3,ey,eb,q3⟩ => Calls.spliced_nil ?_))))
  subst ey
  obtain rfl : iv = Value.ref b := ry
  exact tm hu I3 e3 eb rz fun w' s4 I4 rw' => ⟨_,H3,I4,rw',q3⟩
noncomputable def isDT (x:W) : M W := fun h => match ditOf x h with
  | some _ => .ok x h
  | none => .bad
noncomputable def getT (x y d : W) : M W := fun h => match ditOf x h with
  | some (ks,ws) => match keyT y with
    | some k => .ok ((atK ks ws k).getD d) h
    | none => .bad
  | none => .bad
noncomputable def mGetT (fo fe ff : Env' → M W) : Env' → M W := fun ρ => bd (fo ρ) fun x => bd (isDT x) fun x => bd (fe ρ) fun y => bd (ff ρ) fun d => getT x y d
theorem gp (hu : X.A.units + 1 < cLine) (ho : JE X E o fo) (he : JE X E e fe) (hf : JE X E f ff) (m:M2 X o "get" apos e f cpos :=by exact ⟨rfl,rfl,rfl,rfl⟩) : JE X E (.Call (.Attribute o "get" apos) [e,f] [] cpos) (mGetT fo fe ff) :=
  (qA hu ho.h he.h hf.h m).imp fun σ H Q h => by
    obtain ⟨w,ρ,rfl,R,S,h⟩ := h
    refine ⟨w,ρ,rfl,R,S,Ps.bd h fun p x vx e1 R1 r1 h1 => ?_⟩
    unfold bd isDT at h1
    cases ed : ditOf x p.h with
    | none => rw [ed] at h1; exact h1.elim
    | some kw =>
      obtain ⟨ks0,ws0⟩ := kw
      rw [ed] at h1
      obtain ⟨a,kvs0,rfl,d1,_,_⟩ := jb R1 ed r1
      refine ⟨a,rfl,.inr ⟨kvs0,d1⟩,p,ρ,rfl,R1,S.mono R e1,Ps.bd (h := h1) fun q y vy e2 R2 r2 h2 => ⟨q,ρ,rfl,R2,(S.mono R e1).mono R1 e2,Ps.bd h2 fun s z vz e3 R3 r3 h3 => ?_⟩⟩
      have rx := (r1.mono R1 e2).mono R2 e3
      have ry := r2.mono R2 e3
      unfold getT at h3
      cases eh : ditOf x s.h with
      | none => rw [eh] at h3; exact h3.elim
      | some kw =>
        obtain ⟨ks,ws⟩ := kw
        rw [eh] at h3
        cases ek : keyT y with
        | none => simp only [ek] at h3; exact h3.elim
        | some k =>
          simp only [ek] at h3
          obtain ⟨a',kvs,ea,g1,g2,g3⟩ := jb R3 eh rx
          cases ea
          obtain ⟨b,rfl,sb⟩ := n8 ek ry
          refine ⟨kvs,k,b,g1,rfl,sb,?_⟩
          have hv := fI (x := k) g2 g3
          cases e4 : atK ks ws k with
          | none =>
            rw [e4] at hv h3
            rw [show valV kvs k = none from hv]
            exact Ps.pr (c := cg X E) (r := Rv X.K) (a := z) h3 R3 r3
          | some w =>
            rw [e4] at hv h3
            obtain ⟨v,hv,rv⟩ := hv
            rw [show valV kvs k = some v from hv]
            exact Ps.pr (c := cg X E) (r := Rv X.K) (a := w) h3 R3 rv
end
end L2
set_option maxHeartbeats 2000000
namespace L2
open PySem PySem.Spec PyProof.Rows
open Sem (wp)
open Builtin
noncomputable abbrev IsZB (h:Heap) (z TI TO : Addr) (f0 : Value) (f1 : Bool) : Prop :=
  h.get? z = some { cls := .type "zip",dict := none,data := .fields #[f0,.bool f1,.bool false,.ref TI,.ref TO],slots := #[] }
noncomputable def F0 (f:Value) : Prop := f = .none ∨ ∃ T : Nat,f = rawInt T
structure YS (h:Heap) (z TI TO i1 i2 l1 l2 : Addr) (T1 T2 : String) (xs ys : Array Value) (n:Nat) : Prop where
  z : ∃ f0 f1,F0 f0 ∧ IsZB h z TI TO f0 f1
  ti : IsPair h TI (.ref i1) (.ref i2)
  to : ∃ a b,IsPair h TO a b
  u1 : ItAt h T1 i1 l1 n
  u2 : ItAt h T2 i2 l2 n
  s1 : SeqAt h T1 l1 xs
  s2 : SeqAt h T2 l2 ys
section
variable {prog : Program}{w:World}{A:Around}{E:Value → Shared → Prop}{s:Shared}
theorem lU {z TI TO : Addr}{f0 : Value}{f1 : Bool}{Q:Bool → Shared → Prop} (hz : IsZB s.heap z TI TO f0 f1) (hf : F0 f0) (kt : Q true s) (kf : ∀ h',IsZB h' z TI TO f0 true → Heap.SameBut z s.heap h' → Q false { s with heap := h' }) : wpAny (model prog w) A (SmallTypes.ownedTupleIsFree (.ref z)) Q E s :=by
  unfold SmallTypes.ownedTupleIsFree
  rcases hf with rfl | ⟨T,rfl⟩
  · exact wpAny_bind (wpAny_field hz rfl (x := .none) rfl (wpAny_pure kt))
  · refine wpAny_bind (wpAny_field hz rfl (x := rawInt T) rfl ?_)
    show wpAny _ _ (loadIfAlive T >>= _) _ _ s
    refine wpAny_bind (wpAny_alive ?_)
    cases s.heap.get? T with
    | none => exact wpAny_pure kt
    | some o =>
      show wpAny _ _ (field (.ref z) 1 >>= _) _ _ s
      refine wpAny_bind (wpAny_field hz rfl (x := .bool f1) rfl ?_)
      cases f1 with
      | true => exact wpAny_pure (kf s.heap hz (Heap.SameBut.refl _ _))
      | false => exact wpAny_bind (wpAny_setField_rec hz (by simp) fun h1 z1 e1 => wpAny_pure (kf h1 z1 e1))
where
  wpAny_alive {a:Addr}{M:Model}{Q:Option Obj → Shared → Prop}{s:Shared} (h:Q (s.heap.get? a) s) : wpAny M A (loadIfAlive a) Q E s := fun Γ p _ => by
    unfold loadIfAlive
    rw [Sem.wp_loadIfAlive]
    simpa using h
theorem oH {z TI TO i1 i2 l1 l2 : Addr}{T1 T2 : String}{n:Nat}{xs ys : Array Value}{x y : Value}{Q:Value → Shared → Prop} (hh : A.handled = none) (D:ZA z TI TO i1 i2 l1 l2) (Z:YS s.heap z TI TO i1 i2 l1 l2 T1 T2 xs ys n) (hx : xs[n]? = some x) (hy : ys[n]? = some y)
    (k:∀ h' tk,YS h' z TI TO i1 i2 l1 l2 T1 T2 xs ys (n + 1) → IsPair h' s.heap.objs.size x y → h'.objs.size = s.heap.objs.size + 1 → (∀ c o,c ≠ z → c ≠ TO → c ≠ i1 → c ≠ i2 → s.heap.get? c = some o → h'.get? c = some o) → Q (.ref s.heap.objs.size) { s with heap := h',toks := tk }) :
    wpAny (model prog w) A (Builtin.«zip.__next__» ⟨[.ref z],[]⟩) (fun fin s' => ∃ v,fin = .done (.ret v) ∧ Q v s') E s :=by
  obtain ⟨⟨f0,f1,hf,hz⟩,hti,⟨a,b,hto⟩,u1,u2,s1,s2⟩ := Z
  have nx : n < xs.size := (Array.getElem?_eq_some_iff.mp hx).1
  have ny : n < ys.size := (Array.getElem?_eq_some_iff.mp hy).1
  show wpAny _ _ (field (.ref z) 2 >>= _) _ _ s; refine wpAny_bind (wpAny_field hz rfl (x := .bool false) rfl ?_)
  show wpAny _ _ (field (.ref z) 3 >>= _) _ _ s; refine wpAny_bind (wpAny_field hz rfl (x := .ref TI) rfl (wpAny_bind (wpAny_seqItems hti rfl ?_)))
  show wpAny _ _ (SmallTypes.ownedTupleIsFree (.ref z) >>= _) _ _ s
  refine wpAny_bind (lU hz hf ?_ fun h1 z1 e1 => ?_)
  · simp only [if_true]
    refine wpAny_bind (wpAny_rule (wpAny_bind (wpAny_field hz rfl (x := .ref TO) rfl (wpAny_bind (wpAny_setField_rec hz (by simp) fun h1 z1 e1 => ?_)))))
    replace z1 : IsZB h1 z TI TO .ellipsis f1 := z1
    refine wpAny_bind ?_; simp only [List.zipIdx_cons,List.zipIdx_nil,List.forIn_cons,List.forIn_nil]
    refine wpAny_bind (wpAny_bind (wpAny_onRaise ?_)); show wpAny _ _ (SmallTypes.nextOf (.ref i1) >>= _) _ _ _
    refine wpAny_bind ((aM (prog := prog) (w := w) hh T1 i1 l1 D.b4 xs).item n _ _ _ nx ⟨u1.keep fun o q => e1.extBut _ _ D.a3 q,s1.keep fun o q => e1.extBut _ _ D.b2 q⟩ fun x' h2 tk2 px st2 e2 => wpAny_pure ?_)
    have : x' = x := Option.some.inj (px.symm.trans hx)
    subst this
    have to2 : IsPair h2 TO a b := e2.extBut _ _ D.a8 (e1.extBut _ _ D.a2 hto)
    refine wpAny_bind (wpAny_seqItems to2 rfl (wpAny_bind (wpAny_updateSeq_pair to2 fun h3 to3 e3 => ?_)))
    replace to3 : IsPair h3 TO x' b := to3
    refine wpAny_bind (wpAny_letGo (wpAny_pure (wpAny_bind (wpAny_bind (wpAny_onRaise ?_))))); show wpAny _ _ (SmallTypes.nextOf (.ref i2) >>= _) _ _ _
    refine wpAny_bind ((aM (prog := prog) (w := w) hh T2 i2 l2 D.b9 ys).item n _ _ _ ny ⟨u2.keep fun o q => e3.extBut _ _ (Ne.symm D.a9) (e2.extBut _ _ (Ne.symm D.b1) (e1.extBut _ _ D.a4 q)),s2.keep fun o q => e3.extBut _ _ D.b7 (e2.extBut _ _ D.b8 (e1.extBut _ _ D.b6 q))⟩ fun y' h4 tk4 py st4 e4 => wpAny_pure ?_)
    have : y' = y := Option.some.inj (py.symm.trans hy)
    subst this
    have to4 : IsPair h4 TO x' b := e4.extBut _ _ D.a9 to3
    refine wpAny_bind (wpAny_seqItems to4 rfl (wpAny_bind (wpAny_updateSeq_pair to4 fun h5 to5 e5 => ?_)))
    replace to5 : IsPair h5 TO x' y' := to5
    refine wpAny_bind (wpAny_letGo (wpAny_pure (wpAny_pure ?_))); refine wpAny_bind (wpAny_seqItems to5 rfl (wpAny_bind (wpAny_newTuple ?_)))
    have zs : h5.objs.size = s.heap.objs.size :=by rw [e5.1,e4.1,e3.1,e2.1,e1.1]
    have z5 : IsZB h5 z TI TO .ellipsis f1 := e5.extBut _ _ (Ne.symm D.a2) (e4.extBut _ _ (Ne.symm D.a4) (e3.extBut _ _ (Ne.symm D.a2) (e2.extBut _ _ (Ne.symm D.a3) z1)))
    have k5 : ∀ c o,c ≠ z → c ≠ TO → c ≠ i1 → c ≠ i2 → s.heap.get? c = some o → h5.get? c = some o := fun c o c1 c2 c3 c4 e => e5.extBut _ _ c2 (e4.extBut _ _ c4 (e3.extBut _ _ c2 (e2.extBut _ _ c3 (e1.extBut _ _ c1 e))))
    have zl : z < h5.objs.size := Heap.lt_size z5
    show wpAny _ _ (SmallTypes.ownedTupleHandOut (.ref z) (.ref h5.objs.size) >>= _) _ _ _
    refine wpAny_bind ?_; unfold SmallTypes.ownedTupleHandOut
    have z6 : IsZB (h5.push { cls := .type "tuple",data := .seq #[x',y'] }) z TI TO .ellipsis f1 := Heap.get?_push_of_some _ z5
    refine wpAny_bind (wpAny_setField_rec z6 (by simp) fun h7 z7 e7 => ?_)
    replace z7 : IsZB h7 z TI TO (rawInt h5.objs.size) f1 := z7
    refine wpAny_setField_rec z7 (by simp) fun h8 z8 e8 => ?_
    replace z8 : IsZB h8 z TI TO (rawInt h5.objs.size) false := z8
    have up : ∀ c o,c ≠ z → h5.get? c = some o → h8.get? c = some o := fun c o c1 e => e8.extBut _ _ c1 (e7.extBut _ _ c1 (Heap.get?_push_of_some _ e))
    have pr8 : IsPair h8 h5.objs.size x' y' := e8.extBut _ _ (Nat.ne_of_gt zl) (e7.extBut _ _ (Nat.ne_of_gt zl) (Heap.get?_push_size _ rfl))
    have sz8 : h8.objs.size = h5.objs.size + 1 :=by rw [e8.1,e7.1,Heap.size_push]
    rw [zs] at z8 pr8 sz8
    refine wpAny_pure ⟨_,rfl,?_⟩
    show Q (.ref h5.objs.size) _
    rw [zs]
    refine k h8 _ ⟨⟨_,_,.inr ⟨_,rfl⟩,z8⟩,up _ _ D.a1 (k5 _ _ D.a1 D.a5 D.a6 D.a7 hti),⟨_,_,up _ _ D.a2 to5⟩,?_,?_,s1.keep fun o q => up _ _ D.b2 (k5 _ _ D.b2 D.b3 D.b4 D.b5 q),s2.keep fun o q => up _ _ D.b6 (k5 _ _ D.b6 D.b7 D.b8 D.b9 q)⟩ pr8 sz8 fun c o c1 c2 c3 c4 e => up c o c1 (k5 c o c1 c2 c3 c4 e)
    · exact st2.1.keep fun o q => up _ _ D.a3 (e5.extBut _ _ (Ne.symm D.a8) (e4.extBut _ _ D.b1 (e3.extBut _ _ (Ne.symm D.a8) q)))
    · exact st4.1.keep fun o q => up _ _ D.a4 (e5.extBut _ _ (Ne.symm D.a9) q)
  · simp only [Bool.false_eq_true,if_false]
    refine wpAny_bind ?_
    rw [← Array.forIn_toList]
    simp only [List.forIn_cons,List.forIn_nil]
    refine wpAny_bind (wpAny_bind (wpAny_holding ?_)); show wpAny _ _ (SmallTypes.nextOf (.ref i1) >>= _) _ _ _
    refine wpAny_bind ((aM (prog := prog) (w := w) hh T1 i1 l1 D.b4 xs).item n _ _ _ nx ⟨u1.keep fun o q => e1.extBut _ _ D.a3 q,s1.keep fun o q => e1.extBut _ _ D.b2 q⟩ fun x' h2 tk2 px st2 e2 => wpAny_pure ?_)
    have : x' = x := Option.some.inj (px.symm.trans hx)
    subst this
    refine wpAny_pure (wpAny_bind (wpAny_bind (wpAny_holding ?_))); show wpAny _ _ (SmallTypes.nextOf (.ref i2) >>= _) _ _ _
    refine wpAny_bind ((aM (prog := prog) (w := w) hh T2 i2 l2 D.b9 ys).item n _ _ _ ny ⟨u2.keep fun o q => e2.extBut _ _ (Ne.symm D.b1) (e1.extBut _ _ D.a4 q),s2.keep fun o q => e2.extBut _ _ D.b8 (e1.extBut _ _ D.b6 q)⟩ fun y' h4 tk4 py st4 e4 => wpAny_pure ?_)
    have : y' = y := Option.some.inj (py.symm.trans hy)
    subst this
    refine wpAny_pure (wpAny_pure (wpAny_bind (wpAny_newTuple ?_ (show (2 : Nat) ≤ sizeLine by decide))))
    have zs : h4.objs.size = s.heap.objs.size :=by rw [e4.1,e2.1,e1.1]
    have k4 : ∀ c o,c ≠ z → c ≠ i1 → c ≠ i2 → s.heap.get? c = some o → h4.get? c = some o := fun c o c1 c3 c4 e => e4.extBut _ _ c4 (e2.extBut _ _ c3 (e1.extBut _ _ c1 e))
    have z4 : IsZB h4 z TI TO f0 true := e4.extBut _ _ (Ne.symm D.a4) (e2.extBut _ _ (Ne.symm D.a3) z1)
    have up : ∀ c o,h4.get? c = some o → (h4.push { cls := .type "tuple",data := .seq #[x',y'] }).get? c = some o := fun c o e => Heap.get?_push_of_some _ e
    refine wpAny_pure ⟨_,rfl,?_⟩
    show Q (.ref h4.objs.size) _
    have pr8 : IsPair (h4.push { cls := .type "tuple",data := .seq #[x',y'] }) h4.objs.size x' y' := Heap.get?_push_size _ rfl
    have sz8 : (h4.push { cls := .type "tuple",data := .seq #[x',y'] }).objs.size = h4.objs.size + 1 := Heap.size_push ..
    rw [zs] at pr8 sz8 ⊢
    refine k _ _ ⟨⟨_,_,hf,up _ _ z4⟩,up _ _ (k4 _ _ D.a1 D.a6 D.a7 hti),⟨_,_,up _ _ (k4 _ _ D.a2 D.a8 D.a9 hto)⟩,?_,?_,s1.keep fun o q => up _ _ (k4 _ _ D.b2 D.b4 D.b5 q),s2.keep fun o q => up _ _ (k4 _ _ D.b6 D.b8 D.b9 q)⟩ pr8 sz8 fun c o c1 c2 c3 c4 e => up c o (k4 c o c1 c3 c4 e)
    · exact st2.1.keep fun o q => up _ _ (e4.extBut _ _ D.b1 q)
    · exact st4.1.keep fun o q => up _ _ q
theorem pY {z TI TO i1 i2 l1 l2 : Addr}{T1 T2 : String}{n:Nat}{xs ys : Array Value}{Q:Fin → Shared → Prop} (hh : A.handled = none) (D:ZA z TI TO i1 i2 l1 l2) (Z:YS s.heap z TI TO i1 i2 l1 l2 T1 T2 xs ys n) (he : (n = xs.size ∧ n ≤ ys.size) ∨ (n < xs.size ∧ n = ys.size))
    (k:∀ h' tk e,(∀ c o,c ≠ z → c ≠ TO → c ≠ i1 → c ≠ i2 → s.heap.get? c = some o → h'.get? c = some o) → (∃ o,h'.get? e = some o ∧ o.cls = .type "StopIteration") → E (.ref e) { s with heap := h',toks := tk }) :
    wpAny (model prog w) A (Builtin.«zip.__next__» ⟨[.ref z],[]⟩) Q E s :=by
  obtain ⟨⟨f0,f1,hf,hz⟩,hti,⟨a,b,hto⟩,u1,u2,s1,s2⟩ := Z
  show wpAny _ _ (field (.ref z) 2 >>= _) _ _ s; refine wpAny_bind (wpAny_field hz rfl (x := .bool false) rfl ?_)
  show wpAny _ _ (field (.ref z) 3 >>= _) _ _ s; refine wpAny_bind (wpAny_field hz rfl (x := .ref TI) rfl (wpAny_bind (wpAny_seqItems hti rfl ?_)))
  show wpAny _ _ (SmallTypes.ownedTupleIsFree (.ref z) >>= _) _ _ s
  refine wpAny_bind (lU hz hf ?_ fun h1 z1 e1 => ?_)
  · simp only [if_true]
    refine wpAny_bind (wpAny_rule (wpAny_bind (wpAny_field hz rfl (x := .ref TO) rfl (wpAny_bind (wpAny_setField_rec hz (by simp) fun h1 z1 e1 => ?_)))))
    replace z1 : IsZB h1 z TI TO .ellipsis f1 := z1
    refine wpAny_bind ?_; simp only [List.zipIdx_cons,List.zipIdx_nil,List.forIn_cons,List.forIn_nil]
    refine wpAny_bind (wpAny_bind (wpAny_onRaise ?_)); show wpAny _ _ (SmallTypes.nextOf (.ref i1) >>= _) _ _ _
    have st1 : ItAt h1 T1 i1 l1 n ∧ SeqAt h1 T1 l1 xs := ⟨u1.keep fun o q => e1.extBut _ _ D.a3 q,s1.keep fun o q => e1.extBut _ _ D.b2 q⟩
    rcases he with ⟨rfl,_⟩ | ⟨nx,hy⟩
    · refine wpAny_bind ((aM (prog := prog) (w := w) hh T1 i1 l1 D.b4 xs).done _ _ _ st1 fun h2 e e2 he => ?_)
      obtain ⟨oe,g1,g2⟩ := he
      have z2 : IsZB h2 z TI TO .ellipsis f1 := e2 _ _ (Ne.symm D.a3) z1
      have ez : e ≠ z := fun q => by subst q; rw [z2] at g1; cases g1; simp at g2
      exact wpAny_setField_rec z2 (by simp) fun h3 _ e3 => k h3 _ e (fun c o c1 _ c3 _ q => e3.extBut _ _ c1 (e2 _ _ c3 (e1.extBut _ _ c1 q))) ⟨oe,e3.extBut _ _ ez g1,g2⟩
    · refine wpAny_bind ((aM (prog := prog) (w := w) hh T1 i1 l1 D.b4 xs).item n _ _ _ nx st1 fun x' h2 tk2 px st2 e2 => wpAny_pure ?_)
      have to2 : IsPair h2 TO a b := e2.extBut _ _ D.a8 (e1.extBut _ _ D.a2 hto)
      refine wpAny_bind (wpAny_seqItems to2 rfl (wpAny_bind (wpAny_updateSeq_pair to2 fun h3 to3 e3 => ?_)))
      refine wpAny_bind (wpAny_letGo (wpAny_pure (wpAny_bind (wpAny_bind (wpAny_onRaise ?_))))); show wpAny _ _ (SmallTypes.nextOf (.ref i2) >>= _) _ _ _
      subst hy
      refine wpAny_bind ((aM (prog := prog) (w := w) hh T2 i2 l2 D.b9 ys).done _ _ _ ⟨u2.keep fun o q => e3.extBut _ _ (Ne.symm D.a9) (e2.extBut _ _ (Ne.symm D.b1) (e1.extBut _ _ D.a4 q)),s2.keep fun o q => e3.extBut _ _ D.b7 (e2.extBut _ _ D.b8 (e1.extBut _ _ D.b6 q))⟩ fun h4 e e4 he => ?_)
      obtain ⟨oe,g1,g2⟩ := he
      have z4 : IsZB h4 z TI TO .ellipsis f1 := e4 _ _ (Ne.symm D.a4) (e3.extBut _ _ (Ne.symm D.a2) (e2.extBut _ _ (Ne.symm D.a3) z1))
      have ez : e ≠ z := fun q => by subst q; rw [z4] at g1; cases g1; simp at g2
      exact wpAny_setField_rec z4 (by simp) fun h5 _ e5 => k h5 _ e (fun c o c1 c2 c3 c4 q => e5.extBut _ _ c1 (e4 _ _ c4 (e3.extBut _ _ c2 (e2.extBut _ _ c3 (e1.extBut _ _ c1 q))))) ⟨oe,e5.extBut _ _ ez g1,g2⟩
  · simp only [Bool.false_eq_true,if_false]
    refine wpAny_bind ?_
    rw [← Array.forIn_toList]
    simp only [List.forIn_cons,List.forIn_nil]
    refine wpAny_bind (wpAny_bind (wpAny_holding ?_)); show wpAny _ _ (SmallTypes.nextOf (.ref i1) >>= _) _ _ _
    have st1 : ItAt h1 T1 i1 l1 n ∧ SeqAt h1 T1 l1 xs := ⟨u1.keep fun o q => e1.extBut _ _ D.a3 q,s1.keep fun o q => e1.extBut _ _ D.b2 q⟩
    rcases he with ⟨rfl,_⟩ | ⟨nx,hy⟩
    · refine wpAny_bind ((aM (prog := prog) (w := w) hh T1 i1 l1 D.b4 xs).done _ _ _ st1 fun h2 e e2 he => ?_)
      exact k h2 _ e (fun c o c1 _ c3 _ q => e2 _ _ c3 (e1.extBut _ _ c1 q)) he
    · refine wpAny_bind ((aM (prog := prog) (w := w) hh T1 i1 l1 D.b4 xs).item n _ _ _ nx st1 fun x' h2 tk2 px st2 e2 => wpAny_pure ?_)
      refine wpAny_pure (wpAny_bind (wpAny_bind (wpAny_holding ?_))); show wpAny _ _ (SmallTypes.nextOf (.ref i2) >>= _) _ _ _
      subst hy
      refine wpAny_bind ((aM (prog := prog) (w := w) hh T2 i2 l2 D.b9 ys).done _ _ _ ⟨u2.keep fun o q => e2.extBut _ _ (Ne.symm D.b1) (e1.extBut _ _ D.a4 q),s2.keep fun o q => e2.extBut _ _ D.b8 (e1.extBut _ _ D.b6 q)⟩ fun h4 e e4 he => ?_)
      exact k h4 _ e (fun c o c1 c2 c3 c4 q => e4 _ _ c4 (e2.extBut _ _ c3 (e1.extBut _ _ c1 q))) he
theorem o4 {z TI TO i1 i2 l1 l2 : Addr}{T1 T2 : String}{n:Nat}{xs ys : Array Value}{x y : Value}{Q:Option Value → Shared → Prop} (hh : A.in1.handled = none) (D:ZA z TI TO i1 i2 l1 l2) (Z:YS s.heap z TI TO i1 i2 l1 l2 T1 T2 xs ys n) (hx : xs[n]? = some x) (hy : ys[n]? = some y)
    (k:∀ h' tk,YS h' z TI TO i1 i2 l1 l2 T1 T2 xs ys (n + 1) → IsPair h' s.heap.objs.size x y → h'.objs.size = s.heap.objs.size + 1 → (∀ c o,c ≠ z → c ≠ TO → c ≠ i1 → c ≠ i2 → s.heap.get? c = some o → h'.get? c = some o) → Q (some (.ref s.heap.objs.size)) { s with heap := h',toks := tk }) :
    wpAny (model prog w) A (pyNext (.ref z)) Q E s :=by
  have hT : s.TypeIs (.ref z) "zip" := by obtain ⟨f0,f1,_,hz⟩ := Z.z; exact ⟨_,hz,rfl⟩
  unfold pyNext
  exact wpAny_bind (wpAny_attempt (wpAny_callSpecial?_slot (name := Str.ofString "__next__") hT F.slot_zip_next (wpAny_call_entry F.slot_zip_next hT F.entry_zip_next (oH hh D Z hx hy fun h' tk a1 a2 a3 a4 => wpAny_pure (k h' tk a1 a2 a3 a4)) (F.args_zip_next_1 _))))
theorem rG {z TI TO i1 i2 l1 l2 : Addr}{T1 T2 : String}{n:Nat}{xs ys : Array Value}{Q:Option Value → Shared → Prop} (hh : A.in1.handled = none) (D:ZA z TI TO i1 i2 l1 l2) (Z:YS s.heap z TI TO i1 i2 l1 l2 T1 T2 xs ys n) (he : (n = xs.size ∧ n ≤ ys.size) ∨ (n < xs.size ∧ n = ys.size))
    (k:∀ h' tk,(∀ c o,c ≠ z → c ≠ TO → c ≠ i1 → c ≠ i2 → s.heap.get? c = some o → h'.get? c = some o) → Q none { s with heap := h',toks := tk }) : wpAny (model prog w) A (pyNext (.ref z)) Q E s :=by
  have hT : s.TypeIs (.ref z) "zip" := by obtain ⟨f0,f1,_,hz⟩ := Z.z; exact ⟨_,hz,rfl⟩
  unfold pyNext
  refine wpAny_bind (wpAny_attempt (wpAny_callSpecial?_slot (name := Str.ofString "__next__") hT F.slot_zip_next (wpAny_call_entry F.slot_zip_next hT F.entry_zip_next (pY hh D Z he fun h' tk e hk ⟨o,g1,g2⟩ => ?_) (F.args_zip_next_1 _))))
  exact wpAny_bind (wpAny_isInstance (T := "StopIteration") (b := true) ⟨o,g1,g2⟩ isSubtype_stop (wpAny_pure (k _ _ hk)))
theorem pz {z TI TO : Addr}{f0 : Value}{f1 : Bool}{Q:Value → Shared → Prop} (hz : IsZB s.heap z TI TO f0 f1) (h:Q (.ref z) s) : wpAny (model prog w) A (pyIter (.ref z)) Q E s :=by
  have hT : s.TypeIs (.ref z) "zip" := ⟨_,hz,rfl⟩
  refine wpAny_pyIter_slot hT F.slot_zip_iter (wpAny_call_entry F.slot_zip_iter hT F.entry_zip_iter ?_ (F.args_zip_iter_1 _))
  show wpAny _ _ (ret (.ref z)) _ _ s
  exact wpAny_pure ⟨_,rfl, "zip",_,hT,F.slot_zip_next.lookup,h⟩
end
structure YO (h:Heap) (z TI TO i1 i2 a b : Addr) (T1 T2 : String) (n:Nat) : Prop where
  z : ∃ f0 f1,F0 f0 ∧ IsZB h z TI TO f0 f1
  ti : IsPair h TI (.ref i1) (.ref i2)
  to : ∃ u v,IsPair h TO u v
  u1 : ItAt h T1 i1 a n
  u2 : ItAt h T2 i2 b n
theorem YO.keep {h h' : Heap}{z TI TO i1 i2 a b : Addr}{T1 T2 : String}{n:Nat} (Z:YO h z TI TO i1 i2 a b T1 T2 n) (k:∀ c ∈ [z,TI,TO,i1,i2],∀ o,h.get? c = some o → h'.get? c = some o) : YO h' z TI TO i1 i2 a b T1 T2 n :=
  ⟨let ⟨f0,f1,q1,q2⟩ := Z.z; ⟨f0,f1,q1,k z (by simp) _ q2⟩,k TI (by simp) _ Z.ti,let ⟨u,v,q⟩ := Z.to; ⟨u,v,k TO (by simp) _ q⟩,Z.u1.keep fun o q => k i1 (by simp) o q,Z.u2.keep fun o q => k i2 (by simp) o q⟩
theorem oJ {P:Program}{w:World}{K:PySem.W.Frag}{xn : Str}{tpos : Pos}{a b z TI TO i1 i2 : Addr}{j k : Bool} (D:ZA z TI TO i1 i2 a b) : Turn P w K (.Name xn tpos) (Itz j k K a b) [z,TI,TO,i1,i2] z (fun i h => YO h z TI TO i1 i2 a b (tyK j) (tyK k) i) where
  mem :=by simp
  obj := fun i h st c hc => by
    simp only [List.mem_cons,List.not_mem_nil,or_false] at hc
    rcases hc with rfl | rfl | rfl | rfl | rfl
    · obtain ⟨_,_,_,q⟩ := st.z
      exact ⟨_,q,fun v z => by cases z⟩
    · exact ⟨_,st.ti,fun v z => by cases z⟩
    · obtain ⟨_,_,q⟩ := st.to
      exact ⟨_,q,fun v z => by cases z⟩
    · obtain ⟨o,e,c,d⟩ := st.u1
      exact ⟨o,e,fun v z => by rw [d] at z; cases z⟩
    · obtain ⟨o,e,c,d⟩ := st.u2
      exact ⟨o,e,fun v z => by rw [d] at z; cases z⟩
  keep := fun i h h' st kk => st.keep kk
  item :=by
    intro X hP hw hK hc i pins s σ H E I hf st hg
    subst hP hw hK
    obtain ⟨xs,ys,x,y,hq1,hq2,hx,hy⟩ := hg
    obtain ⟨is1,rv1,q1⟩ := I.seqK hq1
    obtain ⟨is2,rv2,q2⟩ := I.seqK hq2
    obtain ⟨u,hu,ru⟩ := rv1.get hx
    obtain ⟨v,hv,rv⟩ := rv2.get hy
    have fz := hf z (by simp)
    have fO := hf TO (by simp)
    have f1 := hf i1 (by simp)
    have f2 := hf i2 (by simp)
    refine o4 (I.ok.hd hc) D ⟨st.z,st.ti,st.to,st.u1,st.u2,q1,q2⟩ (by simpa using hu) (by simpa using hv) fun h' tk Z' hT hsz hk => ?_
    have nT : H s.heap.objs.size = none := I.hok.fresh (Nat.le_refl _)
    have lt : ∀ c o,s.heap.get? c = some o → c ≠ s.heap.objs.size := fun c o q => Nat.ne_of_lt (Heap.lt_size q)
    have ltH : ∀ c o,H c = some o → c ≠ s.heap.objs.size := fun c o q z => by rw [z,nT] at q; cases q
    have neH : ∀ c o,H c = some o → c ≠ z ∧ c ≠ TO ∧ c ≠ i1 ∧ c ≠ i2 := fun c o q => ⟨fun z => by (rw [z,fz.1] at q; cases q),fun z => by (rw [z,fO.1] at q; cases q),fun z => by (rw [z,f1.1] at q; cases q),fun z => by (rw [z,f2.1] at q; cases q)⟩
    have hk' : ∀ c o,c ∉ [z,TO,i1,i2] → s.heap.get? c = some o → h'.get? c = some o := fun c o n q => hk c o (fun z => n (by simp [z])) (fun z => n (by simp [z])) (fun z => n (by simp [z])) (fun z => n (by simp [z])) q
    have I1 : Inv X pins σ (upd H s.heap.objs.size (.tup [x,y])) { s with heap := h',toks := tk } :=by
      refine I.call' (s' := { s with heap := h',toks := tk }) (ch := [z,TO,i1,i2]) rfl ⟨fun b o q n hb hx => ?_,fun b o q n hb hx => ?_,fun b o q n hx => ?_,fun b o q hx => ?_,fun b xs q => ?_,fun b o u q => ?_,fun b ps q => ?_⟩ (fun b o q => ?_) I.bare fun b hb => ?_
      · exact hk' b o hx q
      · exact ⟨o.slots,hk' b o hx q⟩
      · rw [ap (lt b o q)]; exact n
      · exact ⟨o,hk' b o hx q⟩
      · rw [ap (ltH b _ q)]; exact q
      · rw [ap (ltH b _ q)]; exact q
      · exact ⟨#[],by rw [ap (ltH b _ q),q]; simp⟩
      · by_cases hb : b = s.heap.objs.size
        · subst hb
          rw [aN] at q
          cases q
          exact ⟨by show 2 ≤ sizeLine; decide,_,.cons ru (.cons rv .nil),⟨_,hT,rfl,_,rfl⟩,_,hT,rfl⟩
        · rw [ap hb] at q
          refine (I.hok b o q).stay (fun c v hc r => ?_) (fun c r => by rw [ap (ltH c _ r)]; exact r) fun c xs r => by rw [ap (ltH c _ r)]; exact r
          have : ∃ o,H c = some o :=by
            rcases hc with rfl | hc
            · exact ⟨o,q⟩
            · exact ⟨_,hc⟩
          obtain ⟨o',qo⟩ := this
          obtain ⟨n1,n2,n3,n4⟩ := neH c o' qo
          exact hk c v n1 n2 n3 n4 r
      · have fb : FpOk X pins H b :=by
          simp only [List.mem_cons,List.not_mem_nil,or_false] at hb
          rcases hb with rfl | rfl | rfl | rfl
          · exact fz
          · exact fO
          · exact f1
          · exact f2
        exact ⟨fb.2.2.2.1,fb.2.1,fb.2.2.2.2.1,fb.2.2.2.2.2⟩
    have nn : ∀ c ∈ [z,TI,TO,i1,i2],c ≠ s.heap.objs.size := fun c hc => by
      simp only [List.mem_cons,List.not_mem_nil,or_false] at hc
      rcases hc with rfl | rfl | rfl | rfl | rfl
      · obtain ⟨_,_,_,q⟩ := st.z; exact lt _ _ q
      · exact lt _ _ st.ti
      · obtain ⟨_,_,q⟩ := st.to; exact lt _ _ q
      · obtain ⟨o,e,_⟩ := st.u1; exact lt _ _ e
      · obtain ⟨o,e,_⟩ := st.u2; exact lt _ _ e
    refine ⟨_,rfl,wpAny_pure ⟨.ref s.heap.objs.size,upd H s.heap.objs.size (.tup [x,y]),I1,rfl,⟨s.heap.objs.size,x,y,nT,rfl,fun xs' ys' h1 h2 => by rw [I.seqK_inj h1 hq1,I.seqK_inj h2 hq2]; exact ⟨hx,hy⟩,rfl⟩,⟨Z'.z,Z'.ti,Z'.to,Z'.u1,Z'.u2⟩,fun c hc => ?_⟩⟩
    rw [ap (nn c hc)]
    exact (hf c hc).1
  done :=by
    intro X hP hw hK hc i pins s σ H E I hf st hg
    subst hP hw hK
    obtain ⟨xs,ys,hq1,hq2,hx⟩ := hg
    obtain ⟨is1,rv1,q1⟩ := I.seqK hq1
    obtain ⟨is2,rv2,q2⟩ := I.seqK hq2
    have l1 := rv1.length
    have l2 := rv2.length
    have fz := hf z (by simp)
    have fO := hf TO (by simp)
    have f1 := hf i1 (by simp)
    have f2 := hf i2 (by simp)
    refine rG (I.ok.hd hc) D ⟨st.z,st.ti,st.to,st.u1,st.u2,q1,q2⟩ (by
      rw [List.size_toArray,List.size_toArray]
      omega) fun h' tk hk => ⟨rfl,?_⟩
    refine I.call' (s' := { s with heap := h',toks := tk }) (ch := [z,TO,i1,i2]) rfl ⟨fun b o q n hb hx => ?_,fun b o q n hb hx => ?_,fun b o q n hx => n,fun b o q hx => ?_,fun b xs q => q,fun b o u q => q,fun b ps q => ⟨#[],by rw [q]; simp⟩⟩ (fun b o q => ?_) I.bare fun b hb => ?_
    · exact hk b o (fun z => hx (by simp [z])) (fun z => hx (by simp [z])) (fun z => hx (by simp [z])) (fun z => hx (by simp [z])) q
    · exact ⟨o.slots,hk b o (fun z => hx (by simp [z])) (fun z => hx (by simp [z])) (fun z => hx (by simp [z])) (fun z => hx (by simp [z])) q⟩
    · exact ⟨o,hk b o (fun z => hx (by simp [z])) (fun z => hx (by simp [z])) (fun z => hx (by simp [z])) (fun z => hx (by simp [z])) q⟩
    · refine (I.hok b o q).stay (fun c v hc r => ?_) (fun c r => r) fun c xs r => r
      have : ∃ o,H c = some o :=by
        rcases hc with rfl | hc
        · exact ⟨o,q⟩
        · exact ⟨_,hc⟩
      obtain ⟨o',qo⟩ := this
      exact hk c v (fun z => by rw [z,fz.1] at qo; cases qo) (fun z => by rw [z,fO.1] at qo; cases qo) (fun z => by rw [z,f1.1] at qo; cases qo) (fun z => by rw [z,f2.1] at qo; cases qo) r
    · have fb : FpOk X pins H b :=by
        simp only [List.mem_cons,List.not_mem_nil,or_false] at hb
        rcases hb with rfl | rfl | rfl | rfl
        · exact fz
        · exact fO
        · exact f1
        · exact f2
      exact ⟨fb.2.2.2.1,fb.2.1,fb.2.2.2.2.1,fb.2.2.2.2.2⟩
  self := fun _ _ _ _ _ st h => by obtain ⟨_,_,_,q⟩ := st.z; exact pz q h
section
variable {X:Cx}
theorem ss {j k : Bool}{a b : Expr}{ta : TA}{p pos : Pos}{xn : Str}{tpos : Pos} (hg : Gl X "zip") (hm : X.mg "zip" = none) (ha : PA X [a,b] ta) (hs : starEach [a,b] X.env = [(false,eval a X.env),(false,eval b X.env)] :=by rfl) (hs2 : starEach [b] X.env = [(false,eval b X.env)] :=by rfl) : PI X (.Name xn tpos) (.Call (.Name "zip" p) [a,b] [] pos) (iZip j k X.K ta) :=by
  intro pins s σ H R I h
  refine Call_ (dc I hg hm boot_zip (PyProof.Rows.callWith_type1 (thn (ha pos pins s σ H _ I h) fun us s1 qz => ?_) (by rw [hs,hs2]) (by rw [hs2]; rfl)))
  obtain ⟨vs,H1,I1,r1,q1⟩ := qz
  obtain ⟨a',b',e,⟨xs,hq1⟩,⟨ys,hq2⟩,q⟩ := q1
  subst e
  obtain ⟨u,v,rfl,ru,rv⟩ := r1.two
  cases ru
  cases rv
  obtain ⟨is1,rv1,t1⟩ := I1.seqK hq1
  obtain ⟨is2,rv2,t2⟩ := I1.seqK hq2
  have lt : ∀ {T:String}{l:Addr}{u:Array Value},SeqAt s1.heap T l u → l < s1.heap.objs.size := fun {T l u} h => by
    rcases h with ⟨_,o,e,_⟩ | ⟨_,o,e,_⟩ <;> exact Heap.lt_size e
  refine jR t1 t2 fun h' Z hsz hk => wpAny_pyIter_zip Z.z ?_
  have I2 : Inv X pins σ H1 { s1 with heap := h' } := I1.kept (t' := s1.toks) hk
  refine ⟨s1.heap.objs.size + 4,[s1.heap.objs.size + 4,s1.heap.objs.size + 2,s1.heap.objs.size + 3,s1.heap.objs.size,s1.heap.objs.size + 1],_,_,H1,rfl,I2,oJ (j := j) (k := k) (pZ (lt t1) (lt t2)),⟨⟨_,_,.inl rfl,Z.z⟩,Z.ti,Z.to,Z.u1,Z.u2⟩,fun c hc => ?_,q⟩
  have hc' : s1.heap.objs.size ≤ c :=by
    simp only [List.mem_cons,List.not_mem_nil,or_false] at hc
    rcases hc with rfl | rfl | rfl | rfl | rfl
    · exact Nat.le_add_right _ _
    · exact Nat.le_add_right _ _
    · exact Nat.le_add_right _ _
    · exact Nat.le_refl _
    · exact Nat.le_add_right _ _
  exact I1.fpOk hc' (I1.hok.fresh hc')
end
end L2
set_option maxHeartbeats 2000000
namespace L2
open PySem PySem.Spec PyProof.Rows
section
variable {X:Cx}{E:XK}{p pos : Pos}
theorem sQ (j k : Bool) {a b : Expr}{xn : Str}{tpos : Pos}{fl : Env' → M (List W)} (hm : X.mg "zip" = none) (ha : JA X E [a,b] fl) (hg : Gl X "zip" := by rfl) (hs : starEach [a,b] X.env = [(false,eval a X.env),(false,eval b X.env)] :=by rfl) (hs2 : starEach [b] X.env = [(false,eval b X.env)] :=by rfl) :
    JI X E (.Name xn tpos) (.Call (.Name "zip" p) [a,b] [] pos) (mSrcA fl (srcZ j k)) := (ss (j := j) (k := k) hg hm ha.h hs hs2).imp fun σ H Q h => by
  obtain ⟨o,ρ,rfl,R,S,h⟩ := h
  refine ⟨o,ρ,rfl,R,S,Ps.bd h fun p x vx e1 R1 r1 h1 => ?_⟩
  rcases x with _ | ⟨w,_ | ⟨w2,_ | ⟨_,_⟩⟩⟩
  · exact h1.elim
  · exact h1.elim
  · have h1 : Ps (cg X E) (fun p s J => SrcOk X.K p J s) p (bd (srcA j w) (fun s => bd (srcA k w2) fun t => pr ⟨zipW s.l t.l,fun h => s.G h ∧ t.G h⟩) p.h) Q := h1
    obtain ⟨v,u,rfl,rv,ru⟩ := r1.two
    obtain ⟨s,a,rfl,hq,sk,h1⟩ := im R1 rv h1
    obtain ⟨t,b,rfl,hq2,sk2,h1⟩ := im R1 ru h1
    refine ⟨a,b,rfl,hq,hq2,h1.pr R1 ⟨fun o X R g => ?_,fun o i w X R g e => ?_⟩⟩
    · obtain ⟨vs,k1,k2⟩ := sk o X R g.1
      obtain ⟨us,k3,k4⟩ := sk2 o X R g.2
      exact ⟨vs,us,k1,k3,by rw [k2.len,k4.len]; show _ = (zipW s.l t.l).length; unfold zipW; rw [List.length_zipWith]⟩
    · obtain ⟨vs,k1,k2⟩ := sk o X R g.1
      obtain ⟨us,k3,k4⟩ := sk2 o X R g.2
      obtain ⟨x,y,ex,ey,rfl⟩ := fR e
      obtain ⟨v1,hv1,rv1⟩ := k2.get ex
      obtain ⟨v2,hv2,rv2⟩ := k4.get ey
      refine ⟨⟨vs,us,v1,v2,k1,k3,hv1,hv2⟩,fun q H' yl => ?_⟩
      obtain ⟨T,z1,z2,hT,rfl,hz,rfl⟩ := yl
      obtain ⟨g1,g2⟩ := hz vs us k1 k3
      have e1 : z1 = v1 := Option.some.inj (g1.symm.trans hv1)
      have e2 : z2 = v2 := Option.some.inj (g2.symm.trans hv2)
      subst e1 e2
      refine ⟨⟨o.mu,o.h,upd o.H T (.tup [z1,z2])⟩,rfl,rfl,Ex.new hT,R.new hT,Rv.newT R hT (Rvs.cons rv1 (Rvs.cons rv2 Rvs.nil))⟩
  · exact h1.elim
end
end L2
set_option maxHeartbeats 1000000
namespace L2
open PySem PySem.Spec PyProof.Rows
noncomputable abbrev KN : List (PKy × Addr × V) → List (PKy × Addr × Value) → Prop := Paired fun p q => p.1 = q.1 ∧ p.2.1 = q.2.1 ∧ RelV p.2.2 q.2.2
noncomputable def kvN (xs : List (PKy × Addr × V)) : List (PKy × V) := xs.map fun x => (x.1,x.2.2)
noncomputable def putPk (xs : List (PKy × Addr × V)) (k:PKy) (c:Addr) (v:V) : List (PKy × Addr × V) :=
  if (xs.any fun x => decide (x.1 = k)) = true then xs.map (fun x => if x.1 = k then (x.1,x.2.1,v) else x) else xs ++ [(k,c,v)]
theorem nZ (xs : List (PKy × Addr × V)) (k:PKy) : ((kvN xs).any fun kv => decide (kv.1 = k)) = (xs.any fun x => decide (x.1 = k)) :=by unfold kvN; rw [List.any_map]; rfl
theorem nY (xs : List (PKy × Addr × V)) (k:PKy) (c:Addr) (v:V) : kvN (putPk xs k c v) = putK (kvN xs) k v :=by
  unfold putPk putK
  rw [nZ]
  by_cases z : (xs.any fun x => decide (x.1 = k)) = true
  · rw [if_pos z,if_pos z]
    unfold kvN
    rw [List.map_map,List.map_map]
    refine List.map_congr_left fun x _ => ?_
    show ((if x.1 = k then (x.1,x.2.1,v) else x).1,(if x.1 = k then (x.1,x.2.1,v) else x).2.2) = if x.1 = k then (x.1,v) else (x.1,x.2.2)
    split <;> rfl
  · rw [if_neg z,if_neg z]
    unfold kvN
    rw [List.map_append]; rfl
theorem KN.val {xs : List (PKy × Addr × V)}{ys : List (PKy × Addr × Value)} (r:KN xs ys) (k:PKy) : RelO (valV (kvN xs) k) ((atKey ys k).map (·.2)) :=by
  induction r with
  | nil => exact True.intro
  | @cons p q ps qs h t ih =>
    obtain ⟨h1,_,h2⟩ := h
    show RelO (valV ((p.1,p.2.2) :: kvN ps) k) _
    by_cases e : p.1 = k
    · have e' : q.1 = k := h1.symm.trans e
      have b : atKey (q :: qs) k = some q.2 :=by simp [atKey,List.find?_cons,e']
      rw [fS (show (p.1,p.2.2).1 = k from e),b]; exact h2
    · have e' : ¬ q.1 = k := fun z => e (h1.trans z)
      have b : atKey (q :: qs) k = atKey qs k :=by simp [atKey,List.find?_cons,e']
      rw [fT (show ¬ (p.1,p.2.2).1 = k from e),b]; exact ih
theorem KN.repl {xs : List (PKy × Addr × V)}{ys : List (PKy × Addr × Value)} (r:KN xs ys) (k:PKy) {y:V}{u:Value} (ry : RelV y u) :
    KN (xs.map fun x => if x.1 = k then (x.1,x.2.1,y) else x) (ys.map (putAt k u)) :=by
  induction r with
  | nil => exact .nil
  | @cons p q ps qs h t ih =>
    rw [List.map_cons,List.map_cons]
    refine .cons ?_ ih
    obtain ⟨h1,h2,h3⟩ := h
    unfold putAt
    by_cases e : p.1 = k
    · rw [if_pos e,if_pos (h1.symm.trans e)]; exact ⟨h1,h2,ry⟩
    · rw [if_neg e,if_neg (fun z => e (h1.trans z))]; exact ⟨h1,h2,h3⟩
theorem KN.put {xs : List (PKy × Addr × V)}{ys : List (PKy × Addr × Value)} (r:KN xs ys) (k:PKy) {b:Addr}{y:V}{u:Value} (ry : RelV y u) : KN (putPk xs k b y) (storedH ys k b u) :=by
  have e : (xs.any fun x => decide (x.1 = k)) = (atKey ys k).isSome :=by
    rw [← nZ,iH,(r.val k).isSome_eq,Option.isSome_map]
  unfold putPk storedH
  rw [e]
  by_cases q : (atKey ys k).isSome = true
  · rw [if_pos q,if_pos q]; exact r.repl k ry
  · rw [if_neg q,if_neg q]; exact Paired.snoc r ⟨rfl,rfl,ry⟩
theorem oQ {xs : List (PKy × Addr × V)}{k:PKy}{c:Addr}{v:V}{x:PKy × Addr × V} (h:x ∈ putPk xs k c v) : (∃ y ∈ xs,y.1 = x.1 ∧ y.2.1 = x.2.1) ∨ (x.1 = k ∧ x.2.1 = c) :=by
  unfold putPk at h
  split at h
  · obtain ⟨y,hy,rfl⟩ := List.mem_map.mp h
    refine .inl ⟨y,hy,?_⟩
    split <;> exact ⟨rfl,rfl⟩
  · rcases List.mem_append.mp h with h | h
    · exact .inl ⟨x,h,rfl,rfl⟩
    · rw [List.mem_singleton.mp h]; exact .inr ⟨rfl,rfl⟩
section
variable {X:Cx}{pins : List (Addr × Obj)}{σ : St}{H:Hp}{s:Shared}{a c : Addr}{b:Bool}{k:PKy}{xs : List (PKy × Addr × V)}{A:Around}{Ex : Value → Shared → Prop}
theorem lS : ∀ {ks : List Int}{us : List Value},Vals (ks.map V.int) us → ItemsAre (intKind X.prog X.w) ks us
  | [],_,r => by rw [List.map_nil] at r; cases r; exact .nil
  | k :: ks,_,r => by
    rw [List.map_cons] at r
    cases r with
    | cons h t =>
      obtain ⟨tk,e⟩ := (show ∃ t,_ = Value.int k t from h)
      subst e
      exact .cons (by simp [intKind,Value.isInt]) (lS t)
theorem kD (I:Inv X pins σ H s) (h:KeyN X.K H b c k) : IsPk X.prog X.w b s.heap k c :=by
  obtain ⟨d,h1,h2⟩ := h
  obtain ⟨its2,r2,⟨o2,g1,g2,n2,g3⟩,_⟩ := I.tuple h2
  obtain ⟨its,r,⟨o,q1,q2,n,q3⟩,_⟩ := I.tuple h1
  have kd : IsTupleKey (intKind X.prog X.w) s.heap k.2 d := ⟨o2,its2.toArray,n2,g1,g2,g3,by simpa using lS r2⟩
  cases b with
  | false =>
    obtain ⟨u,v,rfl,ru,rv⟩ := r.two
    cases rv
    obtain ⟨t,e⟩ := (show ∃ t,u = Value.int k.1 t from ru)
    subst e
    exact ⟨o,_,n,d,_,q1,q2,q3,kd,by simp [Value.isInt],rfl⟩
  | true =>
    obtain ⟨u,v,rfl,ru,rv⟩ := r.two
    cases ru
    obtain ⟨t,e⟩ := (show ∃ t,v = Value.int k.1 t from rv)
    subst e
    exact ⟨o,_,n,d,_,q1,q2,q3,kd,by simp [Value.isInt],rfl⟩
theorem rJ (I:Inv X pins σ H s) (e:H a = some (.dN b xs)) (hk : ∀ x ∈ xs,KeyN X.K H b x.2.1 x.1) : xs.length ≤ sizeLine ∧ (a == sysModules) = false ∧ ∃ ys,KN xs ys ∧ s.heap.DictOfH (mE X.prog X.w b) a ys :=by
  obtain ⟨z,y,ys,r,o,es,ep,h1,h2,h3,h4,h5⟩ := (show ObjOk X.prog X.w H s.heap a (.dN b xs) from I.hok a _ e)
  refine ⟨z,y,ys,r,o,es,ep,h1,h2,h3,h4,?_,h5⟩
  clear h4 h5 e
  induction r with
  | nil => intro x hx; exact nomatch hx
  | @cons p q ps qs hq t ih =>
    intro x hx
    rcases List.mem_cons.mp hx with e | hx
    · subst e
      have := kD I (hk p List.mem_cons_self)
      rw [← hq.1,← hq.2.1]
      exact this
    · exact ih (fun x hx => hk x (List.mem_cons_of_mem _ hx)) (by rw [List.length_cons] at z; omega) x hx
theorem o7 {v:V}{Q:Value → Shared → Prop} (hu : A.units + 2 < cLine) (I:Inv X pins σ H s) (e:H a = some (.dN b xs)) (hk : ∀ x ∈ xs,KeyN X.K H b x.2.1 x.1) (hc : KeyN X.K H b c k) (l:valV (kvN xs) k = some v) (h:∀ w' s',Inv X pins σ H s' → RelV v w' → Q w' s') :
    wpAny (model X.prog X.w) A (getItem (.ref a) (.ref c)) Q Ex s :=by
  obtain ⟨z,hd,ys,rel,dd⟩ := rJ I e hk
  obtain ⟨w',hw,rw'⟩ := RelO.some_of (v := v) (o := (atKey ys k).map (·.2)) (by rw [← l]; exact rel.val k)
  obtain ⟨p,hp,hp2⟩ := Option.map_eq_some_iff.mp hw
  refine wpAny_getItem_heap (knd := mE X.prog X.w b) hu (kD I hc) dd hp ?_
  rw [hp2]
  exact h w' _ (I.tok _) rw'
theorem o6 {v:V}{r:Value}{Q:Unit → Shared → Prop} (hu : A.units + 2 < cLine) (I:Inv X pins σ H s) (e:H a = some (.dN b xs)) (hk : ∀ x ∈ xs,KeyN X.K H b x.2.1 x.1) (hc : KeyN X.K H b c k) (l:xs.length < sizeLine) (rv : RelV v r) (h:∀ s',Inv X pins σ (upd H a (.dN b (putPk xs k c v))) s' → Q () s') :
    wpAny (model X.prog X.w) A (setItem (.ref a) (.ref c) r) Q Ex s :=by
  obtain ⟨z,hd,ys,rel,dd⟩ := rJ I e hk
  have hz : ys.length ≤ sizeLine :=by rw [← Paired.length rel]; exact z
  have hl : (putPk xs k c v).length ≤ sizeLine :=by
    have := eZ (kvN xs) k v
    rw [← nY xs k c v] at this
    unfold kvN at this
    rw [List.length_map,List.length_map] at this
    omega
  refine wpAny_setItem_heap (hsz := hz) (knd := mE X.prog X.w b) hu (kD I hc) dd fun h' dd' hs => h _ ?_
  obtain ⟨q,es,ep,hq,h2,h3,h4,_,h5⟩ := dd'
  exact kO I (by rw [e]; exact True.intro) hs ⟨q,hq⟩ ⟨hl,hd,_,rel.put k rv,q,es,ep,hq,h2,h3,h4,h5⟩
end
section
variable {X:Cx}{E:XK}{a b : Expr}{pos : Pos}{fa fb fv : Env' → M W}
noncomputable def dinOf (w:W) (h:List Ob) : Option (Bool × List PKy × List W) := match w with
  | .loc k => match h[k]? with
    | some (.din b ks ws) => some (b,ks,ws)
    | _ => none
  | _ => none
theorem rL {o:Wo}{w:W}{v:V}{b:Bool}{ks : List PKy}{ws : List W} (R:Rel X.K o) (e:dinOf w o.h = some (b,ks,ws)) (h:Rv X.K o w v) : ∃ a xs,v = .ref a ∧ o.H a = some (.dN b xs) ∧ xs.map (·.1) = ks ∧ (∀ x ∈ xs,KeyN X.K o.H b x.2.1 x.1) ∧ Rvs X.K o ws (xs.map (·.2.2)) :=by
  cases w with
  | loc k =>
    unfold dinOf at e
    dsimp only at e
    split at e
    · rename_i b' ks' ws' hk
      cases e
      unfold Rv at h
      obtain ⟨xs,h1,h2,h3,h4⟩ := R.ob k _ hk
      exact ⟨_,xs,h.2,h1,h2,h3,h4⟩
    · cases e
  | _ => cases e
noncomputable def keyN (b:Bool) (w:W) : Option PKy := match b,w with
  | false,.tup [.int i,.tup l] => (optL iOf l).map fun ns => (i,ns)
  | true,.tup [.tup l,.int i] => (optL iOf l).map fun ns => (i,ns)
  | _,_ => none
theorem n9 {o:Wo}{b:Bool}{w:W}{v:V}{k:PKy} (e:keyN b w = some k) (h:Rv X.K o w v) : ∃ c,v = .ref c ∧ KeyN X.K o.H b c k :=by
  unfold keyN at e
  split at e
  · rename_i i l
    obtain ⟨ns,e1,rfl⟩ := Option.map_eq_some_iff.mp e
    unfold Rv at h
    obtain ⟨c,vs,rfl,s,r⟩ := h
    obtain ⟨u,v,rfl,ru,rv⟩ := r.two
    unfold Rv at rv
    obtain ⟨d,us,rfl,s2,r2⟩ := rv
    have eu := rv_int.mp ru
    subst eu
    have e2 : us = ns.map V.int := fk i9 e1 r2
    subst e2
    exact ⟨c,rfl,d,s,s2⟩
  · rename_i l i
    obtain ⟨ns,e1,rfl⟩ := Option.map_eq_some_iff.mp e
    unfold Rv at h
    obtain ⟨c,vs,rfl,s,r⟩ := h
    obtain ⟨u,v,rfl,ru,rv⟩ := r.two
    unfold Rv at ru
    obtain ⟨d,us,rfl,s2,r2⟩ := ru
    have eu := rv_int.mp rv
    subst eu
    have e2 : us = ns.map V.int := fk i9 e1 r2
    subst e2
    exact ⟨c,rfl,d,s,s2⟩
  · cases e
noncomputable def ue (b:Bool) : TE := fun _ H Q => ∀ p,H p = none → Q (.ref p) (upd H p (.dN b []))
theorem rK {P:Program}{w:World}{H:Hp} (b:Bool) (h:Heap) (hb : sysModules < h.objs.size) : ObjOk P w H (h.push { cls := .type "dict",data := .dict #[] }) h.objs.size (.dN b []) :=
  ⟨Nat.zero_le _,beq_eq_false_iff_ne.mpr (Ne.symm (Nat.ne_of_lt hb)),[],.nil,_,#[],0,Heap.get?_push_size _ rfl,⟨rfl,rfl,rfl⟩,rfl,rfl,List.nodup_nil⟩
theorem qy (b:Bool) : PE X (.Dict [] [] pos) (ue b) := fun pins s σ H Q I h =>
  wpAny_Dict_empty ⟨.ref s.heap.objs.size,_,I.laid (a := s.heap.objs.size) (o := .dN b []) (t' := s.toks) (fun _ _ q => Heap.get?_push_of_some _ q) (Nat.le_refl _) (rK b s.heap I.big),rfl,h _ (I.hok.fresh (Nat.le_refl _))⟩
noncomputable def mZ (b:Bool) : Env' → M W := fun _ h => .ok (.loc h.length) (h ++ [.din b [] []])
theorem q5 (b:Bool) : JE X E (.Dict [] [] pos) (mZ b) := (qy b).imp fun σ H Q h => by
  obtain ⟨o,ρ,rfl,R,S,h⟩ := h
  intro q hq
  exact Ps.at (p := o.add q (.din b [] []) (.dN b [])) h rfl (Ex.add hq) (R.add hq ⟨[],aN,rfl,fun _ hx => absurd hx List.not_mem_nil,Rvs.nil⟩) Rv.addLoc
noncomputable def rIxN (K:PySem.W.Frag) : R2 := fun x y H Q => ∃ a b xs c k v,x = .ref a ∧ y = .ref c ∧ H a = some (.dN b xs) ∧ (∀ x ∈ xs,KeyN K H b x.2.1 x.1) ∧ KeyN K H b c k ∧ valV (kvN xs) k = some v ∧ Q v H
theorem wd (hu : X.A.units + 2 < cLine) : IxR X (rIxN X.K) :=by
  intro value slice pins s σ H x y v u Q I rx ry h hs
  obtain ⟨a,b,xs,c,k,z,rfl,rfl,e,hk,hc,l,q⟩ := h
  cases rx
  cases ry
  obtain ⟨_,_,ys,_,dd⟩ := rJ I e hk
  exact tail_any dd.typeIs PySem.F.slot_dict_getitem.lookup (o7 hu I e hk hc l fun w' s3 I3 rw' => ⟨z,H,I3,rw',q⟩) hs
noncomputable def ixN' (x y : W) : M W := fun h => match dinOf x h with
  | some (b,ks,ws) => match keyN b y with
    | some k => match atK ks ws k with
      | some w => .ok w h
      | none => .bad
    | none => .bad
  | none => .bad
theorem sG : OpM X E (rIxN X.K) ixN' :=by
  intro o x y vx vy Q R rx ry h
  unfold ixN' at h
  cases e1 : dinOf x o.h with
  | none => rw [e1] at h; exact h.elim
  | some t =>
    obtain ⟨b,ks,ws⟩ := t
    rw [e1] at h
    cases e2 : keyN b y with
    | none => simp only [e2] at h; exact h.elim
    | some k =>
      simp only [e2] at h
      cases e3 : atK ks ws k with
      | none => simp only [e3] at h; exact h.elim
      | some w =>
        simp only [e3] at h
        obtain ⟨a,xs,rfl,g1,g2,g3,g4⟩ := rL R e1 rx
        obtain ⟨c,rfl,hc⟩ := n9 e2 ry
        have hv := fI (x := k) (kvs := kvN xs) (ks := ks) (ws := ws) (by unfold kvN; rw [List.map_map]; exact g2) (by unfold kvN; rw [List.map_map]; exact g4)
        rw [e3] at hv
        obtain ⟨v,hv,rv⟩ := hv
        exact ⟨a,b,xs,c,k,v,rfl,rfl,g1,g3,hc,hv,Ps.pr (c := cg X E) (r := Rv X.K) (a := w) h R rv⟩
theorem qY (hu : X.A.units + 64 < cLine) (ha : JE X E a fa) (hb : JE X E b fb) (hs : iB b) : JE X E (.Subscript a b pos) (m2 ixN' fa fb) :=
  (qw (wd (Nat.lt_of_le_of_lt (Nat.add_le_add_left (by decide : 2 ≤ 64) _) hu)) ha.h hb.h hs).imp fun _ _ _ h => oO sG h
noncomputable def rSetN (K:PySem.W.Frag) : TSet := fun o i v H Q => ∃ a b xs c k,o = .ref a ∧ i = .ref c ∧ H a = some (.dN b xs) ∧ (∀ x ∈ xs,KeyN K H b x.2.1 x.1) ∧ KeyN K H b c k ∧ xs.length < sizeLine ∧ Q (upd H a (.dN b (putPk xs k c v)))
theorem vC (hu : X.A.units + 2 < cLine) : PSet X (rSetN X.K) :=by
  intro pins s σ H o i v ov iv u Q I ro ri rv h
  obtain ⟨a,b,xs,c,k,rfl,rfl,e,hk,hc,l,q⟩ := h
  cases ro
  cases ri
  exact o6 hu I e hk hc l rv fun s4 I4 => ⟨_,I4,q⟩
noncomputable def jX (x i v : W) : M Unit := match x with
  | .loc j => fun h => match h[j]? with
    | some (.din b ks ws) => match keyN b i with
      | some k => if ks.length < sizeLine then .ok () (h.set j (.din b (putW ks ws k v).1 (putW ks ws k v).2)) else .bad
      | none => .bad
    | _ => .bad
  | _ => no
noncomputable def nK (fo fi fv : Env' → M W) : Env' → M Fl := fun ρ => bd (fv ρ) fun v => bd (fo ρ) fun x => bd (fi ρ) fun i => bd (jX x i v) fun _ => pr (.nx ρ)
theorem pc {o i value : Expr}{tpos : Pos}{fo fi : Env' → M W} (hu : X.A.units + 64 < cLine) (ho : JE X E o fo) (hi : JE X E i fi) (hv : JE X E value fv)
    (ha : ∀ v,assign (.Subscript o i tpos) X.env v = (do
      let ov ← holding [v] (eval o X.env)
      let iv ← holding [v,ov] (eval i X.env)
      standAt tpos
      holding [v,ov,iv] (setItem ov iv v)
      release [v,ov,iv] []) :=by intro _; rfl)
    (hs : swapsWithSole [.Subscript o i tpos] value pos.line X.env = pure false :=by rfl) (hw : swappedStores [.Subscript o i tpos] value X.env = pure none :=by rfl)
    (h1 : (assignEach [.Subscript o i tpos] X.env).map (·.2) = [assign (.Subscript o i tpos) X.env] :=by rfl) : JS X E (.Assign [.Subscript o i tpos] value pos) (nK fo fi fv) :=
  (qk hv.h (qp ho.h hi.h (vC (Nat.lt_of_le_of_lt (Nat.add_le_add_left (by decide : 2 ≤ 64) _) hu)) ha) hs hw h1).imp fun D σ H h => by
    obtain ⟨w,ρ,rfl,R,S,h⟩ := h
    refine ⟨w,ρ,rfl,R,S,Ps.bd h fun p v vv e1 R1 r1 h1 => ⟨p,ρ,rfl,R1,S.mono R e1,Ps.bd h1 fun q x vx e2 R2 r2 h2 => ⟨q,ρ,rfl,R2,(S.mono R e1).mono R1 e2,Ps.bd h2 fun s i vi e3 R3 r3 h3 => ?_⟩⟩⟩
    have S3 := ((S.mono R e1).mono R1 e2).mono R2 e3
    have rv := (r1.mono R1 e2).mono R2 e3
    have rx := r2.mono R2 e3
    cases x with
    | loc j =>
      unfold Rv at rx
      obtain ⟨hj,rfl⟩ := rx
      unfold jX bd at h3
      cases e : s.h[j]? with
      | none => simp only [e] at h3; exact h3.elim
      | some ob =>
        cases ob with
        | din b ks ws =>
          simp only [e] at h3
          cases ek : keyN b i with
          | none => simp only [ek] at h3; exact h3.elim
          | some k =>
            simp only [ek] at h3
            by_cases z : ks.length < sizeLine
            · simp only [if_pos z] at h3
              obtain ⟨xs,g1,g2,g3,g4⟩ := R3.ob j _ e
              obtain ⟨c,rfl,hc⟩ := n9 ek r3
              obtain ⟨b1,b2⟩ := j1 (x := k) (kvs := kvN xs) (ks := ks) (ws := ws) rv (by unfold kvN; rw [List.map_map]; exact g2) (by unfold kvN; rw [List.map_map]; exact g4)
              rw [← nY xs k c vv] at b1 b2
              unfold kvN at b1 b2
              rw [List.map_map] at b1 b2
              refine ⟨_,b,xs,c,k,rfl,rfl,g1,g3,hc,by rw [← g2,List.length_map] at z; exact z,?_⟩
              refine Ps.at (p := s.put j (.din b (putW ks ws k v).1 (putW ks ws k v).2) (.dN b (putPk xs k c vv))) (b := FlV.nx σ) h3 rfl (Ex.put e (by simp)) (R3.putN e (by simp) b1 (fun x hx => ?_) b2) ⟨σ,rfl,S3.mono R3 (Ex.put e (by simp))⟩
              rcases oQ hx with ⟨y,hy,q1,q2⟩ | ⟨q1,q2⟩
              · rw [← q1,← q2]; exact g3 y hy
              · rw [q1,q2]; exact hc
            · simp only [if_neg z] at h3; exact h3.elim
        | _ => simp only [e] at h3; exact h3.elim
    | _ => exact h3.elim
end
end L2
set_option maxHeartbeats 1000000
namespace L2
open PySem PySem.Spec PyProof.Rows
open Sem (wp)
open AutoSeq1 (wpAny_loadPart')
section
variable {prog : Program}{w:World}{A:Around}{E:Value → Shared → Prop}{s:Shared}
theorem jx {Q:List Value → Shared → Prop}{r:Addr}{a b c : Int}{t u v : Tok}{n:Nat} (hh : A.handled = none) (hr : IsRange s.heap r a b c t u v) (hsmall : Builtin.Range.small a b c = true)
    (hn : Builtin.Range.rangeSize a b c = n) (hlen : n ≤ 2 ^ 24)
    (hQ : ∀ (h' : Heap) (tk : Nat) (acc' : Array Value),(∀ b o',s.heap.get? b = some o' → h'.get? b = some o') → ItemsOf (fun i v => ∃ t,v = .int (a + i * c) t) acc' n → Q acc'.toList { s with heap := h',toks := tk }) :
    wpAny (model prog w) A (collect (.ref r)) Q E s :=by
  unfold collect
  refine wpAny_bind (wpAny_runValue (codeAny_builtin F.entry_proto_collect ?_))
  rw [Around.under_plainId F.plain_proto_collect _]
  show wpAny _ A.in1 (newList [] >>= fun l => again (.builtin "list.__iadd__" ⟨[l,.ref r],[]⟩)) _ _ s
  refine wpAny_bind (wpAny_newObj_type ?_)
  refine wpAny_pure ⟨plainId_quiet F.plain_list_iadd _,codeAny_builtin F.entry_list_iadd ?_⟩
  rw [Around.under_plainId F.plain_list_iadd _]
  show wpAny _ A.in1 (Builtin.List.listExtendWith (.ref s.heap.objs.size) (.ref r) (.ref s.heap.objs.size)) _ _ _
  have hS : (s.heap.push { cls := .type "list",data := .seq ([] : List Value).toArray }).get? s.heap.objs.size = some { cls := .type "list",data := .seq #[] 0 } := Heap.get?_push_size _ rfl
  refine wpAny_mono (wpAny_extend_range (A := A) (R := fun re s' => ∃ h' tk acc' c',re = .ok (.ret (.ref s.heap.objs.size)) ∧ s' = { s with heap := h',toks := tk } ∧ (∀ b o',s.heap.get? b = some o' → h'.get? b = some o') ∧ h'.get? s.heap.objs.size = some { cls := .type "list",dict := none,data := .seq acc' c',slots := #[] } ∧ ItemsOf (fun i v => ∃ t,v = .int (a + i * c) t) acc' n)
    (s := { s with heap := s.heap.push { cls := .type "list",data := .seq ([] : List Value).toArray } }) hh (Heap.get?_push_of_some _ hr) hsmall hn hlen _ _ 0 hS fun h' tk acc' c' hk hS' hacc => ⟨h',tk,acc',c',rfl,rfl,fun b o' hb => hk b o' (Nat.ne_of_lt (Heap.lt_size hb)) (Heap.get?_push_of_some _ hb),hS',hacc⟩) (fun fin s' h => ?_) (fun e s' h => ?_)
  · have fin' : ∀ {re : Result}{s' : Shared},(∃ h' tk acc' c',re = .ok (.ret (.ref s.heap.objs.size)) ∧ s' = { s with heap := h',toks := tk } ∧ (∀ b o',s.heap.get? b = some o' → h'.get? b = some o') ∧ h'.get? s.heap.objs.size = some { cls := .type "list",dict := none,data := .seq acc' c',slots := #[] } ∧ ItemsOf (fun i v => ∃ t,v = .int (a + i * c) t) acc' n) → re = .ok (.ret (.ref s.heap.objs.size)) ∧ wpAny (model prog w) A (match Value.ref s.heap.objs.size with
      | Value.ref a => do
        match (← load a).data with
          | Data.seq xs _ => pure xs.toList
          | _ => unsupported "internal:collect"
      | _ => unsupported "internal:collect") Q E s' :=by
      rintro re s' ⟨h',tk,acc',c',rfl,rfl,hk,hS',hacc⟩
      refine ⟨rfl,?_⟩
      show wpAny _ A (load s.heap.objs.size >>= _) _ _ _
      refine wpAny_bind (wpAny_load hS' ?_)
      exact wpAny_pure (hQ h' tk acc' hk hacc)
    cases fin with
    | done f =>
      obtain ⟨e,q⟩ := fin' h
      cases e
      exact q
    | again c' => exact ⟨h.1,codeAny_mono h.2 fun re s'' hr => by
        obtain ⟨e,q⟩ := fin' hr
        subst e
        exact q⟩
  · obtain ⟨_,_,_,_,e,_⟩ := h
    cases e
end
theorem gh (r:Addr) (a b c : Int) (t u v : Tok) (n:Nat) (hsmall : Builtin.Range.small a b c = true) (hn : Builtin.Range.rangeSize a b c = n) (hlen : n ≤ 2 ^ 24) (hz : n ≤ sizeLine) :
    Meets (Builtin.«tuple.__new__» ⟨[.type "tuple",.ref r],[]⟩)
      (fun A R s => A.handled = none ∧ IsRange s.heap r a b c t u v ∧ ∀ (h' : Heap) (tk : Nat) (acc' : Array Value),(∀ b o',s.heap.get? b = some o' → h'.get? b = some o') → ItemsOf (fun i v => ∃ t,v = .int (a + i * c) t) acc' n → R (.ok (.ret (.ref h'.objs.size))) { s with heap := h'.push { cls := .type "tuple",data := .seq acc' },toks := tk }) :=
  .of_wp fun prog w A R s h => by
    obtain ⟨hp,g,d,tk,os⟩ := s; obtain ⟨hh,ht,h⟩ := h
    have hsub := sub_tuple_self
    have hinit := init_tuple_lookup
    have hmh := madeHere_tuple
    have hT : Shared.TypeIs ⟨hp,g,d,tk,os⟩ (.ref r) "range" := ⟨_,ht,rfl⟩
    wp_walk using wpAny_loadPart' ht,wpAny_typeOf hT,jx (A := A.in1) hh ht hsmall hn hlen
    intro h' tk' acc' hk hacc
    show wpAny _ _ (Builtin.Tuple.tupleExact acc'.toList.toArray >>= fun v => ret v) _ _ _
    unfold Builtin.Tuple.tupleExact
    refine wpAny_bind (wpAny_newObj_type ?_ (by show acc'.toList.toArray.size ≤ sizeLine; have := hacc.1; simp only [Array.toArray_toList]; omega))
    refine wpAny_pure ⟨_,rfl,?_⟩
    have e : acc'.toList.toArray = acc' :=by simp
    rw [e]
    exact h h' tk' acc' hk hacc
section
variable {prog : Program}{w:World}{A:Around}{E:Value → Shared → Prop}{s:Shared}
theorem g9 {r:Addr}{a b c : Int}{t u v : Tok}{n:Nat}{Q:Value → Shared → Prop} (hh : A.handled = none) (hr : IsRange s.heap r a b c t u v) (hsmall : Builtin.Range.small a b c = true)
    (hn : Builtin.Range.rangeSize a b c = n) (hlen : n ≤ 2 ^ 24) (hz : n ≤ sizeLine)
    (h:∀ (h' : Heap) (tk : Nat) (acc' : Array Value),(∀ b o',s.heap.get? b = some o' → h'.get? b = some o') → ItemsOf (fun i v => ∃ t,v = .int (a + i * c) t) acc' n → Q (.ref h'.objs.size) { s with heap := h'.push { cls := .type "tuple",data := .seq acc' },toks := tk }) :
    wpAny (model prog w) A (call (.type "tuple") [.ref r]) Q E s :=
  callType_new F.called_tuple (by decide) (F.typeCall_tuple_1 _) (F.newCall_tuple_1 _) (fun obj => F.args_object_init_2 obj _) F.entry_tuple_new
    (gh r a b c t u v n hsmall hn hlen hz) ⟨hh,hr,fun h' tk acc' hk hacc => ⟨⟨_,Heap.get?_push_size _ rfl,rfl⟩,h h' tk acc' hk hacc⟩⟩
end
noncomputable def tTR (ta : TA) : TE := fun σ H Q => ta σ H fun vs H1 => ∃ i j : Int,vs = [.int i,.int j] ∧ (-(2 ^ 62) ≤ i ∧ i < 2 ^ 62 ∧ -(2 ^ 62) ≤ j ∧ j < 2 ^ 62) ∧ (j - i).toNat ≤ sizeLine ∧ ∀ l,H1 l = none → Q (.ref l) (upd H1 l (.tup (intsV i (j - i).toNat)))
section
variable {X:Cx}{E:XK}{a b : Expr}{p p2 pos pos2 : Pos}
theorem oV {ta : TA} (hc : X.calm = true) (hgl : Gl X "tuple") (hml : X.mg "tuple" = none) (hg : Gl X "range") (hm : X.mg "range" = none) (ha : PA X [a,b] ta) (hs : starEach [a,b] X.env = [(false,eval a X.env),(false,eval b X.env)] :=by rfl) (hs2 : starEach [b] X.env = [(false,eval b X.env)] :=by rfl)
    (he : starEach [.Call (.Name "range" p2) [a,b] [] pos2] X.env = (false,eval (.Call (.Name "range" p2) [a,b] [] pos2) X.env) :: starEach [] X.env :=by rfl) (hpl : (backTo pos (starEach [] X.env)).any (·.1) = false :=by rfl) :
    PE X (.Call (.Name "tuple" p) [.Call (.Name "range" p2) [a,b] [] pos2] [] pos) (tTR ta) :=by
  intro pins s σ H Q I h
  refine wpAny_Call_Name_kw (dc I hgl hml PyProof.Rows.boot_tuple ?_ (by decide) (by decide))
  refine PyProof.Rows.callWith_type1 ?_ he hpl
  rw [he]
  refine Calls.spliced_cons ?_
  refine Call_ (dc I hg hm boot_range (PyProof.Rows.callWith_type1 (thn (ha pos2 pins s σ H _ I h) fun us s1 qz => ?_) (by rw [hs,hs2]) (by rw [hs2]; rfl)))
  obtain ⟨vs,H1,I1,r1,q1⟩ := qz
  obtain ⟨i,j,e,⟨q1,q2,q3,q4⟩,hz,q⟩ := q1
  subst e
  cases r1 with
  | cons r rr =>
    cases rr with
    | cons r' rr =>
      cases rr
      obtain ⟨t,rfl⟩ := r
      obtain ⟨t',rfl⟩ := r'
      refine call_range_2 (Calls.spliced_nil ?_)
      have I2 : Inv X pins σ H1 { s1 with heap := s1.heap.push { cls := .type "range",data := .fields #[.int i t,.int j t',.int 1 s1.toks] },toks := s1.toks + 1 } := I1.kept fun b o e => Heap.get?_push_of_some _ e
      have hn : Builtin.Range.rangeSize i j 1 = ((j - i).toNat : Int) :=by rw [rangeSize_one]; split <;> omega
      refine g9 (I2.ok.hd hc) (IsRange.new ..) (small_one q1 q2 q3 q4) hn (Nat.le_trans hz (by decide)) hz fun h' tk acc' hk hacc => ?_
      have vs : Vals (intsV i (j - i).toNat) acc'.toList := iG _ _ _ (by rw [Array.length_toList,hacc.1]) fun k v e => by
        obtain ⟨t,e⟩ := hacc.2 k v (by rw [← Array.getElem?_toList]; exact e)
        exact ⟨t,by rw [e]; congr 1; omega⟩
      have I3 : Inv X pins σ H1 { s1 with heap := h',toks := tk } := I2.kept (t' := tk) hk
      exact ⟨.ref _,_,I3.laid (t' := tk) (fun b o e => Heap.get?_push_of_some _ e) (Nat.le_refl _) (show ObjOk X.prog X.w _ (h'.push { cls := .type "tuple",data := .seq acc' }) _ (.tup (intsV i (j - i).toNat)) from ⟨by rw [jM]; exact hz,acc'.toList,vs,by rw [Array.toArray_toList]; exact IsTupD.new _ _⟩),rfl,q _ (I3.hok.fresh (Nat.le_refl _))⟩
noncomputable def trW (ws : List W) : M W := match ws with
  | [.int i,.int j] => gd ((-(2 ^ 62) ≤ i ∧ i < 2 ^ 62 ∧ -(2 ^ 62) ≤ j ∧ j < 2 ^ 62) ∧ (j - i).toNat ≤ sizeLine) (pr (.tup (intsW i (j - i).toNat)))
  | _ => no
theorem pf {l:Env' → M (List W)} (hc : X.calm = true) (hml : X.mg "tuple" = none) (hm : X.mg "range" = none) (ha : JA X E [a,b] l) (hgl : Gl X "tuple" := by rfl) (hg : Gl X "range" := by rfl) (hs : starEach [a,b] X.env = [(false,eval a X.env),(false,eval b X.env)] :=by rfl) (hs2 : starEach [b] X.env = [(false,eval b X.env)] :=by rfl)
    (he : starEach [.Call (.Name "range" p2) [a,b] [] pos2] X.env = (false,eval (.Call (.Name "range" p2) [a,b] [] pos2) X.env) :: starEach [] X.env :=by rfl) (hpl : (backTo pos (starEach [] X.env)).any (·.1) = false :=by rfl) : JE X E (.Call (.Name "tuple" p) [.Call (.Name "range" p2) [a,b] [] pos2] [] pos) (mCall trW l) :=
  (oV hc hgl hml hg hm ha.h hs hs2 he hpl).imp fun σ H Q h => by
    obtain ⟨o,ρ,rfl,R,S,h⟩ := h
    refine ⟨o,ρ,rfl,R,S,Ps.bd h fun p x vx e1 R1 r1 h1 => ?_⟩
    unfold trW at h1
    split at h1
    · obtain ⟨v,u,rfl,r,ru⟩ := r1.two
      obtain ⟨hz,h1⟩ := h1.gd
      exact ⟨_,_,by rw [rv_int.mp r,rv_int.mp ru],hz.1,hz.2,fun l hl => io R1 hl (jF _ _) h1⟩
    · exact h1.elim
end
end L2
set_option maxHeartbeats 1000000
namespace L2
open PySem PySem.Spec PyProof.Rows
section
variable {X:Cx}{E:XK}{e st : Expr}{te : TE}{ts : TO}{pos p2 : Pos}{fa : Env' → M W}{fs : Env' → M (Option Int)}
end
end L2
set_option maxHeartbeats 1000000
namespace L2
open PySem PySem.Spec PyProof.Rows
open Sem (wp)
section
variable {prog : Program}{w:World}{A:Around}{E:Value → Shared → Prop}{s:Shared}
end
section
variable {X:Cx}{pins : List (Addr × Obj)}{σ : St}{H:Hp}{s:Shared}
end
section
variable {X:Cx}{a b : Expr}{p p2 pos pos2 : Pos}
end
end L2
set_option maxHeartbeats 1000000
namespace L2
open PySem PySem.Spec PyProof.Rows
section
variable {X:Cx}{E:XK}
noncomputable def lzW (ws : List W) : M W := match ws with
  | [.tup l,.tup m] => gd (min l.length m.length < sizeLine) (pr (.tl (zipW l m)))
  | _ => no
theorem jL {prog : Program}{w:World} : ∀ {ks : List Int}{us : List Value},Vals (ks.map V.int) us → ItemsAre (intKind prog w) ks us
  | [],_,r => by rw [List.map_nil] at r; cases r; exact .nil
  | k :: ks,_,r => by
    rw [List.map_cons] at r
    cases r with
    | cons h t =>
      obtain ⟨tk,e⟩ := (show ∃ t,_ = Value.int k t from h)
      subst e
      exact .cons (by simp [intKind,Value.isInt]) (jL t)
theorem ir {pins : List (Addr × Obj)}{σ : St}{H:Hp}{s:Shared}{d:Addr}{ns : List Int} (I:Inv X pins σ H s) (h:SqT X.K H d (ns.map V.int)) (prog : Program) (w:World) : IsTupleKey (intKind prog w) s.heap ns d :=by
  obtain ⟨its,r,⟨o,g1,g2,n,g3⟩,_⟩ := I.tuple h
  exact ⟨o,its.toArray,n,g1,g2,g3,by simpa using jL r⟩
noncomputable def TsOk (K:PySem.W.Frag) (H:Hp) : List V → List (List Int) → Prop
  | [],[] => True
  | v :: vs,m :: ms => (∃ c,v = .ref c ∧ SqT K H c (m.map V.int)) ∧ TsOk K H vs ms
  | _,_ => False
noncomputable def rInT (K:PySem.W.Frag) (neg : Bool) : R2 := fun x y H Q => ∃ p d xs ns mss,x = .ref d ∧ y = .ref p ∧ SqL K H p xs ∧ SqT K H d (ns.map V.int) ∧ TsOk K H xs mss ∧ Q (.bl (if neg then !decide (ns ∈ mss) else decide (ns ∈ mss))) H
open Classical in
noncomputable def eqK (prog : Program) (w:World) (h:Heap) (ns : List Int) (u:Value) : Bool := match u with
  | .ref c => decide (IsTupleKey (intKind prog w) h ns c)
  | _ => false
open Classical in
theorem rD {prog : Program}{w:World}{h:Heap}{ns ms : List Int}{c:Addr} (k:IsTupleKey (intKind prog w) h ms c) : eqK prog w h ns (.ref c) = decide (ms = ns) :=by
  show decide (IsTupleKey (intKind prog w) h ns c) = _
  by_cases e : ms = ns
  · subst e; rw [decide_eq_true k,decide_eq_true rfl]
  · rw [decide_eq_false e,decide_eq_false fun z => e (k.inj z)]
theorem p9 {pins : List (Addr × Obj)}{σ : St}{H:Hp}{s:Shared} (I:Inv X pins σ H s) (ns : List Int) : ∀ {xs : List V}{us : List Value}{mss : List (List Int)},Vals xs us → TsOk X.K H xs mss → us.any (eqK X.prog X.w s.heap ns) = decide (ns ∈ mss)
  | _,_,[],.nil,_ => by simp
  | _,_,_ :: _,.nil,t => t.elim
  | _,_,[],.cons _ _,t => t.elim
  | _,_,m :: mss,.cons r rs,t => by
    obtain ⟨⟨c,e,q⟩,t⟩ := t
    subst e
    cases r
    rw [List.any_cons,p9 I ns rs t,rD (ir I q _ _)]
    rw [Bool.eq_iff_iff,Bool.or_eq_true,decide_eq_true_eq,decide_eq_true_eq,decide_eq_true_eq,List.mem_cons]
    exact ⟨fun h => h.imp Eq.symm id,fun h => h.imp Eq.symm id⟩
theorem tH {pins : List (Addr × Obj)}{σ : St}{H:Hp}{s:Shared}{A:Around} (hu : A.units < cLine) (I:Inv X pins σ H s) {ns : List Int}{d:Addr} (hd : SqT X.K H d (ns.map V.int)) : ∀ {xs : List V}{us : List Value}{mss : List (List Int)},Vals xs us → TsOk X.K H xs mss → ∀ u ∈ us,SeqAt.EqAt A s u (.ref d) (eqK X.prog X.w s.heap ns u)
  | _,_,[],.nil,_ => fun u hu => by cases hu
  | _,_,_ :: _,.nil,t => t.elim
  | _,_,[],.cons _ _,t => t.elim
  | _,_,m :: mss,.cons r rs,t => fun u hm => by
    obtain ⟨⟨c,e,q⟩,t⟩ := t
    subst e
    cases r
    rcases List.mem_cons.mp hm with rfl | hm
    · intro prog w E Q hq
      rw [rD (ir I q _ _)] at hq
      exact wpAny_eqBool_tuple (knd := intKind prog w) hu (ir I q prog w) (ir I hd prog w) hq
    · exact tH hu I hd rs t u hm
theorem oY (hu : X.A.units + 64 < cLine) : OpR X (compareOp .NotIn) (rInT X.K true) :=by
  intro pins s σ H x y v u Q I rx ry h
  obtain ⟨p,d,xs,ns,mss,rfl,rfl,hq,hd,ht,q⟩ := h
  cases rx
  cases ry
  obtain ⟨its,r,pl,hz⟩ := I.list hq
  refine SeqAt.notIn_listAt (eqK X.prog X.w s.heap ns) pl.isList (fun w hw => tH (Nat.lt_of_le_of_lt (Nat.add_le_add_left (by decide : 1 ≤ 64) _) hu) I hd r ht w (by simpa using hw)) ⟨.bl _,H,I,rfl,?_⟩
  rw [show its.toArray.any (eqK X.prog X.w s.heap ns) = its.any (eqK X.prog X.w s.heap ns) by simp,p9 I ns r ht]
  exact q
noncomputable def kI : Key → Option Int
  | .inl i => some i
  | .inr _ => none
theorem rk : ∀ {ks : List Key}{ns : List Int},optL kI ks = some ns → ks.map kV = ns.map V.int
  | [],_,e => by cases e; rfl
  | k :: ks,ns,e => by
    unfold optL at e
    split at e
    · rename_i b c e1 e2
      cases e
      cases k with
      | inl i => cases e1; rw [List.map_cons,List.map_cons,rk e2]; rfl
      | inr _ => cases e1
    · cases e
noncomputable def tOf : W → Option (List Int)
  | .kt ks => optL kI ks
  | .tup l => optL iOf l
  | _ => none
noncomputable def inTB (x y : W) (h:List Ob) : Option Bool := match tOf x,lstOf y h with
  | some ns,.ok l _ => (optL tOf l).map fun mss => decide (ns ∈ mss)
  | _,_ => none
noncomputable def inTW (x y : W) : M W := fun h => match inTB x y h with
  | some b => .ok (.bl b) h
  | none => .bad
noncomputable def fu (x y : W) : M W := fun h => match inTB x y h with
  | some b => .ok (.bl (!b)) h
  | none => .bad
theorem qb {K:PySem.W.Frag}{o:Wo}{w:W}{v:V}{ns : List Int} (e:tOf w = some ns) (h:Rv K o w v) : ∃ c,v = .ref c ∧ SqT K o.H c (ns.map V.int) :=by
  cases w with
  | kt ks =>
    unfold Rv at h
    obtain ⟨c,rfl,h⟩ := h
    exact ⟨c,rfl,by rw [← rk (show optL kI ks = some ns from e)]; exact .of h⟩
  | tup l =>
    unfold Rv at h
    obtain ⟨c,vs,rfl,s,r⟩ := h
    have e2 : vs = ns.map V.int := fk i9 (show optL iOf l = some ns from e) r
    subst e2
    exact ⟨c,rfl,s⟩
  | _ => cases e
theorem tE {K:PySem.W.Frag}{o:Wo} : ∀ {l:List W}{vs : List V}{mss : List (List Int)},optL tOf l = some mss → Rvs K o l vs → TsOk K o.H vs mss
  | [],vs,mss,e,r => by unfold Rvs at r; subst r; cases e; trivial
  | w :: l,vs,mss,e,r => by
    unfold Rvs at r
    obtain ⟨v,r',rfl,h1,h2⟩ := r
    unfold optL at e
    split at e
    · rename_i b c e1 e2
      cases e
      exact ⟨qb e1 h1,tE e2 h2⟩
    · cases e
theorem pE {x y : W}{h:List Ob}{b:Bool} (e:inTB x y h = some b) : ∃ ns l mss h',tOf x = some ns ∧ lstOf y h = .ok l h' ∧ optL tOf l = some mss ∧ b = decide (ns ∈ mss) :=by
  unfold inTB at e
  split at e
  · rename_i ns l h' e1 e2
    obtain ⟨mss,e3,e4⟩ := Option.map_eq_some_iff.mp e
    exact ⟨ns,l,mss,h',e1,e2,e3,e4.symm⟩
  · cases e
theorem mF : OpM X E (rInT X.K true) fu :=by
  intro o x y vx vy Q R rx ry h
  unfold fu at h
  cases e : inTB x y o.h with
  | none => rw [e] at h; exact h.elim
  | some b =>
    rw [e] at h
    obtain ⟨ns,l,mss,h',e1,e2,e3,rfl⟩ := pE e
    obtain ⟨rfl,p,vs,rfl,s,r⟩ := i5 R ry e2
    obtain ⟨d,rfl,hd⟩ := qb e1 rx
    exact ⟨p,d,vs,ns,mss,rfl,rfl,s,hd,tE e3 r,Ps.pr (c := cg X E) (r := Rv X.K) (a := W.bl _) h R (rv_bl.mpr rfl)⟩
noncomputable def maxZ : List Int → Int
  | [] => 0
  | [a] => a
  | a :: l => if maxZ l < a then a else maxZ l
theorem gr : ∀ {l:List Int},l ≠ [] → maxZ l ∈ l ∧ ∀ x ∈ l,x ≤ maxZ l
  | [],h => absurd rfl h
  | [a],_ => ⟨List.mem_singleton.mpr rfl,fun x hx => by rw [List.mem_singleton.mp hx]; exact Int.le_refl _⟩
  | a :: b :: l,_ => by
    obtain ⟨h1,h2⟩ := gr (l := b :: l) (by simp)
    show (if maxZ (b :: l) < a then a else maxZ (b :: l)) ∈ _ ∧ ∀ x ∈ _,x ≤ (if maxZ (b :: l) < a then a else maxZ (b :: l))
    by_cases c : maxZ (b :: l) < a
    · rw [if_pos c]
      refine ⟨List.mem_cons_self,fun x hx => ?_⟩
      rcases List.mem_cons.mp hx with rfl | hx
      · exact Int.le_refl _
      · have := h2 x hx; omega
    · rw [if_neg c]
      refine ⟨List.mem_cons_of_mem _ h1,fun x hx => ?_⟩
      rcases List.mem_cons.mp hx with rfl | hx
      · omega
      · exact h2 x hx
theorem jh (bt : Nat → Nat → Bool) : ∀ n,argBest bt n ≤ n
  | 0 => Nat.le_refl _
  | n + 1 => by
    unfold argBest
    split
    · exact Nat.le_refl _
    · exact Nat.le_succ_of_le (jh bt n)
theorem rR (f:Nat → Int) : ∀ n j,j ≤ n → f j ≤ f (argBest (fun i j => decide (f i > f j)) n)
  | 0,j,h => by rw [Nat.le_zero.mp h]; exact Int.le_refl _
  | n + 1,j,h => by
    unfold argBest
    have ih := rR f n
    by_cases c : f (n + 1) > f (argBest (fun i j => decide (f i > f j)) n)
    · rw [if_pos (decide_eq_true c)]
      by_cases e : j = n + 1
      · rw [e]; exact Int.le_refl _
      · have := ih j (by omega); omega
    · rw [if_neg (by rw [decide_eq_false c]; simp)]
      by_cases e : j = n + 1
      · rw [e]; omega
      · exact ih j (by omega)
theorem nV {xs : Array (Int × Tok)}{ns : List Int} (e:ns = xs.toList.map (·.1)) {i:Nat} (h:i < xs.size) : ns[i]? = some (numAt xs i) :=by
  rw [e,List.getElem?_map,Array.getElem?_toList,Array.getElem?_eq_getElem h]
  unfold numAt
  rw [Array.getElem?_eq_getElem h]
  rfl
variable {a:Expr}{p pos : Pos}{l:Env' → M (List W)}
end
end L2
set_option maxHeartbeats 1000000
namespace L2
open PySem PySem.Spec PyProof.Rows
section
variable {X:Cx}{E:XK}{a b : Expr}{p p2 pos pos2 : Pos}
noncomputable def lr1L (l:Env' → M (List W)) : Env' → M (List W) := fun ρ => bd (l ρ) fun ws => match ws with
  | [.int j] => gd ((-(2 ^ 62) ≤ j ∧ j < 2 ^ 62) ∧ j.toNat ≤ sizeLine) (pr (intsW 0 j.toNat))
  | _ => no
noncomputable def mulL (fa fb : Env' → M W) : Env' → M (List W) := fun ρ => bd (fa ρ) fun x => bd (fb ρ) fun y => match y with
  | .int n => bd (lstO x) fun l => gd (0 ≤ n ∧ n ≤ 1000000 ∧ l.length * n.toNat ≤ sizeLine) (pr (List.replicate n.toNat l).flatten)
  | _ => no
theorem uW {fa fb : Env' → M W} (ha : JE X E a fa) (hb : JE X E b fb) : JF X E (.BinOp a .Mult b pos) (mulL fa fb) := (qu qH ha.h hb.h).impF fun σ H Q h => by
  obtain ⟨o,ρ,rfl,R,S,h⟩ := h
  refine ⟨o,ρ,rfl,R,S,Ps.bd h fun p x vx e1 R1 r1 h1 => ⟨p,ρ,rfl,R1,S.mono R e1,Ps.bd h1 fun q y vy e2 R2 r2 h2 => ?_⟩⟩
  split at h2
  · obtain ⟨l,a,vs,rfl,s1,r3,h3⟩ := d9 R2 (r1.mono R1 e2) h2
    obtain ⟨hz,h4⟩ := h3.gd
    exact ⟨a,_,vs,rfl,rv_int.mp r2,s1,by omega,by omega,by rw [r3.len]; exact hz.2.2,h4.pr R2 (r3.rep _)⟩
  · exact h2.elim
noncomputable def rIxDT (K:PySem.W.Frag) : R2 := fun x y H Q => ∃ a kvs k b v,x = .ref a ∧ Rd H a (.dT kvs) ∧ y = .ref b ∧ SqT K H b (k.map kV) ∧ valV kvs k = some v ∧ Q v H
theorem oN {pins : List (Addr × Obj)}{σ : St}{H:Hp}{s:Shared}{a b : Addr}{v:V}{kvs : List (List Key × V)}{k:List Key}{A:Around}{Ex : Value → Shared → Prop}{Q:Value → Shared → Prop} (hu : A.units + 1 < cLine) (I:Inv X pins σ H s) (e:Rd H a (.dT kvs)) (eb : SqT X.K H b (k.map kV)) (l:valV kvs k = some v) (h:∀ w' s',Inv X pins σ H s' → RelV v w' → Q w' s') :
    wpAny (model X.prog X.w) A (getItem (.ref a) (.ref b)) Q Ex s :=by
  obtain ⟨z,hd,xs,rel,dd⟩ := gD I.hok e
  obtain ⟨w',hw,rw'⟩ := RelO.some_of (v := v) (o := (atKey xs k).map (·.2)) (by rw [← l]; exact rel.val k)
  obtain ⟨p,hp,hp2⟩ := Option.map_eq_some_iff.mp hw
  refine wpAny_getItem_heap (tupleKind_room_in1 hu) (n6 I eb) dd hp ?_
  rw [hp2]
  exact h w' _ (I.tok _) rw'
theorem wb (hu : X.A.units + 1 < cLine) : IxR X (rIxDT X.K) :=by
  intro value slice pins s σ H x y v u Q I rx ry h hs
  obtain ⟨a,kvs,k,b,z,rfl,e,rfl,eb,l,q⟩ := h
  cases rx
  cases ry
  obtain ⟨_,_,ys,_,dd⟩ := gD I.hok e
  exact tail_any dd.typeIs PySem.F.slot_dict_getitem.lookup (oN hu I e eb l fun w' s3 I3 rw' => ⟨z,H,I3,rw',q⟩) hs
noncomputable def ixT' (x y : W) : M W := fun h => match ditOf x h with
  | some (ks,ws) => match keyT y with
    | some k => match atK ks ws k with
      | some w => .ok w h
      | none => .bad
    | none => .bad
  | none => .bad
theorem sF : OpM X E (rIxDT X.K) ixT' :=by
  intro o x y vx vy Q R rx ry h
  unfold ixT' at h
  cases e1 : ditOf x o.h with
  | none => rw [e1] at h; exact h.elim
  | some t =>
    obtain ⟨ks,ws⟩ := t
    rw [e1] at h
    cases e2 : keyT y with
    | none => simp only [e2] at h; exact h.elim
    | some k =>
      simp only [e2] at h
      cases e3 : atK ks ws k with
      | none => simp only [e3] at h; exact h.elim
      | some w =>
        simp only [e3] at h
        obtain ⟨a,kvs,rfl,g1,g2,g3⟩ := jb R e1 rx
        obtain ⟨b,rfl,sb⟩ := n8 e2 ry
        have hv := fI (x := k) g2 g3
        rw [e3] at hv
        obtain ⟨v,hv,rv⟩ := hv
        exact ⟨a,kvs,k,b,v,rfl,g1,rfl,sb,hv,Ps.pr (c := cg X E) (r := Rv X.K) (a := w) h R rv⟩
theorem qX {fa fb : Env' → M W} (hu : X.A.units + 64 < cLine) (ha : JE X E a fa) (hb : JE X E b fb) (hs : iB b) : JE X E (.Subscript a b pos) (m2 ixT' fa fb) :=
  (qw (wb (Nat.lt_of_le_of_lt (Nat.add_le_add_left (by decide : 1 ≤ 64) _) hu)) ha.h hb.h hs).imp fun _ _ _ h => oO sF h
end
end L2
set_option maxHeartbeats 1000000
namespace L2
open PySem PySem.Spec PyProof.Rows
section
variable {prog : Program}{w:World}{A:Around}{E:Value → Shared → Prop}{s:Shared}
theorem seqI {a:Addr}{o:Obj}{xs : Array Value}{ep : Nat}{Q:Option (Array Value) → Shared → Prop} (h:s.heap.get? a = some o) (hd : o.data = .seq xs ep) (q:Q (some xs) s) : wpAny (model prog w) A (seqItems? (.ref a)) Q E s :=by
  unfold seqItems?
  refine wpAny_bind (wpAny_load h ?_)
  rw [hd]
  exact wpAny_pure q
theorem pi {I S : Addr}{fp wr : List Addr}{n:Nat}{P:Nat → Value → Prop}{St : Nat → Heap → Prop}{R:Result → Shared → Prop} (Wk : Walks prog w A.in1 I fp wr n P St) (bt : Nat → Nat → Bool) (C:CmpOf prog w A.in1 .Gt P bt) (hS : S ∉ fp) (kw : List (Str × Value)) :
    ∀ (k j : Nat) (s:Shared) (vb : Value) (c:Nat),n - (j + 1) = k → j + 1 ≤ n → St (j + 1) s.heap → P (argBest bt j) vb → s.heap.get? S = some { cls := .type "list",data := .seq #[vb,vb] c } →
      (∀ (v:Value) (h' : Heap) (tk : Nat),P (argBest bt (n - 1)) v → (∀ b o,b ∉ wr → b ≠ S → s.heap.get? b = some o → h'.get? b = some o) → R (.ok (.ret v)) { s with heap := h',toks := tk }) →
      codeAny (model prog w) A (.builtin "max.loop" ⟨[.ref I,.none,.ref S],kw⟩) R s :=by
  intro k
  induction k with
  | zero =>
    intro j s vb c hk hj st pb hs hR
    have hn : n = j + 1 :=by omega
    subst hn
    refine codeAny_builtin PySem.F.entry_max_loop ?_
    rw [Around.under_plainId PySem.F.plain_max_loop _]
    show wpAny _ A.in1 (seqItems? (.ref S) >>= _) _ _ _
    refine wpAny_bind (seqI hs rfl ?_)
    show wpAny _ A.in1 (Sem.tryCatch (pyNext (.ref I)) _ >>= _) _ _ _
    refine wpAny_bind (wpAny_tryCatch (Wk.done s _ _ st fun h' tk kp => ?_))
    have hs' : h'.get? S = some { cls := .type "list",data := .seq #[vb,vb] c } := kp S _ (fun q => hS (Wk.sub S q)) hs
    show wpAny _ A.in1 (updateSeq S (fun _ => #[]) >>= _) _ _ _
    refine wpAny_bind (wpAny_updateSeq (s := { s with heap := h',toks := tk }) hs' rfl ?_ (show (2 : Nat) ≤ sizeLine by decide) (Nat.zero_le _))
    refine wpAny_bind (wpAny_letGo ?_)
    exact wpAny_pure (hR vb _ _ pb fun b o hb nb q => (Heap.get?_update_other _ _ (Ne.symm nb)).trans (kp b o hb q))
  | succ k ih =>
    intro j s vb c hk hj st pb hs hR
    have hlt : j + 1 < n :=by omega
    refine codeAny_builtin PySem.F.entry_max_loop ?_
    rw [Around.under_plainId PySem.F.plain_max_loop _]
    show wpAny _ A.in1 (seqItems? (.ref S) >>= _) _ _ _
    refine wpAny_bind (seqI hs rfl ?_)
    show wpAny _ A.in1 (Sem.tryCatch (pyNext (.ref I)) _ >>= _) _ _ _
    refine wpAny_bind (wpAny_tryCatch (Wk.item (j + 1) s _ _ hlt st fun v h' tk pv st' kp => ?_))
    have hs' : h'.get? S = some { cls := .type "list",data := .seq #[vb,vb] c } := kp S _ (fun q => hS (Wk.sub S q)) hs
    show wpAny _ A.in1 (Sem.tryCatch (holding [v,v] (richCompare .Gt v vb >>= _)) _ >>= _) _ _ _
    refine wpAny_bind (wpAny_tryCatch (wpAny_holding (wpAny_bind (C (j + 1) (argBest bt j) v vb _ _ _ pv pb ?_))))
    refine wpAny_bind (wpAny_holding (wpAny_truthy_bool (wpAny_bind (wpAny_letGo (wpAny_pure ?_)))))
    have ab : argBest bt (j + 1) = if bt (j + 1) (argBest bt j) = true then j + 1 else argBest bt j := rfl
    cases hb : bt (j + 1) (argBest bt j) with
    | true =>
      rw [hb,if_pos rfl] at ab
      show wpAny _ A.in1 (updateSeq S (fun _ => #[v,v]) >>= _) _ _ _
      refine wpAny_bind (wpAny_updateSeq (s := { s with heap := h',toks := tk }) hs' rfl ?_ (show (2 : Nat) ≤ sizeLine by decide) (show (2 : Nat) ≤ sizeLine + 1 by decide))
      have hs2 := Heap.get?_update_self (Obj.mapSeq (fun _ => (#[v,v] : Array Value))) hs' rfl
      refine wpAny_bind (wpAny_letGo (wpAny_pure ⟨plainId_quiet PySem.F.plain_max_loop _,?_⟩))
      refine ih (j + 1) _ v _ (by omega) (by omega) (Wk.frame _ _ _ st' fun b hb o q => (Heap.get?_update_other _ _ (fun z => hS (by rw [z]; exact hb))).trans q) (by rw [ab]; exact pv) hs2 fun v' h2 tk2 pv' kp' => hR v' h2 tk2 pv' fun b o hb nb q => kp' b o hb nb ((Heap.get?_update_other _ _ (Ne.symm nb)).trans (kp b o hb q))
    | false =>
      rw [hb,if_neg Bool.false_ne_true] at ab
      refine wpAny_bind (wpAny_letGo (wpAny_pure ⟨plainId_quiet PySem.F.plain_max_loop _,?_⟩))
      exact ih (j + 1) _ vb c (by omega) (by omega) st' (by rw [ab]; exact pb) hs' fun v' h2 tk2 pv' kp' => hR v' h2 tk2 pv' fun b o hb nb q => kp' b o hb nb (kp b o hb q)
theorem pU (d:Value) : Builtin.Builtins.bindParams "max" ["key", "default"] 0 { kw := [(Str.ofString "default",d)] } = pure [none,some d] :=by rfl
theorem mX {I S : Addr}{fp wr : List Addr}{n:Nat}{P:Nat → Value → Prop}{St : Nat → Heap → Prop}{R:Result → Shared → Prop} (Wk : Walks prog w A.in1 I fp wr n P St) (bt : Nat → Nat → Bool) (C:CmpOf prog w A.in1 .Gt P bt) (hS : S ∉ fp) (d:Value) {s:Shared}{c:Nat} (st : St 0 s.heap) (hs : s.heap.get? S = some { cls := .type "list",data := .seq #[] c })
    (h1 : 0 < n → ∀ (v:Value) (h' : Heap) (tk : Nat),P (argBest bt (n - 1)) v → (∀ b o,b ∉ wr → b ≠ S → s.heap.get? b = some o → h'.get? b = some o) → R (.ok (.ret v)) { s with heap := h',toks := tk })
    (h0 : n = 0 → ∀ (h' : Heap) (tk : Nat),(∀ b o,b ∉ wr → b ≠ S → s.heap.get? b = some o → h'.get? b = some o) → R (.ok (.ret d)) { s with heap := h',toks := tk }) :
    codeAny (model prog w) A (.builtin "max.loop" ⟨[.ref I,.none,.ref S],[(Str.ofString "default",d)]⟩) R s :=by
  refine codeAny_builtin PySem.F.entry_max_loop ?_
  rw [Around.under_plainId PySem.F.plain_max_loop _]
  show wpAny _ A.in1 (seqItems? (.ref S) >>= _) _ _ _
  refine wpAny_bind (seqI hs rfl ?_)
  show wpAny _ A.in1 (Sem.tryCatch (pyNext (.ref I)) _ >>= _) _ _ _
  rcases Nat.eq_zero_or_pos n with z | z
  · subst z
    refine wpAny_bind (wpAny_tryCatch (Wk.done s _ _ st fun h' tk kp => ?_))
    refine wpAny_bind (wpAny_rule ?_)
    exact wpAny_pure (h0 rfl h' tk fun b o hb _ q => kp b o hb q)
  · refine wpAny_bind (wpAny_tryCatch (Wk.item 0 s _ _ z st fun v h' tk pv st' kp => ?_))
    have hs' : h'.get? S = some { cls := .type "list",data := .seq #[] c } := kp S _ (fun q => hS (Wk.sub S q)) hs
    show wpAny _ A.in1 (updateSeq S (fun _ => #[v,v]) >>= _) _ _ _
    refine wpAny_bind (wpAny_updateSeq (s := { s with heap := h',toks := tk }) hs' rfl ?_ (Nat.zero_le _) (show (2 : Nat) ≤ sizeLine + 1 by decide))
    have hs2 := Heap.get?_update_self (Obj.mapSeq (fun _ => (#[v,v] : Array Value))) hs' rfl
    refine wpAny_pure ⟨plainId_quiet PySem.F.plain_max_loop _,?_⟩
    refine pi Wk bt C hS _ _ 0 _ v _ rfl z (Wk.frame _ _ _ st' fun b hb o q => (Heap.get?_update_other _ _ (fun z => hS (by rw [z]; exact hb))).trans q) pv hs2 fun v' h2 tk2 pv' kp' => h1 z v' h2 tk2 pv' fun b o hb nb q => kp' b o hb nb ((Heap.get?_update_other _ _ (Ne.symm nb)).trans (kp b o hb q))
theorem nv (x d : Value) : checkBuiltinCall "max" { pos := [x],kw := [(Str.ofString "default",d)] } = pure () :=by kernel_rfl
theorem pP {x d : Value}{Q:Value → Shared → Prop}
    (h:wpAny (model prog w) A.in1 (pyIter x) (fun it s₂ => ∃ I fp wr n P St bt,it = .ref I ∧ Walks prog w A.in1 I fp wr n P St ∧ St 0 s₂.heap ∧ (∀ b ∈ fp,b < s₂.heap.objs.size) ∧ CmpOf prog w A.in1 .Gt P bt ∧
      (0 < n → ∀ v h' tk,P (argBest bt (n - 1)) v → (∀ b o,b ∉ wr → s₂.heap.get? b = some o → h'.get? b = some o) → Q v { s₂ with heap := h',toks := tk }) ∧ (n = 0 → ∀ h' tk,(∀ b o,b ∉ wr → s₂.heap.get? b = some o → h'.get? b = some o) → Q d { s₂ with heap := h',toks := tk })) E s) :
    wpAny (model prog w) A (call (.builtin "max") [x] [(Str.ofString "default",d)]) Q E s :=by
  refine wpAny_call (codeAny_call_builtin PySem.F.plain_max PySem.F.entry_max ?_)
  rw [nv]
  refine wpAny_pure ?_
  show wpAny _ A.in1 (Builtin.Builtins.bindParams "max" ["key", "default"] 0 { kw := [(Str.ofString "default",d)] } >>= _) _ _ _
  rw [pU]
  refine wpAny_bind (wpAny_pure ?_)
  show wpAny _ A.in1 (pyIter x >>= _) _ _ _
  refine wpAny_bind (thn h fun it s2 qz => ?_)
  obtain ⟨I,fp,wr,n,P,St,bt,e,Wk,st,lt,C,h1,h0⟩ := qz
  subst e
  refine wpAny_bind (wpAny_newList ?_ (Nat.zero_le _))
  refine wpAny_pure ⟨plainId_quiet PySem.F.plain_max_loop _,?_⟩
  have up : ∀ b o,s2.heap.get? b = some o → (s2.heap.push { cls := .type "list",data := .seq #[] }).get? b = some o := fun b o q => Heap.get?_push_of_some _ q
  refine mX (S := s2.heap.objs.size) Wk bt C (fun m => Nat.lt_irrefl _ (lt _ m)) d (Wk.frame _ _ _ st fun b _ o q => up b o q) (Heap.get?_push_size _ rfl) (fun z v h' tk pv kp => ?_) fun z h' tk kp => ?_
  · exact h1 z v h' tk pv fun b o hb q => kp b o hb (Nat.ne_of_lt (Heap.lt_size q)) (up b o q)
  · exact h0 z h' tk fun b o hb q => kp b o hb (Nat.ne_of_lt (Heap.lt_size q)) (up b o q)
end
end L2
set_option maxHeartbeats 1000000
namespace L2
open PySem PySem.Spec PyProof.Rows
section
variable {X:Cx}{E:XK}{a b : Expr}{p pos kpos : Pos}{fa fb : Env' → M W}
noncomputable def shlW : W → W → M W := iiW CPow fun i j => .int (i * 2 ^ j.toNat)
theorem mU (ha : JE X E a fa) (hb : JE X E b fb) : JE X E (.BinOp a .LShift b pos) (m2 shlW fa fb) :=
  gj uH (dO fun _ _ _ => rv_int.mpr rfl) ha hb
noncomputable def andW : W → W → M W := iiW CT fun i j => .int (Builtin.bitAnd i j)
theorem kA (ha : JE X E a fa) (hb : JE X E b fb) : JE X E (.BinOp a .BitAnd b pos) (m2 andW fa fb) :=
  gj (opR0 uN) (dO fun _ _ _ => rv_int.mpr rfl) ha hb
noncomputable def tMaxD (K:PySem.W.Frag) (ta tb : TE) : TE := fun σ H Q => ta σ H fun x H1 => tb σ H1 fun y H2 => ∃ (p:Addr) (ns : List Int) (d:Int),x = .ref p ∧ y = .int d ∧ SqL K H2 p (ns.map V.int) ∧ Q (.int (if ns = [] then d else maxZ ns)) H2
theorem sx {ta tb : TE} (hc : X.calm = true) (hg : Gl X "max") (hm : X.mg "max" = none) (ha : PE X a ta) (hb : PE X b tb) (he : starEach [a] X.env = (false,eval a X.env) :: starEach [] X.env :=by rfl) :
    PE X (.Call (.Name "max" p) [a] [⟨some "default",b,kpos⟩] pos) (tMaxD X.K ta tb) :=by
  intro pins s σ H Q I h
  refine wpAny_Call_Name_kw (dc I hg hm PyProof.Rows.boot_max ?_ (by decide) (by decide))
  refine PyProof.Rows.callWith_builtin_kwB (first := []) (by rw [he]; rfl) rfl ?_
  rw [he]
  refine PySem.evalArgs_kw rfl (Calls.spliced_cons (thn (ha pins s σ H _ I h) fun u s1 ⟨x,H1,I1,rx,q1⟩ => Calls.spliced_nil ?_))
  show wpAny _ _ (evalAll [(do let v ← eval b X.env; standAt pos; pure v)]) _ _ s1
  refine wpAny_evalAll_cons (wpAny_bind (thn (hb pins s1 σ H1 _ I1 q1) fun v s2 ⟨y,H2,I2,ry,pp,ns,d,ex,ey,hq,q2⟩ => wpAny_bind (wpAny_standAt (wpAny_pure (wpAny_evalAll_nil ?_)))))
  subst ex ey
  cases rx
  obtain ⟨t,rfl⟩ := ry
  obtain ⟨its,rv,pl,hz⟩ := I2.list hq
  have hi := eQ rv
  obtain ⟨xs,e⟩ := hi.allInts.items
  have hl : s2.heap.IsList pp (intItems xs) :=by rw [← e]; exact pl.isList
  have en : ns = xs.toList.map (·.1) :=by
    rw [← nums_intItems,← e]
    exact (show numsOf its.toArray.toList = ns from hi.numsOf).symm
  have sz : xs.size = ns.length :=by rw [en,List.length_map,Array.length_toList]
  have szI : (intItems xs).size = xs.size :=by unfold intItems; simp
  have lp : pp < s2.heap.objs.size :=by obtain ⟨o,q,_⟩ := hl; exact Heap.lt_size q
  have hit : ∀ (i:Nat) (v:Value),(intItems xs)[i]? = some v → ∃ t,v = Value.int (numAt xs i) t := fun i v hv => intItems_at hv
  show wpAny _ _ (call (.builtin "max") [.ref pp] [(Str.ofString "default",.int d t)]) _ _ s2
  refine pP (wpAny_pyIter_list hl ⟨s2.heap.objs.size,_,_,_,_,_,fun i j => decide (numAt xs i > numAt xs j),rfl,Walks.list (A := X.A.in1) (I2.ok.hd hc) s2.heap.objs.size pp (Nat.ne_of_lt lp) (intItems xs),⟨?_,?_⟩,fun b hb => ?_,CmpOf.ints_gt _ hit,fun z v h' tk hv hk => ?_,fun z h' tk hk => ?_⟩)
  · exact ⟨_,Heap.get?_push_size _ rfl,rfl,rfl⟩
  · obtain ⟨o,q,r⟩ := hl; exact ⟨o,Heap.get?_push_of_some _ q,r⟩
  · have hs : (s2.heap.push { cls := .type "list_iterator",data := .fields #[.ref pp,.int 0 0] }).objs.size = s2.heap.objs.size + 1 := Heap.size_push ..
    simp only [List.mem_cons,List.not_mem_nil,or_false] at hb
    rw [hs]
    rcases hb with rfl | rfl
    · exact Nat.lt_succ_self _
    · exact Nat.lt_succ_of_lt lp
  · rw [szI] at z hv
    have hne : ns ≠ [] := fun q => by rw [sz,q] at z; exact Nat.lt_irrefl _ z
    obtain ⟨t',rfl⟩ := intItems_at hv
    have il := jh (fun i j => decide (numAt xs i > numAt xs j)) (xs.size - 1)
    have e1 := nV en (i := argBest (fun i j => decide (numAt xs i > numAt xs j)) (xs.size - 1)) (by omega)
    obtain ⟨m1,m2⟩ := gr hne
    obtain ⟨k,hk'⟩ := List.getElem?_of_mem m1
    have kl := (List.getElem?_eq_some_iff.mp hk').1
    have e2 := nV en (i := k) (by omega)
    rw [hk'] at e2
    have a1 := m2 _ (List.mem_of_getElem? e1)
    have a2 := rR (numAt xs) (xs.size - 1) k (by omega)
    have : numAt xs (argBest (fun i j => decide (numAt xs i > numAt xs j)) (xs.size - 1)) = maxZ ns :=by
      have := Option.some.inj e2
      omega
    rw [this]
    rw [if_neg hne] at q2
    exact ⟨.int (maxZ ns),H2,I2.kept (t' := tk) fun b o q => hk b o (fun m => by
      rw [List.mem_singleton] at m
      rw [m] at q
      exact Nat.lt_irrefl _ (Heap.lt_size q)) (Heap.get?_push_of_some _ q),⟨t',rfl⟩,q2⟩
  · rw [szI] at z
    have hne : ns = [] := List.length_eq_zero_iff.mp (by omega)
    rw [if_pos hne] at q2
    exact ⟨.int d,H2,I2.kept (t' := tk) fun b o q => hk b o (fun m => by
      rw [List.mem_singleton] at m
      rw [m] at q
      exact Nat.lt_irrefl _ (Heap.lt_size q)) (Heap.get?_push_of_some _ q),⟨t,rfl⟩,q2⟩
noncomputable def mMaxD (fa fb : Env' → M W) : Env' → M W := fun ρ => bd (fa ρ) fun x => bd (fb ρ) fun y => bd (lstO x) fun l => match optL iOf l,y with
  | some ns,.int d => pr (.int (if ns = [] then d else maxZ ns))
  | _,_ => no
theorem sR (hc : X.calm = true) (hm : X.mg "max" = none) (ha : JE X E a fa) (hb : JE X E b fb) (hg : Gl X "max" := by rfl) (he : starEach [a] X.env = (false,eval a X.env) :: starEach [] X.env :=by rfl) :
    JE X E (.Call (.Name "max" p) [a] [⟨some "default",b,kpos⟩] pos) (mMaxD fa fb) := (sx hc hg hm ha.h hb.h he).imp fun σ H Q h => by
  obtain ⟨o,ρ,rfl,R,S,h⟩ := h
  refine ⟨o,ρ,rfl,R,S,Ps.bd h fun p x vx e1 R1 r1 h1 => ⟨p,ρ,rfl,R1,S.mono R e1,Ps.bd h1 fun q y vy e2 R2 r2 h2 => ?_⟩⟩
  obtain ⟨l,a1,vs,rfl,s1,r3,h3⟩ := d9 R2 (r1.mono R1 e2) h2
  cases t1 : optL iOf l with
  | none => simp only [t1] at h3; exact h3.elim
  | some ns =>
    simp only [t1] at h3
    cases y with
    | int d =>
      have e3 : vs = ns.map V.int := fk i9 t1 r3
      subst e3
      exact ⟨a1,ns,d,rfl,rv_int.mp r2,.of s1,h3.pr R2 (rv_int.mpr rfl)⟩
    | _ => exact h3.elim
end
end L2
namespace Q
open PySem L2
noncomputable def top (i:Nat) : Stmt := PySem.Challenge.pw_blockfall_k37_turning_of_many_blocks.main.body.getD i (.Pass ⟨0,0,0,0⟩)
noncomputable abbrev cI : Stmt := top 1
noncomputable abbrev gN : Stmt := top 2
noncomputable abbrev fj : Stmt := top 4
noncomputable abbrev fL : Stmt := top 5
noncomputable abbrev bp : Stmt := top 8
noncomputable abbrev cH : Stmt := top 9
noncomputable abbrev cz : Stmt := top 7
noncomputable abbrev gO : Stmt := top 6
noncomputable abbrev aK : Stmt := top 12
noncomputable abbrev bh : Stmt := top 13
noncomputable abbrev dn : Stmt := top 11
noncomputable abbrev cL : Stmt := top 15
noncomputable abbrev bT : Stmt := top 16
noncomputable abbrev cx : Stmt := top 17
noncomputable abbrev bI : Stmt := top 18
noncomputable abbrev cn : Stmt := top 19
noncomputable abbrev bZ : Stmt := top 20
noncomputable abbrev cw : Stmt := top 21
noncomputable abbrev cK : Stmt := top 22
noncomputable abbrev bn : Stmt := top 23
noncomputable abbrev cJ : Stmt := top 24
noncomputable abbrev cu : Stmt := top 25
noncomputable abbrev cy : Stmt := top 26
noncomputable abbrev fX : Stmt := top 27
noncomputable def eB : Env' → M Fl := (sSeq (sIf (mB (m2 eqW (m2 ixW (mVar 0) (mC (.int 0))) (mC (.str "go")))) (sRet (mTup (mCons (m2 ixW (mVar 0) (mC (.int 1))) mNil))) sNil) (sSeq (sIf (mB (m2 eqW (m2 ixW (mVar 0) (mC (.int 0))) (mC (.str "if")))) (sRet (mTup (mCons (m2 ixW (mVar 0) (mC (.int 4))) (mCons (m2 ixW (mVar 0) (mC (.int 5))) mNil)))) sNil) (sSeq (sIf (mB (m2 eqW (m2 ixW (mVar 0) (mC (.int 0))) (mC (.str "table")))) (sRet (m2 ixW (mVar 0) (mC (.int 2)))) sNil) (sRet (mTup mNil)))))
noncomputable def dE : List W → M W := runF 1 eB
noncomputable def kJ : Env' → M Fl := (sSeq (sSet 1 (mNew (lenG mNil))) (sSeq (sFor (mSrcA (mCons (m2 ixW (mVar 0) (mC (.int 1))) mNil) enumL) (tgT [2,3]) (sFor (mSrcA (mCons (mCall (arW 1 dE) (mCons (m2 ixW (mVar 3) (mC (.int 2))) mNil)) mNil) enumT) (tgT [4,5]) (sEx (mMeth isL dm (mVar 1) (mCons (mTup (mCons (mVar 2) (mCons (mVar 4) (mCons (mVar 5) mNil)))) mNil))))) (sRet (m1 iceW (mVar 1)))))
noncomputable def fP : List W → M W := runF 6 kJ
noncomputable def iw : Env' → M Fl := (sSeq (sSet 2 gW) (sSeq (sFor (mSrcA (mCons (mCall (arW 1 fP) (mCons (mVar 0) mNil)) (mCons (mVar 1) mNil)) (srcZ false false)) (tgT [3,4]) (sSeq (sSet 5 (m2 ixW (m2 ixW (m2 ixW (mVar 0) (mC (.int 1))) (m2 ixW (mVar 3) (mC (.int 0)))) (mC (.int 2)))) (sIf (mB (m2 neW (m2 ixW (mVar 5) (mC (.int 0))) (mC (.str "table")))) (sSeq (sSet 6 (mKt (mCons (m2 ixW (mVar 3) (mC (.int 0))) (mCons (m2 ixW (mVar 3) (mC (.int 2))) mNil)))) (aP (mVar 2) (mVar 6) (m2 addW (mGetT (mVar 2) (mVar 6) (mC (.int 0))) (mVar 4)))) sNil))) (sRet (mVar 2))))
noncomputable def eI : List W → M W := runF 7 iw
noncomputable def kK : Env' → M Fl := (sSeq (sSet 3 (mCall (arW 2 eI) (mCons (mVar 0) (mCons (mVar 2) mNil)))) (sRet (m2 subW (mCall sumW (mCons (mVar 2) mNil)) (mCall sumW (mCons (mTl (mComp [] (mSrcA (mCons (mVar 1) (mCons (m3 slW (mVar 1) (mPart (mC (.int 1))) ay) mNil)) (srcZ true true)) (tgN 0) mYes (mGetT (mVar 5) (mVar 0) (mC (.int 0))) 2)) mNil)))))
noncomputable def g6 : List W → M W := runF 4 kK
noncomputable def dk : Env' → M Fl := (sSeq (sSet 1 (mTl (lenG (mCons (mTup (mCons (mC (.int 0)) mNil)) mNil)))) (sSeq (sFor (mSrcA (mCons (mC (.int 1)) (mCons (mVar 0) mNil)) rng2) (tgN 2) (sSet 1 (m2 addW (mVar 1) (mTl (mComp [] (mSrc (mVar 1) srcL) (tgN 0) mYes (m2 addW (mVar 0) (mTup (mCons (mVar 4) mNil))) 2))))) (sRet (mVar 1))))
noncomputable def cE : List W → M W := runF 3 dk
noncomputable def fB : Env' → M Fl := (sRet (mCall iJ (mCons (mTl (mComp [] (mSrc (mVar 0) srcT) (tgN 0) (mB (m2 neW (mVar 0) (mVar 3))) (mVar 0) 2)) mNil)))
noncomputable def dX : List W → M W := runF 2 fB
noncomputable def dL : Env' → M Fl := (sSeq (sSet 4 (mC .non)) (sSeq (sFor (mSrc (mVar 1) srcT) (tgN 5) (sSeq (sSet 6 (m2 ixN' (mVar 3) (mTup (mCons (mVar 5) (mCons (mCall (arW 2 dX) (mCons (mVar 1) (mCons (mVar 5) mNil))) mNil))))) (sSeq (sSet 7 (m2 addW (mGetT (mVar 2) (mTup (mCons (mVar 0) (mCons (mVar 5) mNil))) (mC (.int 0))) (m2 ixW (mVar 6) (mC (.int 0))))) (sIf (mOr (mB (m2 isNW (mVar 4) (mC .non))) (mB (m2 gtW (mVar 7) (m2 ixW (mVar 4) (mC (.int 0)))))) (sSet 4 (mTup (mCons (mVar 7) (mCons (m2 addW (mTup (mCons (mVar 5) mNil)) (m2 ixW (mVar 6) (mC (.int 1)))) mNil)))) sNil)))) (sRet (mIf (mB (m2 isNW (mVar 4) (mC .non))) (mTup (mCons (mC (.int 0)) (mCons (mTup mNil) mNil))) (mVar 4)))))
noncomputable def cW : List W → M W := runF 8 dL
noncomputable def kL : Env' → M Fl := (sSeq (sSet 2 (mCall lenW (mCons (m2 ixW (mVar 0) (mC (.int 1))) mNil))) (sSeq (sSet 3 (mCall (arW 2 eI) (mCons (mVar 0) (mCons (mVar 1) mNil)))) (sSeq (sSet 4 (mZ false)) (sSeq (sFor (mSrc (mCall (arW 1 cE) (mCons (mVar 2) mNil)) srcL) (tgN 5) (sSeq (sSet 6 (m3 slW (mVar 5) (mPart (mC (.int 1))) ay)) (sFor (mSrcA (mCons (mVar 2) mNil) rng1) (tgN 7) (sIf (mB (m2 iV (mVar 7) (mVar 6))) (nK (mVar 4) (mTup (mCons (mVar 7) (mCons (mVar 6) mNil))) (mCall (arW 4 cW) (mCons (mVar 7) (mCons (mVar 6) (mCons (mVar 3) (mCons (mVar 4) mNil)))))) sNil)))) (sRet (m2 addW (mTup (mCons (mC (.int 0)) mNil)) (m2 ixW (m2 ixN' (mVar 4) (mTup (mCons (mC (.int 0)) (mCons (mCall trW (mCons (mC (.int 1)) (mCons (mVar 2) mNil))) mNil)))) (mC (.int 1)))))))))
noncomputable def g7 : List W → M W := runF 8 kL
noncomputable def be : Env' → M Fl := (sSeq (sSet 2 (m2 ixW (m2 ixW (m2 ixW (mVar 0) (mC (.int 1))) (m2 ixW (mVar 1) (mC (.int 0)))) (mC (.int 2)))) (sRet (mAndV (m2 neW (m2 ixW (mVar 2) (mC (.int 0))) (mC (.str "table"))) (mAndV (m2 neW (m2 ixW (mVar 1) (mC (.int 2))) (m2 ixW (mVar 1) (mC (.int 0)))) (m2 neW (m2 ixW (mVar 1) (mC (.int 2))) (mC (.int 0)))))))
noncomputable def aT : List W → M W := runF 3 be
noncomputable def dh : Env' → M Fl := (sRet (mTl (mComp [] (mSrcA (mCons (mCall (arW 1 fP) (mCons (mVar 0) mNil)) (mCons (mVar 1) mNil)) (srcZ false false)) (tgT [0,1]) mYes (mIf (mB (m2 eqW (mVar 0) (mVar 5))) (mVar 6) (mVar 1)) 3)))
noncomputable def cc : List W → M W := runF 4 dh
noncomputable def fD : Env' → M Fl := (sSeq (sIf (mNot (mB (mCall (arW 2 aT) (mCons (mVar 0) (mCons (mVar 2) mNil))))) (sRet (mC .non)) sNil) (sSeq (sSet 3 (mCall (arW 4 cc) (mCons (mVar 0) (mCons (mVar 1) (mCons (mVar 2) (mCons (mC (.int 0)) mNil)))))) (sSeq (sSet 4 (mCall (arW 4 cc) (mCons (mVar 0) (mCons (mVar 1) (mCons (mVar 2) (mCons (m2 addW (mCall sumW (mCons (mVar 1) mNil)) (mC (.int 1))) mNil)))))) (sSeq (sSet 5 (mCall (arW 2 g7) (mCons (mVar 0) (mCons (mVar 4) mNil)))) (sRet (m2 subW (mCall (arW 3 g6) (mCons (mVar 0) (mCons (mVar 5) (mCons (mVar 3) mNil)))) (mCall (arW 3 g6) (mCons (mVar 0) (mCons (mCall (arW 2 g7) (mCons (mVar 0) (mCons (mVar 3) mNil))) (mCons (mVar 3) mNil))))))))))
noncomputable def dY : List W → M W := runF 6 fD
noncomputable def eF : Env' → M Fl := (sSeq (sSet 2 (m2 ixW (mVar 0) (mC (.int 1)))) (sSeq (aP (mVar 0) (mC (.int 1)) (m2 addW (mVar 2) (mC (.int 1)))) (sSeq (sIf (mB (m2 eqW (m2 ixW (mVar 0) (mC (.int 0))) (mTl (lenG mNil)))) (sRet (m2 modW (m2 addW (m2 mulW (m2 mulW (mVar 2) (mVar 2)) (mC (.int 7))) (m2 fdivW (mVar 2) (mC (.int 3)))) (mVar 1))) sNil) (sSeq (sSet 3 (m2 modW (mVar 2) (mCall lenW (mCons (m2 ixW (mVar 0) (mC (.int 0))) mNil)))) (sSeq (sIf (mB (m2 ixW (m2 ixW (mVar 0) (mC (.int 2))) (mVar 3))) (sSeq (sSet 4 (m2 modW (m2 ixW (m2 ixW (mVar 0) (mC (.int 0))) (mVar 3)) (mVar 1))) (sSeq (aP (m2 ixW (mVar 0) (mC (.int 0))) (mVar 3) (m2 fdivW (m2 ixW (m2 ixW (mVar 0) (mC (.int 0))) (mVar 3)) (mVar 1))) (sRet (mVar 4)))) sNil) (sSeq (sSet 5 (m2 modW (m2 mulW (m2 addW (m2 modW (m2 ixW (m2 ixW (mVar 0) (mC (.int 0))) (mVar 3)) (mC (.int 2147483629))) (m2 mulW (mC (.int 62233)) (m2 addW (mVar 2) (mC (.int 1))))) (mC (.int 48271))) (mC (.int 2147483629)))) (sSeq (sSet 5 (m2 modW (m2 mulW (mVar 5) (mVar 5)) (mC (.int 2147483587)))) (sRet (m2 modW (m2 fdivW (m2 modW (m2 mulW (mVar 5) (mC (.int 69621))) (mC (.int 2147483579))) (mC (.int 8))) (mVar 1))))))))))
noncomputable def au : List W → M W := runF 6 eF
noncomputable def eG : Env' → M Fl := (sSeq (sSet 1 (mTl (mComp [] (mSrc (m3 slW (mVar 0) ay (mPart (mC (.int 63)))) srcL) (tgN 0) mYes (m2 geW (mVar 0) (m2 powW (mC (.int 10)) (mC (.int 18)))) 2))) (sRet (mNew (lenG (mCons (mNew (mComp [] (mSrc (m3 slW (mVar 0) ay (mPart (mC (.int 63)))) srcL) (tgN 0) mYes (m2 subW (mVar 0) (m2 mulW (m2 powW (mC (.int 10)) (mC (.int 18))) (mCall intW (mCons (m2 geW (mVar 0) (m2 powW (mC (.int 10)) (mC (.int 18)))) mNil)))) 2)) (mCons (mC (.int 0)) (mCons (mVar 1) mNil)))))))
noncomputable def cQ : List W → M W := runF 2 eG
noncomputable def fE : Env' → M Fl := (sSeq (sSet 2 (mCall (arW 2 au) (mCons (mVar 0) (mCons (mC (.int 8)) mNil)))) (sSeq (sSet 3 (mTl (mComp [] (mSrcA (mCons (mC (.int 2)) mNil) rng1) (tgN 0) mYes (mCall (arW 2 au) (mCons (mVar 2) (mCons (mVar 3) mNil))) 2))) (sSeq (sIf (mB (m2 ltW (mVar 2) (mC (.int 3)))) (sRet (mTup (mCons (mC (.str "go")) (mCons (m2 ixW (mVar 3) (mC (.int 0))) mNil)))) sNil) (sSeq (sIf (mB (m2 ltW (mVar 2) (mC (.int 6)))) (sRet (mTup (mCons (mC (.str "if")) (mCons (m2 ixW (mC (.str "<=")) (mCall (arW 2 au) (mCons (mVar 0) (mCons (mC (.int 2)) mNil)))) (mCons (mTup (mCons (mC (.str "number")) (mCons (mC (.int 1)) mNil))) (mCons (mTup (mCons (mC (.str "number")) (mCons (mCall (arW 2 au) (mCons (mVar 0) (mCons (mC (.int 3)) mNil))) mNil))) (mCons (m2 ixW (mVar 3) (mC (.int 0))) (mCons (m2 ixW (mVar 3) (mC (.int 1))) mNil)))))))) sNil) (sSeq (sIf (mB (m2 eqW (mVar 2) (mC (.int 6)))) (sRet (mTup (mCons (mC (.str "table")) (mCons (mTup (mCons (mC (.str "number")) (mCons (mC (.int 5)) mNil))) (mCons (mCall iJ (mCons (mTl (mComp [] (mSrcA (mCons (m2 addW (mC (.int 1)) (mCall (arW 2 au) (mCons (mVar 0) (mCons (mC (.int 6)) mNil)))) mNil) rng1) (tgN 0) mYes (mCall (arW 2 au) (mCons (mVar 2) (mCons (mVar 3) mNil))) 2)) mNil)) mNil))))) sNil) (sRet (mTup (mCons (mC (.str "stop")) mNil))))))))
noncomputable def dw : List W → M W := runF 4 fE
noncomputable def cT : Env' → M Fl := (sSeq (sSet 2 (mNew (lenG mNil))) (sSeq (sFor (mSrcA (mCons (mVar 1) mNil) rng1) (tgN 3) (sSeq (sSet 4 (m3 slW (mTl (lenG (mCons (mTup (mCons (mC (.str "say")) (mCons (mTup (mCons (mC (.str "number")) (mCons (mVar 3) mNil))) mNil))) mNil))) ay (mPart (mCall (arW 2 au) (mCons (mVar 0) (mCons (mC (.int 2)) mNil)))))) (sEx (mMeth isL dm (mVar 2) (mCons (mTup (mCons (m2 addW (m2 ixW (mC (.str "abcdefghij")) (mVar 3)) (mC (.str "x"))) (mCons (mVar 4) (mCons (mCall (arW 2 dw) (mCons (mVar 0) (mCons (mVar 1) mNil))) mNil)))) mNil))))) (sRet (mTup (mCons (mTl (lenG mNil)) (mCons (m1 iceW (mVar 2)) mNil))))))
noncomputable def bK : List W → M W := runF 5 cT
noncomputable def eC : Env' → M Fl := (sSeq (sSet 1 (mTl (lenG mNil))) (sSeq (sFor (mSrcA (mCons (m2 ixW (mVar 0) (mC (.int 1))) mNil) enumL) (tgT [2,3]) (sSeq (sSet 4 (m2 ixW (mVar 3) (mC (.int 2)))) (sSeq (sSet 5 (mTl (lenG mNil))) (sSeq (sIf (mB (m2 eqW (m2 ixW (mVar 4) (mC (.int 0))) (mC (.str "table")))) (sSet 5 (mTl (listL (mCons (m2 ixW (mVar 4) (mC (.int 2))) mNil)))) (sIf (mB (m2 neW (m2 ixW (mVar 4) (mC (.int 0))) (mC (.str "stop")))) (sSet 5 (mTl (listL (mCons (m3 slW (mVar 4) (mPart (m2 ixW (mTl (lenG (mCons (mC (.int 4)) (mCons (mC (.int 1)) mNil)))) (mCall intW (mCons (m2 eqW (m2 ixW (mVar 4) (mC (.int 0))) (mC (.str "go"))) mNil)))) ay) mNil)))) sNil)) (sSet 1 (m2 addW (mVar 1) (mTl (mComp [] (mSrcA (mCons (mVar 5) mNil) enumL) (tgT [0,1]) mYes (mTup (mCons (mVar 5) (mCons (mVar 0) (mCons (mVar 1) mNil)))) 3)))))))) (sRet (mVar 1))))
noncomputable def bW : List W → M W := runF 6 eC
noncomputable def di : Env' → M Fl := (sSeq (sSet 2 (mCall (arW 2 au) (mCons (mVar 0) (mCons (mC (.int 4)) mNil)))) (sSeq (sSet 3 (mNew (lenG mNil))) (sSeq (sFor (mSrcA (mCons (mVar 1) mNil) rng1) (tgN 4) (sSeq (sSet 5 (m2 mulW (mCall (arW 2 au) (mCons (mVar 0) (mCons (m2 ixW (mTl (lenG (mCons (mC (.int 3)) (mCons (mC (.int 10)) (mCons (mC (.int 100)) (mCons (m2 powW (mC (.int 10)) (mC (.int 15))) mNil)))))) (mVar 2)) mNil))) (m2 ixW (mTl (lenG (mCons (mC (.int 1)) (mCons (mC (.int 1)) (mCons (mC (.int 1)) (mCons (m2 powW (mC (.int 10)) (mC (.int 14))) mNil)))))) (mVar 2)))) (sEx (mMeth isL dm (mVar 3) (mCons (m2 mulW (mVar 5) (mCall intW (mCons (m2 gtW (mCall (arW 2 au) (mCons (mVar 0) (mCons (mC (.int 6)) mNil))) (mC (.int 0))) mNil))) mNil))))) (sRet (m1 iceW (mVar 3))))))
noncomputable def ci : List W → M W := runF 6 di
noncomputable def dJ : Env' → M Fl := (sSeq (sSet 3 gW) (sSeq (sFor (mSrcA (mCons (mCall (arW 1 bW) (mCons (mVar 0) mNil)) (mCons (mVar 1) mNil)) (srcZ false false)) (tgT [4,5]) (sIf (mAnd (mB (m2 neW (mVar 4) (mVar 2))) (mB (m2 neW (m2 ixW (m2 ixW (m2 ixW (m2 ixW (mVar 0) (mC (.int 1))) (m2 ixW (mVar 4) (mC (.int 0)))) (mC (.int 2))) (mC (.int 0))) (mC (.str "table"))))) (aP (mVar 3) (mKt (mCons (m2 ixW (mVar 4) (mC (.int 0))) (mCons (m2 ixW (mVar 4) (mC (.int 2))) mNil))) (m2 addW (mGetT (mVar 3) (mKt (mCons (m2 ixW (mVar 4) (mC (.int 0))) (mCons (m2 ixW (mVar 4) (mC (.int 2))) mNil))) (mC (.int 0))) (mVar 5))) sNil)) (sRet (mVar 3))))
noncomputable def cV : List W → M W := runF 6 dJ
noncomputable def eE : Env' → M Fl := (sRet (mOrV (m2 eqW (m2 ixW (m2 ixW (m2 ixW (m2 ixW (mVar 0) (mC (.int 1))) (m2 ixW (mVar 1) (mC (.int 0)))) (mC (.int 2))) (mC (.int 0))) (mC (.str "table"))) (m2 inW (m2 ixW (mVar 1) (mC (.int 2))) (mTl (lenG (mCons (m2 ixW (mVar 1) (mC (.int 0))) (mCons (mC (.int 0)) mNil)))))))
noncomputable def dF : List W → M W := runF 2 eE
noncomputable def dj : Env' → M Fl := (sRet (mTup (mCons (mTl (listL (mCons (m2 ixW (mVar 0) (mC (.int 0))) mNil))) (mCons (mTl (mComp [] (mSrc (m2 ixW (mVar 0) (mC (.int 1))) srcL) (tgT [0,1,2]) mYes (mTup (mCons (mVar 0) (mCons (mTl (listL (mCons (mVar 1) mNil))) (mCons (mVar 2) mNil)))) 4)) mNil))))
noncomputable def cD : List W → M W := runF 1 dj
noncomputable def eD : Env' → M Fl := (sSeq (sSet 4 (mCall (arW 1 cD) (mCons (mVar 0) mNil))) (sSeq (sSet 5 (mTl (listL (mCons (mVar 1) mNil)))) (sSeq (sSet 6 (mCall (arW 3 dY) (mCons (mVar 4) (mCons (mVar 5) (mCons (mVar 2) mNil))))) (sSeq (sIf (mOr (mB (m2 neW (mVar 4) (mVar 0))) (mB (m2 neW (mVar 5) (mVar 1)))) (sRet (mC (.bl false))) sNil) (sSeq (sIf (mB (m2 isNW (mVar 3) (mC .non))) (sRet (m2 isNW (mVar 6) (mC .non))) sNil) (sRet (mAndV (mCall isiW (mCons (mVar 6) (mCons (mC (.ty "int")) mNil))) (mAndV (mNotV (mCall isiW (mCons (mVar 6) (mCons (mC (.ty "bool")) mNil)))) (m2 eqW (mVar 6) (mVar 3))))))))))
noncomputable def cP : List W → M W := runF 7 eD
noncomputable def dI : Env' → M Fl := (sSeq (sSet 3 gW) (sSeq (sFor (mSrcA (mCons (m2 shlW (mC (.int 1)) (mVar 0)) mNil) rng1) (tgN 4) (sFor (mSrcA (mCons (mVar 0) mNil) rng1) (tgN 5) (sIf (mAnd (mB (m2 eqW (m2 andW (m2 shrW (mVar 4) (mVar 5)) (mC (.int 1))) (mC (.int 0)))) (mB (m2 eqW (m2 andW (mVar 4) (mC (.int 1))) (mC (.int 0))))) (sSeq (sSet 6 (m3 slW (mTl (lenG (mCons (mC (.int 0)) mNil))) ay (mPart (mCall intW (mCons (m2 eqW (mVar 4) (mC (.int 0))) mNil))))) (sSeq (sFor (mSrcA (mCons (mVar 0) mNil) rng1) (tgN 7) (sIf (mAnd (mB (m2 eqW (m2 andW (m2 shrW (mVar 4) (mVar 7)) (mC (.int 1))) (mC (.int 1)))) (mB (m2 fu (mTup (mCons (mVar 5) (mCons (mVar 7) mNil))) (mVar 2)))) (sSeq (sSet 8 (m2 ixT' (mVar 3) (mTup (mCons (m2 subW (mVar 4) (m2 shlW (mC (.int 1)) (mVar 7))) (mCons (mVar 7) mNil))))) (sSet 6 (m2 addW (mVar 6) (mTl (mulL (mTl (lenG (mCons (m2 addW (mVar 8) (mGetT (mVar 1) (mTup (mCons (mVar 5) (mCons (mVar 7) mNil))) (mC (.int 0)))) mNil))) (mCall intW (mCons (m2 geW (mVar 8) (mC (.int 0))) mNil))))))) sNil)) (aP (mVar 3) (mKt (mCons (mVar 4) (mCons (mVar 5) mNil))) (mMaxD (mVar 6) (m1 negW (mC (.int 1))))))) sNil))) (sRet (m2 ixT' (mVar 3) (mTup (mCons (m2 subW (m2 shlW (mC (.int 1)) (mVar 0)) (mC (.int 2))) (mCons (mC (.int 0)) mNil)))))))
noncomputable def cA : List W → M W := runF 9 dI
noncomputable def fF : Env' → M Fl := (sSeq (sIf (mB (mCall (arW 2 dF) (mCons (mVar 0) (mCons (mVar 2) mNil)))) (sRet (mC .non)) sNil) (sSeq (sSet 3 (mCall lenW (mCons (m2 ixW (mVar 0) (mC (.int 1))) mNil))) (sSeq (sSet 4 (mCall (arW 3 cV) (mCons (mVar 0) (mCons (mVar 1) (mCons (mVar 2) mNil))))) (sSeq (sSet 5 (mTl (mComp [] (mSrcA (mCons (mVar 3) mNil) rng1) (tgN 0) (mB (m2 neW (mVar 0) (m2 ixW (mVar 4) (mC (.int 2))))) (mTup (mCons (m2 ixW (mVar 4) (mC (.int 0))) (mCons (mVar 0) mNil))) 2))) (sSeq (sSet 5 (m2 addW (mVar 5) (mTl (mComp [] (mSrcA (mCons (mVar 3) mNil) rng1) (tgN 0) (mB (m2 neW (mVar 0) (m2 ixW (mVar 4) (mC (.int 0))))) (mTup (mCons (mVar 0) (mCons (m2 ixW (mVar 4) (mC (.int 2))) mNil))) 2)))) (sSeq (sSet 6 (mCall (arW 3 cA) (mCons (mVar 3) (mCons (mVar 4) (mCons (mVar 5) mNil))))) (sRet (mCall maxW (mCons (mC (.int 0)) (mCons (m2 subW (mCall (arW 3 cA) (mCons (mVar 3) (mCons (mVar 4) (mCons (mTl (lenG (mCons (mTup (mCons (m2 ixW (mVar 2) (mC (.int 0))) (mCons (m2 ixW (mVar 2) (mC (.int 2))) mNil))) mNil))) mNil)))) (mVar 6)) mNil))))))))))
noncomputable def dy : List W → M W := runF 7 fF
noncomputable def ol : Env' → M Fl := (sSeq (sSet 1 (mCall (arW 1 cQ) (mCons (mVar 0) mNil))) (sSeq (sSet 2 (mC (.int 7))) (sSeq (sIf (mB (m2 eqW (mCall (arW 2 au) (mCons (mVar 1) (mCons (mC (.int 16)) mNil))) (mC (.int 3)))) (sSet 2 (m2 addW (mC (.int 8)) (mCall (arW 2 au) (mCons (mVar 1) (mCons (mC (.int 3)) mNil))))) sNil) (sSeq (sSet 3 (mCall (arW 2 bK) (mCons (mVar 1) (mCons (mVar 2) mNil)))) (sSeq (sSet 4 (mCall (arW 1 bW) (mCons (mVar 3) mNil))) (sSeq (sSet 5 (mCall (arW 2 ci) (mCons (mVar 1) (mCons (mCall lenW (mCons (mVar 4) mNil)) mNil)))) (sSeq (sSet 6 (mNew (catL (m3 slW (mVar 4) ay (mPart (mC (.int 1)))) (m3 slW (mVar 4) (mPart (m1 negW (mC (.int 1)))) ay)))) (sSeq (sIf (mB (m2 neW (mVar 4) (mTl (lenG mNil)))) (sEx (mMeth isL gB (mVar 6) (mCons (mC (.int 0)) (mCons (m2 ixW (mVar 4) (mCall (arW 2 au) (mCons (mVar 1) (mCons (mCall lenW (mCons (mVar 4) mNil)) mNil)))) mNil)))) sNil) (sSeq (sIf (mB (m2 gtW (mVar 2) (mC (.int 7)))) (sSet 6 (m3 slW (mVar 6) ay (mPart (mC (.int 1))))) sNil) (sSeq (sFor (mSrc (mVar 6) srcL) (tgN 7) (sIf (mNot (mB (mCall (arW 4 cP) (mCons (mVar 3) (mCons (mVar 5) (mCons (mVar 7) (mCons (mCall (arW 3 dy) (mCons (mVar 3) (mCons (mVar 5) (mCons (mVar 7) mNil)))) mNil))))))) (sRet (mC (.bl false))) sNil)) (sRet (mC (.bl true)))))))))))))
noncomputable def jO : List W → M W := runF 8 ol
section
variable {P:Program}{w:World}{K:PySem.W.Frag}{mg : Str → Option Value}{base : Heap}{f:Addr}{fd : FuncData}
theorem lf : FnScope ["end"] ["end"] (ai cI) := ⟨rfl,rfl,rfl,by decide +kernel,rfl,by decide +kernel,by decide +kernel⟩
theorem ly   (F:Fun K "sides_of" "sides_of" cI f fd) (B:Binds K fd ["end"] []) (Mf : mg "sides_of" = some (.ref f)) : CG P w K mg base 1 "sides_of" f fd ["end"] 1 dE :=by
  refine ⟨bS (g := eB) F lf rfl rfl rfl fun cdv A outer s H E hr => ?_,B,F.kp,Mf⟩
  have hu := bQ hr
  have hu6 := hr.units
  exact (ah (bO (aH dA (cq hu6) (ar hu (ae 0) af (fun _ _ => rfl)) aZ (az _)) (ak (aB (aD (ac (ar hu (ae 0) af (fun _ _ => rfl)) ag bH)))) aJ)
    (ah (bO (aH dA (cq hu6) (ar hu (ae 0) af (fun _ _ => rfl)) aZ (az _)) (ak (aB (aD (ac (ar hu (ae 0) af (fun _ _ => rfl)) (ac (ar hu (ae 0) af (fun _ _ => rfl)) ag bH) bH)))) aJ)
    (ah (bO (aH dA (cq hu6) (ar hu (ae 0) af (fun _ _ => rfl)) aZ (az _)) (ak (aB (ar hu (ae 0) af (fun _ _ => rfl)))) aJ)
    (ak (aB (aD ag))))))
theorem sc_ways : FnScope ["program", "told", "place", "block", "side", "behind"] ["program"] (ai gN) := ⟨rfl,rfl,rfl,by decide +kernel,rfl,by decide +kernel,by decide +kernel⟩
theorem sI {a_sides_of : Addr}{d_sides_of : FuncData} (y_enumerate : mg "enumerate" = none) (C_sides_of : CG P w K mg base 1 "sides_of" a_sides_of d_sides_of ["end"] 1 dE) (F:Fun K "ways" "ways" gN f fd) (B:Binds K fd ["program"] []) (Mf : mg "ways" = some (.ref f)) : CG P w K mg base 2 "ways" f fd ["program"] 1 fP :=by
  refine ⟨bS (g := kJ) F sc_ways rfl rfl rfl fun cdv A outer s H E hr => ?_,B,F.kp,Mf⟩
  have hu := bQ hr
  have hu6 := hr.units
  exact (ah (av (i := 1) sc_ways.nd rfl (Or.inl rfl) (gS (bN ag)))
    (ah (cr PassesOwn.never rfl (ku y_enumerate (ac (ar hu (ae 0) af (fun _ _ => rfl)) ag bH)) (eS rfl (aQ (ax (i := 2) sc_ways.nd rfl (Or.inl rfl)) (aQ (ax (i := 3) sc_ways.nd rfl (Or.inl rfl)) dH))) (eR 6 [2,3] (by decide)) (ak (cr PassesOwn.never rfl (qU y_enumerate (ac (aG (ps := ["end"]) C_sides_of (hr.mono (by omega)) (ac (ar hu (ae 3) af (fun _ _ => rfl)) ag bH) (he := bH) (hpl := ao)) ag d5)) (eS rfl (aQ (ax (i := 4) sc_ways.nd rfl (Or.inl rfl)) (aQ (ax (i := 5) sc_ways.nd rfl (Or.inl rfl)) dH))) (eR 6 [4,5] (by decide)) (ak (iq (gU (ae 1) (ac (aD (ac (ae 2) (ac (ae 4) (ac (ae 5) ag aj) aj) aj)) ag jj)))))))
    (ak (aB (mW (ae 1))))))
theorem sc_gains : FnScope ["program", "counted", "gained", "way", "count", "end", "neighbours"] ["program", "counted"] (ai fj) := ⟨rfl,rfl,rfl,by decide +kernel,rfl,by decide +kernel,by decide +kernel⟩
theorem qM {a_ways : Addr}{d_ways : FuncData} (y_zip : mg "zip" = none) (C_ways : CG P w K mg base 2 "ways" a_ways d_ways ["program"] 1 fP) (F:Fun K "gains" "gains" fj f fd) (B:Binds K fd ["program", "counted"] []) (Mf : mg "gains" = some (.ref f)) : CG P w K mg base 3 "gains" f fd ["program", "counted"] 2 eI :=by
  refine ⟨bS (g := iw) F sc_gains rfl rfl rfl fun cdv A outer s H E hr => ?_,B,F.kp,Mf⟩
  have hu := bQ hr
  have hu6 := hr.units
  exact (ah (av (i := 2) sc_gains.nd rfl (Or.inl rfl) i3)
    (ah (cr PassesOwn.never rfl (mR false false y_zip (ac (aG (ps := ["program"]) C_ways (hr.mono (by omega)) (ac (ae 0) ag aj) (he := aj) (hpl := ao)) (ac (ae 1) ag aj) d5)) (eS rfl (aQ (ax (i := 3) sc_gains.nd rfl (Or.inl rfl)) (aQ (ax (i := 4) sc_gains.nd rfl (Or.inl rfl)) dH))) (eR 7 [3,4] (by decide)) (ah (av (i := 5) sc_gains.nd rfl (Or.inl rfl) (ar hu (ar hu (ar hu (ae 0) af (fun _ _ => rfl)) (ar hu (ae 3) af (fun _ _ => rfl)) (fun _ _ => rfl)) af (fun _ _ => rfl)))
    (ak (bO (aH dR (cM hu6) (ar hu (ae 5) af (fun _ _ => rfl)) aZ (az _)) (ah (av (i := 6) sc_gains.nd rfl (Or.inl rfl) (nW (ac (ar hu (ae 3) af (fun _ _ => rfl)) (ac (ar hu (ae 3) af (fun _ _ => rfl)) ag bH) bH)))
    (ak (eU hu (ae 2) (ae 6) (bv (gp hu (ae 2) (ae 6) af) (ae 4))))) aJ))))
    (ak (aB (ae 2)))))
theorem sc_cost : FnScope ["program", "order", "counted", "gained"] ["program", "order", "counted"] (ai fL) := ⟨rfl,rfl,rfl,by decide +kernel,rfl,by decide +kernel,by decide +kernel⟩
theorem o5 : ((["neighbours", ".0"] : List Str) ++ (["program", "order", "counted", "gained"] : List Str).map (hid ["neighbours", ".0"])).Nodup :=by decide +kernel
theorem sK {a_gains : Addr}{d_gains : FuncData} (y_sum : mg "sum" = none) (y_zip : mg "zip" = none) (C_gains : CG P w K mg base 3 "gains" a_gains d_gains ["program", "counted"] 2 eI) (F:Fun K "cost" "cost" fL f fd) (B:Binds K fd ["program", "order", "counted"] []) (Mf : mg "cost" = some (.ref f)) : CG P w K mg base 4 "cost" f fd ["program", "order", "counted"] 3 g6 :=by
  refine ⟨bS (g := kK) F sc_cost rfl rfl rfl fun cdv A outer s H E hr => ?_,B,F.kp,Mf⟩
  have hu := bQ hr
  have hu6 := hr.units
  exact (ah (av (i := 3) sc_cost.nd rfl (Or.inr rfl) (aG (ps := ["program", "counted"]) C_gains (hr.mono (by omega)) (ac (ae 0) (ac (ae 2) ag aj) aj) (he := aj) (hpl := (al aj ao))))
    (ak (aB (gR (mT rfl y_sum (ac (ae 2) ag aj) (he := aj) (hpl := ao)) (mT rfl y_sum (ac (bc (dg rfl (ls := ["neighbours", ".0"]) (.of (ai fL)) (sQ true true y_zip (ac (ae 1) (ac (fK (ae 1) (cR af) cS) ag bH) aj)) (fun _ _ _ _ => (ax (i := 0) o5 rfl (Or.inl rfl) (.inr rfl))) (aU 2 0 (by decide)) (fun _ _ _ _ => df) (fun _ _ _ _ => (gp hu (ae 5) (ae 0) af)) trivial)) ag la) (he := la) (hpl := ao))))))
theorem sc_block_sets : FnScope ["many", "told", "place"] ["many"] (ai bp) := ⟨rfl,rfl,rfl,by decide +kernel,rfl,by decide +kernel,by decide +kernel⟩
theorem hX : ((["blocks", ".0"] : List Str) ++ (["many", "told", "place"] : List Str).map (hid ["blocks", ".0"])).Nodup :=by decide +kernel
theorem ju  (y_range : mg "range" = none) (F:Fun K "block_sets" "block_sets" bp f fd) (B:Binds K fd ["many"] []) (Mf : mg "block_sets" = some (.ref f)) : CG P w K mg base 1 "block_sets" f fd ["many"] 1 cE :=by
  refine ⟨bS (g := dk) F sc_block_sets rfl rfl rfl fun cdv A outer s H E hr => ?_,B,F.kp,Mf⟩
  have hu := bQ hr
  have hu6 := hr.units
  exact (ah (av (i := 1) sc_block_sets.nd rfl (Or.inl rfl) (bc (bN (ac (aD (ac af ag aO)) ag jj))))
    (ah (cr PassesOwn.never rfl (pe rfl y_range (ac af (ac (ae 0) ag aj) aO)) (ax (i := 2) sc_block_sets.nd rfl (Or.inr rfl)) (aU 3 2 (by decide)) (ak (av (i := 1) sc_block_sets.nd rfl (Or.inl rfl) (bv (ae 1) (bc (dg rfl (ls := ["blocks", ".0"]) (.of (ai bp)) (fw (ae 1)) (fun _ _ _ _ => (ax (i := 0) hX rfl (Or.inl rfl) (.inr rfl))) (aU 2 0 (by decide)) (fun _ _ _ _ => df) (fun _ _ _ _ => (bv (ae 0) (aD (ac (ae 4) ag aj)))) trivial))))))
    (ak (aB (ae 1)))))
theorem mt : FnScope ["blocks", "place"] ["blocks", "place"] (ai cH) := ⟨rfl,rfl,rfl,by decide +kernel,rfl,by decide +kernel,by decide +kernel⟩
theorem ke : ((["block", ".0"] : List Str) ++ (["blocks", "place"] : List Str).map (hid ["block", ".0"])).Nodup :=by decide +kernel
theorem mI  (y_tuple : mg "tuple" = none) (F:Fun K "without" "without" cH f fd) (B:Binds K fd ["blocks", "place"] []) (Mf : mg "without" = some (.ref f)) : CG P w K mg base 1 "without" f fd ["blocks", "place"] 2 dX :=by
  refine ⟨bS (g := fB) F mt rfl rfl rfl fun cdv A outer s H E hr => ?_,B,F.kp,Mf⟩
  have hu := bQ hr
  have hu6 := hr.units
  exact (ak (aB (lK y_tuple (ac (bc (dg rfl (ls := ["block", ".0"]) (.of (ai cH)) (qT (ae 0)) (fun _ _ _ _ => (ax (i := 0) ke rfl (Or.inl rfl) (.inr rfl))) (aU 2 0 (by decide)) (fun _ _ _ _ => (kr (aH dR (cM hu6) (ae 0) (ae 3) (az _)))) (fun _ _ _ _ => (ae 0)) trivial)) ag la) (he := la) (hpl := ao))))
theorem sc_best_tail : FnScope ["last", "rest", "gained", "tails", "found", "place", "tail", "gain"] ["last", "rest", "gained", "tails"] (ai cz) := ⟨rfl,rfl,rfl,by decide +kernel,rfl,by decide +kernel,by decide +kernel⟩
theorem kb {a_without : Addr}{d_without : FuncData} (C_without : CG P w K mg base 1 "without" a_without d_without ["blocks", "place"] 2 dX) (F:Fun K "best_tail" "best_tail" cz f fd) (B:Binds K fd ["last", "rest", "gained", "tails"] []) (Mf : mg "best_tail" = some (.ref f)) : CG P w K mg base 2 "best_tail" f fd ["last", "rest", "gained", "tails"] 4 cW :=by
  refine ⟨bS (g := dL) F sc_best_tail rfl rfl rfl fun cdv A outer s H E hr => ?_,B,F.kp,Mf⟩
  have hu := bQ hr
  have hu6 := hr.units
  exact (ah (av (i := 4) sc_best_tail.nd rfl (Or.inl rfl) fN)
    (ah (cr PassesOwn.never rfl (qT (ae 1)) (ax (i := 5) sc_best_tail.nd rfl (Or.inl rfl)) (aU 8 5 (by decide)) (ah (av (i := 6) sc_best_tail.nd rfl (Or.inl rfl) (qY hu6 (ae 3) (aD (ac (ae 5) (ac (aG (ps := ["blocks", "place"]) C_without (hr.mono (by omega)) (ac (ae 1) (ac (ae 5) ag aj) aj) (he := aj) (hpl := (al aj ao))) ag d5) aj)) (fun _ _ => rfl)))
    (ah (av (i := 7) sc_best_tail.nd rfl (Or.inl rfl) (bv (gp hu (ae 2) (aD (ac (ae 0) (ac (ae 5) ag aj) aj)) af) (ar hu (ae 6) af (fun _ _ => rfl))))
    (ak (bO (lQ (tU (aH j5 ip (ae 4) fN (az _)) (qQ (aH qD mG (ae 7) (ar hu (ae 4) af (fun _ _ => rfl)) (az _))))) (ak (av (i := 4) sc_best_tail.nd rfl (Or.inl rfl) (aD (ac (ae 7) (ac (bv (aD (ac (ae 5) ag aj)) (ar hu (ae 6) af (fun _ _ => rfl))) ag fV) aj)))) aJ)))))
    (ak (aB (lL (aH j5 ip (ae 4) fN (az _)) (aD (ac af (ac (aD ag) ag jj) aO)) (ae 4))))))
theorem sc_best : FnScope ["program", "counted", "many", "gained", "tails", "blocks", "rest", "last"] ["program", "counted"] (ai gO) := ⟨rfl,rfl,rfl,by decide +kernel,rfl,by decide +kernel,by decide +kernel⟩
theorem sL {a_gains : Addr}{d_gains : FuncData}{a_block_sets : Addr}{d_block_sets : FuncData}{a_best_tail : Addr}{d_best_tail : FuncData} (y_len : mg "len" = none) (y_range : mg "range" = none) (y_tuple : mg "tuple" = none) (C_gains : CG P w K mg base 3 "gains" a_gains d_gains ["program", "counted"] 2 eI) (C_block_sets : CG P w K mg base 1 "block_sets" a_block_sets d_block_sets ["many"] 1 cE) (C_best_tail : CG P w K mg base 2 "best_tail" a_best_tail d_best_tail ["last", "rest", "gained", "tails"] 4 cW) (F:Fun K "best" "best" gO f fd) (B:Binds K fd ["program", "counted"] []) (Mf : mg "best" = some (.ref f)) : CG P w K mg base 4 "best" f fd ["program", "counted"] 2 g7 :=by
  refine ⟨bS (g := kL) F sc_best rfl rfl rfl fun cdv A outer s H E hr => ?_,B,F.kp,Mf⟩
  have hu := bQ hr
  have hu6 := hr.units
  exact (ah (av (i := 2) sc_best.nd rfl (Or.inl rfl) (iZ y_len (ac (ar hu (ae 0) af (fun _ _ => rfl)) ag bH) (he := bH) (hpl := ao)))
    (ah (av (i := 3) sc_best.nd rfl (Or.inl rfl) (aG (ps := ["program", "counted"]) C_gains (hr.mono (by omega)) (ac (ae 0) (ac (ae 1) ag aj) aj) (he := aj) (hpl := (al aj ao))))
    (ah (av (i := 4) sc_best.nd rfl (Or.inl rfl) (q5 false))
    (ah (cr PassesOwn.never rfl (fw (aG (ps := ["many"]) C_block_sets (hr.mono (by omega)) (ac (ae 2) ag aj) (he := aj) (hpl := ao))) (ax (i := 5) sc_best.nd rfl (Or.inl rfl)) (aU 8 5 (by decide)) (ah (av (i := 6) sc_best.nd rfl (Or.inl rfl) (fK (ae 5) (cR af) cS))
    (ak (cr PassesOwn.never rfl (bJ rfl y_range (ac (ae 2) ag aj)) (ax (i := 7) sc_best.nd rfl (Or.inl rfl)) (aU 8 7 (by decide)) (ak (bO (aH (qC hu) oX (ae 7) (ae 6) (by with_unfolding_all rfl)) (ak (pc hu6 (ae 4) (aD (ac (ae 7) (ac (ae 6) ag aj) aj)) (aG (ps := ["last", "rest", "gained", "tails"]) C_best_tail (hr.mono (by omega)) (ac (ae 7) (ac (ae 6) (ac (ae 3) (ac (ae 4) ag aj) aj) aj) aj) (he := aj) (hpl := (al aj (al aj (al aj ao))))))) aJ))))))
    (ak (aB (bv (aD (ac af ag aO)) (ar hu (qY hu6 (ae 4) (aD (ac af (ac (pf rfl y_tuple y_range (ac af (ac (ae 2) ag aj) aO)) ag d5) aO)) (fun _ _ => rfl)) af (fun _ _ => rfl)))))))))
theorem sc_can_be_neighbours : FnScope ["program", "way", "end"] ["program", "way"] (ai aK) := ⟨rfl,rfl,rfl,by decide +kernel,rfl,by decide +kernel,by decide +kernel⟩
theorem eT   (F:Fun K "can_be_neighbours" "can_be_neighbours" aK f fd) (B:Binds K fd ["program", "way"] []) (Mf : mg "can_be_neighbours" = some (.ref f)) : CG P w K mg base 1 "can_be_neighbours" f fd ["program", "way"] 2 aT :=by
  refine ⟨bS (g := be) F sc_can_be_neighbours rfl rfl rfl fun cdv A outer s H E hr => ?_,B,F.kp,Mf⟩
  have hu := bQ hr
  have hu6 := hr.units
  exact (ah (av (i := 2) sc_can_be_neighbours.nd rfl (Or.inl rfl) (ar hu (ar hu (ar hu (ae 0) af (fun _ _ => rfl)) (ar hu (ae 1) af (fun _ _ => rfl)) (fun _ _ => rfl)) af (fun _ _ => rfl)))
    (ak (aB (kB (cN dR (cM hu6) (ar hu (ae 2) af (fun _ _ => rfl)) aZ (az _)) (kB (cN dR (cM hu6) (ar hu (ae 1) af (fun _ _ => rfl)) (ar hu (ae 1) af (fun _ _ => rfl)) (az _)) (mV (cN dR (cM hu6) (ar hu (ae 1) af (fun _ _ => rfl)) af (az _))))))))
theorem jo : FnScope ["program", "counted", "way", "count"] ["program", "counted", "way", "count"] (ai bh) := ⟨rfl,rfl,rfl,by decide +kernel,rfl,by decide +kernel,by decide +kernel⟩
theorem eM : ((["other", "old", ".0"] : List Str) ++ (["program", "counted", "way", "count"] : List Str).map (hid ["other", "old", ".0"])).Nodup :=by decide +kernel
theorem jq {a_ways : Addr}{d_ways : FuncData} (y_zip : mg "zip" = none) (C_ways : CG P w K mg base 2 "ways" a_ways d_ways ["program"] 1 fP) (F:Fun K "with_count" "with_count" bh f fd) (B:Binds K fd ["program", "counted", "way", "count"] []) (Mf : mg "with_count" = some (.ref f)) : CG P w K mg base 3 "with_count" f fd ["program", "counted", "way", "count"] 4 cc :=by
  refine ⟨bS (g := dh) F jo rfl rfl rfl fun cdv A outer s H E hr => ?_,B,F.kp,Mf⟩
  have hu := bQ hr
  have hu6 := hr.units
  exact (ak (aB (bc (dg rfl (ls := ["other", "old", ".0"]) (.of (ai bh)) (mR false false y_zip (ac (aG (ps := ["program"]) C_ways (hr.mono (by omega)) (ac (ae 0) ag aj) (he := aj) (hpl := ao)) (ac (ae 1) ag aj) d5)) (fun _ _ _ _ => (eS rfl (aQ (ax (i := 0) eM rfl (Or.inl rfl) (.inr rfl)) (aQ (ax (i := 1) eM rfl (Or.inl rfl) (.inr rfl)) dH)))) (eR 3 [0,1] (by decide)) (fun _ _ _ _ => df) (fun _ _ _ _ => (lL (aH dA (cq hu6) (ae 0) (ae 5) (az _)) (ae 6) (ae 1))) trivial))))
theorem sc_turning : FnScope ["program", "counted", "way", "at_nought", "at_most", "neighbours"] ["program", "counted", "way"] (ai dn) := ⟨rfl,rfl,rfl,by decide +kernel,rfl,by decide +kernel,by decide +kernel⟩
theorem mJ {a_can_be_neighbours : Addr}{d_can_be_neighbours : FuncData}{a_with_count : Addr}{d_with_count : FuncData}{a_best : Addr}{d_best : FuncData}{a_cost : Addr}{d_cost : FuncData} (y_sum : mg "sum" = none) (C_can_be_neighbours : CG P w K mg base 1 "can_be_neighbours" a_can_be_neighbours d_can_be_neighbours ["program", "way"] 2 aT) (C_with_count : CG P w K mg base 3 "with_count" a_with_count d_with_count ["program", "counted", "way", "count"] 4 cc) (C_best : CG P w K mg base 4 "best" a_best d_best ["program", "counted"] 2 g7) (C_cost : CG P w K mg base 4 "cost" a_cost d_cost ["program", "order", "counted"] 3 g6) (F:Fun K "turning" "turning" dn f fd) (B:Binds K fd ["program", "counted", "way"] []) (Mf : mg "turning" = some (.ref f)) : CG P w K mg base 5 "turning" f fd ["program", "counted", "way"] 3 dY :=by
  refine ⟨bS (g := fD) F sc_turning rfl rfl rfl fun cdv A outer s H E hr => ?_,B,F.kp,Mf⟩
  have hu := bQ hr
  have hu6 := hr.units
  exact (ah (bO (qR (kq (aG (ps := ["program", "way"]) C_can_be_neighbours (hr.mono (by omega)) (ac (ae 0) (ac (ae 2) ag aj) aj) (he := aj) (hpl := (al aj ao))))) (ak (aB fN)) aJ)
    (ah (av (i := 3) sc_turning.nd rfl (Or.inl rfl) (aG (ps := ["program", "counted", "way", "count"]) C_with_count (hr.mono (by omega)) (ac (ae 0) (ac (ae 1) (ac (ae 2) (ac af ag aO) aj) aj) aj) (he := aj) (hpl := (al aj (al aj (al aO ao))))))
    (ah (av (i := 4) sc_turning.nd rfl (Or.inl rfl) (aG (ps := ["program", "counted", "way", "count"]) C_with_count (hr.mono (by omega)) (ac (ae 0) (ac (ae 1) (ac (ae 2) (ac (bv (mT rfl y_sum (ac (ae 1) ag aj) (he := aj) (hpl := ao)) af) ag fV) aj) aj) aj) (he := aj) (hpl := (al aj (al aj (al fV ao))))))
    (ah (av (i := 5) sc_turning.nd rfl (Or.inl rfl) (aG (ps := ["program", "counted"]) C_best (hr.mono (by omega)) (ac (ae 0) (ac (ae 4) ag aj) aj) (he := aj) (hpl := (al aj ao))))
    (ak (aB (gR (aG (ps := ["program", "order", "counted"]) C_cost (hr.mono (by omega)) (ac (ae 0) (ac (ae 5) (ac (ae 3) ag aj) aj) aj) (he := aj) (hpl := (al aj (al aj ao)))) (aG (ps := ["program", "order", "counted"]) C_cost (hr.mono (by omega)) (ac (ae 0) (ac (aG (ps := ["program", "counted"]) C_best (hr.mono (by omega)) (ac (ae 0) (ac (ae 3) ag aj) aj) (he := aj) (hpl := (al aj ao))) (ac (ae 3) ag aj) d5) aj) (he := aj) (hpl := (al d5 (al aj ao)))))))))))
theorem sc_law_draw : FnScope ["deck", "many", "at", "place", "found", "number"] ["deck", "many"] (ai cL) := ⟨rfl,rfl,rfl,by decide +kernel,rfl,by decide +kernel,by decide +kernel⟩
theorem lC  (y_len : mg "len" = none) (F:Fun K "_law_draw" "_law_draw" cL f fd) (B:Binds K fd ["deck", "many"] []) (Mf : mg "_law_draw" = some (.ref f)) : CG P w K mg base 1 "_law_draw" f fd ["deck", "many"] 2 au :=by
  refine ⟨bS (g := eF) F sc_law_draw rfl rfl rfl fun cdv A outer s H E hr => ?_,B,F.kp,Mf⟩
  have hu := bQ hr
  have hu6 := hr.units
  exact (ah (av (i := 2) sc_law_draw.nd rfl (Or.inl rfl) (ar hu (ae 0) af (fun _ _ => rfl)))
    (ah (eU hu (ae 0) af (bv (ae 2) af))
    (ah (bO (aH dA (cq hu6) (ar hu (ae 0) af (fun _ _ => rfl)) (bc (bN ag)) (az _)) (ak (aB (eY (bv (d8 (d8 (ae 2) (ae 2)) af) (ky (ae 2) af)) (ae 1)))) aJ)
    (ah (av (i := 3) sc_law_draw.nd rfl (Or.inl rfl) (eY (ae 2) (iZ y_len (ac (ar hu (ae 0) af (fun _ _ => rfl)) ag bH) (he := bH) (hpl := ao))))
    (ah (bO (kq (ar hu (ar hu (ae 0) af (fun _ _ => rfl)) (ae 3) (fun _ _ => rfl))) (ah (av (i := 4) sc_law_draw.nd rfl (Or.inl rfl) (eY (ar hu (ar hu (ae 0) af (fun _ _ => rfl)) (ae 3) (fun _ _ => rfl)) (ae 1)))
    (ah (eU hu (ar hu (ae 0) af (fun _ _ => rfl)) (ae 3) (ky (ar hu (ar hu (ae 0) af (fun _ _ => rfl)) (ae 3) (fun _ _ => rfl)) (ae 1)))
    (ak (aB (ae 4))))) aJ)
    (ah (av (i := 5) sc_law_draw.nd rfl (Or.inl rfl) (eY (d8 (bv (eY (ar hu (ar hu (ae 0) af (fun _ _ => rfl)) (ae 3) (fun _ _ => rfl)) af) (d8 af (bv (ae 2) af))) af) af))
    (ah (av (i := 5) sc_law_draw.nd rfl (Or.inl rfl) (eY (d8 (ae 5) (ae 5)) af))
    (ak (aB (eY (ky (eY (d8 (ae 5) af) af) af) (ae 1)))))))))))
theorem sc_law_deck : FnScope ["script", "great"] ["script"] (ai bT) := ⟨rfl,rfl,rfl,by decide +kernel,rfl,by decide +kernel,by decide +kernel⟩
theorem jw : ((["cell", ".0"] : List Str) ++ (["script", "great"] : List Str).map (hid ["cell", ".0"])).Nodup :=by decide +kernel
theorem jv : ((["cell", ".0"] : List Str) ++ (["script", "great"] : List Str).map (hid ["cell", ".0"])).Nodup :=by decide +kernel
theorem lD  (y_int : mg "int" = none) (F:Fun K "_law_deck" "_law_deck" bT f fd) (B:Binds K fd ["script"] []) (Mf : mg "_law_deck" = some (.ref f)) : CG P w K mg base 1 "_law_deck" f fd ["script"] 1 cQ :=by
  refine ⟨bS (g := eG) F sc_law_deck rfl rfl rfl fun cdv A outer s H E hr => ?_,B,F.kp,Mf⟩
  have hu := bQ hr
  have hu6 := hr.units
  exact (ah (iX (i := 1) sc_law_deck.nd rfl rfl rfl (ls := ["cell", ".0"]) (.of (ai bT)) (fw (fK (ae 0) cS (cR af))) (fun _ _ _ _ => (ax (i := 0) jw rfl (Or.inl rfl) (.inr rfl))) (aU 2 0 (by decide)) (fun _ _ _ _ => df) (fun _ _ _ _ => (cN qE mH (ae 0) (iY af af) (az _))) trivial)
    (ak (aB (gS (bN (ac (gS (dg rfl (ls := ["cell", ".0"]) (.of (ai bT)) (fw (fK (ae 0) cS (cR af))) (fun _ _ _ _ => (ax (i := 0) jv rfl (Or.inl rfl) (.inr rfl))) (aU 2 0 (by decide)) (fun _ _ _ _ => df) (fun _ _ _ _ => (gR (ae 0) (d8 (iY af af) (gm y_int (ac (cN qE mH (ae 0) (iY af af) (az _)) ag jk) (he := jk) (hpl := ao))))) trivial)) (ac af (ac (ae 1) ag aj) aO) la))))))
theorem sc_law_end : FnScope ["deck", "many", "kind", "goals"] ["deck", "many"] (ai cx) := ⟨rfl,rfl,rfl,by decide +kernel,rfl,by decide +kernel,by decide +kernel⟩
theorem kh : ((["k", ".0"] : List Str) ++ (["deck", "many", "kind", "goals"] : List Str).map (hid ["k", ".0"])).Nodup :=by decide +kernel
theorem kg : ((["k", ".0"] : List Str) ++ (["deck", "many", "kind", "goals"] : List Str).map (hid ["k", ".0"])).Nodup :=by decide +kernel
theorem mL {a_law_draw : Addr}{d_law_draw : FuncData} (y_range : mg "range" = none) (y_tuple : mg "tuple" = none) (C_law_draw : CG P w K mg base 1 "_law_draw" a_law_draw d_law_draw ["deck", "many"] 2 au) (F:Fun K "_law_end" "_law_end" cx f fd) (B:Binds K fd ["deck", "many"] []) (Mf : mg "_law_end" = some (.ref f)) : CG P w K mg base 2 "_law_end" f fd ["deck", "many"] 2 dw :=by
  refine ⟨bS (g := fE) F sc_law_end rfl rfl rfl fun cdv A outer s H E hr => ?_,B,F.kp,Mf⟩
  have hu := bQ hr
  have hu6 := hr.units
  exact (ah (av (i := 2) sc_law_end.nd rfl (Or.inl rfl) (aG (ps := ["deck", "many"]) C_law_draw (hr.mono (by omega)) (ac (ae 0) (ac af ag aO) aj) (he := aj) (hpl := (al aO ao))))
    (ah (iX (i := 3) sc_law_end.nd rfl rfl rfl (ls := ["k", ".0"]) (.of (ai cx)) (bJ rfl y_range (ac af ag aO)) (fun _ _ _ _ => (ax (i := 0) kh rfl (Or.inl rfl) (.inr rfl))) (aU 2 0 (by decide)) (fun _ _ _ _ => df) (fun _ _ _ _ => (aG (ps := ["deck", "many"]) C_law_draw (hr.mono (by omega)) (ac (ae 2) (ac (ae 3) ag aj) aj) (he := aj) (hpl := (al aj ao)))) trivial)
    (ah (bO (aH tQ qG (ae 2) af (az _)) (ak (aB (aD (ac aZ (ac (ar hu (ae 3) af (fun _ _ => rfl)) ag bH) aO)))) aJ)
    (ah (bO (aH tQ qG (ae 2) af (az _)) (ak (aB (aD (ac aZ (ac (ar hu aZ (aG (ps := ["deck", "many"]) C_law_draw (hr.mono (by omega)) (ac (ae 0) (ac af ag aO) aj) (he := aj) (hpl := (al aO ao))) (fun _ _ => rfl)) (ac (aD (ac aZ (ac af ag aO) aO)) (ac (aD (ac aZ (ac (aG (ps := ["deck", "many"]) C_law_draw (hr.mono (by omega)) (ac (ae 0) (ac af ag aO) aj) (he := aj) (hpl := (al aO ao))) ag d5) aO)) (ac (ar hu (ae 3) af (fun _ _ => rfl)) (ac (ar hu (ae 3) af (fun _ _ => rfl)) ag bH) bH) jj) jj) bH) aO)))) aJ)
    (ah (bO (aH dA (cq hu6) (ae 2) af (az _)) (ak (aB (aD (ac aZ (ac (aD (ac aZ (ac af ag aO) aO)) (ac (lK y_tuple (ac (bc (dg rfl (ls := ["k", ".0"]) (.of (ai cx)) (bJ rfl y_range (ac (bv af (aG (ps := ["deck", "many"]) C_law_draw (hr.mono (by omega)) (ac (ae 0) (ac af ag aO) aj) (he := aj) (hpl := (al aO ao)))) ag fV)) (fun _ _ _ _ => (ax (i := 0) kg rfl (Or.inl rfl) (.inr rfl))) (aU 2 0 (by decide)) (fun _ _ _ _ => df) (fun _ _ _ _ => (aG (ps := ["deck", "many"]) C_law_draw (hr.mono (by omega)) (ac (ae 2) (ac (ae 3) ag aj) aj) (he := aj) (hpl := (al aj ao)))) trivial)) ag la) (he := la) (hpl := ao)) ag d5) jj) aO)))) aJ)
    (ak (aB (aD (ac aZ ag aO)))))))))
theorem sc_law_program : FnScope ["deck", "many", "blocks", "k", "some"] ["deck", "many"] (ai bI) := ⟨rfl,rfl,rfl,by decide +kernel,rfl,by decide +kernel,by decide +kernel⟩
theorem iS {a_law_draw : Addr}{d_law_draw : FuncData}{a_law_end : Addr}{d_law_end : FuncData} (y_range : mg "range" = none) (C_law_draw : CG P w K mg base 1 "_law_draw" a_law_draw d_law_draw ["deck", "many"] 2 au) (C_law_end : CG P w K mg base 2 "_law_end" a_law_end d_law_end ["deck", "many"] 2 dw) (F:Fun K "_law_program" "_law_program" bI f fd) (B:Binds K fd ["deck", "many"] []) (Mf : mg "_law_program" = some (.ref f)) : CG P w K mg base 3 "_law_program" f fd ["deck", "many"] 2 bK :=by
  refine ⟨bS (g := cT) F sc_law_program rfl rfl rfl fun cdv A outer s H E hr => ?_,B,F.kp,Mf⟩
  have hu := bQ hr
  have hu6 := hr.units
  exact (ah (av (i := 2) sc_law_program.nd rfl (Or.inl rfl) (gS (bN ag)))
    (ah (cr PassesOwn.never rfl (bJ rfl y_range (ac (ae 1) ag aj)) (ax (i := 3) sc_law_program.nd rfl (Or.inl rfl)) (aU 5 3 (by decide)) (ah (av (i := 4) sc_law_program.nd rfl (Or.inl rfl) (fK (bc (bN (ac (aD (ac aZ (ac (aD (ac aZ (ac (ae 3) ag aj) aO)) ag jj) aO)) ag jj))) cS (cR (aG (ps := ["deck", "many"]) C_law_draw (hr.mono (by omega)) (ac (ae 0) (ac af ag aO) aj) (he := aj) (hpl := (al aO ao))))))
    (ak (iq (gU (ae 2) (ac (aD (ac (bv (ar hu aZ (ae 3) (fun _ _ => rfl)) aZ) (ac (ae 4) (ac (aG (ps := ["deck", "many"]) C_law_end (hr.mono (by omega)) (ac (ae 0) (ac (ae 1) ag aj) aj) (he := aj) (hpl := (al aj ao))) ag d5) aj) fV)) ag jj))))))
    (ak (aB (aD (ac (bc (bN ag)) (ac (mW (ae 2)) ag aj) ug))))))
theorem sc_law_ways : FnScope ["program", "found", "place", "block", "end", "goals"] ["program"] (ai cn) := ⟨rfl,rfl,rfl,by decide +kernel,rfl,by decide +kernel,by decide +kernel⟩
theorem fJ : ((["side", "goal", ".0"] : List Str) ++ (["program", "found", "place", "block", "end", "goals"] : List Str).map (hid ["side", "goal", ".0"])).Nodup :=by decide +kernel
theorem lz  (y_enumerate : mg "enumerate" = none) (y_int : mg "int" = none) (y_list : mg "list" = none) (F:Fun K "_law_ways" "_law_ways" cn f fd) (B:Binds K fd ["program"] []) (Mf : mg "_law_ways" = some (.ref f)) : CG P w K mg base 1 "_law_ways" f fd ["program"] 1 bW :=by
  refine ⟨bS (g := eC) F sc_law_ways rfl rfl rfl fun cdv A outer s H E hr => ?_,B,F.kp,Mf⟩
  have hu := bQ hr
  have hu6 := hr.units
  exact (ah (av (i := 1) sc_law_ways.nd rfl (Or.inl rfl) (bc (bN ag)))
    (ah (cr PassesOwn.never rfl (ku y_enumerate (ac (ar hu (ae 0) af (fun _ _ => rfl)) ag bH)) (eS rfl (aQ (ax (i := 2) sc_law_ways.nd rfl (Or.inr rfl)) (aQ (ax (i := 3) sc_law_ways.nd rfl (Or.inl rfl)) dH))) (eR 6 [2,3] (by decide)) (ah (av (i := 4) sc_law_ways.nd rfl (Or.inl rfl) (ar hu (ae 3) af (fun _ _ => rfl)))
    (ah (av (i := 5) sc_law_ways.nd rfl (Or.inl rfl) (bc (bN ag)))
    (ah (bO (aH dA (cq hu6) (ar hu (ae 4) af (fun _ _ => rfl)) aZ (az _)) (ak (av (i := 5) sc_law_ways.nd rfl (Or.inl rfl) (bc (gg y_list (ac (ar hu (ae 4) af (fun _ _ => rfl)) ag bH) (he := bH) (hpl := ao))))) (ak (bO (aH dR (cM hu6) (ar hu (ae 4) af (fun _ _ => rfl)) aZ (az _)) (ak (av (i := 5) sc_law_ways.nd rfl (Or.inl rfl) (bc (gg y_list (ac (fK (ae 4) (cR (ar hu (bc (bN (ac af (ac af ag aO) aO))) (gm y_int (ac (cN dA (cq hu6) (ar hu (ae 4) af (fun _ _ => rfl)) aZ (az _)) ag jk) (he := jk) (hpl := ao)) (fun _ _ => rfl))) cS) ag bH) (he := bH) (hpl := ao))))) aJ)))
    (ak (av (i := 1) sc_law_ways.nd rfl (Or.inl rfl) (bv (ae 1) (bc (dg rfl (ls := ["side", "goal", ".0"]) (.of (ai cn)) (ku y_enumerate (ac (ae 5) ag aj)) (fun _ _ _ _ => (eS rfl (aQ (ax (i := 0) fJ rfl (Or.inl rfl) (.inr rfl)) (aQ (ax (i := 1) fJ rfl (Or.inl rfl) (.inr rfl)) dH)))) (eR 3 [0,1] (by decide)) (fun _ _ _ _ => df) (fun _ _ _ _ => (aD (ac (ae 5) (ac (ae 0) (ac (ae 1) ag aj) aj) aj))) trivial)))))))))
    (ak (aB (ae 1)))))
theorem sc_law_counts : FnScope ["deck", "many", "kind", "found", "k", "number"] ["deck", "many"] (ai bZ) := ⟨rfl,rfl,rfl,by decide +kernel,rfl,by decide +kernel,by decide +kernel⟩
theorem jr {a_law_draw : Addr}{d_law_draw : FuncData} (y_int : mg "int" = none) (y_range : mg "range" = none) (C_law_draw : CG P w K mg base 1 "_law_draw" a_law_draw d_law_draw ["deck", "many"] 2 au) (F:Fun K "_law_counts" "_law_counts" bZ f fd) (B:Binds K fd ["deck", "many"] []) (Mf : mg "_law_counts" = some (.ref f)) : CG P w K mg base 2 "_law_counts" f fd ["deck", "many"] 2 ci :=by
  refine ⟨bS (g := di) F sc_law_counts rfl rfl rfl fun cdv A outer s H E hr => ?_,B,F.kp,Mf⟩
  have hu := bQ hr
  have hu6 := hr.units
  exact (ah (av (i := 2) sc_law_counts.nd rfl (Or.inl rfl) (aG (ps := ["deck", "many"]) C_law_draw (hr.mono (by omega)) (ac (ae 0) (ac af ag aO) aj) (he := aj) (hpl := (al aO ao))))
    (ah (av (i := 3) sc_law_counts.nd rfl (Or.inl rfl) (gS (bN ag)))
    (ah (cr PassesOwn.never rfl (bJ rfl y_range (ac (ae 1) ag aj)) (ax (i := 4) sc_law_counts.nd rfl (Or.inl rfl)) (aU 6 4 (by decide)) (ah (av (i := 5) sc_law_counts.nd rfl (Or.inl rfl) (d8 (aG (ps := ["deck", "many"]) C_law_draw (hr.mono (by omega)) (ac (ae 0) (ac (ar hu (bc (bN (ac af (ac af (ac af (ac (iY af af) ag fV) aO) aO) aO))) (ae 2) (fun _ _ => rfl)) ag bH) aj) (he := aj) (hpl := (al bH ao))) (ar hu (bc (bN (ac af (ac af (ac af (ac (iY af af) ag fV) aO) aO) aO))) (ae 2) (fun _ _ => rfl))))
    (ak (iq (gU (ae 3) (ac (d8 (ae 5) (gm y_int (ac (cN qD mG (aG (ps := ["deck", "many"]) C_law_draw (hr.mono (by omega)) (ac (ae 0) (ac af ag aO) aj) (he := aj) (hpl := (al aO ao))) af (az _)) ag jk) (he := jk) (hpl := ao))) ag fV))))))
    (ak (aB (mW (ae 3)))))))
theorem sc_law_gains : FnScope ["program", "counted", "way", "found", "one", "number"] ["program", "counted", "way"] (ai cw) := ⟨rfl,rfl,rfl,by decide +kernel,rfl,by decide +kernel,by decide +kernel⟩
theorem j7 {a_law_ways : Addr}{d_law_ways : FuncData} (y_zip : mg "zip" = none) (C_law_ways : CG P w K mg base 1 "_law_ways" a_law_ways d_law_ways ["program"] 1 bW) (F:Fun K "_law_gains" "_law_gains" cw f fd) (B:Binds K fd ["program", "counted", "way"] []) (Mf : mg "_law_gains" = some (.ref f)) : CG P w K mg base 2 "_law_gains" f fd ["program", "counted", "way"] 3 cV :=by
  refine ⟨bS (g := dJ) F sc_law_gains rfl rfl rfl fun cdv A outer s H E hr => ?_,B,F.kp,Mf⟩
  have hu := bQ hr
  have hu6 := hr.units
  exact (ah (av (i := 3) sc_law_gains.nd rfl (Or.inl rfl) i3)
    (ah (cr PassesOwn.never rfl (mR false false y_zip (ac (aG (ps := ["program"]) C_law_ways (hr.mono (by omega)) (ac (ae 0) ag aj) (he := aj) (hpl := ao)) (ac (ae 1) ag aj) d5)) (eS rfl (aQ (ax (i := 4) sc_law_gains.nd rfl (Or.inl rfl)) (aQ (ax (i := 5) sc_law_gains.nd rfl (Or.inl rfl)) dH))) (eR 6 [4,5] (by decide)) (ak (bO (lQ (mQ (aH dR (cM hu6) (ae 4) (ae 2) (az _)) (kn (aH dR (cM hu6) (ar hu (ar hu (ar hu (ar hu (ae 0) af (fun _ _ => rfl)) (ar hu (ae 4) af (fun _ _ => rfl)) (fun _ _ => rfl)) af (fun _ _ => rfl)) af (fun _ _ => rfl)) aZ (az _))))) (ak (eU hu (ae 3) (nW (ac (ar hu (ae 4) af (fun _ _ => rfl)) (ac (ar hu (ae 4) af (fun _ _ => rfl)) ag bH) bH)) (bv (gp hu (ae 3) (nW (ac (ar hu (ae 4) af (fun _ _ => rfl)) (ac (ar hu (ae 4) af (fun _ _ => rfl)) ag bH) bH)) af) (ae 5)))) aJ)))
    (ak (aB (ae 3)))))
theorem lh : FnScope ["program", "way"] ["program", "way"] (ai cK) := ⟨rfl,rfl,rfl,by decide +kernel,rfl,by decide +kernel,by decide +kernel⟩
theorem lB   (F:Fun K "_law_none" "_law_none" cK f fd) (B:Binds K fd ["program", "way"] []) (Mf : mg "_law_none" = some (.ref f)) : CG P w K mg base 1 "_law_none" f fd ["program", "way"] 2 dF :=by
  refine ⟨bS (g := eE) F lh rfl rfl rfl fun cdv A outer s H E hr => ?_,B,F.kp,Mf⟩
  have hu := bQ hr
  have hu6 := hr.units
  exact (ak (aB (vS (cN dA (cq hu6) (ar hu (ar hu (ar hu (ar hu (ae 0) af (fun _ _ => rfl)) (ar hu (ae 1) af (fun _ _ => rfl)) (fun _ _ => rfl)) af (fun _ _ => rfl)) af (fun _ _ => rfl)) aZ (az _)) (mV (cN (vK hu) uE (ar hu (ae 1) af (fun _ _ => rfl)) (bc (bN (ac (ar hu (ae 1) af (fun _ _ => rfl)) (ac af ag aO) bH))) (by with_unfolding_all rfl))))))
theorem jp : FnScope ["program"] ["program"] (ai bn) := ⟨rfl,rfl,rfl,by decide +kernel,rfl,by decide +kernel,by decide +kernel⟩
theorem db : ((["name", "some", "end", ".0"] : List Str) ++ (["program"] : List Str).map (hid ["name", "some", "end", ".0"])).Nodup :=by decide +kernel
theorem js  (y_list : mg "list" = none) (F:Fun K "_law_copied" "_law_copied" bn f fd) (B:Binds K fd ["program"] []) (Mf : mg "_law_copied" = some (.ref f)) : CG P w K mg base 1 "_law_copied" f fd ["program"] 1 cD :=by
  refine ⟨bS (g := dj) F jp rfl rfl rfl fun cdv A outer s H E hr => ?_,B,F.kp,Mf⟩
  have hu := bQ hr
  have hu6 := hr.units
  exact (ak (aB (aD (ac (bc (gg y_list (ac (ar hu (ae 0) af (fun _ _ => rfl)) ag bH) (he := bH) (hpl := ao))) (ac (bc (dg rfl (ls := ["name", "some", "end", ".0"]) (.of (ai bn)) (fw (ar hu (ae 0) af (fun _ _ => rfl))) (fun _ _ _ _ => (eS rfl (aQ (ax (i := 0) db rfl (Or.inl rfl) (.inr rfl)) (aQ (ax (i := 1) db rfl (Or.inl rfl) (.inr rfl)) (aQ (ax (i := 2) db rfl (Or.inl rfl) (.inr rfl)) dH))))) (eR 4 [0,1,2] (by decide)) (fun _ _ _ _ => df) (fun _ _ _ _ => (aD (ac (ae 0) (ac (bc (gg y_list (ac (ae 1) ag aj) (he := aj) (hpl := ao))) (ac (ae 2) ag aj) d5) aj))) trivial)) ag la) d5))))
theorem sc_law_told : FnScope ["program", "counted", "way", "due", "handed", "numbers", "found"] ["program", "counted", "way", "due"] (ai cJ) := ⟨rfl,rfl,rfl,by decide +kernel,rfl,by decide +kernel,by decide +kernel⟩
theorem lA {a_law_copied : Addr}{d_law_copied : FuncData}{a_turning : Addr}{d_turning : FuncData} (y_bool : mg "bool" = none) (y_int : mg "int" = none) (y_isinstance : mg "isinstance" = none) (y_list : mg "list" = none) (C_law_copied : CG P w K mg base 1 "_law_copied" a_law_copied d_law_copied ["program"] 1 cD) (C_turning : CG P w K mg base 5 "turning" a_turning d_turning ["program", "counted", "way"] 3 dY) (F:Fun K "_law_told" "_law_told" cJ f fd) (B:Binds K fd ["program", "counted", "way", "due"] []) (Mf : mg "_law_told" = some (.ref f)) : CG P w K mg base 6 "_law_told" f fd ["program", "counted", "way", "due"] 4 cP :=by
  refine ⟨bS (g := eD) F sc_law_told rfl rfl rfl fun cdv A outer s H E hr => ?_,B,F.kp,Mf⟩
  have hu := bQ hr
  have hu6 := hr.units
  exact (ah (av (i := 4) sc_law_told.nd rfl (Or.inl rfl) (aG (ps := ["program"]) C_law_copied (hr.mono (by omega)) (ac (ae 0) ag aj) (he := aj) (hpl := ao)))
    (ah (av (i := 5) sc_law_told.nd rfl (Or.inl rfl) (bc (gg y_list (ac (ae 1) ag aj) (he := aj) (hpl := ao))))
    (ah (av (i := 6) sc_law_told.nd rfl (Or.inl rfl) (aG (ps := ["program", "counted", "way"]) C_turning (hr.mono (by omega)) (ac (ae 4) (ac (ae 5) (ac (ae 2) ag aj) aj) aj) (he := aj) (hpl := (al aj (al aj ao)))))
    (ah (bO (lQ (tU (aH dR (cM hu6) (ae 4) (ae 0) (az _)) (qQ (aH dR (cM hu6) (ae 5) (ae 1) (az _))))) (ak (aB q9)) aJ)
    (ah (bO (aH j5 ip (ae 3) fN (az _)) (ak (aB (cN j5 ip (ae 6) fN (az _)))) aJ)
    (ak (aB (kB (qZ y_isinstance (ac (ae 6) (ac (tV y_int PyProof.Rows.boot_int) ag aj) aj) (he := aj) (hpl := (al aj ao))) (kB (uY (qZ y_isinstance (ac (ae 6) (ac (tV y_bool PyProof.Rows.boot_bool) ag aj) aj) (he := aj) (hpl := (al aj ao)))) (mV (cN dA (cq hu6) (ae 6) (ae 3) (az _))))))))))))
theorem sc_law_saved : FnScope ["many", "gains_v", "barred", "most", "left", "last", "some", "block", "behind"] ["many", "gains_v", "barred"] (ai cu) := ⟨rfl,rfl,rfl,by decide +kernel,rfl,by decide +kernel,by decide +kernel⟩
theorem j6  (y_int : mg "int" = none) (y_max : mg "max" = none) (y_range : mg "range" = none) (F:Fun K "_law_saved" "_law_saved" cu f fd) (B:Binds K fd ["many", "gains_v", "barred"] []) (Mf : mg "_law_saved" = some (.ref f)) : CG P w K mg base 1 "_law_saved" f fd ["many", "gains_v", "barred"] 3 cA :=by
  refine ⟨bS (g := dI) F sc_law_saved rfl rfl rfl fun cdv A outer s H E hr => ?_,B,F.kp,Mf⟩
  have hu := bQ hr
  have hu6 := hr.units
  exact (ah (av (i := 3) sc_law_saved.nd rfl (Or.inl rfl) i3)
    (ah (cr PassesOwn.never rfl (bJ rfl y_range (ac (mU af (ae 0)) ag fV)) (ax (i := 4) sc_law_saved.nd rfl (Or.inl rfl)) (aU 9 4 (by decide)) (ak (cr PassesOwn.never rfl (bJ rfl y_range (ac (ae 0) ag aj)) (ax (i := 5) sc_law_saved.nd rfl (Or.inl rfl)) (aU 9 5 (by decide)) (ak (bO (lQ (mQ (aH dA (cq hu6) (kA (qV (ae 4) (ae 5)) af) af (az _)) (kn (aH dA (cq hu6) (kA (ae 4) af) af (az _))))) (ah (av (i := 6) sc_law_saved.nd rfl (Or.inl rfl) (fK (bc (bN (ac af ag aO))) cS (cR (gm y_int (ac (cN dA (cq hu6) (ae 4) af (az _)) ag jk) (he := jk) (hpl := ao)))))
    (ah (cr PassesOwn.never rfl (bJ rfl y_range (ac (ae 0) ag aj)) (ax (i := 7) sc_law_saved.nd rfl (Or.inl rfl)) (aU 9 7 (by decide)) (ak (bO (lQ (mQ (aH dA (cq hu6) (kA (qV (ae 4) (ae 7)) af) af (az _)) (kn (aH (oY hu6) mF (aD (ac (ae 5) (ac (ae 7) ag aj) aj)) (ae 2) (by with_unfolding_all rfl))))) (ah (av (i := 8) sc_law_saved.nd rfl (Or.inl rfl) (qX hu6 (ae 3) (aD (ac (gR (ae 4) (mU af (ae 7))) (ac (ae 7) ag aj) fV)) (fun _ _ => rfl)))
    (ak (av (i := 6) sc_law_saved.nd rfl (Or.inl rfl) (bv (ae 6) (bc (uW (bc (bN (ac (bv (ae 8) (gp hu (ae 1) (aD (ac (ae 5) (ac (ae 7) ag aj) aj)) af)) ag fV))) (gm y_int (ac (cN qE mH (ae 8) af (az _)) ag jk) (he := jk) (hpl := ao)))))))) aJ)))
    (ak (eU hu (ae 3) (nW (ac (ae 4) (ac (ae 5) ag aj) aj)) (sR rfl y_max (ae 6) (qW af)))))) aJ)))))
    (ak (aB (qX hu6 (ae 3) (aD (ac (gR (mU af (ae 0)) af) (ac af ag aO) fV)) (fun _ _ => rfl))))))
theorem sc_law_due : FnScope ["program", "counted", "way", "many", "gains_v", "barred", "beside"] ["program", "counted", "way"] (ai cy) := ⟨rfl,rfl,rfl,by decide +kernel,rfl,by decide +kernel,by decide +kernel⟩
theorem km : ((["block", ".0"] : List Str) ++ (["program", "counted", "way", "many", "gains_v", "barred", "beside"] : List Str).map (hid ["block", ".0"])).Nodup :=by decide +kernel
theorem kj : ((["block", ".0"] : List Str) ++ (["program", "counted", "way", "many", "gains_v", "barred", "beside"] : List Str).map (hid ["block", ".0"])).Nodup :=by decide +kernel
theorem mM {a_law_none : Addr}{d_law_none : FuncData}{a_law_gains : Addr}{d_law_gains : FuncData}{a_law_saved : Addr}{d_law_saved : FuncData} (y_len : mg "len" = none) (y_max : mg "max" = none) (y_range : mg "range" = none) (C_law_none : CG P w K mg base 1 "_law_none" a_law_none d_law_none ["program", "way"] 2 dF) (C_law_gains : CG P w K mg base 2 "_law_gains" a_law_gains d_law_gains ["program", "counted", "way"] 3 cV) (C_law_saved : CG P w K mg base 1 "_law_saved" a_law_saved d_law_saved ["many", "gains_v", "barred"] 3 cA) (F:Fun K "_law_due" "_law_due" cy f fd) (B:Binds K fd ["program", "counted", "way"] []) (Mf : mg "_law_due" = some (.ref f)) : CG P w K mg base 3 "_law_due" f fd ["program", "counted", "way"] 3 dy :=by
  refine ⟨bS (g := fF) F sc_law_due rfl rfl rfl fun cdv A outer s H E hr => ?_,B,F.kp,Mf⟩
  have hu := bQ hr
  have hu6 := hr.units
  exact (ah (bO (kq (aG (ps := ["program", "way"]) C_law_none (hr.mono (by omega)) (ac (ae 0) (ac (ae 2) ag aj) aj) (he := aj) (hpl := (al aj ao)))) (ak (aB fN)) aJ)
    (ah (av (i := 3) sc_law_due.nd rfl (Or.inl rfl) (iZ y_len (ac (ar hu (ae 0) af (fun _ _ => rfl)) ag bH) (he := bH) (hpl := ao)))
    (ah (av (i := 4) sc_law_due.nd rfl (Or.inl rfl) (aG (ps := ["program", "counted", "way"]) C_law_gains (hr.mono (by omega)) (ac (ae 0) (ac (ae 1) (ac (ae 2) ag aj) aj) aj) (he := aj) (hpl := (al aj (al aj ao)))))
    (ah (iX (i := 5) sc_law_due.nd rfl rfl rfl (ls := ["block", ".0"]) (.of (ai cy)) (bJ rfl y_range (ac (ae 3) ag aj)) (fun _ _ _ _ => (ax (i := 0) km rfl (Or.inl rfl) (.inr rfl))) (aU 2 0 (by decide)) (fun _ _ _ _ => (kr (aH dR (cM hu6) (ae 0) (ar hu (ae 4) af (fun _ _ => rfl)) (az _)))) (fun _ _ _ _ => (aD (ac (ar hu (ae 4) af (fun _ _ => rfl)) (ac (ae 0) ag aj) bH))) trivial)
    (ah (av (i := 5) sc_law_due.nd rfl (Or.inl rfl) (bv (ae 5) (bc (dg rfl (ls := ["block", ".0"]) (.of (ai cy)) (bJ rfl y_range (ac (ae 3) ag aj)) (fun _ _ _ _ => (ax (i := 0) kj rfl (Or.inl rfl) (.inr rfl))) (aU 2 0 (by decide)) (fun _ _ _ _ => (kr (aH dR (cM hu6) (ae 0) (ar hu (ae 4) af (fun _ _ => rfl)) (az _)))) (fun _ _ _ _ => (aD (ac (ae 0) (ac (ar hu (ae 4) af (fun _ _ => rfl)) ag bH) aj))) trivial))))
    (ah (av (i := 6) sc_law_due.nd rfl (Or.inl rfl) (aG (ps := ["many", "gains_v", "barred"]) C_law_saved (hr.mono (by omega)) (ac (ae 3) (ac (ae 4) (ac (ae 5) ag aj) aj) aj) (he := aj) (hpl := (al aj (al aj ao)))))
    (ak (aB (uZ rfl y_max (ac af (ac (gR (aG (ps := ["many", "gains_v", "barred"]) C_law_saved (hr.mono (by omega)) (ac (ae 3) (ac (ae 4) (ac (bc (bN (ac (aD (ac (ar hu (ae 2) af (fun _ _ => rfl)) (ac (ar hu (ae 2) af (fun _ _ => rfl)) ag bH) bH)) ag jj))) ag ug) aj) aj) (he := aj) (hpl := (al aj (al ug ao)))) (ae 6)) ag fV) aO) (he := aO) (hpl := (al fV ao)))))))))))
theorem sc_law : FnScope ["script", "deck", "many", "program", "gone", "counted", "some", "way"] ["script"] (ai fX) := ⟨rfl,rfl,rfl,by decide +kernel,rfl,by decide +kernel,by decide +kernel⟩
theorem uR {a_law_deck : Addr}{d_law_deck : FuncData}{a_law_draw : Addr}{d_law_draw : FuncData}{a_law_program : Addr}{d_law_program : FuncData}{a_law_ways : Addr}{d_law_ways : FuncData}{a_law_counts : Addr}{d_law_counts : FuncData}{a_law_told : Addr}{d_law_told : FuncData}{a_law_due : Addr}{d_law_due : FuncData} (y_len : mg "len" = none) (C_law_deck : CG P w K mg base 1 "_law_deck" a_law_deck d_law_deck ["script"] 1 cQ) (C_law_draw : CG P w K mg base 1 "_law_draw" a_law_draw d_law_draw ["deck", "many"] 2 au) (C_law_program : CG P w K mg base 3 "_law_program" a_law_program d_law_program ["deck", "many"] 2 bK) (C_law_ways : CG P w K mg base 1 "_law_ways" a_law_ways d_law_ways ["program"] 1 bW) (C_law_counts : CG P w K mg base 2 "_law_counts" a_law_counts d_law_counts ["deck", "many"] 2 ci) (C_law_told : CG P w K mg base 6 "_law_told" a_law_told d_law_told ["program", "counted", "way", "due"] 4 cP) (C_law_due : CG P w K mg base 3 "_law_due" a_law_due d_law_due ["program", "counted", "way"] 3 dy) (F:Fun K "law" "law" fX f fd) (B:Binds K fd ["script"] []) (Mf : mg "law" = some (.ref f)) : CG P w K mg base 7 "law" f fd ["script"] 1 jO :=by
  refine ⟨bS (g := ol) F sc_law rfl rfl rfl fun cdv A outer s H E hr => ?_,B,F.kp,Mf⟩
  have hu := bQ hr
  have hu6 := hr.units
  exact (ah (av (i := 1) sc_law.nd rfl (Or.inl rfl) (aG (ps := ["script"]) C_law_deck (hr.mono (by omega)) (ac (ae 0) ag aj) (he := aj) (hpl := ao)))
    (ah (av (i := 2) sc_law.nd rfl (Or.inl rfl) af)
    (ah (bO (aH dA (cq hu6) (aG (ps := ["deck", "many"]) C_law_draw (hr.mono (by omega)) (ac (ae 1) (ac af ag aO) aj) (he := aj) (hpl := (al aO ao))) af (az _)) (ak (av (i := 2) sc_law.nd rfl (Or.inl rfl) (bv af (aG (ps := ["deck", "many"]) C_law_draw (hr.mono (by omega)) (ac (ae 1) (ac af ag aO) aj) (he := aj) (hpl := (al aO ao)))))) aJ)
    (ah (av (i := 3) sc_law.nd rfl (Or.inl rfl) (aG (ps := ["deck", "many"]) C_law_program (hr.mono (by omega)) (ac (ae 1) (ac (ae 2) ag aj) aj) (he := aj) (hpl := (al aj ao))))
    (ah (av (i := 4) sc_law.nd rfl (Or.inl rfl) (aG (ps := ["program"]) C_law_ways (hr.mono (by omega)) (ac (ae 3) ag aj) (he := aj) (hpl := ao)))
    (ah (av (i := 5) sc_law.nd rfl (Or.inl rfl) (aG (ps := ["deck", "many"]) C_law_counts (hr.mono (by omega)) (ac (ae 1) (ac (iZ y_len (ac (ae 4) ag aj) (he := aj) (hpl := ao)) ag d5) aj) (he := aj) (hpl := (al d5 ao))))
    (ah (av (i := 6) sc_law.nd rfl (Or.inl rfl) (gS (uX (fK (ae 4) cS (cR af)) (fK (ae 4) (cR (qW af)) cS))))
    (ah (bO (aH dR (cM hu6) (ae 4) (bc (bN ag)) (az _)) (ak (iq (ph (ae 6) (ac af (ac (ar hu (ae 4) (aG (ps := ["deck", "many"]) C_law_draw (hr.mono (by omega)) (ac (ae 1) (ac (iZ y_len (ac (ae 4) ag aj) (he := aj) (hpl := ao)) ag d5) aj) (he := aj) (hpl := (al d5 ao))) (fun _ _ => rfl)) ag bH) aO)))) aJ)
    (ah (bO (aH qD mG (ae 2) af (az _)) (ak (av (i := 6) sc_law.nd rfl (Or.inl rfl) (fK (ae 6) cS (cR af)))) aJ)
    (ah (cr PassesOwn.never rfl (fw (ae 6)) (ax (i := 7) sc_law.nd rfl (Or.inl rfl)) (aU 8 7 (by decide)) (ak (bO (qR (kq (aG (ps := ["program", "counted", "way", "due"]) C_law_told (hr.mono (by omega)) (ac (ae 3) (ac (ae 5) (ac (ae 7) (ac (aG (ps := ["program", "counted", "way"]) C_law_due (hr.mono (by omega)) (ac (ae 3) (ac (ae 5) (ac (ae 7) ag aj) aj) aj) (he := aj) (hpl := (al aj (al aj ao)))) ag d5) aj) aj) aj) (he := aj) (hpl := (al aj (al aj (al d5 ao))))))) (ak (aB q9)) aJ)))
    (ak (aB q9))))))))))))
end
end Q
set_option maxHeartbeats 1000000
namespace Q
open PySem L2
local macro_rules | `(tactic| simp! only [$xs,*]) => `(tactic| try simp only [finF,aV,bE,bD,bG,bF,bq,cF,cG,sFor,mMet,aE,sAug,sAugW,sFldW,tupW,sRet,sSet,sNil,sEx,sPass,br,sCont,sUnp,aP,mB,L2.m2,L2.m1,L2.m3,mVar,mC,mCall,mCons,mNil,mTup,mTl,mNew,lenG,listL,mPart,ay,mAnd,mOr,mNot,mAndV,mOrV,mNotV,mIf,bz,mMeth,isS,mSrc,mSrcA,srcL,srcT,srcS,tgN,tgT,setW,mYes,aI,bd_no,asB_bl,addW_int,subW_int,ltW_int,leW_int,gtW_int,geW_int,eqW_int,eqW_str,neW_int,neW_str,neW_bl,slW_tl,slW_cl,lenW_tl,lenW_tup,negW,List.set_cons_zero,List.set_cons_succ,List.getElem?_cons_zero,List.getElem?_cons_succ,List.length_cons,List.length_nil,arW,if_true,if_false,Bool.false_eq_true,ite_true,ite_false,reduceIte,decide_true,decide_false,Bool.not_true,Bool.not_false,cC,gdn0,gdn1,gdn2,gdn3,gdn4,gdn5,gdn6,gdn7,gdn8,gdn9,gdn10,gdn11,gdn12,gdn13,gdn14,gdn15,gdn16,gdn17,gdn18,gdn19,gdn20,gdn21,gdn22,gdn23,gdn24,$xs,*])
local macro_rules | `(tactic| simp!) => `(tactic| simp! only [aa])
section
theorem sz {n:Nat} (h:n ≤ 100000) : n ≤ sizeLine := Nat.le_trans h (by decide)
theorem gu (l:List W) : lstO (.tl l) = pr l := rfl
theorem ik (l:List W) : srcL (.tl l) = pr ⟨l,fun _ => True⟩ := rfl
theorem jB (l:List W) : iJ [.tl l] = pr (.tup l) := rfl
theorem gG (a b : List W) (h:a.length + b.length ≤ sizeLine) : addW (.tl a) (.tl b) = pr (.tl (a ++ b)) :=by
  show gd (a.length + b.length ≤ sizeLine) (pr (W.tl (a ++ b))) = _
  exact aq h
theorem cp18 : CPow 10 18 := ⟨by decide,by decide,by decide⟩
theorem pM (ns : List Int) : (cutW ns none (some 63)).length ≤ 63 :=by
  unfold cutW
  rw [List.length_take]
  show min (min (63 : Int).toNat ns.length - 0) _ ≤ 63
  have : (63 : Int).toNat = 63 := rfl
  omega
noncomputable def Pd : Nat → W → Prop
  | 0,_ => False
  | n + 1,w => (∃ i,w = .int i) ∨ (∃ z,w = .str z ∧ PyData.strOk z = true) ∨ ∃ l,(w = .tup l ∨ w = .tl l) ∧ l.length ≤ 1000 ∧ ∀ x ∈ l,Pd n x
theorem Pd.mono : ∀ {n:Nat}{w:W},Pd n w → Pd (n + 1) w
  | n + 1,w,p => by
    rcases p with p | p | ⟨l,e,z,p⟩
    · exact .inl p
    · exact .inr (.inl p)
    · exact .inr (.inr ⟨l,e,z,fun x hx => (p x hx).mono⟩)
theorem Pd.up {n m : Nat}{w:W} (p:Pd n w) (h:n ≤ m) : Pd m w :=by
  induction m with
  | zero =>
    have : n = 0 :=by omega
    subst this; exact p
  | succ m ih =>
    by_cases e : n = m + 1
    · subst e; exact p
    · exact (ih (by omega)).mono
theorem Pd.int {n:Nat}{i:Int} : Pd (n + 1) (.int i) := .inl ⟨i,rfl⟩
theorem Pd.str {n:Nat}{i:Str} (h:PyData.strOk i = true) : Pd (n + 1) (.str i) := .inr (.inl ⟨i,rfl,h⟩)
theorem Pd.tup {n:Nat}{l:List W} (z:l.length ≤ 1000) (p:∀ x ∈ l,Pd n x) : Pd (n + 1) (.tup l) := .inr (.inr ⟨l,.inl rfl,z,p⟩)
theorem Pd.lst {n:Nat}{l:List W} (z:l.length ≤ 1000) (p:∀ x ∈ l,Pd n x) : Pd (n + 1) (.tl l) := .inr (.inr ⟨l,.inr rfl,z,p⟩)
theorem pd2i {a:Str}{i:Int}{n:Nat} (h:PyData.strOk a = true) : Pd (n + 2) (.tup [.str a,.int i]) := .tup (by simp) fun x hx => by
  rcases List.mem_cons.mp hx with rfl | hx
  · exact .str h
  · rw [List.mem_singleton.mp hx]; exact .int
theorem pdT {l:List W}{n:Nat} (z:l.length ≤ 1000) (h:∀ x ∈ l,Pd n x) : Pd (n + 1) (.tup l) := .tup z h
theorem aL {n:Nat}{w:W}{l:List W} (h:Pd n w) (r:∀ x ∈ l,Pd n x) : ∀ x ∈ w :: l,Pd n x := fun x hx => by
  rcases List.mem_cons.mp hx with rfl | hx
  · exact h
  · exact r x hx
theorem d7 {n:Nat} : ∀ x ∈ ([] : List W),Pd n x := fun x hx => absurd hx List.not_mem_nil
theorem gc {n:Nat}{h:List Ob} : ∀ (l:List W),(∀ x ∈ l,∃ d,dataH h n x = some d ∧ d.canLay0 = true) → ∃ ds,optL (dataH h n) l = some ds ∧ PyData.canLayAll0 ds = true
  | [],_ => ⟨[],rfl,by rw [PyData.canLayAll0]⟩
  | x :: l,q => by
    obtain ⟨d,e,c⟩ := q x List.mem_cons_self
    obtain ⟨ds,es,cs⟩ := gc l fun y hy => q y (List.mem_cons_of_mem _ hy)
    refine ⟨d :: ds,?_,?_⟩
    · simp only [optL,e,es]
    · rw [PyData.canLayAll0,c,cs]; rfl
theorem Pd.data {h:List Ob} : ∀ {n:Nat}{w:W},Pd n w → ∃ d,dataH h n w = some d ∧ d.canLay0 = true
  | n + 1,w,p => by
    rcases p with ⟨i,rfl⟩ | ⟨z,rfl,hz⟩ | ⟨l,e,_,p⟩
    · exact ⟨.int i,rfl,by rw [PyData.canLay0]⟩
    · exact ⟨.str z,rfl,by rw [PyData.canLay0]; exact hz⟩
    · obtain ⟨ds,es,cs⟩ := gc (h := h) l fun x hx => (p x hx).data
      rcases e with rfl | rfl
      · exact ⟨.tuple ds,by show (optL (dataH h n) l).map PyData.tuple = _; rw [es]; rfl,by rw [PyData.canLay0]; exact cs⟩
      · exact ⟨.list ds,by show (optL (dataH h n) l).map PyData.list = _; rw [es]; rfl,by rw [PyData.canLay0]; exact cs⟩
theorem rB {l:List W} (p:∀ x ∈ l,Pd 49 x) : eqW (.tl l) (.tl l) = pr (.bl true) := nt fun h => by
  obtain ⟨ds,es,cs⟩ := gc (h := h) l fun x hx => (p x hx).data
  rw [pI es es cs cs,dM ds cs]
inductive E17
  | go (t:Int)
  | iff (s:Str) (a b : W) (x y : Int)
  | table (e:W) (ts : List Int)
  | stop
noncomputable def E17.w : E17 → W
  | .go t => .tup [.str "go",.int t]
  | .iff s a b x y => .tup [.str "if",.str s,a,b,.int x,.int y]
  | .table e ts => .tup [.str "table",e,.tup (ts.map W.int)]
  | .stop => .tup [.str "stop"]
noncomputable def E17.Good (m:Int) : E17 → Prop
  | .go t => 0 ≤ t ∧ t < m
  | .iff s a b x y => (0 ≤ x ∧ x < m) ∧ (0 ≤ y ∧ y < m) ∧ Pd 8 a ∧ Pd 8 b ∧ PyData.strOk s = true
  | .table e ts => ts.length ≤ 6 ∧ (∀ t ∈ ts,0 ≤ t ∧ t < m) ∧ Pd 8 e
  | .stop => True
theorem fq : PyData.strOk "number" = true :=by decide +kernel
end
set_option maxHeartbeats 1000000
section
section
variable {β : Type}{h:List Ob}{k:W → M β}{Q:β → List Ob → Prop}{j:Nat}{l:List W}
end
noncomputable def upto (n:Nat) : List Int := (List.range n).map fun (r:Nat) => 1 + (r:Int)
theorem oI (n:Nat) : upto (n + 1) = upto n ++ [1 + (n:Int)] :=by
  unfold upto
  rw [List.range_succ,List.map_append]; rfl
theorem fU (n:Nat) : (upto n).length = n :=by unfold upto; simp
theorem upto_mem {n:Nat}{x:Int} : x ∈ upto n ↔ 1 ≤ x ∧ x ≤ n :=by
  unfold upto
  constructor
  · intro h
    obtain ⟨r,hr,rfl⟩ := List.mem_map.mp h
    have := List.mem_range.mp hr
    omega
  · intro h
    exact List.mem_map.mpr ⟨(x - 1).toNat,List.mem_range.mpr (by omega),by omega⟩
noncomputable def allB (n:Nat) : List Int := 0 :: upto (n - 1)
theorem bY (n:Nat) : (allB n).Nodup :=by
  unfold allB
  refine List.nodup_cons.mpr ⟨fun h => by have := upto_mem.mp h; omega,?_⟩
  unfold upto
  show List.Pairwise (· ≠ ·) _
  rw [List.pairwise_map]
  exact List.nodup_range.imp fun h => by omega
theorem me {n:Nat} (hn : 1 ≤ n) : (allB n).length = n :=by unfold allB; rw [List.length_cons,fU]; omega
theorem addT (a:W) (l m : List W) (h:l.length + m.length ≤ 100) : addW (.tup (a :: l)) (.tup m) = pr (.tup (a :: (l ++ m))) :=by
  show gd ((a :: l).isEmpty = false ∧ (a :: l).length + m.length ≤ sizeLine) (pr (W.tup ((a :: l) ++ m))) = _
  rw [aq ⟨rfl,sz (by rw [List.length_cons]; omega)⟩]; rfl
theorem nj (n:Nat) : intsW 1 n = (upto n).map W.int :=by
  apply List.ext_getElem?
  intro i
  by_cases hi : i < n
  · obtain ⟨w,hw⟩ : ∃ w,(intsW 1 n)[i]? = some w := ⟨_,List.getElem?_eq_getElem (by rw [aR]; exact hi)⟩
    obtain ⟨rfl,_⟩ := bg _ _ _ _ hw
    rw [hw]
    unfold upto
    rw [List.map_map,List.getElem?_map,List.getElem?_range hi]; rfl
  · rw [List.getElem?_eq_none (by rw [aR]; omega),List.getElem?_eq_none (by rw [List.length_map,fU]; omega)]
theorem slos {os : List Int} (h:1 ≤ os.length) : slW (.tup (os.map W.int)) (some 1) none = pr (.tup (os.tail.map W.int)) :=by
  show gd (¬ (HT.sIx (os.map W.int).length 0 (some 1) = 0 ∧ HT.sIx (os.map W.int).length (os.map W.int).length none = (os.map W.int).length)) (pr (W.tup (cutW (os.map W.int) (some 1) none))) = _
  have s1 : HT.sIx (os.map W.int).length 0 (some 1) = 1 :=by
    show (if (1 : Int) < 0 then ((1 : Int) + ((os.map W.int).length : Int)).toNat else min (1 : Int).toNat (os.map W.int).length) = 1
    rw [if_neg (by decide),List.length_map]
    show min 1 os.length = 1
    omega
  rw [aq (by rw [s1]; omega)]
  congr 2
  unfold cutW
  rw [s1,show HT.sIx (os.map W.int).length (os.map W.int).length none = (os.map W.int).length from rfl]
  cases os with
  | nil => rfl
  | cons a os =>
    rw [List.map_cons,List.drop_one,List.tail_cons,List.tail_cons,List.length_cons,Nat.add_sub_cancel,List.take_length]
end
set_option maxHeartbeats 1000000
section
theorem vE : decide (("if" : Str) = "go") = false :=by decide +kernel
theorem vF : decide (("go" : Str) = "table") = false :=by decide +kernel
theorem vD : decide (("if" : Str) = "table") = false :=by decide +kernel
theorem v3 : decide (("table" : Str) = "go") = false :=by decide +kernel
theorem vZ : decide (("table" : Str) = "if") = false :=by decide +kernel
theorem v5 : decide (("stop" : Str) = "go") = false :=by decide +kernel
theorem v4 : decide (("stop" : Str) = "if") = false :=by decide +kernel
theorem uh : decide (("stop" : Str) = "table") = false :=by decide +kernel
noncomputable def E17.tos : E17 → List Int
  | .go t => [t]
  | .iff _ _ _ x y => [x,y]
  | .table _ ts => ts
  | .stop => []
noncomputable def E17.tab : E17 → Bool
  | .table _ _ => true
  | _ => false
theorem E17.Good.six {m:Int}{e:E17} (g:e.Good m) : e.tos.length ≤ 6 :=by
  cases e with
  | go t => show ([t] : List Int).length ≤ 6; simp
  | iff s a b x y => show ([x,y] : List Int).length ≤ 6; simp
  | table e ts => exact g.1
  | stop => exact Nat.zero_le _
theorem E17.Good.to {m:Int}{e:E17} (g:e.Good m) : ∀ t ∈ e.tos,0 ≤ t ∧ t < m :=by
  cases e with
  | go t => intro x hx; rw [List.mem_singleton.mp hx]; exact g
  | iff s a b x y =>
    intro z hz
    rcases List.mem_cons.mp hz with rfl | hz
    · exact g.1
    · rw [List.mem_singleton.mp hz]; exact g.2.1
  | table e ts => exact g.2.1
  | stop => intro x hx; exact absurd hx List.not_mem_nil
structure B23 where
  nm : Str
  s : List W
  e : E17
noncomputable def B23.w (b:B23) : W := .tup [.str b.nm,.tl b.s,b.e.w]
noncomputable abbrev Way := Int × Int × Int
noncomputable def wayW (w:Way) : W := .tup [.int w.1,.int w.2.1,.int w.2.2]
noncomputable def cZ (k:Int) (ts : List Int) : List Way := ts.zipIdx.map fun p => (k,(p.2 : Int),p.1)
noncomputable def waysL (es : List E17) : List Way := es.zipIdx.flatMap fun p => cZ p.2 p.1.tos
theorem iN (k:Int) (ts : List Int) (t:Int) : cZ k (ts ++ [t]) = cZ k ts ++ [(k,(ts.length : Int),t)] :=by
  unfold cZ
  rw [List.zipIdx_append,List.map_append]
  simp
theorem gL (k:Int) (ts : List Int) : (cZ k ts).length = ts.length :=by unfold cZ; simp
theorem gH (es : List E17) (e:E17) : waysL (es ++ [e]) = waysL es ++ cZ es.length e.tos :=by
  unfold waysL
  rw [List.zipIdx_append,List.flatMap_append]
  simp
theorem eP (es : List E17) (h:∀ e ∈ es,e.tos.length ≤ 6) : ∀ n,n ≤ es.length → (waysL (es.take n)).length ≤ 6 * n
  | 0,_ => by rw [List.take_zero]; exact Nat.le_refl _
  | n + 1,hn => by
    have ih := eP es h n (by omega)
    have e1 : es[n]? = some es[n] := List.getElem?_eq_getElem (by omega)
    have h6 := h _ (List.mem_of_getElem? e1)
    rw [show es.take (n + 1) = es.take n ++ [es[n]] by rw [List.take_succ,e1]; rfl,gH,List.length_append,gL]
    omega
theorem iF {es : List E17}{w:Way} (h:w ∈ waysL es) : ∃ e,es[w.1.toNat]? = some e ∧ 0 ≤ w.1 ∧ w.2.2 ∈ e.tos :=by
  unfold waysL at h
  obtain ⟨⟨e,i⟩,hp,hw⟩ := List.mem_flatMap.mp h
  rw [List.mem_zipIdx_iff_getElem?] at hp
  unfold cZ at hw
  obtain ⟨⟨t,n⟩,hq,rfl⟩ := List.mem_map.mp hw
  rw [List.mem_zipIdx_iff_getElem?] at hq
  exact ⟨e,hp,Int.natCast_nonneg _,List.mem_of_getElem? hq⟩
structure Nw (h h' : List Ob) : Prop where
  le : h.length ≤ h'.length
  eq : ∀ i,i < h.length → h'[i]? = h[i]?
theorem Nw.refl (h:List Ob) : Nw h h := ⟨Nat.le_refl _,fun _ _ => rfl⟩
theorem Nw.trans {a b c : List Ob} (x:Nw a b) (y:Nw b c) : Nw a c := ⟨Nat.le_trans x.le y.le,fun i hi => (y.eq i (Nat.lt_of_lt_of_le hi x.le)).trans (x.eq i hi)⟩
theorem Nw.get {h h' : List Ob}{j:Nat}{b:Ob} (x:Nw h h') (e:h[j]? = some b) : h'[j]? = some b := (x.eq j (cO e)).trans e
structure Nf (h h' : List Ob) (b:Ob) : Prop where
  len : h'.length = h.length + 1
  eq : ∀ i,i < h.length → h'[i]? = h[i]?
  new : h'[h.length]? = some b
theorem Nf.put {h h' : List Ob}{b:Ob} (N:Nf h h' b) (c:Ob) : Nf h (h'.set h.length c) c :=
  ⟨by rw [List.length_set]; exact N.len,fun i hi => by rw [List.getElem?_set_ne (by omega)]; exact N.eq i hi,dG N.new⟩
theorem Nf.mk0 {h:List Ob}{b:Ob} : Nf h (h ++ [b]) b := ⟨by simp,fun i hi => by rw [List.getElem?_append_left hi],ef⟩
theorem Nf.nw {h h' : List Ob}{b:Ob} (N:Nf h h' b) : Nw h h' := ⟨by rw [N.len]; omega,N.eq⟩
theorem Nf.get {h h' : List Ob}{b c : Ob}{j:Nat} (N:Nf h h' b) (e:h[j]? = some c) : h'[j]? = some c := (N.eq j (cO e)).trans e
theorem qg (e:E17) : dE [e.w] = pr (.tup (e.tos.map W.int)) :=by
  have e0 : dE [e.w] = bd (eB [some e.w]) finF := rfl
  rw [e0]
  unfold eB
  cases e <;> (unfold E17.w E17.tos; simp! only [aa,ix0,ix1,ix2,ix4,ix5,vE,v3,vZ,v5,v4,uh,eq_self,decide_true,tupW,List.map_cons,List.map_nil])
theorem aS {α : Type}{l:List α}{i:Nat}{x:α} (h:l[i]? = some x) : l.take (i + 1) = l.take i ++ [x] :=by rw [List.take_succ,h]; rfl
theorem ii {α : Type}{l:List α}{i:Nat}{x:α} (h:l[i]? = some x) : (l.take i).length = i :=by
  have := (List.getElem?_eq_some_iff.mp h).1
  rw [List.length_take]; omega
noncomputable def esOf (bs : List B23) : List E17 := bs.map B23.e
noncomputable def pgW (bx : W) (bs : List B23) : W := .tup [bx,.tl (bs.map B23.w)]
theorem Lw.enum {β : Type}{h:List Ob}{Q:β → List Ob → Prop}{x:W}{l:List W}{k:Sr → M β} (p:Lw h x l) (q:∀ G,(∀ h',Lw h' x l → G h') → Ok (k ⟨numd 0 l,G⟩) h Q) : Ok (bd (enumL [x]) k) h Q :=by
  show Ok (bd (bd (srcL x) fun s => pr ⟨numd 0 s.l,s.G⟩) k) h Q
  rw [aa]
  refine Lw.src p fun G g => ?_
  rw [aI]
  exact q G g
theorem rj {β : Type}{h:List Ob}{k:W → M β}{Q:β → List Ob → Prop}{P x : W}{bs : List B23} (hp : ixW P (.int 1) = pr x) (hx : Lw h x (bs.map B23.w)) (hl : bs.length ≤ 10) (hb : ∀ b ∈ bs,b.e.tos.length ≤ 6) (q:∀ h',Nw h h' → Ok (k (.tl ((waysL (esOf bs)).map wayW))) h' Q) : Ok (bd (fP [P]) k) h Q :=by
  have e0 : fP [P] = bd (kJ [some P,none,none,none,none,none]) finF := rfl
  rw [e0]
  unfold kJ
  have h6 : ∀ e ∈ esOf bs,e.tos.length ≤ 6 := fun e he => by
    obtain ⟨b,hb',rfl⟩ := List.mem_map.mp he
    exact hb b hb'
  simp!
  refine gQ ?_
  simp! only [aa,hp]
  refine Lw.enum (hx.keep (Nf.mk0 (h := h) (b := .lst [])).nw.eq) fun G hG => ?_
  simp!
  refine da (I := fun i ρ h' => ∃ a b c d,ρ = [some P,some (.loc h.length),a,b,c,d] ∧ Nf h h' (.lst ((waysL ((esOf bs).take i)).map wayW))) ⟨_,_,_,_,rfl,Nf.mk0⟩ (fun _ _ _ I => by obtain ⟨_,_,_,_,_,N⟩ := I; exact hG _ (hx.keep N.nw.eq)) (fun i w ρ h1 hw I => ?_) fun ρ h1 I => ?_
  · obtain ⟨a,b,c,d,rfl,N⟩ := I
    obtain ⟨x',hx',rfl⟩ := dB _ _ _ _ hw
    rw [List.getElem?_map] at hx'
    obtain ⟨b,hp',rfl⟩ := Option.map_eq_some_iff.mp hx'
    have he : (esOf bs)[i]? = some b.e :=by unfold esOf; rw [List.getElem?_map,hp']; rfl
    have t6 := h6 _ (List.mem_of_getElem? he)
    have hi : i < bs.length := (List.getElem?_eq_some_iff.mp hp').1
    have hi' : i < (esOf bs).length := (List.getElem?_eq_some_iff.mp he).1
    have w6 := eP (esOf bs) h6 i (by omega)
    obtain ⟨nm,sts,e⟩ := b
    have t6 : e.tos.length ≤ 6 := t6
    have hs : ixW (B23.w ⟨nm,sts,e⟩) (.int 2) = pr e.w := ix2 ..
    refine ⟨_,rfl,?_⟩
    simp! only [aa,hs,qg,pJ]
    generalize B23.w ⟨nm,sts,e⟩ = B at *
    refine j9 (I := fun n ρ h' => ∃ c d,ρ = [some P,some (.loc h.length),some (.int (0 + (i:Int))),some B,c,d] ∧ Nf h h' (.lst ((waysL ((esOf bs).take i) ++ cZ i (e.tos.take n)).map wayW))) ⟨_,_,rfl,by rw [List.take_zero]; show Nf h h1 (.lst ((_ ++ []).map wayW)); rw [List.append_nil]; exact N⟩ (fun _ _ _ _ => trivial) (fun n w ρ h2 hw I => ?_) fun ρ h2 I => ?_
    · obtain ⟨c,d,rfl,N2⟩ := I
      obtain ⟨y,hy,rfl⟩ := dB _ _ _ _ hw
      rw [List.getElem?_map] at hy
      obtain ⟨t,ht,rfl⟩ := Option.map_eq_some_iff.mp hy
      have hn : n < e.tos.length := (List.getElem?_eq_some_iff.mp ht).1
      refine ⟨_,rfl,?_⟩
      simp!
      refine j8 N2.new ?_
      simp!
      refine mO N2.new (by
        rw [List.length_map,List.length_append,gL,List.length_take]
        exact Nat.lt_of_le_of_lt (show _ ≤ 66 by omega) (by decide)) ?_
      simp!
      refine aw ⟨_,rfl,_,_,rfl,?_⟩
      rw [aS ht,iN,ii ht,← List.append_assoc]
      generalize waysL ((esOf bs).take i) ++ cZ i (e.tos.take n) = A at *
      rw [show (A ++ [((i:Int),(n:Int),t)]).map wayW = A.map wayW ++ [.tup [.int (0 + (i:Int)),.int (0 + (n:Int)),.int t]] by rw [List.map_append,Int.zero_add,Int.zero_add]; rfl]
      exact N2.put _
    · obtain ⟨c,d,rfl,N2⟩ := I
      rw [cU,List.length_map,List.take_length] at N2
      refine ⟨_,rfl,_,_,_,_,rfl,?_⟩
      rw [aS he,gH,ii he]
      exact N2
  · obtain ⟨a,b,c,d,rfl,N⟩ := I
    rw [cU,List.length_map,show bs.length = (esOf bs).length by unfold esOf; rw [List.length_map],List.take_length] at N
    simp!
    refine mN N.new ?_
    simp!
    exact q _ (N.put .gone).nw
section
variable {β : Type}{h:List Ob}{Q:β → List Ob → Prop}{j:Nat}
end
end
set_option maxHeartbeats 1000000
section
theorem oC {κ : Type} [DecidableEq κ] (x x' : κ) (y:W) : ∀ (ks : List κ) (ws : List W),ks.length = ws.length → atK ks (mapAt ks ws x y) x' = if x = x' then (if (ks.any fun k => decide (k = x)) = true then some y else none) else atK ks ws x'
  | [],ws,_ => by
    unfold atK
    split <;> rfl
  | k :: ks,[],h => by cases h
  | k :: ks,w :: ws,h => by
    have ih := oC x x' y ks ws (Nat.succ.inj h)
    rw [mapAt,atK,atK,ih,List.any_cons]
    by_cases e : x = x'
    · subst e
      by_cases e2 : k = x
      · simp [e2]
      · simp [e2]
    · by_cases e2 : k = x'
      · have : k ≠ x := fun z => e (z.symm.trans e2)
        simp [e,e2,this]
        intro z; exact absurd z.symm e
      · simp [e,e2]
theorem oD {κ : Type} [DecidableEq κ] (x x' : κ) (y:W) : ∀ (ks : List κ) (ws : List W),ks.length = ws.length → (ks.any fun k => decide (k = x)) = false → atK (ks ++ [x]) (ws ++ [y]) x' = if x = x' then some y else atK ks ws x'
  | [],[],_,_ => by simp [atK]
  | [],_ :: _,h,_ => by cases h
  | k :: ks,[],h,_ => by cases h
  | k :: ks,w :: ws,h,a => by
    rw [List.any_cons,Bool.or_eq_false_iff] at a
    have ih := oD x x' y ks ws (Nat.succ.inj h) a.2
    rw [List.cons_append,List.cons_append,atK,atK,ih]
    have e2 : k ≠ x := of_decide_eq_false a.1
    by_cases e : k = x'
    · have : x ≠ x' := fun z => e2 (e.trans z.symm)
      simp [e,this]
    · simp [e]
theorem jK {κ : Type} [DecidableEq κ] (x:κ) (y:W) : ∀ (ks : List κ) (ws : List W),ks.length = ws.length → (mapAt ks ws x y).length = ws.length
  | [],ws,h => h
  | k :: ks,[],h => by cases h
  | k :: ks,w :: ws,h => by rw [mapAt,List.length_cons,List.length_cons,jK x y ks ws (Nat.succ.inj h)]
theorem iA {κ : Type} [DecidableEq κ] {x:κ}{y:W}{ks ks' : List κ}{ws ws' : List W} (h:ks.length = ws.length) (e:putW ks ws x y = (ks',ws')) : ks'.length = ws'.length ∧ ks'.length ≤ ks.length + 1 ∧ ∀ x',atK ks' ws' x' = if x = x' then some y else atK ks ws x' :=by
  unfold putW at e
  by_cases a : (ks.any fun k => decide (k = x)) = true
  · rw [if_pos a] at e
    cases e
    refine ⟨by rw [jK x y ks ws h]; exact h,Nat.le_succ _,fun x' => ?_⟩
    rw [oC x x' y ks ws h,if_pos a]
  · rw [if_neg a] at e
    cases e
    refine ⟨by rw [List.length_append,List.length_append,h]; rfl,by rw [List.length_append]; exact Nat.le_refl _,fun x' => ?_⟩
    exact oD x x' y ks ws h (by rw [← Bool.not_eq_true]; exact a)
section
variable {β : Type}{h:List Ob}{Q:β → List Ob → Prop}{j:Nat}
theorem iT {k:W → M β}{ρ : Env'} (q:Ok (k (.loc h.length)) (h ++ [.dit [] []]) Q) : Ok (bd (gW ρ) k) h Q := aY (a := .loc h.length) (h' := h ++ [.dit [] []]) rfl q
theorem gf {ks : List (List Key)}{ws : List W}{k:W → M β} (e:h[j]? = some (.dit ks ws)) (q:Ok (k (.loc j)) h Q) : Ok (bd (isDT (.loc j)) k) h Q :=by
  refine aY (a := .loc j) (h' := h) ?_ q
  have : ditOf (.loc j) h = some (ks,ws) :=by unfold ditOf; simp only [e]
  unfold isDT
  rw [this]
theorem gC {ks : List (List Key)}{ws : List W}{y d : W}{q:List Key} (e:h[j]? = some (.dit ks ws)) (ek : keyT y = some q) : getT (.loc j) y d h = .ok ((atK ks ws q).getD d) h :=by
  have : ditOf (.loc j) h = some (ks,ws) :=by unfold ditOf; simp only [e]
  unfold getT
  simp only [this,ek]
theorem mK {ks ks' : List (List Key)}{ws ws' : List W}{q:List Key}{v:W}{k:Unit → M β} (e:h[j]? = some (.dit ks ws)) (hz : ks.length < sizeLine) (e2 : putW ks ws q v = (ks',ws')) (r:Ok (k ()) (h.set j (.dit ks' ws')) Q) : Ok (bd (gJ (.loc j) (.kt q) v) k) h Q :=by
  refine aY (a := ()) (h' := h.set j (.dit ks' ws')) ?_ r
  unfold gJ
  simp only [e,if_pos hz,e2]
end
structure Nd (h h' : List Ob) (j:Nat) (b:Ob) : Prop where
  nw : Nw h h'
  ge : h.length ≤ j
  new : h'[j]? = some b
theorem Nd.put {h h' : List Ob}{j:Nat}{b:Ob} (N:Nd h h' j b) (c:Ob) : Nd h (h'.set j c) j c :=
  ⟨⟨by rw [List.length_set]; exact N.nw.le,fun i hi => by rw [List.getElem?_set_ne (by have := N.ge; omega)]; exact N.nw.eq i hi⟩,N.ge,dG N.new⟩
theorem Nd.more {h h' h2 : List Ob}{j:Nat}{b:Ob} (N:Nd h h' j b) (K:Nw h' h2) : Nd h h2 j b := ⟨N.nw.trans K,N.ge,K.get N.new⟩
theorem Nd.mk0 {h:List Ob}{b:Ob} : Nd h (h ++ [b]) h.length b := ⟨Nf.mk0.nw,Nat.le_refl _,ef⟩
noncomputable abbrev Zw := Bool × Int × Int × Int
noncomputable def tabOf (es : List E17) (a:Int) : Bool := match es[a.toNat]? with
  | some e => e.tab
  | none => false
noncomputable def zsL (es : List E17) (cs : List Int) : List Zw := List.zipWith (fun (w:Way) c => (tabOf es w.1,w.1,w.2.2,c)) (waysL es) cs
noncomputable def gsum (zs : List Zw) (a b : Int) : Int := (zs.map fun z => if z.1 = false ∧ z.2.1 = a ∧ z.2.2.1 = b then z.2.2.2 else 0).sum
theorem dW (zs : List Zw) (z:Zw) (a b : Int) : gsum (zs ++ [z]) a b = gsum zs a b + if z.1 = false ∧ z.2.1 = a ∧ z.2.2.1 = b then z.2.2.2 else 0 :=by
  unfold gsum
  rw [List.map_append,List.sum_append]
  simp
noncomputable def E17.kind : E17 → Str
  | .go _ => "go"
  | .iff _ _ _ _ _ => "if"
  | .table _ _ => "table"
  | .stop => "stop"
theorem iu (e:E17) : ixW e.w (.int 0) = pr (.str e.kind) :=by cases e <;> exact ix0 ..
theorem gv (e:E17) : decide (e.kind = "table") = e.tab :=by
  cases e with
  | go _ => exact vF
  | iff _ _ _ _ _ => exact vD
  | table _ _ => exact decide_eq_true rfl
  | stop => exact uh
theorem i8 {bs : List B23}{a:Int}{b:B23} (h0 : 0 ≤ a) (h:bs[a.toNat]? = some b) : ixW (.tl (bs.map B23.w)) (.int a) = pr b.w := dP (dl h0 (by rw [List.getElem?_map,h]; rfl))
theorem kF (b:B23) : ixW b.w (.int 2) = pr b.e.w := ix2 ..
theorem nq {bs : List B23}{i:Nat}{e:E17} (h:(esOf bs)[i]? = some e) : ∃ b,bs[i]? = some b ∧ b.e = e :=by
  unfold esOf at h
  rw [List.getElem?_map] at h
  obtain ⟨b,h1,h2⟩ := Option.map_eq_some_iff.mp h
  exact ⟨b,h1,h2⟩
theorem jY (a b : List W) : srcZ false false [.tl a,.tl b] = pr ⟨zipW a b,fun _ => True ∧ True⟩ := rfl
theorem qe (a b : List W) : srcZ true true [.tup a,.tup b] = pr ⟨zipW a b,fun _ => True ∧ True⟩ := rfl
theorem kt2 (a b : Int) : ktW [.int a,.int b] = pr (.kt [.inl a,.inl b]) :=by
  show gd (([.int a,.int b] : List W).length ≤ sizeLine) (pr (W.kt [.inl a,.inl b])) = _
  exact aq (show 2 ≤ sizeLine by decide)
structure GK (ks : List (List Key)) (ws : List W) (G:Int → Int → Int) : Prop where
  len : ks.length = ws.length
  get : ∀ a b,(atK ks ws [.inl a,.inl b]).getD (.int 0) = .int (G a b)
theorem pW {es : List E17}{cs : List Int}{i:Nat}{w:Way}{c:Int} (h1 : (waysL es)[i]? = some w) (h2 : cs[i]? = some c) : (zsL es cs)[i]? = some (tabOf es w.1,w.1,w.2.2,c) :=by
  unfold zsL
  rw [List.getElem?_zipWith,h1,h2]
theorem iC {es : List E17}{cs : List Int}{i:Nat}{x:W} (e:(zipW ((waysL es).map wayW) (cs.map W.int))[i]? = some x) : ∃ w c,(waysL es)[i]? = some w ∧ cs[i]? = some c ∧ x = .tup [wayW w,.int c] :=by
  obtain ⟨x,y,hx,hy,rfl⟩ := fR e
  rw [List.getElem?_map] at hx hy
  obtain ⟨w,hw,rfl⟩ := Option.map_eq_some_iff.mp hx
  obtain ⟨c,hc,rfl⟩ := Option.map_eq_some_iff.mp hy
  exact ⟨w,c,hw,hc,rfl⟩
theorem ig {α β : Type} (f:α → W) (g:β → W) (l:List α) (m:List β) (h:l.length = m.length) : (zipW (l.map f) (m.map g)).length = m.length :=by
  unfold zipW
  rw [List.length_zipWith,List.length_map,List.length_map,h,Nat.min_self]
theorem pV {es : List E17}{cs : List Int} (h:(waysL es).length = cs.length) : (zsL es cs).length = cs.length :=by
  unfold zsL
  rw [List.length_zipWith,h,Nat.min_self]
theorem lT {h:List Ob}{P x : W}{bs : List B23}{cs : List Int} (hp : ixW P (.int 1) = pr x) (hx : Lw h x (bs.map B23.w)) (hl : bs.length ≤ 10) (hb : ∀ b ∈ bs,b.e.tos.length ≤ 6) (hc : (waysL (esOf bs)).length = cs.length) :
    Ok (eI [P,.tl (cs.map W.int)]) h fun w h' => ∃ j ks ws,w = .loc j ∧ Nd h h' j (.dit ks ws) ∧ GK ks ws (gsum (zsL (esOf bs) cs)) :=by
  have e0 : eI [P,.tl (cs.map W.int)] = bd (iw [some (P),some (.tl (cs.map W.int)),none,none,none,none,none]) finF := rfl
  rw [e0]
  unfold iw
  have lc : cs.length ≤ 60 :=by
    have h6 : ∀ e ∈ esOf bs,e.tos.length ≤ 6 := fun e he => by
      obtain ⟨b,hb',rfl⟩ := List.mem_map.mp he
      exact hb b hb'
    have l2 : (esOf bs).length = bs.length :=by unfold esOf; rw [List.length_map]
    have := eP (esOf bs) h6 (esOf bs).length (Nat.le_refl _)
    rw [List.take_length] at this
    omega
  simp!
  refine iT ?_
  simp!
  refine rj hp (hx.keep (Nf.mk0 (h := h) (b := .dit [] [])).nw.eq) hl hb fun h1 N1 => ?_
  have D1 := (Nd.mk0 (h := h) (b := .dit [] [])).more N1
  simp! only [aa,jY]
  refine da (I := fun i ρ h' => ∃ a b c d ks ws,ρ = [some P,some (.tl (cs.map W.int)),some (.loc h.length),a,b,c,d] ∧ Nd h h' h.length (.dit ks ws) ∧ GK ks ws (gsum ((zsL (esOf bs) cs).take i)) ∧ ks.length ≤ i) ⟨_,_,_,_,[],[],rfl,D1,⟨rfl,fun a b => rfl⟩,Nat.le_refl _⟩ (fun _ _ _ _ => ⟨trivial,trivial⟩) (fun i y ρ h2 hy I => ?_) fun ρ h2 I => ?_
  · obtain ⟨a,b,c,d,ks,ws,rfl,D,G,lk⟩ := I
    obtain ⟨w,n,hw,hn,rfl⟩ := iC hy
    have hi : i < cs.length := (List.getElem?_eq_some_iff.mp hn).1
    obtain ⟨e,he,w0,_⟩ := iF (List.mem_of_getElem? hw)
    have hz := pW hw hn
    have ht : tabOf (esOf bs) w.1 = e.tab :=by unfold tabOf; rw [he]
    rw [ht] at hz
    obtain ⟨b',hb',rfl⟩ := nq he
    obtain ⟨wa,wn,wt⟩ := w
    refine ⟨[some P,some (.tl (cs.map W.int)),some (.loc h.length),some (wayW (wa,wn,wt)),some (.int n),c,d],rfl,?_⟩
    unfold wayW
    have w0 : 0 ≤ wa := w0
    have hb' : bs[wa.toNat]? = some b' := hb'
    simp! only [aa,hp,ix0,ix2]
    refine (hx.keep D.nw.eq).ix (w := b'.w) (dl w0 (by rw [List.getElem?_map,hb']; rfl)) ?_
    simp! only [aa,kF,ix2,iu,gv]
    rw [aS hz]
    cases et : b'.e.tab with
    | true =>
      simp!
      refine aw ⟨_,rfl,_,_,_,_,ks,ws,rfl,D,⟨G.len,fun a b => ?_⟩,Nat.le_succ_of_le lk⟩
      rw [G.get,dW,if_neg (by simp),Int.add_zero]
    | false =>
      simp! only [aa,mKt,kt2,mGetT]
      refine gf D.new ?_
      simp!
      refine aY (gC D.new rfl) ?_
      rw [G.get wa wt]
      simp!
      rcases ep : putW ks ws [.inl wa,.inl wt] (.int (gsum ((zsL (esOf bs) cs).take i) wa wt + n)) with ⟨ks',ws'⟩
      obtain ⟨l1,l2,g⟩ := iA G.len ep
      refine mK D.new (Nat.lt_of_le_of_lt (show _ ≤ 60 by omega) (by decide)) ep ?_
      simp!
      refine aw ⟨_,rfl,_,_,_,_,ks',ws',rfl,D.put _,⟨l1,fun a b => ?_⟩,by omega⟩
      rw [g,dW]
      by_cases q : wa = a ∧ wt = b
      · rw [if_pos (by rw [q.1,q.2]),if_pos ⟨rfl,q⟩,q.1,q.2]; rfl
      · rw [if_neg (fun z => q ⟨by injection z with z1 z2; exact Sum.inl.inj z1,by injection z with z1 z2; injection z2 with z3 z4; exact Sum.inl.inj z3⟩),if_neg (fun z => q z.2),Int.add_zero]
        exact G.get a b
  · obtain ⟨a,b,c,d,ks,ws,rfl,D,G,lk⟩ := I
    rw [ig _ _ _ _ hc,← pV hc,List.take_length] at G
    simp!
    exact aw ⟨_,ks,ws,rfl,D,G⟩
end
set_option maxHeartbeats 1000000
section
theorem nS (ts : List Int) {n:Nat} : ∀ x ∈ ts.map W.int,Pd (n + 1) x := fun x hx => by
  obtain ⟨t,_,rfl⟩ := List.mem_map.mp hx
  exact .int
theorem pH {w:W} (hv : ∀ a,vOf w = some a → scal a a = false) (p:Pd 50 w) : eqW w w = pr (.bl true) := nt fun h => by
  obtain ⟨d,e,c⟩ := p.data (h := h)
  have : (match dataH h 50 w,dataH h 50 w with
    | some d,some e => if d.canLay0 = true ∧ e.canLay0 = true then some (PyData.eqv d e) else none
    | _,_ => none) = some true :=by
    rw [e]
    show (if d.canLay0 = true ∧ d.canLay0 = true then some (PyData.eqv d d) else none) = _
    rw [if_pos ⟨c,c⟩,lV d c]
  unfold eqB
  cases v : vOf w with
  | none => exact this
  | some a =>
    show (if scal a a = true then _ else _) = _
    rw [if_neg (by rw [hv a v]; simp)]; exact this
section
variable {β : Type}{h:List Ob}{Q:β → List Ob → Prop}{j:Nat}
end
theorem oG {os : List Int}{i:Nat}{x:W} (e:(zipW (os.map W.int) (os.tail.map W.int))[i]? = some x) : ∃ a b,os[i]? = some a ∧ os.tail[i]? = some b ∧ x = .tup [.int a,.int b] :=by
  obtain ⟨x,y,hx,hy,rfl⟩ := fR e
  rw [List.getElem?_map] at hx hy
  obtain ⟨w,hw,rfl⟩ := Option.map_eq_some_iff.mp hx
  obtain ⟨c,hc,rfl⟩ := Option.map_eq_some_iff.mp hy
  exact ⟨w,c,hw,hc,rfl⟩
theorem kT (os : List Int) : (zipW (os.map W.int) (os.tail.map W.int)).length = (os.zipWith (fun a b => (a,b)) os.tail).length :=by
  unfold zipW
  rw [List.length_zipWith,List.length_zipWith,List.length_map,List.length_map]
end
set_option maxHeartbeats 1000000
section
noncomputable def aft : List Int → Int → Option Int
  | x :: y :: r,a => if x = a then some y else aft (y :: r) a
  | _,_ => none
noncomputable def psum (G:Int → Int → Int) : List Int → Int
  | x :: y :: r => G x y + psum G (y :: r)
  | _ => 0
theorem lu (F G : Int → Int → Int) : ∀ l : List Int,psum (fun a b => F a b + G a b) l = psum F l + psum G l
  | [] => rfl
  | [_] => rfl
  | x :: y :: r => by
    have := lu F G (y :: r)
    unfold psum
    omega
theorem jG : ∀ l : List Int,psum (fun _ _ => 0) l = 0
  | [] => rfl
  | [_] => rfl
  | x :: y :: r => by
    have := jG (y :: r)
    unfold psum
    omega
theorem mv {F G : Int → Int → Int} (h:∀ a b,F a b = G a b) (l:List Int) : psum F l = psum G l :=by
  rw [show F = G from funext fun a => funext fun b => h a b]
noncomputable def one (t:Bool) (p q c a b : Int) : Int := if t = false ∧ p = a ∧ q = b then c else 0
theorem lm {t:Bool}{p q c : Int} : ∀ l : List Int,p ∉ l → psum (one t p q c) l = 0
  | [],_ => rfl
  | [_],_ => rfl
  | x :: y :: r,h => by
    have ih := lm (t := t) (q := q) (c := c) (y :: r) fun z => h (List.mem_cons_of_mem _ z)
    unfold psum
    rw [ih]
    unfold one
    rw [if_neg (fun z => h (by rw [z.2.1]; exact List.mem_cons_self))]; rfl
theorem lq {t:Bool}{p q c : Int} : ∀ l : List Int,l.Nodup → psum (one t p q c) l = if t = false ∧ aft l p = some q then c else 0
  | [],_ => by simp [psum,aft]
  | [_],_ => by simp [psum,aft]
  | x :: y :: r,h => by
    obtain ⟨h1,h2⟩ := List.nodup_cons.mp h
    unfold psum aft
    by_cases e : x = p
    · subst e
      rw [lm (y :: r) h1,Int.add_zero,if_pos rfl]
      unfold one
      simp [eq_comm]
    · rw [lq (y :: r) h2,if_neg e]
      unfold one
      rw [if_neg (fun z => e z.2.1.symm),Int.zero_add]
theorem dq {l:List Int} (h:l.Nodup) : ∀ zs : List Zw,psum (gsum zs) l = (zs.map fun z => if z.1 = false ∧ aft l z.2.1 = some z.2.2.1 then z.2.2.2 else 0).sum
  | [] => jG l
  | z :: zs => by
    rw [List.map_cons,List.sum_cons,← dq h zs,← lq (c := z.2.2.2) l h,← lu]
    exact mv (fun a b => by unfold gsum one; rw [List.map_cons,List.sum_cons]) l
noncomputable def paid (l:List Int) (zs : List Zw) : Int := (zs.map fun z => if z.1 = true ∨ aft l z.2.1 ≠ some z.2.2.1 then z.2.2.2 else 0).sum
theorem jI (l:List Int) : ∀ zs : List Zw,paid l zs + (zs.map fun z => if z.1 = false ∧ aft l z.2.1 = some z.2.2.1 then z.2.2.2 else 0).sum = (zs.map fun z => z.2.2.2).sum
  | [] => rfl
  | z :: zs => by
    have ih := jI l zs
    unfold paid at ih ⊢
    rw [List.map_cons,List.map_cons,List.map_cons,List.sum_cons,List.sum_cons,List.sum_cons]
    by_cases c : z.1 = false ∧ aft l z.2.1 = some z.2.2.1
    · rw [if_pos c,if_neg (by rw [c.1,c.2]; simp)]; omega
    · rw [if_neg c,if_pos (by
        cases q : z.1 with
        | true => exact .inl rfl
        | false => exact .inr fun z => c ⟨q,z⟩)]
      omega
theorem j4 {l:List Int} (h:l.Nodup) {es : List E17}{cs : List Int} (hc : (waysL es).length = cs.length) : cs.sum - psum (gsum (zsL es cs)) l = paid l (zsL es cs) :=by
  have h1 := jI l (zsL es cs)
  rw [← dq h] at h1
  have : (zsL es cs).map (fun z => z.2.2.2) = cs :=by
    unfold zsL
    clear h1
    generalize waysL es = ws at hc
    induction ws generalizing cs with
    | nil => cases cs with
      | nil => rfl
      | cons _ _ => cases hc
    | cons w ws ih => cases cs with
      | nil => cases hc
      | cons c cs =>
        rw [List.zipWith_cons_cons,List.map_cons,ih (Nat.succ.inj hc)]
  rw [this] at h1
  omega
theorem lx (G:Int → Int → Int) : ∀ l : List Int,(List.zipWith G l l.tail).sum = psum G l
  | [] => rfl
  | [_] => rfl
  | x :: y :: r => by
    have := lx G (y :: r)
    unfold psum
    rw [← this]
    rfl
end
set_option maxHeartbeats 1000000
section
noncomputable def bsets : Nat → List (List Int)
  | 0 => [[0]]
  | n + 1 => bsets n ++ (bsets n).map (· ++ [((n + 1 : Nat) : Int)])
theorem fH : ∀ n,(bsets n).length = 2 ^ n
  | 0 => rfl
  | n + 1 => by rw [bsets,List.length_append,List.length_map,fH n,Nat.pow_succ]; omega
theorem cX : ∀ {n:Nat}{s:List Int},s ∈ bsets n → ∃ r,s = 0 :: r ∧ r.Nodup ∧ r.length ≤ n ∧ ∀ x ∈ r,1 ≤ x ∧ x ≤ n
  | 0,s,h => by
    rw [bsets,List.mem_singleton] at h
    exact ⟨[],h,List.nodup_nil,Nat.le_refl _,fun x hx => absurd hx List.not_mem_nil⟩
  | n + 1,s,h => by
    rw [bsets] at h
    rcases List.mem_append.mp h with h | h
    · obtain ⟨r,e,nd,l,q⟩ := cX h
      exact ⟨r,e,nd,by omega,fun x hx => by have := q x hx; omega⟩
    · obtain ⟨t,ht,rfl⟩ := List.mem_map.mp h
      obtain ⟨r,rfl,nd,l,q⟩ := cX ht
      refine ⟨r ++ [((n + 1 : Nat) : Int)],rfl,?_,by rw [List.length_append]; show r.length + 1 ≤ n + 1; omega,fun x hx => ?_⟩
      · rw [List.nodup_append]
        refine ⟨nd,by simp,fun a ha b hb => ?_⟩
        rw [List.mem_singleton.mp hb]
        have := q a ha
        omega
      · rcases List.mem_append.mp hx with hx | hx
        · have := q x hx; omega
        · rw [List.mem_singleton.mp hx]; omega
noncomputable def wo (r:List Int) (p:Int) : List Int := r.filter fun x => !decide (x = p)
theorem mh {r:List Int}{p:Int} (h:p ∉ r) : wo r p = r :=by
  unfold wo
  rw [List.filter_eq_self]
  intro a ha
  have : a ≠ p := fun z => h (z ▸ ha)
  simp [this]
theorem wo_mem {r:List Int}{p x : Int} : x ∈ wo r p ↔ x ∈ r ∧ x ≠ p :=by
  unfold wo
  rw [List.mem_filter]
  simp
theorem nF {r:List Int}{p:Int} (h:r.Nodup) : (wo r p).Nodup := h.filter _
theorem d4 : ∀ {r:List Int}{p:Int},r.Nodup → p ∈ r → List.Perm (p :: wo r p) r
  | [],_,_,h => absurd h List.not_mem_nil
  | a :: r,p,nd,h => by
    obtain ⟨n1,n2⟩ := List.nodup_cons.mp nd
    by_cases e : a = p
    · subst e
      have : wo (a :: r) a = r :=by
        have := mh n1
        unfold wo at this ⊢
        rw [List.filter_cons]
        simpa using this
      rw [this]
    · have h2 : p ∈ r :=by
        rcases List.mem_cons.mp h with h | h
        · exact absurd h.symm e
        · exact h
      have : wo (a :: r) p = a :: wo r p :=by
        unfold wo
        rw [List.filter_cons]
        simp [e]
      rw [this]
      exact (List.Perm.swap a p _).trans (List.Perm.cons a (d4 n2 h2))
theorem iE {r:List Int}{p:Int} (nd : r.Nodup) (h:p ∈ r) : (wo r p).length + 1 = r.length :=by
  have := (d4 nd h).length_eq
  rw [List.length_cons] at this
  exact this
theorem mi (a b : List Int) (p:Int) : wo (a ++ b) p = wo a p ++ wo b p :=by unfold wo; rw [List.filter_append]
theorem fQ : ∀ {n i : Nat}{r:List Int}{p:Int},(bsets n)[i]? = some (0 :: r) → p ∈ r → ∃ j,j < i ∧ (bsets n)[j]? = some (0 :: wo r p)
  | 0,i,r,p,h,hp => by
    rw [bsets] at h
    have := List.mem_of_getElem? h
    rw [List.mem_singleton] at this
    injection this with _ e
    rw [e] at hp
    exact absurd hp List.not_mem_nil
  | n + 1,i,r,p,h,hp => by
    rw [bsets] at h ⊢
    by_cases z : i < (bsets n).length
    · rw [List.getElem?_append_left z] at h
      obtain ⟨j,hj,e⟩ := fQ h hp
      exact ⟨j,hj,by rw [List.getElem?_append_left (by omega)]; exact e⟩
    · rw [List.getElem?_append_right (by omega),List.getElem?_map] at h
      obtain ⟨s,hs,e⟩ := Option.map_eq_some_iff.mp h
      obtain ⟨r',rfl,nd,_,q⟩ := cX (List.mem_of_getElem? hs)
      have e : (0 : Int) :: (r' ++ [((n + 1 : Nat) : Int)]) = 0 :: r := e
      injection e with _ e
      subst e
      rcases List.mem_append.mp hp with hp | hp
      · obtain ⟨j,hj,e⟩ := fQ hs hp
        refine ⟨(bsets n).length + j,by omega,?_⟩
        rw [List.getElem?_append_right (by omega),Nat.add_sub_cancel_left,List.getElem?_map,e,mi,mh (r := [((n + 1 : Nat) : Int)]) (p := p) (by
          intro z
          rw [List.mem_singleton] at z
          have := q p hp
          omega)]
        rfl
      · rw [List.mem_singleton] at hp
        subst hp
        have hn : ((n + 1 : Nat) : Int) ∉ r' := fun z => by have := q _ z; omega
        refine ⟨i - (bsets n).length,by
          have : 0 < (bsets n).length :=by rw [fH]; exact Nat.two_pow_pos n
          omega,?_⟩
        have hi := (List.getElem?_eq_some_iff.mp hs).1
        rw [List.getElem?_append_left hi,hs,mi,mh hn]
        have : wo [((n + 1 : Nat) : Int)] ((n + 1 : Nat) : Int) = [] :=by unfold wo; simp
        rw [this,List.append_nil]
theorem jf : ∀ n,0 :: upto n ∈ bsets n
  | 0 => List.mem_singleton.mpr rfl
  | n + 1 => by
    rw [bsets]
    refine List.mem_append_right _ (List.mem_map.mpr ⟨0 :: upto n,jf n,?_⟩)
    rw [oI,show (1 : Int) + (n:Int) = ((n + 1 : Nat) : Int) by omega]
    rfl
noncomputable def bst (f:Option (Int × List Int)) (c:Int × List Int) : Option (Int × List Int) := match f with
  | none => some c
  | some b => if b.1 < c.1 then some c else some b
noncomputable def tl (G:Int → Int → Int) : Nat → Int → List Int → Int × List Int
  | 0,_,_ => (0,[])
  | n + 1,last,rest => ((rest.map fun p => (G last p + (tl G n p (wo rest p)).1,p :: (tl G n p (wo rest p)).2)).foldl bst none).getD (0,[])
noncomputable def tT (G:Int → Int → Int) (last : Int) (rest : List Int) : Int × List Int := tl G rest.length last rest
noncomputable def cand (G:Int → Int → Int) (last : Int) (rest : List Int) (p:Int) : Int × List Int := (G last p + (tT G p (wo rest p)).1,p :: (tT G p (wo rest p)).2)
theorem tK (G:Int → Int → Int) {last : Int}{rest : List Int} (nd : rest.Nodup) : tT G last rest = ((rest.map (cand G last rest)).foldl bst none).getD (0,[]) :=by
  unfold tT
  cases e : rest.length with
  | zero =>
    have := List.eq_nil_of_length_eq_zero e
    subst this
    rfl
  | succ n =>
    rw [tl]
    congr 2
    refine List.map_congr_left fun p hp => ?_
    have l : (wo rest p).length = n :=by have := iE nd hp; omega
    unfold cand tT
    rw [l]
noncomputable def tw (x:Int × List Int) : W := .tup [.int x.1,.tup (x.2.map W.int)]
noncomputable def fW (x:Option (Int × List Int)) : W := match x with
  | none => .non
  | some x => tw x
theorem iOfs (l:List Int) : optL iOf (l.map W.int) = some l :=by
  have := dS (f := iOf) (g := W.int) (k := fun i => i) (fun a => rfl) l
  rw [this]; simp
section
variable {β : Type}{h:List Ob}{Q:β → List Ob → Prop}{j:Nat}
theorem qL {ks : List PKy}{ws : List W}{p:Int}{l:List Int}{v:W}{k:W → M β} (e:h[j]? = some (.din false ks ws)) (a:atK ks ws (p,l) = some v) (q:Ok (k v) h Q) : Ok (bd (ixN' (.loc j) (.tup [.int p,.tup (l.map W.int)])) k) h Q :=by
  refine aY (a := v) (h' := h) ?_ q
  have e1 : dinOf (.loc j) h = some (false,ks,ws) :=by unfold dinOf; simp only [e]
  have e2 : keyN false (.tup [.int p,.tup (l.map W.int)]) = some (p,l) :=by
    show (optL iOf (l.map W.int)).map (fun ns => (p,ns)) = _
    rw [iOfs]; rfl
  unfold ixN'
  simp only [e1,e2,a]
theorem uO {ks ks' : List PKy}{ws ws' : List W}{p:Int}{l:List Int}{v:W}{k:Unit → M β} (e:h[j]? = some (.din false ks ws)) (hz : ks.length < sizeLine) (e2 : putW ks ws (p,l) v = (ks',ws')) (r:Ok (k ()) (h.set j (.din false ks' ws')) Q) : Ok (bd (jX (.loc j) (.tup [.int p,.tup (l.map W.int)]) v) k) h Q :=by
  refine aY (a := ()) (h' := h.set j (.din false ks' ws')) ?_ r
  have e3 : keyN false (.tup [.int p,.tup (l.map W.int)]) = some (p,l) :=by
    show (optL iOf (l.map W.int)).map (fun ns => (p,ns)) = _
    rw [iOfs]; rfl
  unfold jX
  simp only [e,e3,if_pos hz,e2]
theorem qN {b:Bool}{k:W → M β}{ρ : Env'} (q:Ok (k (.loc h.length)) (h ++ [.din b [] []]) Q) : Ok (bd (mZ b ρ) k) h Q := aY (a := .loc h.length) (h' := h ++ [.din b [] []]) rfl q
end
theorem mj (r:List Int) (p:Int) (hr : r.length ≤ 1000) (h:List Ob) : Ok (dX [.tup (r.map W.int),.int p]) h fun w h' => w = .tup ((wo r p).map W.int) ∧ h' = h :=by
  have e0 : dX [.tup (r.map W.int),.int p] = bd (fB [some (.tup (r.map W.int)),some (.int p)]) finF := rfl
  rw [e0]
  unfold fB
  have gl : ∀ {α : Type} (q:M α),gd ((r.map W.int).length ≤ sizeLine) q = q := fun q => aq (by rw [List.length_map]; exact sz (by omega))
  simp! only [aa,gl]
  refine iU (I := fun i a h' => h' = h ∧ a = (wo (r.take i) p).map W.int) ⟨rfl,rfl⟩ (fun _ _ _ _ => trivial) (fun i w a h' hw I => ?_) fun a h' I => ?_
  · obtain ⟨rfl,rfl⟩ := I
    rw [List.getElem?_map] at hw
    obtain ⟨x,hx,rfl⟩ := Option.map_eq_some_iff.mp hw
    refine ⟨_,rfl,?_⟩
    simp! only [List.replicate,List.cons_append,List.nil_append,aa]
    rw [aS hx,mi]
    by_cases e : x = p
    · refine aw (.inl ⟨by simp [e],rfl,?_⟩)
      have : wo [x] p = [] :=by unfold wo; simp [e]
      rw [this,List.append_nil]
    · refine aw (.inr ⟨by simp [e],aw ⟨rfl,?_⟩⟩)
      have : wo [x] p = [x] :=by unfold wo; simp [e]
      rw [this,List.map_append]
      rfl
  · obtain ⟨rfl,rfl⟩ := I
    rw [List.length_map,List.take_length]
    simp! only [aa,jB]
    exact aw ⟨rfl,rfl⟩
theorem nh (x:Int × List Int) : isNW (tw x) .non = pr (.bl false) := rfl
theorem kH : isNW .non .non = pr (.bl true) := rfl
theorem ng (x:Int × List Int) : ixW (tw x) (.int 0) = pr (.int x.1) := ix0 ..
theorem kE (x:Int × List Int) : ixW (tw x) (.int 1) = pr (.tup (x.2.map W.int)) := ix1 ..
theorem mr (G:Int → Int → Int) : ∀ (n:Nat) (last : Int) (rest : List Int),(tl G n last rest).2.length ≤ n
  | 0,_,_ => Nat.le_refl _
  | n + 1,last,rest => by
    rw [tl]
    have : ∀ (l:List (Int × List Int)) (f:Option (Int × List Int)),(∀ c ∈ l,c.2.length ≤ n + 1) → (∀ c,f = some c → c.2.length ≤ n + 1) → ((l.foldl bst f).getD (0,[])).2.length ≤ n + 1 :=by
      intro l
      induction l with
      | nil =>
        intro f _ hf
        cases f with
        | none => exact Nat.zero_le _
        | some c => exact hf c rfl
      | cons c l ih =>
        intro f hl hf
        rw [List.foldl_cons]
        refine ih _ (fun d hd => hl d (List.mem_cons_of_mem _ hd)) fun d hd => ?_
        unfold bst at hd
        cases f with
        | none => cases hd; exact hl _ List.mem_cons_self
        | some b =>
          dsimp only at hd
          split at hd
          · cases hd; exact hl _ List.mem_cons_self
          · cases hd; exact hf _ rfl
    refine this _ _ (fun c hc => ?_) fun c hc => by cases hc
    obtain ⟨p,_,rfl⟩ := List.mem_map.mp hc
    have := mr G n p (wo rest p)
    show (tl G n p (wo rest p)).2.length + 1 ≤ n + 1
    omega
theorem rY {h:List Ob}{jg jt : Nat}{gk : List (List Key)}{gw : List W}{G:Int → Int → Int}{ks : List PKy}{ws : List W}{last : Int}{rest : List Int} (eg : h[jg]? = some (.dit gk gw)) (GG : GK gk gw G) (et : h[jt]? = some (.din false ks ws)) (nd : rest.Nodup) (hr : rest.length ≤ 50)
    (ha : ∀ p ∈ rest,atK ks ws (p,wo rest p) = some (tw (tT G p (wo rest p)))) : Ok (cW [.int last,.tup (rest.map W.int),.loc jg,.loc jt]) h fun w h' => w = tw (tT G last rest) ∧ h' = h :=by
  have e0 : cW [.int last,.tup (rest.map W.int),.loc jg,.loc jt] = bd (dL [some (.int last),some (.tup (rest.map W.int)),some (.loc jg),some (.loc jt),none,none,none,none]) finF := rfl
  rw [e0]
  unfold dL
  simp!
  refine da (I := fun i ρ h' => ∃ a b c,ρ = [some (.int last),some (.tup (rest.map W.int)),some (.loc jg),some (.loc jt),some (fW (((rest.take i).map (cand G last rest)).foldl bst none)),a,b,c] ∧ h' = h) ⟨_,_,_,rfl,rfl⟩ (fun _ _ _ _ => trivial) (fun i w ρ h1 hw I => ?_) fun ρ h1 I => ?_
  · obtain ⟨a,b,c,rfl,rfl⟩ := I
    rw [List.getElem?_map] at hw
    obtain ⟨p,hp,rfl⟩ := Option.map_eq_some_iff.mp hw
    have pm := List.mem_of_getElem? hp
    refine ⟨[some (.int last),some (.tup (rest.map W.int)),some (.loc jg),some (.loc jt),some (fW (((rest.take i).map (cand G last rest)).foldl bst none)),some (.int p),b,c],rfl,?_⟩
    have ec : (((rest.take (i + 1)).map (cand G last rest)).foldl bst none) = bst (((rest.take i).map (cand G last rest)).foldl bst none) (cand G last rest p) :=by
      rw [aS hp,List.map_append,List.foldl_append]; rfl
    rw [ec]
    generalize (((rest.take i).map (cand G last rest)).foldl bst none) = F
    simp!
    refine aX (mj rest p (by omega) h1) fun w h2 qq_ => ?_
    obtain ⟨ew,e2⟩ := qq_
    subst ew e2
    simp! only [aa,tupW]
    refine qL et (ha p pm) ?_
    have lt : (tT G p (wo rest p)).2.length ≤ 50 :=by
      have := mr G (wo rest p).length p (wo rest p)
      have l := iE nd pm
      unfold tT
      omega
    have hc : cand G last rest p = (G last p + (tT G p (wo rest p)).1,p :: (tT G p (wo rest p)).2) := rfl
    generalize tT G p (wo rest p) = T at *
    simp! only [aa,mGetT,tupW]
    refine gf eg ?_
    simp! only [aa,tupW]
    refine aY (gC eg rfl) ?_
    rw [GG.get last p]
    have ea : addW (.tup [.int p]) (.tup (T.2.map W.int)) = pr (.tup ((p :: T.2).map W.int)) := addT _ [] _ (by rw [List.length_map]; show 0 + T.2.length ≤ 100; omega)
    cases F with
    | none =>
      simp! only [aa,ng,kE,kH,fW,tupW,ea]
      exact aw ⟨_,rfl,_,_,_,by rw [hc]; rfl,rfl⟩
    | some f =>
      by_cases q : f.1 < G last p + T.1
      · simp! only [aa,ng,kE,nh,fW,decide_eq_true q,tupW,ea]
        exact aw ⟨_,rfl,_,_,_,by rw [hc]; unfold bst; simp only [if_pos q]; rfl,rfl⟩
      · simp! only [aa,ng,kE,nh,fW,decide_eq_false q,tupW,ea]
        exact aw ⟨_,rfl,_,_,_,by rw [hc]; unfold bst; simp only [if_neg q]; rfl,rfl⟩
  · obtain ⟨a,b,c,rfl,rfl⟩ := I
    rw [List.length_map,List.take_length]
    rw [tK G nd]
    cases ((rest.map (cand G last rest)).foldl bst none) with
    | none =>
      simp! only [aa,kH,fW,tupW]
      exact aw ⟨rfl,rfl⟩
    | some f =>
      simp! only [aa,nh,fW,tupW]
      exact aw ⟨rfl,rfl⟩
noncomputable def setW' (s:List Int) : W := .tup (s.map W.int)
theorem r9 {N:Int}{m:Nat} (hN : N = (m:Int)) (m1 : 1 ≤ m) (m2 : m ≤ 10) (h:List Ob) : Ok (cE [.int N]) h fun w h' => w = .tl ((bsets (m - 1)).map setW') ∧ h' = h :=by
  have e0 : cE [.int N] = bd (dk [some (.int N),none,none]) finF := rfl
  rw [e0]
  unfold dk
  simp! only [aa,tupW,qi (show (-(2 ^ 62) : Int) ≤ 1 by decide) (show (1 : Int) < 2 ^ 62 by decide) (show (-(2 ^ 62) : Int) ≤ N by omega) (show N < 2 ^ 62 by omega)]
  have eN : (N - 1).toNat = m - 1 :=by omega
  refine da (I := fun i ρ h' => ∃ a,ρ = [some (.int N),some (.tl ((bsets i).map setW')),a] ∧ h' = h) ⟨_,rfl,rfl⟩ (fun _ _ _ _ => trivial) (fun i w ρ h1 hw I => ?_) fun ρ h1 I => ?_
  · obtain ⟨a,rfl,rfl⟩ := I
    obtain ⟨rfl,hi⟩ := bg _ _ _ _ hw
    rw [eN] at hi
    have bl : (bsets i).length ≤ 512 :=by
      rw [fH]
      exact Nat.pow_le_pow_right (by decide) (show i ≤ 9 by omega)
    refine ⟨_,rfl,?_⟩
    have gl : ∀ {α : Type} (q:M α),gd (((bsets i).map setW').length ≤ sizeLine) q = q := fun q => aq (by rw [List.length_map]; exact sz (by omega))
    simp! only [aa,gl]
    refine de (I := fun k a h' => h' = h1 ∧ a = (((bsets i).take k).map (· ++ [((i + 1 : Nat) : Int)])).map setW') ⟨rfl,rfl⟩ d0 (fun _ _ _ _ => trivial) (fun k w a h' hw I => ?_) fun a h' I => ?_
    · obtain ⟨rfl,rfl⟩ := I
      rw [List.getElem?_map] at hw
      obtain ⟨s,hs,rfl⟩ := Option.map_eq_some_iff.mp hw
      obtain ⟨r,rfl,_,lr,_⟩ := cX (List.mem_of_getElem? hs)
      refine ⟨_,rfl,?_⟩
      have ea : addW (setW' (0 :: r)) (.tup [.int (1 + (i:Int))]) = pr (setW' (0 :: r ++ [((i + 1 : Nat) : Int)])) :=by
        show addW (.tup (.int 0 :: r.map W.int)) (.tup [.int (1 + (i:Int))]) = _
        rw [addT _ _ _ (by rw [List.length_map]; show r.length + 1 ≤ 100; omega)]
        unfold setW'
        rw [List.map_append,List.map_cons]
        have : (1 : Int) + (i:Int) = ((i + 1 : Nat) : Int) :=by omega
        rw [this]; rfl
      simp! only [List.replicate,List.cons_append,List.nil_append,aa,tupW]
      rw [ea]
      refine aw ⟨rfl,?_⟩
      rw [aS hs,List.map_append,List.map_append]
      rfl
    · obtain ⟨rfl,rfl⟩ := I
      rw [List.length_map,List.take_length]
      simp! only [aa,gG _ _ (show ((bsets i).map setW').length + (((bsets i).map (· ++ [((i + 1 : Nat) : Int)])).map setW').length ≤ sizeLine by rw [List.length_map,List.length_map,List.length_map]; exact sz (by omega))]
      refine aw ⟨_,rfl,some (.int (1 + (i:Int))),?_,rfl⟩
      rw [bsets,List.map_append]
  · obtain ⟨a,rfl,rfl⟩ := I
    rw [aR,eN]
    simp!
    exact aw ⟨rfl,rfl⟩
theorem mP (x:Int) (r:List Int) : iV (.int x) (.tup (r.map W.int)) = pr (.bl (!decide (x ∈ r))) :=by
  funext h
  unfold iV
  have e : inB (.int x) (.tup (r.map W.int)) h = some (decide (x ∈ r)) :=by
    show (match vOf (.int x),vsOf (r.map W.int) with
      | some v,some vs => some (inV v vs)
      | _,_ => none) = _
    rw [kU (k := V.int) (fun a => rfl)]
    show some (inV (.int x) (r.map V.int)) = _
    congr 1
    unfold inV
    rw [Bool.eq_iff_iff,List.any_eq_true,decide_eq_true_eq]
    constructor
    · rintro ⟨v,hv,q⟩
      obtain ⟨y,hy,rfl⟩ := List.mem_map.mp hv
      have : y = x :=by simpa [eqV] using q
      subst this; exact hy
    · intro q
      exact ⟨.int x,List.mem_map.mpr ⟨x,q,rfl⟩,by simp [eqV]⟩
  rw [e]; rfl
structure TK (G:Int → Int → Int) (m i l : Nat) (ks : List PKy) (ws : List W) : Prop where
  len : ks.length = ws.length
  sz : ks.length ≤ i * 10 + l
  get : ∀ j r (x:Int),(bsets (m - 1))[j]? = some (0 :: r) → 0 ≤ x → x ∉ r → (j < i ∧ x < m ∨ j = i ∧ x < l) → atK ks ws (x,r) = some (tw (tT G x r))
theorem tz {h:List Ob}{P X : W}{bs : List B23}{cs : List Int}{m:Nat} (hp : ixW P (.int 1) = pr X) (hx : Lw h X (bs.map B23.w)) (hm : bs.length = m) (m1 : 1 ≤ m) (m2 : m ≤ 10) (hb : ∀ b ∈ bs,b.e.tos.length ≤ 6) (hc : (waysL (esOf bs)).length = cs.length) :
    Ok (g7 [P,.tl (cs.map W.int)]) h fun w h' => w = .tup ((0 :: (tT (gsum (zsL (esOf bs) cs)) 0 (upto (m - 1))).2).map W.int) ∧ Nw h h' :=by
  have e0 : g7 [P,.tl (cs.map W.int)] = bd (kL [some P,some (.tl (cs.map W.int)),none,none,none,none,none,none]) finF := rfl
  rw [e0]
  unfold kL
  obtain ⟨N,hN⟩ : ∃ N : Int,N = (m:Int) := ⟨_,rfl⟩
  simp! only [aa,hp]
  refine Lw.len_eq hx (N := N) (by rw [List.length_map,hm]; exact hN) ?_
  simp!
  refine aX (lT hp hx (by omega) hb hc) fun w h1 qq_ => ?_
  obtain ⟨jg,gk,gw,ew,D,GG⟩ := qq_
  subst ew
  generalize gsum (zsL (esOf bs) cs) = G at *
  simp!
  refine qN ?_
  simp!
  refine aX (r9 hN m1 m2 _) fun w h2 qq_ => ?_
  obtain ⟨ew,e2⟩ := qq_
  subst ew e2
  have jgl : jg < h1.length := cO D.new
  have eNn : N.toNat = m :=by omega
  have sl1 : ∀ r : List Int,slW (setW' (0 :: r)) (some 1) none = pr (.tup (r.map W.int)) := fun r => slos (os := 0 :: r) (by simp)
  simp! only [aa,ik]
  refine da (I := fun i ρ h' => ∃ a b c ks ws,ρ = [some P,some (.tl (cs.map W.int)),some (.int N),some (.loc jg),some (.loc h1.length),a,b,c] ∧ Nf h1 h' (.din false ks ws) ∧ TK G m i 0 ks ws) ⟨_,_,_,[],[],rfl,Nf.mk0,⟨rfl,Nat.zero_le _,fun j r x _ _ _ q => by omega⟩⟩ (fun _ _ _ _ => trivial) (fun i w ρ h2 hw I => ?_) fun ρ h2 I => ?_
  · obtain ⟨a,b,c,ks,ws,rfl,N2,T⟩ := I
    rw [List.getElem?_map] at hw
    obtain ⟨s,hs,rfl⟩ := Option.map_eq_some_iff.mp hw
    obtain ⟨r,rfl,nd,lr,qr⟩ := cX (List.mem_of_getElem? hs)
    have hi : i < 512 :=by
      have := (List.getElem?_eq_some_iff.mp hs).1
      rw [fH] at this
      exact Nat.lt_of_lt_of_le this (Nat.pow_le_pow_right (by decide) (show m - 1 ≤ 9 by omega))
    refine ⟨_,rfl,?_⟩
    simp! only [aa,sl1,ck (show (-(2 ^ 62) : Int) ≤ N by omega) (show N < 2 ^ 62 by omega)]
    refine j9 (I := fun l ρ h' => ∃ c ks ws,ρ = [some P,some (.tl (cs.map W.int)),some (.int N),some (.loc jg),some (.loc h1.length),some (setW' (0 :: r)),some (.tup (r.map W.int)),c] ∧ Nf h1 h' (.din false ks ws) ∧ TK G m i l ks ws) ⟨_,ks,ws,rfl,N2,T⟩ (fun _ _ _ _ => trivial) (fun l w ρ h3 hw I => ?_) fun ρ h3 I => ?_
    · obtain ⟨c,ks,ws,rfl,N3,T3⟩ := I
      obtain ⟨rfl,hl⟩ := bg _ _ _ _ hw
      rw [eNn] at hl
      refine ⟨_,rfl,?_⟩
      rw [Int.zero_add]
      simp! only [aa,mP]
      by_cases q : (l:Int) ∈ r
      · simp! only [aa,decide_eq_true q]
        refine aw ⟨_,rfl,_,ks,ws,rfl,N3,T3.len,Nat.le_succ_of_le T3.sz,fun j r' x e x0 xn z => ?_⟩
        rcases z with z | ⟨rfl,z⟩
        · exact T3.get j r' x e x0 xn (.inl z)
        · refine T3.get j r' x e x0 xn (.inr ⟨rfl,?_⟩)
          rw [hs] at e
          have : r' = r :=by injection e with e; injection e with _ e; exact e.symm
          subst this
          have : x ≠ l := fun y => xn (y ▸ q)
          omega
      · simp! only [aa,decide_eq_false q]
        have ha : ∀ p ∈ r,atK ks ws (p,wo r p) = some (tw (tT G p (wo r p))) := fun p hp => by
          obtain ⟨j,hj,ej⟩ := fQ hs hp
          have := qr p hp
          exact T3.get j (wo r p) p ej (by omega) (fun z => (wo_mem.mp z).2 rfl) (.inl ⟨hj,by omega⟩)
        refine aX (rY (jg := jg) (jt := h1.length) (last := (l:Int)) (N3.get D.new) GG N3.new nd (by omega) ha) fun w h4 qq_ => ?_
        obtain ⟨ew,e4⟩ := qq_
        subst ew e4
        simp! only [aa,tupW]
        rcases ep : putW ks ws ((l:Int),r) (tw (tT G l r)) with ⟨ks',ws'⟩
        obtain ⟨l1,l2,g⟩ := iA T3.len ep
        have kz := T3.sz
        refine uO N3.new (Nat.lt_of_le_of_lt (show _ ≤ 6000 by omega) (by decide)) ep ?_
        simp!
        refine aw ⟨_,rfl,_,ks',ws',rfl,N3.put _,l1,by omega,fun j r' x e x0 xn z => ?_⟩
        rw [g]
        by_cases y : ((l:Int),r) = (x,r')
        · rw [if_pos y]
          injection y with y1 y2
          rw [y1,y2]
        · rw [if_neg y]
          rcases z with z | ⟨rfl,z⟩
          · exact T3.get j r' x e x0 xn (.inl z)
          · refine T3.get j r' x e x0 xn (.inr ⟨rfl,?_⟩)
            rw [hs] at e
            have : r' = r :=by injection e with e; injection e with _ e; exact e.symm
            subst this
            have : x ≠ l := fun z => y (by rw [z])
            omega
    · obtain ⟨c,ks,ws,rfl,N3,T3⟩ := I
      rw [aR,eNn] at T3
      refine ⟨_,rfl,_,_,_,ks,ws,rfl,N3,T3.len,by have := T3.sz; omega,fun j r' x e x0 xn z => ?_⟩
      have : j < i + 1 ∧ x < m :=by
        rcases z with z | ⟨_,z⟩
        · exact z
        · omega
      refine T3.get j r' x e x0 xn ?_
      omega
  · obtain ⟨a,b,c,ks,ws,rfl,N2,T⟩ := I
    have etr : trW [.int 1,.int N] = pr (.tup ((upto (m - 1)).map W.int)) :=by
      show gd ((-(2 ^ 62) ≤ (1 : Int) ∧ (1 : Int) < 2 ^ 62 ∧ -(2 ^ 62) ≤ N ∧ N < 2 ^ 62) ∧ (N - 1).toNat ≤ sizeLine) (pr (W.tup (intsW 1 (N - 1).toNat))) = _
      rw [aq ⟨⟨by decide,by decide,by omega,by omega⟩,sz (by omega)⟩,show (N - 1).toNat = m - 1 by omega,nj]
    simp! only [aa,tupW,etr]
    obtain ⟨i,hi⟩ := List.getElem?_of_mem (jf (m - 1))
    have il := (List.getElem?_eq_some_iff.mp hi).1
    refine qL N2.new (T.get i (upto (m - 1)) 0 hi (Int.le_refl _) (fun z => by have := upto_mem.mp z; omega) (.inl ⟨by rw [List.length_map]; exact il,by omega⟩)) ?_
    have lt : (tT G 0 (upto (m - 1))).2.length ≤ 50 :=by
      have := mr G (upto (m - 1)).length 0 (upto (m - 1))
      rw [fU] at this
      unfold tT
      rw [fU]
      omega
    have ea : addW (.tup [.int 0]) (.tup ((tT G 0 (upto (m - 1))).2.map W.int)) = pr (.tup ((0 :: (tT G 0 (upto (m - 1))).2).map W.int)) := addT _ [] _ (by rw [List.length_map]; show 0 + _ ≤ 100; omega)
    simp! only [aa,kE,ea]
    exact aw ⟨rfl,D.nw.trans N2.nw⟩
end
set_option maxHeartbeats 1000000
section
section
variable {α β : Type}
noncomputable def fm (f:α → Int) (a:Option α) (c:α) : Option α := match a with
  | none => some c
  | some b => if f b < f c then some c else some b
noncomputable def FM (f:α → Int) (a:Option α) (l:List α) : Option α := l.foldl (fm f) a
theorem vm (f:α → Int) (a:Option α) (l m : List α) : FM f a (l ++ m) = FM f (FM f a l) m := List.foldl_append ..
noncomputable def cb (f:α → Int) (a b : Option α) : Option α := match b with
  | none => a
  | some c => fm f a c
theorem nE (f:α → Int) (a:Option α) : ∀ l : List α,FM f a l = cb f a (FM f none l)
  | [] => rfl
  | c :: l => by
    show FM f (fm f a c) l = cb f a (FM f (some c) l)
    rw [nE f (fm f a c) l,nE f (some c) l]
    cases FM f none l with
    | none => rfl
    | some d =>
      cases a with
      | none =>
        show fm f (some c) d = cb f none (fm f (some c) d)
        unfold fm
        dsimp only
        split <;> rfl
      | some b =>
        show fm f (fm f (some b) c) d = cb f (some b) (fm f (some c) d)
        unfold fm
        dsimp only
        by_cases h1 : f b < f c
        · rw [if_pos h1]
          by_cases h2 : f c < f d
          · rw [if_pos h2]
            dsimp only
            rw [if_pos h2]
            show _ = fm f (some b) d
            unfold fm
            dsimp only
            rw [if_pos (by omega)]
          · rw [if_neg h2]
            dsimp only
            rw [if_neg h2]
            show _ = fm f (some b) c
            unfold fm
            dsimp only
            rw [if_pos h1]
        · rw [if_neg h1]
          by_cases h2 : f c < f d
          · rw [if_pos h2]
            rfl
          · rw [if_neg h2]
            dsimp only
            show _ = fm f (some b) c
            unfold fm
            dsimp only
            rw [if_neg h1,if_neg (by omega)]
theorem rT (f:β → Int) (g:α → β) (a:Option α) : ∀ l : List α,FM f (a.map g) (l.map g) = (FM (fun x => f (g x)) a l).map g
  | [] => rfl
  | c :: l => by
    show FM f (fm f (a.map g) (g c)) (l.map g) = (FM _ (fm _ a c) l).map g
    rw [← rT f g (fm _ a c) l]
    congr 1
    cases a with
    | none => rfl
    | some b =>
      show (if f (g b) < f (g c) then some (g c) else some (g b)) = (if f (g b) < f (g c) then some c else some b).map g
      split <;> rfl
theorem mf {f g : α → Int} (d:Int) (h:∀ x,f x = d + g x) (a:Option α) : ∀ l : List α,FM f a l = FM g a l
  | [] => rfl
  | c :: l => by
    show FM f (fm f a c) l = FM g (fm g a c) l
    have : fm f a c = fm g a c :=by
      cases a with
      | none => rfl
      | some b =>
        show (if f b < f c then some c else some b) = if g b < g c then some c else some b
        rw [h b,h c]
        by_cases q : g b < g c
        · rw [if_pos q,if_pos (by omega)]
        · rw [if_neg q,if_neg (by omega)]
    rw [this]
    exact mf d h _ l
theorem oF (f:β → Int) (g:α → List β) (k:α → β) : ∀ (l:List α) (a:Option β),(∀ x ∈ l,FM f none (g x) = some (k x)) → FM f a (l.flatMap g) = FM f a (l.map k)
  | [],_,_ => rfl
  | x :: l,a,h => by
    rw [List.flatMap_cons,vm,nE f a (g x),h x List.mem_cons_self,List.map_cons]
    exact oF f g k l _ fun y hy => h y (List.mem_cons_of_mem _ hy)
theorem nD (f:α → Int) : ∀ (l:List α) (a:Option α) (x:α),FM f a l = some x → (∀ y,(a = some y ∨ y ∈ l) → f y ≤ f x) ∧ (a = some x ∨ x ∈ l)
  | [],a,x,h => by
    have h : a = some x := h
    subst h
    exact ⟨fun y hy => by rcases hy with hy | hy; cases hy; exact Int.le_refl _; exact absurd hy List.not_mem_nil,.inl rfl⟩
  | c :: l,a,x,h => by
    have h : FM f (fm f a c) l = some x := h
    obtain ⟨h1,h2⟩ := nD f l _ x h
    have k : ∃ d,fm f a c = some d ∧ f c ≤ f d ∧ (∀ b,a = some b → f b ≤ f d) ∧ (d = c ∨ a = some d) :=by
      cases a with
      | none => exact ⟨c,rfl,Int.le_refl _,(fun b hb => by cases hb),.inl rfl⟩
      | some b =>
        show ∃ d,(if f b < f c then some c else some b) = some d ∧ _
        by_cases q : f b < f c
        · exact ⟨c,if_pos q,Int.le_refl _,(fun b' hb => by cases hb; omega),.inl rfl⟩
        · exact ⟨b,if_neg q,by omega,(fun b' hb => by cases hb; exact Int.le_refl _),.inr rfl⟩
    obtain ⟨d,e,kc,ka,kd⟩ := k
    have dx := h1 d (.inl e)
    refine ⟨fun y hy => ?_,?_⟩
    · rcases hy with hy | hy
      · have := ka y hy; omega
      · rcases List.mem_cons.mp hy with rfl | hy
        · omega
        · exact h1 y (.inr hy)
    · rcases h2 with h2 | h2
      · rw [e] at h2
        cases h2
        rcases kd with rfl | kd
        · exact .inr List.mem_cons_self
        · exact .inl kd
      · exact .inr (List.mem_cons_of_mem _ h2)
end
noncomputable def prm : Nat → List Int → List (List Int)
  | 0,_ => [[]]
  | n + 1,rest => rest.flatMap fun p => (prm n (wo rest p)).map (p :: ·)
theorem lv : ∀ {n:Nat}{rest t : List Int},rest.Nodup → rest.length = n → t ∈ prm n rest → t.Perm rest
  | 0,rest,t,_,hl,h => by
    rw [List.eq_nil_of_length_eq_zero hl]
    rw [prm,List.mem_singleton] at h
    rw [h]
  | n + 1,rest,t,nd,hl,h => by
    rw [prm] at h
    obtain ⟨p,hp,h⟩ := List.mem_flatMap.mp h
    obtain ⟨s,hs,rfl⟩ := List.mem_map.mp h
    exact ((lv (nF nd) (by have := iE nd hp; omega) hs).cons p).trans (d4 nd hp)
theorem nR : ∀ {n:Nat}{rest t : List Int},rest.Nodup → rest.length = n → t.Perm rest → t ∈ prm n rest
  | 0,rest,t,_,hl,h => by
    rw [List.eq_nil_of_length_eq_zero hl] at h
    rw [h.eq_nil,prm]
    exact List.mem_singleton.mpr rfl
  | n + 1,rest,t,nd,hl,h => by
    cases t with
    | nil => have := h.length_eq; rw [hl] at this; cases this
    | cons p t =>
      have hp : p ∈ rest := h.subset List.mem_cons_self
      rw [prm]
      refine List.mem_flatMap.mpr ⟨p,hp,List.mem_map.mpr ⟨t,nR (nF nd) (by have := iE nd hp; omega) ?_,rfl⟩⟩
      exact (h.trans (d4 nd hp).symm).cons_inv
theorem rV (f:List Int → Int) : ∀ (l:List (Int × List Int)) (a:Option (Int × List Int)),(∀ c ∈ l,f c.2 = c.1) → (∀ c,a = some c → f c.2 = c.1) → (l.foldl bst a).map Prod.snd = FM f (a.map Prod.snd) (l.map Prod.snd) ∧ ∀ c,l.foldl bst a = some c → f c.2 = c.1
  | [],a,_,ha => ⟨rfl,ha⟩
  | c :: l,a,h,ha => by
    have e : (bst a c).map Prod.snd = fm f (a.map Prod.snd) c.2 :=by
      cases a with
      | none => rfl
      | some b =>
        show (if b.1 < c.1 then some c else some b).map Prod.snd = if f b.2 < f c.2 then some c.2 else some b.2
        rw [ha b rfl,h c List.mem_cons_self]
        split <;> rfl
    have k := rV f l (bst a c) (fun d hd => h d (List.mem_cons_of_mem _ hd)) fun d hd => by
      cases a with
      | none => cases hd; exact h c List.mem_cons_self
      | some b =>
        have hd : (if b.1 < c.1 then some c else some b) = some d := hd
        split at hd
        · cases hd; exact h c List.mem_cons_self
        · cases hd; exact ha _ rfl
    refine ⟨?_,k.2⟩
    show (l.foldl bst (bst a c)).map Prod.snd = FM f (fm f (a.map Prod.snd) c.2) (l.map Prod.snd)
    rw [← e]
    exact k.1
theorem oR (G:Int → Int → Int) (a b : Int) (l:List Int) : psum G (a :: b :: l) = G a b + psum G (b :: l) := rfl
theorem ma {c:Int × List Int} : ∀ (l:List (Int × List Int)) (a:Option (Int × List Int)),(a ≠ none ∨ l ≠ []) → ∃ d,l.foldl bst a = some d
  | [],a,h => by
    cases a with
    | none => rcases h with h | h <;> exact absurd rfl h
    | some d => exact ⟨d,rfl⟩
  | c' :: l,a,h => by
    rw [List.foldl_cons]
    refine ma (c := c) l _ (.inl ?_)
    cases a with
    | none => exact fun z => by cases z
    | some b =>
      show (if b.1 < c'.1 then some c' else some b) ≠ none
      split <;> simp
theorem iK (G:Int → Int → Int) : ∀ (n:Nat) (last : Int) (rest : List Int),rest.Nodup → rest.length = n →
    FM (fun t => psum G (last :: t)) none (prm n rest) = some (tT G last rest).2 ∧ psum G (last :: (tT G last rest).2) = (tT G last rest).1
  | 0,last,rest,nd,hl => by
    have := List.eq_nil_of_length_eq_zero hl
    subst this
    exact ⟨rfl,rfl⟩
  | n + 1,last,rest,nd,hl => by
    have ih := fun p (hp : p ∈ rest) => iK G n p (wo rest p) (nF nd) (by have := iE nd hp; omega)
    have hc : ∀ c ∈ rest.map (cand G last rest),psum G (last :: c.2) = c.1 := fun c hc => by
      obtain ⟨p,hp,rfl⟩ := List.mem_map.mp hc
      show psum G (last :: p :: (tT G p (wo rest p)).2) = G last p + (tT G p (wo rest p)).1
      rw [oR,(ih p hp).2]
    obtain ⟨k1,k2⟩ := rV (fun t => psum G (last :: t)) (rest.map (cand G last rest)) none hc (fun c z => by cases z)
    obtain ⟨d,hd⟩ := ma (c := (0,[])) (rest.map (cand G last rest)) none (.inr fun z => by
      have := congrArg List.length z
      rw [List.length_map,hl] at this
      cases this)
    have et : tT G last rest = d :=by rw [tK G nd,hd]; rfl
    refine ⟨?_,by rw [et]; exact k2 d hd⟩
    rw [et,prm,oF (k := fun p => p :: (tT G p (wo rest p)).2)]
    · rw [hd] at k1
      have k1 : some d.2 = FM (fun t => psum G (last :: t)) none ((rest.map (cand G last rest)).map Prod.snd) := k1
      rw [k1,List.map_map]
      rfl
    · intro p hp
      have := rT (fun t => psum G (last :: t)) (p :: ·) none (prm n (wo rest p))
      rw [show (none : Option (List Int)).map (p :: ·) = none from rfl] at this
      rw [this,mf (f := fun x => psum G (last :: p :: x)) (G last p) (g := fun t => psum G (p :: t)) (fun x => rfl),(ih p hp).1]
      rfl
theorem ij (G:Int → Int → Int) {last : Int}{rest : List Int} (nd : rest.Nodup) : (tT G last rest).2.Perm rest :=by
  obtain ⟨h1,_⟩ := iK G rest.length last rest nd rfl
  obtain ⟨_,h3⟩ := nD _ _ _ _ h1
  rcases h3 with h3 | h3
  · cases h3
  · exact lv nd rfl h3
theorem qa (G:Int → Int → Int) {last : Int}{rest t : List Int} (nd : rest.Nodup) (p:t.Perm rest) : psum G (last :: t) ≤ psum G (last :: (tT G last rest).2) :=by
  obtain ⟨h1,_⟩ := iK G rest.length last rest nd rfl
  exact (nD _ _ _ _ h1).1 t (.inr (nR nd rfl p))
end
set_option maxHeartbeats 1000000
section
theorem gI (ns : List Int) : sumW [.tl (ns.map W.int)] = pr (.int ns.sum) :=by
  show (match optL iOf (ns.map W.int) with
    | some ns => (pr (W.int ns.sum) : M W)
    | none => no) = _
  rw [show optL iOf (ns.map W.int) = some ns from by
    have := dS (f := iOf) (g := W.int) (k := fun i => i) (fun a => rfl) ns
    rw [this]; simp]
theorem tq {h:List Ob}{P x : W}{bs : List B23}{cs os : List Int} (hp : ixW P (.int 1) = pr x) (hx : Lw h x (bs.map B23.w)) (hl : bs.length ≤ 10) (hb : ∀ b ∈ bs,b.e.tos.length ≤ 6) (hc : (waysL (esOf bs)).length = cs.length) (o1 : 1 ≤ os.length) (o2 : os.length ≤ 100) (nd : os.Nodup) :
    Ok (g6 [P,.tup (os.map W.int),.tl (cs.map W.int)]) h fun w h' => w = .int (paid os (zsL (esOf bs) cs)) ∧ Nw h h' :=by
  have e0 : g6 [P,.tup (os.map W.int),.tl (cs.map W.int)] = bd (kK [some (P),some (.tup (os.map W.int)),some (.tl (cs.map W.int)),none]) finF := rfl
  rw [e0]
  unfold kK
  simp!
  refine aX (lT hp hx hl hb hc) fun w h1 qq_ => ?_
  obtain ⟨j,ks,ws,ew,D,G⟩ := qq_
  subst ew
  have gl : ∀ {α : Type} (q:M α),gd ((zipW (os.map W.int) (os.tail.map W.int)).length ≤ sizeLine) q = q := fun q => aq (by
    rw [kT,List.length_zipWith]; exact sz (by omega))
  simp! only [aa,gI,slos o1,qe,gl]
  refine de (I := fun i a h' => h' = h1 ∧ a = ((os.zipWith (gsum (zsL (esOf bs) cs)) os.tail).take i).map W.int) ⟨rfl,rfl⟩ d0 (fun _ _ _ _ => ⟨trivial,trivial⟩) (fun i w a h' hw I => ?_) fun a h' I => ?_
  · obtain ⟨rfl,rfl⟩ := I
    obtain ⟨a,b,ha,hb,rfl⟩ := oG hw
    refine ⟨[some (.tup [.int a,.int b]),none,some (P),some (.tup (os.map W.int)),some (.tl (cs.map W.int)),some (.loc j)],rfl,?_⟩
    simp! only [aa,mGetT]
    refine gf D.new ?_
    simp!
    refine vO (gC D.new rfl) ⟨rfl,?_⟩
    rw [G.get a b,aS (x := gsum (zsL (esOf bs) cs) a b) (by rw [List.getElem?_zipWith,ha,hb]),List.map_append]
    rfl
  · obtain ⟨rfl,rfl⟩ := I
    rw [kT,List.length_zipWith,← List.length_zipWith (f := gsum (zsL (esOf bs) cs)),List.take_length]
    simp! only [aa,gI]
    exact aw ⟨by rw [lx,j4 nd hc],D.nw⟩
end
set_option maxHeartbeats 1000000
section
section
variable {β : Type}{h:List Ob}{k:W → M β}{Q:β → List Ob → Prop}{j:Nat}
theorem uT {ns : List Int} (e:h[j]? = some (.lst (ns.map W.int))) (q:Ok (k (.bl ns.isEmpty)) h Q) : Ok (bd (eqW (.loc j) (.tl [])) k) h Q :=by
  refine aY (a := .bl ns.isEmpty) (h' := h) ?_ q
  have o1 : optL (dataH h 49) (ns.map W.int) = some (ns.map PyData.int) := dS (f := dataH h 49) (g := W.int) (k := PyData.int) (fun a => rfl) ns
  have x1 : dataH h 50 (.loc j) = some (.list (ns.map PyData.int)) :=by
    show (match h[j]? with
      | some (.lst l) => (optL (dataH h 49) l).map PyData.list
      | _ => none) = _
    simp only [e,o1]; rfl
  have ca : PyData.canLayAll0 (ns.map PyData.int) = true := rN ns fun z hz => by rw [PyData.canLay0]
  have e2 : eqB (.loc j) (.tl []) h = some ns.isEmpty :=by
    show (match dataH h 50 (.loc j),dataH h 50 (.tl []) with
      | some d,some e => if d.canLay0 = true ∧ e.canLay0 = true then some (PyData.eqv d e) else none
      | _,_ => none) = _
    rw [x1,show dataH h 50 (.tl []) = some (.list []) from rfl]
    show (if (PyData.list (ns.map PyData.int)).canLay0 = true ∧ (PyData.list []).canLay0 = true then some (PyData.eqv (.list (ns.map PyData.int)) (.list [])) else none) = _
    rw [if_pos ⟨by rw [PyData.canLay0]; exact ca,by rw [PyData.canLay0,PyData.canLayAll0]⟩,PyData.eqv]
    cases ns with
    | nil => rw [List.map_nil,PyData.eqvAll]; rfl
    | cons a b => rw [List.map_cons,PyData.eqvAll]; rfl
  unfold eqW
  rw [e2]
end
structure Dk (h:List Ob) (j j0 c : Nat) : Prop where
  ex : ∃ (n:Nat) (cells : List Int) (bs : List Bool),h[j]? = some (.lst [.loc j0,.int (n:Int),.tl (bs.map W.bl)]) ∧ h[j0]? = some (.lst (cells.map W.int)) ∧ bs.length = cells.length ∧ n ≤ c
  ne : j ≠ j0
structure Kd (j j0 : Nat) (h h' : List Ob) : Prop where
  le : h.length ≤ h'.length
  eq : ∀ i,i < h.length → i ≠ j → i ≠ j0 → h'[i]? = h[i]?
theorem Kd.trans {j j0 : Nat}{a b c : List Ob} (x:Kd j j0 a b) (y:Kd j j0 b c) : Kd j j0 a c := ⟨Nat.le_trans x.le y.le,fun i hi h1 h2 => (y.eq i (Nat.lt_of_lt_of_le hi x.le) h1 h2).trans (x.eq i hi h1 h2)⟩
theorem Kd.of_nw {j j0 : Nat}{a b : List Ob} (x:Nw a b) : Kd j j0 a b := ⟨x.le,fun i hi _ _ => x.eq i hi⟩
theorem Dk.lt {h:List Ob}{j j0 c : Nat} (D:Dk h j j0 c) : j < h.length ∧ j0 < h.length :=by
  obtain ⟨n,cells,bs,e1,e2,_,_⟩ := D.ex
  exact ⟨cO e1,cO e2⟩
theorem Dk.nw {h h' : List Ob}{j j0 c : Nat} (D:Dk h j j0 c) (x:Nw h h') : Dk h' j j0 c :=by
  obtain ⟨⟨n,cells,bs,e1,e2,e3,e4⟩,ne⟩ := D
  exact ⟨⟨n,cells,bs,x.get e1,x.get e2,e3,e4⟩,ne⟩
theorem Dk.up {h:List Ob}{j j0 c d : Nat} (D:Dk h j j0 c) (x:c ≤ d) : Dk h j j0 d :=by
  obtain ⟨⟨n,cells,bs,e1,e2,e3,e4⟩,ne⟩ := D
  exact ⟨⟨n,cells,bs,e1,e2,e3,Nat.le_trans e4 x⟩,ne⟩
theorem Dk.put {h:List Ob}{j j0 c i : Nat}{b:Ob} (D:Dk h j j0 c) (h1 : i ≠ j) (h2 : i ≠ j0) : Dk (h.set i b) j j0 c :=by
  obtain ⟨⟨n,cells,bs,e1,e2,e3,e4⟩,ne⟩ := D
  exact ⟨⟨n,cells,bs,by rw [List.getElem?_set_ne h1]; exact e1,by rw [List.getElem?_set_ne h2]; exact e2,e3,e4⟩,ne⟩
theorem kN {h:List Ob}{j j0 c : Nat}{m:Int} (D:Dk h j j0 c) (hc : c ≤ 1000000) (hm : 0 < m) (hz : m < 2 ^ 200) : Ok (au [.loc j,.int m]) h fun w h' => ∃ v : Int,w = .int v ∧ 0 ≤ v ∧ v < m ∧ Dk h' j j0 (c + 1) ∧ Kd j j0 h h' ∧ h'.length = h.length :=by
  obtain ⟨⟨n,cells,bs,e1,e2,e3,e4⟩,ne⟩ := D
  have e0 : au [.loc j,.int m] = bd (eF [some (.loc j),some (.int m),none,none,none,none]) finF := rfl
  rw [e0]
  unfold eF
  simp!
  refine eK e1 (w := .int (n:Int)) rfl ?_
  simp!
  refine tR e1 (i := 1) rfl ?_
  have g1 : (h.set j (.lst ([.loc j0,.int (n:Int),.tl (bs.map W.bl)].set 1 (.int ((n:Int) + 1)))))[j]? = some (.lst [.loc j0,.int ((n + 1 : Nat) : Int),.tl (bs.map W.bl)]) :=by rw [dG e1]; rfl
  have g2 : (h.set j (.lst ([.loc j0,.int (n:Int),.tl (bs.map W.bl)].set 1 (.int ((n:Int) + 1)))))[j0]? = some (.lst (cells.map W.int)) :=by rw [List.getElem?_set_ne ne]; exact e2
  have g3 : Kd j j0 h (h.set j (.lst ([.loc j0,.int (n:Int),.tl (bs.map W.bl)].set 1 (.int ((n:Int) + 1))))) := ⟨by rw [List.length_set]; exact Nat.le_refl _,fun i hi a b => by rw [List.getElem?_set_ne (Ne.symm a)]⟩
  have g4 : (h.set j (.lst ([.loc j0,.int (n:Int),.tl (bs.map W.bl)].set 1 (.int ((n:Int) + 1))))).length = h.length := List.length_set ..
  generalize h.set j (.lst ([.loc j0,.int (n:Int),.tl (bs.map W.bl)].set 1 (.int ((n:Int) + 1)))) = h1 at *
  have D1 : Dk h1 j j0 (c + 1) := ⟨⟨n + 1,cells,bs,g1,g2,e3,by omega⟩,ne⟩
  obtain ⟨A,hA⟩ : ∃ A : Int,A = (n:Int) := ⟨_,rfl⟩
  have a0 : 0 ≤ A :=by omega
  have a1 : A ≤ 1000000 :=by omega
  rw [← hA]
  simp!
  refine eK g1 (w := .loc j0) rfl ?_
  simp!
  refine uT g2 ?_
  cases cells with
  | nil =>
    simp! only [aa,List.isEmpty_nil,cB (ko (i := A) (j := A) (by omega) (by omega)),cB (iW (i := A * A) (j := 7) (by decide) (by decide)),gZ (show (0 : Int) < 3 by decide) (by decide),dC hm]
    exact aw ⟨_,rfl,Int.emod_nonneg _ (by omega),Int.emod_lt_of_pos _ hm,D1,g3,g4⟩
  | cons c0 cs =>
    have hL : ∃ L : Int,L = (((c0 :: cs).map W.int).length : Int) ∧ 0 < L ∧ L = ((c0 :: cs).length : Int) := ⟨_,rfl,by rw [List.length_map,List.length_cons]; omega,by rw [List.length_map]⟩
    obtain ⟨L,hL,L0,hL2⟩ := hL
    generalize hcl : c0 :: cs = cells at *
    have ce : cells.isEmpty = false :=by rw [← hcl]; rfl
    simp! only [aa,ce]
    refine eK g1 (w := .loc j0) rfl ?_
    simp!
    refine Lw.len_eq (.inr ⟨j0,rfl,g2⟩) hL ?_
    have p0 : 0 ≤ A % L := Int.emod_nonneg _ (by omega)
    have p1 : A % L < L := Int.emod_lt_of_pos _ L0
    simp! only [aa,dC L0]
    generalize A % L = P at *
    have pl : P.toNat < cells.length :=by omega
    have ec : atI (cells.map W.int) P = some (.int (cells[P.toNat]'pl)) := dl p0 (by rw [List.getElem?_map,List.getElem?_eq_getElem pl]; rfl)
    have eb : atI (bs.map W.bl) P = some (.bl (bs[P.toNat]'(by omega))) := dl p0 (by rw [List.getElem?_map,List.getElem?_eq_getElem (by omega)]; rfl)
    refine eK g1 (w := .tl (bs.map W.bl)) rfl ?_
    simp! only [aa,dP eb]
    generalize cells[P.toNat]'pl = C at *
    cases bs[P.toNat]'(by omega) with
    | true =>
      simp!
      refine eK g1 (w := .loc j0) rfl ?_
      simp!
      refine eK g2 ec ?_
      simp! only [aa,dC hm]
      refine eK g1 (w := .loc j0) rfl ?_
      simp!
      refine eK g2 ec ?_
      simp! only [aa,gZ hm hz]
      refine eK g1 (w := .loc j0) rfl ?_
      simp!
      refine tR g2 (i := P.toNat) (by unfold ixN; rw [if_pos p0,List.length_map,if_pos (by omega)]) ?_
      simp!
      refine aw ⟨_,rfl,Int.emod_nonneg _ (by omega),Int.emod_lt_of_pos _ hm,⟨⟨n + 1,cells.set P.toNat (C / m),bs,?_,?_,by rw [List.length_set]; exact e3,by omega⟩,ne⟩,g3.trans ⟨by rw [List.length_set]; exact Nat.le_refl _,fun i hi a b => by rw [List.getElem?_set_ne (Ne.symm b)]⟩,by rw [List.length_set]; exact g4⟩
      · rw [List.getElem?_set_ne (Ne.symm ne)]; exact g1
      · rw [dG g2,List.map_set]
    | false =>
      simp!
      refine eK g1 (w := .loc j0) rfl ?_
      simp!
      refine eK g2 ec ?_
      simp! only [aa,dC (show (0 : Int) < 2147483629 by decide),cB (ko (i := 62233) (j := A + 1) (by decide) (by decide)),cB (iW (i := C % 2147483629 + 62233 * (A + 1)) (j := 48271) (by decide) (by decide))]
      generalize hx : (C % 2147483629 + 62233 * (A + 1)) * 48271 % 2147483629 = x
      have b0 : 0 ≤ x :=by rw [← hx]; exact Int.emod_nonneg _ (by decide)
      have b1 : x < 2147483629 :=by rw [← hx]; exact Int.emod_lt_of_pos _ (by decide)
      simp! only [aa,cB (ko (i := x) (j := x) (by omega) (by omega)),dC (show (0 : Int) < 2147483587 by decide),cB (iW (i := x * x % 2147483587) (j := 69621) (by decide) (by decide)),dC (show (0 : Int) < 2147483579 by decide),gZ (show (0 : Int) < 8 by decide) (by decide),dC hm]
      exact aw ⟨_,rfl,Int.emod_nonneg _ (by omega),Int.emod_lt_of_pos _ hm,D1,g3,g4⟩
theorem dD {β : Type}{h:List Ob}{k:W → M β}{Q:β → List Ob → Prop}{j j0 c : Nat}{m:Int} (D:Dk h j j0 c) (hc : c ≤ 1000000) (hm : 0 < m) (hz : m < 2 ^ 200) (q:∀ v h',0 ≤ v → v < m → Dk h' j j0 (c + 1) → Kd j j0 h h' → Ok (k (.int v)) h' Q) : Ok (bd (au [.loc j,.int m]) k) h Q :=
  aX (kN D hc hm hz) fun w h' ⟨v,e,a,b,D',K,_⟩ => by subst e; exact q v h' a b D' K
theorem tf (ns : List Int) (h:List Ob) : Ok (cQ [.cl (ns.map W.int)]) h fun w h' => ∃ j j0,w = .loc j ∧ Dk h' j j0 0 :=by
  have e0 : cQ [.cl (ns.map W.int)] = bd (eG [some (.cl (ns.map W.int)),none]) finF := rfl
  rw [e0]
  unfold eG
  have cm := iy W.int ns none (some 63)
  have c1 := pM ns
  generalize cutW ns none (some 63) = cs at *
  have gl : ∀ {α : Type} (q:M α),gd ((cs.map W.int).length ≤ sizeLine) q = q := fun q => aq (by rw [List.length_map]; exact sz (by omega))
  simp! only [aa,cm,ik,gl]
  refine de (I := fun i a h' => h' = h ∧ ∃ bs : List Bool,a = bs.map W.bl ∧ bs.length = i) ⟨rfl,[],rfl,rfl⟩ d0 (fun _ _ _ _ => trivial) (fun i w a h' hw I => ?_) fun a h' I => ?_
  · obtain ⟨rfl,bs,rfl,rfl⟩ := I
    rw [List.getElem?_map] at hw
    obtain ⟨x,hx,rfl⟩ := Option.map_eq_some_iff.mp hw
    refine ⟨_,rfl,?_⟩
    simp! only [List.replicate,List.cons_append,List.nil_append,aa,fZ cp18]
    exact aw ⟨rfl,bs ++ [_],by rw [List.map_append]; rfl,by simp⟩
  · obtain ⟨rfl,bs,rfl,lb⟩ := I
    rw [List.length_map] at lb
    simp! only [aa,cm,ik,gl]
    refine de (I := fun i a h2 => h2 = h' ∧ ∃ ds : List Int,a = ds.map W.int ∧ ds.length = i) ⟨rfl,[],rfl,rfl⟩ d0 (fun _ _ _ _ => trivial) (fun i w a h2 hw I => ?_) fun a h2 I => ?_
    · obtain ⟨eh,ds,rfl,rfl⟩ := I
      subst eh
      rw [List.getElem?_map] at hw
      obtain ⟨x,hx,rfl⟩ := Option.map_eq_some_iff.mp hw
      refine ⟨_,rfl,?_⟩
      have gi : ∀ b : Bool,intW [.bl b] = pr (.int (if b then 1 else 0)) := fun b => rfl
      simp! only [List.replicate,List.cons_append,List.nil_append,aa,fZ cp18,gi,cB (ko (i := 10 ^ (18 : Int).toNat) (j := (if decide (10 ^ (18 : Int).toNat ≤ x) then 1 else 0 : Int)) (by decide) (by decide))]
      exact aw ⟨rfl,ds ++ [_],by rw [List.map_append]; rfl,by simp⟩
    · obtain ⟨eh,ds,rfl,ld⟩ := I
      subst eh
      rw [List.length_map] at ld
      simp!
      refine gQ ?_
      simp!
      refine gQ ?_
      simp!
      refine aw ⟨_,h2.length,rfl,⟨0,ds,bs,ef,sY ef,by omega,Nat.le_refl _⟩,?_⟩
      rw [List.length_append]
      show h2.length + 1 ≠ h2.length
      omega
end
set_option maxHeartbeats 1000000
section
theorem vP : PyData.strOk "if" = true :=by decide +kernel
theorem vQ : PyData.strOk "go" = true :=by decide +kernel
theorem qK : PyData.strOk "table" = true :=by decide +kernel
theorem sJ : PyData.strOk "stop" = true :=by decide +kernel
theorem uQ : PyData.strOk "say" = true :=by decide +kernel
theorem E17.Good.pd {m:Int}{e:E17} (g:e.Good m) : Pd 10 e.w :=by
  cases e with
  | go t => exact pdT (by simp) (aL (.str vQ) (aL .int d7))
  | iff s a b x y => exact pdT (by simp) (aL (.str vP) (aL (.str g.2.2.2.2) (aL (g.2.2.1.up (by decide)) (aL (g.2.2.2.1.up (by decide)) (aL .int (aL .int d7))))))
  | table e ts => exact pdT (by simp) (aL (.str qK) (aL (g.2.2.up (by decide)) (aL (pdT (by rw [List.length_map]; have := g.1; omega) (nS ts (n := 7))) d7)))
  | stop => exact pdT (by simp) (aL (.str sJ) d7)
structure BG (m:Int) (b:B23) : Prop where
  g : b.e.Good m
  pd : Pd 12 b.w
theorem BG.mk' {m:Int}{nm : Str}{sts : List W}{e:E17} (g:e.Good m) (hn : PyData.strOk nm = true) (hs : sts.length ≤ 8) (hp : ∀ x ∈ sts,Pd 9 x) : BG m ⟨nm,sts,e⟩ :=
  ⟨g,pdT (by simp) (aL (.str hn) (aL (.lst (Nat.le_trans hs (by decide)) fun x hx => (hp x hx).up (by decide)) (aL (g.pd.up (by decide)) d7)))⟩
theorem BG.six {m:Int}{b:B23} (g:BG m b) : b.e.tos.length ≤ 6 := g.g.six
end
set_option maxHeartbeats 1000000
section
theorem vB {v:Int} (h0 : 0 ≤ v) (h1 : v < 2) : ∃ s : Str,ixW (.str "<=") (.int v) = pr (.str s) ∧ PyData.strOk s = true :=by
  have : v = 0 ∨ v = 1 :=by omega
  rcases this with rfl | rfl
  · exact ⟨_,kG (by decide +kernel) rfl,by decide +kernel⟩
  · exact ⟨_,kG (by decide +kernel) rfl,by decide +kernel⟩
theorem t7 {l:List Int} (h:l.length = 2) : ∃ x y,l = [x,y] :=by
  match l,h with
  | [x,y],_ => exact ⟨x,y,rfl⟩
theorem ve {h:List Ob}{j j0 c : Nat}{m:Int} (hm : 0 < m) (hz : m ≤ 100) (D:Dk h j j0 c) (hc : c ≤ 900000) : Ok (dw [.loc j,.int m]) h fun w h' => ∃ e : E17,w = e.w ∧ e.Good m ∧ Dk h' j j0 (c + 10) ∧ Kd j j0 h h' :=by
  have e0 : dw [.loc j,.int m] = bd (fE [some (.loc j),some (.int m),none,none]) finF := rfl
  have hz' : m < 2 ^ 200 := Int.lt_of_le_of_lt hz (by decide)
  rw [e0]
  unfold fE
  simp!
  refine dD D (by omega) (by decide) (by decide) fun kind h1 k0 k8 D1 K1 => ?_
  have gl : ∀ {α : Type} (q:M α),gd ((intsW 0 (2 : Int).toNat).length ≤ sizeLine) q = q := fun q => aq (by rw [aR]; exact sz (by decide))
  simp! only [aa,ck (show (-(2 ^ 62) : Int) ≤ 2 by decide) (show (2 : Int) < 2 ^ 62 by decide),gl]
  refine de (I := fun i a h' => ∃ ts : List Int,a = ts.map W.int ∧ ts.length = i ∧ (∀ t ∈ ts,0 ≤ t ∧ t < m) ∧ i ≤ 2 ∧ Dk h' j j0 (c + 1 + i) ∧ Kd j j0 h h') ⟨[],rfl,rfl,fun t ht => absurd ht List.not_mem_nil,Nat.zero_le _,D1,K1⟩ d0 (fun _ _ _ _ => trivial) (fun i w a h' hw I => ?_) fun a h' I => ?_
  · obtain ⟨ts,rfl,rfl,q,l2,D2,K2⟩ := I
    obtain ⟨_,hi⟩ := bg _ _ _ _ hw
    have hi : ts.length < 2 := hi
    refine ⟨_,rfl,?_⟩
    simp! only [List.replicate,List.cons_append,List.nil_append,aa]
    refine Ok.imp (kN D2 (by omega) hm hz') fun w h6 qz => ?_
    obtain ⟨v,e,v0,v1,D6,K6,_⟩ := qz
    refine ⟨ts ++ [v],by rw [e,List.map_append]; rfl,by simp,fun t ht => ?_,by omega,D6,K2.trans K6⟩
    rcases List.mem_append.mp ht with ht | ht
    · exact q t ht
    · rw [List.mem_singleton.mp ht]; exact ⟨v0,v1⟩
  · obtain ⟨ts,rfl,e,q,l2,D2,K2⟩ := I
    rw [aR] at e D2
    obtain ⟨x,y,rfl⟩ := t7 e
    have gx := q x List.mem_cons_self
    have gy := q y (List.mem_cons_of_mem _ List.mem_cons_self)
    have D2 : Dk h' j j0 (c + 3) := D2
    have i0 : ixW (.tl ([x,y].map W.int)) (.int 0) = pr (.int x) := dP rfl
    have i1 : ixW (.tl ([x,y].map W.int)) (.int 1) = pr (.int y) := dP rfl
    generalize W.tl ([x,y].map W.int) = GW at *
    by_cases c3 : kind < 3
    · simp! only [aa,decide_eq_true c3,tupW,i0]
      exact aw ⟨.go x,rfl,gx,D2.up (by omega),K2⟩
    by_cases c6 : kind < 6
    · simp! only [aa,decide_eq_false c3,decide_eq_true c6,tupW,i0,i1]
      refine dD D2 (by omega) (by decide) (by decide) fun v h4 v0 v1 D4 K4 => ?_
      obtain ⟨s,es,sk⟩ := vB v0 v1
      simp! only [aa,es,tupW]
      refine dD D4 (by omega) (by decide) (by decide) fun n h5 n0 n1 D5 K5 => ?_
      simp! only [aa,tupW,i0,i1]
      exact aw ⟨.iff s (.tup [.str "number",.int 1]) (.tup [.str "number",.int n]) x y,rfl,⟨gx,gy,pd2i fq,pd2i fq,sk⟩,D5.up (by omega),(K2.trans K4).trans K5⟩
    by_cases c7 : kind = 6
    · simp! only [aa,decide_eq_false c3,decide_eq_false c6,decide_eq_true c7,tupW]
      refine dD D2 (by omega) (by decide) (by decide) fun n h4 n0 n1 D4 K4 => ?_
      have K14 := K2.trans K4
      have gl : ∀ {α : Type} (q:M α),gd ((intsW 0 (1 + n).toNat).length ≤ sizeLine) q = q := fun q => aq (by rw [aR]; exact sz (by omega))
      simp! only [aa,ck (show (-(2 ^ 62) : Int) ≤ 1 + n by omega) (show 1 + n < 2 ^ 62 by omega),gl]
      refine de (I := fun i a h' => ∃ ts : List Int,a = ts.map W.int ∧ ts.length = i ∧ (∀ t ∈ ts,0 ≤ t ∧ t < m) ∧ Dk h' j j0 (c + 4 + i) ∧ Kd j j0 h h') ⟨[],rfl,rfl,fun t ht => absurd ht List.not_mem_nil,D4,K14⟩ d0 (fun _ _ _ _ => trivial) (fun i w a h' hw I => ?_) fun a h' I => ?_
      · obtain ⟨ts,rfl,rfl,q,D5,K5⟩ := I
        obtain ⟨_,hi⟩ := bg _ _ _ _ hw
        refine ⟨_,rfl,?_⟩
        simp! only [List.replicate,List.cons_append,List.nil_append,aa]
        refine Ok.imp (kN D5 (by omega) hm hz') fun w h6 qz => ?_
        obtain ⟨v,e,v0,v1,D6,K6,_⟩ := qz
        refine ⟨ts ++ [v],by rw [e,List.map_append]; rfl,by simp,fun t ht => ?_,D6,K5.trans K6⟩
        rcases List.mem_append.mp ht with ht | ht
        · exact q t ht
        · rw [List.mem_singleton.mp ht]; exact ⟨v0,v1⟩
      · obtain ⟨ts,rfl,e,q,D5,K5⟩ := I
        rw [aR] at e D5
        simp! only [aa,jB,tupW]
        exact aw ⟨.table (.tup [.str "number",.int 5]) ts,rfl,⟨by omega,q,pd2i fq⟩,D5.up (by omega),K5⟩
    · simp! only [aa,decide_eq_false c3,decide_eq_false c6,decide_eq_false c7,tupW]
      exact aw ⟨.stop,rfl,trivial,D2.up (by omega),K2⟩
theorem uU {k:Nat} (hk : k < 10) : ∃ s : Str,ixW (.str "abcdefghij") (.int (0 + (k:Int))) = pr (.str s) ∧ addW (.str s) (.str "x") = pr (.str (s ++ "x")) ∧ PyData.strOk (s ++ "x") = true :=by
  have : k = 0 ∨ k = 1 ∨ k = 2 ∨ k = 3 ∨ k = 4 ∨ k = 5 ∨ k = 6 ∨ k = 7 ∨ k = 8 ∨ k = 9 :=by omega
  rcases this with rfl | rfl | rfl | rfl | rfl | rfl | rfl | rfl | rfl | rfl <;> exact ⟨_,kG (by decide +kernel) rfl,rS (by decide +kernel),by decide +kernel⟩
theorem tp {v:Int}{w:W} (h0 : 0 ≤ v) (h1 : v < 2) (p:Pd 9 w) : (cutW [w] none (some v)).length ≤ 8 ∧ ∀ x ∈ cutW [w] none (some v),Pd 9 x :=by
  have : v = 0 ∨ v = 1 :=by omega
  rcases this with rfl | rfl
  · exact ⟨by show ([] : List W).length ≤ 8; simp,fun x hx => absurd (show x ∈ ([] : List W) from hx) List.not_mem_nil⟩
  · exact ⟨by show ([w] : List W).length ≤ 8; simp,fun x hx => by rw [List.mem_singleton.mp (show x ∈ [w] from hx)]; exact p⟩
noncomputable def bx0 : W := .tl []
noncomputable def bP : Env' → M Fl := (sSeq (sSet 4 (m3 slW (mTl (lenG (mCons (mTup (mCons (mC (.str "say")) (mCons (mTup (mCons (mC (.str "number")) (mCons (mVar 3) mNil))) mNil))) mNil))) ay (mPart (mCall (arW 2 au) (mCons (mVar 0) (mCons (mC (.int 2)) mNil)))))) (sEx (mMeth isL dm (mVar 2) (mCons (mTup (mCons (m2 addW (m2 ixW (mC (.str "abcdefghij")) (mVar 3)) (mC (.str "x"))) (mCons (mVar 4) (mCons (mCall (arW 2 dw) (mCons (mVar 0) (mCons (mVar 1) mNil))) mNil)))) mNil))))
theorem ga : cT = (sSeq (sSet 2 (mNew (lenG mNil))) (sSeq (sFor (mSrcA (mCons (mVar 1) mNil) rng1) (tgN 3) bP) (sRet (mTup (mCons (mTl (lenG mNil)) (mCons (m1 iceW (mVar 2)) mNil)))))) := rfl
theorem my {h:List Ob}{j j0 c : Nat}{N:Int}{m:Nat} (hN : N = (m:Int)) (m1 : 1 ≤ m) (m2 : m ≤ 10) (D:Dk h j j0 c) (hc : c ≤ 10000) : Ok (bK [.loc j,.int N]) h fun w h' => ∃ bs : List B23,w = pgW bx0 bs ∧ bs.length = m ∧ (∀ b ∈ bs,BG N b) ∧ Dk h' j j0 (c + 110) ∧ Kd j j0 h h' :=by
  have e0 : bK [.loc j,.int N] = bd (cT [some (.loc j),some (.int N),none,none,none]) finF := rfl
  obtain ⟨bj,bj0⟩ := D.lt
  rw [e0,ga]
  simp! only [aa,tupW]
  refine gQ ?_
  have N0 := (Nf.mk0 (h := h) (b := .lst [])).nw
  simp! only [aa,ck (show (-(2 ^ 62) : Int) ≤ N by omega) (show N < 2 ^ 62 by omega)]
  have eN : N.toNat = m :=by omega
  refine da (I := fun i ρ h' => ∃ a b,∃ bs : List B23,ρ = [some (.loc j),some (.int N),some (.loc h.length),a,b] ∧ Dk h' j j0 (c + 11 * i) ∧ Kd j j0 h h' ∧ h'[h.length]? = some (.lst (bs.map B23.w)) ∧ bs.length = i ∧ ∀ b ∈ bs,BG N b) ⟨_,_,[],rfl,D.nw N0,Kd.of_nw N0,ef,rfl,fun b hb => absurd hb List.not_mem_nil⟩ (fun _ _ _ _ => trivial) (fun i w ρ h1 hw I => ?_) fun ρ h1 I => ?_
  · obtain ⟨a,b,bs,rfl,D1,K1,e1,l1,g1⟩ := I
    obtain ⟨rfl,hi⟩ := bg _ _ _ _ hw
    rw [eN] at hi
    obtain ⟨s,s1,s2,s3⟩ := uU (k := i) (by omega)
    refine ⟨_,rfl,?_⟩
    unfold bP
    simp! only [aa,tupW]
    refine dD D1 (by omega) (by decide) (by decide) fun v h2 v0 v1 D2 K2 => ?_
    obtain ⟨t2,t3⟩ := tp v0 v1 (show Pd 9 (.tup [.str "say",.tup [.str "number",.int (0 + (i:Int))]]) from pdT (by simp) (aL (.str uQ) (aL (pd2i fq) d7)))
    simp!
    generalize cutW [W.tup [.str "say",.tup [.str "number",.int (0 + (i:Int))]]] none (some v) = sts at *
    have e2 : h2[h.length]? = some (.lst (bs.map B23.w)) :=by rw [K2.eq _ (cO e1) (by omega) (by omega)]; exact e1
    refine j8 e2 ?_
    simp! only [aa,s1,s2]
    refine aX (ve (by omega) (by omega) D2 (by omega)) fun w h3 qq_ => ?_
    obtain ⟨e,ew,eg,D3,K3⟩ := qq_
    subst ew
    have K4 := (K1.trans K2).trans K3
    have e3 : h3[h.length]? = some (.lst (bs.map B23.w)) :=by rw [K3.eq _ (cO e2) (by omega) (by omega)]; exact e2
    simp! only [aa,tupW]
    refine mO e3 (by rw [List.length_map]; exact Nat.lt_of_le_of_lt (show _ ≤ 10 by omega) (by decide)) ?_
    simp!
    refine aw ⟨_,rfl,_,_,bs ++ [⟨s ++ "x",sts,e⟩],rfl,(D3.up (by omega)).put (by omega) (by omega),⟨by rw [List.length_set]; exact K4.le,fun i hi hj hj0 => by rw [List.getElem?_set_ne (by omega)]; exact K4.eq i hi hj hj0⟩,?_,by rw [List.length_append,l1]; rfl,fun b hb => ?_⟩
    · rw [dG e3,List.map_append]; rfl
    · rcases List.mem_append.mp hb with hb | hb
      · exact g1 b hb
      · rw [List.mem_singleton.mp hb]; exact BG.mk' eg s3 t2 t3
  · obtain ⟨a,b,bs,rfl,D1,K1,e1,l1,g1⟩ := I
    rw [aR,eN] at l1 D1
    simp!
    refine mN e1 ?_
    simp! only [aa,tupW]
    exact aw ⟨bs,rfl,l1,g1,(D1.up (by omega)).put (by omega) (by omega),⟨by rw [List.length_set]; exact K1.le,fun i hi hj hj0 => by rw [List.getElem?_set_ne (by omega)]; exact K1.eq i hi hj hj0⟩⟩
theorem vA (t:W) : slW (.tup [.str "go",t]) (some 1) none = pr (.tup [t]) :=by
  show gd (¬ (HT.sIx 2 0 (some 1) = 0 ∧ HT.sIx 2 2 none = 2)) (pr (W.tup (cutW [.str "go",t] (some 1) none))) = _
  rw [aq (by decide)]; rfl
theorem vw (s a b x y : W) : slW (.tup [.str "if",s,a,b,x,y]) (some 4) none = pr (.tup [x,y]) :=by
  show gd (¬ (HT.sIx 6 0 (some 4) = 0 ∧ HT.sIx 6 6 none = 6)) (pr (W.tup (cutW [.str "if",s,a,b,x,y] (some 4) none))) = _
  rw [aq (by decide)]; rfl
theorem v7 : decide (("go" : Str) = "stop") = false :=by decide +kernel
theorem v6 : decide (("if" : Str) = "stop") = false :=by decide +kernel
theorem tW : intW [.bl true] = pr (.int 1) := rfl
theorem tX : intW [.bl false] = pr (.int 0) := rfl
theorem ix41t : ixW (.tl [.int 4,.int 1]) (.int 1) = pr (.int 1) := dP rfl
theorem ix41f : ixW (.tl [.int 4,.int 1]) (.int 0) = pr (.int 4) := dP rfl
noncomputable def bX : Env' → M Fl := (sSet 1 (m2 addW (mVar 1) (mTl (mComp [] (mSrcA (mCons (mVar 5) mNil) enumL) (tgT [0,1]) mYes (mTup (mCons (mVar 5) (mCons (mVar 0) (mCons (mVar 1) mNil)))) 3))))
theorem iQ : eC = (sSeq (sSet 1 (mTl (lenG mNil))) (sSeq (sFor (mSrcA (mCons (m2 ixW (mVar 0) (mC (.int 1))) mNil) enumL) (tgT [2,3]) (sSeq (sSet 4 (m2 ixW (mVar 3) (mC (.int 2)))) (sSeq (sSet 5 (mTl (lenG mNil))) (sSeq (sIf (mB (m2 eqW (m2 ixW (mVar 4) (mC (.int 0))) (mC (.str "table")))) (sSet 5 (mTl (listL (mCons (m2 ixW (mVar 4) (mC (.int 2))) mNil)))) (sIf (mB (m2 neW (m2 ixW (mVar 4) (mC (.int 0))) (mC (.str "stop")))) (sSet 5 (mTl (listL (mCons (m3 slW (mVar 4) (mPart (m2 ixW (mTl (lenG (mCons (mC (.int 4)) (mCons (mC (.int 1)) mNil)))) (mCall intW (mCons (m2 eqW (m2 ixW (mVar 4) (mC (.int 0))) (mC (.str "go"))) mNil)))) ay) mNil)))) sNil)) bX)))) (sRet (mVar 1)))) := rfl
theorem lO {h:List Ob}{P x : W}{bs : List B23} (hp : ixW P (.int 1) = pr x) (hx : Lw h x (bs.map B23.w)) (hl : bs.length ≤ 10) (hb : ∀ b ∈ bs,b.e.tos.length ≤ 6) : Ok (bW [P]) h fun w h' => w = .tl ((waysL (esOf bs)).map wayW) ∧ h' = h :=by
  have e0 : bW [P] = bd (eC [some P,none,none,none,none,none]) finF := rfl
  rw [e0,iQ]
  have h6 : ∀ e ∈ esOf bs,e.tos.length ≤ 6 := fun e he => by
    obtain ⟨b,hb',rfl⟩ := List.mem_map.mp he
    exact hb b hb'
  simp! only [aa,hp]
  refine Lw.enum hx fun G hG => ?_
  simp!
  refine da (I := fun i ρ h' => ∃ a b c d,ρ = [some P,some (.tl ((waysL ((esOf bs).take i)).map wayW)),a,b,c,d] ∧ h' = h) ⟨_,_,_,_,rfl,rfl⟩ (fun _ _ _ I => by obtain ⟨_,_,_,_,_,e⟩ := I; subst e; exact hG _ hx) (fun i w ρ h1 hw I => ?_) fun ρ h1 I => ?_
  · obtain ⟨a,b,c,d,rfl,eh⟩ := I
    subst eh
    obtain ⟨x',hx',rfl⟩ := dB _ _ _ _ hw
    rw [List.getElem?_map] at hx'
    obtain ⟨b,hp',rfl⟩ := Option.map_eq_some_iff.mp hx'
    have he : (esOf bs)[i]? = some b.e :=by unfold esOf; rw [List.getElem?_map,hp']; rfl
    have t6 := h6 _ (List.mem_of_getElem? he)
    have hi' : i < (esOf bs).length := (List.getElem?_eq_some_iff.mp he).1
    have hi : i < bs.length := (List.getElem?_eq_some_iff.mp hp').1
    have w6 := eP (esOf bs) h6 i (by omega)
    obtain ⟨nm,sts,e⟩ := b
    have t6 : e.tos.length ≤ 6 := t6
    have hs : ixW (B23.w ⟨nm,sts,e⟩) (.int 2) = pr e.w := ix2 ..
    refine ⟨_,rfl,?_⟩
    simp! only [aa,hs]
    generalize B23.w ⟨nm,sts,e⟩ = B at *
    rw [Int.zero_add]
    have fin : ∀ {Q:Fl → List Ob → Prop},Q (.nx [some P,some (.tl ((waysL ((esOf bs).take (i + 1))).map wayW)),some (.int (i:Int)),some B,some e.w,some (.tl (e.tos.map W.int))]) h1 → Ok (bX [some P,some (.tl ((waysL ((esOf bs).take i)).map wayW)),some (.int (i:Int)),some B,some e.w,some (.tl (e.tos.map W.int))]) h1 Q :=by
      intro Q q2
      unfold bX
      have gl : ∀ {α : Type} (q:M α),gd ((numd 0 (e.tos.map W.int)).length ≤ sizeLine) q = q := fun q => aq (by rw [cU,List.length_map]; exact sz (by omega))
      simp! only [aa,rF,gl]
      refine de (I := fun n a h' => h' = h1 ∧ a = (cZ i (e.tos.take n)).map wayW) ⟨rfl,rfl⟩ d0 (fun _ _ _ _ => trivial) (fun n w a h' hw I => ?_) fun a h' I => ?_
      · obtain ⟨eh,rfl⟩ := I
        subst eh
        obtain ⟨y,hy,rfl⟩ := dB _ _ _ _ hw
        rw [List.getElem?_map] at hy
        obtain ⟨t,ht,rfl⟩ := Option.map_eq_some_iff.mp hy
        refine ⟨_,rfl,?_⟩
        simp! only [List.replicate,List.cons_append,List.nil_append,aa,tupW]
        refine aw ⟨rfl,?_⟩
        rw [aS ht,iN,ii ht,List.map_append,Int.zero_add]
        rfl
      · obtain ⟨eh,rfl⟩ := I
        subst eh
        rw [cU,List.length_map,List.take_length]
        simp! only [aa,gG _ _ (show ((waysL ((esOf bs).take i)).map wayW).length + ((cZ i e.tos).map wayW).length ≤ sizeLine by rw [List.length_map,List.length_map,gL]; exact sz (by omega))]
        rw [aS he,gH,ii he,List.map_append] at q2
        exact aw q2
    cases e with
    | go t =>
      unfold E17.w at *
      simp! only [aa,ix0,vF,v7,eq_self,decide_true,tW,ix41t,vA]
      exact fin ⟨_,rfl,_,_,_,_,rfl,rfl⟩
    | iff s a b x y =>
      unfold E17.w at *
      simp! only [aa,ix0,vD,v6,vE,tX,ix41f,vw]
      exact fin ⟨_,rfl,_,_,_,_,rfl,rfl⟩
    | table e ts =>
      unfold E17.w at *
      simp! only [aa,ix0,ix2,eq_self,decide_true]
      exact fin ⟨_,rfl,_,_,_,_,rfl,rfl⟩
    | stop =>
      unfold E17.w at *
      simp! only [aa,ix0,uh,eq_self,decide_true]
      exact fin ⟨_,rfl,_,_,_,_,rfl,rfl⟩
  · obtain ⟨a,b,c,d,rfl,eh⟩ := I
    subst eh
    rw [cU,List.length_map,show bs.length = (esOf bs).length by unfold esOf; rw [List.length_map],List.take_length]
    simp!
    exact aw ⟨rfl,rfl⟩
theorem cp14 : CPow 10 14 := ⟨by decide,by decide,by decide⟩
theorem cp15 : CPow 10 15 := ⟨by decide,by decide,by decide⟩
theorem qf {v:Int} (h0 : 0 ≤ v) (h1 : v < 4) : ∃ s t : Int,atI [W.int 3,.int 10,.int 100,.int (10 ^ (15 : Int).toNat)] v = some (.int s) ∧ atI [W.int 1,.int 1,.int 1,.int (10 ^ (14 : Int).toNat)] v = some (.int t) ∧ 0 < s ∧ s < 2 ^ 200 ∧ 0 ≤ t ∧ t < 2 ^ 64 :=by
  have : v = 0 ∨ v = 1 ∨ v = 2 ∨ v = 3 :=by omega
  rcases this with rfl | rfl | rfl | rfl
  · exact ⟨_,_,rfl,rfl,by decide,by decide,by decide,by decide⟩
  · exact ⟨_,_,rfl,rfl,by decide,by decide,by decide,by decide⟩
  · exact ⟨_,_,rfl,rfl,by decide,by decide,by decide,by decide⟩
  · exact ⟨_,_,rfl,rfl,by decide,by decide,by decide,by decide⟩
noncomputable def bC : Env' → M Fl := (sSeq (sSet 5 (m2 mulW (mCall (arW 2 au) (mCons (mVar 0) (mCons (m2 ixW (mTl (lenG (mCons (mC (.int 3)) (mCons (mC (.int 10)) (mCons (mC (.int 100)) (mCons (m2 powW (mC (.int 10)) (mC (.int 15))) mNil)))))) (mVar 2)) mNil))) (m2 ixW (mTl (lenG (mCons (mC (.int 1)) (mCons (mC (.int 1)) (mCons (mC (.int 1)) (mCons (m2 powW (mC (.int 10)) (mC (.int 14))) mNil)))))) (mVar 2)))) (sEx (mMeth isL dm (mVar 3) (mCons (m2 mulW (mVar 5) (mCall intW (mCons (m2 gtW (mCall (arW 2 au) (mCons (mVar 0) (mCons (mC (.int 6)) mNil))) (mC (.int 0))) mNil))) mNil))))
theorem gP : di = (sSeq (sSet 2 (mCall (arW 2 au) (mCons (mVar 0) (mCons (mC (.int 4)) mNil)))) (sSeq (sSet 3 (mNew (lenG mNil))) (sSeq (sFor (mSrcA (mCons (mVar 1) mNil) rng1) (tgN 4) bC) (sRet (m1 iceW (mVar 3)))))) := rfl
theorem pN {h:List Ob}{j j0 c : Nat}{N:Int}{n:Nat} (hN : N = (n:Int)) (hn : n ≤ 100) (D:Dk h j j0 c) (hc : c ≤ 20000) : Ok (ci [.loc j,.int N]) h fun w h' => ∃ cs : List Int,w = .tl (cs.map W.int) ∧ cs.length = n ∧ (∀ c ∈ cs,0 ≤ c) ∧ Dk h' j j0 (c + 201) ∧ Kd j j0 h h' :=by
  have e0 : ci [.loc j,.int N] = bd (di [some (.loc j),some (.int N),none,none,none,none]) finF := rfl
  obtain ⟨bj,bj0⟩ := D.lt
  rw [e0,gP]
  simp!
  refine dD D (by omega) (by decide) (by decide) fun v h1 v0 v1 D1 K1 => ?_
  obtain ⟨s,t,es,et,s0,s1,t0,t1⟩ := qf v0 v1
  simp!
  refine gQ ?_
  have N0 := (Nf.mk0 (h := h1) (b := .lst [])).nw
  have hl := K1.le
  have eN : N.toNat = n :=by omega
  simp! only [aa,ck (show (-(2 ^ 62) : Int) ≤ N by omega) (show N < 2 ^ 62 by omega)]
  refine da (I := fun i ρ h' => ∃ a b,∃ cs : List Int,ρ = [some (.loc j),some (.int N),some (.int v),some (.loc h1.length),a,b] ∧ Dk h' j j0 (c + 1 + 2 * i) ∧ Kd j j0 h h' ∧ h'[h1.length]? = some (.lst (cs.map W.int)) ∧ cs.length = i ∧ ∀ c ∈ cs,0 ≤ c) ⟨_,_,[],rfl,D1.nw N0,K1.trans (Kd.of_nw N0),ef,rfl,fun b hb => absurd hb List.not_mem_nil⟩ (fun _ _ _ _ => trivial) (fun i w ρ h2 hw I => ?_) fun ρ h2 I => ?_
  · obtain ⟨a,b,cs,rfl,D2,K2,e2,l2,g2⟩ := I
    obtain ⟨rfl,hi⟩ := bg _ _ _ _ hw
    rw [eN] at hi
    refine ⟨_,rfl,?_⟩
    unfold bC
    simp! only [aa,fZ cp15,dP es]
    refine dD D2 (by omega) s0 s1 fun x h3 x0 x1 D3 K3 => ?_
    have e3 : h3[h1.length]? = some (.lst (cs.map W.int)) :=by rw [K3.eq _ (cO e2) (by omega) (by omega)]; exact e2
    simp! only [aa,fZ cp14,dP et,cB (iW (i := x) (j := t) (by omega) t1)]
    refine j8 e3 ?_
    simp!
    refine dD D3 (by omega) (by decide) (by decide) fun y h4 y0 y1 D4 K4 => ?_
    have e4 : h4[h1.length]? = some (.lst (cs.map W.int)) :=by rw [K4.eq _ (cO e3) (by omega) (by omega)]; exact e3
    have gi : ∀ b : Bool,intW [.bl b] = pr (.int (if b then 1 else 0)) := fun b => rfl
    have b2 : ∀ b : Bool,-(2 ^ 64) < (if b then 1 else 0 : Int) ∧ (if b then 1 else 0 : Int) < 2 ^ 64 ∧ 0 ≤ (if b then 1 else 0 : Int) := fun b => by cases b <;> decide
    simp! only [aa,gi]
    generalize decide (0 < y) = bb
    simp! only [aa,cB (iW (i := x * t) (j := (if bb then 1 else 0 : Int)) (b2 bb).1 (b2 bb).2.1)]
    have nn : 0 ≤ x * t * (if bb then 1 else 0 : Int) := Int.mul_nonneg (Int.mul_nonneg x0 t0) (b2 bb).2.2
    generalize x * t * (if bb then 1 else 0 : Int) = z at *
    refine mO e4 (by rw [List.length_map]; exact Nat.lt_of_le_of_lt (show _ ≤ 100 by omega) (by decide)) ?_
    simp!
    have K5 := (K2.trans K3).trans K4
    refine aw ⟨_,rfl,_,_,cs ++ [z],rfl,(D4.up (by omega)).put (by omega) (by omega),⟨by rw [List.length_set]; exact K5.le,fun i hi hj hj0 => by rw [List.getElem?_set_ne (by omega)]; exact K5.eq i hi hj hj0⟩,?_,by rw [List.length_append,l2]; rfl,fun b hb => ?_⟩
    · rw [dG e4,List.map_append]; rfl
    · rcases List.mem_append.mp hb with hb | hb
      · exact g2 b hb
      · rw [List.mem_singleton.mp hb]; exact nn
  · obtain ⟨a,b,cs,rfl,D2,K2,e2,l2,g2⟩ := I
    rw [aR,eN] at l2 D2
    simp!
    refine mN e2 ?_
    simp!
    exact aw ⟨cs,rfl,l2,g2,(D2.up (by omega)).put (by omega) (by omega),⟨by rw [List.length_set]; exact K2.le,fun i hi hj hj0 => by rw [List.getElem?_set_ne (by omega)]; exact K2.eq i hi hj hj0⟩⟩
end
set_option maxHeartbeats 1000000
section
noncomputable def ia (m:Nat) : List Int := (List.range m).map fun (k:Nat) => (k:Int)
theorem oj (m:Nat) : intsW 0 m = (ia m).map W.int :=by
  apply List.ext_getElem?
  intro i
  by_cases hi : i < m
  · obtain ⟨w,hw⟩ : ∃ w,(intsW 0 m)[i]? = some w := ⟨_,List.getElem?_eq_getElem (by rw [aR]; exact hi)⟩
    obtain ⟨rfl,_⟩ := bg _ _ _ _ hw
    rw [hw]
    unfold ia
    rw [List.map_map,List.getElem?_map,List.getElem?_range hi,Int.zero_add]; rfl
  · rw [List.getElem?_eq_none (by rw [aR]; omega),List.getElem?_eq_none (by rw [List.length_map]; unfold ia; rw [List.length_map,List.length_range]; omega)]
end
set_option maxHeartbeats 1000000
section
noncomputable def zsG (es : List E17) (ws : List Way) (cs : List Int) : List Zw := List.zipWith (fun (w:Way) c => (tabOf es w.1,w.1,w.2.2,c)) ws cs
noncomputable def setG (w:Way) (v:Int) (ws : List Way) (cs : List Int) : List Int := List.zipWith (fun (o:Way) c => if o = w then v else c) ws cs
noncomputable def cntG (w:Way) : List Way → List Int → Int
  | o :: ws,_ :: cs => (if o = w then 1 else 0) + cntG w ws cs
  | _,_ => 0
noncomputable def setc (es : List E17) (cs : List Int) (w:Way) (v:Int) : List Int := setG w v (waysL es) cs
theorem dQ {es : List E17}{cs : List Int}{w:Way}{v:Int} (h:(waysL es).length = cs.length) : (waysL es).length = (setc es cs w v).length :=by
  unfold setc setG
  rw [List.length_zipWith,h,Nat.min_self]
noncomputable def gn (o:List Int) (z:Zw) : Int := if z.1 = false ∧ aft o z.2.1 = some z.2.2.1 then z.2.2.2 else 0
theorem nJ (es : List E17) (w:Way) (v:Int) (o:List Int) : ∀ (ws : List Way) (cs : List Int),((zsG es ws (setG w v ws cs)).map (gn o)).sum = ((zsG es ws (setG w 0 ws cs)).map (gn o)).sum + (if tabOf es w.1 = false ∧ aft o w.1 = some w.2.2 then v * cntG w ws cs else 0)
  | [],cs => by
    show (0 : Int) = 0 + (if tabOf es w.1 = false ∧ aft o w.1 = some w.2.2 then v * 0 else 0)
    split <;> simp
  | x :: ws,[] => by
    show (0 : Int) = 0 + (if tabOf es w.1 = false ∧ aft o w.1 = some w.2.2 then v * 0 else 0)
    split <;> simp
  | x :: ws,c :: cs => by
    have ih := nJ es w v o ws cs
    show gn o (tabOf es x.1,x.1,x.2.2,if x = w then v else c) + ((zsG es ws (setG w v ws cs)).map (gn o)).sum = gn o (tabOf es x.1,x.1,x.2.2,if x = w then 0 else c) + ((zsG es ws (setG w 0 ws cs)).map (gn o)).sum + (if tabOf es w.1 = false ∧ aft o w.1 = some w.2.2 then v * ((if x = w then 1 else 0) + cntG w ws cs) else 0)
    rw [ih]
    by_cases e : x = w
    · subst e
      rw [if_pos rfl,if_pos rfl,if_pos rfl]
      have g1 : ∀ c,gn o (tabOf es x.1,x.1,x.2.2,c) = if tabOf es x.1 = false ∧ aft o x.1 = some x.2.2 then c else 0 := fun c => rfl
      rw [g1,g1]
      by_cases q : tabOf es x.1 = false ∧ aft o x.1 = some x.2.2
      · rw [if_pos q,if_pos q,if_pos q,if_pos q,Int.mul_add,Int.mul_one]; omega
      · rw [if_neg q,if_neg q,if_neg q,if_neg q]; omega
    · rw [if_neg e,if_neg e,if_neg e,Int.zero_add]; omega
theorem oy {w:Way} : ∀ {ws : List Way}{cs : List Int},ws.length = cs.length → w ∈ ws → 1 ≤ cntG w ws cs ∧ 0 ≤ cntG w ws cs
  | [],_,_,h => absurd h List.not_mem_nil
  | x :: ws,[],h,_ => by cases h
  | x :: ws,c :: cs,h,hw => by
    have nn : ∀ (ws : List Way) (cs : List Int),0 ≤ cntG w ws cs :=by
      intro ws
      induction ws with
      | nil => intro cs; cases cs <;> exact Int.le_refl _
      | cons y ws ih =>
        intro cs
        cases cs with
        | nil => exact Int.le_refl _
        | cons d cs =>
          show 0 ≤ (if y = w then 1 else 0) + cntG w ws cs
          have := ih cs
          split <;> omega
    show 1 ≤ (if x = w then 1 else 0) + cntG w ws cs ∧ 0 ≤ (if x = w then 1 else 0) + cntG w ws cs
    have := nn ws cs
    by_cases e : x = w
    · rw [if_pos e]; omega
    · have hw' : w ∈ ws :=by
        rcases List.mem_cons.mp hw with hw | hw
        · exact absurd hw.symm e
        · exact hw
      have := (oy (w := w) (Nat.succ.inj h) hw').1
      rw [if_neg e]; omega
theorem gM (es : List E17) (w:Way) (o:List Int) : ∀ (ws : List Way) (cs : List Int),(∀ c ∈ cs,0 ≤ c) → 0 ≤ ((zsG es ws (setG w 0 ws cs)).map (gn o)).sum ∧ ((zsG es ws (setG w 0 ws cs)).map (gn o)).sum ≤ cs.sum
  | [],cs,h => by
    have : 0 ≤ cs.sum :=by
      induction cs with
      | nil => exact Int.le_refl _
      | cons c cs ih => rw [List.sum_cons]; have := h c List.mem_cons_self; have := ih fun d hd => h d (List.mem_cons_of_mem _ hd); omega
    exact ⟨Int.le_refl _,this⟩
  | x :: ws,[],h => ⟨Int.le_refl _,Int.le_refl _⟩
  | x :: ws,c :: cs,h => by
    have ih := gM es w o ws cs fun d hd => h d (List.mem_cons_of_mem _ hd)
    have hc := h c List.mem_cons_self
    show 0 ≤ gn o (tabOf es x.1,x.1,x.2.2,if x = w then 0 else c) + ((zsG es ws (setG w 0 ws cs)).map (gn o)).sum ∧ gn o (tabOf es x.1,x.1,x.2.2,if x = w then 0 else c) + ((zsG es ws (setG w 0 ws cs)).map (gn o)).sum ≤ _
    have : 0 ≤ gn o (tabOf es x.1,x.1,x.2.2,if x = w then 0 else c) ∧ gn o (tabOf es x.1,x.1,x.2.2,if x = w then 0 else c) ≤ c :=by
      unfold gn
      dsimp only
      split
      · split <;> omega
      · omega
    rw [List.sum_cons]
    omega
theorem vc {m:Nat}{a b : Int} (m1 : 1 ≤ m) (a0 : 0 ≤ a) (a1 : a < m) (b0 : 0 ≤ b) (b1 : b < m) (n1 : b ≠ a) (n2 : b ≠ 0) : ∃ t : List Int,t.Perm (upto (m - 1)) ∧ aft (0 :: t) a = some b :=by
  have un : (upto (m - 1)).Nodup := (List.nodup_cons.mp (bY m)).2
  have bm : b ∈ upto (m - 1) := upto_mem.mpr (by omega)
  by_cases e : a = 0
  · subst e
    exact ⟨b :: wo (upto (m - 1)) b,d4 un bm,by unfold aft; rw [if_pos rfl]⟩
  · have am : a ∈ upto (m - 1) := upto_mem.mpr (by omega)
    have bm2 : b ∈ wo (upto (m - 1)) a := wo_mem.mpr ⟨bm,n1⟩
    refine ⟨a :: b :: wo (wo (upto (m - 1)) a) b,((d4 (nF un) bm2).cons a).trans (d4 un am),?_⟩
    unfold aft
    rw [if_neg (fun z => e z.symm)]
    unfold aft
    rw [if_pos rfl]
noncomputable def G0 (es : List E17) (cs : List Int) (w:Way) : Int → Int → Int := gsum (zsL es (setc es cs w 0))
noncomputable def G1 (es : List E17) (cs : List Int) (w:Way) : Int → Int → Int := gsum (zsL es (setc es cs w (cs.sum + 1)))
noncomputable def o0 (es : List E17) (cs : List Int) (w:Way) (m:Nat) : List Int := 0 :: (tT (G0 es cs w) 0 (upto (m - 1))).2
noncomputable def o1 (es : List E17) (cs : List Int) (w:Way) (m:Nat) : List Int := 0 :: (tT (G1 es cs w) 0 (upto (m - 1))).2
noncomputable def turnV (es : List E17) (cs : List Int) (w:Way) (m:Nat) : Int := paid (o1 es cs w m) (zsL es (setc es cs w 0)) - paid (o0 es cs w m) (zsL es (setc es cs w 0))
noncomputable def canB (es : List E17) (w:Way) : Bool := !tabOf es w.1 && (!decide (w.2.2 = w.1) && !decide (w.2.2 = 0))
structure TF (es : List E17) (cs : List Int) (w:Way) (m:Nat) : Prop where
  p0 : (o0 es cs w m).Perm (allB m)
  p1 : (o1 es cs w m).Perm (allB m)
  val : turnV es cs w m = psum (G0 es cs w) (o0 es cs w m) - psum (G0 es cs w) (o1 es cs w m)
  adj : aft (o1 es cs w m) w.1 = some w.2.2
  top0 : ∀ t : List Int,t.Perm (upto (m - 1)) → psum (G0 es cs w) (0 :: t) ≤ psum (G0 es cs w) (o0 es cs w m)
  top1 : ∀ t : List Int,t.Perm (upto (m - 1)) → aft (0 :: t) w.1 = some w.2.2 → psum (G0 es cs w) (0 :: t) ≤ psum (G0 es cs w) (o1 es cs w m)
  pos : ∀ t : List Int,t.Perm (upto (m - 1)) → 0 ≤ psum (G0 es cs w) (0 :: t)
theorem iI {es : List E17}{cs : List Int}{w:Way}{m:Nat} (m1 : 1 ≤ m) (hc : (waysL es).length = cs.length) (c0 : ∀ c ∈ cs,0 ≤ c) (hw : w ∈ waysL es) (a0 : 0 ≤ w.1) (a1 : w.1 < m) (b0 : 0 ≤ w.2.2) (b1 : w.2.2 < m) (can : canB es w = true) : TF es cs w m :=by
  have un : (upto (m - 1)).Nodup := (List.nodup_cons.mp (bY m)).2
  have ct : tabOf es w.1 = false ∧ w.2.2 ≠ w.1 ∧ w.2.2 ≠ 0 :=by
    unfold canB at can
    simpa using can
  have nd : ∀ t : List Int,t.Perm (upto (m - 1)) → (0 :: t).Nodup := fun t p => (p.cons 0).nodup_iff.mpr (bY m)
  have q0 := ij (G0 es cs w) (last := 0) un
  have q1 := ij (G1 es cs w) (last := 0) un
  have ps : ∀ t : List Int,t.Perm (upto (m - 1)) → psum (G1 es cs w) (0 :: t) = psum (G0 es cs w) (0 :: t) + (if aft (0 :: t) w.1 = some w.2.2 then (cs.sum + 1) * cntG w (waysL es) cs else 0) := fun t p => by
    have e1 := dq (nd t p) (zsL es (setc es cs w (cs.sum + 1)))
    have e2 := dq (nd t p) (zsL es (setc es cs w 0))
    have e3 := nJ es w (cs.sum + 1) (0 :: t) (waysL es) cs
    have e4 : (if aft (0 :: t) w.1 = some w.2.2 then (cs.sum + 1) * cntG w (waysL es) cs else 0) = (if tabOf es w.1 = false ∧ aft (0 :: t) w.1 = some w.2.2 then (cs.sum + 1) * cntG w (waysL es) cs else 0) :=by
      by_cases q : aft (0 :: t) w.1 = some w.2.2
      · rw [if_pos q,if_pos ⟨ct.1,q⟩]
      · rw [if_neg q,if_neg (fun z => q z.2)]
    unfold G1 G0
    rw [e1,e2,e4]
    exact e3
  have bd : ∀ t : List Int,t.Perm (upto (m - 1)) → 0 ≤ psum (G0 es cs w) (0 :: t) ∧ psum (G0 es cs w) (0 :: t) ≤ cs.sum := fun t p => by
    have e2 := dq (nd t p) (zsL es (setc es cs w 0))
    have e3 := gM es w (0 :: t) (waysL es) cs c0
    unfold G0
    rw [e2]
    exact e3
  have cp := (oy hc hw).1
  have S0 : 0 ≤ cs.sum :=by have := bd _ q0; omega
  have Dp : cs.sum + 1 ≤ (cs.sum + 1) * cntG w (waysL es) cs :=by
    have := Int.mul_le_mul_of_nonneg_left cp (show 0 ≤ cs.sum + 1 by omega)
    rw [Int.mul_one] at this
    exact this
  have t1 : ∀ t : List Int,t.Perm (upto (m - 1)) → psum (G1 es cs w) (0 :: t) ≤ psum (G1 es cs w) (o1 es cs w m) := fun t p => qa (G1 es cs w) un p
  have adj : aft (o1 es cs w m) w.1 = some w.2.2 :=by
    refine Classical.byContradiction fun n => ?_
    obtain ⟨t,p,et⟩ := vc m1 a0 a1 b0 b1 ct.2.1 ct.2.2
    have x1 := t1 t p
    have x2 := ps t p
    have x3 := ps _ q1
    rw [if_pos et] at x2
    rw [show (0 :: (tT (G1 es cs w) 0 (upto (m - 1))).2) = o1 es cs w m from rfl,if_neg n] at x3
    have x4 := bd t p
    have x5 := bd _ q1
    rw [show (0 :: (tT (G1 es cs w) 0 (upto (m - 1))).2) = o1 es cs w m from rfl] at x5
    omega
  refine ⟨q0.cons 0,q1.cons 0,?_,adj,fun t p => qa (G0 es cs w) un p,fun t p et => ?_,fun t p => (bd t p).1⟩
  · have e0 := j4 (nd _ q0) (dQ (w := w) (v := 0) hc)
    have e1 := j4 (nd _ q1) (dQ (w := w) (v := 0) hc)
    unfold turnV
    have e0 : (setc es cs w 0).sum - psum (G0 es cs w) (o0 es cs w m) = paid (o0 es cs w m) (zsL es (setc es cs w 0)) := e0
    have e1 : (setc es cs w 0).sum - psum (G0 es cs w) (o1 es cs w m) = paid (o1 es cs w m) (zsL es (setc es cs w 0)) := e1
    omega
  · have x1 := t1 t p
    have x2 := ps t p
    have x3 := ps _ q1
    rw [if_pos et] at x2
    rw [show (0 :: (tT (G1 es cs w) 0 (upto (m - 1))).2) = o1 es cs w m from rfl,if_pos adj] at x3
    omega
theorem kM (a b : Int) : PyData.eqv (.int a) (.int b) = decide (a = b) :=by
  rw [PyData.eqv]
  by_cases e : a = b
  · simp [e]
  · simp [e]
theorem nr (a b : Way) : eqW (wayW a) (wayW b) = pr (.bl (decide (a = b))) := nt fun h => by
  show (match dataH h 50 (wayW a),dataH h 50 (wayW b) with
    | some d,some e => if d.canLay0 = true ∧ e.canLay0 = true then some (PyData.eqv d e) else none
    | _,_ => none) = _
  rw [show dataH h 50 (wayW a) = some (.tuple [.int a.1,.int a.2.1,.int a.2.2]) from rfl,show dataH h 50 (wayW b) = some (.tuple [.int b.1,.int b.2.1,.int b.2.2]) from rfl]
  show (if (PyData.tuple [.int a.1,.int a.2.1,.int a.2.2]).canLay0 = true ∧ (PyData.tuple [.int b.1,.int b.2.1,.int b.2.2]).canLay0 = true then some (PyData.eqv (.tuple [.int a.1,.int a.2.1,.int a.2.2]) (.tuple [.int b.1,.int b.2.1,.int b.2.2])) else none) = _
  have cl : ∀ x y z : Int,(PyData.tuple [.int x,.int y,.int z]).canLay0 = true := fun x y z => by simp [PyData.canLay0,PyData.canLayAll0]
  rw [if_pos ⟨cl ..,cl ..⟩,PyData.eqv,PyData.eqvAll,PyData.eqvAll,PyData.eqvAll,PyData.eqvAll,kM,kM,kM]
  congr 1
  rw [Bool.eq_iff_iff]
  obtain ⟨a1,a2,a3⟩ := a
  obtain ⟨b1,b2,b3⟩ := b
  simp
theorem uV (a b : Way) : neW (wayW a) (wayW b) = pr (.bl (!decide (a = b))) :=by
  have := nr a b
  funext h
  have := congrFun this h
  unfold eqW at this
  unfold neW
  cases e : eqB (wayW a) (wayW b) h with
  | none => rw [e] at this; cases this
  | some c => rw [e] at this; cases this; rfl
theorem hE (w:Way) : ixW (wayW w) (.int 0) = pr (.int w.1) := ix0 ..
theorem i7 (w:Way) : ixW (wayW w) (.int 2) = pr (.int w.2.2) := ix2 ..
structure Wy (bs : List B23) (m:Nat) (w:Way) : Prop where
  mem : w ∈ waysL (esOf bs)
  a0 : 0 ≤ w.1
  a1 : w.1 < m
  b0 : 0 ≤ w.2.2
  b1 : w.2.2 < m
  blk : ∃ b,bs[w.1.toNat]? = some b ∧ tabOf (esOf bs) w.1 = b.e.tab
theorem vo {bs : List B23}{N:Int}{m:Nat}{w:Way} (hN : N = (m:Int)) (lb : bs.length = m) (gb : ∀ b ∈ bs,BG N b) (h:w ∈ waysL (esOf bs)) : Wy bs m w :=by
  obtain ⟨e,he,w0,ht⟩ := iF h
  obtain ⟨b,hb,rfl⟩ := nq he
  have hl := (List.getElem?_eq_some_iff.mp hb).1
  have g := (gb b (List.mem_of_getElem? hb)).g.to _ ht
  exact ⟨h,w0,by omega,g.1,by omega,b,hb,by unfold tabOf; rw [he]⟩
theorem vk {bs : List B23}{m:Nat}{w:Way}{bx : W} (y:Wy bs m w) : aT [pgW bx bs,wayW w] = pr (.bl (canB (esOf bs) w)) :=by
  have e0 : aT [pgW bx bs,wayW w] = bd (be [some (pgW bx bs),some (wayW w),none]) finF := rfl
  obtain ⟨b,hb,et⟩ := y.blk
  have hp : ixW (pgW bx bs) (.int 1) = pr (.tl (bs.map B23.w)) := ix1 ..
  rw [e0]
  unfold be canB
  rw [et]
  simp! only [aa,hp,hE,i7,i8 y.a0 hb,kF,iu,gv]
  cases b.e.tab with
  | true =>
    simp!
    rfl
  | false =>
    by_cases q : w.2.2 = w.1
    · simp! only [aa,decide_eq_true q]
      rfl
    · by_cases r : w.2.2 = 0
      · simp! only [aa,decide_eq_false q,decide_eq_true r]
        rfl
      · simp! only [aa,decide_eq_false q,decide_eq_false r]
        rfl
theorem p4 {h:List Ob}{bs : List B23}{bx : W}{cs : List Int}{w:Way}{v:Int} (hl : bs.length ≤ 10) (hb : ∀ b ∈ bs,b.e.tos.length ≤ 6) (hc : (waysL (esOf bs)).length = cs.length) (l60 : cs.length ≤ 60) : Ok (cc [pgW bx bs,.tl (cs.map W.int),wayW w,.int v]) h fun r h' => r = .tl ((setc (esOf bs) cs w v).map W.int) ∧ Nw h h' :=by
  have e0 : cc [pgW bx bs,.tl (cs.map W.int),wayW w,.int v] = bd (dh [some (pgW bx bs),some (.tl (cs.map W.int)),some (wayW w),some (.int v)]) finF := rfl
  have hp : ixW (pgW bx bs) (.int 1) = pr (.tl (bs.map B23.w)) := ix1 ..
  rw [e0]
  unfold dh
  generalize pgW bx bs = P at *
  simp!
  refine rj hp (.inl rfl) hl hb fun h1 N1 => ?_
  have gl : ∀ {α : Type} (q:M α),gd ((zipW ((waysL (esOf bs)).map wayW) (cs.map W.int)).length ≤ sizeLine) q = q := fun q => aq (by rw [ig _ _ _ _ hc]; exact sz (by omega))
  simp! only [aa,jY,gl]
  refine de (I := fun i a h' => h' = h1 ∧ a = ((setc (esOf bs) cs w v).take i).map W.int) ⟨rfl,rfl⟩ d0 (fun _ _ _ _ => ⟨trivial,trivial⟩) (fun i x a h' hx I => ?_) fun a h' I => ?_
  · obtain ⟨eh,rfl⟩ := I
    subst eh
    obtain ⟨u,c,hu,hcc,rfl⟩ := iC hx
    refine ⟨[some (wayW u),some (.int c),none,some P,some (.tl (cs.map W.int)),some (wayW w),some (.int v)],rfl,?_⟩
    have hs : (setc (esOf bs) cs w v)[i]? = some (if u = w then v else c) :=by
      unfold setc setG
      rw [List.getElem?_zipWith,hu,hcc]
    rw [aS hs]
    by_cases q : u = w
    · simp! only [aa,nr,decide_eq_true q]
      exact aw ⟨rfl,by rw [if_pos q,List.map_append]; rfl⟩
    · simp! only [aa,nr,decide_eq_false q]
      exact aw ⟨rfl,by rw [if_neg q,List.map_append]; rfl⟩
  · obtain ⟨eh,rfl⟩ := I
    subst eh
    rw [ig _ _ _ _ hc,← hc,dQ (w := w) (v := v) hc,List.take_length]
    simp!
    exact aw ⟨rfl,N1⟩
noncomputable def dueW (es : List E17) (cs : List Int) (w:Way) (m:Nat) : W := if canB es w = true then .int (turnV es cs w m) else .non
theorem mm {h:List Ob}{bs : List B23}{bx : W}{cs : List Int}{w:Way}{m:Nat} (m1 : 1 ≤ m) (m2 : m ≤ 10) (lb : bs.length = m) (hb : ∀ b ∈ bs,b.e.tos.length ≤ 6) (hc : (waysL (esOf bs)).length = cs.length) (c0 : ∀ c ∈ cs,0 ≤ c) (l60 : cs.length ≤ 60) (y:Wy bs m w) : Ok (dY [pgW bx bs,.tl (cs.map W.int),wayW w]) h fun r h' => r = dueW (esOf bs) cs w m ∧ Nw h h' :=by
  have e0 : dY [pgW bx bs,.tl (cs.map W.int),wayW w] = bd (fD [some (pgW bx bs),some (.tl (cs.map W.int)),some (wayW w),none,none,none]) finF := rfl
  have hp : ixW (pgW bx bs) (.int 1) = pr (.tl (bs.map B23.w)) := ix1 ..
  have ec := vk (bx := bx) y
  have wc := fun (h:List Ob) (v:Int) => p4 (h := h) (bx := bx) (w := w) (v := v) (by omega) hb hc l60
  have bo := fun (h:List Ob) (v:Int) => tz (h := h) (P := pgW bx bs) (X := .tl (bs.map B23.w)) (cs := setc (esOf bs) cs w v) hp (.inl rfl) lb m1 m2 hb (dQ hc)
  have co := fun (h:List Ob) {os : List Int} (p:os.Perm (allB m)) => tq (h := h) (P := pgW bx bs) (x := .tl (bs.map B23.w)) (os := os) (cs := setc (esOf bs) cs w 0) hp (.inl rfl) (by omega) hb (dQ hc) (by rw [p.length_eq,me m1]; exact m1) (by rw [p.length_eq,me m1]; omega) (p.nodup_iff.mpr (bY m))
  rw [e0]
  unfold fD dueW
  generalize pgW bx bs = P at *
  cases q : canB (esOf bs) w with
  | false =>
    rw [q] at ec
    simp! only [aa,ec]
    exact aw ⟨rfl,Nw.refl h⟩
  | true =>
    rw [q] at ec
    have F := iI m1 hc c0 y.mem y.a0 y.a1 y.b0 y.b1 q
    simp! only [aa,ec]
    refine aX (wc _ 0) fun r h1 qq_ => ?_
    obtain ⟨er,N1⟩ := qq_
    subst er
    simp! only [aa,gI]
    refine aX (wc _ (cs.sum + 1)) fun r h2 qq_ => ?_
    obtain ⟨er,N2⟩ := qq_
    subst er
    simp!
    refine aX (bo _ (cs.sum + 1)) fun r h3 qq_ => ?_
    obtain ⟨er,N3⟩ := qq_
    subst er
    simp!
    refine aX (co _ F.p1) fun r h4 qq_ => ?_
    obtain ⟨er,N4⟩ := qq_
    subst er
    simp!
    refine aX (bo _ 0) fun r h5 qq_ => ?_
    obtain ⟨er,N5⟩ := qq_
    subst er
    simp!
    refine aX (co _ F.p0) fun r h6 qq_ => ?_
    obtain ⟨er,N6⟩ := qq_
    subst er
    simp!
    exact aw ⟨rfl,((((N1.trans N2).trans N3).trans N4).trans N5).trans N6⟩
end
set_option maxHeartbeats 1000000
section
theorem pk {h:List Ob}{bx : W}{bs : List B23}{cs : List Int}{w:Way} (hl : bs.length ≤ 10) (hb : ∀ b ∈ bs,b.e.tos.length ≤ 6) (hc : (waysL (esOf bs)).length = cs.length) (l60 : cs.length ≤ 60) :
    Ok (cV [pgW bx bs,.tl (cs.map W.int),wayW w]) h fun r h' => ∃ ks ws,r = .loc h.length ∧ Nf h h' (.dit ks ws) ∧ GK ks ws (G0 (esOf bs) cs w) :=by
  have e0 : cV [pgW bx bs,.tl (cs.map W.int),wayW w] = bd (dJ [some (pgW bx bs),some (.tl (cs.map W.int)),some (wayW w),none,none,none]) finF := rfl
  have hp : ixW (pgW bx bs) (.int 1) = pr (.tl (bs.map B23.w)) := ix1 ..
  have lw := fun h : List Ob => lO (h := h) (P := pgW bx bs) (x := .tl (bs.map B23.w)) hp (.inl rfl) hl hb
  rw [e0]
  unfold dJ
  generalize pgW bx bs = P at *
  simp!
  refine iT ?_
  simp!
  refine aX (lw _) fun r h1 qq_ => ?_
  obtain ⟨er,eh⟩ := qq_
  subst er eh
  simp! only [aa,jY]
  have hc0 := dQ (es := esOf bs) (cs := cs) (w := w) (v := 0) hc
  refine da (I := fun i ρ h' => ∃ a b ks ws,ρ = [some P,some (.tl (cs.map W.int)),some (wayW w),some (.loc h.length),a,b] ∧ Nf h h' (.dit ks ws) ∧ GK ks ws (gsum ((zsL (esOf bs) (setc (esOf bs) cs w 0)).take i)) ∧ ks.length ≤ i) ⟨_,_,[],[],rfl,Nf.mk0,⟨rfl,fun a b => rfl⟩,Nat.le_refl _⟩ (fun _ _ _ _ => ⟨trivial,trivial⟩) (fun i y ρ h2 hy I => ?_) fun ρ h2 I => ?_
  · obtain ⟨a,b,ks,ws,rfl,D,G,lk⟩ := I
    obtain ⟨u,n,hu,hn,rfl⟩ := iC hy
    have hi : i < cs.length := (List.getElem?_eq_some_iff.mp hn).1
    obtain ⟨e,he,u0,_⟩ := iF (List.mem_of_getElem? hu)
    have hs : (setc (esOf bs) cs w 0)[i]? = some (if u = w then 0 else n) :=by
      unfold setc setG
      rw [List.getElem?_zipWith,hu,hn]
    have hz := pW hu hs
    have ht : tabOf (esOf bs) u.1 = e.tab :=by unfold tabOf; rw [he]
    rw [ht] at hz
    obtain ⟨b',hb',rfl⟩ := nq he
    refine ⟨[some P,some (.tl (cs.map W.int)),some (wayW w),some (.loc h.length),some (wayW u),some (.int n)],rfl,?_⟩
    simp! only [aa,uV]
    rw [aS hz]
    by_cases q : u = w
    · simp! only [aa,decide_eq_true q]
      refine aw ⟨_,rfl,_,_,ks,ws,rfl,D,⟨G.len,fun a b => ?_⟩,Nat.le_succ_of_le lk⟩
      rw [G.get,dW,if_pos q]
      split <;> simp
    · rw [if_neg q]
      simp! only [aa,decide_eq_false q,hp,hE,i8 u0 hb',kF,iu,gv]
      cases et : b'.e.tab with
      | true =>
        simp!
        refine aw ⟨_,rfl,_,_,ks,ws,rfl,D,⟨G.len,fun a b => ?_⟩,Nat.le_succ_of_le lk⟩
        rw [G.get,dW,if_neg (by simp),Int.add_zero]
      | false =>
        simp! only [aa,mGetT]
        refine gf D.new ?_
        simp! only [aa,mKt,kt2,hE,i7]
        refine aY (gC D.new rfl) ?_
        rw [G.get u.1 u.2.2]
        simp! only [aa,mKt,kt2,hE,i7]
        rcases ep : putW ks ws [.inl u.1,.inl u.2.2] (.int (gsum ((zsL (esOf bs) (setc (esOf bs) cs w 0)).take i) u.1 u.2.2 + n)) with ⟨ks',ws'⟩
        obtain ⟨l1,l2,g⟩ := iA G.len ep
        refine mK D.new (Nat.lt_of_le_of_lt (show _ ≤ 60 by omega) (by decide)) ep ?_
        simp!
        refine aw ⟨_,rfl,_,_,ks',ws',rfl,D.put _,⟨l1,fun a b => ?_⟩,by omega⟩
        rw [g,dW]
        by_cases q2 : u.1 = a ∧ u.2.2 = b
        · rw [if_pos (by rw [q2.1,q2.2]),if_pos ⟨rfl,q2⟩,q2.1,q2.2]; rfl
        · rw [if_neg (fun z => q2 ⟨by injection z with z1 z2; exact Sum.inl.inj z1,by injection z with z1 z2; injection z2 with z3 z4; exact Sum.inl.inj z3⟩),if_neg (fun z => q2 z.2),Int.add_zero]
          exact G.get a b
  · obtain ⟨a,b,ks,ws,rfl,D,G,lk⟩ := I
    rw [ig _ _ _ _ hc,← hc,hc0,← pV hc0,List.take_length] at G
    simp!
    exact aw ⟨ks,ws,rfl,D,G⟩
theorem in2 (x a : Int) : inW (.int x) (.tl [.int a,.int 0]) = pr (.bl (decide (x = a) || decide (x = 0))) :=by
  funext h
  unfold inW
  have e : inB (.int x) (.tl [.int a,.int 0]) h = some (decide (x = a) || decide (x = 0)) :=by
    show some (inV (.int x) [.int a,.int 0]) = _
    congr 1
    unfold inV
    rw [List.any_cons,List.any_cons,List.any_nil,Bool.or_false]
    show (a == x || 0 == x) = _
    congr 1
    · rw [Bool.eq_iff_iff,beq_iff_eq,decide_eq_true_eq]; exact eq_comm
    · rw [Bool.eq_iff_iff,beq_iff_eq,decide_eq_true_eq]; exact eq_comm
  rw [e]; rfl
theorem sN {bs : List B23}{m:Nat}{w:Way}{bx : W} (y:Wy bs m w) : dF [pgW bx bs,wayW w] = pr (.bl (!canB (esOf bs) w)) :=by
  have e0 : dF [pgW bx bs,wayW w] = bd (eE [some (pgW bx bs),some (wayW w)]) finF := rfl
  obtain ⟨b,hb,et⟩ := y.blk
  have hp : ixW (pgW bx bs) (.int 1) = pr (.tl (bs.map B23.w)) := ix1 ..
  rw [e0]
  unfold eE canB
  rw [et]
  simp! only [aa,hp,hE,i7,i8 y.a0 hb,kF,iu,gv]
  cases b.e.tab with
  | true =>
    simp!
    rfl
  | false =>
    simp! only [aa,in2]
    by_cases q : w.2.2 = w.1
    · rw [decide_eq_true q]; rfl
    · by_cases r : w.2.2 = 0
      · rw [decide_eq_false q,decide_eq_true r]; rfl
      · rw [decide_eq_false q,decide_eq_false r]; rfl
theorem pO {bs : List B23} (hl : bs.length ≤ 10) (h:List Ob) : Ok (cD [pgW bx0 bs]) h fun r h' => r = pgW bx0 bs ∧ h' = h :=by
  have e0 : cD [pgW bx0 bs] = bd (dj [some (pgW bx0 bs)]) finF := rfl
  have hp : ixW (pgW bx0 bs) (.int 1) = pr (.tl (bs.map B23.w)) := ix1 ..
  have hp0 : ixW (pgW bx0 bs) (.int 0) = pr (.tl []) := ix0 ..
  have gl : ∀ {α : Type} (q:M α),gd ((bs.map B23.w).length ≤ sizeLine) q = q := fun q => aq (by rw [List.length_map]; exact sz (by omega))
  rw [e0]
  unfold dj
  simp! only [aa,hp,hp0,i4,ik,gl]
  refine de (I := fun i a h' => h' = h ∧ a = (bs.take i).map B23.w) ⟨rfl,rfl⟩ d0 (fun _ _ _ _ => trivial) (fun i x a h' hx I => ?_) fun a h' I => ?_
  · obtain ⟨eh,rfl⟩ := I
    subst eh
    rw [List.getElem?_map] at hx
    obtain ⟨b,hb,rfl⟩ := Option.map_eq_some_iff.mp hx
    obtain ⟨nm,sts,e⟩ := b
    refine ⟨_,rfl,?_⟩
    simp! only [List.replicate,List.cons_append,List.nil_append,aa,i4,tupW]
    refine aw ⟨rfl,?_⟩
    rw [aS hb,List.map_append]; rfl
  · obtain ⟨eh,rfl⟩ := I
    subst eh
    rw [List.length_map,List.take_length]
    simp! only [aa,tupW]
    exact aw ⟨rfl,rfl⟩
theorem lG {w:W} (e:eqW w w = pr (.bl true)) : neW w w = pr (.bl false) :=by
  funext h
  have := congrFun e h
  unfold eqW at this
  unfold neW
  cases q : eqB w w h with
  | none => rw [q] at this; cases this
  | some c => rw [q] at this; cases this; rfl
theorem uC {m:Int}{bs : List B23} (hl : bs.length ≤ 10) (g:∀ b ∈ bs,BG m b) : Pd 50 (pgW bx0 bs) := pdT (by simp) (aL (.lst (by simp) d7) (aL (.lst (by rw [List.length_map]; omega) fun x hx => by
  obtain ⟨b,hb,rfl⟩ := List.mem_map.mp hx
  exact (g b hb).pd.up (by decide)) d7))
theorem rX {h:List Ob}{bs : List B23}{cs : List Int}{w:Way}{m:Nat}{N:Int} (m1 : 1 ≤ m) (m2 : m ≤ 10) (lb : bs.length = m) (gb : ∀ b ∈ bs,BG N b) (hc : (waysL (esOf bs)).length = cs.length) (c0 : ∀ c ∈ cs,0 ≤ c) (l60 : cs.length ≤ 60) (y:Wy bs m w) : Ok (cP [pgW bx0 bs,.tl (cs.map W.int),wayW w,dueW (esOf bs) cs w m]) h fun r h' => r = .bl true ∧ Nw h h' :=by
  have e0 : cP [pgW bx0 bs,.tl (cs.map W.int),wayW w,dueW (esOf bs) cs w m] = bd (eD [some (pgW bx0 bs),some (.tl (cs.map W.int)),some (wayW w),some (dueW (esOf bs) cs w m),none,none,none]) finF := rfl
  have hb : ∀ b ∈ bs,b.e.tos.length ≤ 6 := fun b hb => (gb b hb).six
  have cp := fun h : List Ob => pO (bs := bs) (by omega) h
  have tu := fun h : List Ob => mm (h := h) (bx := bx0) m1 m2 lb hb hc c0 l60 y
  have n1 := lG (pH (w := pgW bx0 bs) (fun a e => by cases e) (uC (by omega) gb))
  have n2 := lG (w := .tl (cs.map W.int)) (rB (nS cs (n := 48)))
  rw [e0]
  unfold eD
  simp!
  refine aX (cp _) fun r h1 qq_ => ?_
  obtain ⟨er,eh⟩ := qq_
  subst er eh
  simp! only [aa,i4]
  refine aX (tu _) fun r h2 qq_ => ?_
  obtain ⟨er,N2⟩ := qq_
  subst er
  generalize pgW bx0 bs = P at *
  generalize W.tl (cs.map W.int) = C at *
  simp! only [aa,n1,n2]
  unfold dueW
  cases q : canB (esOf bs) w with
  | false =>
    simp! only [aa,kH]
    exact aw ⟨rfl,N2⟩
  | true =>
    have ni : isNW (.int (turnV (esOf bs) cs w m)) .non = pr (.bl false) := rfl
    simp! only [aa,ni,oh (i := turnV (esOf bs) cs w m) (c := "int") (b := true) (by decide) (by decide),oh (i := turnV (esOf bs) cs w m) (c := "bool") (b := false) (by decide) (by decide),eq_self,decide_true]
    exact aw ⟨rfl,N2⟩
end
set_option maxHeartbeats 1000000
section
noncomputable def prs (o:List Int) : List (List Int) := List.zipWith (fun a b => [a,b]) o o.tail
theorem fY : ∀ {o:List Int}{a b : Int},o.Nodup → ([a,b] ∈ prs o ↔ aft o a = some b)
  | [],a,b,_ => ⟨fun h => absurd h List.not_mem_nil,fun h => by cases h⟩
  | [x],a,b,_ => ⟨fun h => absurd (show [a,b] ∈ ([] : List (List Int)) from h) List.not_mem_nil,fun h => by cases h⟩
  | x :: y :: r,a,b,nd => by
    obtain ⟨h1,h2⟩ := List.nodup_cons.mp nd
    have ih := fY (o := y :: r) (a := a) (b := b) h2
    show [a,b] ∈ [x,y] :: prs (y :: r) ↔ _
    have ea : aft (x :: y :: r) a = if x = a then some y else aft (y :: r) a :=by rw [aft]
    rw [List.mem_cons,ih,ea]
    by_cases e : x = a
    · rw [if_pos e]
      constructor
      · intro z
        rcases z with z | z
        · injection z with z1 z2; injection z2 with z2 _; rw [z2]
        · exfalso
          have : ∀ {l:List Int}{a b : Int},aft l a = some b → a ∈ l :=by
            intro l
            induction l with
            | nil => intro a b h; cases h
            | cons u l ih =>
              intro a b h
              cases l with
              | nil => cases h
              | cons v l =>
                unfold aft at h
                by_cases e : u = a
                · rw [e]; exact List.mem_cons_self
                · rw [if_neg e] at h; exact List.mem_cons_of_mem _ (ih h)
          exact h1 (by rw [e]; exact this z)
      · intro z
        cases z
        exact .inl (by rw [e])
    · rw [if_neg e]
      constructor
      · intro z
        rcases z with z | z
        · injection z with z1 _; exact absurd z1.symm e
        · exact z
      · exact .inr
end
set_option maxHeartbeats 1000000
section
noncomputable def bitsZ (m i : Nat) : List Int := ((List.range m).filter fun b => i.testBit b).map fun (b:Nat) => (b:Int)
theorem bits_mem {m i : Nat}{x:Int} : x ∈ bitsZ m i ↔ ∃ b : Nat,x = b ∧ b < m ∧ i.testBit b = true :=by
  unfold bitsZ
  rw [List.mem_map]
  constructor
  · rintro ⟨b,hb,rfl⟩
    obtain ⟨h1,h2⟩ := List.mem_filter.mp hb
    exact ⟨b,rfl,List.mem_range.mp h1,h2⟩
  · rintro ⟨b,rfl,h1,h2⟩
    exact ⟨b,List.mem_filter.mpr ⟨List.mem_range.mpr h1,h2⟩,rfl⟩
theorem qP {α β : Type} (f:α → β) (hf : ∀ a b,f a = f b → a = b) : ∀ {l:List α},l.Nodup → (l.map f).Nodup
  | [],_ => List.nodup_nil
  | a :: l,h => by
    rw [List.nodup_cons] at h
    rw [List.map_cons,List.nodup_cons]
    refine ⟨fun m => ?_,qP f hf h.2⟩
    obtain ⟨b,hb,e⟩ := List.mem_map.mp m
    exact h.1 (by rw [← hf b a e]; exact hb)
theorem iz (m i : Nat) : (bitsZ m i).Nodup := qP _ (fun a b h => Int.ofNat_inj.mp h) (List.nodup_range.filter _)
theorem jE {α : Type}{l k : List α} (h1 : l.Nodup) (h2 : k.Nodup) (h:∀ x,x ∈ l ↔ x ∈ k) : l.Perm k := (List.perm_ext_iff_of_nodup h1 h2).mpr h
theorem gE {i b : Nat} (h:i.testBit b = true) (c:Nat) : (i - 2 ^ b).testBit c = (i.testBit c && decide (c ≠ b)) :=by
  have ge : 2 ^ b ≤ i := Nat.ge_two_pow_of_testBit h
  obtain ⟨y,rfl⟩ : ∃ y,i = 2 ^ b + y := ⟨i - 2 ^ b,by omega⟩
  rw [Nat.add_sub_cancel_left]
  have hy : y.testBit b = false :=by
    rw [Nat.testBit_two_pow_add_eq] at h
    simpa using h
  rcases Nat.lt_trichotomy c b with l | l | l
  · rw [Nat.testBit_two_pow_add_gt l,decide_eq_true (by omega),Bool.and_true]
  · subst l
    rw [hy,decide_eq_false (by simp),Bool.and_false]
  · rw [decide_eq_true (by omega),Bool.and_true]
    have q : ∀ z : Nat,z.testBit c = decide (z / 2 ^ c % 2 = 1) := fun z => Nat.testBit_eq_decide_div_mod_eq
    have r : (2 ^ b + y) / 2 ^ c = y / 2 ^ c :=by
      have hr : (2 ^ b + y) % 2 ^ c = 2 ^ b + y % 2 ^ c :=by
        have hm : (y % 2 ^ c).testBit b = false :=by rw [Nat.testBit_mod_two_pow,hy,Bool.and_false]
        have lt : y % 2 ^ c + 2 ^ b < 2 ^ c :=by
          refine Classical.byContradiction fun n => ?_
          have lt0 : y % 2 ^ c < 2 ^ c := Nat.mod_lt _ (Nat.two_pow_pos c)
          obtain ⟨d,hd⟩ : ∃ d,c = b + 1 + d := ⟨c - (b + 1),by omega⟩
          have e2 : 2 ^ c = 2 ^ b * (2 * 2 ^ d) :=by rw [hd,Nat.pow_add,Nat.pow_succ,Nat.mul_assoc]
          have k1 : y % 2 ^ c / 2 ^ b = 2 * 2 ^ d - 1 :=by
            have a1 : 2 ^ b * (2 * 2 ^ d - 1) ≤ y % 2 ^ c :=by rw [Nat.mul_sub,← e2]; omega
            have a2 : y % 2 ^ c < 2 ^ b * (2 * 2 ^ d - 1 + 1) :=by
              have : 1 ≤ 2 * 2 ^ d :=by have := Nat.two_pow_pos d; omega
              rw [Nat.sub_add_cancel this,← e2]; exact lt0
            have p := Nat.two_pow_pos b
            have b1 := (Nat.le_div_iff_mul_le p).mpr (by rw [Nat.mul_comm]; exact a1)
            have b2 := (Nat.div_lt_iff_lt_mul p).mpr (by rw [Nat.mul_comm]; exact a2)
            omega
          have k2 : (y % 2 ^ c).testBit b = decide (y % 2 ^ c / 2 ^ b % 2 = 1) := Nat.testBit_eq_decide_div_mod_eq
          rw [k1,hm] at k2
          have : (2 * 2 ^ d - 1) % 2 = 1 :=by have := Nat.two_pow_pos d; omega
          rw [this] at k2
          simp at k2
        rw [Nat.add_mod,Nat.mod_eq_of_lt (show 2 ^ b < 2 ^ c from Nat.pow_lt_pow_right (by decide) l),Nat.mod_eq_of_lt (by omega)]
      have a1 := Nat.div_add_mod (2 ^ b + y) (2 ^ c)
      have a2 := Nat.div_add_mod y (2 ^ c)
      have p := Nat.two_pow_pos c
      have : 2 ^ c * ((2 ^ b + y) / 2 ^ c) = 2 ^ c * (y / 2 ^ c) :=by omega
      exact Nat.eq_of_mul_eq_mul_left p this
    rw [q,q,r]
theorem md {m i b : Nat} (hb : b < m) (h:i.testBit b = true) : (bitsZ m i).Perm ((b:Int) :: bitsZ m (i - 2 ^ b)) :=by
  refine jE (iz m i) ?_ fun x => ?_
  · rw [List.nodup_cons]
    refine ⟨fun q => ?_,iz _ _⟩
    obtain ⟨c,e,_,hc⟩ := bits_mem.mp q
    have e : b = c := Int.ofNat_inj.mp e
    subst e
    rw [gE h] at hc
    simp at hc
  · rw [List.mem_cons,bits_mem,bits_mem]
    constructor
    · rintro ⟨c,rfl,h1,h2⟩
      by_cases e : c = b
      · exact .inl (by rw [e])
      · exact .inr ⟨c,rfl,h1,by rw [gE h,h2,decide_eq_true e]; rfl⟩
    · rintro (rfl | ⟨c,rfl,h1,h2⟩)
      · exact ⟨b,rfl,hb,h⟩
      · rw [gE h,Bool.and_eq_true] at h2
        exact ⟨c,rfl,h1,h2.1⟩
theorem rQ {m i : Nat} (hi : i < 2 ^ m) (h:bitsZ m i = []) : i = 0 :=by
  refine Nat.eq_of_testBit_eq fun c => ?_
  rw [Nat.zero_testBit]
  by_cases l : c < m
  · cases e : i.testBit c with
    | false => rfl
    | true =>
      have : (c:Int) ∈ bitsZ m i := bits_mem.mpr ⟨c,rfl,l,e⟩
      rw [h] at this
      exact absurd this List.not_mem_nil
  · exact Nat.testBit_lt_two_pow (Nat.lt_of_lt_of_le hi (Nat.pow_le_pow_right (by decide) (by omega)))
theorem pS (m:Nat) : bitsZ m 0 = [] :=by
  unfold bitsZ
  rw [List.filter_eq_nil_iff.mpr fun b _ => by rw [Nat.zero_testBit]; simp]
  rfl
theorem pT {m:Nat} (m1 : 1 ≤ m) : (bitsZ m (2 ^ m - 2)).Perm (upto (m - 1)) :=by
  refine jE (iz _ _) (List.nodup_cons.mp (bY m)).2 fun x => ?_
  have tb : ∀ c,(2 ^ m - 2).testBit c = (decide (c < m) && !(Nat.testBit 1 c)) := fun c => Nat.testBit_two_pow_sub_succ (x := 1) (by
    have : 2 ^ 1 ≤ 2 ^ m := Nat.pow_le_pow_right (by decide) m1
    omega) c
  rw [bits_mem,upto_mem]
  constructor
  · rintro ⟨b,rfl,h1,h2⟩
    rw [tb,Bool.and_eq_true] at h2
    have : b ≠ 0 := fun z => by rw [z] at h2; simp at h2
    omega
  · rintro ⟨h1,h2⟩
    refine ⟨x.toNat,by omega,by omega,?_⟩
    have z : Nat.testBit 1 x.toNat = false :=by
      cases e : Nat.testBit 1 x.toNat with
      | false => rfl
      | true =>
        have := Nat.testBit_one_eq_true_iff_self_eq_zero.mp e
        omega
    rw [tb,decide_eq_true (by omega),z]
    rfl
noncomputable def Okp (bar : List (List Int)) (o:List Int) : Prop := ∀ p ∈ prs o,p ∉ bar
theorem dz (x y : Int) (t:List Int) : prs (x :: y :: t) = [x,y] :: prs (y :: t) := rfl
noncomputable def Bst (G:Int → Int → Int) (bar : List (List Int)) (m i : Nat) (x V : Int) : Prop := (∀ t : List Int,t.Perm (bitsZ m i) → Okp bar (x :: t) → psum G (x :: t) ≤ V) ∧ (V = -1 ∨ 0 ≤ V ∧ ∃ t : List Int,t.Perm (bitsZ m i) ∧ Okp bar (x :: t) ∧ psum G (x :: t) = V)
theorem rP {G:Int → Int → Int}{bar : List (List Int)}{m i x : Nat}{ns : List Int} (hps : ∀ l : List Int,l.Nodup → 0 ≤ psum G l) (hi : i < 2 ^ m) (hx : i.testBit x = false)
    (h1 : ∀ v ∈ ns,(i = 0 ∧ v = 0) ∨ ∃ b,b < m ∧ i.testBit b = true ∧ [(x:Int),(b:Int)] ∉ bar ∧ ∃ V',Bst G bar m (i - 2 ^ b) b V' ∧ 0 ≤ V' ∧ v = V' + G x b)
    (h2 : i = 0 → 0 ∈ ns) (h3 : ∀ b,b < m → i.testBit b = true → [(x:Int),(b:Int)] ∉ bar → ∃ V',Bst G bar m (i - 2 ^ b) b V' ∧ (0 ≤ V' → V' + G x b ∈ ns)) : Bst G bar m i x (if ns = [] then -1 else maxZ ns) :=by
  have xb : ∀ t : List Int,t.Perm (bitsZ m i) → ((x:Int) :: t).Nodup := fun t p => by
    rw [List.nodup_cons]
    refine ⟨fun q => ?_,p.nodup_iff.mpr (iz m i)⟩
    obtain ⟨c,e,_,hc⟩ := bits_mem.mp (p.mem_iff.mp q)
    have e : x = c := Int.ofNat_inj.mp e
    rw [← e,hx] at hc
    cases hc
  constructor
  · intro t p ok
    have up : ∀ v ∈ ns,v ≤ (if ns = [] then -1 else maxZ ns) := fun v hv => by
      have ne : ns ≠ [] := fun z => by rw [z] at hv; exact absurd hv List.not_mem_nil
      rw [if_neg ne]
      exact (gr ne).2 v hv
    cases t with
    | nil =>
      have z := rQ hi p.symm.eq_nil
      exact up 0 (h2 z)
    | cons b t =>
      obtain ⟨c,rfl,c1,c2⟩ := bits_mem.mp (p.mem_iff.mp List.mem_cons_self)
      have p2 : t.Perm (bitsZ m (i - 2 ^ c)) := (p.trans (md c1 c2)).cons_inv
      have ok1 : [(x:Int),(c:Int)] ∉ bar := ok _ (by rw [dz]; exact List.mem_cons_self)
      have ok2 : Okp bar ((c:Int) :: t) := fun q hq => ok q (by rw [dz]; exact List.mem_cons_of_mem _ hq)
      obtain ⟨V',B,k⟩ := h3 c c1 c2 ok1
      have le := B.1 t p2 ok2
      have nn := hps ((c:Int) :: t) (List.nodup_cons.mp (xb _ p)).2
      have := up _ (k (by omega))
      show G x c + psum G ((c:Int) :: t) ≤ _
      omega
  · by_cases ne : ns = []
    · exact .inl (by rw [if_pos ne])
    · rw [if_neg ne]
      right
      rcases h1 _ (gr ne).1 with ⟨z,e⟩ | ⟨b,b1,b2,nb,V',B,v0,e⟩
      · rw [e]
        subst z
        exact ⟨Int.le_refl _,[],by rw [pS],fun q hq => absurd (show q ∈ ([] : List (List Int)) from hq) List.not_mem_nil,rfl⟩
      · rw [e]
        rcases B.2 with z | ⟨_,t,p,ok,et⟩
        · omega
        · have p2 : ((b:Int) :: t).Perm (bitsZ m i) := (p.cons (b:Int)).trans (md b1 b2).symm
          have nd := xb _ p2
          have g0 := hps [(x:Int),(b:Int)] (by
            rw [List.nodup_cons] at nd
            rw [List.nodup_cons]
            exact ⟨fun q => nd.1 (by rw [List.mem_singleton.mp q]; exact List.mem_cons_self),by simp⟩)
          have g0 : 0 ≤ G x b + 0 := g0
          refine ⟨by omega,(b:Int) :: t,p2,fun q hq => ?_,?_⟩
          · rw [dz] at hq
            rcases List.mem_cons.mp hq with hq | hq
            · rw [hq]; exact nb
            · exact ok q hq
          · show G x b + psum G ((b:Int) :: t) = _
            omega
end
set_option maxHeartbeats 1000000
section
theorem and1 (n:Nat) : andW (.int (n:Int)) (.int 1) = pr (.int (if n % 2 = 1 then 1 else 0)) :=by
  show gd True (pr (W.int (Builtin.bitAnd (n:Int) 1))) = _
  rw [aq trivial]
  have e : Builtin.bitAnd (n:Int) 1 = ((n &&& 1 : Nat) : Int) :=by
    unfold Builtin.bitAnd
    rw [decide_eq_true (Int.natCast_nonneg n),decide_eq_true (show (0 : Int) ≤ 1 by decide)]
    show (((n:Int).toNat &&& (1 : Int).toNat : Nat) : Int) = _
    rw [Int.toNat_natCast]
    rfl
  rw [e,Nat.and_one_is_mod]
  have := Nat.mod_two_eq_zero_or_one n
  rcases this with z | z <;> rw [z] <;> rfl
theorem bitW (i x : Nat) : andW (.int ((i:Int) / 2 ^ (x:Int).toNat)) (.int 1) = pr (.int (if i.testBit x = true then 1 else 0)) :=by
  have e : (i:Int) / 2 ^ (x:Int).toNat = ((i / 2 ^ x : Nat) : Int) :=by
    rw [Int.toNat_natCast,Int.natCast_ediv,Int.natCast_pow]; rfl
  rw [e,and1]
  have : i.testBit x = decide (i / 2 ^ x % 2 = 1) := Nat.testBit_eq_decide_div_mod_eq
  rw [this]
  by_cases z : i / 2 ^ x % 2 = 1
  · rw [if_pos z,if_pos (decide_eq_true z)]
  · rw [if_neg z,if_neg (by rw [decide_eq_false z]; simp)]
theorem bit0 (i:Nat) : andW (.int (i:Int)) (.int 1) = pr (.int (if i.testBit 0 = true then 1 else 0)) :=by
  have := bitW i 0
  rw [show (i:Int) / 2 ^ (((0 : Nat) : Int)).toNat = (i:Int) from Int.ediv_one _] at this
  exact this
theorem shl1 {m:Nat} (h:m ≤ 100) : shlW (.int 1) (.int (m:Int)) = pr (.int ((2 ^ m : Nat) : Int)) :=by
  show gd (CPow 1 (m:Int)) (pr (W.int (1 * 2 ^ (m:Int).toNat))) = _
  rw [aq ⟨Int.natCast_nonneg m,by omega,by decide⟩,Int.one_mul,Int.toNat_natCast,Int.natCast_pow]
  rfl
noncomputable def barW (p:List Int) : W := .tup (p.map W.int)
theorem ft (a b : Int) (bar : List (List Int)) : fu (.tup [.int a,.int b]) (.tl (bar.map barW)) = pr (.bl (!decide ([a,b] ∈ bar))) :=by
  funext hh
  have o : optL tOf (bar.map barW) = some bar :=by
    have := dS (f := tOf) (g := barW) (k := id) (fun p => by
      show optL iOf (p.map W.int) = some p
      exact iOfs p) bar
    rw [this,List.map_id]
  have e : inTB (.tup [.int a,.int b]) (.tl (bar.map barW)) hh = some (decide ([a,b] ∈ bar)) :=by
    show (optL tOf (bar.map barW)).map (fun mss => decide ([a,b] ∈ mss)) = _
    rw [o]; rfl
  unfold fu
  rw [e]
  rfl
noncomputable def DI (G:Int → Int → Int) (bar : List (List Int)) (m i x : Nat) (ks : List (List Key)) (ws : List W) : Prop := ∀ l z : Nat,(l < i ∨ l = i ∧ z < x) → z < m → l.testBit z = false → l.testBit 0 = false → ∃ V,atK ks ws [.inl (l:Int),.inl (z:Int)] = some (.int V) ∧ Bst G bar m l z V
theorem nU {β : Type}{h:List Ob}{Q:β → List Ob → Prop}{j:Nat}{ks : List (List Key)}{ws : List W}{v:W}{a b : Int}{k:W → M β} (e:h[j]? = some (.dit ks ws)) (e2 : atK ks ws [.inl a,.inl b] = some v) (r:Ok (k v) h Q) : Ok (bd (ixT' (.loc j) (.tup [.int a,.int b])) k) h Q :=by
  refine aY (a := v) (h' := h) ?_ r
  have d : ditOf (.loc j) h = some (ks,ws) :=by unfold ditOf; simp only [e]
  have kk : keyT (.tup [.int a,.int b]) = some [.inl a,.inl b] := rfl
  unfold ixT'
  simp only [d,kk,e2]
theorem rep1 (w:W) : gd (0 ≤ (1 : Int) ∧ (1 : Int) ≤ 1000000 ∧ ([w] : List W).length * (1 : Int).toNat ≤ sizeLine) (pr (List.replicate (1 : Int).toNat [w]).flatten) = pr [w] :=by
  rw [aq ⟨by decide,by decide,by show 1 * 1 ≤ sizeLine; decide⟩]
  rfl
theorem rep0 (w:W) : gd (0 ≤ (0 : Int) ∧ (0 : Int) ≤ 1000000 ∧ ([w] : List W).length * (0 : Int).toNat ≤ sizeLine) (pr (List.replicate (0 : Int).toNat [w]).flatten) = pr [] :=by
  rw [aq ⟨by decide,by decide,by show 1 * 0 ≤ sizeLine; decide⟩]
  rfl
section
variable {G:Int → Int → Int}{bar : List (List Int)}{m i x : Nat}{ks ks2 : List (List Key)}{ws ws2 : List W}{h:List Ob}{jg jm : Nat}
noncomputable def bB : Env' → M Fl := (sIf (mAnd (mB (m2 eqW (m2 andW (m2 shrW (mVar 4) (mVar 7)) (mC (.int 1))) (mC (.int 1)))) (mB (m2 fu (mTup (mCons (mVar 5) (mCons (mVar 7) mNil))) (mVar 2)))) (sSeq (sSet 8 (m2 ixT' (mVar 3) (mTup (mCons (m2 subW (mVar 4) (m2 shlW (mC (.int 1)) (mVar 7))) (mCons (mVar 7) mNil))))) (sSet 6 (m2 addW (mVar 6) (mTl (mulL (mTl (lenG (mCons (m2 addW (mVar 8) (mGetT (mVar 1) (mTup (mCons (mVar 5) (mCons (mVar 7) mNil))) (mC (.int 0)))) mNil))) (mCall intW (mCons (m2 geW (mVar 8) (mC (.int 0))) mNil))))))) sNil)
noncomputable def bA : Env' → M Fl := (sIf (mAnd (mB (m2 eqW (m2 andW (m2 shrW (mVar 4) (mVar 5)) (mC (.int 1))) (mC (.int 0)))) (mB (m2 eqW (m2 andW (mVar 4) (mC (.int 1))) (mC (.int 0))))) (sSeq (sSet 6 (m3 slW (mTl (lenG (mCons (mC (.int 0)) mNil))) ay (mPart (mCall intW (mCons (m2 eqW (mVar 4) (mC (.int 0))) mNil))))) (sSeq (sFor (mSrcA (mCons (mVar 0) mNil) rng1) (tgN 7) bB) (aP (mVar 3) (mKt (mCons (mVar 4) (mCons (mVar 5) mNil))) (mMaxD (mVar 6) (m1 negW (mC (.int 1))))))) sNil)
theorem hW : dI = (sSeq (sSet 3 gW) (sSeq (sFor (mSrcA (mCons (m2 shlW (mC (.int 1)) (mVar 0)) mNil) rng1) (tgN 4) (sFor (mSrcA (mCons (mVar 0) mNil) rng1) (tgN 5) bA)) (sRet (m2 ixT' (mVar 3) (mTup (mCons (m2 subW (m2 shlW (mC (.int 1)) (mVar 0)) (mC (.int 2))) (mCons (mC (.int 0)) mNil))))))) := rfl
structure Sm (G:Int → Int → Int) (bar : List (List Int)) (m i x b : Nat) (ns : List Int) : Prop where
  len : ns.length ≤ 1 + b
  p1 : ∀ v ∈ ns,(i = 0 ∧ v = 0) ∨ ∃ c,c < m ∧ i.testBit c = true ∧ [(x:Int),(c:Int)] ∉ bar ∧ ∃ V',Bst G bar m (i - 2 ^ c) c V' ∧ 0 ≤ V' ∧ v = V' + G x c
  p2 : i = 0 → 0 ∈ ns
  p3 : ∀ c,c < b → i.testBit c = true → [(x:Int),(c:Int)] ∉ bar → ∃ V',Bst G bar m (i - 2 ^ c) c V' ∧ (0 ≤ V' → V' + G x c ∈ ns)
theorem vX {a8 : Option W}{b:Nat}{ns : List Int} (m2 : m ≤ 10) (hb : b < m) (eg : h[jg]? = some (.dit ks ws)) (GG : GK ks ws G) (em : h[jm]? = some (.dit ks2 ws2)) (D:DI G bar m i x ks2 ws2) (i0 : i.testBit 0 = false) (S:Sm G bar m i x b ns) :
    Ok (bB [some (.int (m:Int)),some (.loc jg),some (.tl (bar.map barW)),some (.loc jm),some (.int (i:Int)),some (.int (x:Int)),some (.tl (ns.map W.int)),some (.int (b:Int)),a8]) h fun r h' => h' = h ∧ ∃ (ns2 : List Int) (b8 : Option W),r = .nx [some (.int (m:Int)),some (.loc jg),some (.tl (bar.map barW)),some (.loc jm),some (.int (i:Int)),some (.int (x:Int)),some (.tl (ns2.map W.int)),some (.int (b:Int)),b8] ∧ Sm G bar m i x (b + 1) ns2 :=by
  unfold bB
  have sh : shrW (.int (i:Int)) (.int (b:Int)) = pr (.int ((i:Int) / 2 ^ (b:Int).toNat)) := kY (by omega)
  cases tb : i.testBit b with
  | false =>
    have bw := bitW i b
    rw [tb] at bw
    simp! only [aa,sh,bw]
    simp! only [aa,show decide ((0 : Int) = 1) = false by decide]
    exact aw ⟨rfl,ns,_,rfl,⟨Nat.le_succ_of_le S.len,S.p1,S.p2,fun c hc tc nb => by
      rcases Nat.lt_succ_iff_lt_or_eq.mp hc with l | e
      · exact S.p3 c l tc nb
      · rw [e,tb] at tc; cases tc⟩⟩
  | true =>
    have bw := bitW i b
    rw [tb] at bw
    have ge : 2 ^ b ≤ i := Nat.ge_two_pow_of_testBit tb
    have pb := Nat.two_pow_pos b
    by_cases nb : [(x:Int),(b:Int)] ∈ bar
    · simp! only [aa,sh,bw,tupW,ft,decide_eq_true nb]
      simp! only [aa,show decide ((1 : Int) = 1) = true by decide,tupW,ft,decide_eq_true nb]
      exact aw ⟨rfl,ns,_,rfl,⟨Nat.le_succ_of_le S.len,S.p1,S.p2,fun c hc tc n2 => by
        rcases Nat.lt_succ_iff_lt_or_eq.mp hc with l | e
        · exact S.p3 c l tc n2
        · rw [e] at n2; exact absurd nb n2⟩⟩
    · obtain ⟨V,eV,B⟩ := D (i - 2 ^ b) b (.inl (by omega)) hb (by rw [gE tb]; simp) (by rw [gE tb,i0]; rfl)
      have es : subW (.int (i:Int)) (.int ((2 ^ b : Nat) : Int)) = pr (.int ((i - 2 ^ b : Nat) : Int)) :=by
        rw [subW_int,Int.ofNat_sub ge]
      simp! only [aa,sh,bw,tupW,ft,decide_eq_false nb,shl1 (show b ≤ 100 by omega),es]
      simp! only [aa,show decide ((1 : Int) = 1) = true by decide,tupW,ft,decide_eq_false nb,shl1 (show b ≤ 100 by omega),es]
      refine nU em eV ?_
      simp! only [mulL,mGetT,aa,tupW]
      refine gf eg ?_
      simp! only [aa,tupW]
      refine aY (gC eg rfl) ?_
      rw [GG.get (x:Int) (b:Int)]
      simp!
      have ix : i.testBit b = true := tb
      have nx : [(x:Int),(b:Int)] ∉ bar := nb
      by_cases v0 : 0 ≤ V
      · simp! only [aa,decide_eq_true v0,tW]
        rw [gu,aI,rep1,aI,gG _ _ (show (ns.map W.int).length + [W.int (V + G x b)].length ≤ sizeLine by rw [List.length_map]; have := S.len; exact sz (show _ + 1 ≤ 100000 by omega)),aI]
        refine aw ⟨rfl,ns ++ [V + G x b],_,by rw [List.map_append]; rfl,⟨by rw [List.length_append]; have := S.len; show ns.length + 1 ≤ _; omega,fun v hv => ?_,fun z => List.mem_append_left _ (S.p2 z),fun c hc tc nc => ?_⟩⟩
        · rcases List.mem_append.mp hv with hv | hv
          · exact S.p1 v hv
          · exact .inr ⟨b,hb,ix,nx,V,B,v0,List.mem_singleton.mp hv⟩
        · rcases Nat.lt_succ_iff_lt_or_eq.mp hc with l | e
          · obtain ⟨V',B',k⟩ := S.p3 c l tc nc
            exact ⟨V',B',fun z => List.mem_append_left _ (k z)⟩
          · subst e
            exact ⟨V,B,fun _ => List.mem_append_right _ (List.mem_singleton.mpr rfl)⟩
      · simp! only [aa,decide_eq_false v0,tX]
        rw [gu,aI,rep0,aI,gG _ _ (show (ns.map W.int).length + ([] : List W).length ≤ sizeLine by rw [List.length_map]; have := S.len; exact sz (show _ + 0 ≤ 100000 by omega)),aI,List.append_nil]
        refine aw ⟨rfl,ns,_,rfl,⟨Nat.le_succ_of_le S.len,S.p1,S.p2,fun c hc tc nc => ?_⟩⟩
        rcases Nat.lt_succ_iff_lt_or_eq.mp hc with l | e
        · exact S.p3 c l tc nc
        · subst e
          exact ⟨V,B,fun z => absurd z v0⟩
theorem cut0 (b:Bool) : cutW [W.int 0] none (some (if b = true then (1 : Int) else 0)) = (if b = true then [(0 : Int)] else []).map W.int :=by cases b <;> rfl
theorem vY {a6 a7 a8 : Option W}{N:Nat} (hps : ∀ l : List Int,l.Nodup → 0 ≤ psum G l) (m2 : m ≤ 10) (hx : x < m) (hi : i < 2 ^ m) (eg : h[jg]? = some (.dit ks ws)) (GG : GK ks ws G) (jn : jg ≠ jm) (em : h[jm]? = some (.dit ks2 ws2)) (l2 : ks2.length = ws2.length) (lN : ks2.length ≤ N) (hN : N ≤ 20000) (D:DI G bar m i x ks2 ws2) :
    Ok (bA [some (.int (m:Int)),some (.loc jg),some (.tl (bar.map barW)),some (.loc jm),some (.int (i:Int)),some (.int (x:Int)),a6,a7,a8]) h fun r h' => ∃ (b6 b7 b8 : Option W) (ks3 : List (List Key)) (ws3 : List W),r = .nx [some (.int (m:Int)),some (.loc jg),some (.tl (bar.map barW)),some (.loc jm),some (.int (i:Int)),some (.int (x:Int)),b6,b7,b8] ∧ h'[jm]? = some (.dit ks3 ws3) ∧ ks3.length = ws3.length ∧ ks3.length ≤ N + 1 ∧ h'.length = h.length ∧ (∀ k,k ≠ jm → h'[k]? = h[k]?) ∧ DI G bar m i (x + 1) ks3 ws3 :=by
  unfold bA
  have sh : shrW (.int (i:Int)) (.int (x:Int)) = pr (.int ((i:Int) / 2 ^ (x:Int).toNat)) := kY (by omega)
  have bw := bitW i x
  have b0 := bit0 i
  have skip : (i.testBit x = true ∨ i.testBit 0 = true) → DI G bar m i (x + 1) ks2 ws2 := fun z l y hl hy t1 t2 => by
    rcases hl with hl | ⟨e,hl⟩
    · exact D l y (.inl hl) hy t1 t2
    · rcases Nat.lt_succ_iff_lt_or_eq.mp hl with l' | e'
      · exact D l y (.inr ⟨e,l'⟩) hy t1 t2
      · rw [e,e'] at t1
        rw [e] at t2
        rcases z with z | z
        · rw [z] at t1; cases t1
        · rw [z] at t2; cases t2
  cases tx : i.testBit x with
  | true =>
    rw [tx] at bw
    simp! only [aa,sh,bw]
    simp! only [aa,show decide ((1 : Int) = 0) = false by decide]
    exact aw ⟨_,_,_,ks2,ws2,rfl,em,l2,Nat.le_succ_of_le lN,rfl,fun _ _ => rfl,skip (.inl tx)⟩
  | false =>
    rw [tx] at bw
    cases t0 : i.testBit 0 with
    | true =>
      rw [t0] at b0
      simp! only [aa,sh,bw,b0]
      simp! only [aa,show decide ((1 : Int) = 0) = false by decide,show decide ((0 : Int) = 0) = true by decide,b0]
      exact aw ⟨_,_,_,ks2,ws2,rfl,em,l2,Nat.le_succ_of_le lN,rfl,fun _ _ => rfl,skip (.inr t0)⟩
    | false =>
      rw [t0] at b0
      have eb : decide ((i:Int) = 0) = decide (i = 0) := decide_eq_decide.mpr (by omega)
      have ib : intW [.bl (decide (i = 0))] = pr (.int (if decide (i = 0) = true then (1 : Int) else 0)) := rfl
      simp! only [aa,sh,bw,b0]
      simp! only [aa,show decide ((0 : Int) = 0) = true by decide,b0,eb,ib,cut0,ck (show (-(2 ^ 62) : Int) ≤ (m:Int) by omega) (show (m:Int) < 2 ^ 62 by omega)]
      have S0 : Sm G bar m i x 0 (if decide (i = 0) = true then [0] else []) :=by
        by_cases z : i = 0
        · rw [if_pos (decide_eq_true z)]
          exact ⟨Nat.le_refl _,fun v hv => .inl ⟨z,List.mem_singleton.mp hv⟩,fun _ => List.mem_singleton.mpr rfl,fun c hc => absurd hc (Nat.not_lt_zero c)⟩
        · rw [if_neg (by rw [decide_eq_false z]; simp)]
          exact ⟨Nat.zero_le _,fun v hv => absurd hv List.not_mem_nil,fun q => absurd q z,fun c hc => absurd hc (Nat.not_lt_zero c)⟩
      refine da (I := fun b ρ h' => h' = h ∧ ∃ (ns : List Int) (a7 a8 : Option W),ρ = [some (.int (m:Int)),some (.loc jg),some (.tl (bar.map barW)),some (.loc jm),some (.int (i:Int)),some (.int (x:Int)),some (.tl (ns.map W.int)),a7,a8] ∧ Sm G bar m i x b ns) ⟨rfl,_,_,_,rfl,S0⟩ (fun _ _ _ _ => trivial) (fun b w ρ h1 hw I => ?_) fun ρ h1 I => ?_
      · obtain ⟨rfl,ns,a7,a8,rfl,S⟩ := I
        obtain ⟨rfl,hb⟩ := bg _ _ _ _ hw
        have hb : b < m :=by omega
        refine ⟨_,rfl,?_⟩
        rw [Int.zero_add]
        exact Ok.imp (vX (a8 := a8) m2 hb eg GG em D t0 S) fun r h2 ⟨eh,ns2,b8,er,S2⟩ => ⟨_,er,eh,ns2,_,_,rfl,S2⟩
      · obtain ⟨rfl,ns,a7,a8,rfl,S⟩ := I
        have ln : (intsW 0 (m:Int).toNat).length = m :=by rw [aR]; omega
        rw [ln] at S
        have B := rP hps hi tx S.p1 S.p2 S.p3
        simp! only [mMaxD,mKt,aa,kt2,gu,iOfs]
        rcases ep : putW ks2 ws2 [.inl (i:Int),.inl (x:Int)] (.int (if ns = [] then -1 else maxZ ns)) with ⟨ks3,ws3⟩
        obtain ⟨q1,q2,q3⟩ := iA l2 ep
        refine mK em (Nat.lt_of_le_of_lt (show _ ≤ 20000 by omega) (by decide)) ep ?_
        simp!
        refine aw ⟨_,_,_,ks3,ws3,rfl,dG em,q1,by omega,List.length_set ..,fun k hk => List.getElem?_set_ne (Ne.symm hk),fun l y hl hy t1 t2 => ?_⟩
        rw [q3]
        by_cases e : ([.inl (i:Int),.inl (x:Int)] : List Key) = [.inl (l:Int),.inl (y:Int)]
        · rw [if_pos e]
          injection e with e1 e2
          injection e2 with e2 _
          injection e1 with e1
          injection e2 with e2
          have e1 : i = l := Int.ofNat_inj.mp e1
          have e2 : x = y := Int.ofNat_inj.mp e2
          subst e1 e2
          exact ⟨_,rfl,B⟩
        · rw [if_neg e]
          rcases hl with hl | ⟨e1,hl⟩
          · exact D l y (.inl hl) hy t1 t2
          · rcases Nat.lt_succ_iff_lt_or_eq.mp hl with l' | e2
            · exact D l y (.inr ⟨e1,l'⟩) hy t1 t2
            · exact absurd (by rw [e1,e2]) e
theorem li (hps : ∀ l : List Int,l.Nodup → 0 ≤ psum G l) (m1 : 1 ≤ m) (m2 : m ≤ 10) (eg : h[jg]? = some (.dit ks ws)) (GG : GK ks ws G) : Ok (cA [.int (m:Int),.loc jg,.tl (bar.map barW)]) h fun r h' => (∃ V,r = .int V ∧ Bst G bar m (2 ^ m - 2) 0 V) ∧ Nw h h' :=by
  have e0 : cA [.int (m:Int),.loc jg,.tl (bar.map barW)] = bd (dI [some (.int (m:Int)),some (.loc jg),some (.tl (bar.map barW)),none,none,none,none,none,none]) finF := rfl
  rw [e0,hW]
  have p10 : 2 ^ m ≤ 2 ^ 10 := Nat.pow_le_pow_right (by decide) m2
  have p1 : 2 ^ 1 ≤ 2 ^ m := Nat.pow_le_pow_right (by decide) m1
  have s1 := shl1 (m := m) (by omega)
  obtain ⟨T,hT⟩ : ∃ T : Nat,T = 2 ^ m := ⟨_,rfl⟩
  rw [← hT] at s1 p10 p1
  have jl := cO eg
  simp!
  refine iT ?_
  have N0 : Nd h (h ++ [Ob.dit [] []]) h.length (.dit [] []) := Nd.mk0
  simp! only [aa,s1,ck (show (-(2 ^ 62) : Int) ≤ (T:Int) by omega) (show (T:Int) < 2 ^ 62 by omega)]
  refine da (I := fun i ρ h' => ∃ (a4 a5 a6 a7 a8 : Option W) (ks2 : List (List Key)) (ws2 : List W),ρ = [some (.int (m:Int)),some (.loc jg),some (.tl (bar.map barW)),some (.loc h.length),a4,a5,a6,a7,a8] ∧ Nd h h' h.length (.dit ks2 ws2) ∧ ks2.length = ws2.length ∧ ks2.length ≤ 10 * i ∧ DI G bar m i 0 ks2 ws2) ⟨_,_,_,_,_,[],[],rfl,N0,rfl,Nat.le_refl _,fun l z hl => by rcases hl with hl | ⟨_,hl⟩ <;> exact absurd hl (Nat.not_lt_zero _)⟩ (fun _ _ _ _ => trivial) (fun i w ρ h1 hw I => ?_) fun ρ h1 I => ?_
  · obtain ⟨a4,a5,a6,a7,a8,ks2,ws2,rfl,N,l2,lN,D⟩ := I
    obtain ⟨rfl,hi⟩ := bg _ _ _ _ hw
    have hi : i < T :=by omega
    refine ⟨_,rfl,?_⟩
    rw [Int.zero_add]
    simp! only [aa,ck (show (-(2 ^ 62) : Int) ≤ (m:Int) by omega) (show (m:Int) < 2 ^ 62 by omega)]
    refine j9 (I := fun x ρ h' => ∃ (a5 a6 a7 a8 : Option W) (ks2 : List (List Key)) (ws2 : List W),ρ = [some (.int (m:Int)),some (.loc jg),some (.tl (bar.map barW)),some (.loc h.length),some (.int (i:Int)),a5,a6,a7,a8] ∧ Nd h h' h.length (.dit ks2 ws2) ∧ ks2.length = ws2.length ∧ ks2.length ≤ 10 * i + x ∧ DI G bar m i x ks2 ws2) ⟨_,_,_,_,ks2,ws2,rfl,N,l2,lN,D⟩ (fun _ _ _ _ => trivial) (fun x w ρ h2 hw I => ?_) fun ρ h2 I => ?_
    · obtain ⟨a5,a6,a7,a8,ks2,ws2,rfl,N,l2,lN,D⟩ := I
      obtain ⟨rfl,hx⟩ := bg _ _ _ _ hw
      have hx : x < m :=by omega
      refine ⟨_,rfl,?_⟩
      rw [Int.zero_add]
      exact Ok.imp (vY (a6 := a6) (a7 := a7) (a8 := a8) hps m2 hx (by omega) (N.nw.get eg) GG (by omega) N.new l2 lN (by omega) D) fun r h3 ⟨b6,b7,b8,ks3,ws3,er,e3,q1,q2,q3,q4,D3⟩ => ⟨_,er,_,_,_,_,ks3,ws3,rfl,⟨⟨by rw [q3]; exact N.nw.le,fun k hk => by rw [q4 k (by omega)]; exact N.nw.eq k hk⟩,Nat.le_refl _,e3⟩,q1,q2,D3⟩
    · obtain ⟨a5,a6,a7,a8,ks2,ws2,rfl,N,l2,lN,D⟩ := I
      have ln : (intsW 0 (m:Int).toNat).length = m :=by rw [aR]; omega
      rw [ln] at lN D
      refine ⟨_,rfl,_,_,_,_,_,ks2,ws2,rfl,N,l2,by omega,fun l z hl hz t1 t2 => ?_⟩
      refine D l z ?_ hz t1 t2
      rcases hl with hl | ⟨_,hl⟩
      · rcases Nat.lt_succ_iff_lt_or_eq.mp hl with l' | e
        · exact .inl l'
        · exact .inr ⟨e,hz⟩
      · exact absurd hl (Nat.not_lt_zero _)
  · obtain ⟨a4,a5,a6,a7,a8,ks2,ws2,rfl,N,l2,lN,D⟩ := I
    have ln : (intsW 0 (T:Int).toNat).length = T :=by rw [aR]; omega
    rw [ln] at D
    have tb : ∀ c,(2 ^ m - 2).testBit c = (decide (c < m) && !(Nat.testBit 1 c)) := fun c => Nat.testBit_two_pow_sub_succ (x := 1) (by omega) c
    have t0 : (2 ^ m - 2).testBit 0 = false :=by rw [tb]; simp
    obtain ⟨V,eV,B⟩ := D (2 ^ m - 2) 0 (.inl (by omega)) (by omega) t0 t0
    have es : subW (.int (T:Int)) (.int 2) = pr (.int ((2 ^ m - 2 : Nat) : Int)) :=by
      rw [subW_int,← hT,Int.ofNat_sub (by omega)]; rfl
    simp! only [aa,s1,es,tupW]
    refine nU N.new eV ?_
    simp!
    exact aw ⟨⟨V,rfl,B⟩,N.nw⟩
end
end
set_option maxHeartbeats 1000000
section
theorem nP : ∀ {o:List Int}{q:List Int},q ∈ prs o → ∃ u v,q = [u,v] ∧ u ∈ o ∧ v ∈ o
  | [],q,h => absurd h List.not_mem_nil
  | [_],q,h => absurd (show q ∈ ([] : List (List Int)) from h) List.not_mem_nil
  | x :: y :: t,q,h => by
    rw [dz] at h
    rcases List.mem_cons.mp h with h | h
    · exact ⟨x,y,h,List.mem_cons_self,List.mem_cons_of_mem _ List.mem_cons_self⟩
    · obtain ⟨u,v,e,hu,hv⟩ := nP h
      exact ⟨u,v,e,List.mem_cons_of_mem _ hu,List.mem_cons_of_mem _ hv⟩
theorem nO : ∀ {t:List Int}{x b : Int},b ∈ t → ∃ p,[p,b] ∈ prs (x :: t)
  | y :: t,x,b,h => by
    rw [dz]
    rcases List.mem_cons.mp h with e | h
    · exact ⟨x,by rw [e]; exact List.mem_cons_self⟩
    · obtain ⟨p,hp⟩ := nO (x := y) h
      exact ⟨p,List.mem_cons_of_mem _ hp⟩
theorem j3 : ∀ {t:List Int}{x u v : Int},[u,v] ∈ prs (x :: t) → v ∈ t
  | [],x,u,v,h => absurd (show [u,v] ∈ ([] : List (List Int)) from h) List.not_mem_nil
  | y :: t,x,u,v,h => by
    rw [dz] at h
    rcases List.mem_cons.mp h with h | h
    · injection h with _ h; injection h with h _; rw [h]; exact List.mem_cons_self
    · exact List.mem_cons_of_mem _ (j3 h)
theorem nQ : ∀ {o:List Int}{u u' v : Int},o.Nodup → [u,v] ∈ prs o → [u',v] ∈ prs o → u = u'
  | [],u,u',v,_,h,_ => absurd h List.not_mem_nil
  | [_],u,u',v,_,h,_ => absurd (show [u,v] ∈ ([] : List (List Int)) from h) List.not_mem_nil
  | x :: y :: t,u,u',v,nd,h1,h2 => by
    have nd2 := (List.nodup_cons.mp nd).2
    have ny := (List.nodup_cons.mp nd2).1
    rw [dz] at h1 h2
    rcases List.mem_cons.mp h1 with e1 | h1 <;> rcases List.mem_cons.mp h2 with e2 | h2
    · injection e1 with e1 _; injection e2 with e2 _; rw [e1,e2]
    · injection e1 with _ e1; injection e1 with e1 _; rw [e1] at h2; exact absurd (j3 h2) ny
    · injection e2 with _ e2; injection e2 with e2 _; rw [e2] at h1; exact absurd (j3 h1) ny
    · exact nQ nd2 h1 h2
noncomputable def bar1 (m:Nat) (a b : Int) : List (List Int) := ((ia m).filter fun y => !decide (y = b)).map (fun y => [a,y]) ++ ((ia m).filter fun y => !decide (y = a)).map (fun y => [y,b])
theorem vT {m:Nat}{x:Int} (h0 : 0 ≤ x) (h1 : x < m) : x ∈ ia m := List.mem_map.mpr ⟨x.toNat,List.mem_range.mpr (by omega),by omega⟩
section
variable {m:Nat}{t:List Int}{a b : Int}
theorem okp1 (m1 : 1 ≤ m) (p:t.Perm (upto (m - 1))) (b1 : b < m) (b0 : 1 ≤ b) : Okp (bar1 m a b) (0 :: t) ↔ aft (0 :: t) a = some b :=by
  have nd : (0 :: t).Nodup := (p.cons 0).nodup_iff.mpr (bY m)
  have inn : ∀ x ∈ (0 :: t : List Int),0 ≤ x ∧ x < m := fun x hx => by
    rcases List.mem_cons.mp hx with e | hx
    · omega
    · have := upto_mem.mp (p.mem_iff.mp hx); omega
  rw [← fY nd]
  constructor
  · intro ok
    obtain ⟨q,hq⟩ := nO (x := 0) (p.mem_iff.mpr (upto_mem.mpr (show 1 ≤ b ∧ b ≤ ((m - 1 : Nat) : Int) by omega)))
    by_cases e : q = a
    · rw [← e]; exact hq
    · obtain ⟨u,v,e2,hu,_⟩ := nP hq
      injection e2 with e2 _
      have := inn u hu
      exact absurd (List.mem_append_right _ (List.mem_map.mpr ⟨q,List.mem_filter.mpr ⟨vT (by omega) (by omega),by rw [decide_eq_false e]; rfl⟩,rfl⟩)) (ok _ hq)
  · intro ad q hq hb
    rcases List.mem_append.mp hb with hb | hb
    · obtain ⟨y,hy,rfl⟩ := List.mem_map.mp hb
      have ny := (List.mem_filter.mp hy).2
      have e1 := (fY nd).mp hq
      have e2 := (fY nd).mp ad
      rw [e1] at e2
      cases e2
      simp at ny
    · obtain ⟨y,hy,rfl⟩ := List.mem_map.mp hb
      have ny := (List.mem_filter.mp hy).2
      have := nQ nd hq ad
      rw [this] at ny
      simp at ny
theorem okp2 (p:t.Perm (upto (m - 1))) : Okp [[a,b]] (0 :: t) ↔ ¬ aft (0 :: t) a = some b :=by
  have nd : (0 :: t).Nodup := (p.cons 0).nodup_iff.mpr (bY m)
  rw [← fY nd]
  constructor
  · exact fun ok h => ok _ h (List.mem_singleton.mpr rfl)
  · intro n q hq hb
    rw [List.mem_singleton.mp hb] at hq
    exact n hq
end
theorem s9 {es : List E17}{cs : List Int}{w:Way}{m:Nat}{V1 V2 : Int} (m1 : 1 ≤ m) (F:TF es cs w m) (b1 : w.2.2 < m) (b0 : 1 ≤ w.2.2) (B1 : Bst (G0 es cs w) (bar1 m w.1 w.2.2) m (2 ^ m - 2) 0 V1) (B2 : Bst (G0 es cs w) [[w.1,w.2.2]] m (2 ^ m - 2) 0 V2) :
    (if V2 - V1 > 0 then V2 - V1 else 0) = turnV es cs w m :=by
  have un : (upto (m - 1)).Nodup := (List.nodup_cons.mp (bY m)).2
  have bf := pT m1
  rw [F.val]
  have top0 := F.top0
  have top1 := F.top1
  have pos := F.pos
  have q0 := ij (G0 es cs w) (last := 0) un
  have q1 := ij (G1 es cs w) (last := 0) un
  have e1 : o1 es cs w m = 0 :: (tT (G1 es cs w) 0 (upto (m - 1))).2 := rfl
  have e0 : o0 es cs w m = 0 :: (tT (G0 es cs w) 0 (upto (m - 1))).2 := rfl
  have ad := F.adj
  rw [e1] at ad top1 ⊢
  rw [e0] at top0 ⊢
  generalize (tT (G1 es cs w) 0 (upto (m - 1))).2 = t1 at *
  generalize (tT (G0 es cs w) 0 (upto (m - 1))).2 = t0 at *
  have x1 := B1.1 t1 (q1.trans bf.symm) ((okp1 m1 q1 b1 b0).mpr ad)
  have x2 := pos t1 q1
  have v1 : V1 = psum (G0 es cs w) (0 :: t1) :=by
    rcases B1.2 with z | ⟨_,t,p,ok,et⟩
    · omega
    · have p' := p.trans bf
      have := top1 t p' ((okp1 m1 p' b1 b0).mp ok)
      omega
  have x3 := top0 t1 q1
  have x4 : V2 ≤ psum (G0 es cs w) (0 :: t0) :=by
    rcases B2.2 with z | ⟨_,t,p,ok,et⟩
    · have := pos t0 q0; omega
    · have := top0 t (p.trans bf); omega
  by_cases c : aft (0 :: t0) w.1 = some w.2.2
  · have x5 := top1 t0 q0 c
    rw [if_neg (by omega)]; omega
  · have x6 := B2.1 t0 (q0.trans bf.symm) ((okp2 q0).mpr c)
    split <;> omega
theorem vf {h:List Ob}{bs : List B23}{cs : List Int}{w:Way}{m:Nat} (m1 : 1 ≤ m) (m2 : m ≤ 10) (lb : bs.length = m) (hb : ∀ b ∈ bs,b.e.tos.length ≤ 6) (hc : (waysL (esOf bs)).length = cs.length) (c0 : ∀ c ∈ cs,0 ≤ c) (l60 : cs.length ≤ 60) (y:Wy bs m w) :
    Ok (dy [pgW bx0 bs,.tl (cs.map W.int),wayW w]) h fun r h' => r = dueW (esOf bs) cs w m ∧ Nw h h' :=by
  have e0 : dy [pgW bx0 bs,.tl (cs.map W.int),wayW w] = bd (fF [some (pgW bx0 bs),some (.tl (cs.map W.int)),some (wayW w),none,none,none,none]) finF := rfl
  have ec := sN (bx := bx0) y
  have lg := fun h : List Ob => pk (h := h) (bx := bx0) (w := w) (by omega) hb hc l60
  have hp : ixW (pgW bx0 bs) (.int 1) = pr (.tl (bs.map B23.w)) := ix1 ..
  rw [e0]
  unfold fF
  unfold dueW
  cases q : canB (esOf bs) w with
  | false =>
    rw [q] at ec
    simp! only [aa,ec]
    exact aw ⟨rfl,Nw.refl h⟩
  | true =>
    rw [q] at ec
    have F := iI m1 hc c0 y.mem y.a0 y.a1 y.b0 y.b1 q
    have ct : w.2.2 ≠ 0 :=by
      unfold canB at q
      have : tabOf (esOf bs) w.1 = false ∧ w.2.2 ≠ w.1 ∧ w.2.2 ≠ 0 :=by simpa using q
      exact this.2.2
    have yb0 := y.b0
    have yb1 := y.b1
    have hps : ∀ l : List Int,l.Nodup → 0 ≤ psum (G0 (esOf bs) cs w) l := fun l nd => by
      have e2 := dq nd (zsL (esOf bs) (setc (esOf bs) cs w 0))
      have e3 := gM (esOf bs) w l (waysL (esOf bs)) cs c0
      unfold G0
      rw [e2]
      exact e3.1
    have dv := fun {V1 V2 : Int} (B1 : Bst (G0 (esOf bs) cs w) (bar1 m w.1 w.2.2) m (2 ^ m - 2) 0 V1) (B2 : Bst (G0 (esOf bs) cs w) [[w.1,w.2.2]] m (2 ^ m - 2) 0 V2) => s9 m1 F y.b1 (by omega) B1 B2
    generalize pgW bx0 bs = P at *
    generalize W.tl (cs.map W.int) = C at *
    simp! only [aa,ec]
    rw [hp]
    simp!
    rw [show (((bs.map B23.w).length : Nat) : Int) = (m:Int) by rw [List.length_map,lb]]
    refine aX (lg _) fun r h1 qq_ => ?_
    obtain ⟨ks,ws,er,N1,GG⟩ := qq_
    subst er
    generalize G0 (esOf bs) cs w = G at *
    generalize turnV (esOf bs) cs w m = V at *
    have il : (ia m).length = m :=by unfold ia; rw [List.length_map,List.length_range]
    have gl : ∀ {α : Type} (q:M α),gd (((ia m).map W.int).length ≤ sizeLine) q = q := fun q => aq (by rw [List.length_map,il]; exact sz (by omega))
    simp! only [aa,ck (show (-(2 ^ 62) : Int) ≤ (m:Int) by omega) (show (m:Int) < 2 ^ 62 by omega),Int.toNat_natCast,oj,gl]
    refine iU (I := fun n a h' => h' = h1 ∧ a = ((((ia m).take n).filter fun y => !decide (y = w.2.2)).map fun y => [w.1,y]).map barW) ⟨rfl,rfl⟩ (fun _ _ _ _ => trivial) (fun n x a h' hx I => ?_) fun a h' I => ?_
    · obtain ⟨rfl,rfl⟩ := I
      rw [List.getElem?_map] at hx
      obtain ⟨u,hu,rfl⟩ := Option.map_eq_some_iff.mp hx
      refine ⟨_,rfl,?_⟩
      simp! only [List.replicate,List.cons_append,List.nil_append,aa,i7,hE,tupW]
      rw [aS hu,List.filter_append]
      by_cases z : u = w.2.2
      · refine aw (.inl ⟨by simp only [decide_eq_true z,Bool.not_true],rfl,?_⟩)
        rw [show ([u].filter fun y => !decide (y = w.2.2)) = [] by rw [List.filter_cons,List.filter_nil,decide_eq_true z]; rfl,List.append_nil]
      · refine aw (.inr ⟨by simp only [decide_eq_false z,Bool.not_false],aw ⟨rfl,?_⟩⟩)
        rw [show ([u].filter fun y => !decide (y = w.2.2)) = [u] by rw [List.filter_cons,List.filter_nil,decide_eq_false z]; rfl,List.map_append,List.map_append]
        rfl
    · obtain ⟨rfl,rfl⟩ := I
      rw [List.length_map,List.take_length]
      simp! only [aa,ck (show (-(2 ^ 62) : Int) ≤ (m:Int) by omega) (show (m:Int) < 2 ^ 62 by omega),Int.toNat_natCast,oj,gl]
      refine iU (I := fun n a h2 => h2 = h' ∧ a = ((((ia m).take n).filter fun y => !decide (y = w.1)).map fun y => [y,w.2.2]).map barW) ⟨rfl,rfl⟩ (fun _ _ _ _ => trivial) (fun n x a h2 hx I => ?_) fun a h2 I => ?_
      · obtain ⟨rfl,rfl⟩ := I
        rw [List.getElem?_map] at hx
        obtain ⟨u,hu,rfl⟩ := Option.map_eq_some_iff.mp hx
        refine ⟨_,rfl,?_⟩
        simp! only [List.replicate,List.cons_append,List.nil_append,aa,i7,hE,tupW]
        rw [aS hu,List.filter_append]
        by_cases z : u = w.1
        · refine aw (.inl ⟨by simp only [decide_eq_true z,Bool.not_true],rfl,?_⟩)
          rw [show ([u].filter fun y => !decide (y = w.1)) = [] by rw [List.filter_cons,List.filter_nil,decide_eq_true z]; rfl,List.append_nil]
        · refine aw (.inr ⟨by simp only [decide_eq_false z,Bool.not_false],aw ⟨rfl,?_⟩⟩)
          rw [show ([u].filter fun y => !decide (y = w.1)) = [u] by rw [List.filter_cons,List.filter_nil,decide_eq_false z]; rfl,List.map_append,List.map_append]
          rfl
      · obtain ⟨rfl,rfl⟩ := I
        rw [List.length_map,List.take_length]
        have f1 := List.length_filter_le (fun y => !decide (y = w.2.2)) (ia m)
        have f2 := List.length_filter_le (fun y => !decide (y = w.1)) (ia m)
        simp! only [aa,gG _ _ (show ((((ia m).filter fun y => !decide (y = w.2.2)).map fun y => [w.1,y]).map barW).length + ((((ia m).filter fun y => !decide (y = w.1)).map fun y => [y,w.2.2]).map barW).length ≤ sizeLine by rw [List.length_map,List.length_map,List.length_map,List.length_map]; exact sz (by omega)),← List.map_append]
        refine aX (li (bar := bar1 m w.1 w.2.2) hps m1 m2 N1.new GG) fun r h3 qq_ => ?_
        obtain ⟨⟨V1,er,B1⟩,K3⟩ := qq_
        subst er
        have bt : W.tl [.tup [.int w.1,.int w.2.2]] = .tl (([[w.1,w.2.2]] : List (List Int)).map barW) := rfl
        simp! only [aa,hE,i7,tupW]
        rw [bt]
        refine aX (li (bar := [[w.1,w.2.2]]) hps m1 m2 (K3.get N1.new) GG) fun r h4 qq_ => ?_
        obtain ⟨⟨V2,er,B2⟩,K4⟩ := qq_
        subst er
        have mx : ∀ d : Int,maxW [.int 0,.int d] = pr (.int (if d > 0 then d else 0)) := fun d => rfl
        simp! only [aa,mx]
        rw [dv B1 B2]
        exact aw ⟨rfl,(N1.nw.trans K3).trans K4⟩
theorem sO {l:List W} (p:∀ x ∈ l,Pd 49 x) : neW (.tl l) (.tl []) = pr (.bl (!l.isEmpty)) :=by
  funext h
  obtain ⟨ds,e,c⟩ := gc (h := h) l fun x hx => (p x hx).data
  have d1 : dataH h 50 (.tl l) = some (.list ds) :=by
    show (optL (dataH h 49) l).map PyData.list = _
    rw [e]; rfl
  have d2 : dataH h 50 (.tl []) = some (.list []) := rfl
  have ee : eqB (.tl l) (.tl []) h = some l.isEmpty :=by
    unfold eqB
    rw [show vOf (.tl l) = none from rfl]
    dsimp only
    rw [d1,d2]
    dsimp only
    rw [if_pos ⟨by rw [PyData.canLay0]; exact c,by rw [PyData.canLay0]; rfl⟩,PyData.eqv]
    cases l with
    | nil =>
      cases e
      rw [PyData.eqvAll]; rfl
    | cons x l =>
      cases ds with
      | nil =>
        unfold optL at e
        split at e
        · cases e
        · cases e
      | cons d ds => rw [PyData.eqvAll] <;> simp
  unfold neW
  rw [ee]; rfl
theorem uB (w:Way) : Pd 49 (wayW w) := pdT (by simp) (aL .int (aL .int (aL .int d7)))
theorem uS {β : Type}{h:List Ob}{k:W → M β}{Q:β → List Ob → Prop}{j:Nat}{l:List W}{i:Int}{w:W} (e:h[j]? = some (.lst l)) (i0 : 0 ≤ i) (i1 : i ≤ l.length) (z:l.length < sizeLine) (q:Ok (k .non) (h.set j (.lst (l.take i.toNat ++ [w] ++ l.drop i.toNat))) Q) : Ok (bd (gB (.loc j) [.int i,w]) k) h Q :=by
  refine aY (a := .non) (h' := h.set j (.lst (l.take i.toNat ++ [w] ++ l.drop i.toNat))) ?_ q
  unfold gB
  simp only [e,if_pos (show 0 ≤ i ∧ i ≤ (l.length : Int) ∧ l.length < sizeLine from ⟨i0,i1,z⟩)]
theorem oq {α : Type}{l:List α}{lo hi : Option Int}{x:α} (h:x ∈ cutW l lo hi) : x ∈ l := List.mem_of_mem_drop (List.mem_of_mem_take h)
theorem ot {α : Type} (l:List α) (lo hi : Option Int) : (cutW l lo hi).length ≤ l.length :=by
  unfold cutW
  rw [List.length_take,List.length_drop]
  omega
noncomputable def bL : Env' → M Fl := (sSeq (sFor (mSrc (mVar 6) srcL) (tgN 7) (sIf (mNot (mB (mCall (arW 4 cP) (mCons (mVar 3) (mCons (mVar 5) (mCons (mVar 7) (mCons (mCall (arW 3 dy) (mCons (mVar 3) (mCons (mVar 5) (mCons (mVar 7) mNil)))) mNil))))))) (sRet (mC (.bl false))) sNil)) (sRet (mC (.bl true))))
noncomputable def bM : Env' → M Fl := (sSeq (sIf (mB (m2 gtW (mVar 2) (mC (.int 7)))) (sSet 6 (m3 slW (mVar 6) ay (mPart (mC (.int 1))))) sNil) bL)
noncomputable def bR : Env' → M Fl := (sSeq (sSet 3 (mCall (arW 2 bK) (mCons (mVar 1) (mCons (mVar 2) mNil)))) (sSeq (sSet 4 (mCall (arW 1 bW) (mCons (mVar 3) mNil))) (sSeq (sSet 5 (mCall (arW 2 ci) (mCons (mVar 1) (mCons (mCall lenW (mCons (mVar 4) mNil)) mNil)))) (sSeq (sSet 6 (mNew (catL (m3 slW (mVar 4) ay (mPart (mC (.int 1)))) (m3 slW (mVar 4) (mPart (m1 negW (mC (.int 1)))) ay)))) (sSeq (sIf (mB (m2 neW (mVar 4) (mTl (lenG mNil)))) (sEx (mMeth isL gB (mVar 6) (mCons (mC (.int 0)) (mCons (m2 ixW (mVar 4) (mCall (arW 2 au) (mCons (mVar 1) (mCons (mCall lenW (mCons (mVar 4) mNil)) mNil)))) mNil)))) sNil) bM)))))
theorem oW : ol = (sSeq (sSet 1 (mCall (arW 1 cQ) (mCons (mVar 0) mNil))) (sSeq (sSet 2 (mC (.int 7))) (sSeq (sIf (mB (m2 eqW (mCall (arW 2 au) (mCons (mVar 1) (mCons (mC (.int 16)) mNil))) (mC (.int 3)))) (sSet 2 (m2 addW (mC (.int 8)) (mCall (arW 2 au) (mCons (mVar 1) (mCons (mC (.int 3)) mNil))))) sNil) bR))) := rfl
theorem nX {h:List Ob}{sc jd N g x : W}{bs : List B23}{cs : List Int}{m:Nat}{Z:Int}{sw : List Way} (m1 : 1 ≤ m) (m2 : m ≤ 10) (hZ : Z = (m:Int)) (lb : bs.length = m) (gb : ∀ b ∈ bs,BG Z b) (hc : (waysL (esOf bs)).length = cs.length) (c0 : ∀ c ∈ cs,0 ≤ c) (l60 : cs.length ≤ 60) (LS : Lw h x (sw.map wayW)) (sub : ∀ w ∈ sw,w ∈ waysL (esOf bs)) :
    Ok (bL [some sc,some jd,some N,some (pgW bx0 bs),some g,some (.tl (cs.map W.int)),some x,none]) h fun r _ => r = .rt (.bl true) :=by
  unfold bL
  have hb : ∀ b ∈ bs,b.e.tos.length ≤ 6 := fun b hb => (gb b hb).six
  have du := fun (h:List Ob) {w:Way} (y:Wy bs m w) => vf (h := h) m1 m2 lb hb hc c0 l60 y
  have to := fun (h:List Ob) {w:Way} (y:Wy bs m w) => rX (h := h) m1 m2 lb gb hc c0 l60 y
  generalize pgW bx0 bs = P at *
  generalize W.tl (cs.map W.int) = C at *
  simp!
  refine LS.src fun G hG => ?_
  simp!
  refine da (I := fun i ρ h' => ∃ a,ρ = [some sc,some jd,some N,some P,some g,some C,some x,a] ∧ Nw h h') ⟨_,rfl,Nw.refl h⟩ (fun _ _ _ I => by obtain ⟨_,_,K⟩ := I; exact hG _ (LS.keep K.eq)) (fun i z ρ h7 hz I => ?_) fun ρ h7 I => ?_
  · obtain ⟨a,rfl,K⟩ := I
    rw [List.getElem?_map] at hz
    obtain ⟨w,hw,rfl⟩ := Option.map_eq_some_iff.mp hz
    have y := vo hZ lb gb (sub w (List.mem_of_getElem? hw))
    refine ⟨_,rfl,?_⟩
    simp!
    refine aX (du _ y) fun r h8 qq_ => ?_
    obtain ⟨er,K8⟩ := qq_
    subst er
    simp!
    refine aX (to _ y) fun r h9 qq_ => ?_
    obtain ⟨er,K9⟩ := qq_
    subst er
    simp!
    exact aw ⟨_,rfl,_,rfl,(K.trans K8).trans K9⟩
  · obtain ⟨a,rfl,K⟩ := I
    simp!
    exact aw rfl
theorem qS {h:List Ob}{sc jd g : W}{k:Nat}{bs : List B23}{cs : List Int}{m:Nat}{Z:Int}{sw : List Way} (m1 : 1 ≤ m) (m2 : m ≤ 10) (hZ : Z = (m:Int)) (lb : bs.length = m) (gb : ∀ b ∈ bs,BG Z b) (hc : (waysL (esOf bs)).length = cs.length) (c0 : ∀ c ∈ cs,0 ≤ c) (l60 : cs.length ≤ 60) (e:h[k]? = some (.lst (sw.map wayW))) (sub : ∀ w ∈ sw,w ∈ waysL (esOf bs)) :
    Ok (bM [some sc,some jd,some (.int Z),some (pgW bx0 bs),some g,some (.tl (cs.map W.int)),some (.loc k),none]) h fun r _ => r = .rt (.bl true) :=by
  unfold bM
  have LS : Lw h (.loc k) (sw.map wayW) := .inr ⟨_,rfl,e⟩
  have c1 : cutW (sw.map wayW) none (some 1) = (cutW sw none (some 1)).map wayW := iy ..
  by_cases c : Z > 7
  · simp! only [aa,decide_eq_true c]
    refine LS.sl ?_
    simp!
    rw [c1]
    exact nX m1 m2 hZ lb gb hc c0 l60 (.inl rfl) fun w hw => sub w (oq hw)
  · simp! only [aa,decide_eq_false c]
    exact nX m1 m2 hZ lb gb hc c0 l60 LS sub
theorem nL {h:List Ob}{sc : W}{j j0 c m : Nat}{N:Int} (hN : N = (m:Int)) (m7 : 7 ≤ m) (m2 : m ≤ 10) (D:Dk h j j0 c) (hc : c ≤ 100) : Ok (bR [some sc,some (.loc j),some (.int N),none,none,none,none,none]) h fun r _ => r = .rt (.bl true) :=by
  unfold bR
  simp!
  refine aX (my hN (by omega) m2 D (by omega)) fun w h3 qq_ => ?_
  obtain ⟨bs,ew,lb,gb,D3,K3⟩ := qq_
  subst ew
  have hb : ∀ b ∈ bs,b.e.tos.length ≤ 6 := fun b hb => (gb b hb).six
  have hp : ixW (pgW bx0 bs) (.int 1) = pr (.tl (bs.map B23.w)) := ix1 ..
  have l60 : (waysL (esOf bs)).length ≤ 60 :=by
    have h6' : ∀ e ∈ esOf bs,e.tos.length ≤ 6 := fun e he => by
      obtain ⟨b,hb',rfl⟩ := List.mem_map.mp he
      exact hb b hb'
    have l2 : (esOf bs).length = bs.length :=by unfold esOf; rw [List.length_map]
    have := eP (esOf bs) h6' (esOf bs).length (Nat.le_refl _)
    rw [List.take_length] at this
    omega
  simp!
  refine aX (lO hp (.inl rfl) (by omega) hb) fun w h4 qq_ => ?_
  obtain ⟨ew,eh⟩ := qq_
  subst ew eh
  obtain ⟨L,hL⟩ : ∃ L : Int,L = ((waysL (esOf bs)).length : Int) := ⟨_,rfl⟩
  have eW : lenW [.tl ((waysL (esOf bs)).map wayW)] = pr (.int L) :=by rw [hL,lenW_tl,List.length_map]
  have eL : (((waysL (esOf bs)).map wayW).length : Int) = L :=by rw [hL,List.length_map]
  simp!
  rw [eL]
  refine aX (pN hL (by omega) D3 (by omega)) fun w h5 qq_ => ?_
  obtain ⟨cs,ew,lc,c0,D5,K5⟩ := qq_
  subst ew
  have c1 : cutW ((waysL (esOf bs)).map wayW) none (some 1) = (cutW (waysL (esOf bs)) none (some 1)).map wayW := iy ..
  have c2 : cutW ((waysL (esOf bs)).map wayW) (some (-1)) none = (cutW (waysL (esOf bs)) (some (-1)) none).map wayW := iy ..
  have n1 := ot (waysL (esOf bs)) none (some 1)
  have n2 := ot (waysL (esOf bs)) (some (-1)) none
  simp! only [catL,aa]
  rw [gu,aI,gu,aI,aq (show (cutW ((waysL (esOf bs)).map wayW) none (some 1)).length + (cutW ((waysL (esOf bs)).map wayW) (some (-1)) none).length ≤ sizeLine by rw [c1,c2,List.length_map,List.length_map]; exact sz (by omega)),aI,c1,c2,← List.map_append]
  refine gQ ?_
  have nn := sO (l := (waysL (esOf bs)).map wayW) fun z hz => by
    obtain ⟨w,_,rfl⟩ := List.mem_map.mp hz
    exact uB w
  have sub0 : ∀ w ∈ cutW (waysL (esOf bs)) none (some 1) ++ cutW (waysL (esOf bs)) (some (-1)) none,w ∈ waysL (esOf bs) := fun w hw => by
    rcases List.mem_append.mp hw with hw | hw <;> exact oq hw
  have ln : (cutW (waysL (esOf bs)) none (some 1) ++ cutW (waysL (esOf bs)) (some (-1)) none).length ≤ 120 :=by rw [List.length_append]; omega
  generalize cutW (waysL (esOf bs)) none (some 1) ++ cutW (waysL (esOf bs)) (some (-1)) none = sw at *
  have N6 := (Nf.mk0 (h := h5) (b := .lst (sw.map wayW))).nw
  have D6 := D5.nw N6
  have e6 : (h5 ++ [Ob.lst (sw.map wayW)])[h5.length]? = some (.lst (sw.map wayW)) := ef
  obtain ⟨bj,bj0⟩ := D5.lt
  cases em : ((waysL (esOf bs)).map wayW).isEmpty with
  | true =>
    rw [em] at nn
    simp! only [aa,nn]
    exact qS (by omega) m2 hN lb gb lc.symm c0 (by omega) e6 sub0
  | false =>
    rw [em] at nn
    simp! only [aa,nn]
    refine j8 e6 ?_
    simp!
    rw [eL]
    have lp : 0 < (waysL (esOf bs)).length :=by
      cases q : waysL (esOf bs) with
      | nil => rw [q] at em; cases em
      | cons a l => simp
    refine dD D6 (by omega) (by omega) (Int.lt_of_le_of_lt (show L ≤ 100 by omega) (by decide)) fun v h7 v0 v1 D7 K7 => ?_
    obtain ⟨n,rfl⟩ := Int.eq_ofNat_of_zero_le v0
    obtain ⟨w,hw⟩ : ∃ w,(waysL (esOf bs))[n]? = some w := ⟨_,List.getElem?_eq_getElem (by omega)⟩
    have xw : ixW (.tl ((waysL (esOf bs)).map wayW)) (.int (n:Int)) = pr (wayW w) := dP (oE (by rw [List.getElem?_map,hw]; rfl))
    have e7 : h7[h5.length]? = some (.lst (sw.map wayW)) :=by rw [K7.eq _ (cO e6) (by omega) (by omega)]; exact e6
    simp! only [aa,xw]
    refine uS e7 (by decide) (Int.natCast_nonneg _) (by rw [List.length_map]; exact Nat.lt_of_le_of_lt ln (by decide)) ?_
    simp!
    refine qS (sw := w :: sw) (by omega) m2 hN lb gb lc.symm c0 (by omega) (dG e7) fun u hu => ?_
    rcases List.mem_cons.mp hu with e | hu
    · rw [e]; exact List.mem_of_getElem? hw
    · exact sub0 u hu
theorem sU (ns : List Int) (hh : List Ob) : Ok (jO [.cl (ns.map W.int)]) hh fun w _ => w = .bl true :=by
  have e0 : jO [.cl (ns.map W.int)] = bd (ol [some (.cl (ns.map W.int)),none,none,none,none,none,none,none]) finF := rfl
  rw [e0,oW]
  simp!
  refine aX (tf ns hh) fun w h1 qq_ => ?_
  obtain ⟨j,j0,ew,D1⟩ := qq_
  subst ew
  simp!
  refine dD D1 (by decide) (by decide) (by decide) fun v h2 v0 v1 D2 K2 => ?_
  by_cases c : v = 3
  · simp! only [aa,decide_eq_true c]
    refine dD D2 (by decide) (by decide) (by decide) fun u h3 u0 u1 D3 K3 => ?_
    obtain ⟨m,hm⟩ : ∃ m : Nat,8 + u = (m:Int) := ⟨(8 + u).toNat,by omega⟩
    simp!
    refine aX (nL hm (by omega) (by omega) D3 (by omega)) fun r h4 er => ?_
    subst er
    simp!
    exact aw rfl
  · simp! only [aa,decide_eq_false c]
    refine aX (nL (m := 7) (N := 7) rfl (by decide) (by decide) D2 (by omega)) fun r h4 er => ?_
    subst er
    simp!
    exact aw rfl
theorem law_true (ns : List Int) (hh : List Ob) : ∃ h',jO [.cl (ns.map W.int)] hh = .ok (.bl true) h' :=by
  obtain ⟨w,h',e,rfl⟩ := sU ns hh
  exact ⟨h',e⟩
end
end Q
namespace Q
open PySem L2
noncomputable def spLaw (K:PySem.W.Frag) : Sp := fun vs H Q _ => ∃ (a:Addr) (ns : List Int),vs = [.ref a] ∧ SqL K H a (ns.map V.int) ∧ ns.length ≤ 63 ∧ ∀ H',Q (.bl true) H'
theorem lj {K:PySem.W.Frag}{o:Wo} : ∀ ns : List Int,Rvs K o (ns.map W.int) (ns.map V.int)
  | [] => Rvs.nil
  | n :: r => Rvs.cons (rv_int.mpr rfl) (lj r)
theorem law_ok {P:Program}{w:World}{K:PySem.W.Frag}{mg : Str → Option Value}{base : Heap}{f:Addr}{fd : FuncData} (C:CG P w K mg base 7 "law" f fd ["script"] 1 jO) : FnOk P w K mg base CX0 7 f fd ["script"] (spLaw K) :=
  C.ok.imp fun vs H Q E h => by
    obtain ⟨a,ns,rfl,sq,hn,q⟩ := h
    have nl : ¬ Lv ⟨fun _ => 0,[],H⟩ a := fun ⟨k,b,hk,_⟩ => by simp at hk
    refine ⟨⟨fun _ => 0,[],H⟩,[.cl (ns.map W.int)],rfl,rfl,⟨fun k b hk => by simp at hk,fun j k b c hj => by simp at hj⟩,Rvs.cons ?_ Rvs.nil,?_⟩
    · unfold Rv
      exact ⟨a,_,rfl,sq.imp (fun r => ⟨r,nl⟩) id,lj ns⟩
    · obtain ⟨h',e⟩ := law_true ns []
      show Ps _ _ _ (jO [.cl (ns.map W.int)] []) Q
      rw [e]
      intro p b _ _ _ rb
      rw [rv_bl.mp rb]
      exact q _
theorem all_mk {l:PySem.W.OpenLaw}{w:World}{K:PySem.W.Frag}{h:Heap}{mg : Str → Option Value}{fa f1 f2 f3 f4 f5 f6 f7 f8 f9 f10 f11 f12 f13 f14 f15 f16 f17 f18 f19 f20 f21 f22 f23 f24 : Addr} (X:K.In h) (G:h.Ns mainGlobals mg) (hfa : mg "law" = some (.ref fa))
    {od1 an1 od2 an2 od3 an3 od4 an4 od5 an5 od6 an6 od7 an7 od8 an8 od9 an9 od10 an10 od11 an11 od12 an12 od13 an13 od14 an14 od15 an15 od16 an16 od17 an17 od18 an18 od19 an19 od20 an20 od21 an21 od22 an22 od23 an23 od24 an24 : Option Addr}{sl1 sl2 sl3 sl4 sl5 sl6 sl7 sl8 sl9 sl10 sl11 sl12 sl13 sl14 sl15 sl16 sl17 sl18 sl19 sl20 sl21 sl22 sl23 sl24 : Array (Option Value)}{oc1 kV1 dc1 pm1 cd1 ct1 oc2 kV2 dc2 pm2 cd2 ct2 oc3 kV3 dc3 pm3 cd3 ct3 oc4 kV4 dc4 pm4 cd4 ct4 oc5 kV5 dc5 pm5 cd5 ct5 oc6 kV6 dc6 pm6 cd6 ct6 oc7 kV7 dc7 pm7 cd7 ct7 oc8 kV8 dc8 pm8 cd8 ct8 oc9 kV9 dc9 pm9 cd9 ct9 oc10 kV10 dc10 pm10 cd10 ct10 oc11 kV11 dc11 pm11 cd11 ct11 oc12 kV12 dc12 pm12 cd12 ct12 oc13 kV13 dc13 pm13 cd13 ct13 oc14 kV14 dc14 pm14 cd14 ct14 oc15 kV15 dc15 pm15 cd15 ct15 oc16 kV16 dc16 pm16 cd16 ct16 oc17 kV17 dc17 pm17 cd17 ct17 oc18 kV18 dc18 pm18 cd18 ct18 oc19 kV19 dc19 pm19 cd19 ct19 oc20 kV20 dc20 pm20 cd20 ct20 oc21 kV21 dc21 pm21 cd21 ct21 oc22 kV22 dc22 pm22 cd22 ct22 oc23 kV23 dc23 pm23 cd23 ct23 oc24 kV24 dc24 pm24 cd24 ct24 : Value}
    (a1 : PySem.W.nsIn K mainGlobals "sides_of" = some (some (.ref f1))) (l1 : K.lookup f1 = some ⟨oc1,od1,.func (PySem.W.fnOf "sides_of" "sides_of" (aC cI) (aA cI) (ai cI) .none kV1 dc1 pm1 an1 cd1 ct1),sl1⟩) (c1 : PySem.W.codeIn K cd1 "sides_of" = true) (k1 : PySem.W.keepIn K (.ref f1) = true)
    (a2 : PySem.W.nsIn K mainGlobals "ways" = some (some (.ref f2))) (l2 : K.lookup f2 = some ⟨oc2,od2,.func (PySem.W.fnOf "ways" "ways" (aC gN) (aA gN) (ai gN) .none kV2 dc2 pm2 an2 cd2 ct2),sl2⟩) (c2 : PySem.W.codeIn K cd2 "ways" = true) (k2 : PySem.W.keepIn K (.ref f2) = true)
    (a3 : PySem.W.nsIn K mainGlobals "gains" = some (some (.ref f3))) (l3 : K.lookup f3 = some ⟨oc3,od3,.func (PySem.W.fnOf "gains" "gains" (aC fj) (aA fj) (ai fj) .none kV3 dc3 pm3 an3 cd3 ct3),sl3⟩) (c3 : PySem.W.codeIn K cd3 "gains" = true) (k3 : PySem.W.keepIn K (.ref f3) = true)
    (a4 : PySem.W.nsIn K mainGlobals "cost" = some (some (.ref f4))) (l4 : K.lookup f4 = some ⟨oc4,od4,.func (PySem.W.fnOf "cost" "cost" (aC fL) (aA fL) (ai fL) .none kV4 dc4 pm4 an4 cd4 ct4),sl4⟩) (c4 : PySem.W.codeIn K cd4 "cost" = true) (k4 : PySem.W.keepIn K (.ref f4) = true)
    (a5 : PySem.W.nsIn K mainGlobals "block_sets" = some (some (.ref f5))) (l5 : K.lookup f5 = some ⟨oc5,od5,.func (PySem.W.fnOf "block_sets" "block_sets" (aC bp) (aA bp) (ai bp) .none kV5 dc5 pm5 an5 cd5 ct5),sl5⟩) (c5 : PySem.W.codeIn K cd5 "block_sets" = true) (k5 : PySem.W.keepIn K (.ref f5) = true)
    (a6 : PySem.W.nsIn K mainGlobals "without" = some (some (.ref f6))) (l6 : K.lookup f6 = some ⟨oc6,od6,.func (PySem.W.fnOf "without" "without" (aC cH) (aA cH) (ai cH) .none kV6 dc6 pm6 an6 cd6 ct6),sl6⟩) (c6 : PySem.W.codeIn K cd6 "without" = true) (k6 : PySem.W.keepIn K (.ref f6) = true)
    (a7 : PySem.W.nsIn K mainGlobals "best_tail" = some (some (.ref f7))) (l7 : K.lookup f7 = some ⟨oc7,od7,.func (PySem.W.fnOf "best_tail" "best_tail" (aC cz) (aA cz) (ai cz) .none kV7 dc7 pm7 an7 cd7 ct7),sl7⟩) (c7 : PySem.W.codeIn K cd7 "best_tail" = true) (k7 : PySem.W.keepIn K (.ref f7) = true)
    (a8 : PySem.W.nsIn K mainGlobals "best" = some (some (.ref f8))) (l8 : K.lookup f8 = some ⟨oc8,od8,.func (PySem.W.fnOf "best" "best" (aC gO) (aA gO) (ai gO) .none kV8 dc8 pm8 an8 cd8 ct8),sl8⟩) (c8 : PySem.W.codeIn K cd8 "best" = true) (k8 : PySem.W.keepIn K (.ref f8) = true)
    (a9 : PySem.W.nsIn K mainGlobals "can_be_neighbours" = some (some (.ref f9))) (l9 : K.lookup f9 = some ⟨oc9,od9,.func (PySem.W.fnOf "can_be_neighbours" "can_be_neighbours" (aC aK) (aA aK) (ai aK) .none kV9 dc9 pm9 an9 cd9 ct9),sl9⟩) (c9 : PySem.W.codeIn K cd9 "can_be_neighbours" = true) (k9 : PySem.W.keepIn K (.ref f9) = true)
    (a10 : PySem.W.nsIn K mainGlobals "with_count" = some (some (.ref f10))) (l10 : K.lookup f10 = some ⟨oc10,od10,.func (PySem.W.fnOf "with_count" "with_count" (aC bh) (aA bh) (ai bh) .none kV10 dc10 pm10 an10 cd10 ct10),sl10⟩) (c10 : PySem.W.codeIn K cd10 "with_count" = true) (k10 : PySem.W.keepIn K (.ref f10) = true)
    (a11 : PySem.W.nsIn K mainGlobals "turning" = some (some (.ref f11))) (l11 : K.lookup f11 = some ⟨oc11,od11,.func (PySem.W.fnOf "turning" "turning" (aC dn) (aA dn) (ai dn) .none kV11 dc11 pm11 an11 cd11 ct11),sl11⟩) (c11 : PySem.W.codeIn K cd11 "turning" = true) (k11 : PySem.W.keepIn K (.ref f11) = true)
    (a12 : PySem.W.nsIn K mainGlobals "_law_draw" = some (some (.ref f12))) (l12 : K.lookup f12 = some ⟨oc12,od12,.func (PySem.W.fnOf "_law_draw" "_law_draw" (aC cL) (aA cL) (ai cL) .none kV12 dc12 pm12 an12 cd12 ct12),sl12⟩) (c12 : PySem.W.codeIn K cd12 "_law_draw" = true) (k12 : PySem.W.keepIn K (.ref f12) = true)
    (a13 : PySem.W.nsIn K mainGlobals "_law_deck" = some (some (.ref f13))) (l13 : K.lookup f13 = some ⟨oc13,od13,.func (PySem.W.fnOf "_law_deck" "_law_deck" (aC bT) (aA bT) (ai bT) .none kV13 dc13 pm13 an13 cd13 ct13),sl13⟩) (c13 : PySem.W.codeIn K cd13 "_law_deck" = true) (k13 : PySem.W.keepIn K (.ref f13) = true)
    (a14 : PySem.W.nsIn K mainGlobals "_law_end" = some (some (.ref f14))) (l14 : K.lookup f14 = some ⟨oc14,od14,.func (PySem.W.fnOf "_law_end" "_law_end" (aC cx) (aA cx) (ai cx) .none kV14 dc14 pm14 an14 cd14 ct14),sl14⟩) (c14 : PySem.W.codeIn K cd14 "_law_end" = true) (k14 : PySem.W.keepIn K (.ref f14) = true)
    (a15 : PySem.W.nsIn K mainGlobals "_law_program" = some (some (.ref f15))) (l15 : K.lookup f15 = some ⟨oc15,od15,.func (PySem.W.fnOf "_law_program" "_law_program" (aC bI) (aA bI) (ai bI) .none kV15 dc15 pm15 an15 cd15 ct15),sl15⟩) (c15 : PySem.W.codeIn K cd15 "_law_program" = true) (k15 : PySem.W.keepIn K (.ref f15) = true)
    (a16 : PySem.W.nsIn K mainGlobals "_law_ways" = some (some (.ref f16))) (l16 : K.lookup f16 = some ⟨oc16,od16,.func (PySem.W.fnOf "_law_ways" "_law_ways" (aC cn) (aA cn) (ai cn) .none kV16 dc16 pm16 an16 cd16 ct16),sl16⟩) (c16 : PySem.W.codeIn K cd16 "_law_ways" = true) (k16 : PySem.W.keepIn K (.ref f16) = true)
    (a17 : PySem.W.nsIn K mainGlobals "_law_counts" = some (some (.ref f17))) (l17 : K.lookup f17 = some ⟨oc17,od17,.func (PySem.W.fnOf "_law_counts" "_law_counts" (aC bZ) (aA bZ) (ai bZ) .none kV17 dc17 pm17 an17 cd17 ct17),sl17⟩) (c17 : PySem.W.codeIn K cd17 "_law_counts" = true) (k17 : PySem.W.keepIn K (.ref f17) = true)
    (a18 : PySem.W.nsIn K mainGlobals "_law_gains" = some (some (.ref f18))) (l18 : K.lookup f18 = some ⟨oc18,od18,.func (PySem.W.fnOf "_law_gains" "_law_gains" (aC cw) (aA cw) (ai cw) .none kV18 dc18 pm18 an18 cd18 ct18),sl18⟩) (c18 : PySem.W.codeIn K cd18 "_law_gains" = true) (k18 : PySem.W.keepIn K (.ref f18) = true)
    (a19 : PySem.W.nsIn K mainGlobals "_law_none" = some (some (.ref f19))) (l19 : K.lookup f19 = some ⟨oc19,od19,.func (PySem.W.fnOf "_law_none" "_law_none" (aC cK) (aA cK) (ai cK) .none kV19 dc19 pm19 an19 cd19 ct19),sl19⟩) (c19 : PySem.W.codeIn K cd19 "_law_none" = true) (k19 : PySem.W.keepIn K (.ref f19) = true)
    (a20 : PySem.W.nsIn K mainGlobals "_law_copied" = some (some (.ref f20))) (l20 : K.lookup f20 = some ⟨oc20,od20,.func (PySem.W.fnOf "_law_copied" "_law_copied" (aC bn) (aA bn) (ai bn) .none kV20 dc20 pm20 an20 cd20 ct20),sl20⟩) (c20 : PySem.W.codeIn K cd20 "_law_copied" = true) (k20 : PySem.W.keepIn K (.ref f20) = true)
    (a21 : PySem.W.nsIn K mainGlobals "_law_told" = some (some (.ref f21))) (l21 : K.lookup f21 = some ⟨oc21,od21,.func (PySem.W.fnOf "_law_told" "_law_told" (aC cJ) (aA cJ) (ai cJ) .none kV21 dc21 pm21 an21 cd21 ct21),sl21⟩) (c21 : PySem.W.codeIn K cd21 "_law_told" = true) (k21 : PySem.W.keepIn K (.ref f21) = true)
    (a22 : PySem.W.nsIn K mainGlobals "_law_saved" = some (some (.ref f22))) (l22 : K.lookup f22 = some ⟨oc22,od22,.func (PySem.W.fnOf "_law_saved" "_law_saved" (aC cu) (aA cu) (ai cu) .none kV22 dc22 pm22 an22 cd22 ct22),sl22⟩) (c22 : PySem.W.codeIn K cd22 "_law_saved" = true) (k22 : PySem.W.keepIn K (.ref f22) = true)
    (a23 : PySem.W.nsIn K mainGlobals "_law_due" = some (some (.ref f23))) (l23 : K.lookup f23 = some ⟨oc23,od23,.func (PySem.W.fnOf "_law_due" "_law_due" (aC cy) (aA cy) (ai cy) .none kV23 dc23 pm23 an23 cd23 ct23),sl23⟩) (c23 : PySem.W.codeIn K cd23 "_law_due" = true) (k23 : PySem.W.keepIn K (.ref f23) = true)
    (a24 : PySem.W.nsIn K mainGlobals "law" = some (some (.ref f24))) (l24 : K.lookup f24 = some ⟨oc24,od24,.func (PySem.W.fnOf "law" "law" (aC fX) (aA fX) (ai fX) .none kV24 dc24 pm24 an24 cd24 ct24),sl24⟩) (c24 : PySem.W.codeIn K cd24 "law" = true) (k24 : PySem.W.keepIn K (.ref f24) = true)
    (z1 : PySem.W.nsIn K mainGlobals "bool" = some none)
    (z2 : PySem.W.nsIn K mainGlobals "enumerate" = some none)
    (z3 : PySem.W.nsIn K mainGlobals "int" = some none)
    (z4 : PySem.W.nsIn K mainGlobals "isinstance" = some none)
    (z5 : PySem.W.nsIn K mainGlobals "len" = some none)
    (z6 : PySem.W.nsIn K mainGlobals "list" = some none)
    (z7 : PySem.W.nsIn K mainGlobals "max" = some none)
    (z8 : PySem.W.nsIn K mainGlobals "range" = some none)
    (z9 : PySem.W.nsIn K mainGlobals "sum" = some none)
    (z10 : PySem.W.nsIn K mainGlobals "tuple" = some none)
    (z11 : PySem.W.nsIn K mainGlobals "zip" = some none) :
    ∃ fd : FuncData,(∀ (s:Shared) (v:Value),BindsTo s fd ⟨[v],[]⟩ [("script",v)]) ∧ ∀ base : Heap,K.In base → base.Ns mainGlobals mg → FnOk l.prog w K mg base CX0 7 fa fd ["script"] (spLaw K) :=by
  have e := hfa.symm.trans (PySem.W.mg_of X G a24)
  cases e
  have F1 := aW (st := cI) l1 c1 k1
  have b1 := F1.binds (ps := ["end"]) fun _ _ _ _ _ _ us hl => match us,hl with | [_],_ => rfl
  have m1 := PySem.W.mg_of X G a1
  have F2 := aW (st := gN) l2 c2 k2
  have b2 := F2.binds (ps := ["program"]) fun _ _ _ _ _ _ us hl => match us,hl with | [_],_ => rfl
  have m2 := PySem.W.mg_of X G a2
  have F3 := aW (st := fj) l3 c3 k3
  have b3 := F3.binds (ps := ["program", "counted"]) fun _ _ _ _ _ _ us hl => match us,hl with | [_,_],_ => rfl
  have m3 := PySem.W.mg_of X G a3
  have F4 := aW (st := fL) l4 c4 k4
  have b4 := F4.binds (ps := ["program", "order", "counted"]) fun _ _ _ _ _ _ us hl => match us,hl with | [_,_,_],_ => rfl
  have m4 := PySem.W.mg_of X G a4
  have F5 := aW (st := bp) l5 c5 k5
  have b5 := F5.binds (ps := ["many"]) fun _ _ _ _ _ _ us hl => match us,hl with | [_],_ => rfl
  have m5 := PySem.W.mg_of X G a5
  have F6 := aW (st := cH) l6 c6 k6
  have b6 := F6.binds (ps := ["blocks", "place"]) fun _ _ _ _ _ _ us hl => match us,hl with | [_,_],_ => rfl
  have m6 := PySem.W.mg_of X G a6
  have F7 := aW (st := cz) l7 c7 k7
  have b7 := F7.binds (ps := ["last", "rest", "gained", "tails"]) fun _ _ _ _ _ _ us hl => match us,hl with | [_,_,_,_],_ => rfl
  have m7 := PySem.W.mg_of X G a7
  have F8 := aW (st := gO) l8 c8 k8
  have b8 := F8.binds (ps := ["program", "counted"]) fun _ _ _ _ _ _ us hl => match us,hl with | [_,_],_ => rfl
  have m8 := PySem.W.mg_of X G a8
  have F9 := aW (st := aK) l9 c9 k9
  have b9 := F9.binds (ps := ["program", "way"]) fun _ _ _ _ _ _ us hl => match us,hl with | [_,_],_ => rfl
  have m9 := PySem.W.mg_of X G a9
  have F10 := aW (st := bh) l10 c10 k10
  have b10 := F10.binds (ps := ["program", "counted", "way", "count"]) fun _ _ _ _ _ _ us hl => match us,hl with | [_,_,_,_],_ => rfl
  have m10 := PySem.W.mg_of X G a10
  have F11 := aW (st := dn) l11 c11 k11
  have b11 := F11.binds (ps := ["program", "counted", "way"]) fun _ _ _ _ _ _ us hl => match us,hl with | [_,_,_],_ => rfl
  have m11 := PySem.W.mg_of X G a11
  have F12 := aW (st := cL) l12 c12 k12
  have b12 := F12.binds (ps := ["deck", "many"]) fun _ _ _ _ _ _ us hl => match us,hl with | [_,_],_ => rfl
  have m12 := PySem.W.mg_of X G a12
  have F13 := aW (st := bT) l13 c13 k13
  have b13 := F13.binds (ps := ["script"]) fun _ _ _ _ _ _ us hl => match us,hl with | [_],_ => rfl
  have m13 := PySem.W.mg_of X G a13
  have F14 := aW (st := cx) l14 c14 k14
  have b14 := F14.binds (ps := ["deck", "many"]) fun _ _ _ _ _ _ us hl => match us,hl with | [_,_],_ => rfl
  have m14 := PySem.W.mg_of X G a14
  have F15 := aW (st := bI) l15 c15 k15
  have b15 := F15.binds (ps := ["deck", "many"]) fun _ _ _ _ _ _ us hl => match us,hl with | [_,_],_ => rfl
  have m15 := PySem.W.mg_of X G a15
  have F16 := aW (st := cn) l16 c16 k16
  have b16 := F16.binds (ps := ["program"]) fun _ _ _ _ _ _ us hl => match us,hl with | [_],_ => rfl
  have m16 := PySem.W.mg_of X G a16
  have F17 := aW (st := bZ) l17 c17 k17
  have b17 := F17.binds (ps := ["deck", "many"]) fun _ _ _ _ _ _ us hl => match us,hl with | [_,_],_ => rfl
  have m17 := PySem.W.mg_of X G a17
  have F18 := aW (st := cw) l18 c18 k18
  have b18 := F18.binds (ps := ["program", "counted", "way"]) fun _ _ _ _ _ _ us hl => match us,hl with | [_,_,_],_ => rfl
  have m18 := PySem.W.mg_of X G a18
  have F19 := aW (st := cK) l19 c19 k19
  have b19 := F19.binds (ps := ["program", "way"]) fun _ _ _ _ _ _ us hl => match us,hl with | [_,_],_ => rfl
  have m19 := PySem.W.mg_of X G a19
  have F20 := aW (st := bn) l20 c20 k20
  have b20 := F20.binds (ps := ["program"]) fun _ _ _ _ _ _ us hl => match us,hl with | [_],_ => rfl
  have m20 := PySem.W.mg_of X G a20
  have F21 := aW (st := cJ) l21 c21 k21
  have b21 := F21.binds (ps := ["program", "counted", "way", "due"]) fun _ _ _ _ _ _ us hl => match us,hl with | [_,_,_,_],_ => rfl
  have m21 := PySem.W.mg_of X G a21
  have F22 := aW (st := cu) l22 c22 k22
  have b22 := F22.binds (ps := ["many", "gains_v", "barred"]) fun _ _ _ _ _ _ us hl => match us,hl with | [_,_,_],_ => rfl
  have m22 := PySem.W.mg_of X G a22
  have F23 := aW (st := cy) l23 c23 k23
  have b23 := F23.binds (ps := ["program", "counted", "way"]) fun _ _ _ _ _ _ us hl => match us,hl with | [_,_,_],_ => rfl
  have m23 := PySem.W.mg_of X G a23
  have F24 := aW (st := fX) l24 c24 k24
  have m24 := PySem.W.mg_of X G a24
  have y1 := PySem.W.mg_none_of X G z1
  have y2 := PySem.W.mg_none_of X G z2
  have y3 := PySem.W.mg_none_of X G z3
  have y4 := PySem.W.mg_none_of X G z4
  have y5 := PySem.W.mg_none_of X G z5
  have y6 := PySem.W.mg_none_of X G z6
  have y7 := PySem.W.mg_none_of X G z7
  have y8 := PySem.W.mg_none_of X G z8
  have y9 := PySem.W.mg_none_of X G z9
  have y10 := PySem.W.mg_none_of X G z10
  have y11 := PySem.W.mg_none_of X G z11
  refine ⟨PySem.W.fnOf "law" "law" (aC fX) (aA fX) (ai fX) .none kV24 dc24 pm24 an24 cd24 ct24,fun s v => .of_eq rfl,fun base _ _ => ?_⟩
  have bL := F24.binds (ps := ["script"]) fun _ _ _ _ _ _ us hl => match us,hl with | [_],_ => rfl
  have C_sides_of := ly (P := l.prog) (w := w) (K := K) (mg := mg) (base := base)  F1 b1 m1
  have C_ways := sI (P := l.prog) (w := w) (K := K) (mg := mg) (base := base) y2 C_sides_of F2 b2 m2
  have C_gains := qM (P := l.prog) (w := w) (K := K) (mg := mg) (base := base) y11 C_ways F3 b3 m3
  have C_cost := sK (P := l.prog) (w := w) (K := K) (mg := mg) (base := base) y9 y11 C_gains F4 b4 m4
  have C_block_sets := ju (P := l.prog) (w := w) (K := K) (mg := mg) (base := base) y8 F5 b5 m5
  have C_without := mI (P := l.prog) (w := w) (K := K) (mg := mg) (base := base) y10 F6 b6 m6
  have C_best_tail := kb (P := l.prog) (w := w) (K := K) (mg := mg) (base := base) C_without F7 b7 m7
  have C_best := sL (P := l.prog) (w := w) (K := K) (mg := mg) (base := base) y5 y8 y10 C_gains C_block_sets C_best_tail F8 b8 m8
  have C_can_be_neighbours := eT (P := l.prog) (w := w) (K := K) (mg := mg) (base := base)  F9 b9 m9
  have C_with_count := jq (P := l.prog) (w := w) (K := K) (mg := mg) (base := base) y11 C_ways F10 b10 m10
  have C_turning := mJ (P := l.prog) (w := w) (K := K) (mg := mg) (base := base) y9 C_can_be_neighbours C_with_count C_best C_cost F11 b11 m11
  have C_law_draw := lC (P := l.prog) (w := w) (K := K) (mg := mg) (base := base) y5 F12 b12 m12
  have C_law_deck := lD (P := l.prog) (w := w) (K := K) (mg := mg) (base := base) y3 F13 b13 m13
  have C_law_end := mL (P := l.prog) (w := w) (K := K) (mg := mg) (base := base) y8 y10 C_law_draw F14 b14 m14
  have C_law_program := iS (P := l.prog) (w := w) (K := K) (mg := mg) (base := base) y8 C_law_draw C_law_end F15 b15 m15
  have C_law_ways := lz (P := l.prog) (w := w) (K := K) (mg := mg) (base := base) y2 y3 y6 F16 b16 m16
  have C_law_counts := jr (P := l.prog) (w := w) (K := K) (mg := mg) (base := base) y3 y8 C_law_draw F17 b17 m17
  have C_law_gains := j7 (P := l.prog) (w := w) (K := K) (mg := mg) (base := base) y11 C_law_ways F18 b18 m18
  have C_law_none := lB (P := l.prog) (w := w) (K := K) (mg := mg) (base := base)  F19 b19 m19
  have C_law_copied := js (P := l.prog) (w := w) (K := K) (mg := mg) (base := base) y6 F20 b20 m20
  have C_law_told := lA (P := l.prog) (w := w) (K := K) (mg := mg) (base := base) y1 y3 y4 y6 C_law_copied C_turning F21 b21 m21
  have C_law_saved := j6 (P := l.prog) (w := w) (K := K) (mg := mg) (base := base) y3 y7 y8 F22 b22 m22
  have C_law_due := mM (P := l.prog) (w := w) (K := K) (mg := mg) (base := base) y5 y7 y8 C_law_none C_law_gains C_law_saved F23 b23 m23
  have C_law := uR (P := l.prog) (w := w) (K := K) (mg := mg) (base := base) y5 C_law_deck C_law_draw C_law_program C_law_ways C_law_counts C_law_told C_law_due F24 bL m24
  exact law_ok C_law
theorem walk {l:PySem.W.OpenLaw}{q:Program}{loose : List Str}{XP : (Str → Option Value) → Heap → Prop}{YP : World → Heap → Prop}{d:DefRec}{K:Params → PySem.W.Frag} (hn : l.most = some 63) (hdf : d.params.defaults = [])
    (hY : ∀ (w:World) (h:Heap),YP w h → (K w.params).In h)
    (F:∀ (w:World) (mg : Str → Option Value) (fa : Addr) (h:Heap),(K w.params).In h → h.Ns mainGlobals mg → mg d.name = some (.ref fa) →
      ∃ fd : FuncData,(∀ (s:Shared) (u:Value),BindsTo s fd ⟨[u],[]⟩ [("script",u)]) ∧ ∀ base : Heap,(K w.params).In base → base.Ns mainGlobals mg → FnOk l.prog w (K w.params) mg base CX0 7 fa fd ["script"] (spLaw (K w.params))) :
    PySem.W.WalkO q loose XP YP l.row.toRowW d [] (fun f vs => PySem.call f vs) :=
  L2.walk_of (n := 63) (k := 7) (x := "script") (CX := fun _ => CX0) (sp := fun w => spLaw (K w.params)) hn (by decide) hdf ⟨rfl,by decide,by decide⟩ hY F (fun _ _ a ns hl _ hS => ⟨a,ns,rfl,hS,hl,fun _ => rfl⟩) fun _ _ _ _ _ z => z
end Q
open PySem PySem.W PyProof.Rows
set_option maxRecDepth 100000 in
set_option maxHeartbeats 0 in
theorem PySem.Challenge.cw_blockfall_k37_turning_of_many_blocks_holds : PySem.Challenge.rw_blockfall_k37_turning_of_many_blocks.Holds := by
  w_on; o_law; k_head; (case hw => w_witness2)
  k_fill
  refine Q.walk (l := PySem.Challenge.rw_blockfall_k37_turning_of_many_blocks) rfl rfl (fun w h Y => PySem.W.kIn_of Y) ?F
  case F =>
    intro w mg fa h KX G hmg
    refine' Q.all_mk KX G hmg ?a1 ?l1 ?c1 ?k1 ?a2 ?l2 ?c2 ?k2 ?a3 ?l3 ?c3 ?k3 ?a4 ?l4 ?c4 ?k4 ?a5 ?l5 ?c5 ?k5 ?a6 ?l6 ?c6 ?k6 ?a7 ?l7 ?c7 ?k7 ?a8 ?l8 ?c8 ?k8 ?a9 ?l9 ?c9 ?k9 ?a10 ?l10 ?c10 ?k10 ?a11 ?l11 ?c11 ?k11 ?a12 ?l12 ?c12 ?k12 ?a13 ?l13 ?c13 ?k13 ?a14 ?l14 ?c14 ?k14 ?a15 ?l15 ?c15 ?k15 ?a16 ?l16 ?c16 ?k16 ?a17 ?l17 ?c17 ?k17 ?a18 ?l18 ?c18 ?k18 ?a19 ?l19 ?c19 ?k19 ?a20 ?l20 ?c20 ?k20 ?a21 ?l21 ?c21 ?k21 ?a22 ?l22 ?c22 ?k22 ?a23 ?l23 ?c23 ?k23 ?a24 ?l24 ?c24 ?k24 ?z1 ?z2 ?z3 ?z4 ?z5 ?z6 ?z7 ?z8 ?z9 ?z10 ?z11
    (case a1 => k_is)
    (case l1 => k_is)
    (case c1 => k_is)
    (case k1 => k_is)
    (case a2 => k_is)
    (case l2 => k_is)
    (case c2 => k_is)
    (case k2 => k_is)
    (case a3 => k_is)
    (case l3 => k_is)
    (case c3 => k_is)
    (case k3 => k_is)
    (case a4 => k_is)
    (case l4 => k_is)
    (case c4 => k_is)
    (case k4 => k_is)
    (case a5 => k_is)
    (case l5 => k_is)
    (case c5 => k_is)
    (case k5 => k_is)
    (case a6 => k_is)
    (case l6 => k_is)
    (case c6 => k_is)
    (case k6 => k_is)
    (case a7 => k_is)
    (case l7 => k_is)
    (case c7 => k_is)
    (case k7 => k_is)
    (case a8 => k_is)
    (case l8 => k_is)
    (case c8 => k_is)
    (case k8 => k_is)
    (case a9 => k_is)
    (case l9 => k_is)
    (case c9 => k_is)
    (case k9 => k_is)
    (case a10 => k_is)
    (case l10 => k_is)
    (case c10 => k_is)
    (case k10 => k_is)
    (case a11 => k_is)
    (case l11 => k_is)
    (case c11 => k_is)
    (case k11 => k_is)
    (case a12 => k_is)
    (case l12 => k_is)
    (case c12 => k_is)
    (case k12 => k_is)
    (case a13 => k_is)
    (case l13 => k_is)
    (case c13 => k_is)
    (case k13 => k_is)
    (case a14 => k_is)
    (case l14 => k_is)
    (case c14 => k_is)
    (case k14 => k_is)
    (case a15 => k_is)
    (case l15 => k_is)
    (case c15 => k_is)
    (case k15 => k_is)
    (case a16 => k_is)
    (case l16 => k_is)
    (case c16 => k_is)
    (case k16 => k_is)
    (case a17 => k_is)
    (case l17 => k_is)
    (case c17 => k_is)
    (case k17 => k_is)
    (case a18 => k_is)
    (case l18 => k_is)
    (case c18 => k_is)
    (case k18 => k_is)
    (case a19 => k_is)
    (case l19 => k_is)
    (case c19 => k_is)
    (case k19 => k_is)
    (case a20 => k_is)
    (case l20 => k_is)
    (case c20 => k_is)
    (case k20 => k_is)
    (case a21 => k_is)
    (case l21 => k_is)
    (case c21 => k_is)
    (case k21 => k_is)
    (case a22 => k_is)
    (case l22 => k_is)
    (case c22 => k_is)
    (case k22 => k_is)
    (case a23 => k_is)
    (case l23 => k_is)
    (case c23 => k_is)
    (case k23 => k_is)
    (case a24 => k_is)
    (case l24 => k_is)
    (case c24 => k_is)
    (case k24 => k_is)
    (case z1 => k_is)
    (case z2 => k_is)
    (case z3 => k_is)
    (case z4 => k_is)
    (case z5 => k_is)
    (case z6 => k_is)
    (case z7 => k_is)
    (case z8 => k_is)
    (case z9 => k_is)
    (case z10 => k_is)
    (case z11 => k_is)
#print axioms PySem.Challenge.cw_blockfall_k37_turning_of_many_blocks_holds
