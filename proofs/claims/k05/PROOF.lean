import PyProof.Rows.All
import Wide.All
import OpenK.AllK
import Wide.FinOn
import Lean
import PyProof.EqAt
import PyProof.EqKinds
import PyProof.TupleCall
import PySem.Challenge.RW_blockfall_k05_whole_words_worth
set_option Elab.async false
set_option linter.all false
set_option maxRecDepth 100000
set_option maxHeartbeats 4000000
/-! THE HAND LAYER, for ints, bools, texts, own classes, LISTS and tuples (index, slices, in, append, pop ..), calls, loops. Paste it whole ahead of your own text; what your proof does not reach may be deleted. -/
namespace L2
open PySem PySem.Spec PyProof.Rows

/-- a key: an int or a str -/
abbrev Key := Sum Int Str
def keyIs : Key → Value → Bool
  | .inl k, v => Value.isInt k v
  | .inr x, v => Value.isStrOf x v
def keyH (w : World) : Key → Int
  | .inl k => hashInt k
  | .inr x => hashStr w x
theorem keyIs_shape : ∀ {k : Key} {v : Value}, keyIs k v = true → (∃ i t, k = Sum.inl i ∧ v = Value.int i t) ∨ (∃ x t, k = Sum.inr x ∧ v = Value.str x t)
  | .inl i, v, h => by
    obtain ⟨t, e⟩ := Value.isInt_shape (k := i) (v := v) h
    exact .inl ⟨i, t, rfl, e⟩
  | .inr x, v, h => by
    obtain ⟨t, e⟩ := Value.isStrOf_shape (x := x) (v := v) h
    exact .inr ⟨x, t, rfl, e⟩
theorem keyIs_int (i : Int) (t : Tok) : keyIs (.inl i) (.int i t) = true := by simp [keyIs, Value.isInt]
theorem keyIs_str (x : Str) (t : Tok) : keyIs (.inr x) (.str x t) = true := by simp [keyIs, Value.isStrOf]
theorem key_ll (a b : Int) : decide ((Sum.inl a : Key) = Sum.inl b) = (a == b) := by
  by_cases e : a = b
  · subst e; simp
  · have h : ¬ (Sum.inl a : Key) = Sum.inl b := fun q => e (Sum.inl.inj q)
    rw [decide_eq_false h]
    exact (beq_eq_false_iff_ne.mpr e).symm
theorem key_rr (a b : Str) : decide ((Sum.inr a : Key) = Sum.inr b) = decide (a = b) := by
  by_cases e : a = b
  · subst e; simp
  · have h : ¬ (Sum.inr a : Key) = Sum.inr b := fun q => e (Sum.inr.inj q)
    rw [decide_eq_false h, decide_eq_false e]
theorem key_lr (a : Int) (b : Str) : decide ((Sum.inl a : Key) = Sum.inr b) = false := decide_eq_false (fun q => nomatch q)
theorem key_rl (a : Str) (b : Int) : decide ((Sum.inr a : Key) = Sum.inl b) = false := decide_eq_false (fun q => nomatch q)

def mixKind (prog : Program) (w : World) : PySem.KeyKind prog w Key where
  is := keyIs
  hash := keyH w
  inj := fun v a b ha hb => by
    rcases keyIs_shape ha with ⟨i, t, rfl, rfl⟩ | ⟨x, t, rfl, rfl⟩
    · rcases keyIs_shape hb with ⟨j, u, rfl, e⟩ | ⟨y, u, rfl, e⟩
      · injection e with e1 _; rw [e1]
      · exact nomatch e
    · rcases keyIs_shape hb with ⟨j, u, rfl, e⟩ | ⟨y, u, rfl, e⟩
      · exact nomatch e
      · injection e with e1 _; rw [e1]
  byValue := fun k v h => by
    rcases keyIs_shape h with ⟨i, t, rfl, rfl⟩ | ⟨x, t, rfl, rfl⟩ <;> rfl
  pyHash := fun hv h => by
    rcases keyIs_shape hv with ⟨i, t, rfl, rfl⟩ | ⟨x, t, rfl, rfl⟩
    · exact wpAny_pyHash_int h
    · exact wpAny_pyHash_str h
  eqBool := fun hu hv h => by
    rcases keyIs_shape hu with ⟨i, t, rfl, rfl⟩ | ⟨x, t, rfl, rfl⟩
    · rcases keyIs_shape hv with ⟨j, u, rfl, rfl⟩ | ⟨y, u, rfl, rfl⟩
      · rw [key_ll] at h; exact wpAny_eqBool_int h
      · rw [key_lr] at h; exact SeqAt.EqAt.int_str i t y u _ _ _ _ h
    · rcases keyIs_shape hv with ⟨j, u, rfl, rfl⟩ | ⟨y, u, rfl, rfl⟩
      · rw [key_rl] at h; exact SeqAt.EqAt.str_int x t j u _ _ _ _ h
      · rw [key_rr] at h; exact wpAny_eqBool_str h
  «strs» := fun k x t v h => by
    rcases keyIs_shape h with ⟨i, u, rfl, e⟩ | ⟨y, u, rfl, e⟩
    · exact nomatch e
    · injection e with e1 _
      subst e1
      cases v <;> rfl

theorem mixKind_int (prog : Program) (w : World) (i : Int) (t : Tok) : (mixKind prog w).is (.inl i) (.int i t) = true := keyIs_int i t
theorem mixKind_str (prog : Program) (w : World) (x : Str) (t : Tok) : (mixKind prog w).is (.inr x) (.str x t) = true := keyIs_str x t
end L2

namespace L2
open PySem PySem.Spec PyProof.Rows

/-- a value, without the heap -/
inductive V where
  | non | bl (b : Bool) | int (i : Int) | str (x : Str) | byt (b : Array UInt8) | flt (b : UInt64) | ref (a : Addr) | ty (n : String)
  deriving DecidableEq

def RelV : V → Value → Prop
  | .non, u => u = Value.none
  | .bl b, u => u = Value.bool b
  | .int i, u => ∃ t, u = Value.int i t
  | .str x, u => ∃ t, u = Value.str x t
  | .byt b, u => ∃ t, u = Value.bytes b t
  | .flt b, u => ∃ t, u = Value.float b t
  | .ref a, u => u = Value.ref a
  | .ty n, u => u = Value.type n

abbrev Vals : List V → List Value → Prop := Paired RelV
theorem Vals.length {xs : List V} {us : List Value} (r : Vals xs us) : xs.length = us.length := Paired.length r
theorem Vals.get : ∀ {xs : List V} {us : List Value} {i : Nat} {x : V}, Vals xs us → xs[i]? = some x → ∃ u, us[i]? = some u ∧ RelV x u
  | _, _, _, _, .nil, e => by simp at e
  | _, _, 0, _, .cons r _, e => by simp at e; subst e; exact ⟨_, rfl, r⟩
  | _, _, i + 1, x, .cons _ t, e => by
    obtain ⟨u, h1, h2⟩ := Vals.get (i := i) (x := x) t (by simpa using e)
    exact ⟨u, by simpa using h1, h2⟩
theorem Vals.append : ∀ {xs ys : List V} {us ws : List Value}, Vals xs us → Vals ys ws → Vals (xs ++ ys) (us ++ ws)
  | _, _, _, _, .nil, s => s
  | _, _, _, _, .cons r t, s => .cons r (Vals.append t s)
theorem Vals.take : ∀ {xs : List V} {us : List Value} (n : Nat), Vals xs us → Vals (xs.take n) (us.take n)
  | _, _, 0, _ => .nil
  | _, _, _ + 1, .nil => .nil
  | _, _, n + 1, .cons r t => .cons r (Vals.take n t)
theorem Vals.drop : ∀ {xs : List V} {us : List Value} (n : Nat), Vals xs us → Vals (xs.drop n) (us.drop n)
  | _, _, 0, r => r
  | _, _, _ + 1, .nil => .nil
  | _, _, n + 1, .cons _ t => Vals.drop n t
def RelO : Option V → Option Value → Prop
  | some v, some u => RelV v u
  | none, none => True
  | _, _ => False
def KV {κ : Type} : List (κ × V) → List (κ × Value) → Prop := Paired fun (p : κ × V) (q : κ × Value) => p.1 = q.1 ∧ RelV p.2 q.2

/-- a key of a dict (00_mix): an int or a text -/
def kV : Key → V
  | .inl i => .int i
  | .inr x => .str x

/-- what stands at a tracked address -/
inductive HO where
  /-- a list -/
  | lst (xs : List V)
  /-- a tuple (never changes) -/
  | tup (xs : List V)
  /-- a dict whose keys are ints and texts; one whose keys are tuples of ints and texts (the empty one is both) -/
  | dK (kvs : List (Key × V)) | dT (kvs : List (List Key × V))
  /-- a set of ints: its members, its size -/
  | set (S : Int → Bool) (n : Nat)
  /-- an instance of the class at C, its dict at dx, its attributes -/
  | ins (C dx : Addr) (fs : List (Str × V))
  /-- the dict of the instance at x -/
  | own (x : Addr)
  /-- the dict of an exception -/
  | xd (fs : List (Str × V))
  /-- a bound method, f of x -/
  | met (f x : Addr)
  /-- a range object lo, lo + 1, .. below hi -/
  | rng (lo hi : Int)
  /-- a thing that is known to the object (the script; a dict while a loop walks it): read, never written while it is so -/
  | frz (o : Obj) (u : HO)
  /-- a code object's table -/
  | tbl (ps : Array Value)
  /-- any other thing, by what is true of its one object (a def of one's own: SetO a S n := HO.ext fun h => ..) -/
  | ext (φ : Heap → Prop)

abbrev Hp := Addr → Option HO
def upd (H : Hp) (a : Addr) (o : HO) : Hp := fun b => if b = a then some o else H b
theorem upd_same {H : Hp} {a : Addr} {o : HO} : upd H a o a = some o := by unfold upd; rw [if_pos rfl]
theorem upd_ne {H : Hp} {a b : Addr} {o : HO} (h : b ≠ a) : upd H a o b = H b := by unfold upd; rw [if_neg h]
theorem ne_of_none {H : Hp} {a b : Addr} {o : HO} (h : H a = some o) (h' : H b = none) : a ≠ b := by
  intro e; subst e; rw [h] at h'; cases h'

section
variable (P : Program) (w : World)
def ObjOk (H : Hp) (h : Heap) (a : Addr) : HO → Prop
  | .lst xs => xs.length ≤ sizeLine ∧ ∃ (its : List Value) (n : Nat), Vals xs its ∧ h.get? a = some { cls := .type "list", data := .seq its.toArray n }
  | .tup xs => xs.length ≤ sizeLine ∧ ∃ its : List Value, Vals xs its ∧ IsTup h a its.toArray
  | .dK kvs => kvs.length ≤ sizeLine ∧ (a == sysModules) = false ∧ ∃ vs, KV kvs vs ∧ h.DictOf (mixKind P w) a vs
  | .dT kvs => kvs.length ≤ sizeLine ∧ (a == sysModules) = false ∧ ∃ xs : List (List Key × Addr × Value),
      Paired (fun (p : List Key × V) (q : List Key × Addr × Value) => p.1 = q.1 ∧ H q.2.1 = some (.tup (p.1.map kV)) ∧ RelV p.2 q.2.2) kvs xs ∧
      ∃ o es ep, h.get? a = some o ∧ o.ExactDict ∧ o.data = .dict es ep ∧ es.toList = xs.map (entryOfKey (tupleKind (mixKind P w))) ∧ (xs.map (·.1)).Nodup
  | .set S n => h.SetOf (intKind P w) a S n
  | .ins C dx fs => H dx = some (.own a) ∧ fs.length ≤ 1000 ∧ dx ≠ a ∧ h.get? a = some (PySem.W.instObj C dx) ∧
      ∃ mA, h.Ns1 dx mA ∧ (∀ f, RelO (fs.lookup f) (mA f)) ∧ PySem.Within mA (fs.map (·.1))
  | .own _ => ∃ o, h.get? a = some o
  | .xd fs => ∃ mA, h.Ns1 a mA ∧ ∀ f, RelO (fs.lookup f) (mA f)
  | .rng lo hi => ∃ t u v, h.get? a = some { cls := .type "range", data := .fields #[.int lo t, .int hi u, .int 1 v] }
  | .frz o u => h.get? a = some o ∧ ObjOk H h a u
  | .tbl ps => h.get? a = some { cls := .none, data := .fields ps }
  | .met f x => h.get? a = some (PySem.W.methodObj (.ref f) (.ref x))
  | .ext φ => φ h ∧ (∃ o, h.get? a = some o) ∧ ∀ h1 h2 : Heap, φ h1 → (∀ o, h1.get? a = some o → h2.get? a = some o) → φ h2
/-- the abstract heap is held -/
def HOk (H : Hp) (h : Heap) : Prop := ∀ a o, H a = some o → ObjOk P w H h a o
end

section
variable {P : Program} {w : World} {H H' : Hp} {h h' : Heap} {a : Addr} {o : HO}
theorem ObjOk.lt (x : ObjOk P w H h a o) : a < h.objs.size := by
  cases o with
  | lst xs => obtain ⟨_, _, _, _, e⟩ := x; exact Heap.lt_size e
  | tup xs => obtain ⟨_, _, _, p⟩ := x; exact p.lt
  | dK kvs => obtain ⟨_, _, _, _, o, _, _, e, _⟩ := x; exact Heap.lt_size e
  | dT kvs => obtain ⟨_, _, _, _, o, _, _, e, _⟩ := x; exact Heap.lt_size e
  | set S n => obtain ⟨o, _, _, _, e, _⟩ := x; exact Heap.lt_size e
  | ins C dx fs => obtain ⟨_, _, _, e, _⟩ := x; exact Heap.lt_size e
  | own y => obtain ⟨_, e⟩ := x; exact Heap.lt_size e
  | xd fs => obtain ⟨_, ⟨_, _, _, e, _⟩, _⟩ := x; exact Heap.lt_size e
  | rng lo hi => obtain ⟨_, _, _, e⟩ := x; exact Heap.lt_size e
  | frz ob u => obtain ⟨e, _⟩ := x; exact Heap.lt_size e
  | tbl ps => exact Heap.lt_size (show h.get? a = some _ from x)
  | met f y => exact Heap.lt_size (show h.get? a = some _ from x)
  | ext φ => obtain ⟨_, ⟨_, e⟩, _⟩ := x; exact Heap.lt_size e
theorem Paired.mapP {α β : Type} {F G : α → β → Prop} : ∀ {l₁ : List α} {l₂ : List β}, Paired F l₁ l₂ → (∀ a b, F a b → G a b) → Paired G l₁ l₂
  | _, _, .nil, _ => .nil
  | _, _, .cons r t, f => .cons (f _ _ r) (Paired.mapP t f)
/-- what an object's description leans on: its own object, its own dict, the tuples -/
theorem ObjOk.stay (x : ObjOk P w H h a o) (k : ∀ b u, (b = a ∨ H b = some (.own a)) → h.get? b = some u → h'.get? b = some u)
    (ho : ∀ b, H b = some (.own a) → H' b = some (.own a)) (ht : ∀ b xs, H b = some (.tup xs) → H' b = some (.tup xs)) : ObjOk P w H' h' a o := by
  induction o with
  | lst xs => obtain ⟨z, its, n, r, e⟩ := x; exact ⟨z, its, n, r, k _ _ (.inl rfl) e⟩
  | tup xs => obtain ⟨z, its, r, ob, e, c⟩ := x; exact ⟨z, its, r, ob, k _ _ (.inl rfl) e, c⟩
  | dK kvs => obtain ⟨z, y, vs, r, ob, es, ep, e, c⟩ := x; exact ⟨z, y, vs, r, ob, es, ep, k _ _ (.inl rfl) e, c⟩
  | dT kvs =>
    obtain ⟨z, y, xs, r, ob, es, ep, e, c⟩ := x
    exact ⟨z, y, xs, Paired.mapP r fun p q z => ⟨z.1, ht _ _ z.2.1, z.2.2⟩, ob, es, ep, k _ _ (.inl rfl) e, c⟩
  | set S n => obtain ⟨ob, es, ep, t, e, c⟩ := x; exact ⟨ob, es, ep, t, k _ _ (.inl rfl) e, c⟩
  | ins C dx fs =>
    obtain ⟨d, z, ne, e, mA, ⟨od, es, ep, e2, c⟩, r⟩ := x
    exact ⟨ho _ d, z, ne, k _ _ (.inl rfl) e, mA, ⟨od, es, ep, k _ _ (.inr d) e2, c⟩, r⟩
  | own y => obtain ⟨ob, e⟩ := x; exact ⟨ob, k _ _ (.inl rfl) e⟩
  | xd fs => obtain ⟨mA, ⟨od, es, ep, e, c⟩, r⟩ := x; exact ⟨mA, ⟨od, es, ep, k _ _ (.inl rfl) e, c⟩, r⟩
  | rng lo hi => obtain ⟨t, u, v, e⟩ := x; exact ⟨t, u, v, k _ _ (.inl rfl) e⟩
  | frz ob u ih => obtain ⟨e, q⟩ := x; exact ⟨k _ _ (.inl rfl) e, ih q⟩
  | tbl ps =>
    have e : h.get? a = some { cls := .none, data := .fields ps } := x
    show h'.get? a = some { cls := .none, data := .fields ps }
    exact k a _ (.inl rfl) e
  | met f y =>
    have e : h.get? a = some (PySem.W.methodObj (.ref f) (.ref y)) := x
    show h'.get? a = some (PySem.W.methodObj (.ref f) (.ref y))
    exact k a _ (.inl rfl) e
  | ext φ => obtain ⟨p, ⟨o, e⟩, st⟩ := x; exact ⟨st _ _ p fun o q => k _ _ (.inl rfl) q, ⟨o, k _ _ (.inl rfl) e⟩, st⟩
theorem HOk.lt (x : HOk P w H h) (e : H a = some o) : a < h.objs.size := (x a o e).lt
theorem HOk.fresh (x : HOk P w H h) (e : h.objs.size ≤ a) : H a = none := by
  cases q : H a with
  | none => rfl
  | some u => exact absurd (Nat.lt_of_lt_of_le (x.lt q) e) (Nat.lt_irrefl _)
/-- every object of the heap is kept -/
theorem HOk.kept (x : HOk P w H h) (k : ∀ b u, h.get? b = some u → h'.get? b = some u) : HOk P w H h' := fun a o e =>
  (x a o e).stay (fun b u _ q => k b u q) (fun _ q => q) fun _ _ q => q
/-- a new object is laid and tracked -/
theorem HOk.laid (x : HOk P w H h) (k : ∀ b u, h.get? b = some u → h'.get? b = some u) (hp : h.objs.size ≤ a) (new : ObjOk P w (upd H a o) h' a o) : HOk P w (upd H a o) h' := fun b u e => by
  have hn := x.fresh hp
  by_cases hb : b = a
  · subst hb; rw [upd_same] at e; cases e; exact new
  · rw [upd_ne hb] at e
    exact (x b u e).stay (fun c v _ q => k c v q) (fun c q => by rw [upd_ne (ne_of_none q hn)]; exact q) fun c xs q => by rw [upd_ne (ne_of_none q hn)]; exact q
end

/-- what may be read as u: it is u, or a known u -/
def Rd (H : Hp) (a : Addr) (u : HO) : Prop := H a = some u ∨ ∃ o, H a = some (.frz o u)
theorem Rd.ok {P : Program} {w : World} {H : Hp} {h : Heap} {a : Addr} {u : HO} (r : Rd H a u) (x : HOk P w H h) : ObjOk P w H h a u := by
  rcases r with r | ⟨o, r⟩
  · exact x a u r
  · obtain ⟨_, q⟩ := x a _ r
    exact q
/-- what may be written -/
def Mut : Option HO → Prop
  | some (.lst _) => True
  | some (.dK _) => True
  | some (.dT _) => True
  | some (.set _ _) => True
  | some (.ins _ _ _) => True
  | some (.ext _) => True
  | _ => False
section
variable {P : Program} {w : World} {H : Hp} {h h' : Heap} {x e : Addr} {o' : HO}
/-- the object at e is changed: x itself, or the dict of the instance x -/
theorem HOk.write (ok : HOk P w H h) (mu : Mut (H x)) (he : e = x ∨ H e = some (.own x)) (k : ∀ b u, b ≠ e → h.get? b = some u → h'.get? b = some u) (heo : ∃ u, h'.get? e = some u)
    (new : ObjOk P w (upd H x o') h' x o') : HOk P w (upd H x o') h' := fun b u q => by
  have nown : ∀ c y, H c = some (.own y) → c ≠ x := fun c y r z => by subst z; rw [r] at mu; exact mu
  have ntup : ∀ c xs, H c = some (.tup xs) → c ≠ x := fun c xs r z => by subst z; rw [r] at mu; exact mu
  by_cases hb : b = x
  · subst hb; rw [upd_same] at q; cases q; exact new
  · rw [upd_ne hb] at q
    by_cases hbe : b = e
    · have q' : H b = some (.own x) := by
        rcases he with z | z
        · exact absurd (hbe.trans z) hb
        · rw [hbe]; exact z
      rw [q] at q'; cases q'
      obtain ⟨v, hv⟩ := heo
      exact ⟨v, by rw [hbe]; exact hv⟩
    · refine (ok b u q).stay (fun c v hc r => k c v ?_ r) (fun c r => by rw [upd_ne (nown c b r)]; exact r) fun c xs r => by rw [upd_ne (ntup c xs r)]; exact r
      rcases hc with rfl | hc
      · exact hbe
      · rintro rfl
        rcases he with z | z
        · exact nown c b hc z
        · rw [hc] at z; cases z; exact hb rfl
end

/-! ### kept unless tracked; of the frames at fs (the callers') the slots may change (an exception that passes writes there); of the records at ex (iterators) nothing is said -/
structure Un (fs ex : List Addr) (H H' : Hp) (h h' : Heap) : Prop where
  keep : ∀ b o, h.get? b = some o → H b = none → b ∉ fs → b ∉ ex → h'.get? b = some o
  slot : ∀ b o, h.get? b = some o → H b = none → b ∈ fs → b ∉ ex → ∃ sl, h'.get? b = some { o with slots := sl }
  free : ∀ b o, h.get? b = some o → H b = none → b ∉ ex → H' b = none
  there : ∀ b o, h.get? b = some o → b ∉ ex → ∃ o', h'.get? b = some o'
  tups : ∀ b xs, H b = some (.tup xs) → H' b = some (.tup xs)
  frzs : ∀ b o u, H b = some (.frz o u) → H' b = some (.frz o u)
  tbls : ∀ b ps, H b = some (.tbl ps) → ∃ more, H' b = some (.tbl (ps ++ more))
section
variable {fs fs' ex ex' : List Addr} {H H1 H2 : Hp} {h h1 h2 h' : Heap} {a x e : Addr} {o : HO}
theorem Un.any (u : Un fs ex H H1 h h1) {b : Addr} {ob : Obj} (q : h.get? b = some ob) (n : H b = none) (hx : b ∉ ex) : ∃ sl, h1.get? b = some { ob with slots := sl } := by
  by_cases hb : b ∈ fs
  · exact u.slot b ob q n hb hx
  · exact ⟨ob.slots, u.keep b ob q n hb hx⟩
theorem Un.kept (k : ∀ b u, h.get? b = some u → h'.get? b = some u) : Un fs ex H H h h' :=
  ⟨fun b ob q _ _ _ => k b ob q, fun b ob q _ _ _ => ⟨ob.slots, k b ob q⟩, fun _ _ _ n _ => n, fun b ob q _ => ⟨ob, k b ob q⟩, fun _ _ q => q, fun _ _ _ q => q, fun _ ps q => ⟨#[], by rw [q]; simp⟩⟩
theorem Un.refl : Un fs ex H H h h := Un.kept fun _ _ q => q
theorem Un.laid (k : ∀ b u, h.get? b = some u → h'.get? b = some u) (hp : h.objs.size ≤ a) (hn : H a = none) : Un fs ex H (upd H a o) h h' where
  keep := fun b u q _ _ _ => k b u q
  slot := fun b u q _ _ _ => ⟨u.slots, k b u q⟩
  free := fun b u q n _ => by rw [upd_ne (Nat.ne_of_lt (Nat.lt_of_lt_of_le (Heap.lt_size q) hp))]; exact n
  there := fun b u q _ => ⟨u, k b u q⟩
  tups := fun b xs q => by rw [upd_ne (ne_of_none q hn)]; exact q
  frzs := fun b u xs q => by rw [upd_ne (ne_of_none q hn)]; exact q
  tbls := fun b ps q => ⟨#[], by rw [upd_ne (ne_of_none q hn), q]; simp⟩
theorem Un.write (mu : Mut (H x)) (he : e = x ∨ H e = some (.own x)) (k : ∀ b u, b ≠ e → h.get? b = some u → h'.get? b = some u) (heo : ∃ u, h'.get? e = some u) : Un fs ex H (upd H x o) h h' := by
  have hx : ∀ b, H b = none → b ≠ x := fun b n z => by subst z; rw [n] at mu; exact mu
  have hb : ∀ b, H b = none → b ≠ e := fun b n z => by
    subst z
    rcases he with r | r
    · exact hx b n r
    · rw [n] at r; cases r
  have hm : ∀ b u, H b = some u → ¬ Mut (some u) → b ≠ x := fun b u q nm z => by subst z; rw [q] at mu; exact nm mu
  refine ⟨fun b u q n _ _ => k b u (hb b n) q, fun b u q n _ _ => ⟨u.slots, k b u (hb b n) q⟩, fun b u q n _ => by rw [upd_ne (hx b n)]; exact n, fun b u q _ => ?_,
    fun b xs q => by rw [upd_ne (hm b _ q fun z => z)]; exact q, fun b u xs q => by rw [upd_ne (hm b _ q fun z => z)]; exact q, fun b ps q => ⟨#[], by rw [upd_ne (hm b _ q fun z => z), q]; simp⟩⟩
  by_cases hbe : b = e
  · subst hbe; exact heo
  · exact ⟨u, k b u hbe q⟩
end

/-! ### the heap without what is tracked -/
def trk (h : Heap) (H : Hp) : List Addr := (List.range h.objs.size).filter fun a => (H a).isSome
def hidT (h : Heap) (H : Hp) : Heap := PySem.W.hideAll h (trk h H)
theorem hidT_size (h : Heap) (H : Hp) : (hidT h H).objs.size = h.objs.size := PySem.W.hideAll_size _ _
theorem hidT_get {h : Heap} {H : Hp} {b : Addr} {o : Obj} (e : h.get? b = some o) (n : H b = none) : (hidT h H).get? b = some o :=
  PySem.W.hideAll_get _ e fun hm => by
    have q : (H b).isSome = true := (List.mem_filter.mp hm).2
    rw [n] at q; simp at q
theorem of_hidT {h : Heap} {H : Hp} {b : Addr} {o : Obj} (e : (hidT h H).get? b = some o) : h.get? b = some o ∧ H b = none := by
  have e' : h.get? b = some o := PySem.W.of_hideAll (trk h H) e
  refine ⟨e', ?_⟩
  cases q : H b with
  | none => rfl
  | some x =>
    have hm : b ∈ trk h H := List.mem_filter.mpr ⟨List.mem_range.mpr (Heap.lt_size e'), by simp [q]⟩
    have z : (hidT h H).get? b = none := PySem.W.hideAll_none (trk h H) hm
    rw [z] at e; cases e

/-! ### OpenK's ledger, filled with every new object but one -/
def allNews (g h : Heap) (L : Addr) : List (Addr × Obj) := (List.range h.objs.size).filterMap fun a => if a = L ∨ (g.get? a).isSome = true then none else (h.get? a).map fun o => (a, o)
def rest (g h : Heap) (L d : Addr) : List (Addr × Obj) := (allNews g h L).filter fun p => decide (p.1 ≠ d)
end L2

namespace L2
open PySem PySem.Spec PyProof.Rows

/-- the module's facts, over the base: the heap at the law's entry without what is tracked there -/
structure Mod (K : PySem.W.Frag) (mg : Str → Option Value) (base : Heap) : Prop where
  kin : K.In base
  glob : base.Ns mainGlobals mg
  blt : ∃ mb, base.Ns builtinsNs mb ∧ ∀ x : Str, x ≠ "__name__" → mb x = bootBuiltins x
  nolimit : base.NoLimit

/-- the context: a def's body (or a comprehension's block) running. base: fixed through the whole law; s₀, H₀: the entry; outer: the frames whose slots others may change (a def's callers); stack: all frames that run;
   ex: iterators that were made ahead of the entry and are walked here (a comprehension's); fn: the names whose cells were made at the entry (a def: all; a comprehension's block: its own); calm: not within an except suite; pn: pins that every state bears; xe: what is wanted of an exception that leaves the code -/
structure Cx where
  prog : Program
  w : World
  K : PySem.W.Frag
  mg : Str → Option Value
  base : Heap
  A : Around
  N : List Str
  s₀ : Shared
  H₀ : Hp
  env : Env
  outer : List Env
  stack : List Env
  ex : List Addr
  fn : Str → Bool
  calm : Bool
  pn : List (Addr × Obj)
  xe : Value → Shared → Prop
/-- the callers' frames -/
def frs (l : List Env) : List Addr := l.filterMap (·.frame)
abbrev Cx.fs (X : Cx) : List Addr := frs X.outer

def Vis (sc : Scope) (x : Str) : Prop := sc.names.lookup x = some .local ∨ sc.names.lookup x = some .cell ∨ sc.names.lookup x = some .free
def Loc (sc : Scope) (x : Str) : Prop := sc.names.lookup x = some .local ∨ sc.names.lookup x = some .cell
def Look (env : Env) (h : Heap) (m : Str → Option Value) (x : Str) (u : Value) : Prop :=
  (env.kindOf x = some .local ∧ m x = some u) ∨ ((env.kindOf x = some .cell ∨ env.kindOf x = some .free) ∧ ∃ c, env.cells.lookup x = some c ∧ h.IsCell c (some u))

structure Cx.Ok (X : Cx) : Prop where
  mod : Mod X.K X.mg X.base
  kind : X.env.scope.kind = .function
  glob : X.env.globals = mainGlobals
  blt : X.env.builtins = builtinsNs
  above : X.s₀.heap.objs.size ≤ X.env.locals
  inj : ∀ x y c, X.env.cells.lookup x = some c → X.env.cells.lookup y = some c → x = y
  has : ∀ x, (X.env.kindOf x = some .cell ∨ X.env.kindOf x = some .free) → ∃ c, X.env.cells.lookup x = some c
  cab : ∀ x c, X.fn x = true → X.env.cells.lookup x = some c → X.s₀.heap.objs.size ≤ c
  hd : X.calm = true → X.A.handled = none
  frames : X.A.frames = some X.stack
  stk : X.stack = X.outer ∨ (X.stack = X.env :: X.outer ∧ X.env.frame = some X.env.locals)
  exf : ∀ b ∈ X.ex, b ≠ X.env.locals ∧ ∀ x c, X.env.cells.lookup x = some c → c ≠ b
  bs : ∀ b o, X.base.get? b = some o → X.s₀.heap.get? b = some o ∧ X.H₀ b = none
  bsz : X.base.objs.size ≤ X.s₀.heap.objs.size
  noex : ∀ b o, X.base.get? b = some o → b ∉ X.ex
  exfs : ∀ b ∈ X.ex, b ∉ X.fs
  funs : X.s₀.heap.FunFrames X.base X.outer
  frf : ∀ b ∈ X.fs, X.H₀ b = none

structure Inv (X : Cx) (pins : List (Addr × Obj)) (σ : List (Option V)) (H : Hp) (s : Shared) : Prop where
  ok : X.Ok
  os : s.os = X.s₀.os
  bare : AllBare s.gens
  base : Un X.fs X.ex X.H₀ H X.s₀.heap s.heap
  loc : ∃ m, s.heap.Ns X.env.locals m ∧ ∀ (i : Nat) (x : Str) (v : V), X.N[i]? = some x → σ[i]? = some (some v) → Vis X.env.scope x → ∃ u, RelV v u ∧ Look X.env s.heap m x u
  cell : ∀ x c, X.env.cells.lookup x = some c → ∃ v, s.heap.IsCell c v
  free : H X.env.locals = none
  freeC : ∀ x c, X.env.cells.lookup x = some c → H c = none
  pin : ∀ p ∈ X.pn ++ pins, s.heap.get? p.1 = some p.2 ∧ H p.1 = none ∧ p.1 ≠ X.env.locals ∧ p.1 ∉ X.fs ∧ ∀ v, p.2.data ≠ .cell v
  hok : HOk X.prog X.w H s.heap
  len : σ.length = X.N.length

section
variable {X : Cx} {pins : List (Addr × Obj)} {σ : List (Option V)} {H H' : Hp} {s : Shared} {h' : Heap}

theorem Cx.Ok.nofr (ok : X.Ok) {b : Addr} {o : Obj} (e : X.base.get? b = some o) : b ∉ X.fs := fun hb => by
  have := (ok.funs.mem hb).1
  rw [e] at this; cases this
theorem Inv.bs (I : Inv X pins σ H s) : ∀ b o, X.base.get? b = some o → s.heap.get? b = some o ∧ H b = none := fun b o e =>
  ⟨I.base.keep b o (I.ok.bs b o e).1 (I.ok.bs b o e).2 (I.ok.nofr e) (I.ok.noex b o e), I.base.free b o (I.ok.bs b o e).1 (I.ok.bs b o e).2 (I.ok.noex b o e)⟩
theorem Inv.bk (I : Inv X pins σ H s) : ∀ b o, X.base.get? b = some o → s.heap.get? b = some o := fun b o e => (I.bs b o e).1
theorem Inv.mod (I : Inv X pins σ H s) : Mod X.K X.mg X.base := I.ok.mod
theorem Inv.kIn (I : Inv X pins σ H s) : X.K.In s.heap := I.ok.mod.kin.keeps I.bk
/-- the frame over the base: for OpenK's rules (K.In X.base is I.mod.kin) -/
theorem Inv.fr (I : Inv X pins σ H s) : ∃ m, Fr X.base X.env.locals s.heap m :=
  let ⟨m, hn, _⟩ := I.loc
  ⟨m, hn, I.bk, Nat.le_trans I.ok.bsz I.ok.above⟩
theorem Inv.lt (I : Inv X pins σ H s) : X.env.locals < s.heap.objs.size := let ⟨_, hn, _⟩ := I.loc; hn.lt
theorem Inv.sz (I : Inv X pins σ H s) : X.s₀.heap.objs.size ≤ s.heap.objs.size := Nat.le_trans I.ok.above (Nat.le_of_lt I.lt)
theorem Inv.nofs (I : Inv X pins σ H s) {a : Addr} (h : s.heap.objs.size ≤ a) : a ∉ X.fs := fun hb => by
  obtain ⟨_, o, ho, _⟩ := I.ok.funs.mem hb
  exact absurd (Nat.lt_of_lt_of_le (Heap.lt_size ho) (Nat.le_trans I.sz h)) (Nat.lt_irrefl _)
theorem Inv.cne (I : Inv X pins σ H s) : ∀ x c, X.env.cells.lookup x = some c → c ≠ X.env.locals := fun x c e z => by
  obtain ⟨v, o, ho, hd⟩ := I.cell x c e
  obtain ⟨m, ⟨o', es, ep, ho', hd', _⟩, _⟩ := I.loc
  rw [z, ho'] at ho; cases ho; rw [hd'] at hd; cases hd
theorem Inv.funs (I : Inv X pins σ H s) : s.heap.FunFrames X.base X.outer := by
  have all : ∀ (l : List Env), (∀ b ∈ frs l, b ∈ X.fs) → X.s₀.heap.FunFrames X.base l → s.heap.FunFrames X.base l := by
    intro l
    induction l with
    | nil => intro _ _; trivial
    | cons env r ih =>
      intro hs hl
      obtain ⟨hk, ⟨L, o, hf, hn, ho, hd⟩, hr⟩ := hl
      have hL : L ∈ X.fs := hs L (by unfold frs; rw [List.filterMap_cons, hf]; exact List.mem_cons_self)
      obtain ⟨sl, e⟩ := I.base.slot L o ho (I.ok.frf L hL) hL fun z => I.ok.exfs L z hL
      exact ⟨hk, ⟨L, _, hf, hn, e, hd⟩, ih (fun b hb => hs b (by unfold frs; rw [List.filterMap_cons, hf]; exact List.mem_cons_of_mem _ hb)) hr⟩
  exact all X.outer (fun _ hb => hb) I.ok.funs

/-- the frames that run, for a call -/
theorem Inv.stack (I : Inv X pins σ H s) : s.heap.FunFrames X.base X.stack := by
  rcases I.ok.stk with e | ⟨e, hf⟩
  · rw [e]; exact I.funs
  · rw [e]
    obtain ⟨m, hn, _⟩ := I.loc
    refine .cons (by rw [I.ok.kind]; decide) hf hn ?_ I.funs
    exact Heap.get?_none_of_le (Nat.le_trans I.ok.bsz I.ok.above)
theorem Inv.stkSub (I : Inv X pins σ H s) : ∀ b ∈ frs X.stack, b ∈ X.env.locals :: X.fs := fun b hb => by
  rcases I.ok.stk with e | ⟨e, hf⟩
  · rw [e] at hb; exact List.mem_cons_of_mem _ hb
  · rw [e] at hb
    unfold frs at hb
    rw [List.filterMap_cons, hf] at hb
    exact hb
theorem Inv.stkFree (I : Inv X pins σ H s) : ∀ b ∈ frs X.stack, H b = none := fun b hb => by
  rcases List.mem_cons.mp (I.stkSub b hb) with e | hb
  · rw [e]; exact I.free
  · obtain ⟨_, o, ho, _⟩ := I.ok.funs.mem hb
    exact I.base.free b o ho (I.ok.frf b hb) fun z => I.ok.exfs b z hb

/-- THE STEP: the untracked objects but the frame and the records at ch are kept (the callers' frames up to slots), the frame's map is kept, the new abstract heap is held -/
theorem Inv.step {g' : Array GenState} {t' : Nat} {d' : Drawn} {ch : List Addr} (I : Inv X pins σ H s)
    (hch : ∀ b ∈ ch, (b ∈ X.ex ∨ X.s₀.heap.objs.size ≤ b) ∧ b ≠ X.env.locals ∧ (∀ x c, X.env.cells.lookup x = some c → c ≠ b) ∧ ∀ p ∈ X.pn ++ pins, p.1 ≠ b)
    (keep : ∀ b o, b ≠ X.env.locals → b ∉ X.fs → b ∉ ch → s.heap.get? b = some o → H b = none → h'.get? b = some o)
    (slot : ∀ b o, b ≠ X.env.locals → b ∈ X.fs → b ∉ ch → s.heap.get? b = some o → H b = none → ∃ sl, h'.get? b = some { o with slots := sl }) (free : ∀ b o, b ∉ ch → s.heap.get? b = some o → H b = none → H' b = none)
    (there : ∀ b o, b ∉ ch → s.heap.get? b = some o → ∃ o', h'.get? b = some o')
    (tups : ∀ b xs, H b = some (.tup xs) → H' b = some (.tup xs)) (frzs : ∀ b o u, H b = some (.frz o u) → H' b = some (.frz o u)) (tbls : ∀ b ps, H b = some (.tbl ps) → ∃ more, H' b = some (.tbl (ps ++ more)))
    (ns : ∀ m, s.heap.Ns X.env.locals m → h'.Ns X.env.locals m) (hok : HOk X.prog X.w H' h') (hg : AllBare g') :
    Inv X pins σ H' { s with heap := h', gens := g', drawn := d', toks := t' } := by
  have neL : ∀ b o, X.s₀.heap.get? b = some o → b ≠ X.env.locals := fun b o e => Nat.ne_of_lt (Nat.lt_of_lt_of_le (Heap.lt_size e) I.ok.above)
  have neC : ∀ b o, X.s₀.heap.get? b = some o → b ∉ X.ex → b ∉ ch := fun b o e hx hb => by
    rcases (hch b hb).1 with z | z
    · exact hx z
    · exact absurd (Nat.lt_of_lt_of_le (Heap.lt_size e) z) (Nat.lt_irrefl _)
  have cellK : ∀ x c, X.env.cells.lookup x = some c → ∀ v, s.heap.IsCell c v → h'.IsCell c v := fun x c e v ⟨o, ho, hd⟩ => by
    have nch : c ∉ ch := fun z => (hch c z).2.2.1 x c e rfl
    by_cases hc : c ∈ X.fs
    · obtain ⟨sl, q⟩ := slot c o (I.cne x c e) hc nch ho (I.freeC x c e)
      exact ⟨_, q, hd⟩
    · exact ⟨o, keep c o (I.cne x c e) hc nch ho (I.freeC x c e), hd⟩
  refine ⟨I.ok, I.os, hg, ⟨fun b o e n hb hx => ?_, fun b o e n hb hx => ?_, fun b o e n hx => ?_, fun b o e hx => ?_, fun b xs e => tups b xs (I.base.tups b xs e), fun b o xs e => frzs b o xs (I.base.frzs b o xs e), fun b ps e => ?_⟩, ?_, fun x c e => ?_, ?_, fun x c e => ?_, fun p hp => ?_, hok, I.len⟩
  · exact keep b o (neL b o e) hb (neC b o e hx) (I.base.keep b o e n hb hx) (I.base.free b o e n hx)
  · obtain ⟨sl, e1⟩ := I.base.slot b o e n hb hx
    obtain ⟨sl', e2⟩ := slot b _ (neL b o e) hb (neC b o e hx) e1 (I.base.free b o e n hx)
    exact ⟨sl', e2⟩
  · obtain ⟨o', e1⟩ := I.base.there b o e hx
    exact free b o' (neC b o e hx) e1 (I.base.free b o e n hx)
  · obtain ⟨o', e1⟩ := I.base.there b o e hx
    exact there b o' (neC b o e hx) e1
  · obtain ⟨m1, e1⟩ := I.base.tbls b ps e
    obtain ⟨m2, e2⟩ := tbls b _ e1
    exact ⟨m1 ++ m2, by rw [e2, Array.append_assoc]⟩
  · obtain ⟨m, hn, hl⟩ := I.loc
    refine ⟨m, ns m hn, fun i x v e1 e2 e3 => ?_⟩
    obtain ⟨u, r, l⟩ := hl i x v e1 e2 e3
    refine ⟨u, r, ?_⟩
    rcases l with l | ⟨k, c, e, z⟩
    · exact .inl l
    · exact .inr ⟨k, c, e, cellK x c e _ z⟩
  · obtain ⟨v, z⟩ := I.cell x c e
    exact ⟨v, cellK x c e v z⟩
  · obtain ⟨m, ⟨o, _, _, ho, _⟩, _⟩ := I.loc
    exact free _ o (fun z => (hch _ z).2.1 rfl) ho I.free
  · obtain ⟨v, o, ho, hd⟩ := I.cell x c e
    exact free c o (fun z => (hch c z).2.2.1 x c e rfl) ho (I.freeC x c e)
  · obtain ⟨e, n, ne, nf, d⟩ := I.pin p hp
    have nch : p.1 ∉ ch := fun z => (hch p.1 z).2.2.2 p hp rfl
    exact ⟨keep p.1 p.2 ne nf nch e n, free p.1 p.2 nch e n, ne, nf, d⟩
/-- .. where the frame's own object is kept too -/
theorem Inv.un {t' : Nat} (I : Inv X pins σ H s) (u : Un X.fs [] H H' s.heap h') (hok : HOk X.prog X.w H' h') : Inv X pins σ H' { s with heap := h', toks := t' } := by
  obtain ⟨m, ⟨o, es, ep, ho, r⟩, _⟩ := id I.loc
  obtain ⟨sl, hL⟩ := u.any ho I.free (by simp)
  exact I.step (g' := s.gens) (d' := s.drawn) (ch := []) (fun _ z => nomatch z) (fun b o _ hb _ e n => u.keep b o e n hb (by simp)) (fun b o _ hb _ e n => u.slot b o e n hb (by simp)) (fun b o _ e n => u.free b o e n (by simp)) (fun b o _ e => u.there b o e (by simp)) u.tups u.frzs u.tbls (fun m' hm => by
    obtain ⟨o', es', ep', ho', r'⟩ := hm
    rw [ho] at ho'; cases ho'
    exact ⟨_, es', ep', hL, r'⟩) hok I.bare
/-- behind a call (or a comprehension's block): the slots of this frame may have changed too, the records at ch may have turned -/
theorem Inv.call {g' : Array GenState} {t' : Nat} {d' : Drawn} {ch : List Addr} (I : Inv X pins σ H s) (u : Un (frs X.stack) ch H H' s.heap h') (hok : HOk X.prog X.w H' h') (hg : AllBare g')
    (hch : ∀ b ∈ ch, (b ∈ X.ex ∨ X.s₀.heap.objs.size ≤ b) ∧ b ≠ X.env.locals ∧ (∀ x c, X.env.cells.lookup x = some c → c ≠ b) ∧ ∀ p ∈ X.pn ++ pins, p.1 ≠ b) :
    Inv X pins σ H' { s with heap := h', gens := g', drawn := d', toks := t' } := by
  obtain ⟨m, ⟨o, es, ep, ho, r⟩, _⟩ := id I.loc
  obtain ⟨sl, hL⟩ := u.any ho I.free fun z => (hch _ z).2.1 rfl
  exact I.step (ch := ch) hch (fun b o hL hb hc e n => u.keep b o e n (fun z => (List.mem_cons.mp (I.stkSub b z)).elim hL hb) hc) (fun b o _ _ hc e n => u.any e n hc) (fun b o hc e n => u.free b o e n hc) (fun b o hc e => u.there b o e hc) u.tups u.frzs u.tbls (fun m' hm => by
    obtain ⟨o', es', ep', ho', r'⟩ := hm
    rw [ho] at ho'; cases ho'
    exact ⟨_, es', ep', hL, r'⟩) hok hg
/-- an untracked record of ours (an iterator) has turned -/
theorem Inv.turned {t' : Nat} {it : Addr} (I : Inv X pins σ H s) (k : ∀ b o, b ≠ it → s.heap.get? b = some o → h'.get? b = some o) (hn : H it = none) (hL : it ≠ X.env.locals)
    (h1 : it ∈ X.ex ∨ X.s₀.heap.objs.size ≤ it) (h2 : ∀ x c, X.env.cells.lookup x = some c → c ≠ it) (h3 : ∀ p ∈ X.pn ++ pins, p.1 ≠ it) : Inv X pins σ H { s with heap := h', toks := t' } := by
  have nit : ∀ b u, H b = some u → b ≠ it := fun b u e z => by rw [z, hn] at e; cases e
  refine I.step (g' := s.gens) (d' := s.drawn) (ch := [it]) (fun b hb => ?_) (fun b o _ _ hc e _ => k b o (fun z => hc (by simp [z])) e) (fun b o _ _ hc e _ => ⟨o.slots, k b o (fun z => hc (by simp [z])) e⟩) (fun _ _ _ _ n => n)
    (fun b o hc e => ⟨o, k b o (fun z => hc (by simp [z])) e⟩) (fun _ _ e => e) (fun _ _ _ e => e) (fun b ps e => ⟨#[], by rw [e]; simp⟩) (fun m hm => ?_) (fun b u e => ?_) I.bare
  · have e : b = it := by simpa using hb
    subst e
    exact ⟨h1, hL, h2, h3⟩
  · obtain ⟨o, es, ep, ho, r⟩ := hm
    exact ⟨o, es, ep, k _ o (Ne.symm hL) ho, r⟩
  · refine (I.hok b u e).stay (fun c v hc q => k c v ?_ q) (fun _ q => q) fun _ _ q => q
    rcases hc with z | z
    · rw [z]; exact nit b u e
    · exact nit c _ z
theorem Inv.tok (I : Inv X pins σ H s) (t : Nat) : Inv X pins σ H { s with toks := t } := I.un (h' := s.heap) (t' := t) Un.refl I.hok
/-- all objects kept -/
theorem Inv.kept {t' : Nat} (I : Inv X pins σ H s) (k : ∀ b u, s.heap.get? b = some u → h'.get? b = some u) : Inv X pins σ H { s with heap := h', toks := t' } := I.un (Un.kept k) (I.hok.kept k)
/-- a new object laid and tracked -/
theorem Inv.laid {a : Addr} {o : HO} {t' : Nat} (I : Inv X pins σ H s) (k : ∀ b u, s.heap.get? b = some u → h'.get? b = some u) (hp : s.heap.objs.size ≤ a) (new : ObjOk X.prog X.w (upd H a o) h' a o) :
    Inv X pins σ (upd H a o) { s with heap := h', toks := t' } := I.un (Un.laid k hp (I.hok.fresh hp)) (I.hok.laid k hp new)
/-- an object written -/
theorem Inv.write {x e : Addr} {o : HO} {t' : Nat} (I : Inv X pins σ H s) (mu : Mut (H x)) (he : e = x ∨ H e = some (.own x)) (k : ∀ b u, b ≠ e → s.heap.get? b = some u → h'.get? b = some u) (heo : ∃ u, h'.get? e = some u)
    (new : ObjOk X.prog X.w (upd H x o) h' x o) : Inv X pins σ (upd H x o) { s with heap := h', toks := t' } := I.un (Un.write mu he k heo) (I.hok.write mu he k heo new)
/-- forgetting slots, pins -/
theorem Inv.weak {σ' : List (Option V)} (I : Inv X pins σ H s) (hl : σ'.length = σ.length) (w : ∀ (i : Nat) v, σ'[i]? = some (some v) → σ[i]? = some (some v)) : Inv X pins σ' H s :=
  ⟨I.ok, I.os, I.bare, I.base, let ⟨m, hn, hl'⟩ := I.loc; ⟨m, hn, fun i x v e1 e2 e3 => hl' i x v e1 (w i v e2) e3⟩, I.cell, I.free, I.freeC, I.pin, I.hok, hl.trans I.len⟩
theorem Inv.pins_of {pins' : List (Addr × Obj)} (I : Inv X pins σ H s) (h : ∀ p ∈ pins', s.heap.get? p.1 = some p.2 ∧ H p.1 = none ∧ p.1 ≠ X.env.locals ∧ p.1 ∉ X.fs ∧ ∀ v, p.2.data ≠ .cell v) : Inv X pins' σ H s :=
  ⟨I.ok, I.os, I.bare, I.base, I.loc, I.cell, I.free, I.freeC, fun p hp => (List.mem_append.mp hp).elim (fun z => I.pin p (List.mem_append_left _ z)) (h p), I.hok, I.len⟩

theorem nodup_ix {N : List Str} (hN : N.Nodup) {i j : Nat} {x : Str} (a : N[i]? = some x) (b : N[j]? = some x) : i = j := by
  obtain ⟨h1, e1⟩ := List.getElem?_eq_some_iff.mp a
  obtain ⟨h2, e2⟩ := List.getElem?_eq_some_iff.mp b
  exact (List.getElem_inj hN).mp (e1.trans e2.symm)

/-- a name is stored; what changed -/
theorem store_ok2 {M : Model} {A : Around} {E : Value → Shared → Prop} {i : Nat} {x : Str} {v : V} {u : Value} {Q : Unit → Shared → Prop} (I : Inv X pins σ H s) (hN : X.N.Nodup) (hi : X.N[i]? = some x) (hx : Loc X.env.scope x) (r : RelV v u)
    (h : ∀ s', Inv X pins (σ.set i (some v)) H s' → (∃ a, Heap.SameBut a s.heap s'.heap ∧ (a = X.env.locals ∨ X.env.cells.lookup x = some a)) → Q () s') (hf : X.fn x = true ∨ X.env.scope.names.lookup x = some .local := by first | exact .inl rfl | exact .inr rfl | assumption) : wpAny M A (storeName X.env x u) Q E s := by
  obtain ⟨m, hn, hl⟩ := id I.loc
  have hcls : (X.env.scope.kind == .class || (X.env.scope.kind == .module && X.env.locals != X.env.globals)) = false := by rw [I.ok.kind]; rfl
  have hiσ : i < σ.length := by rw [I.len]; exact (List.getElem?_eq_some_iff.mp hi).1
  have cne := I.cne
  have tracked : ∀ {a : Addr} {h' : Heap}, (∃ o, s.heap.get? a = some o ∧ H a = none) → Heap.SameBut a s.heap h' → HOk X.prog X.w H h' := fun {a h'} ha hs b ob e => by
    obtain ⟨_, _, hfree⟩ := ha
    refine (I.hok b ob e).stay (fun c w' hc q => (hs.2 c ?_).trans q) (fun _ q => q) fun _ _ q => q
    rintro rfl
    rcases hc with rfl | hc
    · rw [hfree] at e; cases e
    · rw [hfree] at hc; cases hc
  rcases hx with hk | hk
  · refine wpAny_storeName_local hk hn (fun h' hn' hs => ?_) hcls
    obtain ⟨oL, _, _, hoL, _⟩ := id hn
    refine h _ ⟨I.ok, I.os, I.bare, ⟨fun b o e n hb hx => ?_, fun b o e n hb hx => ?_, I.base.free, fun b o e hx => ?_, I.base.tups, I.base.frzs, I.base.tbls⟩, ⟨_, hn', fun j y v' e1 e2 e3 => ?_⟩, fun y c e => ?_, I.free, I.freeC, fun p hp => ?_, tracked ⟨oL, hoL, I.free⟩ hs, by simpa using I.len⟩ ⟨_, hs, .inl rfl⟩
    · exact (hs.2 b (Nat.ne_of_lt (Nat.lt_of_lt_of_le (Heap.lt_size e) I.ok.above))).trans (I.base.keep b o e n hb hx)
    · obtain ⟨sl, e1⟩ := I.base.slot b o e n hb hx
      exact ⟨sl, (hs.2 b (Nat.ne_of_lt (Nat.lt_of_lt_of_le (Heap.lt_size e) I.ok.above))).trans e1⟩
    · obtain ⟨o', e1⟩ := I.base.there b o e hx
      exact ⟨o', (hs.2 b (Nat.ne_of_lt (Nat.lt_of_lt_of_le (Heap.lt_size e) I.ok.above))).trans e1⟩
    · by_cases hj : j = i
      · subst hj
        rw [hi] at e1; cases e1
        rw [List.getElem?_set_self hiσ] at e2
        cases e2
        exact ⟨u, r, .inl ⟨hk, by simp⟩⟩
      · rw [List.getElem?_set_ne (Ne.symm hj)] at e2
        obtain ⟨u', r', q⟩ := hl j y v' e1 e2 e3
        refine ⟨u', r', ?_⟩
        rcases q with ⟨k, e⟩ | ⟨k, c, e, z⟩
        · refine .inl ⟨k, ?_⟩
          have : y ≠ x := fun e => hj (nodup_ix hN e1 (e ▸ hi))
          simp [this, e]
        · exact .inr ⟨k, c, e, z.sameBut hs (cne y c e)⟩
    · obtain ⟨w', z⟩ := I.cell y c e
      exact ⟨w', z.sameBut hs (cne y c e)⟩
    · obtain ⟨e, n, ne, nf, d⟩ := I.pin p hp
      exact ⟨(hs.2 p.1 ne).trans e, n, ne, nf, d⟩
  · have hfn : X.fn x = true := by
      rcases hf with z | z
      · exact z
      · rw [z] at hk; cases hk
    obtain ⟨c, hc⟩ := I.ok.has x (.inl hk)
    obtain ⟨w', z⟩ := I.cell x c hc
    refine wpAny_storeName_cell I.ok.kind hk hc z (fun h' hc' hs => ?_)
    obtain ⟨oc, hoc, hocd⟩ := id z
    refine h { s with heap := h' } ⟨I.ok, I.os, I.bare, ⟨fun b o e n hb hx => ?_, fun b o e n hb hx => ?_, I.base.free, fun b o e hx => ?_, I.base.tups, I.base.frzs, I.base.tbls⟩, ⟨m, hn.sameBut hs (Ne.symm (cne x c hc)), fun j y v' e1 e2 e3 => ?_⟩, fun y c' e => ?_, I.free, I.freeC, fun p hp => ?_, tracked ⟨oc, hoc, I.freeC x c hc⟩ hs, by simpa using I.len⟩ ⟨c, hs, .inr hc⟩
    · exact (hs.2 b (Nat.ne_of_lt (Nat.lt_of_lt_of_le (Heap.lt_size e) (I.ok.cab x c hfn hc)))).trans (I.base.keep b o e n hb hx)
    · obtain ⟨sl, e1⟩ := I.base.slot b o e n hb hx
      exact ⟨sl, (hs.2 b (Nat.ne_of_lt (Nat.lt_of_lt_of_le (Heap.lt_size e) (I.ok.cab x c hfn hc)))).trans e1⟩
    · obtain ⟨o', e1⟩ := I.base.there b o e hx
      exact ⟨o', (hs.2 b (Nat.ne_of_lt (Nat.lt_of_lt_of_le (Heap.lt_size e) (I.ok.cab x c hfn hc)))).trans e1⟩
    · by_cases hj : j = i
      · subst hj
        rw [hi] at e1; cases e1
        rw [List.getElem?_set_self hiσ] at e2
        cases e2
        exact ⟨u, r, .inr ⟨.inl hk, c, hc, hc'⟩⟩
      · rw [List.getElem?_set_ne (Ne.symm hj)] at e2
        obtain ⟨u', r', q⟩ := hl j y v' e1 e2 e3
        refine ⟨u', r', ?_⟩
        rcases q with q | ⟨k, c', e, z'⟩
        · exact .inl q
        · refine .inr ⟨k, c', e, z'.sameBut hs ?_⟩
          rintro rfl
          exact hj (nodup_ix hN e1 (I.ok.inj _ _ _ e hc ▸ hi))
    · by_cases hcc : c' = c
      · subst hcc; exact ⟨_, hc'⟩
      · obtain ⟨w2, z2⟩ := I.cell y c' e
        exact ⟨w2, z2.sameBut hs hcc⟩
    · obtain ⟨e, n, ne, nf, d⟩ := I.pin p hp
      refine ⟨(hs.2 p.1 ?_).trans e, n, ne, nf, d⟩
      intro q
      rw [q, hoc] at e
      have q' : oc = p.2 := Option.some.inj e
      exact d w' (by rw [← q']; exact hocd)
theorem store_ok {M : Model} {A : Around} {E : Value → Shared → Prop} {i : Nat} {x : Str} {v : V} {u : Value} {Q : Unit → Shared → Prop} (I : Inv X pins σ H s) (hN : X.N.Nodup) (hi : X.N[i]? = some x) (hx : Loc X.env.scope x) (r : RelV v u)
    (h : ∀ s', Inv X pins (σ.set i (some v)) H s' → Q () s') (hf : X.fn x = true ∨ X.env.scope.names.lookup x = some .local := by first | exact .inl rfl | exact .inr rfl | assumption) : wpAny M A (storeName X.env x u) Q E s :=
  store_ok2 I hN hi hx r (fun s' I' _ => h s' I') hf
/-- behind a call or a block, the state as it is -/
theorem Inv.call' {s' : Shared} {ch : List Addr} (I : Inv X pins σ H s) (ho : s'.os = s.os) (u : Un (frs X.stack) ch H H' s.heap s'.heap) (hok : HOk X.prog X.w H' s'.heap) (hg : AllBare s'.gens)
    (hch : ∀ b ∈ ch, (b ∈ X.ex ∨ X.s₀.heap.objs.size ≤ b) ∧ b ≠ X.env.locals ∧ (∀ x c, X.env.cells.lookup x = some c → c ≠ b) ∧ ∀ p ∈ X.pn ++ pins, p.1 ≠ b) : Inv X pins σ H' s' := by
  obtain ⟨h', g', d', t', o'⟩ := s'
  have e : o' = s.os := ho
  subst e
  exact I.call (g' := g') (t' := t') (d' := d') u hok hg hch
end

/-! ### the judgements -/
/-- an exception: its class, its own dict's address (where it has one), the abstract heap behind it -/
abbrev XK := Value → Option Addr → Hp → Prop
abbrev St := List (Option V)
abbrev VK := V → Hp → Prop
/-- an expression's reading; a test's; an argument list's -/
abbrev TE := St → Hp → VK → Prop
abbrev TT := St → Hp → (Bool → Hp → Prop) → Prop
abbrev TA := St → Hp → (List V → Hp → Prop) → Prop
/-- what is wanted behind a statement -/
structure Ends where
  nx : St → Hp → Prop
  rt : VK
  bk : St → Hp → Prop := fun _ _ => False
  ct : St → Hp → Prop := fun _ _ => False
abbrev TS := Ends → St → Hp → Prop

def EP (X : Cx) (pins : List (Addr × Obj)) (σ : St) (Q : VK) (u : Value) (s' : Shared) : Prop := ∃ v H', Inv X pins σ H' s' ∧ RelV v u ∧ Q v H'
def TP (X : Cx) (pins : List (Addr × Obj)) (σ : St) (Q : Bool → Hp → Prop) (b : Bool) (s' : Shared) : Prop := ∃ H', Inv X pins σ H' s' ∧ Q b H'
def AP (X : Cx) (pins : List (Addr × Obj)) (σ : St) (Q : List V → Hp → Prop) (us : List Value) (s' : Shared) : Prop := ∃ vs H', Inv X pins σ H' s' ∧ Vals vs us ∧ Q vs H'
def SP (X : Cx) (pins : List (Addr × Obj)) (D : Ends) (f : Flow) (s' : Shared) : Prop :=
  match f with
  | .next => ∃ σ' H', Inv X pins σ' H' s' ∧ D.nx σ' H'
  | .brk => ∃ σ' H', Inv X pins σ' H' s' ∧ D.bk σ' H'
  | .cont => ∃ σ' H', Inv X pins σ' H' s' ∧ D.ct σ' H'
  | .ret u => ∃ v σ' H', Inv X pins σ' H' s' ∧ RelV v u ∧ D.rt v H'

def PE (X : Cx) (e : Expr) (t : TE) : Prop :=
  ∀ (pins : List (Addr × Obj)) (s : Shared) (σ : St) (H : Hp) (Q : VK), Inv X pins σ H s → t σ H Q → wpAny (model X.prog X.w) X.A (eval e X.env) (EP X pins σ Q) X.xe s
def PT (X : Cx) (e : Expr) (t : TT) : Prop :=
  ∀ (pins : List (Addr × Obj)) (s : Shared) (σ : St) (H : Hp) (Q : Bool → Hp → Prop), Inv X pins σ H s → t σ H Q → wpAny (model X.prog X.w) X.A (isTrue e X.env (eval e X.env)) (TP X pins σ Q) X.xe s
/-- a test whatever its 'whole' is (and, or) -/
def PW (X : Cx) (e : Expr) (t : TT) : Prop :=
  ∀ (whole : Sem Value) (pins : List (Addr × Obj)) (s : Shared) (σ : St) (H : Hp) (Q : Bool → Hp → Prop), Inv X pins σ H s → t σ H Q → wpAny (model X.prog X.w) X.A (isTrue e X.env whole) (TP X pins σ Q) X.xe s
theorem PW.pt {X : Cx} {e : Expr} {t : TT} (h : PW X e t) : PT X e t := h _
/-- an argument list (no star), from the left -/
def PA (X : Cx) (es : List Expr) (t : TA) : Prop :=
  ∀ (pos : Pos) (pins : List (Addr × Obj)) (s : Shared) (σ : St) (H : Hp) (Q : List V → Hp → Prop), Inv X pins σ H s → t σ H Q → wpAny (model X.prog X.w) X.A (spliced (backTo pos (starEach es X.env))) (AP X pins σ Q) X.xe s
def PS (X : Cx) (st : Stmt) (t : TS) : Prop :=
  ∀ (pins : List (Addr × Obj)) (s : Shared) (σ : St) (H : Hp) (D : Ends), Inv X pins σ H s → t D σ H → wpAny (model X.prog X.w) X.A (exec st X.env) (SP X pins D) X.xe s
def PSs (X : Cx) (st : List Stmt) (t : TS) : Prop :=
  ∀ (pins : List (Addr × Obj)) (s : Shared) (σ : St) (H : Hp) (D : Ends), Inv X pins σ H s → t D σ H → wpAny (model X.prog X.w) X.A (execs st X.env) (SP X pins D) X.xe s
/-- weaken the end -/
theorem thn {α : Type} {t : Sem α} {Q Q' : α → Shared → Prop} {M : Model} {A : Around} {E : Value → Shared → Prop} {s : Shared} (h : wpAny M A t Q E s) (hQ : ∀ a s, Q a s → Q' a s) : wpAny M A t Q' E s := wpAny_mono h hQ fun _ _ x => x
end L2

namespace L2
open PySem PySem.Spec PyProof.Rows
section
variable {X : Cx}

/-- two expressions in a row -/
theorem bin {a b : Expr} {ta tb : TE} (ha : PE X a ta) (hb : PE X b tb) {pins : List (Addr × Obj)} {s : Shared} {σ : St} {H : Hp} {R : V → V → Hp → Prop} (I : Inv X pins σ H s) (h : ta σ H fun x H1 => tb σ H1 fun y H2 => R x y H2)
    {α : Type} {Q : α → Shared → Prop} {f : Value → Value → Sem α}
    (hf : ∀ v u s2 x y H2, Inv X pins σ H2 s2 → RelV x v → RelV y u → R x y H2 → wpAny (model X.prog X.w) X.A (f v u) Q X.xe s2) :
    wpAny (model X.prog X.w) X.A (eval a X.env) (fun v s₁ => wpAny (model X.prog X.w) X.A (eval b X.env) (fun u s₂ => wpAny (model X.prog X.w) X.A (f v u) Q X.xe s₂) X.xe s₁) X.xe s := by
  refine thn (ha pins s σ H _ I h) fun v s1 ⟨x, H1, I1, r1, q1⟩ => ?_
  refine thn (hb pins s1 σ H1 _ I1 q1) fun u s2 ⟨y, H2, I2, r2, q2⟩ => ?_
  exact hf v u s2 x y H2 I2 r1 r2 q2

/-! ### names and constants -/
def tVar (i : Nat) : TE := fun σ H Q => ∃ v, σ[i]? = some (some v) ∧ Q v H
def tC (v : V) : TE := fun _ H Q => Q v H
theorem pe_var {i : Nat} {x : Str} {pos : Pos} (hN : X.N[i]? = some x) (hv : Vis X.env.scope x) (hd : (x == ("__debug__" : Str)) = false := by decide) (hcd : (x == ("__classdict__" : Str)) = false := by decide) : PE X (.Name x pos) (tVar i) := by
  intro pins s σ H Q I h
  obtain ⟨v, e, h⟩ := h
  obtain ⟨m, hn, hl⟩ := I.loc
  obtain ⟨u, r, l⟩ := hl i x v hN e hv
  have fin : EP X pins σ Q u s := ⟨v, H, I, r, h⟩
  rcases l with ⟨hk, hm⟩ | ⟨hk, c, hc, hcell⟩
  · exact wpAny_Name (wpAny_loadName_local I.ok.kind hk hn hm fin) hd
  · rcases hk with hk | hk
    · exact wpAny_Name (wpAny_loadName_cell I.ok.kind hk hc hcell fin) hd
    · exact wpAny_Name (wpAny_loadName_free I.ok.kind hk hc hcell fin hcd) hd
theorem pe_int {i j pos} : PE X (.Constant (.int i) j pos) (tC (.int i)) := fun _ _ _ H _ I h => wpAny_Constant_int ⟨.int i, H, I.tok _, ⟨_, rfl⟩, h⟩
theorem pe_bl {b j pos} : PE X (.Constant (.bool b) j pos) (tC (.bl b)) := fun _ _ _ H _ I h => Constant_bool ⟨.bl b, H, I, rfl, h⟩
theorem pe_str {x j pos} : PE X (.Constant (.str x) j pos) (tC (.str x)) := fun _ _ _ H _ I h => Calls.Constant_str ⟨.str x, H, I.tok _, ⟨_, rfl⟩, h⟩

/-- a global name of the def -/
def Gl (X : Cx) (x : Str) : Prop := X.env.kindOf x = some .globalImplicit
theorem ld_glob {E : Value → Shared → Prop} {pins : List (Addr × Obj)} {s : Shared} {σ : St} {H : Hp} {x : Str} {u : Value} {pos : Pos} {Q : Value → Shared → Prop} (I : Inv X pins σ H s) (hg : Gl X x) (hm : X.mg x = some u) (h : Q u s)
    (hd : (x == ("__debug__" : Str)) = false := by decide) : wpAny (model X.prog X.w) X.A (eval (.Name x pos) X.env) Q E s :=
  Calls.Name_function_global I.ok.kind hg (Calls.loadGlobal_global (by rw [I.ok.glob]; exact I.mod.glob.keeps I.bk) hm h) hd
theorem ld_blt {E : Value → Shared → Prop} {pins : List (Addr × Obj)} {s : Shared} {σ : St} {H : Hp} {x : Str} {u : Value} {pos : Pos} {Q : Value → Shared → Prop} (I : Inv X pins σ H s) (hg : Gl X x) (hm : X.mg x = none) (hv : bootBuiltins x = some u) (h : Q u s)
    (hn : x ≠ "__name__" := by decide) (hd : (x == ("__debug__" : Str)) = false := by decide) : wpAny (model X.prog X.w) X.A (eval (.Name x pos) X.env) Q E s := by
  obtain ⟨mb, h1, h2⟩ := I.mod.blt
  exact Calls.Name_function_global I.ok.kind hg (Calls.loadGlobal_builtin (by rw [I.ok.glob]; exact I.mod.glob.keeps I.bk) hm (by rw [I.ok.blt]; exact h1.keeps I.bk) ((h2 x hn).trans hv) h) hd
/-- a module's constant, a class, a function, as a value -/
theorem pe_glob {x : Str} {v : V} {u : Value} {pos : Pos} (hg : Gl X x) (hm : X.mg x = some u) (r : RelV v u) (hd : (x == ("__debug__" : Str)) = false := by decide) : PE X (.Name x pos) (tC v) :=
  fun _ _ _ H _ I h => ld_glob I hg hm ⟨v, H, I, r, h⟩ hd
/-! ### arithmetic -/
variable {a b : Expr} {ta tb : TE} {pos : Pos}
/-! ### comparisons -/
def PC (X : Cx) (op : CmpOp) (a b : Expr) (t : TE) : Prop :=
  ∀ (pins : List (Addr × Obj)) (s : Shared) (σ : St) (H : Hp) (Q : VK), Inv X pins σ H s → t σ H Q →
    wpAny (model X.prog X.w) X.A (eval a X.env) (fun v s₁ => wpAny (model X.prog X.w) X.A (eval b X.env) (fun u s₂ => wpAny (model X.prog X.w) X.A (compareOp op v u) (EP X pins σ Q) X.xe s₂) X.xe s₁) X.xe s
/-- a comparison as a value, as a test -/
def tB (t : TE) : TT := fun σ H Q => t σ H fun x H1 => ∃ c, x = .bl c ∧ Q c H1
theorem pt_cmp {op : CmpOp} {t : TE} (h : PC X op a b t) (h1 : behindInMarks op b = false := by first | exact nobehind _ (by decide) (by decide) | rfl) : PT X (.Compare a [op] [b] pos) (tB t) := by
  intro pins s σ H Q I hw
  refine wpAny_isTrue_Compare1 (thn (h pins s σ H _ I hw) fun v s1 h1 => thn h1 fun u s2 h2 => thn h2 fun c s3 ⟨x, H1, I1, r1, q1⟩ => ?_) h1
  obtain ⟨d, rfl, q⟩ := q1
  cases r1
  exact wpAny_truthy_bool ⟨H1, I1, q⟩
/-- an expression whose value is a bool, as a test -/
theorem pt_val {e : Expr} {t : TE} (h : PE X e t) (he : ∀ whole, isTrue e X.env whole = (do let v ← whole; standAt e.pos; holding [v] (truthy v)) := by intro _; rfl) : PT X e (tB t) := by
  intro pins s σ H Q I hw
  refine isTrue_plain (thn (h pins s σ H _ I hw) fun v s1 ⟨x, H1, I1, r1, q1⟩ => ?_) (he _)
  obtain ⟨d, rfl, q⟩ := q1
  cases r1
  exact wpAny_truthy_bool ⟨H1, I1, q⟩

/-! ### and, or, not -/
variable {tA tB' : TT} {rest : List Expr}
def tAnd (t u : TT) : TT := fun σ H Q => t σ H fun c H1 => if c = true then u σ H1 Q else Q false H1
def tOr (t u : TT) : TT := fun σ H Q => t σ H fun c H1 => if c = true then Q true H1 else u σ H1 Q
def tNot (t : TT) : TT := fun σ H Q => t σ H fun c H1 => Q (!c) H1
theorem pw_and1 (ha : PT X a tA) : PW X (.BoolOp .And [a] pos) tA := by
  intro wh pins s σ H Q I h
  refine isTrue_and (thn (ha pins s σ H Q I h) fun c s1 e => ?_)
  cases c with
  | true => exact isTrue_and_nil e
  | false => exact e
theorem pw_or1 (ha : PT X a tA) : PW X (.BoolOp .Or [a] pos) tA := by
  intro wh pins s σ H Q I h
  refine isTrue_or (thn (ha pins s σ H Q I h) fun c s1 e => ?_)
  cases c with
  | false => exact isTrue_or_nil e
  | true => exact e
theorem pw_and (ha : PT X a tA) (hb : PW X (.BoolOp .And (b :: rest) pos) tB') : PW X (.BoolOp .And (a :: b :: rest) pos) (tAnd tA tB') := by
  intro wh pins s σ H Q I h
  refine isTrue_and (thn (ha pins s σ H _ I h) fun c s1 ⟨H1, I1, q1⟩ => ?_)
  cases c with
  | true => exact hb wh pins s1 σ H1 Q I1 q1
  | false => exact ⟨H1, I1, q1⟩
theorem pw_or (ha : PT X a tA) (hb : PW X (.BoolOp .Or (b :: rest) pos) tB') : PW X (.BoolOp .Or (a :: b :: rest) pos) (tOr tA tB') := by
  intro wh pins s σ H Q I h
  refine isTrue_or (thn (ha pins s σ H _ I h) fun c s1 ⟨H1, I1, q1⟩ => ?_)
  cases c with
  | true => exact ⟨H1, I1, q1⟩
  | false => exact hb wh pins s1 σ H1 Q I1 q1
theorem pt_not (ha : PT X a tA) : PT X (.UnaryOp .Not a pos) (tNot tA) := by
  intro pins s σ H Q I h
  exact isTrue_not (ha pins s σ H (fun c H1 => Q (!c) H1) I h)
/-- .. as values (bools) -/
def tAndV (ta tb : TE) : TE := fun σ H Q => ta σ H fun x H1 => ∃ c, x = .bl c ∧ if c = true then tb σ H1 Q else Q (.bl false) H1
def tNotV (ta : TE) : TE := fun σ H Q => ta σ H fun x H1 => ∃ c, x = .bl c ∧ Q (.bl (!c)) H1
theorem pe_one {op} {t : TE} (h : PE X a t) : PE X (.BoolOp op [a] pos) t := fun pins s σ H Q I hw => BoolOp_one (h pins s σ H Q I hw)
theorem pe_and (ha : PE X a ta) (hb : PE X (.BoolOp .And (b :: rest) pos) tb) : PE X (.BoolOp .And (a :: b :: rest) pos) (tAndV ta tb) := by
  intro pins s σ H Q I h
  refine BoolOp_and (thn (ha pins s σ H _ I h) fun v s1 ⟨x, H1, I1, r1, q1⟩ => ?_)
  obtain ⟨c, rfl, q1⟩ := q1
  cases r1
  refine wpAny_truthy_bool ?_
  cases c with
  | true => exact hb pins s1 σ H1 Q I1 q1
  | false => exact ⟨.bl false, H1, I1, rfl, q1⟩
theorem pe_not (ha : PE X a ta) : PE X (.UnaryOp .Not a pos) (tNotV ta) := by
  intro pins s σ H Q I h
  refine UnaryOp_ (thn (ha pins s σ H _ I h) fun v s1 ⟨x, H1, I1, r1, q1⟩ => ?_)
  obtain ⟨c, rfl, q1⟩ := q1
  cases r1
  exact not_of (wpAny_truthy_bool ⟨.bl (!c), H1, I1, rfl, q1⟩)
end
end L2

namespace L2
open PySem PySem.Spec PyProof.Rows

/-! ### a list, a tuple that is read: tracked, frozen, or an object of the module -/
def SqL (K : PySem.W.Frag) (H : Hp) (a : Addr) (xs : List V) : Prop :=
  Rd H a (.lst xs) ∨
    ∃ (o : Obj) (its : Array Value) (n : Nat), K.lookup a = some o ∧ o.cls = .type "list" ∧ o.dict = none ∧ o.data = .seq its n ∧ its.size ≤ sizeLine ∧ Vals xs its.toList
def SqT (K : PySem.W.Frag) (H : Hp) (a : Addr) (xs : List V) : Prop :=
  Rd H a (.tup xs) ∨
    ∃ (o : Obj) (its : Array Value) (n : Nat), K.lookup a = some o ∧ o.cls = .type "tuple" ∧ o.data = .seq its n ∧ its.size ≤ sizeLine ∧ Vals xs its.toList
def absV : Value → Option V
  | .none => some .non
  | .bool b => some (.bl b)
  | .int i _ => some (.int i)
  | .str x _ => some (.str x)
  | .bytes b _ => some (.byt b)
  | .float b _ => some (.flt b)
  | .ref a => some (.ref a)
  | .type n => some (.ty n)
  | _ => none
theorem RelV.abs {x : V} {u : Value} (r : RelV x u) : absV u = some x := by
  cases x with
  | non => cases r; rfl
  | bl _ => cases r; rfl
  | int _ => obtain ⟨t, rfl⟩ := r; rfl
  | str _ => obtain ⟨t, rfl⟩ := r; rfl
  | byt _ => obtain ⟨t, rfl⟩ := r; rfl
  | flt _ => obtain ⟨t, rfl⟩ := r; rfl
  | ref _ => cases r; rfl
  | ty _ => cases r; rfl
theorem RelV.inj {x y : V} {u : Value} (r : RelV x u) (q : RelV y u) : x = y := Option.some.inj (r.abs.symm.trans q.abs)
theorem Vals.inj : ∀ {xs ys : List V} {us : List Value}, Vals xs us → Vals ys us → xs = ys
  | _, _, _, .nil, .nil => rfl
  | _, _, _, .cons r t, .cons r' t' => by rw [r.inj r', Vals.inj t t']
section
variable {X : Cx} {pins : List (Addr × Obj)} {σ : St} {H : Hp} {s : Shared} {a : Addr} {xs ys : List V}
theorem SqL.of {K : PySem.W.Frag} (h : H a = some (.lst xs)) : SqL K H a xs := .inl (.inl h)
theorem SqT.of {K : PySem.W.Frag} (h : H a = some (.tup xs)) : SqT K H a xs := .inl (.inl h)
theorem Inv.list (I : Inv X pins σ H s) (h : SqL X.K H a xs) : ∃ its : List Value, Vals xs its ∧ PlainL s.heap a its.toArray ∧ xs.length ≤ sizeLine := by
  rcases h with h | ⟨o, its, n, hk, hc, hd, hs, hz, r⟩
  · obtain ⟨z, its, n, r, e⟩ := h.ok I.hok
    exact ⟨its, r, ⟨_, n, e, rfl, rfl, rfl⟩, z⟩
  · refine ⟨its.toList, r, ⟨o, n, I.kIn a o hk, hc, hd, by simpa using hs⟩, ?_⟩
    have e := r.length
    simp only [Array.length_toList] at e
    omega
theorem Inv.tuple (I : Inv X pins σ H s) (h : SqT X.K H a xs) : ∃ its : List Value, Vals xs its ∧ IsTup s.heap a its.toArray ∧ xs.length ≤ sizeLine := by
  rcases h with h | ⟨o, its, n, hk, hc, hs, hz, r⟩
  · obtain ⟨z, its, r, p⟩ := h.ok I.hok
    exact ⟨its, r, p, z⟩
  · refine ⟨its.toList, r, ⟨o, I.kIn a o hk, hc, n, by simpa using hs⟩, ?_⟩
    have e := r.length
    simp only [Array.length_toList] at e
    omega
theorem Inv.list_inj (I : Inv X pins σ H s) (h : SqL X.K H a xs) (h' : SqL X.K H a ys) : xs = ys := by
  obtain ⟨its, r, ⟨o, n, e, _, _, d⟩, _⟩ := I.list h
  obtain ⟨its', r', ⟨o', n', e', _, _, d'⟩, _⟩ := I.list h'
  rw [e] at e'; cases e'
  rw [d] at d'
  injection d' with d1 _
  have : its = its' := by simpa using congrArg Array.toList d1
  subst this
  exact r.inj r'
end

/-! ### another wish about exceptions -/
abbrev Cx.wish (X : Cx) (E : Value → Shared → Prop) : Cx := { X with xe := E }
/-- no exception leaves -/
abbrev Cx.nox (X : Cx) : Cx := X.wish fun _ _ => False
theorem Cx.Ok.wish {X : Cx} (ok : X.Ok) (E : Value → Shared → Prop) : (X.wish E).Ok :=
  ⟨ok.mod, ok.kind, ok.glob, ok.blt, ok.above, ok.inj, ok.has, ok.cab, ok.hd, ok.frames, ok.stk, ok.exf, ok.bs, ok.bsz, ok.noex, ok.exfs, ok.funs, ok.frf⟩
theorem Cx.Ok.unwish {X : Cx} {E : Value → Shared → Prop} (ok : (X.wish E).Ok) : X.Ok :=
  ⟨ok.mod, ok.kind, ok.glob, ok.blt, ok.above, ok.inj, ok.has, ok.cab, ok.hd, ok.frames, ok.stk, ok.exf, ok.bs, ok.bsz, ok.noex, ok.exfs, ok.funs, ok.frf⟩
section
variable {X : Cx} {pins : List (Addr × Obj)} {σ : St} {H : Hp} {s : Shared} {E : Value → Shared → Prop}
theorem Inv.wish (I : Inv X pins σ H s) (E : Value → Shared → Prop) : Inv (X.wish E) pins σ H s := ⟨I.ok.wish E, I.os, I.bare, I.base, I.loc, I.cell, I.free, I.freeC, I.pin, I.hok, I.len⟩
theorem Inv.unwish (I : Inv (X.wish E) pins σ H s) : Inv X pins σ H s := ⟨I.ok.unwish, I.os, I.bare, I.base, I.loc, I.cell, I.free, I.freeC, I.pin, I.hok, I.len⟩
theorem SP.unwish {D : Ends} {f : Flow} {s' : Shared} (h : SP (X.wish E) pins D f s') : SP X pins D f s' := by
  cases f with
  | next => obtain ⟨σ', H', I, q⟩ := h; exact ⟨σ', H', I.unwish, q⟩
  | brk => obtain ⟨σ', H', I, q⟩ := h; exact ⟨σ', H', I.unwish, q⟩
  | cont => obtain ⟨σ', H', I, q⟩ := h; exact ⟨σ', H', I.unwish, q⟩
  | ret u => obtain ⟨v, σ', H', I, r, q⟩ := h; exact ⟨v, σ', H', I.unwish, r, q⟩
theorem PSs.nox {st : List Stmt} {t : TS} (h : PSs X.nox st t) : PSs X st t := fun pins s σ H D I hw =>
  wpAny_mono (h pins s σ H D (I.wish _) hw) (fun _ _ q => q.unwish) fun _ _ z => False.elim z
end

/-! ### blocks and small statements -/
section
variable {X : Cx} {st : Stmt} {rest : List Stmt} {t u : TS} {e : Expr} {te : TE} {pos : Pos}
def tNext : TS := fun D σ H => D.nx σ H
def tSeq (t u : TS) : TS := fun D σ H => t { D with nx := u D } σ H
theorem pss_nil : PSs X [] tNext := fun _ _ σ H _ I h => wpAny_execs_nil ⟨σ, H, I, h⟩
theorem pss_cons (h1 : PS X st t) (h2 : PSs X rest u) : PSs X (st :: rest) (tSeq t u) := by
  intro pins s σ H D I h
  refine wpAny_execs_cons (thn (h1 pins s σ H { D with nx := u D } I h) fun f s1 q => ?_)
  cases f with
  | next =>
    obtain ⟨σ', H', I', q⟩ := q
    exact h2 pins s1 σ' H' D I' q
  | ret v => exact q
  | brk => exact q
  | cont => exact q
theorem pss_one (h1 : PS X st t) : PSs X [st] t := by
  intro pins s σ H D I h
  refine wpAny_execs_cons (thn (h1 pins s σ H D I h) fun f s1 q => ?_)
  cases f with
  | next => exact wpAny_execs_nil q
  | ret v => exact q
  | brk => exact q
  | cont => exact q
/-- in a def's body nothing is shown -/
theorem Inv.quiet {pins : List (Addr × Obj)} {σ : St} {H : Hp} {s : Shared} (I : Inv X pins σ H s) : interactive X.env = false := by simp [interactive, I.ok.kind]
/-- an expression whose value is dropped -/
def tDrop (te : TE) : TS := fun D σ H => te σ H fun _ H1 => D.nx σ H1
theorem ps_expr (he : PE X e te) (hs : swapsWith e none pos.line X.env = pure false := by rfl) : PS X (.Expr e pos) (tDrop te) := by
  intro pins s σ H D I h
  exact wpAny_Expr_any (thn (he pins s σ H _ I h) fun v s1 ⟨x, H1, I1, r1, q1⟩ => ⟨σ, H1, I1, q1⟩) I.quiet hs
def tRet (te : TE) : TS := fun D σ H => te σ H D.rt
theorem ps_ret (he : PE X e te) : PS X (.Return (some e) pos) (tRet te) := by
  intro pins s σ H D I h
  exact wpAny_Return_some (thn (he pins s σ H _ I h) fun v s1 ⟨x, H1, I1, r1, q1⟩ => ⟨x, σ, H1, I1, r1, q1⟩)
def tIfS (c : TT) (t u : TS) : TS := fun D σ H => c σ H fun b H1 => if b = true then t D σ H1 else u D σ H1
theorem ps_if {c : Expr} {a b : List Stmt} {tc : TT} (hc : PT X c tc) (ha : PSs X a t) (hb : PSs X b u) : PS X (.If c a b pos) (tIfS tc t u) := by
  intro pins s σ H D I h
  refine wpAny_If (thn (hc pins s σ H _ I h) fun d s1 ⟨H1, I1, q1⟩ => ?_)
  cases d with
  | true => exact ha pins s1 σ H1 D I1 q1
  | false => exact hb pins s1 σ H1 D I1 q1
/-- code that the proof never comes to -/
def tNever : TS := fun _ _ _ => False
theorem pss_never {sts : List Stmt} : PSs X sts tNever := fun _ _ _ _ _ _ h => h.elim
end

/-! ### targets -/
abbrev TG := V → St → Hp → (St → Hp → Prop) → Prop
def PG (X : Cx) (target : Expr) (t : TG) : Prop :=
  ∀ (pins : List (Addr × Obj)) (s : Shared) (σ : St) (H : Hp) (v : V) (u : Value) (Q : St → Hp → Prop), Inv X pins σ H s → RelV v u → t v σ H Q →
    wpAny (model X.prog X.w) X.A (assign target X.env u) (fun _ s' => ∃ σ' H', Inv X pins σ' H' s' ∧ Q σ' H') X.xe s
section
variable {X : Cx} {pos : Pos}
def gName (i : Nat) : TG := fun v σ H Q => Q (σ.set i (some v)) H
theorem pg_name {i : Nat} {x : Str} (hN : X.N.Nodup) (hi : X.N[i]? = some x) (hx : Loc X.env.scope x) (hf : X.fn x = true ∨ X.env.scope.names.lookup x = some .local := by first | exact .inl rfl | exact .inr rfl | assumption) : PG X (.Name x pos) (gName i) := by
  intro pins s σ H v u Q I r h
  exact wpAny_assign_Name (store_ok I hN hi hx r (fun s' I' => ⟨_, H, I', h⟩) hf)
/-- target = value -/
def tAsg (te : TE) (g : TG) : TS := fun D σ H => te σ H fun x H1 => g x σ H1 D.nx
/-- name = value -/
theorem ps_set {i : Nat} {x : Str} {e : Expr} {te : TE} {pos' : Pos} (hN : X.N.Nodup) (hi : X.N[i]? = some x) (hx : Loc X.env.scope x) (he : PE X e te) (hs : swapsWith e (some (.Name x pos')) pos.line X.env = pure false := by rfl) (hf : X.fn x = true ∨ X.env.scope.names.lookup x = some .local := by first | exact .inl rfl | exact .inr rfl | assumption) :
    PS X (.Assign [.Name x pos'] e pos) (tAsg te (gName i)) := by
  intro pins s σ H D I h
  refine wpAny_Assign_Name (thn (he pins s σ H _ I h) fun v s1 ⟨y, H1, I1, r1, q1⟩ => ?_) hs
  exact store_ok I1 hN hi hx r1 (fun s2 I2 => ⟨_, H1, I2, q1⟩) hf
end

/-! ### while -/
section
variable {X : Cx} {pos : Pos}
/-- the invariant W with its measure -/
def tWhile (c : TT) (tb : TS) : TS := fun D σ H => ∃ W : Nat → St → Hp → Prop, (∃ m, W m σ H) ∧ ∀ m σ H, W m σ H →
  c σ H fun b H1 => if b = true then ∃ N : St → Hp → Prop, (∀ σ' H', N σ' H' → ∃ m', m' < m ∧ W m' σ' H') ∧ tb { D with nx := N, ct := N, bk := D.nx } σ H1 else D.nx σ H1
theorem ps_while {c : Expr} {body : List Stmt} {tc : TT} {tb : TS} (hp : PassesOwn (model X.prog X.w) X.A X.env X.xe) (hc : PT X c tc) (hb : PSs X body tb) : PS X (.While c body [] pos) (tWhile tc tb) := by
  intro pins s σ H D I h
  obtain ⟨W, ⟨m0, w0⟩, turn⟩ := h
  refine wpAny_While (codeAny_whileLoop (fun n s' => ∃ σ' H', Inv X pins σ' H' s' ∧ W n σ' H') ?_ m0 ⟨σ, H, I, w0⟩)
  rintro n s1 ⟨σ1, H1, I1, w1⟩
  refine wpAny_passesOwn hp (thn (hc pins s1 σ1 H1 _ I1 (turn n σ1 H1 w1)) fun b s2 ⟨H2, I2, q2⟩ => ?_)
  cases b with
  | true =>
    obtain ⟨N, hN, q2⟩ := q2
    rw [if_pos rfl]
    refine wpAny_passesOwn hp (thn (hb pins s2 σ1 H2 _ I2 q2) fun f s3 q3 => ?_)
    cases f with
    | next =>
      obtain ⟨σ3, H3, I3, n3⟩ := q3
      obtain ⟨m', hm, w3⟩ := hN σ3 H3 n3
      exact ⟨m', hm, σ3, H3, I3, w3⟩
    | cont =>
      obtain ⟨σ3, H3, I3, n3⟩ := q3
      obtain ⟨m', hm, w3⟩ := hN σ3 H3 n3
      exact ⟨m', hm, σ3, H3, I3, w3⟩
    | brk => exact q3
    | ret v => exact q3
  | false =>
    rw [if_neg Bool.false_ne_true]
    exact wpAny_execs_nil ⟨σ1, H2, I2, q2⟩
end

/-! ### what a loop or a comprehension walks -/
/-- at turn i: it yields x (the heap may grow), or it stops -/
structure It where
  go : Nat → Hp → Prop
  yld : Nat → Hp → V → Hp → Prop
  stop : Nat → Hp → Prop
/-- the iterator's own objects may turn: they are not the frame's, not pinned, younger than the entry (or a comprehension's own) -/
def FpOk (X : Cx) (pins : List (Addr × Obj)) (H : Hp) (b : Addr) : Prop :=
  H b = none ∧ b ≠ X.env.locals ∧ b ∉ X.fs ∧ (b ∈ X.ex ∨ X.s₀.heap.objs.size ≤ b) ∧ (∀ x c, X.env.cells.lookup x = some c → c ≠ b) ∧ ∀ p ∈ X.pn ++ pins, p.1 ≠ b
theorem Inv.fpOk {X : Cx} {pins : List (Addr × Obj)} {σ : St} {H H' : Hp} {s : Shared} {b : Addr} (I : Inv X pins σ H s) (hb : s.heap.objs.size ≤ b) (hn : H' b = none) : FpOk X pins H' b := by
  refine ⟨hn, Nat.ne_of_gt (Nat.lt_of_lt_of_le I.lt hb), I.nofs hb, .inr (Nat.le_trans I.sz hb), fun x c e z => ?_, fun p hp z => ?_⟩
  · obtain ⟨v, q⟩ := I.cell x c e
    exact absurd (Nat.lt_of_lt_of_le q.lt (by rw [z]; exact hb)) (Nat.lt_irrefl _)
  · exact absurd (Nat.lt_of_lt_of_le (Heap.lt_size (I.pin p hp).1) (by rw [z]; exact hb)) (Nat.lt_irrefl _)
structure Turn (P : Program) (w : World) (K : PySem.W.Frag) (tg : Expr) (J : It) (fp : List Addr) (it : Addr) (tn : Nat → Heap → Prop) : Prop where
  mem : it ∈ fp
  obj : ∀ i h, tn i h → ∀ b ∈ fp, ∃ o, h.get? b = some o ∧ ∀ v, o.data ≠ .cell v
  keep : ∀ i h h', tn i h → (∀ b ∈ fp, ∀ o, h.get? b = some o → h'.get? b = some o) → tn i h'
  item : ∀ (X : Cx), X.prog = P → X.w = w → X.K = K → X.calm = true → ∀ (i : Nat) (pins : List (Addr × Obj)) (s : Shared) (σ : St) (H : Hp) (E : Value → Shared → Prop), Inv X pins σ H s → (∀ b ∈ fp, FpOk X pins H b) → tn i s.heap → J.go i H →
    wpAny (model P w) X.A (pyNext (.ref it)) (fun r s1 => ∃ u, r = some u ∧
      wpAny (model P w) X.A (letOwnedTupleGo tg (.ref it) u) (fun _ s2 => ∃ x H', Inv X pins σ H' s2 ∧ RelV x u ∧ J.yld i H x H' ∧ tn (i + 1) s2.heap ∧ ∀ b ∈ fp, H' b = none) E s1) E s
  done : ∀ (X : Cx), X.prog = P → X.w = w → X.K = K → X.calm = true → ∀ (i : Nat) (pins : List (Addr × Obj)) (s : Shared) (σ : St) (H : Hp) (E : Value → Shared → Prop), Inv X pins σ H s → (∀ b ∈ fp, FpOk X pins H b) → tn i s.heap → J.stop i H →
    wpAny (model P w) X.A (pyNext (.ref it)) (fun r s1 => r = none ∧ Inv X pins σ H s1) E s
  self : ∀ (A : Around) (i : Nat) (s : Shared) (Q : Value → Shared → Prop) (E : Value → Shared → Prop), tn i s.heap → Q (.ref it) s → wpAny (model P w) A (pyIter (.ref it)) Q E s
abbrev TI := St → Hp → (It → Hp → Prop) → Prop
/-- an iterator has come -/
def PIE (X : Cx) (pins : List (Addr × Obj)) (σ : St) (tg : Expr) (R : It → Hp → Prop) (itv : Value) (s2 : Shared) : Prop :=
  ∃ (it : Addr) (fp : List Addr) (tn : Nat → Heap → Prop) (J : It) (H' : Hp), itv = .ref it ∧ Inv X pins σ H' s2 ∧ Turn X.prog X.w X.K tg J fp it tn ∧ tn 0 s2.heap ∧ (∀ b ∈ fp, FpOk X pins H' b) ∧ R J H'
def PI (X : Cx) (tg iter : Expr) (wi : TI) : Prop :=
  ∀ (pins : List (Addr × Obj)) (s : Shared) (σ : St) (H : Hp) (R : It → Hp → Prop), Inv X pins σ H s → wi σ H R →
    wpAny (model X.prog X.w) X.A (eval iter X.env) (fun v s1 => wpAny (model X.prog X.w) X.A (pyIter v) (PIE X pins σ tg R) X.xe s1) X.xe s

/-- the step ahead of the store is nothing for an iterator that keeps no tuple -/
theorem go_of {M : Model} {A : Around} {E : Value → Shared → Prop} {s : Shared} {tg : Expr} {it : Addr} {u : Value} {o : Obj} {n : String} {vs : Array Value} {Q : Unit → Shared → Prop} (ho : s.heap.get? it = some o) (hc : o.cls = .type n) (hd : o.data = .fields vs)
    (hn : ["enumerate", "zip", "dict_itemiterator", "dict_reverseitemiterator", "odict_iterator", "itertools.zip_longest", "itertools.pairwise"].contains n = false) (hQ : Q () s) : wpAny M A (letOwnedTupleGo tg (.ref it) u) Q E s := by
  unfold letOwnedTupleGo
  cases tg <;> first
    | exact wpAny_pure hQ
    | (cases u <;> first
        | exact wpAny_pure hQ
        | (refine wpAny_bind (wpAny_load ho ?_)
           rw [hc, hd]
           show wpAny M A (if (["enumerate", "zip", "dict_itemiterator", "dict_reverseitemiterator", "odict_iterator", "itertools.zip_longest", "itertools.pairwise"].contains n && vs[0]? == some (rawInt _)) = true then _ else _) Q E s
           rw [if_neg (by intro h; rw [hn, Bool.false_and] at h; cases h)]
           exact wpAny_pure hQ))

/-- the list at a, as it stands at each turn (a loop may append to it) -/
def Itl (K : PySem.W.Frag) (a : Addr) : It :=
  ⟨fun i H => ∃ xs x, SqL K H a xs ∧ xs[i]? = some x, fun i H x H' => H' = H ∧ ∀ xs, SqL K H a xs → xs[i]? = some x, fun i H => ∃ xs, SqL K H a xs ∧ xs.length ≤ i⟩
/-- lo, lo + 1, .. (n of them) -/
def Itr (lo : Int) (n : Nat) : It := ⟨fun i _ => i < n, fun i H x H' => H' = H ∧ x = .int (lo + i), fun i _ => n ≤ i⟩
theorem turn_list {P : Program} {w : World} {K : PySem.W.Frag} {tg : Expr} (a it : Addr) : Turn P w K tg (Itl K a) [it] it (fun i h => h.IsListIter it a i) where
  mem := by simp
  obj := fun i h st b hb => by
    have e : b = it := by simpa using hb
    subst e
    obtain ⟨o, e, c, d⟩ := st
    exact ⟨o, e, fun v z => by rw [d] at z; cases z⟩
  keep := fun i h h' st k => st.at fun o e => k it (by simp) o e
  item := by
    intro X hP hw hK hc i pins s σ H E I hf st hg
    subst hP hw hK
    obtain ⟨xs, x, hq, hx⟩ := hg
    obtain ⟨its, rv, p, hz⟩ := I.list hq
    obtain ⟨u, hu, ru⟩ := rv.get hx
    obtain ⟨f0, f1, f2, f3, f4, f5⟩ := hf it (by simp)
    refine wpAny_pyNext_list_item st p.isList (x := u) (by simpa using hu) fun h' st' sb => ?_
    have I1 : Inv X pins σ H { s with heap := h' } := I.turned (t' := s.toks) (fun b o hb e => (sb.2 b hb).trans e) f0 f1 f3 f4 f5
    obtain ⟨o, e, c, d⟩ := id st'
    exact ⟨u, rfl, go_of (s := { s with heap := h' }) e c d (by decide) ⟨x, H, I1, ru, ⟨rfl, fun ys hy => by rw [I.list_inj hy hq]; exact hx⟩, st', fun b hb => (hf b hb).1⟩⟩
  done := by
    intro X hP hw hK hc i pins s σ H E I hf st hg
    subst hP hw hK
    obtain ⟨xs, hq, hx⟩ := hg
    obtain ⟨its, rv, p, hz⟩ := I.list hq
    obtain ⟨f0, f1, f2, f3, f4, f5⟩ := hf it (by simp)
    have hl := rv.length
    exact wpAny_pyNext_list_end (I.ok.hd hc) st p.isList (by simp; omega) fun h' eb => ⟨rfl, I.turned (t' := s.toks) (fun b o hb e => eb b o hb e) f0 f1 f3 f4 f5⟩
  self := fun _ _ _ _ _ st h => wpAny_pyIter_listiter st h
theorem turn_range {P : Program} {w : World} {K : PySem.W.Frag} {tg : Expr} (it : Addr) (lo : Int) (n : Nat) : Turn P w K tg (Itr lo n) [it] it (fun i h => IsRangeIter h it (lo + (i : Nat) * 1) ((n : Int) - (i : Nat)) 1) where
  mem := by simp
  obj := fun i h st b hb => by
    have e : b = it := by simpa using hb
    subst e
    exact ⟨_, st, fun v z => by
      have z' : Data.fields _ = Data.cell v := z
      cases z'⟩
  keep := fun i h h' st k => k it (by simp) _ st
  item := by
    intro X hP hw hK hc i pins s σ H E I hf st hg
    subst hP hw hK
    obtain ⟨f0, f1, f2, f3, f4, f5⟩ := hf it (by simp)
    have W := Walks.range (prog := X.prog) (w := X.w) (I.ok.hd hc) it lo 1 n
    refine W.item i s _ _ hg st fun v h' tk hv st' kk => ?_
    obtain ⟨t, rfl⟩ := hv
    have I1 : Inv X pins σ H { s with heap := h', toks := tk } := I.turned (fun b o hb e => kk b o (by simpa using hb) e) f0 f1 f3 f4 f5
    refine ⟨_, rfl, go_of (s := { s with heap := h', toks := tk }) (n := "range_iterator") st' rfl rfl (by decide) ⟨.int (lo + i), H, I1, ⟨t, ?_⟩, ⟨rfl, rfl⟩, st', fun b hb => (hf b hb).1⟩⟩
    rw [Int.mul_one]
  done := by
    intro X hP hw hK hc i pins s σ H E I hf st hg
    subst hP hw hK
    obtain ⟨f0, f1, f2, f3, f4, f5⟩ := hf it (by simp)
    exact wpAny_pyNext_range_end (I.ok.hd hc) st (by have : n ≤ i := hg; omega) fun h' eb => ⟨rfl, I.turned (t' := s.toks) (fun b o hb e => eb b o hb e) f0 f1 f3 f4 f5⟩
  self := fun _ _ _ _ _ st h => wpAny_pyIter_rangeiter st h
end L2

namespace L2
open PySem PySem.Spec PyProof.Rows
section
variable {X : Cx} {tg : Expr}
def iList (K : PySem.W.Frag) (tl : TE) : TI := fun σ H R => tl σ H fun x H1 => ∃ a, x = .ref a ∧ (∃ xs, SqL K H1 a xs) ∧ R (Itl K a) H1
theorem pi_list {l : Expr} {tl : TE} (hl : PE X l tl) : PI X tg l (iList X.K tl) := by
  intro pins s σ H R I h
  refine thn (hl pins s σ H _ I h) fun v s1 ⟨x, H1, I1, r1, q1⟩ => ?_
  obtain ⟨a, e, ⟨xs, hq⟩, q⟩ := q1
  subst e
  cases r1
  obtain ⟨its, rv, p, hz⟩ := I1.list hq
  refine wpAny_pyIter_list p.isList ?_
  refine ⟨s1.heap.objs.size, [s1.heap.objs.size], _, _, H1, rfl, I1.kept (t' := s1.toks) fun b o e => Heap.get?_push_of_some _ e, turn_list a _, ⟨_, Heap.get?_push_size _ rfl, rfl, rfl⟩, fun b hb => ?_, q⟩
  have e : b = s1.heap.objs.size := by simpa using hb
  subst e
  exact I1.fpOk (Nat.le_refl _) (I1.hok.fresh (Nat.le_refl _))
/-- a range object just made, walked -/
theorem range_it {pins : List (Addr × Obj)} {σ : St} {H : Hp} {s : Shared} {R : It → Hp → Prop} {E : Value → Shared → Prop} {lo hi : Int} {t u v : Tok} {tk : Nat} (I : Inv X pins σ H s) (h1 : -(2 ^ 62) ≤ lo) (h2 : lo < 2 ^ 62) (h3 : -(2 ^ 62) ≤ hi) (h4 : hi < 2 ^ 62)
    (q : R (Itr lo (hi - lo).toNat) H) : wpAny (model X.prog X.w) X.A (pyIter (.ref s.heap.objs.size)) (PIE X pins σ tg R) E { s with heap := s.heap.push { cls := .type "range", data := .fields #[.int lo t, .int hi u, .int 1 v] }, toks := tk } := by
  refine wpAny_pyIter_range (IsRange.new ..) (small_one h1 h2 h3 h4) ?_
  have I1 : Inv X pins σ H { s with heap := s.heap.push { cls := .type "range", data := .fields #[.int lo t, .int hi u, .int 1 v] }, toks := tk } := I.kept fun b o e => Heap.get?_push_of_some _ e
  refine ⟨(s.heap.push { cls := .type "range", data := .fields #[.int lo t, .int hi u, .int 1 v] }).objs.size, [(s.heap.push { cls := .type "range", data := .fields #[.int lo t, .int hi u, .int 1 v] }).objs.size], _, _, H, rfl,
    I1.kept (t' := tk) fun b o e => Heap.get?_push_of_some _ e, turn_range _ lo (hi - lo).toNat, ?_, fun b hb => ?_, q⟩
  · have e1 : lo + ((0 : Nat) : Int) * 1 = lo := by simp
    have e2 : (((hi - lo).toNat : Nat) : Int) - ((0 : Nat) : Int) = Builtin.Range.rangeSize lo hi 1 := by rw [rangeSize_one]; split <;> omega
    show IsRangeIter _ _ (lo + ((0 : Nat) : Int) * 1) ((((hi - lo).toNat : Nat) : Int) - ((0 : Nat) : Int)) 1
    rw [e1, e2]
    exact Heap.get?_push_size _ rfl
  · have e : b = (s.heap.push { cls := .type "range", data := .fields #[.int lo t, .int hi u, .int 1 v] }).objs.size := by simpa using hb
    subst e
    exact I1.fpOk (Nat.le_refl _) (I1.hok.fresh (Nat.le_refl _))
def iRng1 (ta : TA) : TI := fun σ H R => ta σ H fun vs H1 => ∃ j : Int, vs = [.int j] ∧ -(2 ^ 62) ≤ j ∧ j < 2 ^ 62 ∧ R (Itr 0 j.toNat) H1
theorem pi_range1 {a : Expr} {ta : TA} {p pos : Pos} (hg : Gl X "range") (hm : X.mg "range" = none) (ha : PA X [a] ta) (hs : starEach [a] X.env = [(false, eval a X.env)] := by rfl) : PI X tg (.Call (.Name "range" p) [a] [] pos) (iRng1 ta) := by
  intro pins s σ H R I h
  refine Call_ (ld_blt I hg hm boot_range (PyProof.Rows.callWith_type1 (thn (ha pos pins s σ H _ I h) fun us s1 ⟨vs, H1, I1, r1, q1⟩ => ?_) hs rfl))
  obtain ⟨j, e, q1, q2, q⟩ := q1
  subst e
  cases r1 with
  | cons r rr =>
    cases rr
    obtain ⟨t, rfl⟩ := r
    exact call_range_1 (range_it I1 (by omega) (by omega) q1 q2 (by simpa using q))
/-! ### for -/
/-- W: the invariant by the turn and a measure; N: what the body is to reach -/
def tFor (wi : TI) (g : TG) (tb : TS) : TS := fun D σ H => wi σ H fun J H1 => ∃ W : Nat → Nat → St → Hp → Prop, (∃ m, W 0 m σ H1) ∧ ∀ i m σ H, W i m σ H →
  (J.stop i H ∧ D.nx σ H) ∨ (J.go i H ∧ ∃ N : St → Hp → Prop, (∀ σ' H', N σ' H' → ∃ m', m' < m ∧ W (i + 1) m' σ' H') ∧ ∀ x H', J.yld i H x H' → g x σ H' fun σ2 H2 => tb { D with nx := N, ct := N, bk := D.nx } σ2 H2)
/-- the records at fp as they stand -/
def pinsAt (fp : List Addr) (h : Heap) : List (Addr × Obj) := fp.filterMap fun b => (h.get? b).map fun o => (b, o)
theorem mem_pinsAt {fp : List Addr} {h : Heap} {b : Addr} {o : Obj} (hb : b ∈ fp) (e : h.get? b = some o) : (b, o) ∈ pinsAt fp h := List.mem_filterMap.mpr ⟨b, hb, by rw [e]; rfl⟩
theorem of_pinsAt {fp : List Addr} {h : Heap} {p : Addr × Obj} (hp : p ∈ pinsAt fp h) : p.1 ∈ fp ∧ h.get? p.1 = some p.2 := by
  obtain ⟨b, hb, e⟩ := List.mem_filterMap.mp hp
  cases q : h.get? b with
  | none => rw [q] at e; cases e
  | some o =>
    rw [q] at e
    have e' : (b, o) = p := Option.some.inj e
    subst e'
    exact ⟨hb, q⟩
theorem Inv.pinned {pins : List (Addr × Obj)} {σ : St} {H : Hp} {s : Shared} {fp : List Addr} (I : Inv X pins σ H s) (hf : ∀ b ∈ fp, FpOk X pins H b) (ho : ∀ b ∈ fp, ∃ o, s.heap.get? b = some o ∧ ∀ v, o.data ≠ .cell v) : Inv X (pins ++ pinsAt fp s.heap) σ H s :=
  I.pins_of fun p hp => (List.mem_append.mp hp).elim (fun z => I.pin p (List.mem_append_right _ z)) fun z => by
    obtain ⟨hb, e⟩ := of_pinsAt z
    obtain ⟨f0, f1, f2, _⟩ := hf p.1 hb
    obtain ⟨o, e', d⟩ := ho p.1 hb
    rw [e] at e'; cases e'
    exact ⟨e, f0, f1, f2, d⟩
theorem Inv.unpinned {pins pl : List (Addr × Obj)} {σ : St} {H : Hp} {s : Shared} (I : Inv X (pins ++ pl) σ H s) : Inv X pins σ H s := I.pins_of fun p hp => I.pin p (List.mem_append_right _ (List.mem_append_left _ hp))
theorem ps_for {iter : Expr} {body : List Stmt} {wi : TI} {g : TG} {tb : TS} {pos : Pos} (hp : PassesOwn (model X.prog X.w) X.A X.env X.xe) (hc : X.calm = true) (hi : PI X tg iter wi) (hg : PG X tg g) (hb : PSs X body tb)
    (hs : ∀ x, foldedSetIterable iter X.env x = pure x := by intro _; rfl) : PS X (.For tg iter body [] pos) (tFor wi g tb) := by
  intro pins s σ H D I h
  refine wpAny_For (thn (hi pins s σ H _ I h) fun v s1 h1 => thn h1 fun itv s2 h2 => ?_) hs
  obtain ⟨it, fp, tn, J, H2, e, I2, T, st2, f2, W, ⟨m0, w0⟩, turn⟩ := h2
  subst e
  -- what stays true of the iterator's objects through the loop
  have stat : ∀ {H' : Hp}, (∀ b ∈ fp, H' b = none) → ∀ b ∈ fp, FpOk X pins H' b := fun hn b hb => ⟨hn b hb, (f2 b hb).2⟩
  refine codeAny_forLoop_any (fun n s' => ∃ i σ' H', Inv X pins σ' H' s' ∧ tn i s'.heap ∧ (∀ b ∈ fp, H' b = none) ∧ W i n σ' H') ?_ m0 ⟨0, σ, H2, I2, st2, fun b hb => (f2 b hb).1, w0⟩
  rintro n s3 ⟨i, σ3, H3, I3, st3, fr3, w3⟩
  rcases turn i n σ3 H3 w3 with ⟨stop, qn⟩ | ⟨go, N, hN, step⟩
  · refine wpAny_passesOwn hp (thn (T.done X rfl rfl rfl hc i pins s3 σ3 H3 X.xe I3 (stat fr3) st3 stop) fun r s4 ⟨hr, I4⟩ => ?_)
    subst hr
    exact wpAny_execs_nil ⟨σ3, H3, I4, qn⟩
  · refine wpAny_passesOwn hp (thn (T.item X rfl rfl rfl hc i pins s3 σ3 H3 X.xe I3 (stat fr3) st3 go) fun r s4 ⟨u, hr, h4⟩ => ?_)
    subst hr
    refine wpAny_passesOwn hp (thn h4 fun _ s5 ⟨x, H5, I5, r5, y5, st5, fr5⟩ => ?_)
    have I5' := I5.pinned (stat fr5) (T.obj _ _ st5)
    refine wpAny_passesOwn hp (thn (hg _ s5 σ3 H5 x u _ I5' r5 (step x H5 y5)) fun _ s6 ⟨σ6, H6, I6, q6⟩ => ?_)
    refine wpAny_passesOwn hp (thn (hb _ s6 σ6 H6 _ I6 q6) fun f s7 q7 => ?_)
    have again : ∀ {σ7 : St} {H7 : Hp}, Inv X (pins ++ pinsAt fp s5.heap) σ7 H7 s7 → N σ7 H7 → ∃ m, m < n ∧ ∃ i σ' H', Inv X pins σ' H' s7 ∧ tn i s7.heap ∧ (∀ b ∈ fp, H' b = none) ∧ W i m σ' H' := fun {σ7 H7} I7 n7 => by
      obtain ⟨m', hm, w7⟩ := hN σ7 H7 n7
      refine ⟨m', hm, i + 1, σ7, H7, I7.unpinned, T.keep _ _ _ st5 fun b hb o e => (I7.pin (b, o) (List.mem_append_right _ (List.mem_append_right _ (mem_pinsAt hb e)))).1, fun b hb => ?_, w7⟩
      obtain ⟨o, e, d⟩ := T.obj _ _ st5 b hb
      exact (I7.pin (b, o) (List.mem_append_right _ (List.mem_append_right _ (mem_pinsAt hb e)))).2.1
    cases f with
    | next => obtain ⟨σ7, H7, I7, n7⟩ := q7; exact again I7 n7
    | cont => obtain ⟨σ7, H7, I7, n7⟩ := q7; exact again I7 n7
    | brk => obtain ⟨σ7, H7, I7, q7⟩ := q7; exact ⟨σ7, H7, I7.unpinned, q7⟩
    | ret v => obtain ⟨x7, σ7, H7, I7, r7, q7⟩ := q7; exact ⟨x7, σ7, H7, I7.unpinned, r7, q7⟩
end

/-! ### the forms one uses -/
end L2

namespace L2
open PySem PySem.Spec PyProof.Rows

abbrev R2 := V → V → Hp → VK → Prop
/-- a two-place operation on values: f is binaryOp op, inplaceOp op or compareOp op -/
def OpR (X : Cx) (f : Value → Value → Sem Value) (r : R2) : Prop :=
  ∀ (pins : List (Addr × Obj)) (s : Shared) (σ : St) (H : Hp) (x y : V) (v u : Value) (Q : VK), Inv X pins σ H s → RelV x v → RelV y u → r x y H Q →
    wpAny (model X.prog X.w) X.A (f v u) (EP X pins σ Q) X.xe s
/-- a one-place operation -/
def UnR (X : Cx) (f : Value → Sem Value) (r : V → Hp → VK → Prop) : Prop :=
  ∀ (pins : List (Addr × Obj)) (s : Shared) (σ : St) (H : Hp) (x : V) (v : Value) (Q : VK), Inv X pins σ H s → RelV x v → r x H Q →
    wpAny (model X.prog X.w) X.A (f v) (EP X pins σ Q) X.xe s
/-- a call of a value that is known (a builtin, a type) with values -/
def CallR (X : Cx) (f : Value) (r : List V → Hp → VK → Prop) : Prop :=
  ∀ (pins : List (Addr × Obj)) (s : Shared) (σ : St) (H : Hp) (xs : List V) (us : List Value) (Q : VK), Inv X pins σ H s → Vals xs us → r xs H Q →
    wpAny (model X.prog X.w) X.A (call f us) (EP X pins σ Q) X.xe s
def tOp (r : R2) (ta tb : TE) : TE := fun σ H Q => ta σ H fun x H1 => tb σ H1 fun y H2 => r x y H2 Q
def tUn (r : V → Hp → VK → Prop) (ta : TE) : TE := fun σ H Q => ta σ H fun x H1 => r x H1 Q
/-- ints in, under C, and a value out -/
def rI (C : Int → Int → Prop) (g : Int → Int → V) : R2 := fun x y H Q => ∃ i j, x = .int i ∧ y = .int j ∧ C i j ∧ Q (g i j) H
def rI0 (g : Int → Int → V) : R2 := fun x y H Q => ∃ i j, x = .int i ∧ y = .int j ∧ Q (g i j) H
def rU (g : Int → V) : V → Hp → VK → Prop := fun x H Q => ∃ i, x = .int i ∧ Q (g i) H

section
variable {X : Cx} {a b c : Expr} {ta tb tc : TE} {pos : Pos}

theorem binT (ha : PE X a ta) (hb : PE X b tb) {pins : List (Addr × Obj)} {s : Shared} {σ : St} {H : Hp} {R : V → V → Hp → Prop} (I : Inv X pins σ H s)
    (h : ta σ H fun x H1 => tb σ H1 fun y H2 => R x y H2) {Q : Value → Shared → Prop} {f : Value → Value → Sem Value}
    (hf : ∀ v u s2 x y H2, Inv X pins σ H2 s2 → RelV x v → RelV y u → R x y H2 → wpAny (model X.prog X.w) X.A (f v u) Q X.xe s2) :
    wpAny (model X.prog X.w) X.A (eval a X.env) (fun v s₁ => wpAny (model X.prog X.w) X.A (eval b X.env) (fun u s₂ => wpAny (model X.prog X.w) X.A (f v u) Q X.xe s₂) X.xe s₁) X.xe s := by
  refine thn (ha pins s σ H _ I h) fun v s1 ⟨x, H1, I1, r1, q1⟩ => ?_
  refine thn (hb pins s1 σ H1 _ I1 q1) fun u s2 ⟨y, H2, I2, r2, q2⟩ => ?_
  exact hf v u s2 x y H2 I2 r1 r2 q2

theorem pe_op {op : Operator} {r : R2} (ho : OpR X (binaryOp op) r) (ha : PE X a ta) (hb : PE X b tb) : PE X (.BinOp a op b pos) (tOp r ta tb) := by
  intro pins s σ H Q I h
  exact wpAny_BinOp (binT ha hb I h fun v u s2 x y H2 I2 rx ry q => ho pins s2 σ H2 x y v u Q I2 rx ry q)
theorem pe_un {op : UnaryOp} {r : V → Hp → VK → Prop} (ho : UnR X (unaryOp op) r) (ha : PE X a ta) : PE X (.UnaryOp op a pos) (tUn r ta) := by
  intro pins s σ H Q I h
  exact UnaryOp_ (thn (ha pins s σ H _ I h) fun v s1 ⟨x, H1, I1, r1, q1⟩ => ho pins s1 σ H1 x v Q I1 r1 q1)
/-! ### ints -/
theorem opI {f : Value → Value → Sem Value} {C : Int → Int → Prop} {g : Int → Int → Int}
    (rule : ∀ (i j : Int) (t u : Tok) (s : Shared) (Q : Value → Shared → Prop) (E : Value → Shared → Prop), C i j → Q (.int (g i j) s.toks) { s with toks := s.toks + 1 } → wpAny (model X.prog X.w) X.A (f (.int i t) (.int j u)) Q E s) :
    OpR X f (rI C fun i j => .int (g i j)) := by
  intro pins s σ H x y v u Q I rx ry h
  obtain ⟨i, j, rfl, rfl, hc, q⟩ := h
  obtain ⟨t, rfl⟩ := rx
  obtain ⟨t', rfl⟩ := ry
  exact rule i j t t' s _ _ hc ⟨.int (g i j), H, I.tok _, ⟨_, rfl⟩, q⟩
theorem opI0 {f : Value → Value → Sem Value} {g : Int → Int → Int}
    (rule : ∀ (i j : Int) (t u : Tok) (s : Shared) (Q : Value → Shared → Prop) (E : Value → Shared → Prop), Q (.int (g i j) s.toks) { s with toks := s.toks + 1 } → wpAny (model X.prog X.w) X.A (f (.int i t) (.int j u)) Q E s) :
    OpR X f (rI0 fun i j => .int (g i j)) := by
  intro pins s σ H x y v u Q I rx ry h
  obtain ⟨i, j, rfl, rfl, q⟩ := h
  obtain ⟨t, rfl⟩ := rx
  obtain ⟨t', rfl⟩ := ry
  exact rule i j t t' s _ _ ⟨.int (g i j), H, I.tok _, ⟨_, rfl⟩, q⟩
theorem opB0 {f : Value → Value → Sem Value} {g : Int → Int → Bool}
    (rule : ∀ (i j : Int) (t u : Tok) (s : Shared) (Q : Value → Shared → Prop) (E : Value → Shared → Prop), Q (.bool (g i j)) s → wpAny (model X.prog X.w) X.A (f (.int i t) (.int j u)) Q E s) :
    OpR X f (rI0 fun i j => .bl (g i j)) := by
  intro pins s σ H x y v u Q I rx ry h
  obtain ⟨i, j, rfl, rfl, q⟩ := h
  obtain ⟨t, rfl⟩ := rx
  obtain ⟨t', rfl⟩ := ry
  exact rule i j t t' s _ _ ⟨.bl (g i j), H, I, rfl, q⟩

def CPow (i j : Int) : Prop := 0 ≤ j ∧ j ≤ 1000000 ∧ i.natAbs < 2 ^ 64
def CMul (i j : Int) : Prop := (-(2 ^ 64) < i ∧ i < 2 ^ 64) ∨ (-(2 ^ 64) < j ∧ j < 2 ^ 64)
theorem CMul.ok {i j : Int} (h : CMul i j) : IntMulOk i j := by
  rcases h with ⟨h1, h2⟩ | ⟨h1, h2⟩
  · exact .of_left (intBits_le_64 h1 h2)
  · exact .of_right (intBits_le_64 h1 h2)
theorem two_pow_nn (k : Nat) : (0 : Int) ≤ 2 ^ k := by
  rw [two_pow_cast]
  exact Int.natCast_nonneg _

theorem op_add : OpR X (binaryOp .Add) (rI0 fun i j => .int (i + j)) := opI0 fun _ _ _ _ _ _ _ q => add_int q
theorem op_sub : OpR X (binaryOp .Sub) (rI0 fun i j => .int (i - j)) := opI0 fun _ _ _ _ _ _ _ q => sub_int q
/-- % by a positive divisor of any size -/
theorem op_mod : OpR X (binaryOp .Mod) (rI (fun _ j => 0 < j) fun i j => .int (i % j)) := opI fun i j _ _ _ _ _ hc q => by
  have h1 : (0 : Int) < j := hc
  exact mod_int' (by omega) (by rw [Int.fmod_eq_emod_of_nonneg i (by omega)]; exact q)
theorem op_pow : OpR X (binaryOp .Pow) (rI CPow fun i j => .int (i ^ j.toNat)) := opI fun _ _ _ _ _ _ _ hc q => pow_int_small hc.1 hc.2.1 hc.2.2 q
theorem op_shr : OpR X (binaryOp .RShift) (rI (fun _ j => 0 ≤ j) fun i j => .int (i / 2 ^ j.toNat)) := opI fun i j _ _ _ _ _ hc q =>
  rshift_int hc (by rw [Int.fdiv_eq_ediv_of_nonneg i (two_pow_nn _)]; exact q)
theorem unI {f : Value → Sem Value} {g : Int → Int}
    (rule : ∀ (i : Int) (t : Tok) (s : Shared) (Q : Value → Shared → Prop) (E : Value → Shared → Prop), Q (.int (g i) s.toks) { s with toks := s.toks + 1 } → wpAny (model X.prog X.w) X.A (f (.int i t)) Q E s) :
    UnR X f (rU fun i => .int (g i)) := by
  intro pins s σ H x v Q I rx h
  obtain ⟨i, rfl, q⟩ := h
  obtain ⟨t, rfl⟩ := rx
  exact rule i t s _ _ ⟨.int (g i), H, I.tok _, ⟨_, rfl⟩, q⟩
theorem un_neg : UnR X (unaryOp .USub) (rU fun i => .int (-i)) := unI fun _ _ _ _ _ q => neg_int q
/-! ### bools among ints: n += (a < b) -/
end

/-! ### comparisons -/
/-- the scalars that == tells apart as data does -/
def scal : V → V → Bool
  | .non, .non => true | .non, .int _ => true | .int _, .non => true | .non, .bl _ => true | .bl _, .non => true | .non, .str _ => true | .str _, .non => true
  | .int _, .int _ => true | .bl _, .bl _ => true | .str _, .str _ => true | .byt _, .byt _ => true
  | .int _, .str _ => true | .str _, .int _ => true | .bl _, .str _ => true | .str _, .bl _ => true
  | _, _ => false
def rEq : R2 := fun x y H Q => scal x y = true ∧ Q (.bl (decide (x = y))) H
def rNe : R2 := fun x y H Q => scal x y = true ∧ Q (.bl (!decide (x = y))) H

theorem dec_int {i j : Int} : decide (V.int i = V.int j) = (i == j) := by
  rw [Bool.eq_iff_iff]
  simp
theorem dec_bl {i j : Bool} : decide (V.bl i = V.bl j) = (i == j) := by
  rw [Bool.eq_iff_iff]
  simp
theorem dec_str {i j : Str} : decide (V.str i = V.str j) = (i == j) := by
  rw [Bool.eq_iff_iff]
  simp
theorem dec_byt {i j : Array UInt8} : decide (V.byt i = V.byt j) = (i.toList == j.toList) := by
  rw [Bool.eq_iff_iff]
  cases i
  cases j
  simp

section
variable {X : Cx} {a b c : Expr} {ta tb tc : TE} {pos : Pos}
theorem fin_bl {pins : List (Addr × Obj)} {σ : St} {H : Hp} {s : Shared} {Q : VK} {k k' : Bool} (I : Inv X pins σ H s) (q : Q (.bl k) H) (e : k = k') : EP X pins σ Q (.bool k') s := by
  subst e
  exact ⟨.bl k, H, I, rfl, q⟩
theorem op_eq : OpR X (compareOp .Eq) rEq := by
  intro pins s σ H x y v u Q I rx ry h
  obtain ⟨hs, q⟩ := h
  cases x with
  | non =>
    cases rx
    cases y with
    | non => cases ry; exact PySem.EqNone.eq_none_none (fin_bl I q (by simp))
    | bl j => cases ry; exact PySem.EqNone.eq_none_bool (fin_bl I q (by simp))
    | int j => obtain ⟨t', rfl⟩ := ry; exact PySem.EqNone.eq_none_int (fin_bl I q (by simp))
    | str j => obtain ⟨t', rfl⟩ := ry; exact PySem.EqNone.eq_none_str (fin_bl I q (by simp))
    | _ => exact absurd (show false = true from hs) Bool.false_ne_true
  | bl i =>
    cases rx
    cases y with
    | non => cases ry; exact PySem.EqNone.eq_bool_none (fin_bl I q (by simp))
    | bl j => cases ry; exact eq_bool (fin_bl I q dec_bl)
    | str j => obtain ⟨t', rfl⟩ := ry; exact PySem.EqMixed.eq_bool_str (fin_bl I q (by simp))
    | _ => exact absurd (show false = true from hs) Bool.false_ne_true
  | int i =>
    obtain ⟨t, rfl⟩ := rx
    cases y with
    | non => cases ry; exact PySem.EqNone.eq_int_none (fin_bl I q (by simp))
    | int j => obtain ⟨t', rfl⟩ := ry; exact eq_int (fin_bl I q dec_int)
    | str j => obtain ⟨t', rfl⟩ := ry; exact PySem.EqMixed.eq_int_str (fin_bl I q (by simp))
    | _ => exact absurd (show false = true from hs) Bool.false_ne_true
  | str i =>
    obtain ⟨t, rfl⟩ := rx
    cases y with
    | non => cases ry; exact PySem.EqNone.eq_str_none (fin_bl I q (by simp))
    | bl j => cases ry; exact PySem.EqMixed.eq_str_bool (fin_bl I q (by simp))
    | int j => obtain ⟨t', rfl⟩ := ry; exact PySem.EqMixed.eq_str_int (fin_bl I q (by simp))
    | str j => obtain ⟨t', rfl⟩ := ry; exact eq_str (fin_bl I q dec_str)
    | _ => exact absurd (show false = true from hs) Bool.false_ne_true
  | byt i =>
    obtain ⟨t, rfl⟩ := rx
    cases y with
    | byt j => obtain ⟨t', rfl⟩ := ry; exact PySem.W.eq_bytes (fin_bl I q dec_byt)
    | _ => exact absurd (show false = true from hs) Bool.false_ne_true
  | _ => cases y <;> exact absurd (show false = true from hs) Bool.false_ne_true
theorem op_ne : OpR X (compareOp .NotEq) rNe := by
  intro pins s σ H x y v u Q I rx ry h
  obtain ⟨hs, q⟩ := h
  cases x with
  | non =>
    cases rx
    cases y with
    | non => cases ry; exact PySem.EqNone.ne_none_none (fin_bl I q (by simp))
    | bl j => cases ry; exact PySem.EqNone.ne_none_bool (fin_bl I q (by simp))
    | int j => obtain ⟨t', rfl⟩ := ry; exact PySem.EqNone.ne_none_int (fin_bl I q (by simp))
    | str j => obtain ⟨t', rfl⟩ := ry; exact PySem.EqNone.ne_none_str (fin_bl I q (by simp))
    | _ => exact absurd (show false = true from hs) Bool.false_ne_true
  | bl i =>
    cases rx
    cases y with
    | non => cases ry; exact PySem.EqNone.ne_bool_none (fin_bl I q (by simp))
    | bl j => cases ry; exact ne_bool (fin_bl I q (congrArg not dec_bl))
    | str j => obtain ⟨t', rfl⟩ := ry; exact PySem.EqMixed.ne_bool_str (fin_bl I q (by simp))
    | _ => exact absurd (show false = true from hs) Bool.false_ne_true
  | int i =>
    obtain ⟨t, rfl⟩ := rx
    cases y with
    | non => cases ry; exact PySem.EqNone.ne_int_none (fin_bl I q (by simp))
    | int j => obtain ⟨t', rfl⟩ := ry; exact ne_int (fin_bl I q (congrArg not dec_int))
    | str j => obtain ⟨t', rfl⟩ := ry; exact PySem.EqMixed.ne_int_str (fin_bl I q (by simp))
    | _ => exact absurd (show false = true from hs) Bool.false_ne_true
  | str i =>
    obtain ⟨t, rfl⟩ := rx
    cases y with
    | non => cases ry; exact PySem.EqNone.ne_str_none (fin_bl I q (by simp))
    | bl j => cases ry; exact PySem.EqMixed.ne_str_bool (fin_bl I q (by simp))
    | int j => obtain ⟨t', rfl⟩ := ry; exact PySem.EqMixed.ne_str_int (fin_bl I q (by simp))
    | str j => obtain ⟨t', rfl⟩ := ry; exact ne_str (fin_bl I q (congrArg not dec_str))
    | _ => exact absurd (show false = true from hs) Bool.false_ne_true
  | byt i =>
    obtain ⟨t, rfl⟩ := rx
    cases y with
    | byt j => obtain ⟨t', rfl⟩ := ry; exact PySem.W.ne_bytes (fin_bl I q (congrArg not dec_byt))
    | _ => exact absurd (show false = true from hs) Bool.false_ne_true
  | _ => cases y <;> exact absurd (show false = true from hs) Bool.false_ne_true

theorem op_lt : OpR X (compareOp .Lt) (rI0 fun i j => .bl (decide (i < j))) := opB0 fun _ _ _ _ _ _ _ q => lt_int q
theorem op_le : OpR X (compareOp .LtE) (rI0 fun i j => .bl (decide (i ≤ j))) := opB0 fun _ _ _ _ _ _ _ q => le_int q
theorem op_gt : OpR X (compareOp .Gt) (rI0 fun i j => .bl (decide (j < i))) := opB0 fun _ _ _ _ _ _ _ q => gt_int q
theorem op_ge : OpR X (compareOp .GtE) (rI0 fun i j => .bl (decide (j ≤ i))) := opB0 fun _ _ _ _ _ _ _ q => ge_int q
/-- the one string within the other -/
theorem op_in_str : OpR X (compareOp .In) (fun x y H Q => ∃ i j, x = .str i ∧ y = .str j ∧ Q (.bl (!(Builtin.Str.occurrences j i 0 j.length 1).isEmpty)) H) := by
  intro pins s σ H x y v u Q I rx ry h
  obtain ⟨i, j, rfl, rfl, q⟩ := h
  obtain ⟨t, rfl⟩ := rx
  obtain ⟨t', rfl⟩ := ry
  exact in_str (fin_bl I q rfl)

/-- two rules for one operation: by cases -/
theorem OpR.or {f : Value → Value → Sem Value} {r r' : R2} (h : OpR X f r) (h' : OpR X f r') : OpR X f (fun x y H Q => r x y H Q ∨ r' x y H Q) := by
  intro pins s σ H x y v u Q I rx ry q
  rcases q with q | q
  · exact h pins s σ H x y v u Q I rx ry q
  · exact h' pins s σ H x y v u Q I rx ry q

theorem nomark (b : Expr) {op : CmpOp} (h : op ≠ .In := by decide) (h2 : op ≠ .NotIn := by decide) : behindInMarks op b = false := by
  have e1 : (op == CmpOp.In) = false := by cases op <;> first | rfl | exact absurd rfl h
  have e2 : (op == CmpOp.NotIn) = false := by cases op <;> first | rfl | exact absurd rfl h2
  cases b <;> simp [behindInMarks, e1, e2]
/-- a comparison as a value; hm: nomark b, or (for in, not in) by with_unfolding_all rfl -/
theorem pe_cmpR {op : CmpOp} {r : R2} (ho : OpR X (compareOp op) r) (ha : PE X a ta) (hb : PE X b tb) (hm : behindInMarks op b = false) : PE X (.Compare a [op] [b] pos) (tOp r ta tb) := by
  intro pins s σ H Q I h
  exact wpAny_Compare1 (binT ha hb I h fun v u s2 x y H2 I2 rx ry q => ho pins s2 σ H2 x y v u Q I2 rx ry q) hm
/-- a reading of a value as a test -/
def tTest (t : TE) : TT := fun σ H Q => t σ H fun x H' => ∃ k, x = .bl k ∧ Q k H'
theorem pt_cmpR {op : CmpOp} {r : R2} (ho : OpR X (compareOp op) r) (ha : PE X a ta) (hb : PE X b tb) (hm : behindInMarks op b = false) : PT X (.Compare a [op] [b] pos) (tTest (tOp r ta tb)) := by
  intro pins s σ H Q I h
  refine wpAny_isTrue_Compare1 (thn (ha pins s σ H _ I h) fun v s1 ⟨x, H1, I1, r1, q1⟩ => thn (hb pins s1 σ H1 _ I1 q1) fun u s2 ⟨y, H2, I2, r2, q2⟩ =>
    thn (ho pins s2 σ H2 x y v u _ I2 r1 r2 q2) fun c s3 ⟨z, H3, I3, r3, k, e, q3⟩ => ?_) hm
  subst e
  cases r3
  exact wpAny_truthy_bool ⟨H3, I3, q3⟩
/-! ### truth -/
theorem line63 : (sizeLine : Nat) < 2 ^ 63 := by rw [sizeLine_eq]; decide
/-! ### strs and bytes -/
theorem op_add_str : OpR X (binaryOp .Add) (fun x y H Q => ∃ i j, x = .str i ∧ y = .str j ∧ i.length + j.length ≤ sizeLine ∧ Q (.str (i ++ j)) H) := by
  intro pins s σ H x y v u Q I rx ry h
  obtain ⟨i, j, rfl, rfl, hz, q⟩ := h
  obtain ⟨t, rfl⟩ := rx
  obtain ⟨t', rfl⟩ := ry
  exact add_str (fun t' tk => ⟨.str (i ++ j), H, I.tok _, ⟨_, rfl⟩, q⟩) hz
/-! ### scalar builtins, by CallR -/
theorem vals1 {x : V} {us : List Value} (r : Vals [x] us) : ∃ u, us = [u] ∧ RelV x u := by
  cases r with
  | cons r1 r2 => cases r2; exact ⟨_, rfl, r1⟩
theorem call_int1 : CallR X (.type "int") (fun xs H Q => (∃ i, xs = [.int i] ∧ Q (.int i) H) ∨ ∃ k, xs = [.bl k] ∧ Q (.int (if k then 1 else 0)) H) := by
  intro pins s σ H xs us Q I r h
  rcases h with ⟨i, rfl, q⟩ | ⟨k, rfl, q⟩
  · obtain ⟨u, rfl, t, rfl⟩ := vals1 r
    exact call_int_int ⟨.int i, H, I, ⟨_, rfl⟩, q⟩
  · obtain ⟨u, rfl, r1⟩ := vals1 r
    cases r1
    exact call_int_bool ⟨.int (if k then 1 else 0), H, I.tok _, ⟨_, rfl⟩, q⟩
theorem call_str_int : CallR X (.type "str") (fun xs H Q => ∃ i, xs = [.int i] ∧ i.natAbs.log2 < 1920 ∧ Q (.str (toString i)) H) := by
  intro pins s σ H xs us Q I r h
  obtain ⟨i, rfl, hz, q⟩ := h
  obtain ⟨u, rfl, t, rfl⟩ := vals1 r
  exact PySem.P.str_of_int hz ⟨.str _, H, I.tok _, ⟨_, rfl⟩, q⟩
end
end L2

namespace L2
open PySem PySem.Spec PyProof.Rows

/-! ### an instance, its attributes a map -/
structure ObjM (h : Heap) (x dx C : Addr) (mA : Str → Option Value) : Prop where
  obj : h.get? x = some (PySem.W.instObj C dx)
  ns : h.Ns1 dx mA
  ne : dx ≠ x

theorem lookIn_ns {h : Heap} {dx : Addr} {mA : Str → Option Value} (n : h.Ns1 dx mA) : ∃ od, h.get? dx = some od ∧ ∀ name, PySem.W.lookIn name od = some (mA name) := by
  obtain ⟨o, es, ep, ho, hd, hk, _, hm⟩ := n
  refine ⟨o, ho, fun name => ?_⟩
  have e := hm name
  unfold nsFind findBy at e
  rw [← Array.find?_toList] at e
  unfold PySem.W.lookIn
  rw [hd]
  dsimp only
  split
  · rename_i y q
    rw [q] at e
    exact congrArg some e
  · rename_i q
    rw [q] at e
    have a : es.toList.any (·.refKey) = false := by
      rw [List.any_eq_false]
      intro y hy
      obtain ⟨z, t, hkey⟩ := hk y (Array.mem_toList_iff.mp hy)
      simp [DictEntry.refKey, hkey]
    have a' : ¬ es.toList.any (·.refKey) = true := by rw [a]; exact Bool.false_ne_true
    rw [if_neg a']
    exact congrArg some e

theorem ObjM.look {h : Heap} {x dx C : Addr} {mA : Str → Option Value} (I : ObjM h x dx C mA) : ∃ od, PySem.W.InstAt h x (PySem.W.instObj C dx) C (some od) ∧ ∀ name, PySem.W.lookIn name od = some (mA name) :=
  let ⟨od, ho, hl⟩ := lookIn_ns I.ns
  ⟨od, ⟨I.obj, rfl, rfl, ho⟩, hl⟩

section
variable {prog : Program} {w : World} {A : Around} {E : Value → Shared → Prop} {s : Shared} {K : PySem.W.Frag} {x dx C f : Addr} {mA : Str → Option Value} {name : Str} {v : Value}

theorem get_map {expr : Bool} {Q : Value → Shared → Prop} (X : K.In s.heap) (I : ObjM s.heap x dx C mA) (hg : PySem.W.plainGet K C name = true) (hh : PySem.W.hasDictIn K C = true)
    (ha : PySem.W.findIn K (.ref C) name = some none) (hv : mA name = some v) (hv' : PySem.W.handedIn v = true) (h : Q v { s with toks := s.toks + 1 }) :
    wpAny (model prog w) A (getAttr (.ref x) name expr) Q E s := by
  obtain ⟨od, J, hl⟩ := I.look
  exact PySem.W.get_value X J (PySem.W.plainGet_of hg).1 (PySem.W.findObj_own hh ha rfl (by rw [hl, hv])) hv' h

theorem get_meth {pl : Sem Bool} {Q : Value × List Value → Shared → Prop} (X : K.In s.heap) (I : ObjM s.heap x dx C mA) (hg : PySem.W.plainGet K C name = true)
    (hf : PySem.W.findIn K (.ref C) name = some (some (.ref f))) (ht : PySem.W.isFn K (.ref f) = true) (hv : mA name = none) (h : Q (.ref f, [.ref x]) s) :
    wpAny (model prog w) A (getMethod (.ref x) name pl) Q E s := by
  obtain ⟨od, J, hl⟩ := I.look
  exact PySem.W.method_fn X J (PySem.W.plainGet_of hg).1 (PySem.W.plainGet_of hg).2 hf (beq_iff_eq.mp ht) (by show (PySem.W.lookIn name od).map (·.isSome) = some false; rw [hl, hv]; rfl) h

theorem set_map {ns : List Str} {Q : Unit → Shared → Prop} (X : K.In s.heap) (I : ObjM s.heap x dx C mA)
    (hs : PySem.W.findIn K (.ref C) "__setattr__" = some (some (.builtin "object.__setattr__"))) (hp : PySem.W.plainOver K C = true) (ht : PySem.W.takerIn K C name = some none) (hh : PySem.W.hasDictIn K C = true)
    (hw : PySem.Within mA ns) (hsz : ns.length ≤ sizeLine)
    (h : ∀ h', ObjM h' x dx C (fun y => if y = name then some v else mA y) → Heap.SameBut dx s.heap h' → Q () { s with heap := h', toks := s.toks + 2 }) :
    wpAny (model prog w) A (setAttr (.ref x) name v) Q E s := by
  obtain ⟨od, J, hl⟩ := I.look
  refine PySem.W.set_plain X J hs (PySem.W.osa_open (s := { s with toks := s.toks + 1 }) (r := none) X J hp ht fun b => ?_)
  obtain ⟨cd, hc, hd'⟩ := PySem.W.any_some hh
  have hx : s.heap.get? x = some ⟨.ref C, some dx, .plain, #[]⟩ := I.obj
  refine wpAny_bind (wpAny_pure (wpAny_bind (wpAny_bind (wpAny_loadPart hx (wpAny_bind (PySem.W.Looks.here (s := { s with toks := s.toks + 1 }) (PySem.W.looks_clsIn X hc) ?_))))))
  rw [hd']
  refine wpAny_pure (a := some dx) (wpAny_bind (wpAny_pure (wpAny_bind ?_)))
  refine wpAny_nsSet1 (s := { s with toks := s.toks + 1 }) I.ns fun h' hn2 hs2 => ?_
  obtain ⟨oD, esD, epD, hoD, hdD, hcD⟩ := hn2.count (PySem.Within.cons name v hw)
  refine wpAny_bind (wpAny_lookBehind hoD (by rw [hdD]; exact pastItsLine_dict (Nat.le_trans hcD (by rw [List.length_cons]; omega))) ?_)
  exact wpAny_pure (h _ ⟨(hs2.2 _ (Ne.symm I.ne)).trans I.obj, hn2, I.ne⟩ hs2)

/-- C(..): the dict at the heap's end, the instance behind it; then its __init__ -/
theorem make_map {R : Result → Shared → Prop} {vs : List Value} {kw : List (Str × Value)} (X : K.In s.heap) (hm : PySem.W.makesIn K C = true)
    (hi : PySem.W.findIn K (.ref C) "__init__" = some (some (.ref f))) (hf : PySem.W.typeIn K (.ref f) = some (.type "function"))
    (h : codeAny (model prog w) (A.under (.builtin "type.__call__" ⟨.ref C :: vs, kw⟩)) (.call (.ref f) ⟨.ref (s.heap.objs.size + 1) :: vs, kw⟩) (PySem.W.InitBack (s.heap.objs.size + 1) R)
      { s with heap := (s.heap.push PySem.W.emptyDict).push (PySem.W.instObj C s.heap.objs.size) }) :
    codeAny (model prog w) A (.call (.ref C) ⟨vs, kw⟩) R s := by
  obtain ⟨hh, g, d, t, os⟩ := s
  exact PySem.W.make_core (PySem.W.makes_of X hm) (PySem.W.looks_findIn X hi) (fun self => PySem.W.bind_fn X self hf) (.inl rfl) h
end

/-! ### the attributes as a list of pairs -/
def putF (f : Str) (v : V) : List (Str × V) → List (Str × V)
  | [] => [(f, v)]
  | (g, x) :: r => if g = f then (g, v) :: r else (g, x) :: putF f v r
theorem lookup_putF (f g : Str) (v : V) : ∀ fs : List (Str × V), (putF f v fs).lookup g = if g = f then some v else fs.lookup g
  | [] => by
    show List.lookup g [(f, v)] = _
    by_cases h : g = f
    · have hb : (g == f) = true := beq_iff_eq.mpr h
      simp only [List.lookup, hb, if_pos h]
    · have hb : (g == f) = false := beq_eq_false_iff_ne.mpr h
      simp only [List.lookup, hb, if_neg h]
  | (k, x) :: r => by
    have ih := lookup_putF f g v r
    rw [show putF f v ((k, x) :: r) = (if k = f then (k, v) :: r else (k, x) :: putF f v r) from rfl]
    by_cases hk : k = f
    · rw [if_pos hk]
      by_cases h : g = k
      · have hb : (g == k) = true := beq_iff_eq.mpr h
        simp only [List.lookup, hb, if_pos (h.trans hk)]
      · have hb : (g == k) = false := beq_eq_false_iff_ne.mpr h
        simp only [List.lookup, hb, if_neg (fun e : g = f => h (e.trans hk.symm))]
    · rw [if_neg hk]
      by_cases h : g = k
      · have hb : (g == k) = true := beq_iff_eq.mpr h
        simp only [List.lookup, hb, if_neg (fun e : g = f => hk (h.symm.trans e))]
      · have hb : (g == k) = false := beq_eq_false_iff_ne.mpr h
        simp only [List.lookup, hb]
        exact ih
theorem keys_putF (f : Str) (v : V) : ∀ fs : List (Str × V), f ∈ (putF f v fs).map (·.1) ∧ ∀ g, g ∈ fs.map (·.1) → g ∈ (putF f v fs).map (·.1)
  | [] => ⟨by simp [putF], fun g h => by simp at h⟩
  | (k, x) :: r => by
    obtain ⟨i1, i2⟩ := keys_putF f v r
    rw [show putF f v ((k, x) :: r) = (if k = f then (k, v) :: r else (k, x) :: putF f v r) from rfl]
    by_cases hk : k = f
    · rw [if_pos hk]
      subst hk
      exact ⟨by simp, fun g h => by simpa using h⟩
    · rw [if_neg hk]
      refine ⟨?_, fun g h => ?_⟩
      · rw [List.map_cons]
        exact List.mem_cons_of_mem _ i1
      · rw [List.map_cons] at h ⊢
        rcases List.mem_cons.mp h with e | e
        · exact List.mem_cons.mpr (.inl e)
        · exact List.mem_cons_of_mem _ (i2 g e)
theorem length_putF (f : Str) (v : V) : ∀ fs : List (Str × V), (putF f v fs).length ≤ fs.length + 1
  | [] => by simp [putF]
  | (k, x) :: r => by
    have ih := length_putF f v r
    rw [show putF f v ((k, x) :: r) = (if k = f then (k, v) :: r else (k, x) :: putF f v r) from rfl]
    by_cases hk : k = f
    · rw [if_pos hk, List.length_cons, List.length_cons]; omega
    · rw [if_neg hk, List.length_cons, List.length_cons]; omega

theorem RelO.some_of {v : V} {o : Option Value} (r : RelO (some v) o) : ∃ u, o = some u ∧ RelV v u := by
  cases o with
  | none => exact (show False from r).elim
  | some u => exact ⟨u, rfl, r⟩
theorem RelO.none_of {o : Option Value} (r : RelO none o) : o = none := by
  cases o with
  | none => rfl
  | some u => exact (show False from r).elim
theorem handed_of {v : V} {u : Value} (r : RelV v u) : PySem.W.handedIn u = true := by
  cases v with
  | non => cases (show u = Value.none from r); rfl
  | bl b => cases (show u = Value.bool b from r); rfl
  | int i => obtain ⟨t, e⟩ := (show ∃ t, u = Value.int i t from r); cases e; rfl
  | str x => obtain ⟨t, e⟩ := (show ∃ t, u = Value.str x t from r); cases e; rfl
  | byt b => obtain ⟨t, e⟩ := (show ∃ t, u = Value.bytes b t from r); cases e; rfl
  | flt b => obtain ⟨t, e⟩ := (show ∃ t, u = Value.float b t from r); cases e; rfl
  | ref a => cases (show u = Value.ref a from r); rfl
  | ty n => cases (show u = Value.type n from r); rfl

section
variable {P : Program} {w : World} {H H' : Hp} {h h' : Heap} {a C dx : Addr} {fs fs' : List (Str × V)}
theorem ins_get (hok : HOk P w H h) (e : H a = some (.ins C dx fs)) : ∃ mA, ObjM h a dx C mA ∧ (∀ f, RelO (fs.lookup f) (mA f)) ∧ PySem.Within mA (fs.map (·.1)) ∧ fs.length ≤ 1000 ∧ H dx = some (.own a) := by
  obtain ⟨d, z, ne, ob, mA, n, r, q⟩ := (show ObjOk P w H h a (.ins C dx fs) from hok a _ e)
  exact ⟨mA, ⟨ob, n, ne⟩, r, q, z, d⟩
end

/-! ### what of the text a class must have -/
structure Cls (K : PySem.W.Frag) (C : Addr) : Prop where
  pg : PySem.W.plainGet K C Str.empty = true
  hd : PySem.W.hasDictIn K C = true
  po : PySem.W.plainOver K C = true
  sa : PySem.W.findIn K (.ref C) "__setattr__" = some (some (.builtin "object.__setattr__"))
theorem Cls.get {K : PySem.W.Frag} {C : Addr} (c : Cls K C) (f : Str) : PySem.W.plainGet K C f = true := c.pg
/-- no class of it has the name -/
def NoAttr (K : PySem.W.Frag) (C : Addr) (f : Str) : Prop := PySem.W.findIn K (.ref C) f = some none
theorem NoAttr.taker {K : PySem.W.Frag} {C : Addr} {f : Str} (n : NoAttr K C f) : PySem.W.takerIn K C f = some none := by
  unfold PySem.W.takerIn
  rw [show PySem.W.findIn K (.ref C) f = some none from n]
  rfl
/-- a method: a plain def of the class or of one above it -/
structure Meth (K : PySem.W.Frag) (C : Addr) (m : Str) (f : Addr) : Prop where
  at_ : PySem.W.findIn K (.ref C) m = some (some (.ref f))
  fn : PySem.W.isFn K (.ref f) = true
  kp : PySem.W.keepIn K (.ref f) = true

section
variable {X : Cx} {pins : List (Addr × Obj)} {σ : St} {H : Hp} {s : Shared} {a C dx : Addr} {fs : List (Str × V)} {f : Str} {v : V} {A : Around} {E : Value → Shared → Prop}

theorem getattr_ok {b : Bool} {Q : Value → Shared → Prop} (I : Inv X pins σ H s) (e : H a = some (.ins C dx fs)) (c : Cls X.K C) (n : NoAttr X.K C f) (l : fs.lookup f = some v)
    (h : ∀ u s', Inv X pins σ H s' → RelV v u → Q u s') : wpAny (model X.prog X.w) A (getAttr (.ref a) f b) Q E s := by
  obtain ⟨mA, O, r, _, _, _⟩ := ins_get I.hok e
  obtain ⟨u, hu, ru⟩ := RelO.some_of (v := v) (o := mA f) (by rw [← l]; exact r f)
  exact get_map I.kIn O (c.get f) c.hd n hu (handed_of ru) (h u _ (I.tok _) ru)

theorem getmeth_ok {m : Str} {g : Addr} {pl : Sem Bool} {Q : Value × List Value → Shared → Prop} (I : Inv X pins σ H s) (e : H a = some (.ins C dx fs)) (c : Cls X.K C) (k : Meth X.K C m g) (l : fs.lookup m = none)
    (h : Q (.ref g, [.ref a]) s) : wpAny (model X.prog X.w) A (getMethod (.ref a) m pl) Q E s := by
  obtain ⟨mA, O, r, _, _, _⟩ := ins_get I.hok e
  have hn : mA m = none := RelO.none_of (by rw [← l]; exact r m)
  exact get_meth I.kIn O (c.get m) k.at_ k.fn hn h

theorem setattr_ok {y : V} {u : Value} {Q : Unit → Shared → Prop} (I : Inv X pins σ H s) (e : H a = some (.ins C dx fs)) (c : Cls X.K C) (n : NoAttr X.K C f) (hl : fs.length < 1000) (ry : RelV y u)
    (h : ∀ s', Inv X pins σ (upd H a (.ins C dx (putF f y fs))) s' → Q () s') : wpAny (model X.prog X.w) A (setAttr (.ref a) f u) Q E s := by
  obtain ⟨mA, O, r, wi, _, ho⟩ := ins_get I.hok e
  have hz : (fs.map (·.1)).length ≤ sizeLine := by rw [List.length_map, sizeLine_eq]; omega
  refine set_map I.kIn O c.sa c.po n.taker c.hd wi hz fun h' O' sb => h _ ?_
  have hd : ∃ o, h'.get? dx = some o := let ⟨o, _, _, e', _⟩ := O'.ns; ⟨o, e'⟩
  refine I.write (x := a) (e := dx) (by rw [e]; exact True.intro) (.inr ho) (fun b q hb z => (sb.2 b hb).trans z) hd ?_
  refine ⟨by rw [upd_ne O.ne]; exact ho, ?_, O.ne, O'.obj, _, O'.ns, fun g => ?_, fun g hg => ?_⟩
  · have := length_putF f y fs; omega
  · show RelO ((putF f y fs).lookup g) (if g = f then some u else mA g)
    rw [lookup_putF]
    by_cases q : g = f
    · rw [if_pos q, if_pos q]; exact ry
    · rw [if_neg q, if_neg q]; exact r g
  · by_cases q : g = f
    · rw [q]; exact (keys_putF f y fs).1
    · refine (keys_putF f y fs).2 g (wi g fun z => hg ?_)
      show (if g = f then some u else mA g) = none
      rw [if_neg q]; exact z

/-- a new instance, tracked, without attributes -/
theorem Inv.made (I : Inv X pins σ H s) : Inv X pins σ (upd (upd H s.heap.objs.size (.own (s.heap.objs.size + 1))) (s.heap.objs.size + 1) (.ins C s.heap.objs.size []))
    { s with heap := (s.heap.push PySem.W.emptyDict).push (PySem.W.instObj C s.heap.objs.size) } := by
  have e1 : (s.heap.push PySem.W.emptyDict).get? s.heap.objs.size = some PySem.W.emptyDict := Heap.get?_push_size s.heap rfl
  have e2 : ((s.heap.push PySem.W.emptyDict).push (PySem.W.instObj C s.heap.objs.size)).get? (s.heap.objs.size + 1) = some (PySem.W.instObj C s.heap.objs.size) := by
    have := Heap.get?_push_size (s.heap.push PySem.W.emptyDict) (o := PySem.W.instObj C s.heap.objs.size) rfl
    rwa [Heap.size_push] at this
  have e3 : (s.heap.push PySem.W.emptyDict).Ns s.heap.objs.size (fun _ => none) := ⟨PySem.W.emptyDict, #[], _, e1, rfl, (fun e he => absurd he (by simp)), fun _ => rfl⟩
  have I1 := I.laid (a := s.heap.objs.size) (o := .own (s.heap.objs.size + 1)) (h' := s.heap.push PySem.W.emptyDict) (t' := s.toks) (fun b u q => Heap.get?_push_of_some _ q) (Nat.le_refl _) ⟨_, e1⟩
  refine I1.laid (a := s.heap.objs.size + 1) (o := .ins C s.heap.objs.size []) (t' := s.toks) (fun b u q => Heap.get?_push_of_some _ q) (Nat.le_of_eq (Heap.size_push _ _)) ?_
  have ne : s.heap.objs.size ≠ s.heap.objs.size + 1 := Nat.ne_of_lt (Nat.lt_succ_self _)
  refine ⟨by rw [upd_ne ne, upd_same], Nat.zero_le _, ne, e2, fun _ => none, (Heap.Ns1.of_empty e3).at fun o q => Heap.get?_push_of_some _ q, fun _ => True.intro, fun y hy => absurd rfl hy⟩

/-- e.f where nothing but the object is asked: through attributeBase (super) and the last hold -/
theorem attr_of {prog : Program} {w : World} {env : Env} {e : Expr} {f : Str} {pos : Pos} {s : Shared} {Q : Value → Shared → Prop} (hb : attributeBase e f env (eval e env) = eval e env)
    (h : wpAny (model prog w) A (eval e env) (fun o s₁ => wpAny (model prog w) A (getAttr o f true) Q E s₁) E s) : wpAny (model prog w) A (eval (.Attribute e f pos) env) Q E s :=
  Attribute_any_ h (by rw [arm_eval_Attribute, hb])
end

/-! ### readings and rules -/
/-- e.f, an attribute of the instance -/
def tFld (K : PySem.W.Frag) (ta : TE) (f : Str) : TE := fun σ H Q => ta σ H fun x H1 => ∃ a C dx fs v, x = .ref a ∧ H1 a = some (.ins C dx fs) ∧ Cls K C ∧ NoAttr K C f ∧ fs.lookup f = some v ∧ Q v H1
/-- e.f = value -/
def sFld (K : PySem.W.Frag) (ta tv : TE) (f : Str) : TS := fun D σ H => tv σ H fun y H1 => ta σ H1 fun x H2 => ∃ a C dx fs, x = .ref a ∧ H2 a = some (.ins C dx fs) ∧ Cls K C ∧ NoAttr K C f ∧ fs.length < 1000 ∧
  D.nx σ (upd H2 a (.ins C dx (putF f y fs)))
/-- an augmented operator on two values -/
def InOp (X : Cx) (op : Operator) (rd : V → V → Hp → VK → Prop) : Prop :=
  ∀ (pins : List (Addr × Obj)) (s : Shared) (σ : St) (H : Hp) (x y : V) (u v : Value) (Q : VK), Inv X pins σ H s → RelV x u → RelV y v → rd x y H Q → wpAny (model X.prog X.w) X.A (inplaceOp op u v) (EP X pins σ Q) X.xe s
/-- e.f op= value -/
def sFldAug (K : PySem.W.Frag) (ta tv : TE) (rd : V → V → Hp → VK → Prop) (f : Str) : TS := fun D σ H => ta σ H fun x H1 => ∃ a C dx fs v, x = .ref a ∧ H1 a = some (.ins C dx fs) ∧ Cls K C ∧ NoAttr K C f ∧ fs.lookup f = some v ∧
  tv σ H1 fun y H2 => rd v y H2 fun z H3 => ∃ dx' fs', H3 a = some (.ins C dx' fs') ∧ fs'.length < 1000 ∧ D.nx σ (upd H3 a (.ins C dx' (putF f z fs')))

section
variable {X : Cx} {o e value : Expr} {f : Str} {pos pos' tpos : Pos} {ta tv : TE}
theorem pe_fld (he : PE X e ta) (hb : attributeBase e f X.env (eval e X.env) = eval e X.env) : PE X (.Attribute e f pos) (tFld X.K ta f) := by
  intro pins s σ H Q I h
  refine attr_of hb (thn (he pins s σ H _ I h) fun u s1 ⟨x, H1, I1, rx, a, C, dx, fs, v, ex, ea, c, n, l, q⟩ => ?_)
  subst ex
  obtain rfl : u = Value.ref a := rx
  exact getattr_ok I1 ea c n l fun u' s2 I2 ru => ⟨v, H1, I2, ru, q⟩
theorem ps_fld (ha : PE X o ta) (hv : PE X value tv) (hs : swapsWith value (some (.Attribute o f pos')) pos.line X.env = pure false) : PS X (.Assign [.Attribute o f pos'] value pos) (sFld X.K ta tv f) := by
  intro pins s σ H D I h
  refine plainObj_wpAny_Assign_Attribute (thn (hv pins s σ H _ I h) fun u s1 ⟨y, H1, I1, ry, q⟩ => thn (ha pins s1 σ H1 _ I1 q) fun ov s2 ⟨x, H2, I2, rx, a, C, dx, fs, ex, ea, c, n, l, q2⟩ => ?_) hs
  subst ex
  obtain rfl : ov = Value.ref a := rx
  exact setattr_ok I2 ea c n l ry fun s3 I3 => ⟨σ, _, I3, q2⟩
theorem ps_fldaug {op : Operator} {rd : V → V → Hp → VK → Prop} (ha : PE X o ta) (hv : PE X value tv) (hop : InOp X op rd) : PS X (.AugAssign (.Attribute o f tpos) op value pos) (sFldAug X.K ta tv rd f) := by
  intro pins s σ H D I h
  refine wpAny_AugAssign_AttributeAny (thn (ha pins s σ H _ I h) fun ov s1 ⟨x, H1, I1, rx, a, C, dx, fs, v, ex, ea, c, n, l, q⟩ => ?_)
  subst ex
  obtain rfl : ov = Value.ref a := rx
  refine getattr_ok I1 ea c n l fun u s2 I2 ru => thn (hv pins s2 σ H1 _ I2 q) fun w3 s3 ⟨y, H2, I3, ry, q3⟩ => thn (hop pins s3 σ H2 v y u w3 _ I3 ru ry q3) fun w4 s4 ⟨z, H3, I4, rz, dx', fs', ea', l', q4⟩ => ?_
  exact setattr_ok I4 ea' c n l' rz fun s5 I5 => ⟨σ, _, I5, q4⟩
def rAdd : V → V → Hp → VK → Prop := fun x y H Q => ∃ i j, x = .int i ∧ y = .int j ∧ Q (.int (i + j)) H
theorem in_add : InOp X .Add rAdd := by
  rintro pins s σ H x y u v Q I rx ry ⟨i, j, rfl, rfl, q⟩
  obtain ⟨t, rfl⟩ := (show ∃ t, u = Value.int i t from rx)
  obtain ⟨t', rfl⟩ := (show ∃ t', v = Value.int j t' from ry)
  exact PyProof.Rows.iadd_int ⟨.int (i + j), H, I.tok _, ⟨_, rfl⟩, q⟩
/-- what is between an instance and its method: the tree of a method call -/
theorem methcall_of {pl : Sem Bool} {m : Str} {apos : Pos} {args : List Expr} {pins : List (Addr × Obj)} {s : Shared} {σ : St} {H : Hp} {Q : Value → Shared → Prop} {te : TE} (he : PE X e te) (I : Inv X pins σ H s)
    (h : te σ H fun x H1 => ∃ a C dx fs g, x = .ref a ∧ H1 a = some (.ins C dx fs) ∧ Cls X.K C ∧ Meth X.K C m g ∧ fs.lookup m = none ∧
      ∀ s1, Inv X pins σ H1 s1 → wpAny (model X.prog X.w) X.A (callWith pos (.ref g) [.ref a] (backTo pos (starEach args X.env)) (backToKw pos (keywordEach [] X.env))) Q X.xe s1)
    (ht : eval (.Call (.Attribute e m apos) args [] pos) X.env = (do
      let ov ← eval e X.env
      standAt apos.atName
      let (f, first) ← holding [ov] (getMethod ov m pl)
      callWith pos f first (backTo pos (starEach args X.env)) (backToKw pos (keywordEach [] X.env)))) :
    wpAny (model X.prog X.w) X.A (eval (.Call (.Attribute e m apos) args [] pos) X.env) Q X.xe s := by
  refine PySem.W.methodCall_KW (pl := pl) (thn (he pins s σ H _ I h) fun u s1 ⟨x, H1, I1, rx, a, C, dx, fs, g, ex, ea, c, k, l, q⟩ => ?_) ht
  subst ex
  obtain rfl : u = Value.ref a := rx
  exact getmeth_ok I1 ea c k l (q s1 I1)
end

/-! ### isinstance -/
section
variable {X : Cx} {pins : List (Addr × Obj)} {σ : St} {H : Hp} {s : Shared} {A : Around} {E : Value → Shared → Prop} {Q : Value → Shared → Prop} {c : Value} {b : Bool}
end
end L2

namespace L2
open PySem PySem.Spec PyProof.Rows

/-! ### room -/
structure Room (k : Nat) (A : Around) : Prop where
  hd : A.handled = none
  dp : A.depth + 3 * k + 5 < recursionLimit
  un : A.units + 16 * k + 200 < cLine
theorem Room.mono {j k : Nat} {A : Around} (r : Room k A) (h : j ≤ k) : Room j A := ⟨r.hd, by have := r.dp; omega, by have := r.un; omega⟩
theorem Room.deeper {k : Nat} {A : Around} (r : Room (k + 1) A) (env : Env) : Room k (A.deeper env) :=
  ⟨r.hd, by have := r.dp; show A.depth + 1 + 3 * k + 5 < _; omega, by have := r.un; show A.units + 3 + 16 * k + 200 < _; omega⟩
theorem make_depth {A : Around} {C : Addr} {us : List Value} {kw : List (Str × Value)} : (A.under (.builtin "type.__call__" ⟨.ref C :: us, kw⟩)).depth = A.depth + 1 := by
  first | rfl | simp [Around.under, Code.weight, Code.isCreation, Code.isGuard, Code.isCaller, Code.frames, Code.isFrame, guardIds]
theorem make_units {A : Around} {C : Addr} {us : List Value} {kw : List (Str × Value)} : (A.under (.builtin "type.__call__" ⟨.ref C :: us, kw⟩)).units = A.units + 1 := by
  first | rfl | simp [Around.under, Code.cUnits, Code.frames, Code.isFrame]
theorem Room.make {k : Nat} {A : Around} (r : Room (k + 1) A) (C : Addr) (us : List Value) (kw : List (Str × Value)) : Room k (A.under (.builtin "type.__call__" ⟨.ref C :: us, kw⟩)) :=
  ⟨r.hd, by have := r.dp; rw [make_depth]; omega, by have := r.un; rw [make_units]; omega⟩
theorem Room.depth {k : Nat} {A : Around} (r : Room k A) : A.depth < recursionLimit := by have := r.dp; omega
theorem Room.units {k : Nat} {A : Around} (r : Room k A) : A.units + 64 < cLine := by have := r.un; omega
/-! ### argument lists and displays -/
def tNil : TA := fun _ H Q => Q [] H
def tCons (ta : TE) (tr : TA) : TA := fun σ H Q => ta σ H fun x H1 => tr σ H1 fun xs H2 => Q (x :: xs) H2
section
variable {X : Cx} {e : Expr} {es : List Expr} {te : TE} {t : TA} {pos : Pos}
theorem pa_nil : PA X [] tNil := fun _ _ _ _ H Q I h => Calls.spliced_nil ⟨[], H, I, .nil, h⟩
theorem pa_cons (ha : PE X e te) (hr : PA X es t) (hs : starEach (e :: es) X.env = (false, eval e X.env) :: starEach es X.env := by rfl) : PA X (e :: es) (tCons te t) := by
  intro pos pins s σ H Q I h
  rw [hs]
  show wpAny _ _ (spliced ((false, eval e X.env) :: backTo pos (starEach es X.env))) _ _ s
  refine Calls.spliced_cons (thn (ha pins s σ H _ I h) fun u s1 ⟨x, H1, I1, r1, q1⟩ => ?_)
  exact thn (hr pos pins s1 σ H1 _ I1 q1) fun us s2 ⟨xs, H2, I2, r2, q2⟩ => ⟨x :: xs, H2, I2, .cons r1 r2, q2⟩

/-- a tuple, a list of written items -/
def tTup (t : TA) : TE := fun σ H Q => t σ H fun xs H1 => xs.length ≤ sizeLine ∧ ∀ p, H1 p = none → Q (.ref p) (upd H1 p (.tup xs))
def tLst (t : TA) : TE := fun σ H Q => t σ H fun xs H1 => xs.length ≤ sizeLine ∧ ∀ p, H1 p = none → Q (.ref p) (upd H1 p (.lst xs))
theorem pe_tup {x1} (h : PA X es t) : PE X (.Tuple es x1 pos) (tTup t) := by
  intro pins s σ H Q I hq
  refine wpAny_Tuple_spliced (thn (h pos pins s σ H _ I hq) fun us s1 ⟨xs, H1, I1, r, z, q⟩ => ⟨by rw [← r.length]; exact z, ?_⟩)
  have hf : H1 s1.heap.objs.size = none := I1.hok.fresh (Nat.le_refl _)
  refine ⟨.ref s1.heap.objs.size, upd H1 s1.heap.objs.size (.tup xs), I1.laid (t' := s1.toks) (fun b u e => Heap.get?_push_of_some _ e) (Nat.le_refl _) ?_, rfl, q _ hf⟩
  exact ⟨z, us, r, ⟨_, Heap.get?_push_size _ rfl, rfl, _, rfl⟩⟩
theorem pe_lst (h : PA X es t) : PE X (.List es pos) (tLst t) := by
  intro pins s σ H Q I hq
  refine wpAny_List_spliced (thn (h pos pins s σ H _ I hq) fun us s1 ⟨xs, H1, I1, r, z, q⟩ => ⟨by rw [← r.length]; exact z, ?_⟩)
  have hf : H1 s1.heap.objs.size = none := I1.hok.fresh (Nat.le_refl _)
  refine ⟨.ref s1.heap.objs.size, upd H1 s1.heap.objs.size (.lst xs), I1.laid (t' := s1.toks) (fun b u e => Heap.get?_push_of_some _ e) (Nat.le_refl _) ?_, rfl, q _ hf⟩
  exact ⟨z, us, 0, r, Heap.get?_push_size _ rfl⟩
end

/-! ### what a def promises -/
/-- a def's promise: the bound arguments in the parameters' order, the heap, the wanted end, the wanted exception -/
abbrev Sp := List V → Hp → VK → XK → Prop
/-- how an exception lies behind a call (file 08 gives it): the callers' frames, abstract heap and state ahead of the call, the wish, the exception, the state -/
abbrev CXT := List Env → Hp → Shared → XK → Value → Shared → Prop

/-- the state at a call -/
structure Env0 (P : Program) (w : World) (K : PySem.W.Frag) (mg : Str → Option Value) (base : Heap) (A : Around) (outer : List Env) (s : Shared) (H : Hp) : Prop where
  frames : A.frames = some outer
  mod : Mod K mg base
  bs : ∀ b o, base.get? b = some o → s.heap.get? b = some o ∧ H b = none
  bsz : base.objs.size ≤ s.heap.objs.size
  funs : s.heap.FunFrames base outer
  frf : ∀ b ∈ frs outer, H b = none
  hok : HOk P w H s.heap
  bare : AllBare s.gens
/-- a call's end -/
def CE (outer : List Env) (P : Program) (w : World) (H : Hp) (s : Shared) (Q : VK) (u : Value) (s' : Shared) : Prop :=
  ∃ v H', s'.os = s.os ∧ AllBare s'.gens ∧ Un (frs outer) [] H H' s.heap s'.heap ∧ HOk P w H' s'.heap ∧ RelV v u ∧ Q v H'
def CR (CX : CXT) (outer : List Env) (P : Program) (w : World) (H : Hp) (s : Shared) (Q : VK) (E : XK) (r : Result) (s' : Shared) : Prop :=
  match r with
  | .ok (.ret u) => CE outer P w H s Q u s'
  | .ok _ => False
  | .error e => CX outer H s E e s'
structure FnOk (P : Program) (w : World) (K : PySem.W.Frag) (mg : Str → Option Value) (base : Heap) (CX : CXT) (k : Nat) (f : Addr) (fd : FuncData) (ps : List Str) (sp : Sp) : Prop where
  len : ∀ vs H Q E, sp vs H Q E → vs.length = ps.length
  run : ∀ (A : Around) (outer : List Env) (s : Shared) (H : Hp) (args : Args) (us : List Value) (vs : List V) (Q : VK) (E : XK), Room k A → Env0 P w K mg base A outer s H → BindsTo s fd args (ps.zip us) → Vals vs us → sp vs H Q E →
    codeAny (model P w) A (.call (.ref f) args) (CR CX outer P w H s Q E) s
theorem FnOk.mono {P : Program} {w : World} {K : PySem.W.Frag} {mg : Str → Option Value} {base : Heap} {CX : CXT} {j k : Nat} {f : Addr} {fd : FuncData} {ps : List Str} {sp : Sp} (F : FnOk P w K mg base CX j f fd ps sp) (h : j ≤ k) :
    FnOk P w K mg base CX k f fd ps sp := ⟨F.len, fun A outer s H args us vs Q E hr => F.run A outer s H args us vs Q E (hr.mono h)⟩
/-- a weaker promise -/
theorem FnOk.imp {P : Program} {w : World} {K : PySem.W.Frag} {mg : Str → Option Value} {base : Heap} {CX : CXT} {k : Nat} {f : Addr} {fd : FuncData} {ps : List Str} {sp sp' : Sp} (F : FnOk P w K mg base CX k f fd ps sp)
    (h : ∀ vs H Q E, sp' vs H Q E → sp vs H Q E) : FnOk P w K mg base CX k f fd ps sp' :=
  ⟨fun vs H Q E q => F.len vs H Q E (h _ _ _ _ q), fun A outer s H args us vs Q E hr he hb hv hs => F.run A outer s H args us vs Q E hr he hb hv (h _ _ _ _ hs)⟩

theorem Env0.make {P : Program} {w : World} {K : PySem.W.Frag} {mg : Str → Option Value} {base : Heap} {A : Around} {outer : List Env} {s : Shared} {H : Hp} (e : Env0 P w K mg base A outer s H) (C : Addr) (us : List Value) (kw : List (Str × Value)) :
    Env0 P w K mg base (A.under (.builtin "type.__call__" ⟨.ref C :: us, kw⟩)) outer s H := ⟨by first | exact e.frames | (simpa [Around.under, Code.envs, Code.isFrame, pushEnvs] using e.frames), e.mod, e.bs, e.bsz, e.funs, e.frf, e.hok, e.bare⟩
section
variable {X : Cx} {pins : List (Addr × Obj)} {σ : St} {H : Hp} {s s' : Shared}
/-- from a body: what a callee wants -/
theorem Inv.env0 (I : Inv X pins σ H s) : Env0 X.prog X.w X.K X.mg X.base X.A X.stack s H :=
  ⟨I.ok.frames, I.ok.mod, I.bs, Nat.le_trans I.ok.bsz I.sz, I.stack, I.stkFree, I.hok, I.bare⟩
/-- behind a call -/
theorem Inv.after {Q : VK} {u : Value} (I : Inv X pins σ H s) (h : CE X.stack X.prog X.w H s Q u s') : EP X pins σ Q u s' := by
  obtain ⟨v, H', os, bare, un, hok, r, q⟩ := h
  obtain ⟨hh, g, d, t, os'⟩ := s'
  obtain rfl : os' = s.os := os
  exact ⟨v, H', I.call (h' := hh) (g' := g) (d' := d) (t' := t) (ch := []) un hok bare (fun b z => absurd z (by simp)), r, q⟩
end

/-! ### calls -/
/-- f(..): the written arguments, then the defaults dvs; E: what is wanted of an exception -/
def tCall (sp : Sp) (dvs : List V) (E : XK) (t : TA) : TE := fun σ H Q => t σ H fun vs H1 => sp (vs ++ dvs) H1 Q E
/-- o.m(..) of an instance of the class at C -/
def tMeth (C : Addr) (m : Str) (sp : Sp) (dvs : List V) (E : XK) (ta : TE) (t : TA) : TE := fun σ H Q => ta σ H fun x H1 => ∃ a dx fs, x = .ref a ∧ H1 a = some (.ins C dx fs) ∧ fs.lookup m = none ∧
  t σ H1 fun vs H2 => sp (x :: (vs ++ dvs)) H2 Q E
/-- C(..): a new instance and its dict, then __init__ -/
def tMake (C : Addr) (sp : Sp) (dvs : List V) (E : XK) (t : TA) : TE := fun σ H Q => t σ H fun vs H1 => ∀ x dx, H1 x = none → H1 dx = none → dx ≠ x →
  sp (.ref x :: (vs ++ dvs)) (upd (upd H1 dx (.own x)) x (.ins C dx [])) (fun v H2 => v = .non ∧ Q (.ref x) H2) E

/-- how the parameters are bound: us the positional arguments, kw the keywords' values by name, ds the defaults that fill up -/
def Binds (K : PySem.W.Frag) (fd : FuncData) (ps : List Str) (ds : List Value) : Prop :=
  ∀ (s : Shared) (us : List Value), K.In s.heap → (us ++ ds).length = ps.length → BindsTo s fd ⟨us, []⟩ (ps.zip (us ++ ds))
/-- every parameter is given -/
theorem Binds.all {K : PySem.W.Frag} {fd : FuncData} {ps : List Str} (h : ∀ us : List Value, us.length = ps.length → bindArgs fd ⟨us, []⟩ = pure (ps.zip us)) : Binds K fd ps [] := fun s us _ hl => by
  rw [List.append_nil] at hl ⊢
  exact .of_eq (h us hl)

/-- an exception of a callee reaches what this body wants of exceptions -/
def Passes (CX : CXT) (X : Cx) (E : XK) : Prop := ∀ (pins : List (Addr × Obj)) (σ : St) (H : Hp) (s : Shared) (e : Value) (s' : Shared), Inv X pins σ H s → CX X.stack H s E e s' → X.xe e s'

section
variable {X : Cx} {CX : CXT} {k : Nat} {f C : Addr} {fd : FuncData} {ps : List Str} {sp : Sp} {dvs : List V} {ds : List Value} {E : XK} {x m : Str} {p pos apos : Pos} {e o : Expr} {es : List Expr} {ta : TE} {t : TA}

/-- the callee runs -/
theorem run_fn {pins : List (Addr × Obj)} {σ : St} {H : Hp} {s : Shared} {Q : VK} {us : List Value} {vs : List V} (F : FnOk X.prog X.w X.K X.mg X.base CX k f fd ps sp) (hr : Room k X.A) (hb : Binds X.K fd ps ds) (hd : Vals dvs ds) (hx : Passes CX X E)
    (I : Inv X pins σ H s) (r : Vals vs us) (h : sp (vs ++ dvs) H Q E) : wpAny (model X.prog X.w) X.A (call (.ref f) us) (EP X pins σ Q) X.xe s := by
  have r2 : Vals (vs ++ dvs) (us ++ ds) := r.append hd
  have hl : (us ++ ds).length = ps.length := by rw [← r2.length]; exact F.len _ _ _ _ h
  refine wpAny_call (codeAny_mono (F.run X.A X.stack s H ⟨us, []⟩ (us ++ ds) (vs ++ dvs) Q E hr I.env0 (hb s us I.kIn hl) r2 h) fun r s' hq => ?_)
  cases r with
  | error e => exact hx pins σ H s e s' I hq
  | ok fl =>
    cases fl with
    | ret u => exact I.after hq
    | next => exact False.elim hq
    | brk => exact False.elim hq
    | cont => exact False.elim hq

theorem pe_call (F : FnOk X.prog X.w X.K X.mg X.base CX k f fd ps sp) (hr : Room k X.A) (hg : Gl X x) (hm : X.mg x = some (.ref f)) (hk : PySem.W.keepIn X.K (.ref f) = true) (hb : Binds X.K fd ps ds) (hd : Vals dvs ds) (hx : Passes CX X E)
    (ha : PA X (e :: es) t) (hdb : (x == ("__debug__" : Str)) = false := by decide) (he : starEach (e :: es) X.env = (false, eval e X.env) :: starEach es X.env := by rfl) (hpl : (backTo pos (starEach es X.env)).any (·.1) = false := by rfl) :
    PE X (.Call (.Name x p) (e :: es) [] pos) (tCall sp dvs E t) := by
  intro pins s σ H Q I h
  refine wpAny_Call_Name_kw (ld_glob I hg hm ?_ hdb)
  refine PySem.W.callWith_K (h₀ := X.base) I.ok.mod.kin hk (thn (ha pos pins s σ H _ I h) fun us s1 ⟨vs, H1, I1, r, q⟩ => ⟨I1.kIn, ?_⟩) he hpl
  exact run_fn F hr hb hd hx I1 r q
/-- o.m(e, ..) -/
theorem pe_meth {pl : Sem Bool} (he : PE X o ta) (c : Cls X.K C) (hm : Meth X.K C m f) (F : FnOk X.prog X.w X.K X.mg X.base CX k f fd ps sp) (hr : Room k X.A) (hb : Binds X.K fd ps ds) (hd : Vals dvs ds) (hx : Passes CX X E) (ha : PA X (e :: es) t)
    (hst : starEach (e :: es) X.env = (false, eval e X.env) :: starEach es X.env := by rfl) (hpl : (backTo pos (starEach es X.env)).any (·.1) = false := by rfl)
    (ht : eval (.Call (.Attribute o m apos) (e :: es) [] pos) X.env = (do
      let ov ← eval o X.env
      standAt apos.atName
      let (f, first) ← holding [ov] (getMethod ov m pl)
      callWith pos f first (backTo pos (starEach (e :: es) X.env)) (backToKw pos (keywordEach [] X.env))) := by rfl) :
    PE X (.Call (.Attribute o m apos) (e :: es) [] pos) (tMeth C m sp dvs E ta t) := by
  intro pins s σ H Q I h
  refine PySem.W.methodCall_KW (pl := pl) (thn (he pins s σ H _ I h) fun u s1 ⟨x, H1, I1, rx, a, dx, fs, ex, ea, l, q⟩ => ?_) ht
  subst ex
  obtain rfl : u = Value.ref a := rx
  refine getmeth_ok I1 ea c hm l ?_
  refine PySem.W.callWith_K (first := [.ref a]) (h₀ := X.base) I.ok.mod.kin hm.kp (thn (ha pos pins s1 σ H1 _ I1 q) fun us s2 ⟨vs, H2, I2, r, q2⟩ => ⟨I2.kIn, ?_⟩) hst hpl
  exact run_fn (us := .ref a :: us) (vs := .ref a :: vs) F hr hb hd hx I2 (.cons rfl r) q2
/-- o.m() -/
theorem pe_meth0 {pl : Sem Bool} (he : PE X o ta) (c : Cls X.K C) (hm : Meth X.K C m f) (F : FnOk X.prog X.w X.K X.mg X.base CX k f fd ps sp) (hr : Room k X.A) (hb : Binds X.K fd ps ds) (hd : Vals dvs ds) (hx : Passes CX X E)
    (ht : eval (.Call (.Attribute o m apos) [] [] pos) X.env = (do
      let ov ← eval o X.env
      standAt apos.atName
      let (f, first) ← holding [ov] (getMethod ov m pl)
      callWith pos f first (backTo pos (starEach [] X.env)) (backToKw pos (keywordEach [] X.env))) := by rfl) :
    PE X (.Call (.Attribute o m apos) [] [] pos) (tMeth C m sp dvs E ta tNil) := by
  intro pins s σ H Q I h
  refine PySem.W.methodCall_KW (pl := pl) (thn (he pins s σ H _ I h) fun u s1 ⟨x, H1, I1, rx, a, dx, fs, ex, ea, l, q⟩ => ?_) ht
  subst ex
  obtain rfl : u = Value.ref a := rx
  refine getmeth_ok I1 ea c hm l ?_
  exact PySem.W.callWith_K0 (first := [.ref a]) I1.kIn hm.kp (run_fn (us := [.ref a]) (vs := [.ref a]) F hr hb hd hx I1 (.cons rfl .nil) q)

/-- what a class must have to be made -/
structure Mk (K : PySem.W.Frag) (C f : Addr) : Prop where
  makes : PySem.W.makesIn K C = true
  init : PySem.W.findIn K (.ref C) "__init__" = some (some (.ref f))
  fn : PySem.W.isFn K (.ref f) = true
  kp : PySem.W.keepIn K (.ref C) = true

theorem run_make {pins : List (Addr × Obj)} {σ : St} {H : Hp} {s : Shared} {Q : VK} {us : List Value} {vs : List V} (M : Mk X.K C f) (F : FnOk X.prog X.w X.K X.mg X.base CX k f fd ps sp) (hr : Room (k + 1) X.A) (hb : Binds X.K fd ps ds) (hd : Vals dvs ds)
    (hx : Passes CX X E) (I : Inv X pins σ H s) (r : Vals vs us)
    (h : ∀ x dx, H x = none → H dx = none → dx ≠ x → sp (.ref x :: (vs ++ dvs)) (upd (upd H dx (.own x)) x (.ins C dx [])) (fun v H2 => v = .non ∧ Q (.ref x) H2) E) :
    wpAny (model X.prog X.w) X.A (call (.ref C) us) (EP X pins σ Q) X.xe s := by
  have hq := h (s.heap.objs.size + 1) s.heap.objs.size (I.hok.fresh (Nat.le_succ _)) (I.hok.fresh (Nat.le_refl _)) (Nat.ne_of_lt (Nat.lt_succ_self _))
  have I2 := Inv.made (C := C) I
  have r2 : Vals (V.ref (s.heap.objs.size + 1) :: (vs ++ dvs)) (Value.ref (s.heap.objs.size + 1) :: (us ++ ds)) := .cons rfl (r.append hd)
  have hl : (Value.ref (s.heap.objs.size + 1) :: us ++ ds).length = ps.length := by
    have e := r2.length
    rw [F.len _ _ _ _ hq] at e
    exact e.symm
  refine wpAny_call (make_map (f := f) I.kIn M.makes M.init (beq_iff_eq.mp M.fn) (codeAny_mono (F.run _ X.stack _ _ ⟨Value.ref (s.heap.objs.size + 1) :: us, []⟩ (Value.ref (s.heap.objs.size + 1) :: (us ++ ds)) _ _ E (hr.make C us [])
    (I2.env0.make C us []) (hb _ (Value.ref (s.heap.objs.size + 1) :: us) I2.kIn hl) r2 hq) fun r s' hq' => ?_))
  cases r with
  | error e => exact hx pins σ _ _ e s' I2 hq'
  | ok fl =>
    cases fl with
    | ret u =>
      obtain ⟨v, H', I3, rv, ev, q3⟩ := I2.after hq'
      subst ev
      exact ⟨rv, ⟨V.ref (s.heap.objs.size + 1), H', I3, rfl, q3⟩⟩
    | next => exact False.elim hq'
    | brk => exact False.elim hq'
    | cont => exact False.elim hq'
theorem pe_make (M : Mk X.K C f) (F : FnOk X.prog X.w X.K X.mg X.base CX k f fd ps sp) (hr : Room (k + 1) X.A) (hg : Gl X x) (hm : X.mg x = some (.ref C)) (hb : Binds X.K fd ps ds) (hd : Vals dvs ds) (hx : Passes CX X E)
    (ha : PA X (e :: es) t) (hdb : (x == ("__debug__" : Str)) = false := by decide) (he : starEach (e :: es) X.env = (false, eval e X.env) :: starEach es X.env := by rfl) (hpl : (backTo pos (starEach es X.env)).any (·.1) = false := by rfl) :
    PE X (.Call (.Name x p) (e :: es) [] pos) (tMake C sp dvs E t) := by
  intro pins s σ H Q I h
  refine wpAny_Call_Name_kw (ld_glob I hg hm ?_ hdb)
  refine PySem.W.callWith_K (h₀ := X.base) I.ok.mod.kin M.kp (thn (ha pos pins s σ H _ I h) fun us s1 ⟨vs, H1, I1, r, q⟩ => ⟨I1.kIn, ?_⟩) he hpl
  exact run_make M F hr hb hd hx I1 r q
end

/-! ### keywords -/
section
variable {X : Cx} {CX : CXT} {k : Nat} {f C : Addr} {fd : FuncData} {ps ks : List Str} {sp : Sp} {E : XK} {x m : Str} {p pos apos kpos : Pos} {e o : Expr} {es : List Expr} {kws : List Keyword} {te ta : TE} {t tk : TA} {nm : Option Str}
variable {g : List Value → List Value → List Value} {gV : List V → List V → List V}
end

/-! ### a def's body keeps its promise -/
/-- names: the parameters first -/
structure FnScope (N P : List Str) (sc : Scope) : Prop where
  kind : sc.kind = .function
  co : sc.isCoroutine = false
  gen : sc.isGenerator = false
  nd : N.Nodup
  pre : N.take P.length = P
  par : ∀ x ∈ P, sc.names.lookup x = some .local ∨ sc.names.lookup x = some .cell
  nofree : ∀ y ∈ sc.names, y.2 ≠ .free

theorem bindL_out {kindOf : Str → Option NameKind} {x : Str} : ∀ {binds : List (Str × Value)} {m : Str → Option Value}, (∀ v, (x, v) ∉ binds) → bindL kindOf binds m x = m x
  | [], _, _ => rfl
  | (n, v) :: r, m, h => by
    unfold bindL
    rw [bindL_out fun w hw => h w (List.mem_cons_of_mem _ hw)]
    split
    · have : x ≠ n := by rintro rfl; exact h v List.mem_cons_self
      simp [this]
    · rfl
theorem bindC_out {kindOf : Str → Option NameKind} {x : Str} : ∀ {binds : List (Str × Value)} {m : Str → Option Value}, (∀ v, (x, v) ∉ binds) → bindC kindOf binds m x = m x
  | [], _, _ => rfl
  | (n, v) :: r, m, h => by
    unfold bindC
    rw [bindC_out fun w hw => h w (List.mem_cons_of_mem _ hw)]
    split
    · rfl
    · have : x ≠ n := by rintro rfl; exact h v List.mem_cons_self
      simp [this]
theorem bindL_get {kindOf : Str → Option NameKind} {x : Str} {v : Value} : ∀ {P : List Str} {vs : List Value} {i : Nat} {m : Str → Option Value}, P.Nodup → P[i]? = some x → vs[i]? = some v → kindOf x = some .local →
    bindL kindOf (P.zip vs) m x = some v
  | [], _, _, _, _, h, _, _ => by simp at h
  | _ :: _, [], _, _, _, _, h, _ => by simp at h
  | p :: P, w :: vs, 0, m, nd, h1, h2, hk => by
    simp at h1 h2; subst h1; subst h2
    show bindL kindOf ((p, w) :: P.zip vs) m p = _
    unfold bindL
    rw [bindL_out fun v hv => (List.nodup_cons.mp nd).1 (List.of_mem_zip hv).1, if_pos hk]
    simp
  | p :: P, w :: vs, i + 1, m, nd, h1, h2, hk => by
    show bindL kindOf ((p, w) :: P.zip vs) m x = _
    unfold bindL
    exact bindL_get (i := i) (List.nodup_cons.mp nd).2 (by simpa using h1) (by simpa using h2) hk
theorem bindC_get {kindOf : Str → Option NameKind} {x : Str} {v : Value} : ∀ {P : List Str} {vs : List Value} {i : Nat} {m : Str → Option Value}, P.Nodup → P[i]? = some x → vs[i]? = some v → kindOf x ≠ some .local →
    bindC kindOf (P.zip vs) m x = some v
  | [], _, _, _, _, h, _, _ => by simp at h
  | _ :: _, [], _, _, _, _, h, _ => by simp at h
  | p :: P, w :: vs, 0, m, nd, h1, h2, hk => by
    simp at h1 h2; subst h1; subst h2
    show bindC kindOf ((p, w) :: P.zip vs) m p = _
    unfold bindC
    rw [bindC_out fun v hv => (List.nodup_cons.mp nd).1 (List.of_mem_zip hv).1, if_neg hk]
    simp
  | p :: P, w :: vs, i + 1, m, nd, h1, h2, hk => by
    show bindC kindOf ((p, w) :: P.zip vs) m x = _
    unfold bindC
    exact bindC_get (i := i) (List.nodup_cons.mp nd).2 (by simpa using h1) (by simpa using h2) hk

/-- the names' values at the entry -/
def start (N : List Str) (vs : List V) : St := vs.map some ++ List.replicate (N.length - vs.length) none

/-- the context of a def's body, at its entry; an exception leaves the frame, then lies as CX says -/
def cxOf (CX : CXT) (P : Program) (w : World) (K : PySem.W.Frag) (mg : Str → Option Value) (base : Heap) (N : List Str) (qual : Str) (scope : Scope) (f : Addr) (cd : Value) (A : Around) (outer : List Env) (s : Shared) (H : Hp) (E : XK) : Cx where
  prog := P
  w := w
  K := K
  mg := mg
  base := base
  A := A.deeper (envOfC qual scope s.heap.objs.size f cd)
  N := N
  s₀ := s
  H₀ := H
  env := envOfC qual scope s.heap.objs.size f cd
  outer := outer
  stack := envOfC qual scope s.heap.objs.size f cd :: outer
  ex := []
  calm := true
  fn := fun _ => true
  pn := []
  xe := fun e s' => wpAny (model P w) (A.deeper (envOfC qual scope s.heap.objs.size f cd)) (leaving (envOfC qual scope s.heap.objs.size f cd) e) (fun _ s'' => CX outer H s E e s'') (fun e' s'' => CX outer H s E e' s'') s'

theorem cell_has {sc : Scope} {n : Nat} {x : Str} (h : sc.names.lookup x = some .cell) : ∃ c, (cellsFrom n sc.names []).lookup x = some c := by
  have q := PySem.W.cellsFrom_some sc.names n [] (.inl h)
  exact Option.isSome_iff_exists.mp q

theorem inv_start {CX : CXT} {P : Program} {w : World} {K : PySem.W.Frag} {mg : Str → Option Value} {base : Heap} {N ps : List Str} {qual : Str} {scope : Scope} {f : Addr} {cd : Value} {A : Around} {outer : List Env} {s s1 : Shared} {H : Hp} {E : XK} {us : List Value} {vs : List V}
    (S : FnScope N ps scope) (hd : A.handled = none) (e0 : Env0 P w K mg base A outer s H) (hl : vs.length = ps.length) (r : Vals vs us)
    (x : InCallC s s.heap.objs.size (bindL (envOfC qual scope s.heap.objs.size f cd).kindOf (ps.zip us) fun _ => none) (cellsFrom (s.heap.objs.size + 1) scope.names []) (bindC (envOfC qual scope s.heap.objs.size f cd).kindOf (ps.zip us) fun _ => none) s1) :
    Inv (cxOf CX P w K mg base N qual scope f cd A outer s H E) [] (start N vs) H s1 := by
  have hpl : ps.length ≤ N.length := by have := congrArg List.length S.pre; rw [List.length_take] at this; omega
  obtain ⟨h1, tk, rfl, hk⟩ := x.done
  have noA : ∀ b : Addr, b ∉ (cxOf CX P w K mg base N qual scope f cd A outer s H E).ex := fun b z => absurd (show b ∈ ([] : List Addr) from z) (by simp)
  refine ⟨⟨e0.mod, S.kind, rfl, rfl, Nat.le_refl _, fun y z c h1 h2 => ?_, fun y hy => ?_, fun y c _ h => ?_, fun _ => hd, Around.frames_deeper e0.frames, .inr ⟨rfl, rfl⟩, fun b z => absurd z (noA b), e0.bs, e0.bsz, fun b _ _ => noA b, fun b z => absurd z (noA b), e0.funs, e0.frf⟩,
    rfl, e0.bare, Un.kept hk, ⟨_, x.toInCall.ns, fun i y v h1 h2 h3 => ?_⟩, fun y c h => ⟨_, x.cell y c h⟩, e0.hok.fresh (Nat.le_refl _), fun y c h => ?_, fun p hp => absurd (show p ∈ ([] : List (Addr × Obj)) from hp) (by simp), e0.hok.kept hk, ?_⟩
  · exact name_of_addr x.apart (PySem.mem_of_lookup h1) (PySem.mem_of_lookup h2)
  · have hy : scope.names.lookup y = some .cell ∨ scope.names.lookup y = some .free := hy
    rcases hy with hy | hy
    · exact cell_has hy
    · exact absurd rfl (S.nofree _ (PySem.mem_of_lookup hy))
  · exact Nat.le_of_lt (x.above y c (PySem.mem_of_lookup h))
  · have hi : i < vs.length := by
      unfold start at h2
      by_cases hi : i < vs.length
      · exact hi
      · rw [List.getElem?_append_right (by simpa using hi)] at h2
        rw [List.getElem?_replicate] at h2
        split at h2 <;> cases h2
    have ha : vs[i]? = some v := by
      unfold start at h2
      rw [List.getElem?_append_left (by simpa using hi), List.getElem?_map] at h2
      cases e : vs[i]? with
      | none => rw [e] at h2; cases h2
      | some a => rw [e] at h2; cases h2; rfl
    obtain ⟨u, hu, rv⟩ := r.get ha
    have hp : ps[i]? = some y := by
      rw [← S.pre, List.getElem?_take_of_lt (by omega)]; exact h1
    have ndP : ps.Nodup := by rw [← S.pre]; exact S.nd.sublist (List.take_sublist _ _)
    refine ⟨u, rv, ?_⟩
    rcases S.par y (List.mem_of_getElem? hp) with k | k
    · exact .inl ⟨k, bindL_get ndP hp hu k⟩
    · obtain ⟨c, e⟩ := cell_has (n := s.heap.objs.size + 1) k
      refine .inr ⟨.inl k, c, e, ?_⟩
      have q := x.cell y c e
      rw [bindC_get ndP hp hu (by show scope.names.lookup y ≠ _; rw [k]; decide)] at q
      exact q
  · exact e0.hok.fresh (Nat.le_of_lt (x.above y c (PySem.mem_of_lookup h)))
  · unfold start
    show _ = N.length
    rw [List.length_append, List.length_map, List.length_replicate]
    omega

/-- THE RULE: a def (or a method) of the text, by its body. The body's reading t is chosen for each entry; it is run at the parameters' values -/
theorem fn_of {CX : CXT} {P : Program} {w : World} {K : PySem.W.Frag} {mg : Str → Option Value} {base : Heap} {k : Nat} {f : Addr} {name qual : Str} {params : Arguments} {body : List Stmt} {scope : Scope} {dV kV doc pm cdv ct oc : Value} {an od : Option Addr}
    {osl : Array (Option Value)} {N ps : List Str} {sp : Sp} (lk : K.lookup f = some ⟨oc, od, .func (PySem.W.fnOf name qual params body scope dV kV doc pm an cdv ct), osl⟩) (hcd : PySem.W.codeIn K cdv qual = true) (S : FnScope N ps scope)
    (len : ∀ vs H Q E, sp vs H Q E → vs.length = ps.length)
    (hbody : ∀ (A : Around) (outer : List Env) (s : Shared) (H : Hp) (vs : List V) (Q : VK) (E : XK), Room k (A.deeper (envOfC qual scope s.heap.objs.size f cdv)) → sp vs H Q E →
      ∃ t, PSs (cxOf CX P w K mg base N qual scope f cdv A outer s H E) body t ∧ t { nx := fun _ H' => Q .non H', rt := Q } (start N vs) H) :
    FnOk P w K mg base CX (k + 1) f (PySem.W.fnOf name qual params body scope dV kV doc pm an cdv ct) ps sp := by
  refine ⟨len, fun A outer s H args us vs Q E hr e0 hb r hsp => ?_⟩
  have hl := len _ _ _ _ hsp
  have KX : K.In s.heap := e0.mod.kin.keeps fun b o e => (e0.bs b o e).1
  have lim : s.heap.NoLimit := e0.mod.nolimit.keeps fun b o e => (e0.bs b o e).1
  have hkind : ∀ y ∈ ps.zip us, scope.names.lookup y.1 = some .local ∨ (scope.names.lookup y.1 = some .cell ∧ ((cellsFrom (s.heap.objs.size + 1) scope.names []).lookup y.1).isSome = true) := fun ⟨n, v⟩ hy => by
    rcases S.par n (List.of_mem_zip hy).1 with q | q
    · exact .inl q
    · exact .inr ⟨q, PySem.W.cellsFrom_some _ _ _ (.inl q)⟩
  refine codeAny_call_function hr.depth (KX _ _ lk) rfl S.co S.gen rfl (PySem.W.codeRec_of KX hcd) (hb _ _ _ _ ?_)
  refine wpAny_newFunctionEnv_cells S.kind hkind fun env he s1 x => ?_
  subst he
  refine ⟨lim.keeps x.toInCall.keep, codeAny_func ?_⟩
  obtain ⟨t, ht, hq⟩ := hbody A outer s H vs Q E (hr.deeper _) hsp
  have I : Inv (cxOf CX P w K mg base N qual scope f cdv A outer s H E) [] (start N vs) H s1 := inv_start S hr.hd e0 hl r x
  refine wpAny_mono (ht [] s1 (start N vs) H _ I hq) (fun fl s' hs => ?_) fun e s' hs => hs
  have fin : ∀ {σ' : St} {H' : Hp} {v : V} {u : Value}, Inv (cxOf CX P w K mg base N qual scope f cdv A outer s H E) [] σ' H' s' → RelV v u → Q v H' → CE outer P w H s Q u s' :=
    fun {σ' H' v u} J rv q => ⟨v, H', J.os, J.bare, J.base, J.hok, rv, q⟩
  cases fl with
  | ret u =>
    obtain ⟨v, σ', H', J, rv, q⟩ := hs
    exact fin J rv q
  | next =>
    obtain ⟨σ', H', J, q⟩ := hs
    exact fin (v := V.non) (u := Value.none) J rfl q
  | brk =>
    obtain ⟨_, _, _, q⟩ := hs
    exact False.elim q
  | cont =>
    obtain ⟨_, _, _, q⟩ := hs
    exact False.elim q
end L2

namespace L2
open PySem PySem.Spec PyProof.Rows
section
variable {X : Cx} {x : Str} {p pos : Pos} {e : Expr} {es : List Expr} {t : TA} {id T : String} {r : List V → Hp → VK → Prop}

def tCB (r : List V → Hp → VK → Prop) (t : TA) : TE := fun σ H Q => t σ H fun vs H1 => r vs H1 Q
/-- f(e, ..), f a built-in function -/
theorem pe_callB (hc : CallR X (.builtin id) r) (hg : Gl X x) (hm : X.mg x = none) (hv : bootBuiltins x = some (.builtin id)) (ha : PA X (e :: es) t) (hn : x ≠ "__name__" := by decide) (hdb : (x == ("__debug__" : Str)) = false := by decide)
    (he : starEach (e :: es) X.env = (false, eval e X.env) :: starEach es X.env := by rfl) (hpl : (backTo pos (starEach es X.env)).any (·.1) = false := by rfl) : PE X (.Call (.Name x p) (e :: es) [] pos) (tCB r t) := by
  intro pins s σ H Q I h
  refine wpAny_Call_Name_kw (ld_blt I hg hm hv ?_ hn hdb)
  exact PyProof.Rows.callWith_builtin1 (thn (ha pos pins s σ H _ I h) fun us s1 ⟨vs, H1, I1, r1, q1⟩ => hc pins s1 σ H1 vs us Q I1 r1 q1) he hpl
/-- T(e, ..), T a built-in type -/
theorem pe_callTy (hc : CallR X (.type T) r) (hg : Gl X x) (hm : X.mg x = none) (hv : bootBuiltins x = some (.type T)) (ha : PA X (e :: es) t) (hn : x ≠ "__name__" := by decide) (hdb : (x == ("__debug__" : Str)) = false := by decide)
    (he : starEach (e :: es) X.env = (false, eval e X.env) :: starEach es X.env := by rfl) (hpl : (backTo pos (starEach es X.env)).any (·.1) = false := by rfl) : PE X (.Call (.Name x p) (e :: es) [] pos) (tCB r t) := by
  intro pins s σ H Q I h
  refine wpAny_Call_Name_kw (ld_blt I hg hm hv ?_ hn hdb)
  exact PyProof.Rows.callWith_type1 (thn (ha pos pins s σ H _ I h) fun us s1 ⟨vs, H1, I1, r1, q1⟩ => hc pins s1 σ H1 vs us Q I1 r1 q1) he hpl
end
end L2

namespace HT
open PySem PyProof.Rows

section
open PySem.SeqAt
open PySem.AutoSeq1 (wpAny_loadPart')
open PySem.MeetsSeq PySem.MeetsSeq2 PySem.MeetsSeq3

end

section
variable {prog : Program} {w : World} {A : Around} {E : Value → Shared → Prop} {s : Shared}

/-- t + u, t not empty -/
theorem cat_tup {t b : Addr} {vs ws : List Value} {Q : Value → Shared → Prop} (ht : IsTup s.heap t vs.toArray) (hb : IsTup s.heap b ws.toArray) (hv : vs ≠ [])
    (h1 : ws = [] → Q (.ref t) s) (h2 : ws ≠ [] → Q (.ref s.heap.objs.size) { s with heap := s.heap.push { cls := .type "tuple", data := .seq (vs ++ ws).toArray } })
    (hsz : vs.length + ws.length ≤ sizeLine) : wpAny (model prog w) A (binaryOp .Add (.ref t) (.ref b)) Q E s := by
  obtain ⟨⟨cls, dd, data, sl⟩, ho, hc, n, hd⟩ := id ht
  obtain ⟨⟨cls2, dd2, data2, sl2⟩, ho2, hc2, n2, hd2⟩ := id hb
  simp only at hc hd hc2 hd2
  subst hc hd hc2 hd2
  have e : vs.toArray ++ ws.toArray = (vs ++ ws).toArray := by simp
  by_cases hw : ws = []
  · exact concat_meets ⟨_, ho, rfl⟩ ⟨_, ho2, rfl⟩ noFill_tuple_add seq_tuple_add PySem.F.slot_tuple_add PySem.F.entry_tuple_add (PySem.F.args_tuple_add_2 _ _)
      (tuple_addW1 t b vs.toArray ws.toArray n n2 dd dd2 sl sl2 (by simpa using hv) (by simp [hw])) ⟨ho, ho2, h1 hw⟩
  · refine concat_meets ⟨_, ho, rfl⟩ ⟨_, ho2, rfl⟩ noFill_tuple_add seq_tuple_add PySem.F.slot_tuple_add PySem.F.entry_tuple_add (PySem.F.args_tuple_add_2 _ _)
      (tuple_addW2 t b vs.toArray ws.toArray n n2 dd dd2 sl sl2 (by simpa using hv) (by simpa using hw) (by rw [List.size_toArray, List.size_toArray]; exact hsz)) ⟨ho, ho2, ?_⟩
    rw [e]
    exact h2 hw

/-! ### t[a:b], not the whole -/
/-- a slice's bound as a place among n (d where it is left out) -/
def sIx (n d : Nat) : Option Int → Nat
  | none => d
  | some v => if v < 0 then (v + (n : Int)).toNat else min v.toNat n
theorem sIx_le (n d : Nat) (hd : d ≤ n) (o : Option Int) : sIx n d o ≤ n := by
  cases o with
  | none => exact hd
  | some v =>
    show (if v < 0 then (v + (n : Int)).toNat else min v.toNat n) ≤ n
    by_cases hv : v < 0
    · rw [if_pos hv]; omega
    · rw [if_neg hv]; exact Nat.min_le_right _ _
theorem clip_eq (v : Int) (n d : Nat) : (if v < 0 then max (v + (n : Int)) 0 else min v (n : Int)) = ((sIx n d (some v) : Nat) : Int) := by
  show (if v < 0 then max (v + (n : Int)) 0 else min v (n : Int)) = (((if v < 0 then (v + (n : Int)).toNat else min v.toNat n) : Nat) : Int)
  by_cases hv : v < 0
  · simp only [if_pos hv]; omega
  · simp only [if_neg hv]; omega
theorem adjust_gen (lo hi : Option Int) (n : Nat) : Builtin.Slice.sliceAdjust lo hi 1 (n : Int) = (((sIx n 0 lo : Nat) : Int), ((sIx n n hi : Nat) : Int)) := by
  have h1 : ¬ ((1 : Int) < 0) := by omega
  unfold Builtin.Slice.sliceAdjust
  simp only [h1, if_false]
  refine Prod.ext ?_ ?_
  · cases lo with
    | none => rfl
    | some v => exact clip_eq v n 0
  · cases hi with
    | none => rfl
    | some v => exact clip_eq v n n
theorem places_gen (i j : Nat) : Builtin.Slice.slicePlaces (i : Int) (j : Int) 1 = j - i := by
  unfold Builtin.Slice.slicePlaces
  have h1 : (1 : Int) > 0 := by omega
  simp only [h1, if_true, Int.ediv_one]
  split <;> omega
theorem slicePart_ {v : Value} {o : Option Int} {Q : Option Int → Shared → Prop} (p : IsPart v o) (h : Q o s) : wpAny (model prog w) A (Builtin.Slice.slicePartIndex v) Q E s := by
  cases p with
  | none => exact slicePart_none h
  | int i t => exact slicePart_int h
theorem sliceApplied_gen {sl : Addr} {vl vu : Value} {lo hi : Option Int} {n : Nat} {Q : Int × Int × Nat → Shared → Prop} (hs : s.heap.IsSliceOf sl vl vu .none) (pl : IsPart vl lo) (pu : IsPart vu hi)
    (h : Q (((sIx n 0 lo : Nat) : Int), 1, sIx n n hi - sIx n 0 lo) s) : wpAny (model prog w) A (Builtin.Slice.sliceApplied (.ref sl) (pure (n : Int))) Q E s := by
  obtain ⟨os, hos, hcs, hds⟩ := id hs
  unfold Builtin.Slice.sliceApplied Builtin.Slice.sliceFields
  refine wpAny_bind (wpAny_bind (wpAny_field hos hds (x := vl) rfl (wpAny_bind (wpAny_field hos hds (x := vu) rfl (wpAny_bind (wpAny_field hos hds (x := .none) rfl (wpAny_pure ?_)))))))
  refine wpAny_bind (slicePart_none ?_)
  show wpAny _ _ (if ((1 : Int) == 0) = true then _ else _) _ _ s
  rw [if_neg (by decide)]
  refine wpAny_bind (slicePart_ pl (wpAny_bind (slicePart_ pu (wpAny_bind (wpAny_pure ?_)))))
  show wpAny _ _ (match Builtin.Slice.sliceAdjust lo hi 1 (n : Int) with | (lo, hi) => pure (lo, (1 : Int), Builtin.Slice.slicePlaces lo hi 1)) _ _ s
  rw [adjust_gen lo hi n]
  show wpAny _ _ (pure (((sIx n 0 lo : Nat) : Int), (1 : Int), Builtin.Slice.slicePlaces ((sIx n 0 lo : Nat) : Int) ((sIx n n hi : Nat) : Int) 1)) _ _ s
  rw [places_gen]
  exact wpAny_pure h
theorem pick_gen (xs : Array Value) (i k : Nat) : ((List.range k).filterMap fun (m : Nat) => xs[((i : Int) + (m : Int) * 1).toNat]?).toArray = ((xs.toList.drop i).take k).toArray := by
  have e : (fun (m : Nat) => xs[((i : Int) + (m : Int) * 1).toNat]?) = fun m => xs[i + m]? := by
    funext m
    have : ((i : Int) + (m : Int) * 1).toNat = i + m := by omega
    rw [this]
  rw [e]
  have := pick_run xs i k
  rw [List.filterMap_map] at this
  have e2 : ((fun x => xs[x]?) ∘ fun x => i + x) = fun m => xs[i + m]? := rfl
  rw [e2] at this
  rw [this]

theorem getItem_tuple_cut {t sl : Addr} {items : Array Value} {vl vu : Value} {lo hi : Option Int} {Q : Value → Shared → Prop} (ht : IsTup s.heap t items) (hs : s.heap.IsSliceOf sl vl vu .none) (pl : IsPart vl lo) (pu : IsPart vu hi)
    (hw : ¬ (sIx items.size 0 lo = 0 ∧ sIx items.size items.size hi = items.size))
    (h : Q (.ref s.heap.objs.size) { s with heap := s.heap.push { cls := .type "tuple", data := .seq ((items.toList.drop (sIx items.size 0 lo)).take (sIx items.size items.size hi - sIx items.size 0 lo)).toArray } })
    (hsz : items.size ≤ sizeLine) : wpAny (model prog w) A (getItem (.ref t) (.ref sl)) Q E s := by
  have htake : sizeOk (.seq ((items.toList.drop (sIx items.size 0 lo)).take (sIx items.size items.size hi - sIx items.size 0 lo)).toArray) := by
    show ((items.toList.drop (sIx items.size 0 lo)).take (sIx items.size items.size hi - sIx items.size 0 lo)).toArray.size ≤ sizeLine
    rw [List.size_toArray, List.length_take, List.length_drop, Array.length_toList]
    omega
  have hj : sIx items.size items.size hi ≤ items.size := sIx_le _ _ (Nat.le_refl _) hi
  obtain ⟨os, hos, hcs, hds⟩ := id hs
  have hTs : s.TypeIs (.ref sl) "slice" := ⟨os, hos, hcs⟩
  unfold getItem
  try with_reducible refine wpAny_holding ?_
  first | refine wpAny_bind (wpAny_pure ?_) | skip
  refine wpAny_bind (wpAny_sequenceKey ht.typeIs (by decide) ?_)
  refine wpAny_bind (wpAny_callSpecial?_slot (name := Str.ofString "__getitem__") ht.typeIs PyProof.Rows.slot_tuple_getitem
    (wpAny_call_entry PyProof.Rows.slot_tuple_getitem ht.typeIs entry_tuple_getitem ?_ (args_tuple_getitem _ _)))
  show wpAny _ _ (Builtin.Tuple.tupleItemsOf (.ref t) >>= _) _ _ s
  refine wpAny_bind (tupleItemsOf_ ht ?_)
  refine wpAny_bind (wpAny_typeOf hTs ?_)
  rw [if_pos (by decide)]
  refine wpAny_bind (sliceApplied_gen hs pl pu ?_)
  have hno : ¬ ((((sIx items.size 0 lo : Nat) : Int) == 0 && (1 : Int) == 1 && (sIx items.size items.size hi - sIx items.size 0 lo) == items.size) = true) := by
    intro q
    rw [Bool.and_eq_true, Bool.and_eq_true] at q
    have q1 : ((sIx items.size 0 lo : Nat) : Int) = 0 := eq_of_beq q.1.1
    have q2 : sIx items.size items.size hi - sIx items.size 0 lo = items.size := eq_of_beq q.2
    exact hw ⟨by omega, by omega⟩
  show wpAny _ _ (if (((sIx items.size 0 lo : Nat) : Int) == 0 && (1 : Int) == 1 && (sIx items.size items.size hi - sIx items.size 0 lo) == items.size) = true then _ else _) _ _ s
  rw [if_neg hno, pick_gen]
  first
    | exact wpAny_bind (m := Builtin.Tuple.tupleExact _) (wpAny_newObj_type (wpAny_pure ⟨_, rfl, wpAny_pure h⟩) htake)
    | exact wpAny_bind (m := Builtin.Tuple.tupleExact _) (wpAny_newObj_type (wpAny_bind (wpAny_pure (wpAny_pure ⟨_, rfl, wpAny_pure h⟩))) htake)
    | exact wpAny_bind (wpAny_bind (m := Builtin.Tuple.tupleExact _) (wpAny_newObj_type (wpAny_pure (wpAny_pure ⟨_, rfl, wpAny_pure h⟩)) htake))
    | exact wpAny_bind (wpAny_bind (m := Builtin.Tuple.tupleExact _) (wpAny_newObj_type (wpAny_pure ⟨_, rfl, wpAny_pure h⟩) htake))
end
end HT

namespace L2
open PySem PySem.Spec PyProof.Rows

/-! ### the parts of a slice -/
abbrev TO := St → Hp → (Option Int → Hp → Prop) → Prop
/-- a slice's part (left out, or an int) -/
def PO (X : Cx) (e : Option Expr) (t : TO) : Prop :=
  ∀ (pins : List (Addr × Obj)) (s : Shared) (σ : St) (H : Hp) (Q : Option Int → Hp → Prop), Inv X pins σ H s → t σ H Q →
    wpAny (model X.prog X.w) X.A (evalPart e X.env) (fun u s' => ∃ o H', Inv X pins σ H' s' ∧ IsPart u o ∧ Q o H') X.xe s
def tNoPart : TO := fun _ H Q => Q none H
def tPart (t : TE) : TO := fun σ H Q => t σ H fun x H1 => ∃ i, x = .int i ∧ Q (some i) H1

section
variable {X : Cx} {e : Expr} {te : TE} {lo hi : Option Expr} {tl th : TO} {pos p2 : Pos}

theorem po_none : PO X none tNoPart := by
  intro pins s σ H Q I h
  rw [evalPart_none]
  exact wpAny_pure ⟨none, H, I, .none, h⟩
theorem po_some (h : PE X e te) : PO X (some e) (tPart te) := by
  intro pins s σ H Q I hw
  rw [evalPart_some]
  refine thn (h pins s σ H _ I hw) fun u s1 ⟨x, H1, I1, r1, q1⟩ => ?_
  obtain ⟨i, rfl, q⟩ := q1
  obtain ⟨t, rfl⟩ := r1
  exact ⟨some i, H1, I1, .int i t, q⟩

/-- what a slice of a value is, by values: the slice object stands at sl -/
def SlR (X : Cx) (r : V → Option Int → Option Int → Hp → VK → Prop) : Prop :=
  ∀ (pins : List (Addr × Obj)) (s : Shared) (σ : St) (H : Hp) (x : V) (v vl vu : Value) (lo hi : Option Int) (sl : Addr) (Q : VK), Inv X pins σ H s → RelV x v → s.heap.IsSliceOf sl vl vu .none → IsPart vl lo → IsPart vu hi → r x lo hi H Q →
    ∃ T id, typeLookup (.type T) "__getitem__" = pure (some (.builtin id)) ∧ s.TypeIs v T ∧ wpAny (model X.prog X.w) X.A (getItem v (.ref sl)) (EP X pins σ Q) X.xe s
theorem SlR.or {r r' : V → Option Int → Option Int → Hp → VK → Prop} (h : SlR X r) (h' : SlR X r') : SlR X (fun x lo hi H Q => r x lo hi H Q ∨ r' x lo hi H Q) := by
  intro pins s σ H x v vl vu lo hi sl Q I rx hs pl pu q
  rcases q with q | q
  · exact h pins s σ H x v vl vu lo hi sl Q I rx hs pl pu q
  · exact h' pins s σ H x v vl vu lo hi sl Q I rx hs pl pu q
def tSl (r : V → Option Int → Option Int → Hp → VK → Prop) (te : TE) (tl th : TO) : TE := fun σ H Q => te σ H fun x H1 => tl σ H1 fun l H2 => th σ H2 fun u H3 => r x l u H3 Q
/-- a[lo:hi], any a -/
theorem pe_slice {r : V → Option Int → Option Int → Hp → VK → Prop} (hr : SlR X r) (he : PE X e te) (hl : PO X lo tl) (hu : PO X hi th) : PE X (.Subscript e (.Slice lo hi none p2) pos) (tSl r te tl th) := by
  intro pins s σ H Q I h
  refine Subscript_ (thn (he pins s σ H _ I h) fun v s1 ⟨x, H1, I1, r1, q1⟩ => ?_)
  refine wpAny_Slice (thn (hl pins s1 σ H1 _ I1 q1) fun vl s2 ⟨l, H2, I2, pl, q2⟩ => thn (hu pins s2 σ H2 _ I2 q2) fun vu s3 ⟨u, H3, I3, pu, q3⟩ => ?_)
  rw [evalPart_none]
  refine wpAny_pure ?_
  have I4 : Inv X pins σ H3 { s3 with heap := s3.heap.push { cls := .type "slice", data := .fields #[vl, vu, .none] } } := I3.kept (t' := s3.toks) fun b ob q => Heap.get?_push_of_some _ q
  obtain ⟨T, id, hT, ht, hg⟩ := hr pins { s3 with heap := s3.heap.push { cls := .type "slice", data := .fields #[vl, vu, .none] } } σ H3 x v vl vu l u s3.heap.objs.size Q I4 r1 (Heap.IsSliceOf.new ..) pl pu q3
  show wpAny (model X.prog X.w) X.A (subscriptTail e (.Slice lo hi none p2) v (.ref s3.heap.objs.size)) (EP X pins σ Q) X.xe { s3 with heap := s3.heap.push { cls := .type "slice", data := .fields #[vl, vu, .none] } }
  exact tail_any (ops := [.ref s3.heap.objs.size, v]) ht hT hg (by with_unfolding_all rfl)

/-- the items of xs[lo:hi] -/
def cutV (xs : List V) (lo hi : Option Int) : List V := (xs.drop (HT.sIx xs.length 0 lo)).take (HT.sIx xs.length xs.length hi - HT.sIx xs.length 0 lo)
theorem cutV_length (xs : List V) (lo hi : Option Int) : (cutV xs lo hi).length ≤ xs.length := by
  unfold cutV
  rw [List.length_take, List.length_drop]
  omega
/-- t[lo:hi], not the whole of it (the whole would be t itself) -/
def rSlT (K : PySem.W.Frag) : V → Option Int → Option Int → Hp → VK → Prop := fun x lo hi H Q => ∃ a xs, x = .ref a ∧ SqT K H a xs ∧
  ¬ (HT.sIx xs.length 0 lo = 0 ∧ HT.sIx xs.length xs.length hi = xs.length) ∧ ∀ p, H p = none → Q (.ref p) (upd H p (.tup (cutV xs lo hi)))
theorem sl_tup : SlR X (rSlT X.K) := by
  intro pins s σ H x v vl vu lo hi sl Q I rx hs pl pu h
  obtain ⟨a, xs, rfl, hx, hw, q⟩ := h
  cases rx
  obtain ⟨its, r, ht, hz⟩ := I.tuple hx
  have hlen : its.toArray.size = xs.length := by rw [List.size_toArray]; exact r.length.symm
  refine ⟨"tuple", _, PyProof.Rows.slot_tuple_getitem.lookup, ht.typeIs, ?_⟩
  refine HT.getItem_tuple_cut ht hs pl pu (by rw [hlen]; exact hw) ?_ (by rw [hlen]; exact hz)
  rw [hlen]
  refine ⟨.ref s.heap.objs.size, _, I.laid (t' := s.toks) (o := .tup (cutV xs lo hi)) (fun b ob q => Heap.get?_push_of_some _ q) (Nat.le_refl _) ?_, rfl, q _ (I.hok.fresh (Nat.le_refl _))⟩
  exact ⟨Nat.le_trans (cutV_length xs lo hi) hz, _, (r.drop (HT.sIx xs.length 0 lo)).take (HT.sIx xs.length xs.length hi - HT.sIx xs.length 0 lo), IsTup.new _ _⟩

/-! ### t < u, t + u -/
/-- t + u, t not empty: u empty gives t itself -/
def rCatT (K : PySem.W.Frag) : R2 := fun x y H Q => ∃ a b xs ys, x = .ref a ∧ y = .ref b ∧ SqT K H a xs ∧ SqT K H b ys ∧ xs ≠ [] ∧ xs.length + ys.length ≤ sizeLine ∧
  (ys = [] → Q (.ref a) H) ∧ (ys ≠ [] → ∀ p, H p = none → Q (.ref p) (upd H p (.tup (xs ++ ys))))
theorem Vals.nil_iff {xs : List V} {us : List Value} (r : Vals xs us) : us = [] ↔ xs = [] := by
  cases r with
  | nil => simp
  | cons _ _ => simp
theorem op_catT : OpR X (binaryOp .Add) (rCatT X.K) := by
  intro pins s σ H x y v u Q I rx ry h
  obtain ⟨a, b, xs, ys, rfl, rfl, ha, hb, hx, hz, q1, q2⟩ := h
  cases rx
  cases ry
  obtain ⟨its, r1, p1, _⟩ := I.tuple ha
  obtain ⟨its2, r2, p2, _⟩ := I.tuple hb
  refine HT.cat_tup p1 p2 (fun z => hx (r1.nil_iff.mp z)) (fun z => ⟨.ref a, H, I, rfl, q1 (r2.nil_iff.mp z)⟩) (fun z => ?_) (by rw [← r1.length, ← r2.length]; exact hz)
  refine ⟨.ref s.heap.objs.size, _, I.laid (t' := s.toks) (o := .tup (xs ++ ys)) (fun b ob q => Heap.get?_push_of_some _ q) (Nat.le_refl _) ?_, rfl, q2 (fun w => z (r2.nil_iff.mpr w)) _ (I.hok.fresh (Nat.le_refl _))⟩
  exact ⟨by rw [List.length_append]; exact hz, _, r1.append r2, IsTup.new _ _⟩
end
end L2

namespace L2
open PySem PySem.Spec PyProof.Rows

/-! ### places -/
/-- the place that an index of any sign means -/
def ixN (n : Nat) (i : Int) : Option Nat := if 0 ≤ i then (if i < n then some i.toNat else none) else if -(n : Int) ≤ i then some (i + n).toNat else none
def atI {α : Type} (xs : List α) (i : Int) : Option α := (ixN xs.length i).bind fun j => xs[j]?
theorem ixN_seq {n : Nat} {i : Int} {j : Nat} (h : ixN n i = some j) : seqIndex? i n = some j ∧ j < n ∧ -(n : Int) ≤ i ∧ i < n := by
  unfold ixN at h
  by_cases h0 : 0 ≤ i
  · rw [if_pos h0] at h
    by_cases h1 : i < n
    · rw [if_pos h1] at h
      have e : i.toNat = j := Option.some.inj h
      exact ⟨by rw [seqIndex_of h0 h1, e], by omega, by omega, h1⟩
    · rw [if_neg h1] at h; cases h
  · rw [if_neg h0] at h
    by_cases h1 : -(n : Int) ≤ i
    · rw [if_pos h1] at h
      have e : (i + n).toNat = j := Option.some.inj h
      exact ⟨by rw [seqIndex_neg (by omega) h1, e], by omega, h1, by omega⟩
    · rw [if_neg h1] at h; cases h
theorem atI_get {α : Type} {xs : List α} {i : Int} {v : α} (h : atI xs i = some v) : ∃ j, seqIndex? i xs.length = some j ∧ xs[j]? = some v ∧ j < xs.length ∧ -(xs.length : Int) ≤ i ∧ i < xs.length := by
  unfold atI at h
  cases e : ixN xs.length i with
  | none => rw [e] at h; cases h
  | some j =>
    rw [e] at h
    obtain ⟨h1, h2, h3, h4⟩ := ixN_seq e
    exact ⟨j, h1, h, h2, h3, h4⟩
theorem atI_nat {α : Type} {xs : List α} {j : Nat} {v : α} (h : xs[j]? = some v) : atI xs (j : Int) = some v := by
  have hj : j < xs.length := (List.getElem?_eq_some_iff.mp h).1
  have e : ixN xs.length (j : Int) = some j := by
    unfold ixN
    rw [if_pos (by omega), if_pos (by omega)]; simp
  unfold atI; rw [e]; exact h
theorem atI_last {α : Type} (xs : List α) (v : α) : atI (xs ++ [v]) (-1) = some v := by
  have hl : (xs ++ [v]).length = xs.length + 1 := by simp
  have e : ixN (xs ++ [v]).length (-1) = some xs.length := by
    unfold ixN
    rw [hl, if_neg (by decide), if_pos (by omega)]
    congr 1
    omega
  unfold atI
  rw [e]
  show (xs ++ [v])[xs.length]? = some v
  simp

/-! ### what may be subscripted -/
/-- what stands as an index of a plain subscript -/
def PlainIx (b : Expr) : Prop := ∀ o i, subscripted b false o i = operate [o, i] (getItem o i)
/-- a subscript by values -/
def IxR (X : Cx) (r : R2) : Prop :=
  ∀ (value slice : Expr) (pins : List (Addr × Obj)) (s : Shared) (σ : St) (H : Hp) (x y : V) (v u : Value) (Q : VK), Inv X pins σ H s → RelV x v → RelV y u → r x y H Q →
    subscripted slice false v u = operate [v, u] (getItem v u) → wpAny (model X.prog X.w) X.A (subscriptTail value slice v u) (EP X pins σ Q) X.xe s
/-- a call of a builtin's method by values: the receiver, the arguments -/
def MtR (X : Cx) (id : String) (r : V → List V → Hp → VK → Prop) : Prop :=
  ∀ (pins : List (Addr × Obj)) (s : Shared) (σ : St) (H : Hp) (x : V) (xs : List V) (v : Value) (us : List Value) (Q : VK), Inv X pins σ H s → RelV x v → Vals xs us → r x xs H Q →
    wpAny (model X.prog X.w) X.A (call (.builtin id) (v :: us)) (EP X pins σ Q) X.xe s
section
variable {X : Cx} {a b : Expr} {ta tb : TE} {pos : Pos}
theorem IxR.or {r r' : R2} (h : IxR X r) (h' : IxR X r') : IxR X (fun x y H Q => r x y H Q ∨ r' x y H Q) := by
  intro value slice pins s σ H x y v u Q I rx ry q hs
  rcases q with q | q
  · exact h value slice pins s σ H x y v u Q I rx ry q hs
  · exact h' value slice pins s σ H x y v u Q I rx ry q hs
/-- a[b] -/
theorem pe_ix {r : R2} (hr : IxR X r) (ha : PE X a ta) (hb : PE X b tb) (hs : PlainIx b) : PE X (.Subscript a b pos) (tOp r ta tb) := by
  intro pins s σ H Q I h
  exact Subscript_ (binT ha hb I h fun v u s2 x y H2 I2 rx ry q => hr a b pins s2 σ H2 x y v u Q I2 rx ry q (hs _ _))

def rIxL (K : PySem.W.Frag) : R2 := fun x y H Q => ∃ p xs i v, x = .ref p ∧ y = .int i ∧ SqL K H p xs ∧ atI xs i = some v ∧ Q v H
def rIxT (K : PySem.W.Frag) : R2 := fun x y H Q => ∃ p xs i v, x = .ref p ∧ y = .int i ∧ SqT K H p xs ∧ atI xs i = some v ∧ Q v H
def rIxS : R2 := fun x y H Q => ∃ z i c, x = .str z ∧ y = .int i ∧ z.length ≤ sizeLine ∧ atI z.cps.toList i = some c ∧ Q (.str ⟨#[c]⟩) H
theorem ix_list : IxR X (rIxL X.K) := by
  intro value slice pins s σ H x y v u Q I rx ry h hs
  obtain ⟨p, xs, i, z, rfl, rfl, hq, he, q⟩ := h
  cases rx
  obtain ⟨t, rfl⟩ := ry
  obtain ⟨its, r, pl, hz⟩ := I.list hq
  obtain ⟨j, h1, h2, h3, h4, h5⟩ := atI_get he
  obtain ⟨w, ew, rw'⟩ := r.get h2
  have hl := r.length
  have hn := line63
  have fin : EP X pins σ Q w s := ⟨z, H, I, rw', q⟩
  by_cases h0 : 0 ≤ i
  · have hj : i.toNat = j := by
      rw [seqIndex_of h0 h5] at h1
      exact Option.some.inj h1
    exact item_listR pl.isList h0 (by omega) (by rw [hj]; simpa using ew) fin hs
  · have hj : (i + (its.toArray.size : Int)).toNat = j := by
      rw [seqIndex_neg (by omega) h4] at h1
      rw [List.size_toArray, ← hl]
      exact Option.some.inj h1
    exact subscriptTail_builtinR (x := w) pl.isList.typeIs slot_list_getitem.lookup
      (wpAny_getItem_list_neg (Q := fun r s' => r = w ∧ EP X pins σ Q r s') pl.isList (by omega) (by rw [List.size_toArray] <;> omega) (by omega) (by rw [hj]; simpa using ew) ⟨rfl, fin⟩) hs
theorem ix_tup : IxR X (rIxT X.K) := by
  intro value slice pins s σ H x y v u Q I rx ry h hs
  obtain ⟨p, xs, i, z, rfl, rfl, hq, he, q⟩ := h
  cases rx
  obtain ⟨t, rfl⟩ := ry
  obtain ⟨its, r, pl, hz⟩ := I.tuple hq
  obtain ⟨j, h1, h2, h3, h4, h5⟩ := atI_get he
  obtain ⟨w, ew, rw'⟩ := r.get h2
  have hl := r.length
  have hn := line63
  have fin : EP X pins σ Q w s := ⟨z, H, I, rw', q⟩
  exact subscriptTail_builtinR (x := w) pl.typeIs slot_tuple_getitem.lookup
    (getItem_tuple (j := j) (Q := fun r s' => r = w ∧ EP X pins σ Q r s') pl (by omega) (by omega) (by rw [List.size_toArray, ← hl]; exact h1) (by simpa using ew) ⟨rfl, fin⟩) hs
theorem ix_str : IxR X rIxS := by
  intro value slice pins s σ H x y v u Q I rx ry h hs
  obtain ⟨z, i, c, rfl, rfl, hz, he, q⟩ := h
  obtain ⟨t, rfl⟩ := rx
  obtain ⟨t', rfl⟩ := ry
  obtain ⟨j, h1, h2, h3, h4, h5⟩ := atI_get he
  have hl : z.cps.toList.length = z.length := by simp [Str.length]
  rw [hl] at h1 h4 h5
  have hn := line63
  exact tail_any (typeIs_str s z t) slot_str_getitem.lookup (getItem_str (c := c) (by
    have e1 : decide (i < -(2 ^ 63 : Int)) = false := decide_eq_false (by omega)
    have e2 : decide (i ≥ 2 ^ 63) = false := decide_eq_false (by omega)
    rw [e1, e2, Bool.or_false]) (by rw [h1]; simpa using h2) ⟨.str ⟨#[c]⟩, H, I.tok _, ⟨_, rfl⟩, q⟩) hs
/-- list, tuple or str -/
def rIx (K : PySem.W.Frag) : R2 := fun x y H Q => rIxL K x y H Q ∨ rIxT K x y H Q ∨ rIxS x y H Q
theorem ix_seq : IxR X (rIx X.K) := ix_list.or (ix_tup.or ix_str)

/-! ### xs[i] = v, any sign -/
/-! ### slices -/
theorem slice_bounds (lo hi : Option Int) (n : Nat) : (sliceBounds lo hi none n).1 = ((HT.sIx n 0 lo : Nat) : Int) ∧ (sliceBounds lo hi none n).2.1 = ((HT.sIx n n hi : Nat) : Int) ∧ (sliceBounds lo hi none n).2.2 = 1 := by
  refine ⟨?_, ?_, rfl⟩
  · cases lo with
    | none => simp [sliceBounds, HT.sIx]
    | some i =>
      simp only [sliceBounds, HT.sIx, Option.getD_none, show (1 : Int) > 0 by decide, if_true]
      by_cases h : i < 0
      · simp only [h, if_true] <;> omega
      · simp only [h, if_false] <;> omega
  · cases hi with
    | none => simp [sliceBounds, HT.sIx]
    | some i =>
      simp only [sliceBounds, HT.sIx, Option.getD_none, show (1 : Int) > 0 by decide, if_true]
      by_cases h : i < 0
      · simp only [h, if_true] <;> omega
      · simp only [h, if_false] <;> omega
theorem slicePick_cut (its : List Value) (lo hi : Option Int) : slicePick its.toArray lo hi none = ((its.drop (HT.sIx its.length 0 lo)).take (HT.sIx its.length its.length hi - HT.sIx its.length 0 lo)).toArray := by
  obtain ⟨h1, h2, h3⟩ := slice_bounds lo hi its.toArray.size
  unfold slicePick
  rw [h1, h2, h3]
  simp only [sliceRange_one, pick_run, List.size_toArray] <;> rfl
/-- xs[lo:hi] of a list: a new list -/
def rSlL (K : PySem.W.Frag) : V → Option Int → Option Int → Hp → VK → Prop := fun x lo hi H Q => ∃ a xs, x = .ref a ∧ SqL K H a xs ∧ ∀ p, H p = none → Q (.ref p) (upd H p (.lst (cutV xs lo hi)))
theorem sl_list : SlR X (rSlL X.K) := by
  intro pins s σ H x v vl vu lo hi sl Q I rx hs pl pu h
  obtain ⟨a, xs, rfl, hx, q⟩ := h
  cases rx
  obtain ⟨its, r, ht, hz⟩ := I.list hx
  have hlen := r.length
  refine ⟨"list", _, slot_list_getitem.lookup, ht.isList.typeIs, ?_⟩
  refine wpAny_getItem_list_slice ht.isList hs pl pu .none (by simp) ?_ (by rw [List.size_toArray] <;> omega)
  rw [slicePick_cut, ← hlen]
  refine ⟨.ref s.heap.objs.size, _, I.laid (t' := s.toks) (o := .lst (cutV xs lo hi)) (fun b ob q => Heap.get?_push_of_some _ q) (Nat.le_refl _) ?_, rfl, q _ (I.hok.fresh (Nat.le_refl _))⟩
  exact ⟨Nat.le_trans (cutV_length xs lo hi) hz, _, 0, (r.drop (HT.sIx xs.length 0 lo)).take (HT.sIx xs.length xs.length hi - HT.sIx xs.length 0 lo), Heap.get?_push_size _ rfl⟩

/-! ### in, not in: flat items -/
def flatV : V → Bool
  | .non => true
  | .bl _ => true
  | .int _ => true
  | .str _ => true
  | _ => false
/-- == of flat values -/
def eqV : V → V → Bool
  | .non, .non => true
  | .bl a, .bl b => a == b
  | .bl a, .int b => (if a then 1 else 0) == b
  | .int a, .bl b => a == (if b then 1 else 0)
  | .int a, .int b => a == b
  | .str a, .str b => a == b
  | _, _ => false
theorem eqAt_V {A : Around} {s : Shared} {y x : V} {u v : Value} (ry : RelV y u) (rx : RelV x v) (fy : flatV y = true) (fx : flatV x = true) : SeqAt.EqAt A s u v (eqV y x) := by
  cases y with
  | non =>
    cases ry
    cases x with
    | non => cases rx; exact SeqAt.EqAt.same _
    | bl b => cases rx; exact SeqAt.EqAt.none_bool b
    | int b => obtain ⟨t, rfl⟩ := rx; exact SeqAt.EqAt.none_int b t
    | str b => obtain ⟨t, rfl⟩ := rx; exact SeqAt.EqAt.none_str b t
    | _ => exact absurd (show false = true from fx) Bool.false_ne_true
  | bl a =>
    cases ry
    cases x with
    | non => cases rx; exact SeqAt.EqAt.bool_none a
    | bl b => cases rx; exact SeqAt.EqAt.bool_bool a b
    | int b => obtain ⟨t, rfl⟩ := rx; exact SeqAt.EqAt.bool_int a b t
    | str b => obtain ⟨t, rfl⟩ := rx; exact SeqAt.EqAt.bool_str a b t
    | _ => exact absurd (show false = true from fx) Bool.false_ne_true
  | int a =>
    obtain ⟨t', rfl⟩ := ry
    cases x with
    | non => cases rx; exact SeqAt.EqAt.int_none a t'
    | bl b => cases rx; exact SeqAt.EqAt.int_bool a t' b
    | int b => obtain ⟨t, rfl⟩ := rx; exact SeqAt.EqAt.int_int a t' b t
    | str b => obtain ⟨t, rfl⟩ := rx; exact SeqAt.EqAt.int_str a t' b t
    | _ => exact absurd (show false = true from fx) Bool.false_ne_true
  | str a =>
    obtain ⟨t', rfl⟩ := ry
    cases x with
    | non => cases rx; exact SeqAt.EqAt.str_none a t'
    | bl b => cases rx; exact SeqAt.EqAt.str_bool a t' b
    | int b => obtain ⟨t, rfl⟩ := rx; exact SeqAt.EqAt.str_int a t' b t
    | str b => obtain ⟨t, rfl⟩ := rx; exact SeqAt.EqAt.str_str a t' b t
    | _ => exact absurd (show false = true from fx) Bool.false_ne_true
  | _ => exact absurd (show false = true from fy) Bool.false_ne_true
/-- the items' answers, read off the values (a value's own answer does not lean on its token) -/
def eqU (x : V) (u : Value) : Bool := match u with
  | .none => eqV .non x
  | .bool b => eqV (.bl b) x
  | .int i _ => eqV (.int i) x
  | .str z _ => eqV (.str z) x
  | _ => false
theorem eqU_of {x y : V} {u : Value} (r : RelV y u) (f : flatV y = true) : eqU x u = eqV y x := by
  cases y with
  | non => cases r; rfl
  | bl b => cases r; rfl
  | int i => obtain ⟨t, rfl⟩ := r; rfl
  | str z => obtain ⟨t, rfl⟩ := r; rfl
  | _ => exact absurd (show false = true from f) Bool.false_ne_true
theorem any_eqU {x : V} : ∀ {xs : List V} {us : List Value}, Vals xs us → xs.all flatV = true → us.any (eqU x) = xs.any fun y => eqV y x
  | _, _, .nil, _ => rfl
  | y :: xs, u :: us, .cons r t, f => by
    rw [List.all_cons, Bool.and_eq_true] at f
    rw [List.any_cons, List.any_cons, eqU_of r f.1, any_eqU t f.2]
theorem mem_eqAt {A : Around} {s : Shared} {x : V} {v : Value} (rx : RelV x v) (fx : flatV x = true) : ∀ {xs : List V} {us : List Value}, Vals xs us → xs.all flatV = true → ∀ u ∈ us, SeqAt.EqAt A s u v (eqU x u)
  | _, _, .nil, _ => fun u hu => by cases hu
  | y :: xs, u :: us, .cons r t, f => fun u' hu => by
    rw [List.all_cons, Bool.and_eq_true] at f
    rcases List.mem_cons.mp hu with rfl | hu
    · rw [eqU_of r f.1]; exact eqAt_V r rx f.1 fx
    · exact mem_eqAt rx fx t f.2 u' hu
def inV (x : V) (xs : List V) : Bool := xs.any fun y => eqV y x
/-- x in a list or tuple of flat items -/
def rIn (K : PySem.W.Frag) (neg : Bool) : R2 := fun x y H Q => ∃ p xs, y = .ref p ∧ (SqL K H p xs ∨ SqT K H p xs) ∧ flatV x = true ∧ xs.all flatV = true ∧ Q (.bl (if neg then !inV x xs else inV x xs)) H
theorem op_in_seq : OpR X (compareOp .In) (rIn X.K false) := by
  intro pins s σ H x y v u Q I rx ry h
  obtain ⟨p, xs, rfl, hq, fx, fs, q⟩ := h
  cases ry
  rcases hq with hq | hq
  · obtain ⟨its, r, pl, hz⟩ := I.list hq
    refine SeqAt.in_listAt (eqU x) pl.isList (fun w hw => mem_eqAt rx fx r fs w (by simpa using hw)) ⟨.bl _, H, I, rfl, ?_⟩
    rw [show its.toArray.any (eqU x) = its.any (eqU x) by simp, any_eqU r fs]
    exact q
  · obtain ⟨its, r, pl, hz⟩ := I.tuple hq
    refine SeqAt.in_tupleAt (eqU x) pl (fun w hw => mem_eqAt rx fx r fs w (by simpa using hw)) ⟨.bl _, H, I, rfl, ?_⟩
    rw [show its.toArray.any (eqU x) = its.any (eqU x) by simp, any_eqU r fs]
    exact q
theorem op_notIn_seq : OpR X (compareOp .NotIn) (rIn X.K true) := by
  intro pins s σ H x y v u Q I rx ry h
  obtain ⟨p, xs, rfl, hq, fx, fs, q⟩ := h
  cases ry
  rcases hq with hq | hq
  · obtain ⟨its, r, pl, hz⟩ := I.list hq
    refine SeqAt.notIn_listAt (eqU x) pl.isList (fun w hw => mem_eqAt rx fx r fs w (by simpa using hw)) ⟨.bl _, H, I, rfl, ?_⟩
    rw [show its.toArray.any (eqU x) = its.any (eqU x) by simp, any_eqU r fs]
    exact q
  · obtain ⟨its, r, pl, hz⟩ := I.tuple hq
    refine SeqAt.notIn_tupleAt (eqU x) pl (fun w hw => mem_eqAt rx fx r fs w (by simpa using hw)) ⟨.bl _, H, I, rfl, ?_⟩
    rw [show its.toArray.any (eqU x) = its.any (eqU x) by simp, any_eqU r fs]
    exact q
theorem op_notIn_str : OpR X (compareOp .NotIn) (fun x y H Q => ∃ i j, x = .str i ∧ y = .str j ∧ Q (.bl (!(!(Builtin.Str.occurrences j i 0 j.length 1).isEmpty))) H) := by
  intro pins s σ H x y v u Q I rx ry h
  obtain ⟨i, j, rfl, rfl, q⟩ := h
  obtain ⟨t, rfl⟩ := rx
  obtain ⟨t', rfl⟩ := ry
  exact notIn_str ⟨.bl _, H, I, rfl, q⟩

/-! ### len, list(x), tuple(x) of any list or tuple that is read -/
theorem call_len_seq : CallR X (.builtin "len") (fun xs H Q => ∃ p ys, xs = [.ref p] ∧ (SqL X.K H p ys ∨ SqT X.K H p ys) ∧ Q (.int ys.length) H) := by
  intro pins s σ H xs us Q I r h
  obtain ⟨p, ys, rfl, hq, q⟩ := h
  obtain ⟨u, rfl, rx⟩ := vals1 r
  cases rx
  have hn := line63
  rcases hq with hq | hq
  · obtain ⟨its, r', pl, hz⟩ := I.list hq
    have hlen := r'.length
    exact Calls.call_len_list pl.isList (by simp only [List.size_toArray] <;> omega) ⟨.int ys.length, H, I.tok _, ⟨s.toks + 1, by rw [List.size_toArray, hlen]⟩, q⟩
  · obtain ⟨its, r', pl, hz⟩ := I.tuple hq
    have hlen := r'.length
    exact len_tuple pl (by simp only [List.size_toArray] <;> omega) ⟨.int ys.length, H, I.tok _, ⟨s.toks + 1, by rw [List.size_toArray, hlen]⟩, q⟩
theorem call_len_str : CallR X (.builtin "len") (fun xs H Q => ∃ z, xs = [.str z] ∧ z.length ≤ sizeLine ∧ Q (.int z.length) H) := by
  intro pins s σ H xs us Q I r h
  obtain ⟨z, rfl, hz, q⟩ := h
  obtain ⟨u, rfl, t, rfl⟩ := vals1 r
  have hn := line63
  exact len_str (by omega) ⟨.int z.length, H, I.tok _, ⟨_, rfl⟩, q⟩
theorem CallR.or {f : Value} {r r' : List V → Hp → VK → Prop} (h : CallR X f r) (h' : CallR X f r') : CallR X f (fun xs H Q => r xs H Q ∨ r' xs H Q) := by
  intro pins s σ H xs us Q I rs q
  rcases q with q | q
  · exact h pins s σ H xs us Q I rs q
  · exact h' pins s σ H xs us Q I rs q
/-! ### the call of a builtin's method: o.m(..) -/
/-- the value is of that builtin type -/
def tyV (K : PySem.W.Frag) (T : String) (x : V) (H : Hp) : Prop := match x with
  | .str _ => T = "str"
  | .int _ => T = "int"
  | .ref p => (T = "list" ∧ ∃ xs, SqL K H p xs) ∨ (T = "tuple" ∧ ∃ o, K.lookup p = some o ∧ o.cls = .type "tuple" ∧ o.dict = none) ∨
      (T = "dict" ∧ ((∃ kvs, H p = some (.dK kvs)) ∨ ∃ kvs, H p = some (.dT kvs))) ∨ (T = "set" ∧ ∃ S n, H p = some (.set S n))
  | _ => False
theorem tyV_is {pins : List (Addr × Obj)} {σ : St} {H : Hp} {s : Shared} {T : String} {x : V} {v : Value} (I : Inv X pins σ H s) (r : RelV x v) (ty : tyV X.K T x H) :
    s.TypeIs v T ∧ ∀ a, v = .ref a → ∃ ob, s.heap.get? a = some ob ∧ ob.dict = none := by
  cases x with
  | str z =>
    obtain ⟨t, rfl⟩ := r
    cases (show T = "str" from ty)
    exact ⟨typeIs_str s z t, fun _ e => nomatch e⟩
  | int i =>
    obtain ⟨t, rfl⟩ := r
    cases (show T = "int" from ty)
    exact ⟨typeIs_int s i t, fun _ e => nomatch e⟩
  | ref p =>
    cases r
    rcases ty with ⟨rfl, xs, hq⟩ | ⟨rfl, o, hk, hc, hd⟩ | ⟨rfl, hk⟩ | ⟨rfl, S, n, hk⟩
    · obtain ⟨its, _, pl, _⟩ := I.list hq
      refine ⟨pl.isList.typeIs, fun a e => ?_⟩
      cases e
      obtain ⟨o, n, e, c, hd, _⟩ := pl
      exact ⟨o, e, hd⟩
    · refine ⟨⟨o, I.kIn p o hk, hc⟩, fun a e => ?_⟩
      cases e
      exact ⟨o, I.kIn _ o hk, hd⟩
    · have z : ∃ o, s.heap.get? p = some o ∧ o.ExactDict := by
        rcases hk with ⟨kvs, hk⟩ | ⟨kvs, hk⟩
        · obtain ⟨_, _, _, _, o, _, _, e, ex, _⟩ := I.hok p _ hk
          exact ⟨o, e, ex⟩
        · obtain ⟨_, _, _, _, o, _, _, e, ex, _⟩ := I.hok p _ hk
          exact ⟨o, e, ex⟩
      obtain ⟨o, e, ex⟩ := z
      refine ⟨⟨o, e, ex.1⟩, fun a e2 => ?_⟩
      cases e2
      exact ⟨o, e, ex.2.1⟩
    · obtain ⟨o, _, _, _, e, ex, _⟩ := I.hok p _ hk
      refine ⟨⟨o, e, ex.1⟩, fun a e2 => ?_⟩
      cases e2
      exact ⟨o, e, ex.2.1⟩
  | _ => exact False.elim ty
def tBM0 (K : PySem.W.Frag) (T : String) (r : V → List V → Hp → VK → Prop) (to : TE) : TE := fun σ H Q => to σ H fun x H1 => tyV K T x H1 ∧ r x [] H1 Q
def tBM (K : PySem.W.Frag) (T : String) (r : V → List V → Hp → VK → Prop) (to : TE) (t : TA) : TE := fun σ H Q => to σ H fun x H1 => tyV K T x H1 ∧ t σ H1 fun xs H2 => r x xs H2 Q
variable {o e : Expr} {es : List Expr} {to : TE} {t : TA} {name : Str} {apos cpos : Pos} {T id : String} {r : V → List V → Hp → VK → Prop}
theorem pe_bm0 (pa : PlainAttrs T) (slot : Slot T name id) (hty : typeOf (.builtin id) = pure (.type "method_descriptor")) (hm : MtR X id r) (ho : PE X o to)
    (hbase : attributeBase o name X.env (eval o X.env) = eval o X.env := by rfl) (hline : (apos.endLine == cpos.line) = true := by rfl) : PE X (.Call (.Attribute o name apos) [] [] cpos) (tBM0 X.K T r to) := by
  intro pins s σ H Q I h
  refine wpAny_Call_method0_late hbase hline (thn (ho pins s σ H _ I h) fun v s1 ⟨x, H1, I1, r1, ty, q1⟩ => ?_)
  obtain ⟨h1, h2⟩ := tyV_is I1 r1 ty
  exact ⟨T, id, pa, slot, hty, h1, h2, Calls.callWith_builtin rfl (PySem.evalArgs_none (hm pins s1 σ H1 x [] v [] Q I1 r1 .nil q1))⟩
theorem pe_bm (pa : PlainAttrs T) (slot : Slot T name id) (hty : typeOf (.builtin id) = pure (.type "method_descriptor")) (hm : MtR X id r) (ho : PE X o to) (ha : PA X (e :: es) t)
    (hbase : attributeBase o name X.env (eval o X.env) = eval o X.env := by rfl)
    (hfew : ((backTo cpos (starEach (e :: es) X.env)).all (fun x => !x.1) && (backToKw cpos (keywordEach [] X.env)).all (fun x => x.1.isSome)
      && decide ((e :: es).length + ([] : List Keyword).length + (if ([] : List Keyword).isEmpty then 0 else 1) < 30)) = true := by rfl)
    (hline : (apos.endLine == cpos.line) = true := by rfl) (hs : starEach (e :: es) X.env = (false, eval e X.env) :: starEach es X.env := by rfl) (hplain : (backTo cpos (starEach es X.env)).any (·.1) = false := by rfl) :
    PE X (.Call (.Attribute o name apos) (e :: es) [] cpos) (tBM X.K T r to t) := by
  intro pins s σ H Q I h
  refine wpAny_Call_method_late hbase hfew hline rfl (thn (ho pins s σ H _ I h) fun v s1 ⟨x, H1, I1, r1, ty, q1⟩ => ?_)
  obtain ⟨h1, h2⟩ := tyV_is I1 r1 ty
  refine ⟨T, id, pa, slot, hty, h1, h2, ?_⟩
  have hA := ha cpos pins s1 σ H1 _ I1 q1
  rw [hs] at hA ⊢
  refine Calls.callWith_builtin (by show (false || (backTo cpos (starEach es X.env)).any (·.1)) = false; rw [hplain] <;> rfl) (Calls.evalArgs_plain ?_)
  exact thn hA fun us s2 ⟨vs, H2, I2, r2, q2⟩ => hm pins s2 σ H2 x vs v us Q I2 r1 r2 q2
/- xs.append(e), list.index on a module's tuple .. are MtR facts of 06m -/
end
end L2

namespace L2
open PySem PySem.Spec PyProof.Rows

def MtM (X : Cx) (id : String) (r : V → List V → Hp → VK → Prop) : Prop :=
  ∀ (pins : List (Addr × Obj)) (s : Shared) (σ : St) (H : Hp) (x : V) (xs : List V) (v : Value) (us : List Value) (Q : VK), Inv X pins σ H s → RelV x v → Vals xs us → r x xs H Q →
    wpAny (model X.prog X.w) X.A (call (.builtin id) (v :: us)) (EP X pins σ Q) X.xe s

/-! ### lists of values -/
theorem Vals.one : ∀ {x : V} {us : List Value}, Vals [x] us → ∃ u, us = [u] ∧ RelV x u
  | _, _, .cons r .nil => ⟨_, rfl, r⟩
theorem Vals.zero : ∀ {us : List Value}, Vals [] us → us = []
  | _, .nil => rfl
theorem Vals.dropLast {xs : List V} {us : List Value} (h : Vals xs us) : Vals xs.dropLast us.dropLast := by
  induction h with
  | nil => exact .nil
  | cons r t ih =>
    cases t with
    | nil => exact .nil
    | cons q t' => exact .cons r ih
theorem Vals.rep {xs : List V} {us : List Value} (h : Vals xs us) : ∀ k : Nat, Vals (List.replicate k xs).flatten (List.replicate k us).flatten
  | 0 => .nil
  | k + 1 => by
    rw [List.replicate_succ, List.replicate_succ, List.flatten_cons, List.flatten_cons]
    exact Vals.append h (Vals.rep h k)
theorem erase_last {α : Type} (l : List α) : l.eraseIdx (l.length - 1) = l.dropLast := by
  induction l with
  | nil => rfl
  | cons a r ih =>
    cases r with
    | nil => rfl
    | cons b r =>
      have e : (a :: b :: r).length - 1 = ((b :: r).length - 1) + 1 := by
        have h1 : (a :: b :: r).length = r.length + 2 := rfl
        have h2 : (b :: r).length = r.length + 1 := rfl
        omega
      rw [e, List.eraseIdx_cons_succ, ih]
      all_goals rfl
theorem foldl_rep (its : List Value) : ∀ (k : Nat) (acc : List Value),
    List.foldl (fun x1 x2 => x1 ++ x2) acc.toArray (List.replicate k its.toArray) = (acc ++ (List.replicate k its).flatten).toArray
  | 0, acc => by simp
  | k + 1, acc => by
    have e : acc.toArray ++ its.toArray = (acc ++ its).toArray := by simp
    have e2 : (acc ++ its) ++ (List.replicate k its).flatten = acc ++ (List.replicate (k + 1) its).flatten := by
      rw [List.replicate_succ, List.flatten_cons, List.append_assoc]
    rw [← e2, ← foldl_rep its k (acc ++ its), ← e, List.replicate_succ, List.foldl_cons]

section
variable {X : Cx} {pins : List (Addr × Obj)} {σ : St} {H : Hp} {s : Shared} {l b : Addr} {xs ys zs : List V}

/-! ### the two steps: a tracked list is rewritten, a new list is laid -/
theorem Inv.lset {its its' : List Value} {n : Nat} {f : Array Value → Array Value} {t' : Nat} (I : Inv X pins σ H s) (hH : H l = some (.lst xs))
    (e : s.heap.get? l = some { cls := .type "list", data := .seq its.toArray n }) (hf : f its.toArray = its'.toArray) (hv : Vals ys its') (hz : ys.length ≤ sizeLine) :
    Inv X pins σ (upd H l (.lst ys)) { s with heap := s.heap.update l (Obj.mapSeq f), toks := t' } := by
  have q := PySem.IsL.update e f
  rw [hf] at q
  refine I.write (x := l) (e := l) (by rw [hH]; exact trivial) (.inl rfl) (fun b' u hb hu => (Heap.get?_update_other s.heap (Obj.mapSeq f) (Ne.symm hb)).trans hu) ⟨_, q⟩ ?_
  exact ⟨hz, its', _, hv, q⟩
theorem Inv.lnew {its : List Value} {t' : Nat} (I : Inv X pins σ H s) (hv : Vals ys its) (hz : ys.length ≤ sizeLine) :
    Inv X pins σ (upd H s.heap.objs.size (.lst ys)) { s with heap := s.heap.push { cls := .type "list", data := .seq its.toArray }, toks := t' } :=
  I.laid (fun _ _ q => Heap.get?_push_of_some _ q) (Nat.le_refl _) ⟨hz, its, 0, hv, Heap.get?_push_size _ rfl⟩
theorem Inv.fresh (I : Inv X pins σ H s) : H s.heap.objs.size = none := I.hok.fresh (Nat.le_refl _)
theorem Inv.lstM (I : Inv X pins σ H s) (hH : H l = some (.lst xs)) : xs.length ≤ sizeLine ∧ ∃ (its : List Value) (n : Nat), Vals xs its ∧ xs.length = its.length ∧ s.heap.get? l = some { cls := .type "list", data := .seq its.toArray n } := by
  obtain ⟨z, its, n, r, e⟩ := I.hok l _ hH
  exact ⟨z, its, n, r, r.length, e⟩

theorem notLongL {n : Nat} (h : n ≤ sizeLine) : Builtin.List.listTooLong n = false := by
  unfold Builtin.List.listTooLong
  exact decide_eq_false (by omega)
end

section
variable {X : Cx}

/-! ### methods -/
def rAppend : V → List V → Hp → VK → Prop := fun x vs H Q => ∃ l xs y, x = .ref l ∧ vs = [y] ∧ H l = some (.lst xs) ∧ xs.length < sizeLine ∧ Q .non (upd H l (.lst (xs ++ [y])))
theorem mt_append : MtM X "list.append" rAppend := by
  intro pins s σ H x vs v us Q I rx rv h
  obtain ⟨l, xs, y, rfl, rfl, hH, hz, q⟩ := h
  cases rx
  obtain ⟨u, rfl, ru⟩ := rv.one
  obtain ⟨z, its, n, r, hl, e⟩ := I.lstM hH
  refine call_meets F.slot_list_append ⟨_, e, rfl⟩ F.entry_list_append (F.args_list_append_2 _ _) (PySem.list_append l its.toArray n u (by rw [List.size_toArray]; omega)) ⟨e, ?_⟩
  refine ⟨.non, _, I.lset (its' := its ++ [u]) hH e (by simp) (r.append (.cons ru .nil)) ?_, rfl, q⟩
  rw [List.length_append, List.length_singleton]
  omega

def rExtend : V → List V → Hp → VK → Prop := fun x vs H Q => ∃ l b xs zs, x = .ref l ∧ vs = [.ref b] ∧ H l = some (.lst xs) ∧ H b = some (.lst zs) ∧ xs.length + zs.length ≤ sizeLine ∧ Q .non (upd H l (.lst (xs ++ zs)))
theorem mt_extend : MtM X "list.extend" rExtend := by
  intro pins s σ H x vs v us Q I rx rv h
  obtain ⟨l, b, xs, zs, rfl, rfl, hH, hB, hz, q⟩ := h
  cases rx
  obtain ⟨u, rfl, ru⟩ := rv.one
  cases ru
  obtain ⟨z, its, n, r, hl, e⟩ := I.lstM hH
  obtain ⟨z2, its2, n2, r2, hl2, e2⟩ := I.lstM hB
  have hsz : its.toArray.size + its2.toArray.size ≤ sizeLine := by rw [List.size_toArray, List.size_toArray]; omega
  have hlong : ¬ (!its.toArray.isEmpty && Builtin.List.listTooLong (its.toArray.size + its2.toArray.size)) = true := by
    rw [notLongL hsz, Bool.and_false]
    exact Bool.false_ne_true
  refine call_meets F.slot_list_extend ⟨_, e, rfl⟩ F.entry_list_extend (F.args_list_extend_2 _ _)
    (AutoSeq1.list_extend_list_list_0 l its.toArray n b its2.toArray n2 hlong (by rw [List.size_toArray]; omega) (by omega)) ⟨e, e2, ?_⟩
  refine ⟨.non, _, I.lset (its' := its ++ its2) hH e (by simp) (r.append r2) ?_, rfl, q⟩
  rw [List.length_append]
  omega

def rPop : V → List V → Hp → VK → Prop := fun x vs H Q => ∃ l xs y, x = .ref l ∧ vs = [] ∧ H l = some (.lst xs) ∧ xs[xs.length - 1]? = some y ∧ Q y (upd H l (.lst xs.dropLast))
theorem mt_pop : MtM X "list.pop" rPop := by
  intro pins s σ H x vs v us Q I rx rv h
  obtain ⟨l, xs, y, rfl, rfl, hH, hy, q⟩ := h
  cases rx
  have hus := rv.zero
  subst hus
  obtain ⟨z, its, n, r, hl, e⟩ := I.lstM hH
  obtain ⟨u, hu, ru⟩ := r.get hy
  have hy' : its.toArray[its.toArray.size - 1]? = some u := by
    show its.toArray[its.length - 1]? = some u
    rw [← Array.getElem?_toList, ← hl]
    exact hu
  refine call_meets F.slot_list_pop ⟨_, e, rfl⟩ F.entry_list_pop (F.args_list_pop_1 _) (MeetsSeq.list_pop_last l its.toArray n u hy' (by rw [List.size_toArray]; omega)) ⟨e, ?_⟩
  refine ⟨y, _, I.lset (its' := its.dropLast) hH e ?_ r.dropLast ?_, ru, q⟩
  · show its.toArray.eraseIdxIfInBounds (its.toArray.size - 1) = its.dropLast.toArray
    rw [List.size_toArray, List.eraseIdxIfInBounds_toArray, erase_last]
  · rw [List.length_dropLast]
    omega

/-! ### list + list, list += list, list * int -/
def rCat : R2 := fun x y H Q => ∃ l b xs zs, x = .ref l ∧ y = .ref b ∧ H l = some (.lst xs) ∧ H b = some (.lst zs) ∧ xs.length + zs.length ≤ sizeLine ∧ ∀ p, H p = none → Q (.ref p) (upd H p (.lst (xs ++ zs)))
theorem op_cat : OpR X (binaryOp .Add) rCat := by
  intro pins s σ H x y v u Q I rx ry h
  obtain ⟨l, b, xs, zs, rfl, rfl, hH, hB, hz, q⟩ := h
  cases rx
  cases ry
  obtain ⟨z, its, n, r, hl, e⟩ := I.lstM hH
  obtain ⟨z2, its2, n2, r2, hl2, e2⟩ := I.lstM hB
  refine PySem.P.add_list e e2 ?_ (by rw [List.size_toArray, List.size_toArray]; omega)
  have ea : its.toArray ++ its2.toArray = (its ++ its2).toArray := by simp
  rw [ea]
  exact ⟨.ref _, _, I.lnew (t' := s.toks) (r.append r2) (by rw [List.length_append]; omega), rfl, q _ I.fresh⟩
/-- a list times an int (a negative one is nothing) -/
def rRep : R2 := fun x y H Q => ∃ l k xs, x = .ref l ∧ y = .int k ∧ H l = some (.lst xs) ∧ -(2 ^ 63) ≤ k ∧ k < 2 ^ 63 ∧ xs.length * k.toNat ≤ sizeLine ∧
  ∀ p, H p = none → Q (.ref p) (upd H p (.lst (List.replicate k.toNat xs).flatten))
theorem len_rep {α : Type} (xs : List α) (k : Nat) : (List.replicate k xs).flatten.length = k * xs.length := by
  induction k with
  | zero => simp
  | succ k ih => rw [List.replicate_succ, List.flatten_cons, List.length_append, ih, Nat.succ_mul, Nat.add_comm]
theorem op_rep : OpR X (binaryOp .Mult) rRep := by
  intro pins s σ H x y v u Q I rx ry h
  obtain ⟨l, k, xs, rfl, rfl, hH, h1, h2, hz, q⟩ := h
  cases rx
  obtain ⟨t, rfl⟩ := ry
  obtain ⟨z, its, n, r, hl, e⟩ := I.lstM hH
  have hlen : its.toArray.size * k.toNat ≤ sizeLine := by rw [List.size_toArray, ← hl]; exact hz
  have hcap : ¬ its.toArray.size * k.toNat > (2 ^ 63 - 1) / 8 := by
    have : (sizeLine : Nat) ≤ (2 ^ 63 - 1) / 8 := by decide
    omega
  have hfit : ¬ (!Builtin.List.listFitsIndex k) = true := by
    rw [fitsIndex_both h1 h2]
    exact Bool.false_ne_true
  have hlong : ¬ Builtin.List.listTooLong (its.toArray.size * k.toNat) = true := by
    rw [notLongL hlen]
    exact Bool.false_ne_true
  have hnew : List.foldl (fun x1 x2 => x1 ++ x2) #[] (List.replicate (if its.toArray.isEmpty = true then 0 else k.toNat) its.toArray) = (List.replicate k.toNat its).flatten.toArray := by
    have f0 : ∀ m : Nat, List.foldl (fun x1 x2 => x1 ++ x2) #[] (List.replicate m its.toArray) = (List.replicate m its).flatten.toArray := fun m => by
      have := foldl_rep its m []
      rw [List.nil_append] at this
      exact this
    rw [f0]
    cases its with
    | nil => simp
    | cons a r' => rw [if_neg (by simp)]
  refine wpAny_binaryOp_repeat_ref (T := "list") (U := "int") (by decide) ⟨_, e, rfl⟩ (fun s' => typeIs_int s' k t) noFill_list_mul F.fills_int_mul F.slot_int_rmul repeat_list F.slot_int_index.lookup
    (call_meets F.slot_int_rmul (typeIs_int s k t) F.entry_int_rmul (F.args_int_rmul_2 _ _) (int___rmul___int_list k t l its.toArray n)
      ⟨e, rfl, ⟨_, e, rfl⟩, call_meets F.slot_list_mul ⟨_, e, rfl⟩ F.entry_list_mul (F.args_list_mul_2 _ _) (AutoListH.list___mul___list_int_3 l its.toArray n k t hfit hcap hlong) ⟨e, ?_⟩⟩)
  rw [hnew]
  exact ⟨.ref _, _, I.lnew (t' := s.toks) (r.rep k.toNat) (by rw [len_rep, Nat.mul_comm]; exact hz), rfl, q _ I.fresh⟩

/-! ### del xs[i] -/
end

/-! ### xs[a:b] = ys -/
section
variable {prog : Program} {w : World} {A : Around} {E : Value → Shared → Prop} {s : Shared}
end

section
variable {X : Cx}
end
end L2
namespace L2
open PySem PySem.Spec PyProof.Rows

/-! ### lists of pairs as tables -/
section
variable {κ : Type} [DecidableEq κ]
def valV (kvs : List (κ × V)) (k : κ) : Option V := (kvs.find? fun kv => decide (kv.1 = k)).map (·.2)
/-- in its place, or at the end -/
def putK (kvs : List (κ × V)) (k : κ) (v : V) : List (κ × V) :=
  if (kvs.any fun kv => decide (kv.1 = k)) = true then kvs.map (fun kv => if kv.1 = k then (kv.1, v) else kv) else kvs ++ [(k, v)]
theorem valV_pos {p : κ × V} {r : List (κ × V)} {k : κ} (e : p.1 = k) : valV (p :: r) k = some p.2 := by simp [valV, List.find?_cons, e]
theorem valV_neg {p : κ × V} {r : List (κ × V)} {k : κ} (e : ¬ p.1 = k) : valV (p :: r) k = valV r k := by simp [valV, List.find?_cons, e]
theorem length_putK (kvs : List (κ × V)) (k : κ) (v : V) : (putK kvs k v).length ≤ kvs.length + 1 := by
  unfold putK
  split
  · rw [List.length_map]; omega
  · rw [List.length_append, List.length_cons, List.length_nil]; omega
theorem RelO.isSome_eq {o : Option V} {u : Option Value} (r : RelO o u) : o.isSome = u.isSome := by
  cases o with
  | none => cases u with
    | none => rfl
    | some _ => exact (show False from r).elim
  | some _ => cases u with
    | none => exact (show False from r).elim
    | some _ => rfl
/-- raw tables of the same keys -/
theorem KV.val {kvs : List (κ × V)} {vs : List (κ × Value)} (r : KV kvs vs) (k : κ) : RelO (valV kvs k) (valueAt vs k) := by
  unfold KV at r
  induction r with
  | nil => exact True.intro
  | @cons p q ps qs h t ih =>
    obtain ⟨h1, h2⟩ := h
    by_cases e : p.1 = k
    · have e' : q.1 = k := h1.symm.trans e
      have b : valueAt (q :: qs) k = some q.2 := by simp [valueAt, List.find?_cons, e']
      rw [valV_pos e, b]; exact h2
    · have e' : ¬ q.1 = k := fun z => e (h1.trans z)
      have b : valueAt (q :: qs) k = valueAt qs k := by simp [valueAt, List.find?_cons, e']
      rw [valV_neg e, b]; exact ih
theorem KV.any {kvs : List (κ × V)} {vs : List (κ × Value)} (r : KV kvs vs) (k : κ) : (kvs.any fun kv => decide (kv.1 = k)) = vs.any fun kv => decide (kv.1 = k) := by
  unfold KV at r
  induction r with
  | nil => rfl
  | cons h t ih => rw [List.any_cons, List.any_cons, ih, h.1]
theorem KV.repl {kvs : List (κ × V)} {vs : List (κ × Value)} (r : KV kvs vs) (k : κ) {y : V} {u : Value} (ry : RelV y u) :
    KV (kvs.map fun kv => if kv.1 = k then (kv.1, y) else kv) (vs.map fun kv => if kv.1 = k then (kv.1, u) else kv) := by
  unfold KV at r ⊢
  induction r with
  | nil => exact .nil
  | @cons p q ps qs h t ih =>
    rw [List.map_cons, List.map_cons]
    refine .cons ?_ ih
    obtain ⟨h1, h2⟩ := h
    by_cases e : p.1 = k
    · rw [if_pos e, if_pos (h1.symm.trans e)]; exact ⟨h1, ry⟩
    · rw [if_neg e, if_neg (fun z => e (h1.trans z))]; exact ⟨h1, h2⟩
theorem KV.put {kvs : List (κ × V)} {vs : List (κ × Value)} (r : KV kvs vs) (k : κ) {y : V} {u : Value} (ry : RelV y u) : KV (putK kvs k y) (stored vs k u) := by
  unfold putK stored
  rw [r.any k]
  by_cases e : (vs.any fun kv => decide (kv.1 = k)) = true
  · rw [if_pos e, if_pos e]; exact r.repl k ry
  · rw [if_neg e, if_neg e]; exact Paired.snoc r ⟨rfl, ry⟩
end


/-! ### a tracked dict, its keys ints and texts or tuples of these -/
theorem kV_is {P : Program} {w : World} {k : Key} {u : Value} (r : RelV (kV k) u) : (mixKind P w).is k u = true := by
  cases k with
  | inl i => obtain ⟨t, e⟩ := (show ∃ t, u = Value.int i t from r); subst e; exact mixKind_int P w i t
  | inr x => obtain ⟨t, e⟩ := (show ∃ t, u = Value.str x t from r); subst e; exact mixKind_str P w x t
theorem items_are {P : Program} {w : World} : ∀ {ks : List Key} {us : List Value}, Vals (ks.map kV) us → ItemsAre (mixKind P w) ks us
  | [], _, r => by rw [List.map_nil] at r; cases r; exact .nil
  | k :: ks, _, r => by
    rw [List.map_cons] at r
    cases r with
    | cons h t => exact .cons (kV_is h) (items_are t)

/-- raw entries of a dict with tuple keys -/
abbrev KT (H : Hp) : List (List Key × V) → List (List Key × Addr × Value) → Prop := Paired fun p q => p.1 = q.1 ∧ H q.2.1 = some (.tup (p.1.map kV)) ∧ RelV p.2 q.2.2
theorem KT.val {H : Hp} {kvs : List (List Key × V)} {xs : List (List Key × Addr × Value)} (r : KT H kvs xs) (k : List Key) : RelO (valV kvs k) ((atKey xs k).map (·.2)) := by
  induction r with
  | nil => exact True.intro
  | @cons p q ps qs h t ih =>
    obtain ⟨h1, _, h2⟩ := h
    by_cases e : p.1 = k
    · have e' : q.1 = k := h1.symm.trans e
      have b : atKey (q :: qs) k = some q.2 := by simp [atKey, List.find?_cons, e']
      rw [valV_pos e, b]; exact h2
    · have e' : ¬ q.1 = k := fun z => e (h1.trans z)
      have b : atKey (q :: qs) k = atKey qs k := by simp [atKey, List.find?_cons, e']
      rw [valV_neg e, b]; exact ih
section
variable {P : Program} {w : World} {H : Hp} {h : Heap} {a : Addr}
theorem rd_of {u : HO} (ok : HOk P w H h) (e : Rd H a u) : ObjOk P w H h a u := e.ok ok
theorem dk_rd {kvs : List (Key × V)} (ok : HOk P w H h) (e : Rd H a (.dK kvs)) : kvs.length ≤ sizeLine ∧ (a == sysModules) = false ∧ ∃ vs, KV kvs vs ∧ h.DictOf (mixKind P w) a vs :=
  show ObjOk P w H h a (.dK kvs) from rd_of ok e
theorem dk_of {kvs : List (Key × V)} (ok : HOk P w H h) (e : H a = some (.dK kvs)) : kvs.length ≤ sizeLine ∧ (a == sysModules) = false ∧ ∃ vs, KV kvs vs ∧ h.DictOf (mixKind P w) a vs := dk_rd ok (.inl e)
/-- a tracked tuple of ints and texts is a key -/
theorem key_of {ks : List Key} (ok : HOk P w H h) (e : H a = some (.tup (ks.map kV))) : (tupleKind (mixKind P w)).is h ks a := by
  obtain ⟨_, its, r, o, h1, h2, n, h3⟩ := (show ObjOk P w H h a (.tup (ks.map kV)) from ok a _ e)
  exact ⟨o, its.toArray, n, h1, h2, h3, by simpa using items_are r⟩
theorem dt_rd {kvs : List (List Key × V)} (ok : HOk P w H h) (e : Rd H a (.dT kvs)) : kvs.length ≤ sizeLine ∧ (a == sysModules) = false ∧
    ∃ xs, KT H kvs xs ∧ h.DictOfH (tupleKind (mixKind P w)) a xs := by
  obtain ⟨z, y, xs, r, o, es, ep, h1, h2, h3, h4, h5⟩ := (show ObjOk P w H h a (.dT kvs) from rd_of ok e)
  refine ⟨z, y, xs, r, o, es, ep, h1, h2, h3, h4, fun x hx => ?_, h5⟩
  have all : ∀ {l : List (List Key × V)} {m : List (List Key × Addr × Value)}, KT H l m → ∀ x ∈ m, (tupleKind (mixKind P w)).is h x.1 x.2.1 := by
    intro l m q
    induction q with
    | nil => intro x hx; exact nomatch hx
    | @cons p q ps qs hq t ih =>
      intro x hx
      rcases List.mem_cons.mp hx with e | hx
      · subst e
        exact key_of ok (by rw [← hq.1]; exact hq.2.1)
      · exact ih x hx
  exact all r x hx
end

/-- what the dict at a holds at the key y -/
def DGet (H : Hp) (a : Addr) (y : V) (r : Option V) : Prop :=
  (∃ kvs k, Rd H a (.dK kvs) ∧ y = kV k ∧ r = valV kvs k) ∨ ∃ kvs k b, Rd H a (.dT kvs) ∧ y = .ref b ∧ H b = some (.tup (k.map kV)) ∧ r = valV kvs k
section
variable {X : Cx} {pins : List (Addr × Obj)} {σ : St} {H : Hp} {s : Shared} {a : Addr} {y v : V} {u r : Value} {o : Option V} {A : Around} {E : Value → Shared → Prop}

theorem Inv.big (I : Inv X pins σ H s) : sysModules < s.heap.objs.size := by
  have h : mainGlobals < s.heap.objs.size := (I.mod.glob.keeps I.bk).lt
  exact Nat.lt_trans (by decide) h

/-- d[y], there -/
theorem d_getItem {Q : Value → Shared → Prop} (hu : A.units + 1 < cLine) (I : Inv X pins σ H s) (g : DGet H a y (some v)) (ry : RelV y u) (h : ∀ w' s', Inv X pins σ H s' → RelV v w' → Q w' s') :
    wpAny (model X.prog X.w) A (getItem (.ref a) u) Q E s := by
  rcases g with ⟨kvs, k, e, ey, l⟩ | ⟨kvs, k, b, e, ey, eb, l⟩
  · subst ey
    obtain ⟨z, hd, vs, rel, dd⟩ := dk_rd I.hok e
    obtain ⟨w', hw, rw'⟩ := RelO.some_of (v := v) (o := valueAt vs k) (by rw [l]; exact rel.val k)
    exact wpAny_getItem_of (kV_is ry) dd.mapOf hw (h w' _ (I.tok _) rw')
  · subst ey
    cases (show u = Value.ref b from ry)
    obtain ⟨z, hd, xs, rel, dd⟩ := dt_rd I.hok e
    obtain ⟨w', hw, rw'⟩ := RelO.some_of (v := v) (o := (atKey xs k).map (·.2)) (by rw [l]; exact rel.val k)
    obtain ⟨p, hp, hp2⟩ := Option.map_eq_some_iff.mp hw
    refine wpAny_getItem_heap (tupleKind_room_in1 hu) (key_of I.hok eb) dd hp ?_
    rw [hp2]
    exact h w' _ (I.tok _) rw'
/-- y in d -/
theorem d_in {Q : Value → Shared → Prop} (hu : A.units + 1 < cLine) (I : Inv X pins σ H s) (g : DGet H a y o) (ry : RelV y u) (h : ∀ s', Inv X pins σ H s' → Q (.bool o.isSome) s') :
    wpAny (model X.prog X.w) A (compareOp .In u (.ref a)) Q E s := by
  rcases g with ⟨kvs, k, e, ey, l⟩ | ⟨kvs, k, b, e, ey, eb, l⟩
  · subst ey
    obtain ⟨z, hd, vs, rel, dd⟩ := dk_rd I.hok e
    refine wpAny_in_of (kV_is ry) hd dd.mapOf ?_
    rw [← (rel.val k).isSome_eq, ← l]
    exact h _ (I.tok _)
  · subst ey
    cases (show u = Value.ref b from ry)
    obtain ⟨z, hd, xs, rel, dd⟩ := dt_rd I.hok e
    refine wpAny_in_heap (tupleKind_room_in1 hu) (key_of I.hok eb) hd dd ?_
    have q := (rel.val k).isSome_eq
    rw [Option.isSome_map] at q
    rw [← q, ← l]
    exact h _ (I.tok _)
theorem d_notIn {Q : Value → Shared → Prop} (hu : A.units + 1 < cLine) (I : Inv X pins σ H s) (g : DGet H a y o) (ry : RelV y u) (h : ∀ s', Inv X pins σ H s' → Q (.bool (!o.isSome)) s') :
    wpAny (model X.prog X.w) A (compareOp .NotIn u (.ref a)) Q E s := by
  rcases g with ⟨kvs, k, e, ey, l⟩ | ⟨kvs, k, b, e, ey, eb, l⟩
  · subst ey
    obtain ⟨z, hd, vs, rel, dd⟩ := dk_rd I.hok e
    refine wpAny_notIn_of (kV_is ry) hd dd.mapOf ?_
    rw [← (rel.val k).isSome_eq, ← l]
    exact h _ (I.tok _)
  · subst ey
    cases (show u = Value.ref b from ry)
    obtain ⟨z, hd, xs, rel, dd⟩ := dt_rd I.hok e
    refine wpAny_notIn_heap (tupleKind_room_in1 hu) (key_of I.hok eb) hd dd ?_
    have q := (rel.val k).isSome_eq
    rw [Option.isSome_map] at q
    rw [← q, ← l]
    exact h _ (I.tok _)
/-- a dict's object is replaced -/
theorem d_write {h' : Heap} {t' : Nat} {ob : HO} (I : Inv X pins σ H s) (mu : Mut (H a)) (hs : Heap.SameBut a s.heap h') (he : ∃ q, h'.get? a = some q) (new : ObjOk X.prog X.w (upd H a ob) h' a ob) :
    Inv X pins σ (upd H a ob) { s with heap := h', toks := t' } :=
  I.write (x := a) (e := a) mu (.inl rfl) (fun b q hb z => (hs.2 b hb).trans z) he new
theorem dk_new {P : Program} {w : World} {H' : Hp} {h' : Heap} {kvs : List (Key × V)} {vs : List (Key × Value)} (z : kvs.length ≤ sizeLine) (hd : (a == sysModules) = false) (rel : KV kvs vs) (dd : h'.DictOf (mixKind P w) a vs) :
    ObjOk P w H' h' a (.dK kvs) := ⟨z, hd, vs, rel, dd⟩
end

section
variable {X : Cx} {pins : List (Addr × Obj)} {σ : St} {H : Hp} {s : Shared} {a : Addr} {kvs : List (Key × V)} {k : Key} {u : Value} {A : Around} {E : Value → Shared → Prop}
end


/-! ### readings and rules -/
theorem dict_typeIs {X : Cx} {pins : List (Addr × Obj)} {σ : St} {H : Hp} {s : Shared} {a : Addr} {y : V} {o : Option V} (I : Inv X pins σ H s) (g : DGet H a y o) : s.TypeIs (.ref a) "dict" := by
  rcases g with ⟨kvs, k, e, _, _⟩ | ⟨kvs, k, b, e, _, _, _⟩
  · obtain ⟨_, _, vs, _, dd⟩ := dk_rd I.hok e
    exact dd.typeIs
  · obtain ⟨_, _, xs, _, dd⟩ := dt_rd I.hok e
    exact dd.typeIs
section
variable {X : Cx} {o i e value : Expr} {pos pos' tpos : Pos} {td ty tv : TE}
end


/-! ### displays -/
theorem dk_empty {P : Program} {w : World} {H : Hp} (h : Heap) (hb : sysModules < h.objs.size) : ObjOk P w H (h.push { cls := .type "dict", data := .dict #[] }) h.objs.size (.dK []) :=
  ⟨Nat.zero_le _, beq_eq_false_iff_ne.mpr (Ne.symm (Nat.ne_of_lt hb)), [], .nil, Heap.DictOf.new h⟩
section
variable {X : Cx} {pos : Pos}
end

/-- the pairs of a display, from the left -/
def tPairs : List (TE × TE) → St → Hp → (List (V × V) → Hp → Prop) → Prop
  | [], _, H, Q => Q [] H
  | (tk, tv) :: r, σ, H, Q => tk σ H fun x H1 => tv σ H1 fun y H2 => tPairs r σ H2 fun ps H3 => Q ((x, y) :: ps) H3
abbrev VV : List (V × V) → List (Value × Value) → Prop := Paired fun p q => RelV p.1 q.1 ∧ RelV p.2 q.2
def PPs (X : Cx) (pos : Pos) (keys : List (Option Expr)) (values : List Expr) (trs : List (TE × TE)) : Prop :=
  ∀ (pins : List (Addr × Obj)) (s : Shared) (σ : St) (H : Hp) (Q : List (V × V) → Hp → Prop), Inv X pins σ H s → tPairs trs σ H Q →
    wpAny (model X.prog X.w) X.A (evalPairs (pairTrees keys values X.env pos)) (fun vs s' => ∃ ps H', Inv X pins σ H' s' ∧ VV ps vs ∧ Q ps H') X.xe s
theorem pps_nil {X : Cx} {pos : Pos} : PPs X pos [] [] [] := fun pins s σ H Q I h => pairTrees_nil_walk ⟨[], H, I, .nil, h⟩
theorem pps_cons {X : Cx} {pos : Pos} {k v : Expr} {ks : List (Option Expr)} {vs : List Expr} {tk tv : TE} {trs : List (TE × TE)} (hk : PE X k tk) (hv : PE X v tv) (hr : PPs X pos ks vs trs) :
    PPs X pos (some k :: ks) (v :: vs) ((tk, tv) :: trs) := fun pins s σ H Q I h =>
  pairTrees_cons_walk (thn (hk pins s σ H _ I h) fun u s1 ⟨x, H1, I1, rx, q1⟩ => thn (hv pins s1 σ H1 _ I1 q1) fun w2 s2 ⟨y, H2, I2, ry, q2⟩ =>
    thn (hr pins s2 σ H2 _ I2 q2) fun ws s3 ⟨ps, H3, I3, rel, q3⟩ => ⟨(x, y) :: ps, H3, I3, .cons ⟨rx, ry⟩ rel, q3⟩)

def mergeK (kvs more : List (Key × V)) : List (Key × V) := more.foldl (fun acc kv => putK acc kv.1 kv.2) kvs
theorem KV.merge : ∀ {more : List (Key × V)} {rs : List (Key × Value)} {kvs : List (Key × V)} {vs : List (Key × Value)}, KV more rs → KV kvs vs → KV (mergeK kvs more) (merged vs rs) := by
  intro more rs kvs vs r
  unfold KV at r
  induction r generalizing kvs vs with
  | nil => intro q; exact q
  | @cons p q ps qs h t ih =>
    intro r0
    have e : KV (putK kvs p.1 p.2) (stored vs q.1 q.2) := by
      have := r0.put p.1 h.2
      rw [← h.1]; exact this
    exact ih e
theorem length_mergeK : ∀ (more kvs : List (Key × V)), (mergeK kvs more).length ≤ kvs.length + more.length
  | [], kvs => by show kvs.length ≤ kvs.length + 0; omega
  | p :: r, kvs => by
    have h1 := length_mergeK r (putK kvs p.1 p.2)
    have h2 := length_putK kvs p.1 p.2
    show (mergeK (putK kvs p.1 p.2) r).length ≤ _
    rw [List.length_cons]; omega
theorem carries_of {P : Program} {w : World} : ∀ {kvs : List (Key × V)} {ws : List (Value × Value)}, VV (kvs.map fun kv => (kV kv.1, kv.2)) ws → ∃ rs, Carries (mixKind P w) ws rs ∧ KV kvs rs
  | [], _, r => by rw [List.map_nil] at r; cases r; exact ⟨[], True.intro, .nil⟩
  | p :: kvs, _, r => by
    rw [List.map_cons] at r
    cases r with
    | @cons a b as bs h t =>
      obtain ⟨rs, c, q⟩ := carries_of (P := P) (w := w) t
      obtain ⟨b1, b2⟩ := b
      exact ⟨(p.1, b2) :: rs, ⟨kV_is h.1, rfl, c⟩, .cons ⟨rfl, h.2⟩ q⟩
/-- {k: v, ..} with keys ints and texts; the new dict stands empty while the pairs are made -/
def tDisp (trs : List (TE × TE)) : TE := fun σ H Q => ∀ p, H p = none → tPairs trs σ (upd H p (.dK [])) fun ps H2 => H2 p = some (.dK []) ∧ ∃ kvs : List (Key × V), ps = kvs.map (fun kv => (kV kv.1, kv.2)) ∧ kvs.length ≤ 15 ∧ Q (.ref p) (upd H2 p (.dK (mergeK [] kvs)))
theorem pe_disp {X : Cx} {pos : Pos} {keys : List (Option Expr)} {values : List Expr} {trs : List (TE × TE)} (h : PPs X pos keys values trs) (hall : keys.all (·.isSome) = true) (hl : keys.length = values.length) (h0 : keys ≠ [])
    (h15 : keys.length ≤ 15) : PE X (.Dict keys values pos) (tDisp trs) := by
  intro pins s σ H Q I q
  have hn := I.hok.fresh (Nat.le_refl s.heap.objs.size)
  have I1 := I.laid (a := s.heap.objs.size) (o := .dK []) (h' := s.heap.push { cls := .type "dict", data := .dict #[] }) (t' := s.toks) (fun _ _ q => Heap.get?_push_of_some _ q) (Nat.le_refl _) (dk_empty s.heap I.big)
  refine wpAny_Dict_walk (knd := mixKind X.prog X.w) hall hl h0 h15 (thn (h pins _ σ _ _ I1 (q _ hn)) fun ws s2 ⟨ps, H2, I2, rel, e, kvs, ep, lk, q2⟩ => ?_)
  subst ep
  obtain ⟨rs, c, rk⟩ := carries_of (P := X.prog) (w := X.w) rel
  obtain ⟨z, hd, vs0, r0, dd⟩ := dk_of I2.hok e
  cases r0
  refine ⟨rs, c, dd, fun h' dd' hs => ⟨.ref s.heap.objs.size, _, ?_, rfl, q2⟩⟩
  have hz : (mergeK [] kvs).length ≤ sizeLine := by
    have h1 := length_mergeK kvs []
    rw [List.length_nil] at h1
    rw [sizeLine_eq]; omega
  have he : ∃ q, h'.get? s.heap.objs.size = some q := let ⟨q, _, _, hq, _⟩ := dd'; ⟨q, hq⟩
  exact d_write I2 (by rw [e]; exact True.intro) hs he (dk_new hz hd (rk.merge .nil) dd')


/-! ### methods -/
section
variable {X : Cx} {pins : List (Addr × Obj)} {σ : St} {H : Hp} {s : Shared} {a : Addr} {y d : V} {u r : Value} {o : Option V} {A : Around} {E : Value → Shared → Prop}
end

section
variable {X : Cx} {o e f : Expr} {apos cpos : Pos} {td ty tx : TE}
end

/-! ### dict(d): a copy -/
section
variable {X : Cx} {pins : List (Addr × Obj)} {σ : St} {H : Hp} {s : Shared} {a : Addr} {kvs : List (Key × V)} {A : Around} {E : Value → Shared → Prop}
end


section
variable {X : Cx} {pins : List (Addr × Obj)} {σ : St} {H : Hp} {s : Shared} {a : Addr} {y : V} {u : Value} {A : Around} {E : Value → Shared → Prop}
end
end L2

namespace Att
open PySem PySem.W PySem.Calls PyProof.Rows

/-! ### the script -/
theorem ints_of_wellAll {P : Params} {h : Heap} : ∀ (ns : List Int) (vs : List Value), WellAll P h vs (ns.map WData.int) → IntsAre vs ns := by
  intro ns
  induction ns with
  | nil =>
    intro vs w
    rw [List.map_nil] at w
    cases w
    exact .nil
  | cons n ns ih =>
    intro vs w
    rw [List.map_cons] at w
    cases w with
    | cons a b =>
      cases a
      exact .cons _ _ (ih _ b)

theorem script_of {l : OpenLaw} {n : Nat} (hn : l.most = some n) {P : Params} {h : Heap} {args : List WData} {vals : List Value}
    (hpre : l.row.toRowW.claim.pre args = true) (hwl : WellAll P h vals args) :
    ∃ a vs ns, vals = [Value.ref a] ∧ args = [WData.list (ns.map WData.int)] ∧ h.get? a = some { cls := .type "list", data := .seq vs.toArray } ∧ IntsAre vs ns ∧ ns.length ≤ n := by
  have hsh : WShape.hasAll [] args [.list .int] = true := (pre_splitW hpre).1
  have hc : l.pre.holds [] { args := args } = true := (pre_splitW hpre).2
  obtain ⟨d, r, rfl, h1, h2⟩ := hasAllW_cons hsh
  obtain rfl := hasAllW_nil h2
  obtain ⟨xs, rfl, h3⟩ := hasW_list h1
  obtain ⟨ns, rfl⟩ := items_int h3
  have hlen : ns.length ≤ n := by
    unfold OpenLaw.pre at hc
    have h4 : (WTm.not (.lt (.lit (.int (n : Int))) (.len (.arg 0)))).holds [] { args := [.list (ns.map .int)] } = true := by
      have h4 := (holds_andW hc).1
      rw [hn] at h4
      exact h4
    have h5 := condW_of h4 (w_not (w_lt w_lit (w_len_list (w_arg rfl))))
    rw [List.length_map] at h5
    refine Nat.le_of_not_lt fun q => ?_
    have q' : (n : Int) < ((ns.length : Nat) : Int) := by omega
    first
      | (rw [decide_eq_true q'] at h5; exact absurd h5 (by decide))
      | (simp at h5; omega)
  cases hwl with
  | cons w1 w2 =>
    cases w2
    cases w1 with
    | list ho hall => exact ⟨_, _, ns, rfl, rfl, ho, ints_of_wellAll ns _ hall, hlen⟩

theorem post_true (l : OpenLaw) (args : List WData) : l.row.toRowW.claim.post args (.bool true) args = true :=
  postW_of (r := l.row.toRowW) (X := (true == true))
    (show WShape.has [] (.bool true) .bool = true by first | rfl | decide | simp [WShape.has, WShape.arms, WShape.armsAll])
    (show (WTm.eq .res (.lit (.bool true))).value [] { args := args, res := some (.bool true), after := args } = some (.bool (true == true)) from w_eq_bool (w_res rfl) w_lit) rfl

/-! ### the attachment: holds_open's last premise (the goal 'hc' behind k_head) from a wpAny of the law's body -/
/-- the same from a codeAny of the CALL (for a layer whose function contracts speak of calls) -/
theorem attach_call {l : OpenLaw} {n : Nat} {q : Program} {loose : List Str} {XP : (Str → Option Value) → Heap → Prop} {YP : World → Heap → Prop} {d : DefRec}
    (hn : l.most = some n) (hdf : d.params.defaults = [])
    (call : ∀ (w : World) (s₀ s₁ : Shared) (mg mb : Str → Option Value) (fa : Addr) (o : Obj) (pm cd doc : Value) (a : Addr) (vs : List Value) (ns : List Int),
      Ground q loose [] XP w s₀ mg mb s₁.heap → YP w s₁.heap →
      s₁.heap.get? fa = some o → o.data = .func (docDef d.name d.params d.body d.scope pm cd doc) → s₁.heap.CodeRec cd d.name → mg d.name = some (.ref fa) →
      s₁.heap.get? a = some { cls := .type "list", data := .seq vs.toArray } → IntsAre vs ns → ns.length ≤ n → s₁.gens = #[] →
      codeAny (model l.prog w) callerA (.call (.ref fa) ⟨[.ref a], []⟩) (fun r s' => r = .ok (.ret (.bool true)) ∧ OldK s₁.heap s'.heap ∧ s'.os = s₁.os ∧ AllBare s'.gens) s₁) :
    WalkO q loose XP YP l.row.toRowW d [] (fun f vs => PySem.call f vs) := by
  intro w s₀ s₁ mg mb G Y fa o pm cd doc dV kV ho hd hcd hD hmg hg args vals as hpre hlay hrd hwl hlo
  obtain rfl : dV = .none := Dflts.none hD hdf
  obtain rfl : kV = .none := Dflts.noKw hD
  obtain ⟨a, vs, ns, rfl, rfl, hobj, hints, hlen⟩ := script_of hn hpre hwl
  refine enter_call (codeAny_mono (call w s₀ s₁ mg mb fa o pm cd doc a vs ns G Y ho (fd_plain hd) hcd hmg hobj hints hlen hg) fun r s' hq => ?_)
  obtain ⟨rfl, h2, h3, h4⟩ := hq
  exact ⟨.inl ⟨.bool true, .bool true, [], rfl, fun _ => rfl, .bool true, post_true l _, fun _ => ⟨List.Pairwise.nil, fun _ hm => (nomatch hm)⟩⟩, h2, h3, h4⟩

/-! ### rules over ANY heap (no ledger) from facts about the written part K: the library's own take a ledger (News) for what they write -/
section
variable {prog : Program} {w : World} {A : Around} {E : Value → Shared → Prop} {s : Shared} {K : Frag}

/-! the whole heap as the ledger: makes every rule that writes through a ledger a rule over any heap -/
def ledger (h : Heap) (L d : Addr) : List (Addr × Obj) := (List.range h.objs.size).filterMap fun a => if a = L ∨ a = d then none else (h.get? a).map fun o => (a, o)
end
end Att

namespace L2
open PySem PySem.Spec PyProof.Rows

theorem vals_ints : ∀ {vs : List Value} {ns : List Int}, IntsAre vs ns → Vals (ns.map V.int) vs
  | _, _, .nil => .nil
  | _, _, .cons n t h => .cons ⟨t, rfl⟩ (vals_ints h)

/-- nothing is tracked but the script, known to the object (or it is an object of the module) -/
def Only (H : Hp) : Prop := ∀ b, H b = none ∨ ∃ o xs, H b = some (.frz o (.lst xs))

/-- THE HEAD: the law's promise, at the heap behind the top. F, the promise of the law's def, may use that base is part of the heap (so K.In base, base.Ns mainGlobals mg stand in Mod) -/
theorem law_call {P : Program} {w : World} {K : PySem.W.Frag} {mg mb : Str → Option Value} {CX : CXT} {k : Nat} {fa a : Addr} {fd : FuncData} {x : Str} {sp : Sp} {s₁ : Shared} {vs : List Value} {ns : List Int}
    (KX : K.In s₁.heap) (hns : s₁.heap.Ns mainGlobals mg) (hb : s₁.heap.Ns builtinsNs mb) (hbb : ∀ x : Str, x ≠ "__name__" → mb x = bootBuiltins x) (hlim : s₁.heap.NoLimit) (hg : s₁.gens = #[])
    (ha : s₁.heap.get? a = some { cls := .type "list", data := .seq vs.toArray }) (hi : IntsAre vs ns) (hl : ns.length ≤ sizeLine) (hr : Room k callerA)
    (F : ∀ base : Heap, K.In base → base.Ns mainGlobals mg → FnOk P w K mg base CX k fa fd [x] sp) (hbind : ∀ (s : Shared) (u : Value), BindsTo s fd ⟨[u], []⟩ [(x, u)])
    (hsp : ∀ H : Hp, Only H → SqL K H a (ns.map V.int) → sp [.ref a] H (fun v _ => v = .bl true) fun _ _ _ => False)
    (hCX : ∀ H e s', CX [] H s₁ (fun _ _ _ => False) e s' → False) :
    codeAny (model P w) callerA (.call (.ref fa) ⟨[.ref a], []⟩) (fun r s' => r = .ok (.ret (.bool true)) ∧ OldK s₁.heap s'.heap ∧ s'.os = s₁.os ∧ AllBare s'.gens) s₁ := by
  have rv := vals_ints hi
  have lenV := hi.length
  -- from an abstract heap in which nothing but the script may be tracked
  have core : ∀ H : Hp, Only H → SqL K H a (ns.map V.int) → HOk P w H s₁.heap → (∀ b, H b ≠ none → b = a) → (H a ≠ none → K.lookup a = none) →
      codeAny (model P w) callerA (.call (.ref fa) ⟨[.ref a], []⟩) (fun r s' => r = .ok (.ret (.bool true)) ∧ OldK s₁.heap s'.heap ∧ s'.os = s₁.os ∧ AllBare s'.gens) s₁ := by
    intro H hO hS hok hA hK
    have base_of : ∀ {b : Addr} {o : Obj}, s₁.heap.get? b = some o → H b = none → (hidT s₁.heap H).get? b = some o := fun e n => hidT_get e n
    have noA : ∀ {b : Addr} {o : Obj} {es : Array DictEntry} {ep : Nat}, s₁.heap.get? b = some o → o.data = .dict es ep → H b = none := fun {b o es ep} e d => by
      cases q : H b with
      | none => rfl
      | some u =>
        have e' : b = a := hA b (by rw [q]; simp)
        subst e'
        rw [ha] at e; cases e
        have d' : Data.seq vs.toArray _ = Data.dict es ep := d
        cases d'
    have nsK : ∀ {b : Addr} {m : Str → Option Value}, s₁.heap.Ns b m → (hidT s₁.heap H).Ns b m := fun {b m} ⟨o, es, ep, e, d, r⟩ => ⟨o, es, ep, base_of e (noA e d), d, r⟩
    have hKb : K.In (hidT s₁.heap H) := fun b o e => base_of (KX b o e) (by
      cases q : H b with
      | none => rfl
      | some u =>
        have e' : b = a := hA b (by rw [q]; simp)
        subst e'
        rw [hK (by rw [q]; simp)] at e; cases e)
    have hM : Mod K mg (hidT s₁.heap H) := ⟨hKb, nsK hns, ⟨mb, nsK hb, hbb⟩, let ⟨mc, h1, h2⟩ := hlim; ⟨mc, nsK h1, h2⟩⟩
    have e0 : Env0 P w K mg (hidT s₁.heap H) callerA [] s₁ H := ⟨rfl, hM, fun b o e => of_hidT e, Nat.le_of_eq (hidT_size _ _), trivial, fun b hb => absurd (show b ∈ ([] : List Addr) from hb) (by simp), hok, .of_eq hg⟩
    refine codeAny_mono ((F _ hKb (nsK hns)).run callerA [] s₁ H ⟨[.ref a], []⟩ [.ref a] [.ref a] _ _ hr e0 (hbind s₁ (.ref a)) (.cons rfl .nil) (hsp H hO hS)) fun r s' h => ?_
    cases r with
    | error e => exact (hCX H e s' h).elim
    | ok fl =>
      cases fl with
      | next => exact False.elim h
      | brk => exact False.elim h
      | cont => exact False.elim h
      | ret u =>
        obtain ⟨v, H', os, bare, un, hok', r', q⟩ := h
        have q' : v = .bl true := q
        subst q'
        obtain rfl : u = Value.bool true := r'
        refine ⟨rfl, OldK.of_keep fun b o e => ?_, os, bare⟩
        cases q : H b with
        | none => exact un.keep b o e q (by intro z; exact absurd (show b ∈ ([] : List Addr) from z) (by simp)) (by simp)
        | some u =>
          rcases hO b with z | ⟨ob, xs, z⟩
          · rw [q] at z; cases z
          · have z2 := un.frzs b ob _ z
            obtain ⟨e1, _⟩ := hok b _ z
            obtain ⟨e2, _⟩ := hok' b _ z2
            rw [e] at e1; cases e1
            exact e2
  cases hk : K.lookup a with
  | some o =>
    -- the script is one of the module's own objects
    have e := KX a o hk
    rw [ha] at e
    cases e
    refine core (fun _ => none) (fun _ => .inl rfl) (.inr ⟨_, vs.toArray, _, hk, rfl, rfl, rfl, by rw [List.size_toArray, lenV]; exact hl, by simpa using rv⟩) (fun b u z => by have z' : (none : Option HO) = some u := z; cases z') (fun b z => absurd rfl z) fun z => absurd rfl z
  | none =>
    refine core (fun b => if b = a then some (.frz { cls := .type "list", data := .seq vs.toArray } (.lst (ns.map V.int))) else none) (fun b => ?_) (.inl (.inr ⟨{ cls := .type "list", data := .seq vs.toArray }, if_pos rfl⟩)) (fun b u z => ?_) (fun b z => ?_) fun _ => hk
    · by_cases hb : b = a
      · exact .inr ⟨_, _, if_pos hb⟩
      · exact .inl (if_neg hb)
    · by_cases hb : b = a
      · have z' := (if_pos hb).symm.trans z
        cases z'
        subst hb
        exact ⟨ha, by rw [List.length_map]; exact hl, vs, _, rv, ha⟩
      · have z' := (if_neg hb).symm.trans z
        cases z'
    · by_cases hb : b = a
      · exact hb
      · exact absurd (if_neg hb) z
end L2

namespace L2
open PySem PySem.Spec PyProof.Rows

abbrev KOf {K : PySem.W.Frag} {h : Heap} (_ : K.In h) : PySem.W.Frag := K

/-- the goal that k_head leaves (case hc), from the law's promise. F gives the function object fd (K's own) once, then the promise over every base -/
theorem walk_of {l : PySem.W.OpenLaw} {n k : Nat} {q : Program} {loose : List Str} {XP : (Str → Option Value) → Heap → Prop} {YP : World → Heap → Prop} {d : DefRec} {K : Params → PySem.W.Frag} {CX : World → CXT} {sp : World → Sp} {x : Str}
    (hn : l.most = some n) (hn2 : n ≤ sizeLine) (hdf : d.params.defaults = []) (hr : Room k callerA)
    (hY : ∀ (w : World) (h : Heap), YP w h → (K w.params).In h)
    (F : ∀ (w : World) (mg : Str → Option Value) (fa : Addr) (h : Heap), (K w.params).In h → h.Ns mainGlobals mg → mg d.name = some (.ref fa) →
      ∃ fd : FuncData, (∀ (s : Shared) (u : Value), BindsTo s fd ⟨[u], []⟩ [(x, u)]) ∧
        ∀ base : Heap, (K w.params).In base → base.Ns mainGlobals mg → FnOk l.prog w (K w.params) mg base (CX w) k fa fd [x] (sp w))
    (hsp : ∀ (w : World) (H : Hp) (a : Addr) (ns : List Int), ns.length ≤ n → Only H → SqL (K w.params) H a (ns.map V.int) → sp w [.ref a] H (fun v _ => v = .bl true) fun _ _ _ => False)
    (hCX : ∀ (w : World) (H : Hp) (s : Shared) (e : Value) (s' : Shared), CX w [] H s (fun _ _ _ => False) e s' → False) :
    PySem.W.WalkO q loose XP YP l.row.toRowW d [] (fun f vs => PySem.call f vs) := by
  refine Att.attach_call hn hdf fun w s₀ s₁ mg mb fa o pm cd doc a vs ns G Y ho hd hcd hmg hobj hints hlen hg => ?_
  have KX := hY w _ Y
  obtain ⟨fd, hb, hF⟩ := F w mg fa _ KX G.T.g hmg
  exact law_call KX G.T.g G.T.b G.T.builtins G.T.nolimit hg hobj hints (Nat.le_trans hlen hn2) hr hF hb (fun H hO hS => hsp w H a ns hlen hO hS) fun H e s' => hCX w H s₁ e s'
end L2

/- THE LAST THEOREM (shape; LID, My.* are yours):
   My.Adr: a structure of the addresses that your layer names (classes, functions); My.Txt K t: a structure (Prop) of the equations over K;
   My.txt_mk : {K} {implicit addresses ..} (e1 : nsIn K mainGlobals "law" = some (some (.ref f))) (e2 : K.lookup f = some ⟨oc, od, .func (fnOf "law" "law" params body scope dV kV doc pm an cdv ct), sl⟩) (e3 : codeIn K cdv "law" = true) .. : ∃ t, My.Txt K t

set_option maxRecDepth 100000 in
set_option maxHeartbeats 0 in
theorem PySem.Challenge.cw_LID_holds : PySem.Challenge.rw_LID.Holds := by
  w_on; o_law; k_head; (case hw => w_witness2)
  k_fill
  refine L2.walk_of (l := PySem.Challenge.rw_LID) (n := 63) (k := 40) (x := "script") (CX := fun w => ..) (sp := fun _ => My.sp_law) rfl (by decide) rfl ⟨rfl, by decide, by decide⟩ (fun w h Y => PySem.W.kIn_of Y) ?F ?S ?C
  case F =>
    intro w mg fa h KX G hmg
    have T : ∃ t, My.Txt (L2.KOf KX) t := by
      dsimp only [L2.KOf]                          -- K must stand as «<heap const> w.params» for k_is
      refine' My.txt_mk ?e1 ?e2 ?e3 ..
      (case e1 => PySem.W.k_is)                    -- in the order: a name -> its address -> its object -> its parts
      (case e2 => PySem.W.k_is)
      ..
    obtain ⟨t, T⟩ := T
    have e0 := hmg.symm.trans (PySem.W.mg_of KX G T.law)
    cases e0                                       -- fa is the law's own address
    exact ⟨_, fun s u => .of_eq rfl, fun base kb nb => My.law_fn T kb nb⟩     -- if «.of_eq rfl» comes too early: refine' ⟨_, ?b, fun base kb nb => My.law_fn T kb nb⟩; exact fun s u => .of_eq rfl
  case S => exact fun w H a ns hl hO hS => ..
  case C => exact ..
(the tactic k_is has no namespace: write k_is) -/

/-! SHORT WORDS over the layer: a def of the text, its body, what a loop and a test want. -/
namespace L2
open PySem PySem.Spec PyProof.Rows

/-! ### the text by places -/
/-- the j-th statement of a class's body -/
def inClass (s : Stmt) (j : Nat) : Stmt := match s with
  | .ClassDef _ _ _ body _ _ _ _ _ _ _ => body.getD j (.Pass ⟨0, 0, 0, 0⟩)
  | _ => .Pass ⟨0, 0, 0, 0⟩
def defArgs (s : Stmt) : Arguments := match s with
  | .FunctionDef _ a _ _ _ _ _ _ _ _ => a
  | _ => { posonlyargs := [], args := [], vararg := none, kwonlyargs := [], kw_defaults := [], kwarg := none, defaults := [] }
def defBody (s : Stmt) : List Stmt := match s with
  | .FunctionDef _ _ b _ _ _ _ _ _ _ => b
  | _ => []
def defScope (s : Stmt) : Scope := match s with
  | .FunctionDef _ _ _ _ _ _ sc _ _ _ => sc
  | _ => { kind := .function, names := [], isGenerator := false, isCoroutine := false }

/-! ### no exception leaves a def -/
abbrev CX0 : CXT := fun _ _ _ _ _ _ => False
abbrev E0 : XK := fun _ _ _ => False
theorem pass0 {X : Cx} : Passes CX0 X E0 := fun _ _ _ _ _ _ _ h => h.elim

/-! ### a def (or method) of the text as it stands behind the top -/
structure Fun (K : PySem.W.Frag) (x qual : Str) (st : Stmt) (f : Addr) (fd : FuncData) : Prop where
  ex : ∃ (oc : Value) (od : Option Addr) (kV doc pm : Value) (an : Option Addr) (cdv ct : Value) (osl : Array (Option Value)),
    fd = PySem.W.fnOf x qual (defArgs st) (defBody st) (defScope st) .none kV doc pm an cdv ct ∧ K.lookup f = some ⟨oc, od, .func fd, osl⟩ ∧ PySem.W.codeIn K cdv qual = true
  kp : PySem.W.keepIn K (.ref f) = true
section
variable {P : Program} {w : World} {K : PySem.W.Frag} {mg : Str → Option Value} {base : Heap}
/-- THE RULE for a def: its body as a term of rules, and the reading of that term -/
theorem Fun.ok {x qual : Str} {st : Stmt} {f : Addr} {fd : FuncData} {N ps : List Str} {k : Nat} {sp : Sp} (F : Fun K x qual st f fd) (S : FnScope N ps (defScope st)) (len : ∀ vs H Q E, sp vs H Q E → vs.length = ps.length)
    (hbody : ∀ (cdv : Value) (A : Around) (outer : List Env) (s : Shared) (H : Hp) (vs : List V) (Q : VK) (E : XK), Room k (A.deeper (envOfC qual (defScope st) s.heap.objs.size f cdv)) → sp vs H Q E →
      ∃ t, PSs (cxOf CX0 P w K mg base N qual (defScope st) f cdv A outer s H E).nox (defBody st) t ∧ t { nx := fun _ H' => Q .non H', rt := Q } (start N vs) H) : FnOk P w K mg base CX0 (k + 1) f fd ps sp := by
  obtain ⟨oc, od, kV, doc, pm, an, cdv, ct, osl, rfl, lk, hcd⟩ := F.ex
  refine fn_of lk hcd S len fun A outer s H vs Q E hr hsp => ?_
  obtain ⟨t, h, q⟩ := hbody cdv A outer s H vs Q E hr hsp
  exact ⟨t, h.nox, q⟩
/-- how its arguments bind (no defaults): h is «fun _ _ _ _ _ _ us hl => match us, hl with | [_, _], _ => rfl», one _ a parameter -/
theorem Fun.binds {x qual : Str} {st : Stmt} {f : Addr} {fd : FuncData} {ps : List Str} (F : Fun K x qual st f fd)
    (h : ∀ (kV doc pm : Value) (an : Option Addr) (cdv ct : Value) (us : List Value), us.length = ps.length → bindArgs (PySem.W.fnOf x qual (defArgs st) (defBody st) (defScope st) .none kV doc pm an cdv ct) ⟨us, []⟩ = pure (ps.zip us)) : Binds K fd ps [] := by
  obtain ⟨oc, od, kV, doc, pm, an, cdv, ct, osl, rfl, lk, hcd⟩ := F.ex
  exact .all (h kV doc pm an cdv ct)
theorem fun_mk {x qual : Str} {st : Stmt} {f : Addr} {oc : Value} {od an : Option Addr} {osl : Array (Option Value)} {kV doc pm cdv ct : Value} (l : K.lookup f = some ⟨oc, od, .func (PySem.W.fnOf x qual (defArgs st) (defBody st) (defScope st) .none kV doc pm an cdv ct), osl⟩)
    (c : PySem.W.codeIn K cdv qual = true) (k : PySem.W.keepIn K (.ref f) = true) : Fun K x qual st f (PySem.W.fnOf x qual (defArgs st) (defBody st) (defScope st) .none kV doc pm an cdv ct) := ⟨⟨oc, od, kV, doc, pm, an, cdv, ct, osl, rfl, l, c⟩, k⟩
end
theorem hu_of {A : Around} {k : Nat} (hr : Room k A) : A.units + 1 < cLine := Nat.lt_of_le_of_lt (Nat.add_le_add_left (by decide : 1 ≤ 64) _) hr.units
theorem small1000 {n : Nat} (h : n ≤ 1000) : n < sizeLine := Nat.lt_of_le_of_lt h (by decide)

/-! ### expressions in short: the name that stands in the i-th slot -/
section
variable {X : Cx}
theorem pv (i : Nat) {x : Str} {pos : Pos} (hN : X.N[i]? = some x := by rfl) (hv : Vis X.env.scope x := by first | exact Or.inl rfl | exact Or.inr (Or.inl rfl) | exact Or.inr (Or.inr rfl)) (hd : (x == ("__debug__" : Str)) = false := by decide)
    (hcd : (x == ("__classdict__" : Str)) = false := by decide) : PE X (.Name x pos) (tVar i) := pe_var hN hv hd hcd
end

/-! ### tests -/
theorem iteF {A B : Prop} (h : B) : if false = true then A else B := by
  rw [if_neg Bool.false_ne_true]
  exact h
theorem iteT {A B : Prop} (h : A) : if true = true then A else B := by
  rw [if_pos rfl]
  exact h
theorem ite2 {c A B : Prop} [Decidable c] (h1 : c → A) (h2 : ¬ c → B) : if c then A else B := by
  by_cases h : c
  · rw [if_pos h]
    exact h1 h
  · rw [if_neg h]
    exact h2 h
/-! ### heaps -/
/-- all that was tracked is as it was -/
def Same (H H' : Hp) : Prop := ∀ b o, H b = some o → H' b = some o
theorem Same.refl (H : Hp) : Same H H := fun _ _ h => h
/-! ### a dict's pairs: keys that differ -/
section
variable {κ : Type} [DecidableEq κ]
end
end L2
/-! comprehensions -/
namespace L2
open PySem PySem.Spec PyProof.Rows

/-- the closure of a block -/
theorem forIn_pure {α β : Type} {f : α → β → Sem (ForInStep β)} (g : α → β → β) : ∀ (l : List α) (c : β), (∀ x ∈ l, ∀ c, f x c = pure (.yield (g x c))) → forIn l c f = pure (l.foldl (fun c x => g x c) c)
  | [], _, _ => rfl
  | x :: l, c, h => by
    rw [List.forIn_cons, h x List.mem_cons_self, pure_bind]
    exact forIn_pure g l (g x c) fun y hy => h y (List.mem_cons_of_mem _ hy)

def cloStep (env : Env) (p : Str × NameKind) (cs : List (Str × Addr)) : List (Str × Addr) := if (p.2 == NameKind.free) = true then (p.1, (env.cells.lookup p.1).getD 0) :: cs else cs
def cloOf (scope : Scope) (env : Env) : List (Str × Addr) := scope.names.foldl (fun c x => cloStep env x c) []
theorem closure_ok {scope : Scope} {env : Env} (h : ∀ p ∈ scope.names, p.2 = .free → ∃ c, env.cells.lookup p.1 = some c) : closureFor scope env = pure (cloOf scope env) := by
  unfold cloOf
  simp only [closureFor]
  rw [forIn_pure (cloStep env)]
  · rfl
  · intro x hx c
    obtain ⟨n, k⟩ := x
    by_cases hk : k = .free
    · subst hk
      obtain ⟨a, ha⟩ := h _ hx rfl
      have ha : env.cells.lookup n = some a := ha
      simp [cloStep, cellOf, ha]
    · have : (k == NameKind.free) = false := by simpa using hk
      simp [cloStep, this]
theorem clo_fold (env : Env) : ∀ (l : List (Str × NameKind)) (c : List (Str × Addr)), (∀ p ∈ l, p.2 = .free → ∃ a, env.cells.lookup p.1 = some a) →
    (∀ y a, c.lookup y = some a → env.cells.lookup y = some a) → ∀ y a, (l.foldl (fun c x => cloStep env x c) c).lookup y = some a → env.cells.lookup y = some a
  | [], _, _, h, y, a, e => h y a e
  | (n, k) :: r, c, hf, h, y, a, e => by
    refine clo_fold env r (cloStep env (n, k) c) (fun p hp => hf p (List.mem_cons_of_mem _ hp)) (fun z b q => ?_) y a e
    unfold cloStep at q
    split at q
    · rename_i hk
      obtain ⟨d, hd⟩ := hf (n, k) List.mem_cons_self (by simpa using hk)
      have hd : env.cells.lookup n = some d := hd
      rw [List.lookup_cons] at q
      split at q
      · rename_i hz
        have : z = n := by simpa using hz
        subst this
        rw [hd] at q ⊢
        simpa using q
      · exact h z b q
    · exact h z b q
theorem clo_mono (env : Env) : ∀ (l : List (Str × NameKind)) (c : List (Str × Addr)) (y : Str), (∃ a, c.lookup y = some a) → ∃ a, (l.foldl (fun c x => cloStep env x c) c).lookup y = some a
  | [], _, _, h => h
  | (n, k) :: r, c, y, h => by
    refine clo_mono env r _ y ?_
    show ∃ a, (cloStep env (n, k) c).lookup y = some a
    unfold cloStep
    split
    · rw [List.lookup_cons]
      split
      · exact ⟨_, rfl⟩
      · exact h
    · exact h
theorem clo_has (env : Env) : ∀ (l : List (Str × NameKind)) (c : List (Str × Addr)) (y : Str), (y, NameKind.free) ∈ l → ∃ a, (l.foldl (fun c x => cloStep env x c) c).lookup y = some a
  | (n, k) :: r, c, y, h => by
    rcases List.mem_cons.mp h with e | h
    · obtain ⟨rfl, rfl⟩ := Prod.mk.inj e
      refine clo_mono env r _ y ⟨(env.cells.lookup y).getD 0, ?_⟩
      show (cloStep env (y, .free) c).lookup y = _
      unfold cloStep
      rw [if_pos (by rfl), List.lookup_cons]
      simp
    · exact clo_has env r _ y h

/-- a block's scope, held against the frame around it; ls: its own names -/
structure CScope (X : Cx) (ls : List Str) (scope : Scope) : Prop where
  kind : scope.kind = .function
  nocell : ∀ y ∈ scope.names, y.2 ≠ .cell
  names : ∀ y ∈ scope.names, y.2 = .local → scope.names.lookup y.1 = some .local
  loc : ∀ y, scope.names.lookup y = some .local → y ∈ ls
  free : ∀ y ∈ scope.names, y.2 = .free → X.env.kindOf y.1 = some .cell ∨ X.env.kindOf y.1 = some .free

/-- an outer name that the block's own hide -/
def hid (ls : List Str) (y : Str) : Str := if ls.contains y then ⟨#[63] ++ y.cps⟩ else y
/-- the context of a block -/
def cxC (X : Cx) (ls : List Str) (scope : Scope) (C : Addr) (s2 : Shared) (H2 : Hp) (fp : List Addr) : Cx where
  prog := X.prog
  w := X.w
  K := X.K
  mg := X.mg
  base := X.base
  A := X.A
  N := ls ++ X.N.map (hid ls)
  s₀ := s2
  H₀ := H2
  env := compEnvC scope (cloOf scope X.env) C X.env
  outer := X.stack
  stack := X.stack
  ex := fp
  calm := X.calm
  fn := fun _ => false
  pn := []
  xe := fun _ _ => False

theorem relabel_lookup {env : Env} {y : Str} : ∀ {names : List (Str × NameKind)} {k : NameKind}, (names.map fun (n, k) => if (k == NameKind.free && env.scope.kind == .function && env.kindOf n == some .cell) then (n, NameKind.cell) else (n, k)).lookup y = some k →
    names.lookup y = some k ∨ (names.lookup y = some .free ∧ k = .cell)
  | [], _, h => by simp at h
  | (n, j) :: r, k, h => by
    have ih := @relabel_lookup env y r k
    replace h : List.lookup y ((if (j == NameKind.free && env.scope.kind == .function && env.kindOf n == some .cell) = true then (n, NameKind.cell) else (n, j)) :: (r.map fun (n, k) => if (k == NameKind.free && env.scope.kind == .function && env.kindOf n == some .cell) then (n, NameKind.cell) else (n, k))) = some k := h
    by_cases hc : (j == NameKind.free && env.scope.kind == .function && env.kindOf n == some .cell) = true
    · rw [if_pos hc, List.lookup_cons] at h
      rw [List.lookup_cons]
      cases hx : y == n with
      | true =>
        rw [hx] at h
        simp only [Bool.and_eq_true] at hc
        have hj : j = .free := by simpa using hc.1.1
        subst hj
        have h : some NameKind.cell = some k := h
        cases h
        exact .inr ⟨rfl, rfl⟩
      | false =>
        rw [hx] at h
        exact ih h
    · rw [if_neg hc, List.lookup_cons] at h
      rw [List.lookup_cons]
      cases hx : y == n with
      | true => rw [hx] at h; exact .inl h
      | false => rw [hx] at h; exact ih h

/-- the outer names that the block's own hide have no value -/
def hides (N ls : List Str) (σ : St) : Bool := (N.zip σ).all fun p => !(ls.contains p.1) || p.2.isNone
theorem hides_get {N ls : List Str} {σ : St} (h : hides N ls σ = true) {i : Nat} {y : Str} {v : V} (e1 : N[i]? = some y) (e2 : σ[i]? = some (some v)) : y ∉ ls := fun hy => by
  have m : (y, some v) ∈ N.zip σ := by
    refine List.mem_iff_getElem?.mpr ⟨i, ?_⟩
    rw [List.getElem?_zip_eq_some]
    exact ⟨e1, e2⟩
  have q := List.all_eq_true.mp h _ m
  simp [hy] at q

/-- the block is entered -/
theorem inv_block {X : Cx} {pins : List (Addr × Obj)} {σ : St} {H2 : Hp} {s2 : Shared} {ls : List Str} {scope : Scope} {fp : List Addr} {C : Addr} {h1 : Heap} {m : Str → Option Value} {tk : Nat}
    (I : Inv X pins σ H2 s2) (S : CScope X ls scope) (hh : hides X.N ls σ = true) (f2 : ∀ b ∈ fp, FpOk X pins H2 b) (ho : ∀ b ∈ fp, ∃ o, s2.heap.get? b = some o) (hC : s2.heap.objs.size ≤ C) (hn : h1.Ns C m)
    (old : ∀ b o, s2.heap.get? b = some o → h1.get? b = some o) :
    Inv (cxC X ls scope C s2 H2 fp) [] (List.replicate ls.length none ++ σ) H2 { s2 with heap := h1, toks := tk } := by
  have cf : ∀ p ∈ scope.names, p.2 = .free → ∃ c, X.env.cells.lookup p.1 = some c := fun p hp e => I.ok.has _ (S.free p hp e)
  have c1 : ∀ y a, (cloOf scope X.env).lookup y = some a → X.env.cells.lookup y = some a := clo_fold X.env scope.names [] cf (fun y a e => by simp at e)
  have c2 : ∀ y, scope.names.lookup y = some .free → ∃ a, (cloOf scope X.env).lookup y = some a := fun y hy => clo_has X.env scope.names [] y (PySem.mem_of_lookup hy)
  have lt2 : ∀ b ∈ fp, b < s2.heap.objs.size := fun b hb => let ⟨o, e⟩ := ho b hb; Heap.lt_size e
  have kinds : ∀ y k, (relabel scope X.env).names.lookup y = some k → k = .cell ∨ k = .free → scope.names.lookup y = some .free := fun y k h hk => by
    rcases relabel_lookup (env := X.env) h with q | ⟨q, _⟩
    · rcases hk with rfl | rfl
      · exact absurd rfl (S.nocell _ (PySem.mem_of_lookup q))
      · exact q
    · exact q
  refine ⟨⟨I.ok.mod, S.kind, I.ok.glob, I.ok.blt, hC, fun x y c e1 e2 => I.ok.inj x y c (c1 x c e1) (c1 y c e2), fun x hx => ?_, fun x c h => absurd h Bool.false_ne_true, I.ok.hd, I.ok.frames, .inl rfl, fun b hb => ⟨?_, fun x c e => (f2 b hb).2.2.2.2.1 x c (c1 x c e)⟩, I.bs, Nat.le_trans I.ok.bsz I.sz, fun b o e hb => ?_, fun b hb hz => ?_, I.stack, I.stkFree⟩,
    rfl, I.bare, Un.kept old, ⟨m, hn, fun i y v e1 e2 e3 => ?_⟩, fun x c e => ?_, I.hok.fresh hC, fun x c e => I.freeC x c (c1 x c e), fun p hp => absurd (show p ∈ ([] : List (Addr × Obj)) from hp) (by simp), I.hok.kept old, ?_⟩
  · have hx : (relabel scope X.env).names.lookup x = some .cell ∨ (relabel scope X.env).names.lookup x = some .free := hx
    rcases hx with hx | hx
    · exact c2 x (kinds x _ hx (.inl rfl))
    · exact c2 x (kinds x _ hx (.inr rfl))
  · exact Nat.ne_of_lt (Nat.lt_of_lt_of_le (lt2 b hb) hC)
  · rcases (f2 b hb).2.2.2.1 with z | z
    · exact I.ok.noex b o e z
    · exact absurd (Nat.lt_of_lt_of_le (Heap.lt_size e) (Nat.le_trans I.ok.bsz z)) (Nat.lt_irrefl _)
  · rcases List.mem_cons.mp (I.stkSub b hz) with z | z
    · exact (f2 b hb).2.1 z
    · exact (f2 b hb).2.2.1 z
  · have e1 : (ls ++ X.N.map (hid ls))[i]? = some y := e1
    by_cases hi : i < ls.length
    · rw [List.getElem?_append_left (by simpa using hi), List.getElem?_replicate] at e2
      rw [if_pos hi] at e2
      cases e2
    · rw [List.getElem?_append_right (by omega)] at e1
      rw [List.getElem?_append_right (by simpa using hi), List.length_replicate] at e2
      rw [List.getElem?_map] at e1
      obtain ⟨y0, e1', ey⟩ := Option.map_eq_some_iff.mp e1
      have ny := hides_get hh e1' e2
      unfold hid at ey
      rw [if_neg (by simpa using ny)] at ey
      rw [ey] at e1' ny
      have e1 := e1'
      have e3 : (relabel scope X.env).names.lookup y = some .local ∨ (relabel scope X.env).names.lookup y = some .cell ∨ (relabel scope X.env).names.lookup y = some .free := e3
      have fr : scope.names.lookup y = some .free := by
        rcases e3 with q | q | q
        · rcases relabel_lookup (env := X.env) q with z | ⟨_, z⟩
          · exact absurd (S.loc y z) ny
          · cases z
        · exact kinds y _ q (.inl rfl)
        · exact kinds y _ q (.inr rfl)
      have kx := S.free _ (PySem.mem_of_lookup fr) rfl
      obtain ⟨m2, _, hl⟩ := I.loc
      obtain ⟨u, r, l⟩ := hl _ y v e1 e2 (.inr kx)
      refine ⟨u, r, ?_⟩
      have knd : (relabel scope X.env).names.lookup y = some .cell ∨ (relabel scope X.env).names.lookup y = some .free := by
        rcases e3 with q | q
        · rcases relabel_lookup (env := X.env) q with z | ⟨_, z⟩
          · exact absurd (S.loc y z) ny
          · cases z
        · exact q
      rcases l with ⟨k1, _⟩ | ⟨_, c, hc, hcell⟩
      · have kx : X.env.kindOf y = some .cell ∨ X.env.kindOf y = some .free := kx
        rcases kx with z | z <;> (rw [k1] at z; cases z)
      · obtain ⟨c', hc'⟩ := c2 y fr
        have := c1 y c' hc'
        rw [hc] at this
        cases this
        refine .inr ⟨knd, c, hc', ?_⟩
        obtain ⟨o, ho, hd⟩ := hcell
        exact ⟨o, old _ _ ho, hd⟩
  · obtain ⟨v, o, ho, hd⟩ := I.cell x c (c1 x c e)
    exact ⟨v, o, old _ _ ho, hd⟩
  · show (List.replicate ls.length none ++ σ).length = (ls ++ X.N.map (hid ls)).length
    rw [List.length_append, List.length_append, List.length_replicate, List.length_map, I.len]

/-- the block is left: behind it the list at D stands -/
theorem inv_left {X : Cx} {pins : List (Addr × Obj)} {σ σ' : St} {H2 H3 : Hp} {s2 s' : Shared} {ls : List Str} {scope : Scope} {fp : List Addr} {C D : Addr} {h' : Heap} {ys : List V} {its : List Value} {n : Nat} {pl : List (Addr × Obj)}
    (I : Inv X pins σ H2 s2) (f2 : ∀ b ∈ fp, FpOk X pins H2 b) (J : Inv (cxC X ls scope C s2 H2 fp) pl σ' H3 s') (hD : s2.heap.objs.size ≤ D) (hC : s2.heap.objs.size ≤ C) (hDC : D ≠ C)
    (sb : Heap.SameBut C s'.heap h') (hD3 : H3 D = none) (e : s'.heap.get? D = some { cls := .type "list", data := .seq its.toArray n }) (r : Vals ys its) (z : ys.length ≤ sizeLine) : Inv X pins σ (upd H3 D (.lst ys)) { s' with heap := h' } := by
  have ext : ∀ b o, b ≠ C → s'.heap.get? b = some o → h'.get? b = some o := fun b o hb e => sb.extBut b o hb e
  have neD : ∀ b, b < s2.heap.objs.size → b ≠ D := fun b hb => Nat.ne_of_lt (Nat.lt_of_lt_of_le hb hD)
  have neC : ∀ b, b < s2.heap.objs.size → b ≠ C := fun b hb => Nat.ne_of_lt (Nat.lt_of_lt_of_le hb hC)
  have lt : ∀ b u, H2 b = some u → b < s2.heap.objs.size := fun b u q => by
    apply Classical.byContradiction
    intro hb
    have := I.hok.fresh (Nat.le_of_not_lt hb)
    rw [this] at q
    cases q
  have fC : H3 C = none := J.free
  refine I.call' (s' := { s' with heap := h' }) (ch := fp) J.os ⟨fun b o q n hb hx => ?_, fun b o q n hb hx => ?_, fun b o q n hx => ?_, fun b o q hx => ?_, fun b xs q => ?_, fun b o u q => ?_, fun b ps q => ?_⟩ (fun b u q => ?_) J.bare fun b hb => ?_
  · exact ext b o (neC b (Heap.lt_size q)) (J.base.keep b o q n hb hx)
  · obtain ⟨sl, w⟩ := J.base.slot b o q n hb hx
    exact ⟨sl, ext b _ (neC b (Heap.lt_size q)) w⟩
  · rw [upd_ne (neD b (Heap.lt_size q))]
    exact J.base.free b o q n hx
  · obtain ⟨o', w⟩ := J.base.there b o q hx
    exact ⟨o', ext b _ (neC b (Heap.lt_size q)) w⟩
  · rw [upd_ne (neD b (lt b _ q))]; exact J.base.tups b xs q
  · rw [upd_ne (neD b (lt b _ q))]; exact J.base.frzs b o u q
  · rw [upd_ne (neD b (lt b _ q))]; exact J.base.tbls b ps q
  · by_cases hb : b = D
    · subst hb
      rw [upd_same] at q
      cases q
      exact ⟨z, its, n, r, ext _ _ hDC e⟩
    · rw [upd_ne hb] at q
      have ne1 : b ≠ C := fun w => by rw [w, fC] at q; cases q
      have ow : ∀ c u, H3 c = some u → c ≠ D := fun c u w z => by rw [z, hD3] at w; cases w
      have oc : ∀ c u, H3 c = some u → c ≠ C := fun c u w z => by rw [z, fC] at w; cases w
      refine (J.hok b u q).stay (fun c v hc w => ext c v ?_ w) (fun c w => by rw [upd_ne (ow c _ w)]; exact w) fun c xs w => by rw [upd_ne (ow c _ w)]; exact w
      rcases hc with rfl | hc
      · exact ne1
      · exact oc c _ hc
  · obtain ⟨a1, a2, a3, a4, a5, a6⟩ := f2 b hb
    exact ⟨a4, a2, a5, a6⟩

/-- the tests of a clause -/
def PIfs (X : Cx) (ifs : List Expr) (t : TT) : Prop :=
  ∀ (pins : List (Addr × Obj)) (s : Shared) (σ : St) (H : Hp) (Q : Bool → Hp → Prop), Inv X pins σ H s → t σ H Q →
    wpAny (model X.prog X.w) X.A (forIn ifs true fun c r => if r = true then do let ok ← isTrue c X.env (eval c X.env); pure (ForInStep.yield ok) else pure (ForInStep.yield r)) (TP X pins σ Q) X.xe s
def tYes : TT := fun _ H Q => Q true H
theorem pif_nil {X : Cx} : PIfs X [] tYes := fun _ _ _ H _ I h => wpAny_tests_nil ⟨H, I, h⟩
/-- [e for g in w if t] -/
def CompW (J : It) (ls : List Str) (g : TG) (tt : TT) (te : TE) (σ : St) (H1 : Hp) (Q : VK) : Prop := ∃ W : Nat → Nat → List V → Hp → Prop, (∃ m, W 0 m [] H1) ∧ ∀ i m ys H, W i m ys H →
  (J.stop i H ∧ ∀ D, H D = none → Q (.ref D) (upd H D (.lst ys))) ∨
  (J.go i H ∧ ∃ R : List V → Hp → Prop, (∀ ys' H', R ys' H' → ∃ m', m' < m ∧ W (i + 1) m' ys' H') ∧ ∀ y H', J.yld i H y H' →
    g y (List.replicate ls.length none ++ σ) H' fun σ2 H2 => σ2.drop ls.length = σ ∧ σ2.length = ls.length + σ.length ∧ tt σ2 H2 fun b H3 => if b = true then te σ2 H3 fun v H4 => ys.length < sizeLine ∧ R (ys ++ [v]) H4 else R ys H3)
def tComp (N ls : List Str) (wi : TI) (g : TG) (tt : TT) (te : TE) : TE := fun σ H Q => hides N ls σ = true ∧ wi σ H fun J H1 => CompW J ls g tt te σ H1 Q

theorem codeAny_compLoop_any {prog : Program} {w : World} {A : Around} {R : Result → Shared → Prop} {s : Shared} {elt target iter : Expr} {ifs : List Expr} {scope : Scope} {pos : Pos} {it acc : Value} {env : Env} (I : Nat → Shared → Prop)
    (turn : ∀ n s, I n s → wpAny (model prog w) A (pyNext it) (fun r s₁ => match r with
      | none => R (.ok .next) s₁
      | some v => wpAny (model prog w) A (letOwnedTupleGo target it v) (fun _ s₁ => wpAny (model prog w) A (assign target env v) (fun _ s₂ =>
          wpAny (model prog w) A (forIn ifs true fun c r => if r = true then do let ok ← isTrue c env (eval c env); pure (ForInStep.yield ok) else pure (ForInStep.yield r)) (fun ok s₃ =>
            if ok = true then wpAny (model prog w) A (eval elt env) (fun x s₄ =>
              wpAny (model prog w) A (call (.builtin "list.append") [acc, x]) (fun _ s₅ => ∃ m, m < n ∧ I m s₅) (notedBy (model prog w) A env fun e s' => R (.error e) s') s₄) (notedBy (model prog w) A env fun e s' => R (.error e) s') s₃
            else ∃ m, m < n ∧ I m s₃) (notedBy (model prog w) A env fun e s' => R (.error e) s') s₂) (notedBy (model prog w) A env fun e s' => R (.error e) s') s₁) (notedBy (model prog w) A env fun e s' => R (.error e) s') s₁) (notedBy (model prog w) A env fun e s' => R (.error e) s') s)
    (n : Nat) (h : I n s) :
    codeAny (model prog w) A (.compLoop (.ListComp elt [⟨target, iter, ifs, 0⟩] scope pos) 0 it acc env) R s := by
  refine codeAny_loop rfl I (fun n s hI => ?_) n h
  show wpAny _ A ((compTurn (.ListComp elt [⟨target, iter, ifs, 0⟩] scope pos) 0 it acc env).onRaise (fun x => do noteFrame x env; theTreesLotGoes x)) _ _ s
  refine wpAny_noted ?_
  rw [compTurn_list]
  refine wpAny_bind (wpAny_standAt (wpAny_bind (wpAny_mono (turn n s hI) (fun r s₁ h₁ => ?_) fun _ _ h' => h')))
  cases r with
  | none => exact wpAny_pure h₁
  | some v =>
    refine wpAny_bind (wpAny_mono h₁ (fun _ s₁ h₁ => ?_) fun _ _ h' => h')
    refine wpAny_bind (wpAny_mono h₁ (fun _ s₂ h₂ => wpAny_bind (wpAny_mono h₂ (fun ok s₃ h₃ => ?_) fun _ _ h' => h')) fun _ _ h' => h')
    cases ok with
    | false => exact wpAny_pure ⟨rfl, h₃⟩
    | true =>
      exact wpAny_bind (wpAny_bind (wpAny_mono h₃ (fun x s₄ h₄ => wpAny_bind (wpAny_mono h₄ (fun _ s₅ h₅ => wpAny_pure (wpAny_pure ⟨rfl, h₅⟩)) fun _ _ h' => h')) fun _ _ h' => h'))

/-- weaken from nothing wished of exceptions -/
theorem thx {α : Type} {t : Sem α} {Q Q' : α → Shared → Prop} {M : Model} {A : Around} {E : Value → Shared → Prop} {s : Shared} (h : wpAny M A t Q (fun _ _ => False) s) (hQ : ∀ a s, Q a s → Q' a s) : wpAny M A t Q' E s := wpAny_mono h hQ fun _ _ x => x.elim

section
variable {X : Cx} {elt iter tg : Expr} {ifs : List Expr} {scope : Scope} {pos : Pos} {ls : List Str} {wi : TI} {g : TG} {tt : TT} {te : TE}
/-- the whole, with what is done with the list -/
theorem comp_core {use : Option (Value → Sem Unit)} {pins : List (Addr × Obj)} {s : Shared} {σ : St} {H : Hp} {Q : VK} {QQ : Value → Shared → Prop} {pos' : Pos} (hcalm : X.calm = true) (S : CScope X ls scope) (hi : PI X tg iter wi)
    (hg : ∀ C s2 H2 fp, PG (cxC X ls scope C s2 H2 fp) tg g) (ht : ∀ C s2 H2 fp, PIfs (cxC X ls scope C s2 H2 fp) ifs tt) (he : ∀ C s2 H2 fp, PE (cxC X ls scope C s2 H2 fp) elt te)
    (hs : ∀ x, foldedSetIterable iter X.env x = pure x) (I : Inv X pins σ H s) (h : tComp X.N ls wi g tt te σ H Q)
    (hQQ : ∀ (D C : Addr) (s' : Shared) (H' : Hp), (∃ m, s'.heap.Ns C m) → FpOk X pins H' C → (∀ h', Heap.SameBut C s'.heap h' → Inv X pins σ H' { s' with heap := h' }) → Q (.ref D) H' → compPost (model X.prog X.w) X.A X.xe use QQ (.ref D) C (.ok .next) s') :
    wpAny (model X.prog X.w) X.A (comprehension (.ListComp elt [⟨tg, iter, ifs, 0⟩] scope pos) scope X.env pos' (newList []) false (eval iter X.env) use) QQ X.xe s := by
  obtain ⟨hh, h⟩ := h
  have cf : ∀ p ∈ scope.names, p.2 = .free → ∃ c, X.env.cells.lookup p.1 = some c := fun p hp e => I.ok.has _ (S.free p hp e)
  refine wpAny_comprehension_free (use := use) rfl hs (closure_ok cf) S.kind S.names (thn (hi pins s σ H _ I h) fun v s1 h1 => thn h1 fun itv s2 h2 => ?_)
  obtain ⟨it, fp, tn, J, H2, rfl, I2, T, st2, f2, W, ⟨m0, w0⟩, turn⟩ := h2
  refine wpAny_newObj_type (wpAny_newFunctionEnv S.nocell (by intro y hy; simp at hy) (fun h₁ hns₁ hsb₁ => ?_) S.kind)
  dsimp only at hns₁ hsb₁ ⊢
  generalize hH2 : s2.heap.push { cls := .type "list", dict := none, data := .seq ([] : List Value).toArray } = G2 at hns₁ hsb₁ ⊢
  have hC : G2.objs.size = s2.heap.objs.size + 1 := by rw [← hH2, Heap.size_push]
  have hDC : s2.heap.objs.size ≠ G2.objs.size := by rw [hC]; exact Nat.ne_of_lt (Nat.lt_succ_self _)
  have hCle : s2.heap.objs.size ≤ G2.objs.size := by rw [hC]; exact Nat.le_succ _
  have old : ∀ b o, s2.heap.get? b = some o → h₁.get? b = some o := fun b o e => hsb₁.extBut b o (Nat.ne_of_lt (Nat.lt_of_lt_of_le (Heap.lt_size e) hCle)) (Heap.get?_push_of_some _ (hH2 ▸ Heap.get?_push_of_some _ e))
  have hacc : h₁.get? s2.heap.objs.size = some { cls := .type "list", data := .seq ([] : List Value).toArray } := hsb₁.extBut _ _ hDC (Heap.get?_push_of_some _ (hH2 ▸ Heap.get?_push_size _ rfl))
  have hobj : ∀ b ∈ fp, ∃ o, s2.heap.get? b = some o := fun b hb => let ⟨o, e, _⟩ := T.obj 0 _ st2 b hb; ⟨o, e⟩
  have ltf : ∀ b ∈ fp, b < s2.heap.objs.size := fun b hb => let ⟨o, e⟩ := hobj b hb; Heap.lt_size e
  have nofD : s2.heap.objs.size ∉ (cxC X ls scope G2.objs.size s2 H2 fp).fs := fun z => by
    rcases List.mem_cons.mp (I2.stkSub _ z) with z | z
    · exact absurd I2.lt (by rw [← z]; exact Nat.lt_irrefl _)
    · exact I2.nofs (Nat.le_refl _) z
  have st1 : tn 0 h₁ := T.keep 0 _ _ st2 fun b _ o e => old b o e
  have J0 : ∀ tk, Inv (cxC X ls scope G2.objs.size s2 H2 fp) [] (List.replicate ls.length none ++ σ) H2 { s2 with heap := h₁, toks := tk } := fun tk => inv_block I2 S hh f2 hobj hCle hns₁ old
  -- what holds of the walked things in the block
  have fpY : ∀ (Hx : Hp) (pl : List (Addr × Obj)), (∀ b ∈ fp, Hx b = none) → (∀ p ∈ pl, s2.heap.objs.size ≤ p.1) → ∀ b ∈ fp, FpOk (cxC X ls scope G2.objs.size s2 H2 fp) pl Hx b := fun Hx pl hx hp b hb =>
    ⟨hx b hb, ((J0 0).ok.exf b hb).1, (J0 0).ok.exfs b hb, .inl hb, ((J0 0).ok.exf b hb).2, fun p hpp => by
      have hpp : p ∈ pl := by simpa [cxC] using hpp
      exact Nat.ne_of_gt (Nat.lt_of_lt_of_le (ltf b hb) (hp p hpp))⟩
  have loop : ∀ s₃ : Shared, s₃ = { s2 with heap := h₁, toks := s2.toks + ([] : List (Str × Value)).length } →
      codeAny (model X.prog X.w) X.A (.compLoop (.ListComp elt [⟨tg, iter, ifs, 0⟩] scope pos) 0 (.ref it) (.ref s2.heap.objs.size) (compEnvC scope (cloOf scope X.env) G2.objs.size X.env))
        (compPost (model X.prog X.w) X.A X.xe use QQ (.ref s2.heap.objs.size) G2.objs.size) s₃ := by
    rintro s₃ rfl
    refine codeAny_compLoop_any (fun n s' => ∃ (i : Nat) (ys : List V) (its : List Value) (k : Nat) (H' : Hp), Inv (cxC X ls scope G2.objs.size s2 H2 fp) [] (List.replicate ls.length none ++ σ) H' s' ∧ tn i s'.heap ∧ (∀ b ∈ fp, H' b = none) ∧ H' s2.heap.objs.size = none ∧
      s'.heap.get? s2.heap.objs.size = some { cls := .type "list", data := .seq its.toArray k } ∧ Vals ys its ∧ ys.length ≤ sizeLine ∧ W i n ys H') ?_ m0
      ⟨0, [], [], 0, H2, J0 _, st1, fun b hb => (f2 b hb).1, I2.hok.fresh (Nat.le_refl _), hacc, .nil, Nat.zero_le _, w0⟩
    rintro n s3 ⟨i, ys, its, k, H3, I3, st3, fr3, d3, e3, r3, z3, w3⟩
    have big : ∀ p ∈ [((s2.heap.objs.size : Addr), ({ cls := .type "list", data := .seq its.toArray k } : Obj))], s2.heap.objs.size ≤ p.1 := fun p hp => by
      have this := List.mem_singleton.mp hp
      subst this
      exact Nat.le_refl _
    rcases turn i n ys H3 w3 with ⟨stop, qn⟩ | ⟨go, R, hR, step⟩
    · -- the end
      have P3 : Inv (cxC X ls scope G2.objs.size s2 H2 fp) [(s2.heap.objs.size, { cls := .type "list", data := .seq its.toArray k })] (List.replicate ls.length none ++ σ) H3 s3 := I3.pins_of fun p hp => by
        have this := List.mem_singleton.mp hp
        subst this
        exact ⟨e3, d3, hDC, nofD, fun v z => by cases z⟩
      refine thx (T.done (cxC X ls scope G2.objs.size s2 H2 fp) rfl rfl rfl hcalm i _ s3 _ H3 (fun _ _ => False) P3 (fpY H3 _ fr3 big) st3 stop) fun r s4 ⟨hr, I4⟩ => ?_
      subst hr
      obtain ⟨m, hm, _⟩ := I4.loc
      have e4 := (I4.pin _ (List.mem_append_right _ (List.mem_singleton.mpr rfl))).1
      exact hQQ _ _ s4 _ ⟨m, hm⟩ (I2.fpOk hCle (by rw [upd_ne (Ne.symm hDC)]; exact I4.free)) (fun h' sb => inv_left I2 f2 I4 (Nat.le_refl _) hCle hDC sb d3 e4 r3 z3) (qn _ d3)
    · -- a turn
      have P3 : Inv (cxC X ls scope G2.objs.size s2 H2 fp) [(s2.heap.objs.size, { cls := .type "list", data := .seq its.toArray k })] (List.replicate ls.length none ++ σ) H3 s3 := I3.pins_of fun p hp => by
        have this := List.mem_singleton.mp hp
        subst this
        exact ⟨e3, d3, hDC, nofD, fun v z => by cases z⟩
      refine thx (T.item (cxC X ls scope G2.objs.size s2 H2 fp) rfl rfl rfl hcalm i _ s3 _ H3 (fun _ _ => False) P3 (fpY H3 _ fr3 big) st3 go) fun r s4 ⟨u, hr, h4⟩ => ?_
      subst hr
      refine thx h4 fun _ s5 ⟨x, H5, I5, r5, y5, st5, fr5⟩ => ?_
      have I5' := I5.pinned (fpY H5 _ fr5 big) (T.obj _ _ st5)
      refine thx (hg _ _ _ _ _ s5 _ H5 x u _ I5' r5 (step x H5 y5)) fun _ s6 ⟨σ6, H6, I6, q6⟩ => ?_
      obtain ⟨dr, ln, q6⟩ := q6
      -- behind the turn
      have back : ∀ {s7 : Shared} {H7 : Hp}, Inv (cxC X ls scope G2.objs.size s2 H2 fp) ([((s2.heap.objs.size : Addr), ({ cls := .type "list", data := .seq its.toArray k } : Obj))] ++ pinsAt fp s5.heap) σ6 H7 s7 →
          Inv (cxC X ls scope G2.objs.size s2 H2 fp) [] (List.replicate ls.length none ++ σ) H7 s7 ∧ tn (i + 1) s7.heap ∧ (∀ b ∈ fp, H7 b = none) ∧ H7 s2.heap.objs.size = none ∧ s7.heap.get? s2.heap.objs.size = some { cls := .type "list", data := .seq its.toArray k } := fun {s7 H7} I7 => by
        have pD := I7.pin _ (List.mem_append_right _ (List.mem_append_left _ (List.mem_singleton.mpr rfl)))
        have pF : ∀ b ∈ fp, ∀ o, s5.heap.get? b = some o → s7.heap.get? b = some o ∧ H7 b = none := fun b hb o e => by
          have q := I7.pin (b, o) (List.mem_append_right _ (List.mem_append_right _ (mem_pinsAt hb e)))
          exact ⟨q.1, q.2.1⟩
        refine ⟨(I7.pins_of (pins' := []) fun p hp => absurd hp (by simp)).weak ?_ ?_, T.keep _ _ _ st5 fun b hb o e => (pF b hb o e).1, fun b hb => ?_, pD.2.1, pD.1⟩
        · rw [ln, List.length_append, List.length_replicate]
        · intro j v ej
          by_cases hj : j < ls.length
          · rw [List.getElem?_append_left (by simpa using hj), List.getElem?_replicate, if_pos hj] at ej
            cases ej
          · rw [List.getElem?_append_right (by simpa using hj), List.length_replicate, ← dr, List.getElem?_drop] at ej
            rw [← ej]
            congr 1
            omega
        · obtain ⟨o, e, _⟩ := T.obj _ _ st5 b hb
          exact (pF b hb o e).2
      refine thx (ht _ _ _ _ _ s6 σ6 H6 _ I6 q6) fun b s7 ⟨H7, I7, q7⟩ => ?_
      cases b with
      | false =>
        rw [if_neg Bool.false_ne_true] at q7 ⊢
        obtain ⟨m', hm, w7⟩ := hR _ _ q7
        obtain ⟨a1, a2, a3, a4, a5⟩ := back I7
        exact ⟨m', hm, i + 1, ys, its, k, H7, a1, a2, a3, a4, a5, r3, z3, w7⟩
      | true =>
        rw [if_pos rfl] at q7 ⊢
        refine thx (he _ _ _ _ _ s7 σ6 H7 _ I7 q7) fun y s8 ⟨v, H8, I8, r8, z8, q8⟩ => ?_
        obtain ⟨m', hm, w8⟩ := hR _ _ q8
        obtain ⟨a1, a2, a3, a4, a5⟩ := back I8
        have pl : s8.heap.PlainList s2.heap.objs.size its.toArray := ⟨k, a5⟩
        refine wpAny_list_append_plain (hsz := by rw [List.size_toArray, ← r3.length]; exact z3) pl fun h9 hl9 hs9 => ?_
        obtain ⟨k9, e9⟩ := hl9
        have cellN : ∀ (y : Str) (c : Addr), (cxC X ls scope G2.objs.size s2 H2 fp).env.cells.lookup y = some c → c ≠ s2.heap.objs.size := fun y c e => by
          have e1 : X.env.cells.lookup y = some c := clo_fold X.env scope.names [] cf (fun y a e => by simp at e) y c e
          obtain ⟨v, o, ho, _⟩ := I2.cell y c e1
          exact Nat.ne_of_lt (Heap.lt_size ho)
        have I9 : Inv (cxC X ls scope G2.objs.size s2 H2 fp) [] (List.replicate ls.length none ++ σ) H8 { s8 with heap := h9 } :=
          a1.turned (t' := s8.toks) (fun b o hb e => hs9.extBut b o hb e) a4 hDC (.inr (Nat.le_refl _)) cellN (fun p hp => absurd (show p ∈ ([] : List (Addr × Obj)) from hp) (by simp))
        refine ⟨m', hm, i + 1, ys ++ [v], its ++ [y], k9, H8, I9, T.keep _ _ _ a2 fun b hb o e => hs9.extBut b o (Nat.ne_of_lt (ltf b hb)) e, a3, a4, ?_, r3.append (.cons r8 .nil), ?_, w8⟩
        · simpa using e9
        · rw [List.length_append, List.length_singleton]; exact z8
  exact codeAny_compStart_list (loop _ rfl) (T.self _ 0 _ _ _ st1 (loop _ rfl))

theorem pe_comp (hcalm : X.calm = true) (S : CScope X ls scope) (hi : PI X tg iter wi)
    (hg : ∀ C s2 H2 fp, PG (cxC X ls scope C s2 H2 fp) tg g) (ht : ∀ C s2 H2 fp, PIfs (cxC X ls scope C s2 H2 fp) ifs tt) (he : ∀ C s2 H2 fp, PE (cxC X ls scope C s2 H2 fp) elt te)
    (hs : ∀ x, foldedSetIterable iter X.env x = pure x := by intro _; rfl) : PE X (.ListComp elt [⟨tg, iter, ifs, 0⟩] scope pos) (tComp X.N ls wi g tt te) := by
  intro pins s σ H Q I h
  rw [eval_ListComp]
  refine comp_core (use := none) hcalm S hi hg ht he hs I h fun D C s' H' hm _ hI q => ?_
  obtain ⟨m, hm⟩ := hm
  exact ⟨m, hm, fun h' sb => ⟨.ref D, H', hI h' sb, rfl, q⟩⟩
end

/-! ### the forms one uses -/
end L2
/-! more operations by values -/
namespace L2
open PySem PySem.Spec PyProof.Rows

/-! ### a block's scope, decided -/
def cscopeB (ls : List Str) (sc outer : Scope) : Bool := (sc.kind == .function) && sc.names.all fun y => (y.2 != .cell) && (y.2 != .local || (sc.names.lookup y.1 == some .local && ls.contains y.1)) && (y.2 != .free || outer.names.lookup y.1 == some .cell || outer.names.lookup y.1 == some .free)
theorem CScope.of {X : Cx} {ls : List Str} {scope : Scope} (outer : Scope) (h : cscopeB ls scope outer = true := by decide +kernel) (ho : X.env.scope = outer := by rfl) : CScope X ls scope := by
  unfold cscopeB at h
  rw [Bool.and_eq_true, List.all_eq_true] at h
  obtain ⟨h0, h⟩ := h
  refine ⟨by simpa using h0, fun y hy e => ?_, fun y hy e => ?_, fun y hy => ?_, fun y hy e => ?_⟩
  · have q := h y hy
    simp [e] at q
  · have q := h y hy
    simp [e] at q
    exact q.1
  · have q := h _ (PySem.mem_of_lookup hy)
    simp at q
    exact q.2
  · have q := h y hy
    simp [e] at q
    show X.env.scope.names.lookup y.1 = _ ∨ X.env.scope.names.lookup y.1 = _
    rw [ho]
    exact q

/-! ### products of great numbers -/
def CMulB (i j : Int) : Prop := i.natAbs < 2 ^ 65536 ∧ j.natAbs < 2 ^ 65536
theorem bits_le {i : Int} {n : Nat} (h : i.natAbs < 2 ^ n) : Builtin.Int.intBits i ≤ n := by
  unfold Builtin.Int.intBits
  split
  · exact Nat.zero_le _
  · rename_i hz
    have hz' : i.natAbs ≠ 0 := by
      intro e
      exact hz (by simp_all)
    have := (Nat.log2_lt hz').mpr h
    omega
theorem CMulB.ok {i j : Int} (h : CMulB i j) : IntMulOk i j := .of_bits (Nat.le_trans (bits_le h.1) (by decide)) (Nat.le_trans (bits_le h.2) (by decide))
section
variable {X : Cx}
/-! ### sum of a list of ints -/
/-! ### isinstance -/
/-! ### dict(d), d == e -/
/-! ### == of nested lists and tuples -/
mutual
inductive Den (K : PySem.W.Frag) (H : Hp) : V → PyData → Prop
  | non : Den K H .non .none
  | bl (b) : Den K H (.bl b) (.bool b)
  | int (i) : Den K H (.int i) (.int i)
  | str (x) : Den K H (.str x) (.str x)
  | lst {a xs ds} : SqL K H a xs → DenAll K H xs ds → Den K H (.ref a) (.list ds)
  | tup {a xs ds} : SqT K H a xs → DenAll K H xs ds → Den K H (.ref a) (.tuple ds)
inductive DenAll (K : PySem.W.Frag) (H : Hp) : List V → List PyData → Prop
  | nil : DenAll K H [] []
  | cons {x xs d ds} : Den K H x d → DenAll K H xs ds → DenAll K H (x :: xs) (d :: ds)
end
mutual
theorem den_reads {pins : List (Addr × Obj)} {σ : St} {H : Hp} {s : Shared} (I : Inv X pins σ H s) : ∀ {x : V} {d : PyData} {u : Value}, Den X.K H x d → RelV x u → ∃ as, Reads s.heap u d as
  | _, _, _, .non, r => by cases r; exact ⟨_, .none⟩
  | _, _, _, .bl b, r => by cases r; exact ⟨_, .bool b⟩
  | _, _, _, .int i, r => by obtain ⟨t, rfl⟩ := r; exact ⟨_, .int i t⟩
  | _, _, _, .str i, r => by obtain ⟨t, rfl⟩ := r; exact ⟨_, .str i t⟩
  | _, _, _, .lst hq ha, r => by
    cases r
    obtain ⟨its, rv, ⟨o, n, e1, e2, e3, e4⟩, hz⟩ := I.list hq
    obtain ⟨as, h⟩ := den_readsAll I ha rv
    exact ⟨_, .list e1 e2 e4 (by simpa using h)⟩
  | _, _, _, .tup hq ha, r => by
    cases r
    obtain ⟨its, rv, ⟨o, e1, e2, n, e3⟩, hz⟩ := I.tuple hq
    obtain ⟨as, h⟩ := den_readsAll I ha rv
    exact ⟨_, .tuple e1 e2 e3 (by simpa using h)⟩
theorem den_readsAll {pins : List (Addr × Obj)} {σ : St} {H : Hp} {s : Shared} (I : Inv X pins σ H s) : ∀ {xs : List V} {ds : List PyData} {us : List Value}, DenAll X.K H xs ds → Vals xs us → ∃ as, ReadsAll s.heap us ds as
  | _, _, _, .nil, .nil => ⟨_, .nil⟩
  | _, _, _, .cons h t, .cons r rs => by
    obtain ⟨as, h1⟩ := den_reads I h r
    obtain ⟨bs, h2⟩ := den_readsAll I t rs
    exact ⟨_, .cons h1 h2⟩
end
def rEqD (K : PySem.W.Frag) (A : Around) (neg : Bool) : R2 := fun x y H Q => ∃ d e, Den K H x d ∧ Den K H y e ∧ d.canLay0 = true ∧ e.canLay0 = true ∧ A.units + min d.depth e.depth < cLine ∧ Q (.bl (if neg then !PyData.eqv d e else PyData.eqv d e)) H
theorem op_eqD : OpR X (compareOp .Eq) (rEqD X.K X.A false) := by
  intro pins s σ H x y v u Q I rx ry h
  obtain ⟨d, e, hd, he, cd, ce, hu, q⟩ := h
  obtain ⟨as, ra⟩ := den_reads I hd rx
  obtain ⟨bs, rb⟩ := den_reads I he ry
  exact SeqAt.compareEq_reads ra rb cd ce hu ⟨.bl _, H, I, rfl, q⟩
theorem op_neD : OpR X (compareOp .NotEq) (rEqD X.K X.A true) := by
  intro pins s σ H x y v u Q I rx ry h
  obtain ⟨d, e, hd, he, cd, ce, hu, q⟩ := h
  obtain ⟨as, ra⟩ := den_reads I hd rx
  obtain ⟨bs, rb⟩ := den_reads I he ry
  exact SeqAt.compareNe_reads ra rb cd ce hu ⟨.bl _, H, I, rfl, q⟩
end
end L2
/-! exceptions of own classes: raised, passed on, caught -/
namespace L2
open PySem PySem.Spec PyProof.Rows

/-- how an exception of ours lies behind a call: B holds all that is tracked, and all that stood ahead of the call, but the frames -/
def CXx (P : Program) (w : World) : CXT := fun outer H s E e s' =>
  ∃ (ea : Addr) (cls a0 : Value) (H' : Hp) (B : Heap), e = .ref ea ∧ s'.os = s.os ∧ AllBare s'.gens ∧ Un (frs outer) [] H H' s.heap s'.heap ∧ HOk P w H' s'.heap ∧ Heap.FlyingW B outer ea cls a0 s'.heap ∧
    (∀ b o, s'.heap.get? b = some o → b ∉ frs outer → (H' b ≠ none ∨ ∃ o', s.heap.get? b = some o') → B.get? b = some o) ∧ s.heap.get? ea = none ∧ H' ea = none ∧ E cls none H'

theorem HOk.there {P : Program} {w : World} {H : Hp} {h : Heap} (x : HOk P w H h) {a : Addr} {o : HO} (e : H a = some o) : ∃ ob, h.get? a = some ob := by
  have q := x a o e
  cases o with
  | lst xs => obtain ⟨_, its, n, _, e⟩ := q; exact ⟨_, e⟩
  | tup xs => obtain ⟨_, its, _, ob, e, _⟩ := q; exact ⟨_, e⟩
  | dK kvs => obtain ⟨_, _, vs, _, ob, es, ep, e, _⟩ := q; exact ⟨_, e⟩
  | dT kvs => obtain ⟨_, _, xs, _, ob, es, ep, e, _⟩ := q; exact ⟨_, e⟩
  | set S n => obtain ⟨ob, _, _, _, e, _⟩ := q; exact ⟨_, e⟩
  | ins C dx fs => obtain ⟨_, _, _, e, _⟩ := q; exact ⟨_, e⟩
  | own y => exact q
  | xd fs => obtain ⟨_, ⟨_, _, _, e, _⟩, _⟩ := q; exact ⟨_, e⟩
  | met f y => exact ⟨_, q⟩
  | rng lo hi => obtain ⟨_, _, _, e⟩ := q; exact ⟨_, e⟩
  | frz ob u => exact ⟨_, q.1⟩
  | tbl ps => exact ⟨_, q⟩
  | ext φ => exact q.2.1

/-- a def's body: a frame of its own, on top of the callers' -/
structure InDef (X : Cx) : Prop where
  stk : X.stack = X.env :: X.outer
  fr : X.env.frame = some X.env.locals
  ex : X.ex = []
theorem InDef.frs {X : Cx} (D : InDef X) : frs X.stack = X.env.locals :: X.fs := by
  rw [D.stk]
  unfold L2.frs
  rw [List.filterMap_cons, D.fr]
  rfl

section
variable {X : Cx} {pins : List (Addr × Obj)} {σ : St} {H : Hp} {s : Shared}
/-- what stands as a frame -/
theorem Inv.frame_obj (I : Inv X pins σ H s) {b : Addr} (hb : b ∈ frs X.stack) : ∃ o, s.heap.get? b = some o ∧ ∀ vs, o.data ≠ .fields vs := (I.stack.mem hb).2

/-- an exception raised in the frame, seen with the frame still running -/
theorem flying_here (I : Inv X pins σ H s) (D : InDef X) {h' : Heap} {e : Addr} {C : Value} {args : List Value} (hx : Heap.MadeExcOf s.heap h' e C args) {M : Model} {Q : Unit → Shared → Prop} {E : Value → Shared → Prop}
    (hQ : ∀ (h'' : Heap) (a0 : Value) (B : Heap), Heap.FlyingW B X.outer e C a0 h'' → (∀ b o, s.heap.get? b = some o → b ∉ frs X.stack → B.get? b = some o) → (∀ b ∈ frs X.stack, B.get? b = none) → s.heap.UpToSlots h'' → Q () { s with heap := h'' }) :
    wpAny M X.A (leaving X.env (.ref e)) Q E { s with heap := h' } := by
  have hin : ∀ env ∈ X.stack, ∀ b, env.frame = some b → b ∈ frs X.stack := fun env he b hb => List.mem_filterMap.mpr ⟨env, he, hb⟩
  have hl := PySem.W.funFrames_hide I.stack hin
  have fr := I.ok.frames
  rw [D.stk] at fr
  have hl' : s.heap.FunFrames (PySem.W.hideAll s.heap (frs X.stack)) (X.env :: X.outer) := by rw [← D.stk]; exact hl
  exact wpAny_leaves_madeW (s := { s with heap := h' }) fr D.fr (fun b o q => PySem.W.of_hideAll _ q) hl' hx fun h'' t x1 x2 x3 x4 =>
    hQ h'' (.ref t) _ x1 (fun b o q hb => PySem.W.hideAll_get _ q hb) (fun b hb => PySem.W.hideAll_none _ hb) ((Heap.UpToSlots.of_keeps hx.keeps).trans x4)
end

section
variable {P : Program} {w : World} {K : PySem.W.Frag} {mg : Str → Option Value} {base : Heap} {N : List Str} {qual : Str} {scope : Scope} {f : Addr} {cd : Value} {A : Around} {outer : List Env} {s : Shared} {H : Hp} {E : XK}
theorem inDef_of {CX : CXT} : InDef (cxOf CX P w K mg base N qual scope f cd A outer s H E) := ⟨rfl, rfl, rfl⟩

/-- it is raised in a def's body and leaves it -/
theorem raise_leaves {pins : List (Addr × Obj)} {σ : St} {H1 : Hp} {s1 : Shared} {h' : Heap} {e : Addr} {C : Value} {args : List Value} (I : Inv (cxOf (CXx P w) P w K mg base N qual scope f cd A outer s H E) pins σ H1 s1)
    (hx : Heap.MadeExcOf s1.heap h' e C args) (hE : E C none H1) : (cxOf (CXx P w) P w K mg base N qual scope f cd A outer s H E).xe (.ref e) { s1 with heap := h' } := by
  refine flying_here I inDef_of hx fun h'' a0 B fl cov nof up => ?_
  have fr2 : ∀ b, b ∈ frs (cxOf (CXx P w) P w K mg base N qual scope f cd A outer s H E).stack ↔ b = s.heap.objs.size ∨ b ∈ frs outer := fun b => by
    rw [(inDef_of (CX := CXx P w)).frs]
    exact List.mem_cons
  have old : ∀ b o, s.heap.get? b = some o → b ≠ s.heap.objs.size := fun b o q => Nat.ne_of_lt (Heap.lt_size q)
  have keepB : ∀ b o, s1.heap.get? b = some o → b ≠ s.heap.objs.size → b ∉ frs outer → h''.get? b = some o := fun b o q h1 h2 => fl.1 b o (cov b o q fun z => ((fr2 b).mp z).elim h1 h2)
  have tr : ∀ b u, H1 b = some u → b ≠ s.heap.objs.size ∧ b ∉ frs outer := fun b u q => by
    refine ⟨fun z => ?_, fun z => ?_⟩
    · have := I.stkFree b ((fr2 b).mpr (.inl z)); rw [this] at q; cases q
    · have := I.stkFree b ((fr2 b).mpr (.inr z)); rw [this] at q; cases q
  have slotB : ∀ b o, s1.heap.get? b = some o → b ∈ frs outer → ∃ sl, h''.get? b = some { o with slots := sl } := fun b o q hb => by
    obtain ⟨o', e', nd⟩ := I.frame_obj ((fr2 b).mpr (.inr hb))
    rw [q] at e'; cases e'
    exact up b o q nd
  have baseU : Un (frs outer) [] H H1 s.heap s1.heap := I.base
  refine ⟨e, C, a0, H1, B, rfl, I.os, I.bare, ⟨fun b o q n hb hx => ?_, fun b o q n hb hx => ?_, fun b o q n hx => baseU.free b o q n hx, fun b o q hx => ?_, baseU.tups, baseU.frzs, baseU.tbls⟩, fun b u q => ?_, fl, fun b o q hb hh => ?_, ?_, ?_, hE⟩
  · exact keepB b o (baseU.keep b o q n hb hx) (old b o q) hb
  · obtain ⟨sl, q1⟩ := baseU.slot b o q n hb hx
    obtain ⟨sl', q2⟩ := slotB b _ q1 hb
    exact ⟨sl', q2⟩
  · obtain ⟨o', q1⟩ := baseU.there b o q hx
    by_cases hb : b ∈ frs outer
    · obtain ⟨sl', q2⟩ := slotB b _ q1 hb
      exact ⟨_, q2⟩
    · exact ⟨o', keepB b o' q1 (old b o q) hb⟩
  · refine (I.hok b u q).stay (fun c v hc r => ?_) (fun _ r => r) fun _ _ r => r
    have : ∃ u, H1 c = some u := by
      rcases hc with rfl | hc
      · exact ⟨u, q⟩
      · exact ⟨_, hc⟩
    obtain ⟨u', qu⟩ := this
    exact keepB c v r (tr c u' qu).1 (tr c u' qu).2
  · have : ∃ o1, s1.heap.get? b = some o1 ∧ b ≠ s.heap.objs.size := by
      rcases hh with hh | ⟨o', hh⟩
      · cases qu : H1 b with
        | none => exact absurd qu hh
        | some u =>
          obtain ⟨o1, q1⟩ := I.hok.there qu
          exact ⟨o1, q1, (tr b u qu).1⟩
      · obtain ⟨o1, q1⟩ := baseU.there b o' hh (by simp)
        exact ⟨o1, q1, old b o' hh⟩
    obtain ⟨o1, q1, hne⟩ := this
    have q2 := keepB b o1 q1 hne hb
    rw [q] at q2
    cases q2
    exact cov b o q1 fun z => ((fr2 b).mp z).elim hne hb
  · cases q : s.heap.get? e with
    | none => rfl
    | some o' =>
      obtain ⟨o1, q1⟩ := baseU.there e o' q (by simp)
      rw [hx.new] at q1; cases q1
  · cases q : H1 e with
    | none => rfl
    | some u =>
      obtain ⟨o1, q1⟩ := I.hok.there q
      rw [hx.new] at q1; cases q1

/-- it comes from a callee and leaves this def too -/
theorem passes_x : Passes (CXx P w) (cxOf (CXx P w) P w K mg base N qual scope f cd A outer s H E) E := by
  intro pins σ H1 s1 e s2 I hc
  obtain ⟨ea, cls, a0, H2, B, rfl, os, bare, un, hok, fly, cov, new, hn, hE⟩ := hc
  have frm := I.ok.frames
  refine wpAny_leaves_onW (show (A.deeper (envOfC qual scope s.heap.objs.size f cd)).frames = some (envOfC qual scope s.heap.objs.size f cd :: outer) from frm) rfl fly fun h' fl up => ?_
  have fr2 : ∀ b, b ∈ frs (cxOf (CXx P w) P w K mg base N qual scope f cd A outer s H E).stack ↔ b = s.heap.objs.size ∨ b ∈ frs outer := fun b => by
    rw [(inDef_of (CX := CXx P w)).frs]
    exact List.mem_cons
  have old : ∀ b o, s.heap.get? b = some o → b ≠ s.heap.objs.size := fun b o q => Nat.ne_of_lt (Heap.lt_size q)
  have baseU : Un (frs outer) [] H H1 s.heap s1.heap := I.base
  have frN : ∀ b, b ∈ frs (cxOf (CXx P w) P w K mg base N qual scope f cd A outer s H E).stack → H2 b = none := fun b hb => by
    obtain ⟨o, q, _⟩ := I.frame_obj hb
    exact un.free b o q (I.stkFree b hb) (by simp)
  have tr : ∀ b u, H2 b = some u → b ∉ frs (cxOf (CXx P w) P w K mg base N qual scope f cd A outer s H E).stack := fun b u q z => by rw [frN b z] at q; cases q
  have slotB : ∀ b o, s2.heap.get? b = some o → b ∈ frs (cxOf (CXx P w) P w K mg base N qual scope f cd A outer s H E).stack → ∃ sl, h'.get? b = some { o with slots := sl } := fun b o q hb => by
    obtain ⟨o', e', nd⟩ := (fly.2.2.1.mem hb).2
    rw [q] at e'; cases e'
    exact up b o q nd
  have noSt : ∀ b o, s.heap.get? b = some o → b ∉ frs outer → b ∉ frs (cxOf (CXx P w) P w K mg base N qual scope f cd A outer s H E).stack := fun b o q hb z => ((fr2 b).mp z).elim (old b o q) hb
  refine ⟨ea, cls, a0, H2, B, rfl, os.trans I.os, bare, ⟨fun b o q n hb hx => ?_, fun b o q n hb hx => ?_, fun b o q n hx => ?_, fun b o q hx => ?_, fun b xs q => un.tups b xs (baseU.tups b xs q), fun b o u q => un.frzs b o u (baseU.frzs b o u q), fun b ps q => ?_⟩, fun b u q => ?_, fl, fun b o q hb hh => ?_, ?_, hn, hE⟩
  · have q1 := baseU.keep b o q n hb hx
    have q2 := un.keep b o q1 (baseU.free b o q n hx) (noSt b o q hb) hx
    exact fl.1 b o (cov b o q2 (noSt b o q hb) (.inr ⟨o, q1⟩))
  · obtain ⟨sl, q1⟩ := baseU.slot b o q n hb hx
    obtain ⟨sl2, q2⟩ := un.slot b _ q1 (baseU.free b o q n hx) ((fr2 b).mpr (.inr hb)) hx
    obtain ⟨sl3, q3⟩ := slotB b _ q2 ((fr2 b).mpr (.inr hb))
    exact ⟨sl3, q3⟩
  · obtain ⟨o1, q1⟩ := baseU.there b o q hx
    exact un.free b o1 q1 (baseU.free b o q n hx) hx
  · obtain ⟨o1, q1⟩ := baseU.there b o q hx
    obtain ⟨o2, q2⟩ := un.there b o1 q1 hx
    by_cases hb : b ∈ frs outer
    · obtain ⟨sl, q3⟩ := slotB b o2 q2 ((fr2 b).mpr (.inr hb))
      exact ⟨_, q3⟩
    · exact ⟨o2, fl.1 b o2 (cov b o2 q2 (noSt b o q hb) (.inr ⟨o1, q1⟩))⟩
  · obtain ⟨m1, e1⟩ := baseU.tbls b ps q
    obtain ⟨m2, e2⟩ := un.tbls b _ e1
    exact ⟨m1 ++ m2, by rw [e2, Array.append_assoc]⟩
  · refine (hok b u q).stay (fun c v hc r => ?_) (fun _ r => r) fun _ _ r => r
    have : ∃ u, H2 c = some u := by
      rcases hc with rfl | hc
      · exact ⟨u, q⟩
      · exact ⟨_, hc⟩
    obtain ⟨u', qu⟩ := this
    exact fl.1 c v (cov c v r (tr c u' qu) (.inl (by rw [qu]; simp)))
  · have : ∃ o2, s2.heap.get? b = some o2 ∧ B.get? b = some o2 := by
      rcases hh with hh | ⟨o', hh⟩
      · cases qu : H2 b with
        | none => exact absurd qu hh
        | some u =>
          obtain ⟨o2, q2⟩ := hok.there qu
          exact ⟨o2, q2, cov b o2 q2 (tr b u qu) (.inl hh)⟩
      · obtain ⟨o1, q1⟩ := baseU.there b o' hh (by simp)
        obtain ⟨o2, q2⟩ := un.there b o1 q1 (by simp)
        exact ⟨o2, q2, cov b o2 q2 (noSt b o' hh hb) (.inr ⟨o1, q1⟩)⟩
    obtain ⟨o2, q2, q3⟩ := this
    have q4 := fl.1 b o2 q3
    rw [q] at q4
    cases q4
    exact q3
  · cases q : s.heap.get? ea with
    | none => rfl
    | some o' =>
      obtain ⟨o1, q1⟩ := baseU.there ea o' q (by simp)
      rw [new] at q1; cases q1
end
end L2
/-! texts; raise; try -/
namespace L2
open PySem PySem.Spec PyProof.Rows

/-! ### a text, sign by sign -/
def Its (x : Str) : It := ⟨fun i _ => i < x.cps.size, fun i H v H' => H' = H ∧ ∃ c, x.cps.toList[i]? = some c ∧ v = .str ⟨#[c]⟩, fun i _ => i = x.cps.size⟩
theorem striter_no (x : Str) : ["enumerate", "zip", "dict_itemiterator", "dict_reverseitemiterator", "odict_iterator", "itertools.zip_longest", "itertools.pairwise"].contains (strIterType x) = false := by
  unfold strIterType
  split <;> decide
theorem walks_str {prog : Program} {w : World} {A : Around} (hh : A.handled = none) (I : Addr) (x : Str) (t : Tok) : Walks prog w A I [I] [I] x.cps.size (SignAt x) (fun i h => h.IsStrIter I (strIterType x) x t i) := by
  unfold strIterType
  split
  · exact Walks.strAscii hh I x t
  · exact Walks.strWide hh I x t
theorem iter_self {prog : Program} {w : World} {A : Around} {E : Value → Shared → Prop} {s : Shared} {it : Addr} {x : Str} {t : Tok} {i : Nat} {Q : Value → Shared → Prop} (hit : s.heap.IsStrIter it (strIterType x) x t i) (h : Q (.ref it) s) :
    wpAny (model prog w) A (pyIter (.ref it)) Q E s := by
  unfold strIterType at hit
  split at hit
  · exact wpAny_pyIter_striter_ascii hit h
  · exact wpAny_pyIter_striter_wide hit h
theorem turn_str {P : Program} {w : World} {K : PySem.W.Frag} {tg : Expr} (it : Addr) (x : Str) (t : Tok) : Turn P w K tg (Its x) [it] it (fun i h => h.IsStrIter it (strIterType x) x t i) where
  mem := by simp
  obj := fun i h st b hb => by
    have e : b = it := by simpa using hb
    subst e
    obtain ⟨o, e, c, d⟩ := st
    exact ⟨o, e, fun v z => by rw [d] at z; cases z⟩
  keep := fun i h h' st k => by
    obtain ⟨o, e, r⟩ := st
    exact ⟨o, k it (by simp) o e, r⟩
  item := by
    intro X hP hw hK hc i pins s σ H E I hf st hg
    subst hP hw hK
    obtain ⟨f0, f1, f2, f3, f4, f5⟩ := hf it (by simp)
    refine (walks_str (I.ok.hd hc) it x t).item i s _ _ hg st fun v h' tk hv st' kk => ?_
    obtain ⟨c, u, hcu, rfl⟩ := hv
    have I1 : Inv X pins σ H { s with heap := h', toks := tk } := I.turned (fun b o hb e => kk b o (by simpa using hb) e) f0 f1 f3 f4 f5
    obtain ⟨o, e, c', d⟩ := id st'
    exact ⟨_, rfl, go_of (s := { s with heap := h', toks := tk }) e c' d (striter_no x) ⟨.str ⟨#[c]⟩, H, I1, ⟨u, rfl⟩, ⟨rfl, c, by simpa using hcu, rfl⟩, st', fun b hb => (hf b hb).1⟩⟩
  done := by
    intro X hP hw hK hc i pins s σ H E I hf st hg
    subst hP hw hK
    obtain ⟨f0, f1, f2, f3, f4, f5⟩ := hf it (by simp)
    have hg : i = x.cps.size := hg
    subst hg
    exact (walks_str (I.ok.hd hc) it x t).done s _ _ st fun h' tk kk => ⟨rfl, I.turned (fun b o hb e => kk b o (by simpa using hb) e) f0 f1 f3 f4 f5⟩
  self := fun _ _ _ _ _ st h => iter_self st h
section
variable {X : Cx} {tg : Expr}
def iStr (tl : TE) : TI := fun σ H R => tl σ H fun v H1 => ∃ x, v = .str x ∧ R (Its x) H1
theorem pi_str {l : Expr} {tl : TE} (hl : PE X l tl) : PI X tg l (iStr tl) := by
  intro pins s σ H R I h
  refine thn (hl pins s σ H _ I h) fun v s1 ⟨y, H1, I1, r1, q1⟩ => ?_
  obtain ⟨x, rfl, q⟩ := q1
  obtain ⟨t, rfl⟩ := r1
  refine wpAny_pyIter_strU ?_
  refine ⟨s1.heap.objs.size, [s1.heap.objs.size], _, _, H1, rfl, I1.kept (t' := s1.toks) fun b o e => Heap.get?_push_of_some _ e, turn_str _ x t, ⟨_, Heap.get?_push_size _ rfl, rfl, rfl⟩, fun b hb => ?_, q⟩
  have e : b = s1.heap.objs.size := by simpa using hb
  subst e
  exact I1.fpOk (Nat.le_refl _) (I1.hok.fresh (Nat.le_refl _))
end
theorem for_str {x : Str} {g : TG} {tb : TS} {D : Ends} {σ : St} {H : Hp} (Pv : Nat → St → Hp → Prop) (h0 : Pv 0 σ H)
    (hs : ∀ i c σ H, x.cps.toList[i]? = some c → Pv i σ H → g (.str ⟨#[c]⟩) σ H fun σ2 H2 => tb { D with nx := Pv (i + 1), ct := Pv (i + 1), bk := D.nx } σ2 H2) (hd : ∀ σ H, Pv x.cps.size σ H → D.nx σ H) :
    ∃ W : Nat → Nat → St → Hp → Prop, (∃ m, W 0 m σ H) ∧ ∀ i m σ H, W i m σ H →
      ((Its x).stop i H ∧ D.nx σ H) ∨ ((Its x).go i H ∧ ∃ N : St → Hp → Prop, (∀ σ' H', N σ' H' → ∃ m', m' < m ∧ W (i + 1) m' σ' H') ∧ ∀ v H', (Its x).yld i H v H' → g v σ H' fun σ2 H2 => tb { D with nx := N, ct := N, bk := D.nx } σ2 H2) := by
  refine ⟨fun i m σ H => m = x.cps.size - i ∧ i ≤ x.cps.size ∧ Pv i σ H, ⟨x.cps.size, by simp, Nat.zero_le _, h0⟩, ?_⟩
  rintro i m σ H ⟨rfl, hi, p⟩
  by_cases hlt : i < x.cps.size
  · refine .inr ⟨hlt, Pv (i + 1), fun σ' H' p' => ⟨x.cps.size - (i + 1), by omega, rfl, hlt, p'⟩, fun v H' y => ?_⟩
    obtain ⟨e, c, hc, rfl⟩ := y
    subst e
    exact hs i c σ _ hc p
  · have e : i = x.cps.size := by omega
    subst e
    exact .inl ⟨rfl, hd σ H p⟩
theorem comp_str {x : Str} {ls : List Str} {g : TG} {tt : TT} {te : TE} {σ : St} {H : Hp} {Q : VK} (Pv : Nat → List V → Hp → Prop) (h0 : Pv 0 [] H)
    (hs : ∀ i c ys H, x.cps.toList[i]? = some c → Pv i ys H → g (.str ⟨#[c]⟩) (List.replicate ls.length none ++ σ) H fun σ2 H2 => σ2.drop ls.length = σ ∧ σ2.length = ls.length + σ.length ∧ tt σ2 H2 fun b H3 => if b = true then te σ2 H3 fun v H4 => ys.length < sizeLine ∧ Pv (i + 1) (ys ++ [v]) H4 else Pv (i + 1) ys H3)
    (hd : ∀ ys H, Pv x.cps.size ys H → ∀ D, H D = none → Q (.ref D) (upd H D (.lst ys))) : CompW (Its x) ls g tt te σ H Q := by
  refine ⟨fun i m ys H => m = x.cps.size - i ∧ i ≤ x.cps.size ∧ Pv i ys H, ⟨x.cps.size, by simp, Nat.zero_le _, h0⟩, ?_⟩
  rintro i m ys H ⟨rfl, hi, p⟩
  by_cases hlt : i < x.cps.size
  · refine .inr ⟨hlt, Pv (i + 1), fun ys' H' p' => ⟨x.cps.size - (i + 1), by omega, rfl, hlt, p'⟩, fun v H' y => ?_⟩
    obtain ⟨e, c, hc, rfl⟩ := y
    subst e
    exact hs i c ys _ hc p
  · have e : i = x.cps.size := by omega
    subst e
    exact .inl ⟨rfl, hd ys H p⟩

section
variable {X : Cx}
/-! ### all([..]) -/
theorem bools_of : ∀ {bs : List Bool} {us : List Value}, Vals (bs.map V.bl) us → LSm.BoolsAre us bs
  | [], _, .nil => .nil
  | b :: r, _, .cons h t => by
    have h : _ = Value.bool b := h
    subst h
    exact .cons b (bools_of t)
theorem call_all (hc : X.calm = true) : CallR X (.builtin "all") (fun xs H Q => ∃ (p : Addr) (bs : List Bool), xs = [.ref p] ∧ SqL X.K H p (bs.map V.bl) ∧ Q (.bl (bs.all id)) H) := by
  intro pins s σ H xs us Q I r h
  obtain ⟨p, bs, rfl, hq, q⟩ := h
  obtain ⟨u, rfl, ru⟩ := vals1 r
  cases ru
  obtain ⟨its, rv, pl, hz⟩ := I.list hq
  have hb := bools_of rv
  have hl := pl.isList
  have hlt : p < s.heap.objs.size := by obtain ⟨_, e, _⟩ := hl; exact Heap.lt_size e
  refine call_all_walk (wpAny_pyIter_list hl ?_)
  refine ⟨s.heap.objs.size, [s.heap.objs.size, p], [s.heap.objs.size], its.toArray.size, _, _, fun i => (bs[i]?).getD true, rfl, Walks.list (A := X.A.in1) (I.ok.hd hc) _ p (Nat.ne_of_lt hlt) its.toArray,
    ⟨⟨_, Heap.get?_push_size _ rfl, rfl, rfl⟩, hl.push _⟩, fun i v s' Q' E' hP hQ => ?_, fun h' tk hk => ?_⟩
  · obtain ⟨b, e, rfl⟩ := hb.get i v (by simpa using hP)
    simp only [e, Option.getD_some] at hQ
    exact wpAny_truthy_bool hQ
  · have e : ((List.range its.toArray.size).all fun i => (bs[i]?).getD true) = bs.all id := by
      rw [List.size_toArray, hb.length]; exact LSm.range_all bs
    rw [e]
    exact ⟨.bl _, H, I.kept (t' := tk) (LSm.kept_iter hk), rfl, q⟩

/-! ### parts of a text -/
theorem sl_str : SlR X (fun x lo hi H Q => ∃ z, x = .str z ∧ z.length ≤ sizeLine ∧ Q (.str (StrLaws.sliceText z lo hi)) H) := by
  intro pins s σ H x v vl vu lo hi sl Q I rx hs pl pu h
  obtain ⟨z, rfl, hz, q⟩ := h
  obtain ⟨t, rfl⟩ := rx
  have part : ∀ {v : Value} {o : Option Int}, IsPart v o → ∃ p : Option (Int × Tok), v = partValue p ∧ p.map (·.1) = o := fun {v o} h => by
    cases h with
    | none => exact ⟨none, rfl, rfl⟩
    | int i t => exact ⟨some (i, t), rfl, rfl⟩
  obtain ⟨l, rfl, el⟩ := part pl
  obtain ⟨u, rfl, eu⟩ := part pu
  refine ⟨"str", _, slot_str_getitem.lookup, typeIs_str s z t, ?_⟩
  obtain ⟨o, h1, h2, h3⟩ := hs
  refine wpAny_getItem_str_slice (l := l) (u := u) (st := none) ⟨o, h1, h2, h3⟩ rfl ?_
  subst el eu
  unfold sliceMade slicePicked
  unfold StrLaws.sliceText at q
  simp only [Option.map_none, Option.getD_none]
  split
  · rename_i hc
    rw [if_pos hc] at q
    exact ⟨.str z, H, I, ⟨t, rfl⟩, q⟩
  · rename_i hc
    rw [if_neg hc] at q
    refine ⟨?_, .str _, H, I.tok _, ⟨_, rfl⟩, q⟩
    show ((_ : List Nat).toArray).size ≤ sizeLine
    rw [List.size_toArray]
    exact Nat.le_trans (List.length_filterMap_le _ _) (Nat.le_trans (sliceIndices_le _ _ _) hz)

/-! ### int(text), str(text) -/
theorem call_int_str : CallR X (.type "int") (fun xs H Q => ∃ (z : Str) (n : Int), xs = [.str z] ∧ PySem.intText? z = some n ∧ z.length ≤ 640 ∧ Q (.int n) H) := by
  intro pins s σ H xs us Q I r h
  obtain ⟨z, n, rfl, hn, hl, q⟩ := h
  obtain ⟨u, rfl, t, rfl⟩ := vals1 r
  exact PySem.W.KIN.call_text hn hl ⟨.int n, H, I.tok _, ⟨_, rfl⟩, q⟩
theorem call_str_str : CallR X (.type "str") (fun xs H Q => ∃ (z : Str), xs = [.str z] ∧ Q (.str z) H) := by
  intro pins s σ H xs us Q I r h
  obtain ⟨z, rfl, q⟩ := h
  obtain ⟨u, rfl, t, rfl⟩ := vals1 r
  exact P.str_of_str ⟨.str z, H, I, ⟨_, rfl⟩, q⟩
theorem op_mul_str : OpR X (binaryOp .Mult) (fun x y H Q => ∃ (z : Str) (n : Int), x = .str z ∧ y = .int n ∧ MulOk z n ∧ Q (.str (Txt.mul z n)) H) := by
  intro pins s σ H x y v u Q I rx ry h
  obtain ⟨z, n, rfl, rfl, ho, q⟩ := h
  obtain ⟨t, rfl⟩ := rx
  obtain ⟨t', rfl⟩ := ry
  exact SB.mul ho fun t' k => ⟨.str _, H, I.tok k, ⟨_, rfl⟩, q⟩
end
theorem in_one (x : Str) (c : Nat) : (!(Builtin.Str.occurrences x ⟨#[c]⟩ 0 x.length 1).isEmpty) = decide (c ∈ x.cps.toList) := StrLaws.found_one x c

/-! ### raise -/
def RaisesX (X : Cx) (E : XK) : Prop := ∀ (pins : List (Addr × Obj)) (σ : St) (H : Hp) (s : Shared) (h' : Heap) (e : Addr) (C : Value) (args : List Value), Inv X pins σ H s → Heap.MadeExcOf s.heap h' e C args → E C none H → X.xe (.ref e) { s with heap := h' }
theorem raises_x {P : Program} {w : World} {K : PySem.W.Frag} {mg : Str → Option Value} {base : Heap} {N : List Str} {qual : Str} {scope : Scope} {f : Addr} {cd : Value} {A : Around} {outer : List Env} {s : Shared} {H : Hp} {E : XK} :
    RaisesX (cxOf (CXx P w) P w K mg base N qual scope f cd A outer s H E) E := fun _ _ _ _ _ _ _ _ I hx hE => raise_leaves I hx hE
def tRaise (C : Value) (E : XK) (t : TA) : TS := fun _ σ H => t σ H fun vs H1 => vs.length ≤ sizeLine ∧ E C none H1
abbrev bmVal : List Value := [.type "ValueError", .type "Exception", .type "BaseException", .type "object"]
section
variable {X : Cx} {C : Addr} {E : XK} {x : Str} {np cpos pos : Pos} {a : Expr} {es : List Expr} {t : TA}
theorem ps_raise (hX : RaisesX X E) (hc : X.calm = true) (hg : Gl X x) (hm : X.mg x = some (.ref C)) (q : PySem.W.excIn X.K C bmVal "ValueError.__new__" = true) (ha : PA X (a :: es) t)
    (he : starEach (a :: es) X.env = (false, eval a X.env) :: starEach es X.env := by rfl) (hplain : (backTo cpos (starEach es X.env)).any (·.1) = false := by rfl) (hd : (x == ("__debug__" : Str)) = false := by decide) :
    PS X (.Raise (some (.Call (.Name x np) (a :: es) [] cpos)) none pos) (tRaise (.ref C) E t) := by
  intro pins s σ H D I h
  unfold PySem.W.excIn at q
  split at q
  · rename_i dd cd sl ho
    split at q
    · rename_i C' bm k0 k1 k2 k3 n k5 hm' hs
      simp only [Bool.and_eq_true, beq_iff_eq, Bool.not_eq_true'] at q
      obtain ⟨⟨⟨⟨⟨rfl, rfl⟩, hdel⟩, ht⟩, hok⟩, hni⟩ := q
      obtain ⟨nm, bs, mro, ns, qn, hd', sn, sub, ab, col, del⟩ := cd
      dsimp only at hm' hdel hok hni
      subst hm' hdel
      have hsl : sl = #[k0, k1, k2, k3, some (.builtin "ValueError.__new__"), k5] := by
        obtain ⟨l⟩ := sl
        simp only at hs
        rw [hs]
      subst hsl
      have obj : ∀ {hh : Heap}, X.K.In hh → _ := fun {hh} (XX : X.K.In hh) => (⟨XX _ _ ho, PySem.Heap.Ns.of_isNs (PySem.W.isNs_of_in XX hok), PySem.W.nsMap_none_of_in XX hok hni, PySem.W.tail_of_in XX ht⟩ :
        hh.get? C' = some (excClassObj nm qn C' ns bs bm hd' sn sub ab col dd k0 k1 k2 k3 k5 "ValueError.__new__") ∧ hh.Ns ns (hh.nsMap ns) ∧ hh.nsMap ns "__init__" = none ∧ OwnTail hh bmVal bm)
      have o0 := obj I.ok.mod.kin
      refine wpAny_Raise_call_subT (C := C') (nm := nm) (q := qn) (N := ns) (bs := bs) (bm := bm) (hdct := hd') (sn := sn) (sub := sub) (ab := ab) (col := col) (dd := dd) (k0 := k0) (k1 := k1) (k2 := k2) (k3 := k3) (k5 := k5)
        F.excBase_ValueError (mN := X.base.nsMap ns) (o0.2.2.2.hasType F.excBase_ValueError.hasBase) (I.ok.hd hc) (by rw [he]; show (false || (backTo cpos (starEach es X.env)).any (·.1)) = false; rw [hplain]; rfl) o0.2.2.1 (ld_glob I hg hm ⟨rfl, ?_⟩ hd)
      rw [he]
      refine Calls.evalArgs_plain ?_
      have hq := ha cpos pins s σ H _ I h
      rw [he] at hq
      refine thn hq fun us s2 ⟨vs, H1, I1, r1, z, q1⟩ => ?_
      have kp : ∀ b o, X.base.get? b = some o → s2.heap.get? b = some o := I1.bk
      exact ⟨rfl, by rw [← r1.length]; exact z, (obj I1.kIn).1, o0.2.1.keeps kp, (obj I1.kIn).2.2.2, fun h' e hx => hX pins σ H1 s2 h' e _ _ I1 hx q1⟩
    · cases q
  · cases q
end
end L2
/-! try .. except -/
namespace L2
open PySem PySem.Spec PyProof.Rows

/-- an exception's object, by its class -/
def excO (ea : Addr) (cls : Value) : HO := .ext fun h => ∃ o vs, h.get? ea = some o ∧ o.cls = cls ∧ o.data = .fields vs

section
variable {X : Cx} {pins : List (Addr × Obj)} {σ : St} {H : Hp} {s : Shared} {pn : List (Addr × Obj)} {xe : Value → Shared → Prop}
end

/-! f(..) within a try -/
section
variable {X : Cx} {CX : CXT} {k : Nat} {f C : Addr} {fd : FuncData} {ps : List Str} {sp : Sp} {dvs : List V} {ds : List Value} {Z : St → XK} {x m : Str} {p pos apos : Pos} {e o : Expr} {es : List Expr} {ta : TE} {t : TA}
end

section
variable {X : Cx} {x : Str} {C : Value} {body suite : List Stmt} {b0 : Stmt} {np hpos pos : Pos} {tb : (St → XK) → TS} {ts : TS}
end

/-! ### a def that may raise -/
section
variable {P : Program} {w : World} {K : PySem.W.Frag} {mg : Str → Option Value} {base : Heap}
theorem Fun.okX {x qual : Str} {st : Stmt} {f : Addr} {fd : FuncData} {N ps : List Str} {k : Nat} {sp : Sp} (F : Fun K x qual st f fd) (S : FnScope N ps (defScope st)) (len : ∀ vs H Q E, sp vs H Q E → vs.length = ps.length)
    (hbody : ∀ (cdv : Value) (A : Around) (outer : List Env) (s : Shared) (H : Hp) (vs : List V) (Q : VK) (E : XK), Room k (A.deeper (envOfC qual (defScope st) s.heap.objs.size f cdv)) → sp vs H Q E →
      ∃ t, PSs (cxOf (CXx P w) P w K mg base N qual (defScope st) f cdv A outer s H E) (defBody st) t ∧ t { nx := fun _ H' => Q .non H', rt := Q } (start N vs) H) : FnOk P w K mg base (CXx P w) (k + 1) f fd ps sp := by
  obtain ⟨oc, od, kV, doc, pm, an, cdv, ct, osl, rfl, lk, hcd⟩ := F.ex
  exact fn_of lk hcd S len fun A outer s H vs Q E hr hsp => hbody cdv A outer s H vs Q E hr hsp
end
end L2
/-! displays of written texts, ints -/
namespace L2
open PySem PySem.Spec PyProof.Rows
section
variable {X : Cx}
end
end L2
/-! more: lists against [], enumerate, join -/
namespace L2
open PySem PySem.Spec PyProof.Rows
section
variable {X : Cx}
end
/-! ### enumerate -/
section
variable {X : Cx}
end
end L2
set_option maxHeartbeats 1000000
/-! isinstance of exceptions; except .. as e -/
namespace L2
open PySem PySem.Spec PyProof.Rows PySem.W
section
variable {prog : Program} {w : World} {A : Around} {E : Value → Shared → Prop} {h : Heap} {g : Array GenState} {d : Drawn} {t : Nat} {os : OsState} {a C : Addr} {o : Obj} {K : PySem.W.Frag}
end
section
variable {X : Cx}
end
end L2
set_option maxHeartbeats 1000000
/-! except .. as e -/
namespace L2
open PySem PySem.Spec PyProof.Rows PySem.W
section
variable {X : Cx} {pins : List (Addr × Obj)} {σ : St} {H : Hp} {s : Shared}
end
section
variable {X : Cx} {x n : Str} {C : Value} {body suite : List Stmt} {b0 : Stmt} {np hpos pos : Pos} {tb : (St → XK) → TS} {ts : TS} {i : Nat}
end
end L2
set_option maxHeartbeats 1000000
/-! join; displays with texts told n times -/
namespace L2
open PySem PySem.Spec PyProof.Rows
theorem strs_of : ∀ {ts : List Str} {us : List Value}, Vals (ts.map V.str) us → ∃ l : List (Str × Tok), us = strValues l ∧ l.map (·.1) = ts
  | [], _, .nil => ⟨[], rfl, rfl⟩
  | t :: ts, _, .cons h r => by
    obtain ⟨k, rfl⟩ := h
    obtain ⟨l, e, e2⟩ := strs_of r
    exact ⟨(t, k) :: l, by rw [e]; rfl, by rw [← e2]; rfl⟩
theorem app_len (a b : Str) : (a ++ b).length = a.length + b.length := by
  show (a.cps ++ b.cps).size = _
  rw [Array.size_append]; rfl
theorem join_len (sep : Str) : ∀ (ts : List Str), (Str.join sep ts).length ≤ (ts.map (·.length)).sum + ts.length * sep.length
  | [] => Nat.zero_le _
  | [x] => by
    show x.length ≤ _
    simp
  | x :: y :: r => by
    show (x ++ sep ++ Str.join sep (y :: r)).length ≤ _
    have ih := join_len sep (y :: r)
    rw [app_len, app_len, List.map_cons, List.sum_cons, List.length_cons]
    have : ((y :: r).length + 1) * sep.length = (y :: r).length * sep.length + sep.length := by rw [Nat.succ_mul]
    omega
theorem join_nil_cons (x : Str) (r : List Str) : (Str.join "" (x :: r)).cps.toList = x.cps.toList ++ (Str.join "" r).cps.toList := by
  cases r with
  | nil =>
    show x.cps.toList = x.cps.toList ++ []
    rw [List.append_nil]
  | cons y r =>
    show (x ++ "" ++ Str.join "" (y :: r)).cps.toList = _
    show ((x.cps ++ ("" : Str).cps) ++ (Str.join "" (y :: r)).cps).toList = _
    rw [Array.toList_append, Array.toList_append, show ("" : Str).cps.toList = [] by decide +kernel, List.append_nil]
theorem join_list : ∀ (ts : List Str), (Str.join "" ts).cps.toList = (ts.map (·.cps.toList)).flatten
  | [] => rfl
  | x :: r => by rw [join_nil_cons, join_list r, List.map_cons, List.flatten_cons]
section
variable {X : Cx}
def rJoin (K : PySem.W.Frag) : V → List V → Hp → VK → Prop := fun x vs H Q => ∃ (sep : Str) (p : Addr) (ts : List Str), x = .str sep ∧ vs = [.ref p] ∧ SqL K H p (ts.map V.str) ∧ (ts.map (·.length)).sum + ts.length * sep.length ≤ sizeLine ∧ Q (.str (Str.join sep ts)) H
theorem mt_join : MtM X "str.join" (rJoin X.K) := by
  intro pins s σ H x vs v us Q I rx rv h
  obtain ⟨sep, p, ts, rfl, rfl, hq, hz, q⟩ := h
  obtain ⟨t, rfl⟩ := rx
  obtain ⟨u, rfl, ru⟩ := rv.one
  cases ru
  obtain ⟨its, r, pl, _⟩ := I.list hq
  obtain ⟨l, rfl, rfl⟩ := strs_of r
  refine call_meets F.slot_str_join (typeIs_str s sep t) F.entry_str_join (F.args_str_join_2 _ _) (meets_str_join_list sep t p l (by
    rw [StrLaws.joinTotal]
    unfold Builtin.Str.tooLong
    exact decide_eq_false (by omega))) ⟨pl.isList, ?_⟩
  cases l with
  | nil => exact ⟨by rw [StrLaws.glued_eq_join]; exact Nat.le_trans (join_len sep _) hz, .str _, H, I.tok _, ⟨_, by rw [StrLaws.glued_eq_join]⟩, q⟩
  | cons a l =>
    cases l with
    | nil => exact ⟨.str a.1, H, I, ⟨a.2, rfl⟩, q⟩
    | cons b l => exact ⟨by rw [StrLaws.glued_eq_join]; exact Nat.le_trans (join_len sep _) hz, .str _, H, I.tok _, ⟨_, by rw [StrLaws.glued_eq_join]⟩, q⟩
end
/-! ### displays of texts, some of them told n times -/
section
variable {X : Cx}
end
end L2
/-! cuts: what holds between two statements -/
namespace L2
open PySem
end L2
set_option maxHeartbeats 1000000
/-! enumerate over a tuple; a text's find -/
namespace L2
open PySem PySem.Spec PyProof.Rows
open Sem (wp)
open Builtin
section
variable {prog : Program} {w : World} {A : Around} {E : Value → Shared → Prop} {s : Shared}
end
section
variable {prog : Program} {w : World} {A : Around} {E : Value → Shared → Prop} {s : Shared}
end
section
variable {X : Cx}
end
end L2
set_option maxHeartbeats 1000000
/-! THE MIRROR: values with tuples and unchanging lists as plain data, a heap of changing ones by places; what a body does as a function of these -/
namespace L2
open PySem PySem.Spec PyProof.Rows

inductive W where
  | ty (n : String) | exc (c : Str) | cls (c : Str) | non | bl (b : Bool) | int (i : Int) | str (x : Str)
  | tup (l : List W) | tl (l : List W) | cl (l : List W) | dv (ks : List Key) (ws : List W) | loc (k : Nat)
inductive Ob where
  | lst (l : List W) | dic (ks : List Key) (ws : List W) | gone
/-- a world: where each place stands, what is there, the heap -/
structure Wo where
  mu : Nat → Addr
  h : List Ob
  H : Hp
/-- a stands for a thing that may change -/
def Lv (o : Wo) (a : Addr) : Prop := ∃ k b, o.h[k]? = some b ∧ b ≠ .gone ∧ o.mu k = a
/-- a list of the module -/
def FrL (K : PySem.W.Frag) (a : Addr) (xs : List V) : Prop := ∃ (o : Obj) (its : Array Value) (n : Nat), K.lookup a = some o ∧ o.cls = .type "list" ∧ o.dict = none ∧ o.data = .seq its n ∧ its.size ≤ sizeLine ∧ Vals xs its.toList
mutual
def Rv (K : PySem.W.Frag) (o : Wo) : W → V → Prop
  | .ty n, v => v = .ty n
  | .exc c, v => ∃ a C, v = .ref a ∧ PySem.W.nsIn K mainGlobals c = some (some (.ref C)) ∧ o.H a = some (excO a (.ref C))
  | .cls c, v => ∃ C, v = .ref C ∧ PySem.W.nsIn K mainGlobals c = some (some (.ref C))
  | .non, v => v = .non
  | .bl b, v => v = .bl b
  | .int i, v => v = .int i
  | .str x, v => v = .str x
  | .tup l, v => ∃ a vs, v = .ref a ∧ SqT K o.H a vs ∧ Rvs K o l vs
  | .tl l, v => ∃ a vs, v = .ref a ∧ o.H a = some (.lst vs) ∧ ¬ Lv o a ∧ Rvs K o l vs
  | .cl l, v => ∃ a vs, v = .ref a ∧ ((Rd o.H a (.lst vs) ∧ ¬ Lv o a) ∨ FrL K a vs) ∧ Rvs K o l vs
  | .dv ks ws, v => ∃ a kvs, v = .ref a ∧ Rd o.H a (.dK kvs) ∧ ¬ Lv o a ∧ kvs.map (·.1) = ks ∧ Rvs K o ws (kvs.map (·.2))
  | .loc k, v => k < o.h.length ∧ v = .ref (o.mu k)
def Rvs (K : PySem.W.Frag) (o : Wo) : List W → List V → Prop
  | [], vs => vs = []
  | w :: l, vs => ∃ v r, vs = v :: r ∧ Rv K o w v ∧ Rvs K o l r
end
def Ro (K : PySem.W.Frag) (o : Wo) (a : Addr) : Ob → Prop
  | .lst l => ∃ vs, o.H a = some (.lst vs) ∧ Rvs K o l vs
  | .dic ks ws => ∃ kvs, o.H a = some (.dK kvs) ∧ kvs.map (·.1) = ks ∧ Rvs K o ws (kvs.map (·.2))
  | .gone => True
structure Rel (K : PySem.W.Frag) (o : Wo) : Prop where
  ob : ∀ k b, o.h[k]? = some b → Ro K o (o.mu k) b
  inj : ∀ j k b c, o.h[j]? = some b → o.h[k]? = some c → b ≠ .gone → c ≠ .gone → o.mu j = o.mu k → j = k
/-- one world behind another -/
structure Ex (o p : Wo) : Prop where
  le : o.h.length ≤ p.h.length
  mu : ∀ k, k < o.h.length → p.mu k = o.mu k
  fr : ∀ a u, o.H a = some u → ¬ Lv o a → p.H a = some u ∧ ¬ Lv p a
theorem Ex.refl (o : Wo) : Ex o o := ⟨Nat.le_refl _, fun _ _ => rfl, fun _ _ h n => ⟨h, n⟩⟩
theorem Ex.trans {o p q : Wo} (a : Ex o p) (b : Ex p q) : Ex o q := ⟨Nat.le_trans a.le b.le, fun k h => (b.mu k (Nat.lt_of_lt_of_le h a.le)).trans (a.mu k h), fun c u h n => let ⟨h1, n1⟩ := a.fr c u h n; b.fr c u h1 n1⟩
section
variable {K : PySem.W.Frag} {o p : Wo}
theorem Lv.kind (R : Rel K o) {a : Addr} (h : Lv o a) : (∃ vs, o.H a = some (.lst vs)) ∨ ∃ kvs, o.H a = some (.dK kvs) := by
  obtain ⟨k, b, hk, hb, rfl⟩ := h
  have q := R.ob k b hk
  cases b with
  | lst l => exact .inl (let ⟨vs, e, _⟩ := q; ⟨vs, e⟩)
  | dic ks ws => exact .inr (let ⟨vs, e, _⟩ := q; ⟨vs, e⟩)
  | gone => exact absurd rfl hb
theorem Ex.keep (X : Ex o p) (R : Rel K o) {a : Addr} {u : HO} (h : o.H a = some u) (n1 : ∀ vs, u ≠ .lst vs) (n2 : ∀ kvs, u ≠ .dK kvs) : p.H a = some u := by
  refine (X.fr a u h fun l => ?_).1
  rcases l.kind R with ⟨vs, e⟩ | ⟨vs, e⟩
  · rw [h] at e; exact n1 vs (Option.some.inj e)
  · rw [h] at e; exact n2 vs (Option.some.inj e)
theorem Ex.rdT (X : Ex o p) (R : Rel K o) {a : Addr} {vs : List V} (h : SqT K o.H a vs) : SqT K p.H a vs := by
  rcases h with (h | ⟨ob, h⟩) | h
  · exact .inl (.inl (X.keep R h (fun _ z => nomatch z) fun _ z => nomatch z))
  · exact .inl (.inr ⟨ob, X.keep R h (fun _ z => nomatch z) fun _ z => nomatch z⟩)
  · exact .inr h
theorem Ex.rd (X : Ex o p) {a : Addr} {u : HO} (h : Rd o.H a u) (n : ¬ Lv o a) : Rd p.H a u ∧ ¬ Lv p a := by
  rcases h with h | ⟨ob, h⟩
  · exact ⟨.inl (X.fr a _ h n).1, (X.fr a _ h n).2⟩
  · exact ⟨.inr ⟨ob, (X.fr a _ h n).1⟩, (X.fr a _ h n).2⟩
mutual
theorem Rv.mono (R : Rel K o) (X : Ex o p) : ∀ (w : W) (v : V), Rv K o w v → Rv K p w v
  | .ty n, v, h => h
  | .exc c, v, h => by
    unfold Rv at h ⊢
    obtain ⟨a, C, e, h1, h2⟩ := h
    exact ⟨a, C, e, h1, X.keep R h2 (fun _ z => nomatch z) fun _ z => nomatch z⟩
  | .cls c, v, h => by
    unfold Rv at h ⊢
    exact h
  | .non, v, h => h
  | .bl b, v, h => h
  | .int i, v, h => h
  | .str x, v, h => h
  | .tup l, v, h => by
    unfold Rv at h ⊢
    obtain ⟨a, vs, e, h1, h2⟩ := h
    exact ⟨a, vs, e, X.rdT R h1, Rvs.mono R X l vs h2⟩
  | .tl l, v, h => by
    unfold Rv at h ⊢
    obtain ⟨a, vs, e, h1, n, h2⟩ := h
    exact ⟨a, vs, e, (X.fr a _ h1 n).1, (X.fr a _ h1 n).2, Rvs.mono R X l vs h2⟩
  | .cl l, v, h => by
    unfold Rv at h ⊢
    obtain ⟨a, vs, e, h1, h2⟩ := h
    refine ⟨a, vs, e, ?_, Rvs.mono R X l vs h2⟩
    rcases h1 with ⟨h1, n⟩ | h1
    · exact .inl (X.rd h1 n)
    · exact .inr h1
  | .dv ks ws, v, h => by
    unfold Rv at h ⊢
    obtain ⟨a, vs, e, h1, n, h2, h3⟩ := h
    exact ⟨a, vs, e, (X.rd h1 n).1, (X.rd h1 n).2, h2, Rvs.mono R X ws _ h3⟩
  | .loc k, v, h => by
    unfold Rv at h ⊢
    exact ⟨Nat.lt_of_lt_of_le h.1 X.le, by rw [X.mu k h.1]; exact h.2⟩
theorem Rvs.mono (R : Rel K o) (X : Ex o p) : ∀ (l : List W) (vs : List V), Rvs K o l vs → Rvs K p l vs
  | [], vs, h => h
  | w :: l, vs, h => by
    unfold Rvs at h ⊢
    obtain ⟨v, r, e, h1, h2⟩ := h
    exact ⟨v, r, e, Rv.mono R X w v h1, Rvs.mono R X l r h2⟩
end
/-- the places stand as they stood -/
theorem Rel.keep (R : Rel K o) (X : Ex o p) (e1 : p.h = o.h) (e2 : p.mu = o.mu) (e3 : ∀ k b, o.h[k]? = some b → b ≠ .gone → p.H (o.mu k) = o.H (o.mu k)) : Rel K p := by
  refine ⟨fun k b hk => ?_, fun j k b c h1 h2 => ?_⟩
  · rw [e1] at hk
    rw [e2]
    have q := R.ob k b hk
    cases b with
    | lst l => obtain ⟨vs, h1, h2⟩ := q; exact ⟨vs, by rw [e3 k _ hk (by simp)]; exact h1, h2.mono R X⟩
    | dic ks ws => obtain ⟨vs, h1, h2, h3⟩ := q; exact ⟨vs, by rw [e3 k _ hk (by simp)]; exact h1, h2, h3.mono R X⟩
    | gone => trivial
  · rw [e1] at h1 h2
    rw [e2]
    exact R.inj j k b c h1 h2
theorem Lv.there (R : Rel K o) {a : Addr} (h : Lv o a) : o.H a ≠ none := by
  rcases h.kind R with ⟨vs, e⟩ | ⟨vs, e⟩ <;> (rw [e]; simp)
/-- a new thing that is no place -/
theorem Ex.new {q : Addr} {u : HO} (h : o.H q = none) : Ex o ⟨o.mu, o.h, upd o.H q u⟩ := by
  refine ⟨Nat.le_refl _, fun _ _ => rfl, fun a w e n => ⟨?_, n⟩⟩
  show upd o.H q u a = some w
  rw [upd_ne (ne_of_none e h)]; exact e
theorem Rel.new (R : Rel K o) {q : Addr} {u : HO} (h : o.H q = none) : Rel K ⟨o.mu, o.h, upd o.H q u⟩ := by
  refine R.keep (Ex.new h) rfl rfl fun k b hk hb => ?_
  have l : Lv o (o.mu k) := ⟨k, b, hk, hb, rfl⟩
  show upd o.H q u (o.mu k) = _
  rw [upd_ne fun z => l.there R (by rw [z]; exact h)]
theorem Ex.same {H' : Hp} (g : Same o.H H') : Ex o ⟨o.mu, o.h, H'⟩ := ⟨Nat.le_refl _, fun _ _ => rfl, fun a w e n => ⟨g a w e, n⟩⟩
theorem Rel.same (R : Rel K o) {H' : Hp} (g : Same o.H H') : Rel K ⟨o.mu, o.h, H'⟩ := by
  refine R.keep (Ex.same g) rfl rfl fun k b hk hb => ?_
  cases e : o.H (o.mu k) with
  | none => exact absurd e (Lv.there R ⟨k, b, hk, hb, rfl⟩)
  | some u => exact g _ _ e
/-- a new place -/
def Wo.add (o : Wo) (q : Addr) (b : Ob) (u : HO) : Wo := ⟨fun k => if k = o.h.length then q else o.mu k, o.h ++ [b], upd o.H q u⟩
theorem Ex.add {q : Addr} {b : Ob} {u : HO} (h : o.H q = none) : Ex o (o.add q b u) := by
  refine ⟨by show _ ≤ (o.h ++ [b]).length; simp, fun k hk => ?_, fun a w e n => ⟨?_, fun l => ?_⟩⟩
  · show (if k = o.h.length then q else o.mu k) = _
    rw [if_neg (by omega)]
  · show upd o.H q u a = some w
    rw [upd_ne (ne_of_none e h)]; exact e
  · obtain ⟨k, c, hk, hc, ha⟩ := l
    have ha : (if k = o.h.length then q else o.mu k) = a := ha
    have hk : (o.h ++ [b])[k]? = some c := hk
    by_cases z : k = o.h.length
    · rw [if_pos z] at ha
      exact absurd ha.symm (ne_of_none e h)
    · rw [if_neg z] at ha
      have hl : k < o.h.length := by
        have := (List.getElem?_eq_some_iff.mp hk).1
        rw [List.length_append, List.length_singleton] at this
        omega
      rw [List.getElem?_append_left hl] at hk
      exact n ⟨k, c, hk, hc, ha⟩
theorem Rel.add (R : Rel K o) {q : Addr} {b : Ob} {u : HO} (h : o.H q = none) (hb : Ro K (o.add q b u) q b) : Rel K (o.add q b u) := by
  have X : Ex o (o.add q b u) := Ex.add h
  have old : ∀ {k : Nat} {c : Ob}, (o.add q b u).h[k]? = some c → k ≠ o.h.length → o.h[k]? = some c ∧ (o.add q b u).mu k = o.mu k := fun {k c} hk z => by
    have hk : (o.h ++ [b])[k]? = some c := hk
    have hl : k < o.h.length := by
      have := (List.getElem?_eq_some_iff.mp hk).1
      rw [List.length_append, List.length_singleton] at this
      omega
    rw [List.getElem?_append_left hl] at hk
    exact ⟨hk, X.mu k hl⟩
  have new : ∀ {k : Nat} {c : Ob}, (o.add q b u).h[k]? = some c → k = o.h.length → c = b ∧ (o.add q b u).mu k = q := fun {k c} hk z => by
    subst z
    have hk : (o.h ++ [b])[o.h.length]? = some c := hk
    rw [List.getElem?_append_right (Nat.le_refl _), Nat.sub_self] at hk
    exact ⟨(Option.some.inj hk).symm, if_pos rfl⟩
  have ne : ∀ {k : Nat} {c : Ob}, o.h[k]? = some c → c ≠ .gone → o.mu k ≠ q := fun {k c} hk hc z => Lv.there R ⟨k, c, hk, hc, rfl⟩ (by rw [z]; exact h)
  refine ⟨fun k c hk => ?_, fun j k c d h1 h2 n1 n2 e => ?_⟩
  · by_cases z : k = o.h.length
    · obtain ⟨rfl, e⟩ := new hk z
      rw [e]; exact hb
    · obtain ⟨hk, e⟩ := old hk z
      rw [e]
      have r := R.ob k c hk
      have st : ∀ {w : HO}, c ≠ .gone → o.H (o.mu k) = some w → (o.add q b u).H (o.mu k) = some w := fun {w} hc e => by
        show upd o.H q u (o.mu k) = some w
        rw [upd_ne (ne hk hc)]; exact e
      cases c with
      | lst l => obtain ⟨vs, h1, h2⟩ := r; exact ⟨vs, st (by simp) h1, h2.mono R X⟩
      | dic ks ws => obtain ⟨vs, h1, h2, h3⟩ := r; exact ⟨vs, st (by simp) h1, h2, h3.mono R X⟩
      | gone => trivial
  · by_cases z1 : j = o.h.length
    · by_cases z2 : k = o.h.length
      · omega
      · obtain ⟨_, e1⟩ := new h1 z1
        obtain ⟨hk, e2⟩ := old h2 z2
        rw [e1, e2] at e
        exact absurd e.symm (ne hk n2)
    · obtain ⟨hj, e1⟩ := old h1 z1
      by_cases z2 : k = o.h.length
      · obtain ⟨_, e2⟩ := new h2 z2
        rw [e1, e2] at e
        exact absurd e (ne hj n1)
      · obtain ⟨hk, e2⟩ := old h2 z2
        rw [e1, e2] at e
        exact R.inj j k c d hj hk n1 n2 e
theorem Rel.addL (R : Rel K o) {q : Addr} {l : List W} {vs : List V} (h : o.H q = none) (hl : Rvs K o l vs) : Rel K (o.add q (.lst l) (.lst vs)) := R.add h ⟨vs, upd_same, hl.mono R (Ex.add h)⟩
theorem Rel.addD (R : Rel K o) {q : Addr} {ks : List Key} {ws : List W} {kvs : List (Key × V)} (h : o.H q = none) (hk : kvs.map (·.1) = ks) (hl : Rvs K o ws (kvs.map (·.2))) : Rel K (o.add q (.dic ks ws) (.dK kvs)) := R.add h ⟨kvs, upd_same, hk, hl.mono R (Ex.add h)⟩
/-- what stands at a place is changed -/
def Wo.put (o : Wo) (k : Nat) (b : Ob) (u : HO) : Wo := ⟨o.mu, o.h.set k b, upd o.H (o.mu k) u⟩
theorem Lv.put {k : Nat} {b c : Ob} {u : HO} {a : Addr} (hk : o.h[k]? = some c) (hc : c ≠ .gone) (h : Lv (o.put k b u) a) : Lv o a := by
  obtain ⟨j, d, hj, hd, rfl⟩ := h
  have hj : (o.h.set k b)[j]? = some d := hj
  by_cases z : j = k
  · subst z; exact ⟨j, c, hk, hc, rfl⟩
  · rw [List.getElem?_set_ne (Ne.symm z)] at hj
    exact ⟨j, d, hj, hd, rfl⟩
theorem Ex.put {k : Nat} {b c : Ob} {u : HO} (hk : o.h[k]? = some c) (hc : c ≠ .gone) : Ex o (o.put k b u) := by
  refine ⟨by show _ ≤ (o.h.set k b).length; simp, fun _ _ => rfl, fun a w e n => ⟨?_, fun l => n (l.put hk hc)⟩⟩
  show upd o.H (o.mu k) u a = some w
  rw [upd_ne fun z => n ⟨k, c, hk, hc, z.symm⟩]; exact e
theorem Rel.put (R : Rel K o) {k : Nat} {b c : Ob} {u : HO} (hk : o.h[k]? = some c) (hc : c ≠ .gone) (hb : Ro K (o.put k b u) (o.mu k) b) : Rel K (o.put k b u) := by
  have X : Ex o (o.put k b u) := Ex.put hk hc
  have old : ∀ {j : Nat} {d : Ob}, (o.put k b u).h[j]? = some d → j ≠ k → o.h[j]? = some d := fun {j d} hj z => by
    have hj : (o.h.set k b)[j]? = some d := hj
    rw [List.getElem?_set_ne (Ne.symm z)] at hj
    exact hj
  refine ⟨fun j d hj => ?_, fun i j d e h1 h2 n1 n2 q => ?_⟩
  · by_cases z : j = k
    · subst z
      have hl := (List.getElem?_eq_some_iff.mp hk).1
      have hj : (o.h.set j b)[j]? = some d := hj
      rw [List.getElem?_set_self hl] at hj
      cases hj
      exact hb
    · have hj := old hj z
      have r := R.ob j d hj
      have st : ∀ {w : HO}, d ≠ .gone → o.H (o.mu j) = some w → (o.put k b u).H (o.mu j) = some w := fun {w} hd e => by
        show upd o.H (o.mu k) u (o.mu j) = some w
        rw [upd_ne fun q => z (R.inj j k d c hj hk hd hc q)]; exact e
      cases d with
      | lst l => obtain ⟨vs, h1, h2⟩ := r; exact ⟨vs, st (by simp) h1, h2.mono R X⟩
      | dic ks ws => obtain ⟨vs, h1, h2, h3⟩ := r; exact ⟨vs, st (by simp) h1, h2, h3.mono R X⟩
      | gone => trivial
  · have ex : ∀ {j : Nat} {d : Ob}, (o.put k b u).h[j]? = some d → d ≠ .gone → ∃ d', o.h[j]? = some d' ∧ d' ≠ .gone := fun {j d} hj n => by
      by_cases z : j = k
      · subst z; exact ⟨c, hk, hc⟩
      · exact ⟨d, old hj z, n⟩
    obtain ⟨d', h1', n1'⟩ := ex h1 n1
    obtain ⟨e', h2', n2'⟩ := ex h2 n2
    exact R.inj i j d' e' h1' h2' n1' n2' q
theorem Rel.putL (R : Rel K o) {k : Nat} {c : Ob} {l : List W} {vs : List V} (hk : o.h[k]? = some c) (hc : c ≠ .gone) (hl : Rvs K o l vs) : Rel K (o.put k (.lst l) (.lst vs)) := R.put hk hc ⟨vs, upd_same, hl.mono R (Ex.put hk hc)⟩
theorem Rel.putD (R : Rel K o) {k : Nat} {c : Ob} {ks : List Key} {ws : List W} {kvs : List (Key × V)} (hk : o.h[k]? = some c) (hc : c ≠ .gone) (h1 : kvs.map (·.1) = ks) (hl : Rvs K o ws (kvs.map (·.2))) : Rel K (o.put k (.dic ks ws) (.dK kvs)) := R.put hk hc ⟨kvs, upd_same, h1, hl.mono R (Ex.put hk hc)⟩
/-- a place is given up: what stands there changes no more -/
def Wo.ice (o : Wo) (k : Nat) : Wo := ⟨o.mu, o.h.set k .gone, o.H⟩
theorem Lv.ice {k : Nat} {a : Addr} (h : Lv (o.ice k) a) : ∃ j b, j ≠ k ∧ o.h[j]? = some b ∧ b ≠ .gone ∧ o.mu j = a := by
  obtain ⟨j, d, hj, hd, e⟩ := h
  have hj : (o.h.set k .gone)[j]? = some d := hj
  by_cases z : j = k
  · subst z
    have hl := (List.getElem?_eq_some_iff.mp hj).1
    rw [List.length_set] at hl
    rw [List.getElem?_set_self hl] at hj
    cases hj
    exact absurd rfl hd
  · rw [List.getElem?_set_ne (Ne.symm z)] at hj
    exact ⟨j, d, z, hj, hd, e⟩
theorem Ex.ice {k : Nat} : Ex o (o.ice k) := by
  refine ⟨by show _ ≤ (o.h.set k .gone).length; simp, fun _ _ => rfl, fun a w e n => ⟨e, fun l => ?_⟩⟩
  obtain ⟨j, b, _, h1, h2, h3⟩ := l.ice
  exact n ⟨j, b, h1, h2, h3⟩
theorem Rel.ice (R : Rel K o) {k : Nat} : Rel K (o.ice k) := by
  have X : Ex o (o.ice k) := Ex.ice
  have old : ∀ {j : Nat} {d : Ob}, (o.ice k).h[j]? = some d → d ≠ .gone → o.h[j]? = some d := fun {j d} hj n => by
    have hj : (o.h.set k .gone)[j]? = some d := hj
    by_cases z : j = k
    · subst z
      have hl := (List.getElem?_eq_some_iff.mp hj).1
      rw [List.length_set] at hl
      rw [List.getElem?_set_self hl] at hj
      cases hj
      exact absurd rfl n
    · rw [List.getElem?_set_ne (Ne.symm z)] at hj
      exact hj
  refine ⟨fun j d hj => ?_, fun i j d e h1 h2 n1 n2 q => R.inj i j d e (old h1 n1) (old h2 n2) n1 n2 q⟩
  cases d with
  | lst l => obtain ⟨vs, h1, h2⟩ := R.ob j _ (old hj (by simp)); exact ⟨vs, h1, h2.mono R X⟩
  | dic ks ws => obtain ⟨vs, h1, h2, h3⟩ := R.ob j _ (old hj (by simp)); exact ⟨vs, h1, h2, h3.mono R X⟩
  | gone => trivial
theorem Rv.iceL (R : Rel K o) {k : Nat} {l : List W} (hk : o.h[k]? = some (.lst l)) : Rv K (o.ice k) (.tl l) (.ref (o.mu k)) := by
  obtain ⟨vs, h1, h2⟩ := R.ob k _ hk
  unfold Rv
  refine ⟨_, vs, rfl, h1, fun z => ?_, h2.mono R Ex.ice⟩
  obtain ⟨j, b, n, q1, q2, q3⟩ := z.ice
  exact n (R.inj j k b _ q1 hk q2 (by simp) q3)
theorem Rv.iceD (R : Rel K o) {k : Nat} {ks : List Key} {ws : List W} (hk : o.h[k]? = some (.dic ks ws)) : Rv K (o.ice k) (.dv ks ws) (.ref (o.mu k)) := by
  obtain ⟨vs, h1, h0, h2⟩ := R.ob k _ hk
  unfold Rv
  refine ⟨_, vs, rfl, .inl h1, fun z => ?_, h0, h2.mono R Ex.ice⟩
  obtain ⟨j, b, n, q1, q2, q3⟩ := z.ice
  exact n (R.inj j k b _ q1 hk q2 (by simp) q3)
/-! ### rows of values -/
theorem Rvs.len : ∀ {l : List W} {vs : List V}, Rvs K o l vs → vs.length = l.length
  | [], _, h => by unfold Rvs at h; rw [h]; rfl
  | w :: l, _, h => by unfold Rvs at h; obtain ⟨v, r, rfl, _, h2⟩ := h; rw [List.length_cons, List.length_cons, Rvs.len h2]
theorem Rvs.get : ∀ {l : List W} {vs : List V} {i : Nat} {w : W}, Rvs K o l vs → l[i]? = some w → ∃ v, vs[i]? = some v ∧ Rv K o w v
  | [], _, _, _, _, e => by simp at e
  | x :: l, _, 0, w, h, e => by unfold Rvs at h; obtain ⟨v, r, rfl, h1, h2⟩ := h; cases e; exact ⟨v, rfl, h1⟩
  | x :: l, _, i + 1, w, h, e => by unfold Rvs at h; obtain ⟨v, r, rfl, h1, h2⟩ := h; obtain ⟨u, q1, q2⟩ := Rvs.get (l := l) (i := i) (w := w) h2 (by simpa using e); exact ⟨u, by simpa using q1, q2⟩
theorem Rvs.nil : Rvs K o [] [] := by unfold Rvs; rfl
theorem Rvs.cons {w : W} {v : V} {l : List W} {vs : List V} (h : Rv K o w v) (t : Rvs K o l vs) : Rvs K o (w :: l) (v :: vs) := by unfold Rvs; exact ⟨v, vs, rfl, h, t⟩
theorem Rvs.app : ∀ {l m : List W} {vs us : List V}, Rvs K o l vs → Rvs K o m us → Rvs K o (l ++ m) (vs ++ us)
  | [], _, _, _, h, t => by unfold Rvs at h; rw [h]; exact t
  | w :: l, m, _, us, h, t => by unfold Rvs at h; obtain ⟨v, r, rfl, h1, h2⟩ := h; exact Rvs.cons h1 (Rvs.app h2 t)
theorem Rvs.take : ∀ {l : List W} {vs : List V} (n : Nat), Rvs K o l vs → Rvs K o (l.take n) (vs.take n)
  | [], _, n, h => by unfold Rvs at h; rw [h, List.take_nil, List.take_nil]; exact Rvs.nil
  | w :: l, _, 0, h => by rw [List.take_zero, List.take_zero]; exact Rvs.nil
  | w :: l, _, n + 1, h => by unfold Rvs at h; obtain ⟨v, r, rfl, h1, h2⟩ := h; exact Rvs.cons h1 (Rvs.take n h2)
theorem Rvs.drop : ∀ {l : List W} {vs : List V} (n : Nat), Rvs K o l vs → Rvs K o (l.drop n) (vs.drop n)
  | [], _, n, h => by unfold Rvs at h; rw [h, List.drop_nil, List.drop_nil]; exact Rvs.nil
  | w :: l, _, 0, h => h
  | w :: l, _, n + 1, h => by unfold Rvs at h; obtain ⟨v, r, rfl, h1, h2⟩ := h; exact Rvs.drop n h2
/-! ### the frame's names -/
abbrev Env' := List (Option W)
def RvO (K : PySem.W.Frag) (o : Wo) : Option W → Option V → Prop
  | some w, s => ∃ v, s = some v ∧ Rv K o w v
  | none, s => s = none
def Re (K : PySem.W.Frag) (o : Wo) : Env' → St → Prop
  | [], s => s = []
  | w :: r, s => ∃ x t, s = x :: t ∧ RvO K o w x ∧ Re K o r t
theorem RvO.mono (R : Rel K o) (X : Ex o p) : ∀ {w : Option W} {s : Option V}, RvO K o w s → RvO K p w s
  | some w, _, ⟨v, e, h⟩ => ⟨v, e, h.mono R X⟩
  | none, _, h => h
theorem Re.mono (R : Rel K o) (X : Ex o p) : ∀ {r : Env'} {s : St}, Re K o r s → Re K p r s
  | [], _, h => h
  | w :: r, _, ⟨x, t, e, h1, h2⟩ => ⟨x, t, e, h1.mono R X, Re.mono R X h2⟩
theorem Re.get : ∀ {r : Env'} {s : St} {i : Nat} {w : W}, Re K o r s → r[i]? = some (some w) → ∃ v, s[i]? = some (some v) ∧ Rv K o w v
  | [], _, _, _, _, e => by simp at e
  | x :: r, _, 0, w, ⟨y, t, rfl, h1, h2⟩, e => by cases e; obtain ⟨v, rfl, q⟩ := h1; exact ⟨v, rfl, q⟩
  | x :: r, _, i + 1, w, ⟨y, t, rfl, h1, h2⟩, e => by obtain ⟨u, q1, q2⟩ := Re.get (r := r) (i := i) (w := w) h2 (by simpa using e); exact ⟨u, by simpa using q1, q2⟩
theorem Re.set {w : W} {v : V} (q : Rv K o w v) : ∀ {r : Env'} {s : St} (i : Nat), Re K o r s → Re K o (r.set i (some w)) (s.set i (some v))
  | [], _, _, h => by rw [show _ = [] from h]; rfl
  | x :: r, _, 0, ⟨y, t, rfl, h1, h2⟩ => ⟨_, _, rfl, ⟨v, rfl, q⟩, h2⟩
  | x :: r, _, i + 1, ⟨y, t, rfl, h1, h2⟩ => ⟨_, _, rfl, h1, Re.set q i h2⟩
theorem Re.args : ∀ {ws : List W} {vs : List V} (n : Nat), Rvs K o ws vs → Re K o (ws.map some ++ List.replicate n none) (vs.map some ++ List.replicate n none)
  | [], _, n, h => by
    unfold Rvs at h; rw [h]
    induction n with
    | zero => rfl
    | succ n ih => exact ⟨none, _, rfl, rfl, ih⟩
  | w :: l, _, n, h => by unfold Rvs at h; obtain ⟨v, r, rfl, h1, h2⟩ := h; exact ⟨_, _, rfl, ⟨v, rfl, h1⟩, Re.args n h2⟩
end
/-! ### what a body does -/
inductive Rs (α : Type) where
  | ok (a : α) (h : List Ob) | ex (c : Str) (h : List Ob) | bad
abbrev M (α : Type) := List Ob → Rs α
def bd {α β : Type} (f : M α) (g : α → M β) : M β := fun h => match f h with
  | .ok a h' => g a h'
  | .ex c h' => .ex c h'
  | .bad => .bad
def pr {α : Type} (a : α) : M α := fun h => .ok a h
def no {α : Type} : M α := fun _ => .bad
def gd {α : Type} (p : Prop) [Decidable p] (m : M α) : M α := fun h => if p then m h else .bad
structure Cg where
  K : PySem.W.Frag
  mg : Str → Option Value
  E : XK
def Ps {α β : Type} (c : Cg) (r : Wo → α → β → Prop) (o : Wo) (R : Rs α) (Q : β → Hp → Prop) : Prop := match R with
  | .ok a h' => ∀ p b, p.h = h' → Ex o p → Rel c.K p → r p a b → Q b p.H
  | .ex x h' => ∃ u, c.mg x = some u ∧ ∀ p, p.h = h' → Ex o p → Rel c.K p → c.E u none p.H
  | .bad => False
def tG {α β : Type} (c : Cg) (r : Wo → α → β → Prop) (f : Env' → M α) (σ : St) (H : Hp) (Q : β → Hp → Prop) : Prop := ∃ o ρ, o.H = H ∧ Rel c.K o ∧ Re c.K o ρ σ ∧ Ps c r o (f ρ o.h) Q
abbrev tM (c : Cg) (f : Env' → M W) : TE := tG c (Rv c.K) f
abbrev tT (c : Cg) (f : Env' → M Bool) : TT := tG c (fun _ a b => a = b) f
abbrev tA (c : Cg) (f : Env' → M (List W)) : TA := tG c (Rvs c.K) f
section
variable {c : Cg} {o p : Wo} {α β γ δ : Type} {r : Wo → α → β → Prop} {r2 : Wo → γ → δ → Prop}
theorem Ps.after {R : Rs α} {Q : β → Hp → Prop} (X : Ex o p) (h : Ps c r o R Q) : Ps c r p R Q := by
  cases R with
  | ok a h' => exact fun q b e X2 Rq rq => h q b e (X.trans X2) Rq rq
  | ex x h' => obtain ⟨u, hu, h⟩ := h; exact ⟨u, hu, fun q e X2 Rq => h q e (X.trans X2) Rq⟩
  | bad => exact h
theorem Ps.bd {f : M α} {g : α → M γ} {Q : δ → Hp → Prop} {N : β → Hp → Prop} (h : Ps c r2 o (bd f g o.h) Q) (k : ∀ p a b, Ex o p → Rel c.K p → r p a b → Ps c r2 p (g a p.h) Q → N b p.H) : Ps c r o (f o.h) N := by
  unfold L2.bd at h
  cases e : f o.h with
  | ok a h' =>
    rw [e] at h
    intro p b hp X R rb
    subst hp
    exact k p a b X R rb (h.after X)
  | ex x h' =>
    rw [e] at h
    exact h
  | bad =>
    rw [e] at h
    exact h
theorem Ps.pr {a : α} {Q : β → Hp → Prop} {b : β} (h : Ps c r o (pr a o.h) Q) (R : Rel c.K o) (hb : r o a b) : Q b o.H := h o b rfl (Ex.refl _) R hb
/-- .. in a later world with the same places -/
theorem Ps.at {a : α} {h' : List Ob} {Q : β → Hp → Prop} {b : β} (h : Ps c r o (.ok a h') Q) (e : p.h = h') (X : Ex o p) (R : Rel c.K p) (hb : r p a b) : Q b p.H := h p b e X R hb
theorem Ps.gd {P : Prop} [Decidable P] {m : M α} {Q : β → Hp → Prop} (h : Ps c r o (gd P m o.h) Q) : P ∧ Ps c r o (m o.h) Q := by
  unfold L2.gd at h
  by_cases q : P
  · rw [if_pos q] at h; exact ⟨q, h⟩
  · rw [if_neg q] at h; exact h.elim
end
end L2
set_option maxHeartbeats 1000000
/-! the mirror: expressions -/
namespace L2
open PySem PySem.Spec PyProof.Rows
abbrev cg (X : Cx) (E : XK) : Cg := ⟨X.K, X.mg, E⟩
def tF (c : Cg) (f : Env' → M (List W)) : TE := fun σ H Q => tG c (Rvs c.K) f σ H fun vs H1 => ∀ q, H1 q = none → Q (.ref q) (upd H1 q (.lst vs))

structure JE (X : Cx) (E : XK) (e : Expr) (f : Env' → M W) : Prop where
  h : PE X e (tM (cg X E) f)
structure JT (X : Cx) (E : XK) (e : Expr) (f : Env' → M Bool) : Prop where
  h : PT X e (tT (cg X E) f)
structure JW (X : Cx) (E : XK) (e : Expr) (f : Env' → M Bool) : Prop where
  h : PW X e (tT (cg X E) f)
structure JA (X : Cx) (E : XK) (es : List Expr) (f : Env' → M (List W)) : Prop where
  h : PA X es (tA (cg X E) f)
structure JF (X : Cx) (E : XK) (e : Expr) (f : Env' → M (List W)) : Prop where
  h : PE X e (tF (cg X E) f)
theorem PE.imp {X : Cx} {E : XK} {e : Expr} {t : TE} {f : Env' → M W} (h : PE X e t) (k : ∀ σ H Q, tM (cg X E) f σ H Q → t σ H Q) : JE X E e f := ⟨fun pins s σ H Q I q => h pins s σ H Q I (k σ H Q q)⟩
theorem PE.impF {X : Cx} {E : XK} {e : Expr} {t : TE} {f : Env' → M (List W)} (h : PE X e t) (k : ∀ σ H Q, tF (cg X E) f σ H Q → t σ H Q) : JF X E e f := ⟨fun pins s σ H Q I q => h pins s σ H Q I (k σ H Q q)⟩
theorem PT.imp {X : Cx} {E : XK} {e : Expr} {t : TT} {f : Env' → M Bool} (h : PT X e t) (k : ∀ σ H Q, tT (cg X E) f σ H Q → t σ H Q) : JT X E e f := ⟨fun pins s σ H Q I q => h pins s σ H Q I (k σ H Q q)⟩
theorem PW.imp {X : Cx} {E : XK} {e : Expr} {t : TT} {f : Env' → M Bool} (h : PW X e t) (k : ∀ σ H Q, tT (cg X E) f σ H Q → t σ H Q) : JW X E e f := ⟨fun w pins s σ H Q I q => h w pins s σ H Q I (k σ H Q q)⟩
theorem PA.imp {X : Cx} {E : XK} {e : List Expr} {t : TA} {f : Env' → M (List W)} (h : PA X e t) (k : ∀ σ H Q, tA (cg X E) f σ H Q → t σ H Q) : JA X E e f := ⟨fun pos pins s σ H Q I q => h pos pins s σ H Q I (k σ H Q q)⟩
theorem jw_pt {X : Cx} {E : XK} {e : Expr} {f : Env' → M Bool} (q : JW X E e f) : JT X E e f := ⟨(q.h).pt⟩
section
variable {X : Cx} {E : XK}
/-! ### names, constants -/
def mVar (i : Nat) : Env' → M W := fun ρ => match ρ[i]? with
  | some (some w) => pr w
  | _ => no
def mC (w : W) : Env' → M W := fun _ => pr w
theorem tM_var {i : Nat} {σ : St} {H : Hp} {Q : VK} (h : tM (cg X E) (mVar i) σ H Q) : tVar i σ H Q := by
  obtain ⟨o, ρ, rfl, R, S, h⟩ := h
  unfold mVar at h
  cases e : ρ[i]? with
  | none => rw [e] at h; exact h.elim
  | some x =>
    cases x with
    | none => rw [e] at h; exact h.elim
    | some w =>
      rw [e] at h
      obtain ⟨v, e1, r⟩ := S.get e
      exact ⟨v, e1, h.pr R r⟩
theorem me_var (i : Nat) {x : Str} {pos : Pos} (hN : X.N[i]? = some x := by rfl) (hv : Vis X.env.scope x := by first | exact Or.inl rfl | exact Or.inr (Or.inl rfl) | exact Or.inr (Or.inr rfl)) (hd : (x == ("__debug__" : Str)) = false := by decide)
    (hcd : (x == ("__classdict__" : Str)) = false := by decide) : JE X E (.Name x pos) (mVar i) := (pv i hN hv hd hcd).imp fun _ _ _ h => tM_var h
theorem tM_c {w : W} {v : V} (hr : ∀ o, Rv X.K o w v) {σ : St} {H : Hp} {Q : VK} (h : tM (cg X E) (mC w) σ H Q) : tC v σ H Q := by
  obtain ⟨o, ρ, rfl, R, S, h⟩ := h
  exact Ps.pr (c := cg X E) h R (hr o)
theorem me_int {i j pos} : JE X E (.Constant (.int i) j pos) (mC (.int i)) := pe_int.imp fun _ _ _ h => tM_c (fun o => by unfold Rv; rfl) h
theorem me_bl {i j pos} : JE X E (.Constant (.bool i) j pos) (mC (.bl i)) := pe_bl.imp fun _ _ _ h => tM_c (fun o => by unfold Rv; rfl) h
theorem me_str {i j pos} : JE X E (.Constant (.str i) j pos) (mC (.str i)) := pe_str.imp fun _ _ _ h => tM_c (fun o => by unfold Rv; rfl) h
/-! ### two places -/
def m2 (f : W → W → M W) (fa fb : Env' → M W) : Env' → M W := fun ρ => bd (fa ρ) fun x => bd (fb ρ) fun y => f x y
def OpM (X : Cx) (E : XK) (r : R2) (f : W → W → M W) : Prop := ∀ (o : Wo) (x y : W) (vx vy : V) (Q : VK), Rel X.K o → Rv X.K o x vx → Rv X.K o y vy → Ps (cg X E) (Rv X.K) o (f x y o.h) Q → r vx vy o.H Q
theorem tM_2 {r : R2} {f : W → W → M W} (hf : OpM X E r f) {fa fb : Env' → M W} {σ : St} {H : Hp} {Q : VK} (h : tM (cg X E) (m2 f fa fb) σ H Q) : tOp r (tM (cg X E) fa) (tM (cg X E) fb) σ H Q := by
  obtain ⟨o, ρ, rfl, R, S, h⟩ := h
  exact ⟨o, ρ, rfl, R, S, Ps.bd h fun p x vx e1 R1 r1 h1 => ⟨p, ρ, rfl, R1, S.mono R e1, Ps.bd h1 fun q y vy e2 R2 r2 h2 => hf q x y vx vy Q R2 (r1.mono R1 e2) r2 h2⟩⟩
theorem me_op {a b : Expr} {pos : Pos} {op : Operator} {r : R2} {f : W → W → M W} {fa fb : Env' → M W} (ho : OpR X (binaryOp op) r) (hf : OpM X E r f) (ha : JE X E a fa) (hb : JE X E b fb) :
    JE X E (.BinOp a op b pos) (m2 f fa fb) := (pe_op ho ha.h hb.h).imp fun _ _ _ h => tM_2 hf h
/-- a truth that a value is -/
def asB (w : W) : M Bool := match w with
  | .bl b => pr b
  | _ => no
def mB (f : Env' → M W) : Env' → M Bool := fun ρ => bd (f ρ) asB
theorem tM_b {f : Env' → M W} {σ : St} {H : Hp} {Q : Bool → Hp → Prop} (h : tT (cg X E) (mB f) σ H Q) : tM (cg X E) f σ H fun x H' => ∃ k, x = .bl k ∧ Q k H' := by
  obtain ⟨o, ρ, rfl, R, S, h⟩ := h
  refine ⟨o, ρ, rfl, R, S, Ps.bd h fun p x vx e1 R1 r1 h1 => ?_⟩
  unfold asB at h1
  split at h1
  · rename_i b
    unfold Rv at r1
    exact ⟨b, r1, h1.pr R1 rfl⟩
  · exact h1.elim
theorem mt_cmp {a b : Expr} {pos : Pos} {op : CmpOp} {r : R2} {f : W → W → M W} {fa fb : Env' → M W} (ho : OpR X (compareOp op) r) (hf : OpM X E r f) (ha : JE X E a fa) (hb : JE X E b fb) (hm : behindInMarks op b = false) :
    JT X E (.Compare a [op] [b] pos) (mB (m2 f fa fb)) := (pt_cmpR ho ha.h hb.h hm).imp fun _ _ _ h => tM_2 hf (tM_b h)
/-! ### and, or, not -/
def mAnd (f g : Env' → M Bool) : Env' → M Bool := fun ρ => bd (f ρ) fun b => if b = true then g ρ else pr false
def mOr (f g : Env' → M Bool) : Env' → M Bool := fun ρ => bd (f ρ) fun b => if b = true then pr true else g ρ
def mNot (f : Env' → M Bool) : Env' → M Bool := fun ρ => bd (f ρ) fun b => pr (!b)
variable {a b : Expr} {rest : List Expr} {pos : Pos} {f g : Env' → M Bool}
theorem tT_and {σ : St} {H : Hp} {Q : Bool → Hp → Prop} (h : tT (cg X E) (mAnd f g) σ H Q) : tAnd (tT (cg X E) f) (tT (cg X E) g) σ H Q := by
  obtain ⟨o, ρ, rfl, R, S, h⟩ := h
  refine ⟨o, ρ, rfl, R, S, Ps.bd h fun p x vx e1 R1 r1 h1 => ?_⟩
  subst r1
  cases x with
  | true => exact iteT ⟨p, ρ, rfl, R1, S.mono R e1, h1⟩
  | false => exact iteF (h1.pr R1 rfl)
theorem tT_or {σ : St} {H : Hp} {Q : Bool → Hp → Prop} (h : tT (cg X E) (mOr f g) σ H Q) : tOr (tT (cg X E) f) (tT (cg X E) g) σ H Q := by
  obtain ⟨o, ρ, rfl, R, S, h⟩ := h
  refine ⟨o, ρ, rfl, R, S, Ps.bd h fun p x vx e1 R1 r1 h1 => ?_⟩
  subst r1
  cases x with
  | false => exact iteF ⟨p, ρ, rfl, R1, S.mono R e1, h1⟩
  | true => exact iteT (h1.pr R1 rfl)
theorem mw_and1 (ha : JT X E a f) : JW X E (.BoolOp .And [a] pos) f := ⟨pw_and1 ha.h⟩
theorem mw_or1 (ha : JT X E a f) : JW X E (.BoolOp .Or [a] pos) f := ⟨pw_or1 ha.h⟩
theorem mw_and (ha : JT X E a f) (hb : JW X E (.BoolOp .And (b :: rest) pos) g) : JW X E (.BoolOp .And (a :: b :: rest) pos) (mAnd f g) := (pw_and ha.h hb.h).imp fun _ _ _ h => tT_and h
theorem mw_or (ha : JT X E a f) (hb : JW X E (.BoolOp .Or (b :: rest) pos) g) : JW X E (.BoolOp .Or (a :: b :: rest) pos) (mOr f g) := (pw_or ha.h hb.h).imp fun _ _ _ h => tT_or h
/-- .. as values (truths) -/
def mAndV (f g : Env' → M W) : Env' → M W := fun ρ => bd (f ρ) fun w => bd (asB w) fun b => if b = true then g ρ else pr (.bl false)
def mOrV (f g : Env' → M W) : Env' → M W := fun ρ => bd (f ρ) fun w => bd (asB w) fun b => if b = true then pr (.bl true) else g ρ
def mNotV (f : Env' → M W) : Env' → M W := fun ρ => bd (f ρ) fun w => bd (asB w) fun b => pr (.bl (!b))
variable {u v : Env' → M W}
def mIf (f : Env' → M Bool) (u v : Env' → M W) : Env' → M W := fun ρ => bd (f ρ) fun b => if b = true then u ρ else v ρ
/-! ### one place -/
def m1 (f : W → M W) (fa : Env' → M W) : Env' → M W := fun ρ => bd (fa ρ) f
def negW (w : W) : M W := match w with
  | .int i => pr (.int (-i))
  | _ => no
theorem me_neg (ha : JE X E a u) : JE X E (.UnaryOp .USub a pos) (m1 negW u) := (pe_un un_neg ha.h).imp fun σ H Q h => by
  obtain ⟨o, ρ, rfl, R, S, h⟩ := h
  refine ⟨o, ρ, rfl, R, S, Ps.bd h fun p x vx e1 R1 r1 h1 => ?_⟩
  unfold negW at h1
  split at h1
  · unfold Rv at r1
    exact ⟨_, r1, h1.pr R1 (by unfold Rv; rfl)⟩
  · exact h1.elim
/-! ### argument lists, tuples, lists -/
def mNil : Env' → M (List W) := fun _ => pr []
def mCons (fa : Env' → M W) (fr : Env' → M (List W)) : Env' → M (List W) := fun ρ => bd (fa ρ) fun x => bd (fr ρ) fun l => pr (x :: l)
variable {es : List Expr} {l : Env' → M (List W)} {e : Expr}
theorem ma_nil : JA X E [] mNil := pa_nil.imp fun σ H Q h => by
  obtain ⟨o, ρ, rfl, R, S, h⟩ := h
  exact h.pr R Rvs.nil
theorem ma_cons (ha : JE X E e u) (hr : JA X E es l) (hs : starEach (e :: es) X.env = (false, eval e X.env) :: starEach es X.env := by rfl) : JA X E (e :: es) (mCons u l) := (pa_cons ha.h hr.h hs).imp fun σ H Q h => by
  obtain ⟨o, ρ, rfl, R, S, h⟩ := h
  exact ⟨o, ρ, rfl, R, S, Ps.bd h fun p x vx e1 R1 r1 h1 => ⟨p, ρ, rfl, R1, S.mono R e1, Ps.bd h1 fun q y vy e2 R2 r2 h2 => h2.pr R2 (Rvs.cons (r1.mono R1 e2) r2)⟩⟩
def tupW (l : List W) : M W := gd (l.length ≤ sizeLine) (pr (.tup l))
def mTup (l : Env' → M (List W)) : Env' → M W := fun ρ => bd (l ρ) tupW
theorem Rv.newT {K : PySem.W.Frag} {o : Wo} (R : Rel K o) {q : Addr} {l : List W} {vs : List V} (h : o.H q = none) (hl : Rvs K o l vs) : Rv K ⟨o.mu, o.h, upd o.H q (.tup vs)⟩ (.tup l) (.ref q) := by
  unfold Rv; exact ⟨q, vs, rfl, .of upd_same, hl.mono R (Ex.new h)⟩
theorem Rv.newL {K : PySem.W.Frag} {o : Wo} (R : Rel K o) {q : Addr} {l : List W} {vs : List V} (h : o.H q = none) (hl : Rvs K o l vs) : Rv K ⟨o.mu, o.h, upd o.H q (.lst vs)⟩ (.tl l) (.ref q) := by
  unfold Rv
  exact ⟨q, vs, rfl, upd_same, fun z => Lv.there R (show Lv o q from z) h, hl.mono R (Ex.new h)⟩
/-- an expression that makes a new list -/
def mTl (l : Env' → M (List W)) : Env' → M W := fun ρ => bd (l ρ) fun x => pr (.tl x)
def newW (x : List W) : M W := fun h => .ok (.loc h.length) (h ++ [.lst x])
def mNew (l : Env' → M (List W)) : Env' → M W := fun ρ => bd (l ρ) newW
/-- .. as a list that will not change -/
theorem me_tl (h : JF X E e l) : JE X E e (mTl l) := h.h.imp fun σ H Q h => by
  obtain ⟨o, ρ, rfl, R, S, h⟩ := h
  exact ⟨o, ρ, rfl, R, S, Ps.bd h fun p x vx e1 R1 r1 h1 => fun q hq => Ps.at (p := ⟨p.mu, p.h, upd p.H q (.lst vx)⟩) h1 rfl (Ex.new hq) (R1.new hq) (Rv.newL R1 hq r1)⟩
/-- .. as one that may -/
theorem me_new (h : JF X E e l) : JE X E e (mNew l) := h.h.imp fun σ H Q h => by
  obtain ⟨o, ρ, rfl, R, S, h⟩ := h
  refine ⟨o, ρ, rfl, R, S, Ps.bd h fun p x vx e1 R1 r1 h1 => fun q hq => ?_⟩
  refine Ps.at (p := p.add q (.lst x) (.lst vx)) h1 rfl (Ex.add hq) (R1.addL hq r1) ?_
  unfold Rv
  exact ⟨by show _ < (p.h ++ [_]).length; simp, by show V.ref q = V.ref (if p.h.length = p.h.length then q else _); rw [if_pos rfl]⟩
def lenG (l : Env' → M (List W)) : Env' → M (List W) := fun ρ => bd (l ρ) fun x => gd (x.length ≤ sizeLine) (pr x)
theorem mf_lst (h : JA X E es l) : JF X E (.List es pos) (lenG l) := (pe_lst h.h).impF fun σ H Q h => by
  obtain ⟨o, ρ, rfl, R, S, h⟩ := h
  refine ⟨o, ρ, rfl, R, S, Ps.bd h fun p x vx e1 R1 r1 h1 => ?_⟩
  obtain ⟨hz, h1⟩ := h1.gd
  exact ⟨by rw [r1.len]; exact hz, h1.pr R1 r1⟩
end
end L2
set_option maxHeartbeats 1000000
/-! the mirror: operations -/
namespace L2
open PySem PySem.Spec PyProof.Rows
section
variable {X : Cx} {E : XK}
/-! ### what a value is -/
theorem rv_int {K : PySem.W.Frag} {o : Wo} {i : Int} {v : V} : Rv K o (.int i) v ↔ v = .int i := by unfold Rv; exact Iff.rfl
theorem rv_str {K : PySem.W.Frag} {o : Wo} {i : Str} {v : V} : Rv K o (.str i) v ↔ v = .str i := by unfold Rv; exact Iff.rfl
theorem rv_bl {K : PySem.W.Frag} {o : Wo} {i : Bool} {v : V} : Rv K o (.bl i) v ↔ v = .bl i := by unfold Rv; exact Iff.rfl
theorem rv_non {K : PySem.W.Frag} {o : Wo} {v : V} : Rv K o .non v ↔ v = .non := by unfold Rv; exact Iff.rfl
/-- the items of a list (at a place, or one that does not change) -/
def lstOf (w : W) : M (List W) := match w with
  | .tl l => pr l
  | .cl l => pr l
  | .loc k => fun h => match h[k]? with
    | some (.lst l) => .ok l h
    | _ => .bad
  | _ => no
theorem lstOf_ps {α β : Type} {r : Wo → α → β → Prop} {o : Wo} {w : W} {v : V} {k : List W → M α} {Q : β → Hp → Prop} (R : Rel X.K o) (hr : Rv X.K o w v) (h : Ps (cg X E) r o (bd (lstOf w) k o.h) Q) :
    ∃ l a vs, v = .ref a ∧ SqL X.K o.H a vs ∧ Rvs X.K o l vs ∧ Ps (cg X E) r o (k l o.h) Q := by
  cases w with
  | tl l => unfold Rv at hr; obtain ⟨a, vs, e, h1, _, h2⟩ := hr; exact ⟨l, a, vs, e, .of h1, h2, h⟩
  | cl l =>
    unfold Rv at hr
    obtain ⟨a, vs, e, h1, h2⟩ := hr
    rcases h1 with ⟨h1, _⟩ | h1
    · exact ⟨l, a, vs, e, .inl h1, h2, h⟩
    · exact ⟨l, a, vs, e, .inr h1, h2, h⟩
  | loc j =>
    unfold Rv at hr
    unfold lstOf bd at h
    cases e : o.h[j]? with
    | none => simp only [e] at h; exact h.elim
    | some b =>
      cases b with
      | lst l =>
        simp only [e] at h
        obtain ⟨vs, h1, h2⟩ := R.ob j _ e
        exact ⟨l, _, vs, hr.2, .of h1, h2, h⟩
      | _ => simp only [e] at h; exact h.elim
  | _ => exact h.elim
/-- .. of one that is our own -/
def lstO (w : W) : M (List W) := match w with
  | .tl l => pr l
  | .loc k => fun h => match h[k]? with
    | some (.lst l) => .ok l h
    | _ => .bad
  | _ => no
theorem lstO_ps {α β : Type} {r : Wo → α → β → Prop} {o : Wo} {w : W} {v : V} {k : List W → M α} {Q : β → Hp → Prop} (R : Rel X.K o) (hr : Rv X.K o w v) (h : Ps (cg X E) r o (bd (lstO w) k o.h) Q) :
    ∃ l a vs, v = .ref a ∧ o.H a = some (.lst vs) ∧ Rvs X.K o l vs ∧ Ps (cg X E) r o (k l o.h) Q := by
  cases w with
  | tl l => unfold Rv at hr; obtain ⟨a, vs, e, h1, _, h2⟩ := hr; exact ⟨l, a, vs, e, h1, h2, h⟩
  | loc j =>
    unfold Rv at hr
    unfold lstO bd at h
    cases e : o.h[j]? with
    | none => simp only [e] at h; exact h.elim
    | some b =>
      cases b with
      | lst l =>
        simp only [e] at h
        obtain ⟨vs, h1, h2⟩ := R.ob j _ e
        exact ⟨l, _, vs, hr.2, h1, h2, h⟩
      | _ => simp only [e] at h; exact h.elim
  | _ => exact h.elim
theorem ps_newT {o : Wo} {q : Addr} {l : List W} {vs : List V} {Q : VK} (R : Rel X.K o) (hq : o.H q = none) (hl : Rvs X.K o l vs) (h : Ps (cg X E) (Rv X.K) o (pr (.tup l) o.h) Q) : Q (.ref q) (upd o.H q (.tup vs)) :=
  Ps.at (p := ⟨o.mu, o.h, upd o.H q (.tup vs)⟩) h rfl (Ex.new hq) (R.new hq) (Rv.newT R hq hl)
theorem ps_newL {o : Wo} {q : Addr} {l : List W} {vs : List V} {Q : VK} (R : Rel X.K o) (hq : o.H q = none) (hl : Rvs X.K o l vs) (h : Ps (cg X E) (Rv X.K) o (pr (.tl l) o.h) Q) : Q (.ref q) (upd o.H q (.lst vs)) :=
  Ps.at (p := ⟨o.mu, o.h, upd o.H q (.lst vs)⟩) h rfl (Ex.new hq) (R.new hq) (Rv.newL R hq hl)
/-! ### + -/
def addW (x y : W) : M W := match x, y with
  | .int i, .int j => pr (.int (i + j))
  | .str a, .str b => gd (a.length + b.length ≤ sizeLine) (pr (.str (a ++ b)))
  | .tup a, .tup b => gd (a.isEmpty = false ∧ a.length + b.length ≤ sizeLine) (pr (.tup (a ++ b)))
  | x, y => bd (lstO x) fun a => bd (lstO y) fun b => gd (a.length + b.length ≤ sizeLine) (pr (.tl (a ++ b)))
theorem opm_add : OpM X E (fun x y H Q => rI0 (fun i j => .int (i + j)) x y H Q ∨ (fun x y H Q => (fun x y H Q => ∃ i j, x = .str i ∧ y = .str j ∧ i.length + j.length ≤ sizeLine ∧ Q (.str (i ++ j)) H) x y H Q ∨ (fun x y H Q => rCatT X.K x y H Q ∨ rCat x y H Q) x y H Q) x y H Q) addW := by
  intro o x y vx vy Q R rx ry h
  unfold addW at h
  split at h
  · exact .inl ⟨_, _, rv_int.mp rx, rv_int.mp ry, h.pr R (rv_int.mpr rfl)⟩
  · obtain ⟨hz, h⟩ := h.gd
    exact .inr (.inl ⟨_, _, rv_str.mp rx, rv_str.mp ry, hz, h.pr R (rv_str.mpr rfl)⟩)
  · obtain ⟨hz, h⟩ := h.gd
    unfold Rv at rx ry
    obtain ⟨a, vs, e1, s1, r1⟩ := rx
    obtain ⟨b, us, e2, s2, r2⟩ := ry
    have n1 : vs ≠ [] := fun z => by
      have := r1.len
      rw [z] at this
      have q := hz.1
      rw [List.eq_nil_of_length_eq_zero this.symm] at q
      cases q
    refine .inr (.inr (.inl ⟨a, b, vs, us, e1, e2, s1, s2, n1, by rw [r1.len, r2.len]; exact hz.2, fun z => ?_, fun _ q hq => ps_newT R hq (r1.app r2) h⟩))
    refine h.pr R ?_
    unfold Rv
    exact ⟨a, vs, rfl, s1, by have := r1.app r2; rw [z, List.append_nil] at this; exact this⟩
  · obtain ⟨l, a, vs, e1, s1, r1, h⟩ := lstO_ps R rx h
    obtain ⟨m, b, us, e2, s2, r2, h⟩ := lstO_ps R ry h
    obtain ⟨hz, h⟩ := h.gd
    exact .inr (.inr (.inr ⟨a, b, vs, us, e1, e2, s1, s2, by rw [r1.len, r2.len]; exact hz, fun q hq => ps_newL R hq (r1.app r2) h⟩))
theorem me_add {a b : Expr} {pos : Pos} {fa fb : Env' → M W} (ha : JE X E a fa) (hb : JE X E b fb) : JE X E (.BinOp a .Add b pos) (m2 addW fa fb) :=
  me_op (op_add.or (op_add_str.or (op_catT.or op_cat))) opm_add ha hb
/-! ### ints -/
def iiW (C : Int → Int → Prop) [∀ i j, Decidable (C i j)] (g : Int → Int → W) (x y : W) : M W := match x, y with
  | .int i, .int j => gd (C i j) (pr (g i j))
  | _, _ => no
theorem opm_ii {C : Int → Int → Prop} [∀ i j, Decidable (C i j)] {g : Int → Int → W} {g' : Int → Int → V} (hg : ∀ o i j, Rv X.K o (g i j) (g' i j)) : OpM X E (rI C g') (iiW C g) := by
  intro o x y vx vy Q R rx ry h
  unfold iiW at h
  split at h
  · obtain ⟨hz, h⟩ := h.gd
    exact ⟨_, _, rv_int.mp rx, rv_int.mp ry, hz, h.pr R (hg _ _ _)⟩
  · exact h.elim
theorem opR0 {f : Value → Value → Sem Value} {g' : Int → Int → V} (h : OpR X f (rI0 g')) : OpR X f (rI (fun _ _ => True) g') := fun pins s σ H x y v u Q I rx ry q => h pins s σ H x y v u Q I rx ry (let ⟨i, j, e1, e2, _, q⟩ := q; ⟨i, j, e1, e2, q⟩)
abbrev CT : Int → Int → Prop := fun _ _ => True
def subW : W → W → M W := iiW CT fun i j => .int (i - j)
theorem me_sub {a b : Expr} {pos : Pos} {fa fb : Env' → M W} (ha : JE X E a fa) (hb : JE X E b fb) : JE X E (.BinOp a .Sub b pos) (m2 subW fa fb) :=
  me_op (opR0 op_sub) (opm_ii fun _ _ _ => rv_int.mpr rfl) ha hb
def CDivB (i j : Int) : Prop := 0 < j ∧ j < 2 ^ 200
instance (i j : Int) : Decidable (CDivB i j) := by unfold CDivB; infer_instance
theorem op_fdivB : OpR X (binaryOp .FloorDiv) (rI CDivB fun i j => .int (i / j)) := opI fun i j _ _ _ _ _ hc q => by
  have h1 : (0 : Int) < j := hc.1
  have h2 : j < 2 ^ 200 := hc.2
  refine floordiv_int (by omega) (by rw [Int.fdiv_eq_ediv_of_nonneg i (by omega)]; exact q) (.inl (PyProof.noPylong_of_log2 ?_))
  have h3 : j.natAbs < 2 ^ 200 := by omega
  exact Nat.lt_of_lt_of_le ((Nat.log2_lt (by omega)).mpr h3) (by decide)
def fdivW : W → W → M W := iiW CDivB fun i j => .int (i / j)
theorem me_fdiv {a b : Expr} {pos : Pos} {fa fb : Env' → M W} (ha : JE X E a fa) (hb : JE X E b fb) : JE X E (.BinOp a .FloorDiv b pos) (m2 fdivW fa fb) :=
  me_op op_fdivB (opm_ii fun _ _ _ => rv_int.mpr rfl) ha hb
abbrev CMod : Int → Int → Prop := fun _ j => 0 < j
def modW : W → W → M W := iiW CMod fun i j => .int (i % j)
theorem me_mod {a b : Expr} {pos : Pos} {fa fb : Env' → M W} (ha : JE X E a fa) (hb : JE X E b fb) : JE X E (.BinOp a .Mod b pos) (m2 modW fa fb) :=
  me_op op_mod (opm_ii fun _ _ _ => rv_int.mpr rfl) ha hb
instance (i j : Int) : Decidable (CPow i j) := by unfold CPow; infer_instance
def powW : W → W → M W := iiW CPow fun i j => .int (i ^ j.toNat)
theorem me_pow {a b : Expr} {pos : Pos} {fa fb : Env' → M W} (ha : JE X E a fa) (hb : JE X E b fb) : JE X E (.BinOp a .Pow b pos) (m2 powW fa fb) :=
  me_op op_pow (opm_ii fun _ _ _ => rv_int.mpr rfl) ha hb
abbrev CShr : Int → Int → Prop := fun _ j => 0 ≤ j
def shrW : W → W → M W := iiW CShr fun i j => .int (i / 2 ^ j.toNat)
theorem me_shr {a b : Expr} {pos : Pos} {fa fb : Env' → M W} (ha : JE X E a fa) (hb : JE X E b fb) : JE X E (.BinOp a .RShift b pos) (m2 shrW fa fb) :=
  me_op op_shr (opm_ii fun _ _ _ => rv_int.mpr rfl) ha hb
/-! ### * -/
theorem mul_okW {z : Str} {n : Int} (h0 : 0 ≤ n) (h1 : n ≤ 10000) (h : z.length ≤ 30000) (hz : z.length * n.toNat ≤ 1000000) : MulOk z n := by
  refine ⟨?_, fun a b => ?_, fun a b => ?_⟩
  · rw [Bool.or_eq_false_iff, decide_eq_false_iff_not, decide_eq_false_iff_not]; omega
  · have : (100000000000000 : Int) ≤ (2 ^ 63 - 1) / n := Int.le_ediv_of_mul_le (by omega) (by omega)
    omega
  · unfold Builtin.Str.tooLong
    have : sizeLine = 16777216 := by decide
    exact decide_eq_false (by omega)
instance (i j : Int) : Decidable (CMul i j) := by unfold CMul; infer_instance
instance (i j : Int) : Decidable (CMulB i j) := by unfold CMulB; infer_instance
def CMulA (i j : Int) : Prop := CMul i j ∨ CMulB i j
instance (i j : Int) : Decidable (CMulA i j) := by unfold CMulA; infer_instance
theorem op_mulA : OpR X (binaryOp .Mult) (rI CMulA fun i j => .int (i * j)) := opI fun _ _ _ _ _ _ _ hc q => mul_int q (by rcases hc with h | h; exact h.ok; exact h.ok)
def mulW (x y : W) : M W := match x, y with
  | .int i, .int j => gd (CMulA i j) (pr (.int (i * j)))
  | .str z, .int n => gd (0 ≤ n ∧ n ≤ 10000 ∧ z.length ≤ 30000 ∧ z.length * n.toNat ≤ 1000000) (pr (.str (Txt.mul z n)))
  | x, .int n => bd (lstO x) fun l => gd (0 ≤ n ∧ n ≤ 1000000 ∧ l.length * n.toNat ≤ sizeLine) (pr (.tl (List.replicate n.toNat l).flatten))
  | _, _ => no
theorem Rvs.rep {K : PySem.W.Frag} {o : Wo} {l : List W} {vs : List V} (h : Rvs K o l vs) : ∀ n : Nat, Rvs K o (List.replicate n l).flatten (List.replicate n vs).flatten
  | 0 => Rvs.nil
  | n + 1 => by rw [List.replicate_succ, List.replicate_succ, List.flatten_cons, List.flatten_cons]; exact h.app (Rvs.rep h n)
theorem opm_mul : OpM X E (fun x y H Q => rI CMulA (fun i j => .int (i * j)) x y H Q ∨ (fun x y H Q => (fun x y H Q => ∃ (z : Str) (n : Int), x = .str z ∧ y = .int n ∧ MulOk z n ∧ Q (.str (Txt.mul z n)) H) x y H Q ∨ rRep x y H Q) x y H Q) mulW := by
  intro o x y vx vy Q R rx ry h
  unfold mulW at h
  split at h
  · obtain ⟨hz, h⟩ := h.gd
    exact .inl ⟨_, _, rv_int.mp rx, rv_int.mp ry, hz, h.pr R (rv_int.mpr rfl)⟩
  · obtain ⟨hz, h⟩ := h.gd
    exact .inr (.inl ⟨_, _, rv_str.mp rx, rv_int.mp ry, mul_okW hz.1 hz.2.1 hz.2.2.1 hz.2.2.2, h.pr R (rv_str.mpr rfl)⟩)
  · obtain ⟨l, a, vs, e1, s1, r1, h⟩ := lstO_ps R rx h
    obtain ⟨hz, h⟩ := h.gd
    exact .inr (.inr ⟨a, _, vs, e1, rv_int.mp ry, s1, by omega, by omega, by rw [r1.len]; exact hz.2.2, fun q hq => ps_newL R hq (r1.rep _) h⟩)
  · exact h.elim
theorem me_mul {a b : Expr} {pos : Pos} {fa fb : Env' → M W} (ha : JE X E a fa) (hb : JE X E b fb) : JE X E (.BinOp a .Mult b pos) (m2 mulW fa fb) :=
  me_op (op_mulA.or (op_mul_str.or op_rep)) opm_mul ha hb
/-! ### comparisons of ints -/
def ltW : W → W → M W := iiW CT fun i j => .bl (decide (i < j))
def leW : W → W → M W := iiW CT fun i j => .bl (decide (i ≤ j))
def gtW : W → W → M W := iiW CT fun i j => .bl (decide (j < i))
def geW : W → W → M W := iiW CT fun i j => .bl (decide (j ≤ i))
theorem opm_lt : OpM X E (rI CT fun i j => .bl (decide (i < j))) ltW := opm_ii fun _ _ _ => rv_bl.mpr rfl
theorem opm_le : OpM X E (rI CT fun i j => .bl (decide (i ≤ j))) leW := opm_ii fun _ _ _ => rv_bl.mpr rfl
theorem opm_gt : OpM X E (rI CT fun i j => .bl (decide (j < i))) gtW := opm_ii fun _ _ _ => rv_bl.mpr rfl
theorem opm_ge : OpM X E (rI CT fun i j => .bl (decide (j ≤ i))) geW := opm_ii fun _ _ _ => rv_bl.mpr rfl
theorem or_lt : OpR X (compareOp .Lt) (rI CT fun i j => .bl (decide (i < j))) := opR0 op_lt
theorem or_le : OpR X (compareOp .LtE) (rI CT fun i j => .bl (decide (i ≤ j))) := opR0 op_le
theorem or_gt : OpR X (compareOp .Gt) (rI CT fun i j => .bl (decide (j < i))) := opR0 op_gt
theorem or_ge : OpR X (compareOp .GtE) (rI CT fun i j => .bl (decide (j ≤ i))) := opR0 op_ge
/-! ### is None -/
/-! ### plain values -/
def vOf : W → Option V
  | .non => some .non
  | .bl b => some (.bl b)
  | .int i => some (.int i)
  | .str x => some (.str x)
  | _ => none
theorem vOf_rv {K : PySem.W.Frag} {o : Wo} {x : W} {v u : V} (e : vOf x = some u) (h : Rv K o x v) : v = u := by
  cases x with
  | non => cases e; exact rv_non.mp h
  | bl _ => cases e; exact rv_bl.mp h
  | int _ => cases e; exact rv_int.mp h
  | str _ => cases e; exact rv_str.mp h
  | _ => cases e
theorem vOf_flat {x : W} {u : V} (e : vOf x = some u) : flatV u = true := by
  cases x <;> first | (cases e; done) | (cases e; rfl)
def vsOf : List W → Option (List V)
  | [] => some []
  | w :: l => match vOf w, vsOf l with
    | some v, some vs => some (v :: vs)
    | _, _ => none
theorem vsOf_rv {K : PySem.W.Frag} {o : Wo} : ∀ {l : List W} {vs us : List V}, vsOf l = some us → Rvs K o l vs → vs = us
  | [], vs, us, e, h => by unfold Rvs at h; cases e; exact h
  | w :: l, vs, us, e, h => by
    unfold Rvs at h
    obtain ⟨v, r, rfl, h1, h2⟩ := h
    unfold vsOf at e
    split at e
    · rename_i v' vs' e1 e2
      cases e
      rw [vOf_rv e1 h1, vsOf_rv e2 h2]
    · cases e
theorem vsOf_flat : ∀ {l : List W} {us : List V}, vsOf l = some us → us.all flatV = true
  | [], us, e => by cases e; rfl
  | w :: l, us, e => by
    unfold vsOf at e
    split at e
    · rename_i v' vs' e1 e2
      cases e
      rw [List.all_cons, vOf_flat e1, vsOf_flat e2]; rfl
    · cases e
end
end L2
set_option maxHeartbeats 1000000
/-! the mirror: ==, in, indexes, slices, calls -/
namespace L2
open PySem PySem.Spec PyProof.Rows
/-! ### == -/
def optL {α β : Type} (f : α → Option β) : List α → Option (List β)
  | [] => some []
  | a :: l => match f a, optL f l with
    | some b, some r => some (b :: r)
    | _, _ => none
def dataH (h : List Ob) : Nat → W → Option PyData
  | 0, _ => none
  | _ + 1, .non => some .none
  | _ + 1, .bl b => some (.bool b)
  | _ + 1, .int i => some (.int i)
  | _ + 1, .str x => some (.str x)
  | n + 1, .tup l => (optL (dataH h n) l).map .tuple
  | n + 1, .tl l => (optL (dataH h n) l).map .list
  | n + 1, .cl l => (optL (dataH h n) l).map .list
  | n + 1, .loc k => match h[k]? with
    | some (.lst l) => (optL (dataH h n) l).map .list
    | _ => none
  | _ + 1, _ => none
section
variable {K : PySem.W.Frag} {o : Wo}
theorem optL_den {n : Nat} (ih : ∀ w v d, dataH o.h n w = some d → Rv K o w v → Den K o.H v d ∧ d.depth ≤ n) : ∀ {l : List W} {vs : List V} {ds : List PyData}, optL (dataH o.h n) l = some ds → Rvs K o l vs → DenAll K o.H vs ds ∧ PyData.depthAll ds ≤ n
  | [], vs, ds, e, h => by unfold Rvs at h; cases e; rw [h]; exact ⟨.nil, by simp [PyData.depthAll]⟩
  | w :: l, vs, ds, e, h => by
    unfold Rvs at h
    obtain ⟨v, r, rfl, h1, h2⟩ := h
    unfold optL at e
    split at e
    · rename_i d ds' e1 e2
      cases e
      obtain ⟨a1, a2⟩ := ih w v d e1 h1
      obtain ⟨b1, b2⟩ := optL_den ih e2 h2
      exact ⟨.cons a1 b1, by rw [PyData.depthAll]; omega⟩
    · cases e
theorem dataH_den (R : Rel K o) : ∀ (n : Nat) (w : W) (v : V) (d : PyData), dataH o.h n w = some d → Rv K o w v → Den K o.H v d ∧ d.depth ≤ n
  | 0, _, _, _, e, _ => by cases e
  | n + 1, w, v, d, e, h => by
    have ih := dataH_den R n
    have seq : ∀ {l : List W} {a : Addr} {vs : List V} {ds : List PyData}, optL (dataH o.h n) l = some ds → SqL K o.H a vs → Rvs K o l vs → Den K o.H (.ref a) (.list ds) ∧ (PyData.list ds).depth ≤ n + 1 := fun {l a vs ds} e s r => by
      obtain ⟨b1, b2⟩ := optL_den ih e r
      refine ⟨.lst s b1, ?_⟩
      rw [PyData.depth]; omega
    cases w with
    | non => cases e; rw [rv_non.mp h]; exact ⟨.non, by simp [PyData.depth]⟩
    | bl b => cases e; rw [rv_bl.mp h]; exact ⟨.bl b, by simp [PyData.depth]⟩
    | int b => cases e; rw [rv_int.mp h]; exact ⟨.int b, by simp [PyData.depth]⟩
    | str b => cases e; rw [rv_str.mp h]; exact ⟨.str b, by simp [PyData.depth]⟩
    | ty b => cases e
    | exc b => cases e
    | cls b => cases e
    | dv a b => cases e
    | tup l =>
      unfold dataH at e
      obtain ⟨ds, e1, rfl⟩ := Option.map_eq_some_iff.mp e
      unfold Rv at h
      obtain ⟨a, vs, rfl, s, r⟩ := h
      obtain ⟨b1, b2⟩ := optL_den ih e1 r
      refine ⟨.tup s b1, ?_⟩
      rw [PyData.depth]; omega
    | tl l =>
      unfold dataH at e
      obtain ⟨ds, e1, rfl⟩ := Option.map_eq_some_iff.mp e
      unfold Rv at h
      obtain ⟨a, vs, rfl, s, _, r⟩ := h
      exact seq e1 (.of s) r
    | cl l =>
      unfold dataH at e
      obtain ⟨ds, e1, rfl⟩ := Option.map_eq_some_iff.mp e
      unfold Rv at h
      obtain ⟨a, vs, rfl, s, r⟩ := h
      refine seq e1 ?_ r
      rcases s with ⟨s, _⟩ | s
      · exact .inl s
      · exact .inr s
    | loc k =>
      unfold dataH at e
      split at e
      · rename_i l hk
        obtain ⟨ds, e1, rfl⟩ := Option.map_eq_some_iff.mp e
        unfold Rv at h
        obtain ⟨vs, h1, h2⟩ := R.ob k _ hk
        rw [h.2]
        exact seq e1 (.of h1) h2
      · cases e
end
def eqB (x y : W) (h : List Ob) : Option Bool := match vOf x, vOf y with
  | some a, some b => if scal a b = true then some (decide (a = b)) else match dataH h 50 x, dataH h 50 y with
    | some d, some e => if d.canLay0 = true ∧ e.canLay0 = true then some (PyData.eqv d e) else none
    | _, _ => none
  | _, _ => match dataH h 50 x, dataH h 50 y with
    | some d, some e => if d.canLay0 = true ∧ e.canLay0 = true then some (PyData.eqv d e) else none
    | _, _ => none
def eqW (x y : W) : M W := fun h => match eqB x y h with
  | some b => .ok (.bl b) h
  | none => .bad
def neW (x y : W) : M W := fun h => match eqB x y h with
  | some b => .ok (.bl (!b)) h
  | none => .bad
section
variable {X : Cx} {E : XK}
theorem eqB_of {o : Wo} {x y : W} {vx vy : V} {b : Bool} (hu : X.A.units + 64 < cLine) (R : Rel X.K o) (rx : Rv X.K o x vx) (ry : Rv X.K o y vy) (e : eqB x y o.h = some b) :
    (scal vx vy = true ∧ b = decide (vx = vy)) ∨ ∃ d e, Den X.K o.H vx d ∧ Den X.K o.H vy e ∧ d.canLay0 = true ∧ e.canLay0 = true ∧ X.A.units + min d.depth e.depth < cLine ∧ b = PyData.eqv d e := by
  have deep : (match dataH o.h 50 x, dataH o.h 50 y with
    | some d, some e => if d.canLay0 = true ∧ e.canLay0 = true then some (PyData.eqv d e) else none
    | _, _ => none) = some b → ∃ d e, Den X.K o.H vx d ∧ Den X.K o.H vy e ∧ d.canLay0 = true ∧ e.canLay0 = true ∧ X.A.units + min d.depth e.depth < cLine ∧ b = PyData.eqv d e := fun q => by
    split at q
    · rename_i d e' e1 e2
      split at q
      · rename_i hc
        obtain ⟨a1, a2⟩ := dataH_den R _ _ _ _ e1 rx
        obtain ⟨b1, b2⟩ := dataH_den R _ _ _ _ e2 ry
        exact ⟨d, e', a1, b1, hc.1, hc.2, by omega, (Option.some.inj q).symm⟩
      · cases q
    · cases q
  unfold eqB at e
  split at e
  · rename_i a c e1 e2
    split at e
    · rename_i hs
      rw [vOf_rv e1 rx, vOf_rv e2 ry]
      exact .inl ⟨hs, (Option.some.inj e).symm⟩
    · exact .inr (deep e)
  · exact .inr (deep e)
theorem opm_eq (hu : X.A.units + 64 < cLine) : OpM X E (fun x y H Q => rEq x y H Q ∨ rEqD X.K X.A false x y H Q) eqW := by
  intro o x y vx vy Q R rx ry h
  unfold eqW at h
  cases e : eqB x y o.h with
  | none => rw [e] at h; exact h.elim
  | some b =>
    rw [e] at h
    have q : Q (.bl b) o.H := Ps.pr (c := cg X E) (r := Rv X.K) (a := W.bl b) h R (rv_bl.mpr rfl)
    rcases eqB_of hu R rx ry e with ⟨s, rfl⟩ | ⟨d, e', a1, a2, a3, a4, a5, rfl⟩
    · exact .inl ⟨s, q⟩
    · exact .inr ⟨d, e', a1, a2, a3, a4, a5, by rw [if_neg Bool.false_ne_true]; exact q⟩
theorem opm_ne (hu : X.A.units + 64 < cLine) : OpM X E (fun x y H Q => rNe x y H Q ∨ rEqD X.K X.A true x y H Q) neW := by
  intro o x y vx vy Q R rx ry h
  unfold neW at h
  cases e : eqB x y o.h with
  | none => rw [e] at h; exact h.elim
  | some b =>
    rw [e] at h
    have q : Q (.bl (!b)) o.H := Ps.pr (c := cg X E) (r := Rv X.K) (a := W.bl (!b)) h R (rv_bl.mpr rfl)
    rcases eqB_of hu R rx ry e with ⟨s, rfl⟩ | ⟨d, e', a1, a2, a3, a4, a5, rfl⟩
    · exact .inl ⟨s, q⟩
    · exact .inr ⟨d, e', a1, a2, a3, a4, a5, by rw [if_pos rfl]; exact q⟩
theorem or_eq : OpR X (compareOp .Eq) (fun x y H Q => rEq x y H Q ∨ rEqD X.K X.A false x y H Q) := op_eq.or op_eqD
theorem or_ne : OpR X (compareOp .NotEq) (fun x y H Q => rNe x y H Q ∨ rEqD X.K X.A true x y H Q) := op_ne.or op_neD
/-! ### dicts: what stands at a key -/
def keyOf : W → Option Key
  | .int i => some (.inl i)
  | .str x => some (.inr x)
  | _ => none
theorem keyOf_rv {K : PySem.W.Frag} {o : Wo} {x : W} {v : V} {k : Key} (e : keyOf x = some k) (h : Rv K o x v) : v = kV k := by
  cases x with
  | int _ => cases e; exact rv_int.mp h
  | str _ => cases e; exact rv_str.mp h
  | _ => cases e
/-- the pairs of a dict -/
def dicOf (w : W) (h : List Ob) : Option (List Key × List W) := match w with
  | .dv ks ws => some (ks, ws)
  | .loc k => match h[k]? with
    | some (.dic ks ws) => some (ks, ws)
    | _ => none
  | _ => none
theorem dicOf_rv {o : Wo} {w : W} {v : V} {ks : List Key} {ws : List W} (R : Rel X.K o) (e : dicOf w o.h = some (ks, ws)) (h : Rv X.K o w v) : ∃ a kvs, v = .ref a ∧ Rd o.H a (.dK kvs) ∧ kvs.map (·.1) = ks ∧ Rvs X.K o ws (kvs.map (·.2)) := by
  cases w with
  | dv a b =>
    cases e
    unfold Rv at h
    obtain ⟨a, kvs, e, h1, _, h2, h3⟩ := h
    exact ⟨a, kvs, e, h1, h2, h3⟩
  | loc k =>
    unfold dicOf at e
    dsimp only at e
    split at e
    · rename_i a b hk
      cases e
      unfold Rv at h
      obtain ⟨kvs, h1, h2, h3⟩ := R.ob k _ hk
      exact ⟨_, kvs, h.2, .inl h1, h2, h3⟩
    · cases e
  | _ => cases e
/-- the value at a key -/
def atK : List Key → List W → Key → Option W
  | k :: ks, w :: ws, x => if k = x then some w else atK ks ws x
  | _, _, _ => none
theorem atK_val {K : PySem.W.Frag} {o : Wo} {x : Key} : ∀ {ks : List Key} {ws : List W} {kvs : List (Key × V)}, kvs.map (·.1) = ks → Rvs K o ws (kvs.map (·.2)) → match atK ks ws x with
    | some w => ∃ v, valV kvs x = some v ∧ Rv K o w v
    | none => valV kvs x = none
  | [], _, [], _, _ => rfl
  | _, _, (k, v) :: r, e, h => by
    subst e
    cases ‹List W› with
    | nil => unfold Rvs at h; cases h
    | cons w ws =>
      unfold Rvs at h
      obtain ⟨v', r', e', h1, h2⟩ := h
      cases e'
      have ih := atK_val (x := x) (ks := r.map (·.1)) (ws := ws) (kvs := r) rfl h2
      show match (if k = x then some w else atK (r.map (·.1)) ws x) with
        | some w => ∃ v', valV ((k, v) :: r) x = some v' ∧ Rv K o w v'
        | none => valV ((k, v) :: r) x = none
      by_cases z : k = x
      · rw [if_pos z]
        exact ⟨v, by unfold valV; rw [List.find?_cons_of_pos (by simpa using z)]; rfl, h1⟩
      · rw [if_neg z]
        have ev : valV ((k, v) :: r) x = valV r x := by unfold valV; rw [List.find?_cons_of_neg (by simpa using z)]
        rw [ev]
        exact ih
/-! ### in -/
def inB (x y : W) (h : List Ob) : Option Bool := match y with
  | .str b => match x with
    | .str a => some (!(Builtin.Str.occurrences b a 0 b.length 1).isEmpty)
    | _ => none
  | .tup l => match vOf x, vsOf l with
    | some v, some vs => some (inV v vs)
    | _, _ => none
  | y => match dicOf y h with
    | some (ks, ws) => match keyOf x with
      | some k => some (atK ks ws k).isSome
      | none => none
    | none => match lstOf y h with
      | .ok l _ => match vOf x, vsOf l with
        | some v, some vs => some (inV v vs)
        | _, _ => none
      | _ => none
def inW (x y : W) : M W := fun h => match inB x y h with
  | some b => .ok (.bl b) h
  | none => .bad
def notInW (x y : W) : M W := fun h => match inB x y h with
  | some b => .ok (.bl (!b)) h
  | none => .bad
theorem lstOf_rv {o : Wo} {w : W} {v : V} {l : List W} {h' : List Ob} (R : Rel X.K o) (hr : Rv X.K o w v) (e : lstOf w o.h = .ok l h') : h' = o.h ∧ ∃ a vs, v = .ref a ∧ SqL X.K o.H a vs ∧ Rvs X.K o l vs := by
  have hh : h' = o.h := by
    cases w with
    | tl l' => cases e; rfl
    | cl l' => cases e; rfl
    | loc j =>
      unfold lstOf at e
      dsimp only at e
      split at e
      · cases e; rfl
      · cases e
    | _ => cases e
  subst hh
  have h : Ps (cg X (fun _ _ _ => False)) (fun (_ : Wo) (a : List W) (b : List W) => a = b) o (bd (lstOf w) (fun l => pr l) o.h) (fun b _ => b = l) := by
    unfold bd
    rw [e]
    intro p b _ _ _ q
    exact q.symm
  obtain ⟨m, a, vs, e1, e2, e3, h⟩ := lstOf_ps R hr h
  have : m = l := h.pr R rfl
  subst this
  exact ⟨rfl, a, vs, e1, e2, e3⟩
def rInD : R2 := fun x y H Q => ∃ a ov, y = .ref a ∧ DGet H a x ov ∧ Q (.bl ov.isSome) H
def rNotInD : R2 := fun x y H Q => ∃ a ov, y = .ref a ∧ DGet H a x ov ∧ Q (.bl (!ov.isSome)) H
theorem op_inD (hu : X.A.units + 1 < cLine) : OpR X (compareOp .In) rInD := by
  intro pins s σ H x y v u Q I rx ry h
  obtain ⟨a, ov, rfl, g, q⟩ := h
  cases ry
  exact d_in hu I g rx fun s3 I3 => ⟨.bl ov.isSome, H, I3, rfl, q⟩
theorem op_notInD (hu : X.A.units + 1 < cLine) : OpR X (compareOp .NotIn) rNotInD := by
  intro pins s σ H x y v u Q I rx ry h
  obtain ⟨a, ov, rfl, g, q⟩ := h
  cases ry
  exact d_notIn hu I g rx fun s3 I3 => ⟨.bl (!ov.isSome), H, I3, rfl, q⟩
theorem inB_of {o : Wo} {x y : W} {vx vy : V} {b : Bool} (R : Rel X.K o) (rx : Rv X.K o x vx) (ry : Rv X.K o y vy) (e : inB x y o.h = some b) :
    (∃ i j, vx = .str i ∧ vy = .str j ∧ b = (!(Builtin.Str.occurrences j i 0 j.length 1).isEmpty)) ∨ (∃ p xs, vy = .ref p ∧ (SqL X.K o.H p xs ∨ SqT X.K o.H p xs) ∧ flatV vx = true ∧ xs.all flatV = true ∧ b = inV vx xs) ∨ ∃ a ov, vy = .ref a ∧ DGet o.H a vx ov ∧ b = ov.isSome := by
  have fl : ∀ {l : List W} {vs : List V}, Rvs X.K o l vs → (match vOf x, vsOf l with
        | some v, some vs => some (inV v vs)
        | _, _ => none) = some b → flatV vx = true ∧ vs.all flatV = true ∧ b = inV vx vs := fun {l vs} r q => by
    split at q
    · rename_i v us e1 e2
      rw [vOf_rv e1 rx, vsOf_rv e2 r]
      exact ⟨vOf_flat e1, vsOf_flat e2, (Option.some.inj q).symm⟩
    · cases q
  unfold inB at e
  split at e
  · split at e
    · exact .inl ⟨_, _, rv_str.mp rx, rv_str.mp ry, (Option.some.inj e).symm⟩
    · cases e
  · unfold Rv at ry
    obtain ⟨a, vs, rfl, s, r⟩ := ry
    obtain ⟨f1, f2, f3⟩ := fl r e
    exact .inr (.inl ⟨a, vs, rfl, .inr s, f1, f2, f3⟩)
  · split at e
    · rename_i ks ws hd
      split at e
      · rename_i k hk
        obtain ⟨a, kvs, rfl, h1, h2, h3⟩ := dicOf_rv R hd ry
        rw [keyOf_rv hk rx]
        refine .inr (.inr ⟨a, valV kvs k, rfl, .inl ⟨kvs, k, h1, rfl, rfl⟩, ?_⟩)
        rw [← Option.some.inj e]
        have := atK_val (x := k) h2 h3
        cases q : atK ks ws k with
        | none => rw [q] at this; rw [show valV kvs k = none from this]; rfl
        | some w => rw [q] at this; obtain ⟨v, hv, _⟩ := this; rw [hv]; rfl
      · cases e
    · split at e
      · rename_i l h' hl
        obtain ⟨rfl, a, vs, rfl, s, r⟩ := lstOf_rv R ry hl
        obtain ⟨f1, f2, f3⟩ := fl r e
        exact .inr (.inl ⟨a, vs, rfl, .inl s, f1, f2, f3⟩)
      · cases e
abbrev rInA (X : Cx) : R2 := fun x y H Q => (fun x y H Q => ∃ i j, x = .str i ∧ y = .str j ∧ Q (.bl (!(Builtin.Str.occurrences j i 0 j.length 1).isEmpty)) H) x y H Q ∨ (fun x y H Q => rIn X.K false x y H Q ∨ rInD x y H Q) x y H Q
abbrev rNotInA (X : Cx) : R2 := fun x y H Q => (fun x y H Q => ∃ i j, x = .str i ∧ y = .str j ∧ Q (.bl (!(!(Builtin.Str.occurrences j i 0 j.length 1).isEmpty))) H) x y H Q ∨ (fun x y H Q => rIn X.K true x y H Q ∨ rNotInD x y H Q) x y H Q
theorem or_in (hu : X.A.units + 1 < cLine) : OpR X (compareOp .In) (rInA X) := op_in_str.or (op_in_seq.or (op_inD hu))
theorem or_notIn (hu : X.A.units + 1 < cLine) : OpR X (compareOp .NotIn) (rNotInA X) := op_notIn_str.or (op_notIn_seq.or (op_notInD hu))
theorem opm_in : OpM X E (rInA X) inW := by
  intro o x y vx vy Q R rx ry h
  unfold inW at h
  cases e : inB x y o.h with
  | none => rw [e] at h; exact h.elim
  | some b =>
    rw [e] at h
    have q : Q (.bl b) o.H := Ps.pr (c := cg X E) (r := Rv X.K) (a := W.bl b) h R (rv_bl.mpr rfl)
    rcases inB_of R rx ry e with ⟨i, j, e1, e2, rfl⟩ | ⟨p, xs, e1, e2, e3, e4, rfl⟩ | ⟨a, ov, e1, e2, rfl⟩
    · exact .inl ⟨i, j, e1, e2, q⟩
    · exact .inr (.inl ⟨p, xs, e1, e2, e3, e4, by rw [if_neg Bool.false_ne_true]; exact q⟩)
    · exact .inr (.inr ⟨a, ov, e1, e2, q⟩)
theorem opm_notIn : OpM X E (rNotInA X) notInW := by
  intro o x y vx vy Q R rx ry h
  unfold notInW at h
  cases e : inB x y o.h with
  | none => rw [e] at h; exact h.elim
  | some b =>
    rw [e] at h
    have q : Q (.bl (!b)) o.H := Ps.pr (c := cg X E) (r := Rv X.K) (a := W.bl (!b)) h R (rv_bl.mpr rfl)
    rcases inB_of R rx ry e with ⟨i, j, e1, e2, rfl⟩ | ⟨p, xs, e1, e2, e3, e4, rfl⟩ | ⟨a, ov, e1, e2, rfl⟩
    · exact .inl ⟨i, j, e1, e2, q⟩
    · exact .inr (.inl ⟨p, xs, e1, e2, e3, e4, by rw [if_pos rfl]; exact q⟩)
    · exact .inr (.inr ⟨a, ov, e1, e2, q⟩)
/-! ### indexes -/
theorem Rvs.atI {K : PySem.W.Frag} {o : Wo} {l : List W} {vs : List V} {i : Int} {w : W} (h : Rvs K o l vs) (e : L2.atI l i = some w) : ∃ v, L2.atI vs i = some v ∧ Rv K o w v := by
  unfold L2.atI at e ⊢
  rw [h.len]
  cases q : ixN l.length i with
  | none => rw [q] at e; cases e
  | some j => rw [q] at e; exact h.get e
def ixO (x y : W) (h : List Ob) : Option W := match dicOf x h with
  | some (ks, ws) => match keyOf y with
    | some k => atK ks ws k
    | none => none
  | none => match y with
    | .int i => match x with
      | .str z => if z.length ≤ sizeLine then (atI z.cps.toList i).map fun c => .str ⟨#[c]⟩ else none
      | .tup l => atI l i
      | x => match lstOf x h with
        | .ok l _ => atI l i
        | _ => none
    | _ => none
def ixW (x y : W) : M W := fun h => match ixO x y h with
  | some w => .ok w h
  | none => .bad
def rIxD : R2 := fun x y H Q => ∃ a v, x = .ref a ∧ DGet H a y (some v) ∧ Q v H
theorem ix_dict (hu : X.A.units + 1 < cLine) : IxR X rIxD := by
  intro value slice pins s σ H x y v u Q I rx ry h hs
  obtain ⟨a, z, rfl, g, q⟩ := h
  cases rx
  exact tail_any (dict_typeIs I g) PySem.F.slot_dict_getitem.lookup (d_getItem hu I g ry fun w' s3 I3 rw' => ⟨z, H, I3, rw', q⟩) hs
theorem opm_ix : OpM X E (fun x y H Q => rIx X.K x y H Q ∨ rIxD x y H Q) ixW := by
  intro o x y vx vy Q R rx ry h
  unfold ixW at h
  cases e : ixO x y o.h with
  | none => rw [e] at h; exact h.elim
  | some w =>
    rw [e] at h
    have q : ∀ {v : V}, Rv X.K o w v → Q v o.H := fun {v} hv => Ps.pr (c := cg X E) (r := Rv X.K) (a := w) h R hv
    unfold ixO at e
    split at e
    · rename_i ks ws hd
      split at e
      · rename_i k hk
        obtain ⟨a, kvs, rfl, h1, h2, h3⟩ := dicOf_rv R hd rx
        have := atK_val (x := k) h2 h3
        rw [e] at this
        obtain ⟨v, hv, rv⟩ := this
        rw [keyOf_rv hk ry]
        exact .inr ⟨a, v, rfl, .inl ⟨kvs, k, h1, rfl, hv.symm⟩, q rv⟩
      · cases e
    · split at e
      · split at e
        · split at e
          · rename_i hz
            obtain ⟨c, hc, rfl⟩ := Option.map_eq_some_iff.mp e
            exact .inl (.inr (.inr ⟨_, _, c, rv_str.mp rx, rv_int.mp ry, hz, hc, q (rv_str.mpr rfl)⟩))
          · cases e
        · unfold Rv at rx
          obtain ⟨a, vs, rfl, s, r⟩ := rx
          obtain ⟨v, hv, rv⟩ := r.atI e
          exact .inl (.inr (.inl ⟨a, vs, _, v, rfl, rv_int.mp ry, s, hv, q rv⟩))
        · split at e
          · rename_i l h' hl
            obtain ⟨rfl, a, vs, rfl, s, r⟩ := lstOf_rv R rx hl
            obtain ⟨v, hv, rv⟩ := r.atI e
            exact .inl (.inl ⟨a, vs, _, v, rfl, rv_int.mp ry, s, hv, q rv⟩)
          · cases e
      · cases e
theorem me_ix {a b : Expr} {pos : Pos} {fa fb : Env' → M W} (hu : X.A.units + 1 < cLine) (ha : JE X E a fa) (hb : JE X E b fb) (hs : PlainIx b) : JE X E (.Subscript a b pos) (m2 ixW fa fb) :=
  (pe_ix (ix_seq.or (ix_dict hu)) ha.h hb.h hs).imp fun _ _ _ h => tM_2 opm_ix h
/-! ### slices -/
def cutW {α : Type} (xs : List α) (lo hi : Option Int) : List α := (xs.drop (HT.sIx xs.length 0 lo)).take (HT.sIx xs.length xs.length hi - HT.sIx xs.length 0 lo)
theorem Rvs.cut {K : PySem.W.Frag} {o : Wo} {l : List W} {vs : List V} (h : Rvs K o l vs) (lo hi : Option Int) : Rvs K o (cutW l lo hi) (cutV vs lo hi) := by
  unfold cutW cutV
  rw [h.len]
  exact (h.drop _).take _
def mNoPart : Env' → M (Option Int) := fun _ => pr none
def mPart (f : Env' → M W) : Env' → M (Option Int) := fun ρ => bd (f ρ) fun w => match w with
  | .int i => pr (some i)
  | _ => no
abbrev tP (c : Cg) (f : Env' → M (Option Int)) : TO := tG c (fun _ a b => a = b) f
structure JO (X : Cx) (E : XK) (e : Option Expr) (f : Env' → M (Option Int)) : Prop where
  h : PO X e (tP (cg X E) f)
theorem PO.imp {e : Option Expr} {t : TO} {f : Env' → M (Option Int)} (h : PO X e t) (k : ∀ σ H Q, tP (cg X E) f σ H Q → t σ H Q) : JO X E e f := ⟨fun pins s σ H Q I q => h pins s σ H Q I (k σ H Q q)⟩
theorem mo_none : JO X E none mNoPart := po_none.imp fun σ H Q h => by
  obtain ⟨o, ρ, rfl, R, S, h⟩ := h
  exact h.pr R rfl
theorem mo_some {e : Expr} {f : Env' → M W} (he : JE X E e f) : JO X E (some e) (mPart f) := (po_some he.h).imp fun σ H Q h => by
  obtain ⟨o, ρ, rfl, R, S, h⟩ := h
  refine ⟨o, ρ, rfl, R, S, Ps.bd h fun p x vx e1 R1 r1 h1 => ?_⟩
  cases x with
  | int i => exact ⟨i, rv_int.mp r1, h1.pr R1 rfl⟩
  | _ => exact h1.elim
def slW (x : W) (lo hi : Option Int) : M W := match x with
  | .str z => gd (z.length ≤ sizeLine) (pr (.str (StrLaws.sliceText z lo hi)))
  | .tup l => gd (¬ (HT.sIx l.length 0 lo = 0 ∧ HT.sIx l.length l.length hi = l.length)) (pr (.tup (cutW l lo hi)))
  | x => bd (lstOf x) fun l => pr (.tl (cutW l lo hi))
def m3 (f : W → Option Int → Option Int → M W) (fa : Env' → M W) (fl fh : Env' → M (Option Int)) : Env' → M W := fun ρ => bd (fa ρ) fun x => bd (fl ρ) fun a => bd (fh ρ) fun b => f x a b
theorem me_sl {e : Expr} {lo hi : Option Expr} {p2 pos : Pos} {fa : Env' → M W} {fl fh : Env' → M (Option Int)} (he : JE X E e fa) (hl : JO X E lo fl) (hh : JO X E hi fh) :
    JE X E (.Subscript e (.Slice lo hi none p2) pos) (m3 slW fa fl fh) := (pe_slice (sl_str.or (sl_tup.or sl_list)) he.h hl.h hh.h).imp fun σ H Q h => by
  obtain ⟨o, ρ, rfl, R, S, h⟩ := h
  refine ⟨o, ρ, rfl, R, S, Ps.bd h fun p x vx e1 R1 r1 h1 => ⟨p, ρ, rfl, R1, S.mono R e1, Ps.bd h1 fun q a va e2 R2 r2 h2 => ⟨q, ρ, rfl, R2, (S.mono R e1).mono R1 e2, Ps.bd h2 fun w b vb e3 R3 r3 h3 => ?_⟩⟩⟩
  subst r2 r3
  have rx := (r1.mono R1 e2).mono R2 e3
  unfold slW at h3
  split at h3
  · obtain ⟨hz, h3⟩ := h3.gd
    exact .inl ⟨_, rv_str.mp rx, hz, h3.pr R3 (rv_str.mpr rfl)⟩
  · obtain ⟨hz, h3⟩ := h3.gd
    unfold Rv at rx
    obtain ⟨a', vs, rfl, s, r⟩ := rx
    refine .inr (.inl ⟨a', vs, rfl, s, by rw [r.len]; exact hz, fun q' hq => ps_newT R3 hq (r.cut _ _) h3⟩)
  · obtain ⟨l, a', vs, rfl, s, r, h3⟩ := lstOf_ps R3 rx h3
    exact .inr (.inr ⟨a', vs, rfl, s, fun q' hq => ps_newL R3 hq (r.cut _ _) h3⟩)
/-! ### calls -/
def mCall (f : List W → M W) (l : Env' → M (List W)) : Env' → M W := fun ρ => bd (l ρ) f
def CallM (X : Cx) (E : XK) (r : List V → Hp → VK → Prop) (f : List W → M W) : Prop := ∀ (o : Wo) (ws : List W) (vs : List V) (Q : VK), Rel X.K o → Rvs X.K o ws vs → Ps (cg X E) (Rv X.K) o (f ws o.h) Q → r vs o.H Q
variable {x : Str} {p pos : Pos} {e : Expr} {es : List Expr} {l : Env' → M (List W)} {f : List W → M W} {r : List V → Hp → VK → Prop} {id T : String}
theorem tCB_m (hf : CallM X E r f) {σ : St} {H : Hp} {Q : VK} (h : tM (cg X E) (mCall f l) σ H Q) : tCB r (tA (cg X E) l) σ H Q := by
  obtain ⟨o, ρ, rfl, R, S, h⟩ := h
  exact ⟨o, ρ, rfl, R, S, Ps.bd h fun p x vx e1 R1 r1 h1 => hf p x vx Q R1 r1 h1⟩
theorem me_callB (hc : CallR X (.builtin id) r) (hf : CallM X E r f) (hg : Gl X x) (hm : X.mg x = none) (hv : bootBuiltins x = some (.builtin id)) (ha : JA X E (e :: es) l) (hn : x ≠ "__name__" := by decide) (hdb : (x == ("__debug__" : Str)) = false := by decide)
    (he : starEach (e :: es) X.env = (false, eval e X.env) :: starEach es X.env := by rfl) (hpl : (backTo pos (starEach es X.env)).any (·.1) = false := by rfl) : JE X E (.Call (.Name x p) (e :: es) [] pos) (mCall f l) :=
  (pe_callB hc hg hm hv ha.h hn hdb he hpl).imp fun _ _ _ h => tCB_m hf h
theorem me_callTy (hc : CallR X (.type T) r) (hf : CallM X E r f) (hg : Gl X x) (hm : X.mg x = none) (hv : bootBuiltins x = some (.type T)) (ha : JA X E (e :: es) l) (hn : x ≠ "__name__" := by decide) (hdb : (x == ("__debug__" : Str)) = false := by decide)
    (he : starEach (e :: es) X.env = (false, eval e X.env) :: starEach es X.env := by rfl) (hpl : (backTo pos (starEach es X.env)).any (·.1) = false := by rfl) : JE X E (.Call (.Name x p) (e :: es) [] pos) (mCall f l) :=
  (pe_callTy hc hg hm hv ha.h hn hdb he hpl).imp fun _ _ _ h => tCB_m hf h
variable {CX : CXT} {k : Nat} {fA : Addr} {fd : FuncData} {ps : List Str}
end
end L2
set_option maxHeartbeats 1000000
/-! the mirror: statements, loops, defs -/
namespace L2
open PySem PySem.Spec PyProof.Rows
inductive Fl where
  | nx (r : Env') | bk (r : Env') | ct (r : Env') | rt (w : W)
inductive FlV where
  | nx (s : St) | bk (s : St) | ct (s : St) | rt (v : V)
def RFl (K : PySem.W.Frag) (o : Wo) : Fl → FlV → Prop
  | .nx r, f => ∃ s, f = .nx s ∧ Re K o r s
  | .bk r, f => ∃ s, f = .bk s ∧ Re K o r s
  | .ct r, f => ∃ s, f = .ct s ∧ Re K o r s
  | .rt w, f => ∃ v, f = .rt v ∧ Rv K o w v
def DQ (D : Ends) : FlV → Hp → Prop
  | .nx s, H => D.nx s H
  | .bk s, H => D.bk s H
  | .ct s, H => D.ct s H
  | .rt v, H => D.rt v H
def tS (c : Cg) (g : Env' → M Fl) : TS := fun D σ H => tG c (RFl c.K) g σ H (DQ D)
structure JS (X : Cx) (E : XK) (e : Stmt) (f : Env' → M Fl) : Prop where
  h : PS X e (tS (cg X E) f)
structure JSs (X : Cx) (E : XK) (e : List Stmt) (f : Env' → M Fl) : Prop where
  h : PSs X e (tS (cg X E) f)
theorem PSs.imp {X : Cx} {E : XK} {e : List Stmt} {t : TS} {f : Env' → M Fl} (h : PSs X e t) (k : ∀ D σ H, tS (cg X E) f D σ H → t D σ H) : JSs X E e f := ⟨fun pins s σ H D I q => h pins s σ H D I (k D σ H q)⟩
theorem PS.imp {X : Cx} {E : XK} {e : Stmt} {t : TS} {f : Env' → M Fl} (h : PS X e t) (k : ∀ D σ H, tS (cg X E) f D σ H → t D σ H) : JS X E e f := ⟨fun pins s σ H D I q => h pins s σ H D I (k D σ H q)⟩
theorem bd_assoc {α β γ : Type} (a : M α) (b : α → M β) (d : β → M γ) : bd (bd a b) d = bd a fun x => bd (b x) d := by
  funext h
  unfold bd
  cases a h <;> rfl
section
variable {X : Cx} {E : XK} {pos : Pos}
/-! ### rows of statements -/
def sNil : Env' → M Fl := fun ρ => pr (.nx ρ)
def sSeq (f g : Env' → M Fl) : Env' → M Fl := fun ρ => bd (f ρ) fun x => match x with
  | .nx r => g r
  | x => pr x
theorem mss_nil : JSs X E [] sNil := pss_nil.imp fun D σ H h => by
  obtain ⟨o, ρ, rfl, R, S, h⟩ := h
  exact h.pr R ⟨σ, rfl, S⟩
theorem tS_seq {f g : Env' → M Fl} {D : Ends} {σ : St} {H : Hp} (h : tS (cg X E) (sSeq f g) D σ H) : tSeq (tS (cg X E) f) (tS (cg X E) g) D σ H := by
  obtain ⟨o, ρ, rfl, R, S, h⟩ := h
  refine ⟨o, ρ, rfl, R, S, Ps.bd h fun p x b e1 R1 r1 h1 => ?_⟩
  cases x with
  | nx r => obtain ⟨s, rfl, re⟩ := r1; exact ⟨p, r, rfl, R1, re, h1⟩
  | bk r => have q := h1.pr R1 r1; obtain ⟨s, rfl, re⟩ := r1; exact q
  | ct r => have q := h1.pr R1 r1; obtain ⟨s, rfl, re⟩ := r1; exact q
  | rt r => have q := h1.pr R1 r1; obtain ⟨s, rfl, re⟩ := r1; exact q
theorem mss_cons {st : Stmt} {rest : List Stmt} {f g : Env' → M Fl} (h1 : JS X E st f) (h2 : JSs X E rest g) : JSs X E (st :: rest) (sSeq f g) := (pss_cons h1.h h2.h).imp fun D σ H h => tS_seq h
theorem mss_one {st : Stmt} {f : Env' → M Fl} (h1 : JS X E st f) : JSs X E [st] f := ⟨pss_one h1.h⟩
/-! ### plain statements -/
variable {e : Expr} {f : Env' → M W}
def sSet (i : Nat) (f : Env' → M W) : Env' → M Fl := fun ρ => bd (f ρ) fun w => pr (.nx (ρ.set i (some w)))
theorem ms_set {i : Nat} {x : Str} {pos' : Pos} (hN : X.N.Nodup) (hi : X.N[i]? = some x) (hx : Loc X.env.scope x) (he : JE X E e f) (hs : swapsWith e (some (.Name x pos')) pos.line X.env = pure false := by rfl) (hf : X.fn x = true ∨ X.env.scope.names.lookup x = some .local := by first | exact .inl rfl | exact .inr rfl | assumption) :
    JS X E (.Assign [.Name x pos'] e pos) (sSet i f) := (ps_set hN hi hx he.h hs hf).imp fun D σ H h => by
  obtain ⟨o, ρ, rfl, R, S, h⟩ := h
  exact ⟨o, ρ, rfl, R, S, Ps.bd h fun p x b e1 R1 r1 h1 => Ps.pr (b := FlV.nx (σ.set i (some b))) h1 R1 ⟨_, rfl, (S.mono R e1).set r1 i⟩⟩
def sRet (f : Env' → M W) : Env' → M Fl := fun ρ => bd (f ρ) fun w => pr (.rt w)
theorem ms_ret (he : JE X E e f) : JS X E (.Return (some e) pos) (sRet f) := (ps_ret he.h).imp fun D σ H h => by
  obtain ⟨o, ρ, rfl, R, S, h⟩ := h
  exact ⟨o, ρ, rfl, R, S, Ps.bd h fun p x b e1 R1 r1 h1 => Ps.pr (b := FlV.rt b) h1 R1 ⟨_, rfl, r1⟩⟩
def sEx (f : Env' → M W) : Env' → M Fl := fun ρ => bd (f ρ) fun _ => pr (.nx ρ)
theorem ms_expr (he : JE X E e f) (hs : swapsWith e none pos.line X.env = pure false := by rfl) : JS X E (.Expr e pos) (sEx f) := (ps_expr he.h hs).imp fun D σ H h => by
  obtain ⟨o, ρ, rfl, R, S, h⟩ := h
  exact ⟨o, ρ, rfl, R, S, Ps.bd h fun p x b e1 R1 r1 h1 => Ps.pr (b := FlV.nx σ) h1 R1 ⟨_, rfl, S.mono R e1⟩⟩
def sIf (t : Env' → M Bool) (f g : Env' → M Fl) : Env' → M Fl := fun ρ => bd (t ρ) fun b => if b = true then f ρ else g ρ
theorem ms_if {c : Expr} {a b : List Stmt} {t : Env' → M Bool} {f g : Env' → M Fl} (hc : JT X E c t) (ha : JSs X E a f) (hb : JSs X E b g) : JS X E (.If c a b pos) (sIf t f g) := (ps_if hc.h ha.h hb.h).imp fun D σ H h => by
  obtain ⟨o, ρ, rfl, R, S, h⟩ := h
  refine ⟨o, ρ, rfl, R, S, Ps.bd h fun p x vx e1 R1 r1 h1 => ?_⟩
  subst r1
  cases x with
  | true => exact iteT ⟨p, ρ, rfl, R1, S.mono R e1, h1⟩
  | false => exact iteF ⟨p, ρ, rfl, R1, S.mono R e1, h1⟩
def sPass : Env' → M Fl := fun ρ => pr (.nx ρ)
def sBreak : Env' → M Fl := fun ρ => pr (.bk ρ)
def sCont : Env' → M Fl := fun ρ => pr (.ct ρ)
/-! ### while -/
def whileM (t : Env' → M Bool) (g : Env' → M Fl) : Nat → Env' → M Fl
  | 0, _ => no
  | n + 1, ρ => bd (t ρ) fun b => if b = true then bd (g ρ) fun x => match x with
      | .nx r => whileM t g n r
      | .ct r => whileM t g n r
      | .bk r => pr (.nx r)
      | .rt w => pr (.rt w)
    else pr (.nx ρ)
theorem ms_while (n : Nat) {c : Expr} {body : List Stmt} {t : Env' → M Bool} {g : Env' → M Fl} (hp : PassesOwn (model X.prog X.w) X.A X.env X.xe) (hc : JT X E c t) (hb : JSs X E body g) :
    JS X E (.While c body [] pos) (whileM t g n) := (ps_while hp hc.h hb.h).imp fun D σ H h => by
  obtain ⟨o, ρ, rfl, R, S, h⟩ := h
  refine ⟨fun m σ H => ∃ o ρ, o.H = H ∧ Rel X.K o ∧ Re X.K o ρ σ ∧ Ps (cg X E) (RFl X.K) o (whileM t g m ρ o.h) (DQ D), ⟨n, o, ρ, rfl, R, S, h⟩, ?_⟩
  rintro m σ H ⟨o, ρ, rfl, R, S, h⟩
  cases m with
  | zero => exact h.elim
  | succ m =>
    refine ⟨o, ρ, rfl, R, S, Ps.bd h fun p x vx e1 R1 r1 h1 => ?_⟩
    subst r1
    cases x with
    | false => exact iteF (Ps.pr (b := FlV.nx σ) h1 R1 ⟨_, rfl, S.mono R e1⟩)
    | true =>
      refine iteT ⟨_, fun σ' H' w => ⟨m, Nat.lt_succ_self _, w⟩, p, ρ, rfl, R1, S.mono R e1, Ps.bd h1 fun q x b e2 R2 r2 h2 => ?_⟩
      cases x with
      | nx r => obtain ⟨s, rfl, re⟩ := r2; exact ⟨q, r, rfl, R2, re, h2⟩
      | ct r => obtain ⟨s, rfl, re⟩ := r2; exact ⟨q, r, rfl, R2, re, h2⟩
      | bk r => obtain ⟨s, rfl, re⟩ := r2; exact h2.pr R2 (b := .nx s) ⟨s, rfl, re⟩
      | rt w => obtain ⟨v, rfl, rv⟩ := r2; exact h2.pr R2 (b := .rt v) ⟨v, rfl, rv⟩
/-! ### targets: a name, a tuple of names -/
structure TgOk (K : PySem.W.Frag) (m : Nat) (g : TG) (t : W → Env' → Option Env') : Prop where
  ok : ∀ (o : Wo) (w : W) (v : V) (ρ ρ2 : Env') (σ : St), Rv K o w v → Re K o ρ σ → t w ρ = some ρ2 → ∃ σ2, (∀ Q : St → Hp → Prop, Q σ2 o.H → g v σ o.H Q) ∧ Re K o ρ2 σ2 ∧ σ2.drop m = σ.drop m ∧ σ2.length = σ.length
def tgN (i : Nat) : W → Env' → Option Env' := fun w ρ => some (ρ.set i (some w))
theorem tg_name {K : PySem.W.Frag} (m i : Nat) (h : i < m) : TgOk K m (gName i) (tgN i) := ⟨fun o w v ρ ρ2 σ rv re e => by
  cases e
  exact ⟨_, fun Q q => q, re.set rv i, by rw [List.drop_set_of_lt h], by rw [List.length_set]⟩⟩
def setW : List Nat → List W → Env' → Option Env'
  | [], [], ρ => some ρ
  | i :: r, w :: l, ρ => setW r l (ρ.set i (some w))
  | _, _, _ => none
def tgT (is : List Nat) : W → Env' → Option Env' := fun w ρ => match w with
  | .tup l => setW is l ρ
  | _ => none
/-! ### sources -/
open Classical in
noncomputable def gdh {α : Type} (G : List Ob → Prop) (m : M α) : M α := fun h => if G h then m h else .bad
theorem gdh_true {α : Type} (m : M α) : gdh (fun _ => True) m = m := by funext h; unfold gdh; rw [if_pos trivial]
theorem gdh_pos {α : Type} {G : List Ob → Prop} {m : M α} {h : List Ob} (q : G h) : gdh G m h = m h := by unfold gdh; rw [if_pos q]
theorem Ps.gdh {α β : Type} {c : Cg} {r : Wo → α → β → Prop} {o : Wo} {G : List Ob → Prop} {m : M α} {Q : β → Hp → Prop} (h : Ps c r o (gdh G m o.h) Q) : G o.h ∧ Ps c r o (m o.h) Q := by
  unfold L2.gdh at h
  by_cases q : G o.h
  · rw [if_pos q] at h; exact ⟨q, h⟩
  · rw [if_neg q] at h; exact h.elim
structure Sr where
  l : List W
  G : List Ob → Prop
structure SrcOk (K : PySem.W.Frag) (o0 : Wo) (J : It) (s : Sr) : Prop where
  stop : ∀ o, Ex o0 o → Rel K o → s.G o.h → J.stop s.l.length o.H
  go : ∀ o i w, Ex o0 o → Rel K o → s.G o.h → s.l[i]? = some w → J.go i o.H ∧ ∀ x H', J.yld i o.H x H' → ∃ p, p.H = H' ∧ p.h = o.h ∧ Ex o p ∧ Rel K p ∧ Rv K p w x
def tI (c : Cg) (src : Env' → M Sr) : TI := fun σ H R => tG c (fun p s J => SrcOk c.K p J s) src σ H R
structure JI (X : Cx) (E : XK) (tg iter : Expr) (f : Env' → M Sr) : Prop where
  h : PI X tg iter (tI (cg X E) f)
theorem PI.imp {tg iter : Expr} {t : TI} {f : Env' → M Sr} (h : PI X tg iter t) (k : ∀ σ H R, tI (cg X E) f σ H R → t σ H R) : JI X E tg iter f := ⟨fun pins s σ H R I q => h pins s σ H R I (k σ H R q)⟩
def srcL (w : W) : M Sr := match w with
  | .tl l => pr ⟨l, fun _ => True⟩
  | .cl l => pr ⟨l, fun _ => True⟩
  | .loc k => fun h => match h[k]? with
    | some (.lst l) => .ok ⟨l, fun h => h[k]? = some (.lst l)⟩ h
    | _ => .bad
  | _ => no
def mSrc (f : Env' → M W) (g : W → M Sr) : Env' → M Sr := fun ρ => bd (f ρ) g
theorem src_list {K : PySem.W.Frag} {o0 : Wo} {a : Addr} {s : Sr} (h : ∀ o, Ex o0 o → Rel K o → s.G o.h → ∃ vs, SqL K o.H a vs ∧ Rvs K o s.l vs) : SrcOk K o0 (Itl K a) s := by
  refine ⟨fun o X R g => ?_, fun o i w X R g e => ?_⟩
  · obtain ⟨vs, s, r⟩ := h o X R g
    exact ⟨vs, s, Nat.le_of_eq r.len⟩
  · obtain ⟨vs, s, r⟩ := h o X R g
    obtain ⟨v, hv, rv⟩ := r.get e
    refine ⟨⟨vs, v, s, hv⟩, fun x H' y => ?_⟩
    obtain ⟨rfl, y⟩ := y
    have : x = v := by have := y vs s; rw [hv] at this; exact (Option.some.inj this).symm
    subst this
    exact ⟨o, rfl, rfl, Ex.refl _, R, rv⟩
theorem mi_list {tg l : Expr} {fl : Env' → M W} (hl : JE X E l fl) : JI X E tg l (mSrc fl srcL) := (pi_list hl.h).imp fun σ H Q h => by
  obtain ⟨o, ρ, rfl, R, S, h⟩ := h
  refine ⟨o, ρ, rfl, R, S, Ps.bd h fun p x vx e1 R1 r1 h1 => ?_⟩
  cases x with
  | tl l =>
    have r1' := r1
    unfold Rv at r1
    obtain ⟨a, vs, rfl, s, n, r⟩ := r1
    refine ⟨a, rfl, ⟨vs, .of s⟩, h1.pr R1 (src_list fun o X R g => ?_)⟩
    exact ⟨vs, .of (X.fr a _ s n).1, r.mono R1 X⟩
  | cl l =>
    unfold Rv at r1
    obtain ⟨a, vs, rfl, s, r⟩ := r1
    have sq : ∀ o, Ex p o → SqL X.K o.H a vs := fun o X => by
      rcases s with ⟨s, n⟩ | s
      · exact .inl (X.rd s n).1
      · exact .inr s
    exact ⟨a, rfl, ⟨vs, sq p (Ex.refl _)⟩, h1.pr R1 (src_list fun o X R g => ⟨vs, sq o X, r.mono R1 X⟩)⟩
  | loc k =>
    unfold Rv at r1
    obtain ⟨hk, rfl⟩ := r1
    unfold srcL at h1
    dsimp only at h1
    split at h1
    · rename_i l hl
      obtain ⟨vs, h3, h4⟩ := R1.ob k _ hl
      refine ⟨_, rfl, ⟨vs, .of h3⟩, Ps.at (p := p) h1 rfl (Ex.refl _) R1 (src_list fun o X R g => ?_)⟩
      obtain ⟨vs', h5, h6⟩ := R.ob k _ g
      rw [X.mu k hk] at h5
      exact ⟨vs', .of h5, h6⟩
    · exact h1.elim
  | _ => exact h1.elim
def srcT (w : W) : M Sr := match w with
  | .tup l => pr ⟨l, fun _ => True⟩
  | _ => no
def intsW (lo : Int) : Nat → List W
  | 0 => []
  | n + 1 => .int lo :: intsW (lo + 1) n
theorem ints_len : ∀ (n : Nat) (lo : Int), (intsW lo n).length = n
  | 0, _ => rfl
  | n + 1, lo => by rw [intsW, List.length_cons, ints_len n]
theorem ints_get : ∀ (n : Nat) (lo : Int) (i : Nat) (w : W), (intsW lo n)[i]? = some w → w = .int (lo + i) ∧ i < n
  | 0, _, _, _, h => by simp [intsW] at h
  | n + 1, lo, 0, w, h => by rw [intsW] at h; cases h; exact ⟨by simp, Nat.succ_pos _⟩
  | n + 1, lo, i + 1, w, h => by
    rw [intsW, List.getElem?_cons_succ] at h
    obtain ⟨e, l⟩ := ints_get n (lo + 1) i w h
    exact ⟨by rw [e]; congr 1; omega, by omega⟩
theorem src_range {K : PySem.W.Frag} {o0 : Wo} {lo : Int} {n : Nat} : SrcOk K o0 (Itr lo n) ⟨intsW lo n, fun _ => True⟩ := by
  refine ⟨fun o X R g => ?_, fun o i w X R g e => ?_⟩
  · show n ≤ (intsW lo n).length
    rw [ints_len]; exact Nat.le_refl _
  · obtain ⟨rfl, hi⟩ := ints_get n lo i w e
    refine ⟨hi, fun x H' y => ?_⟩
    obtain ⟨rfl, rfl⟩ := y
    exact ⟨o, rfl, rfl, Ex.refl _, R, rv_int.mpr rfl⟩
def rng1 (l : List W) : M Sr := match l with
  | [.int j] => gd (-(2 ^ 62) ≤ j ∧ j < 2 ^ 62) (pr ⟨intsW 0 j.toNat, fun _ => True⟩)
  | _ => no
def mSrcA (f : Env' → M (List W)) (g : List W → M Sr) : Env' → M Sr := fun ρ => bd (f ρ) g
theorem mi_range1 {tg a : Expr} {p pos : Pos} {fl : Env' → M (List W)} (hg : Gl X "range") (hm : X.mg "range" = none) (ha : JA X E [a] fl) (hs : starEach [a] X.env = [(false, eval a X.env)] := by rfl) : JI X E tg (.Call (.Name "range" p) [a] [] pos) (mSrcA fl rng1) :=
  (pi_range1 hg hm ha.h hs).imp fun σ H Q h => by
  obtain ⟨o, ρ, rfl, R, S, h⟩ := h
  refine ⟨o, ρ, rfl, R, S, Ps.bd h fun p x vx e1 R1 r1 h1 => ?_⟩
  unfold rng1 at h1
  split at h1
  · obtain ⟨hz, h1⟩ := h1.gd
    unfold Rvs Rvs at r1
    obtain ⟨v, r, rfl, a1, rfl⟩ := r1
    exact ⟨_, by rw [rv_int.mp a1], hz.1, hz.2, h1.pr R1 src_range⟩
  · exact h1.elim
/-! ### for -/
noncomputable def forM (G : List Ob → Prop) (t : W → Env' → Option Env') (g : Env' → M Fl) : List W → Env' → M Fl
  | [], ρ => gdh G (pr (.nx ρ))
  | w :: l, ρ => gdh G (match t w ρ with
    | none => no
    | some r => bd (g r) fun x => match x with
      | .nx r' => forM G t g l r'
      | .ct r' => forM G t g l r'
      | .bk r' => pr (.nx r')
      | .rt v => pr (.rt v))
noncomputable def sFor (src : Env' → M Sr) (t : W → Env' → Option Env') (g : Env' → M Fl) : Env' → M Fl := fun ρ => bd (src ρ) fun s => forM s.G t g s.l ρ
theorem ms_for {tg iter : Expr} {body : List Stmt} {src : Env' → M Sr} {t : W → Env' → Option Env'} {gT : TG} {g : Env' → M Fl} {m : Nat} (hp : PassesOwn (model X.prog X.w) X.A X.env X.xe) (hc : X.calm = true) (hi : JI X E tg iter src) (hg : PG X tg gT) (ht : TgOk X.K m gT t) (hb : JSs X E body g)
    (hs : ∀ x, foldedSetIterable iter X.env x = pure x := by intro _; rfl) : JS X E (.For tg iter body [] pos) (sFor src t g) := (ps_for hp hc hi.h hg hb.h hs).imp fun D σ H h => by
  obtain ⟨o, ρ, rfl, R, S, h⟩ := h
  refine ⟨o, ρ, rfl, R, S, Ps.bd h fun o1 s J e1 R1 sk h1 => ?_⟩
  refine ⟨fun i n σ H => n = s.l.length - i ∧ i ≤ s.l.length ∧ ∃ o ρ, o.H = H ∧ Ex o1 o ∧ Rel X.K o ∧ Re X.K o ρ σ ∧ Ps (cg X E) (RFl X.K) o (forM s.G t g (s.l.drop i) ρ o.h) (DQ D), ⟨_, rfl, Nat.zero_le _, o1, ρ, rfl, Ex.refl _, R1, S.mono R e1, h1⟩, ?_⟩
  rintro i n σ H ⟨rfl, hi, o, ρ, rfl, X1, R, S, h⟩
  by_cases hlt : i < s.l.length
  · obtain ⟨w, hw⟩ : ∃ w, s.l[i]? = some w := ⟨_, List.getElem?_eq_getElem hlt⟩
    have hd : s.l.drop i = w :: s.l.drop (i + 1) := by
      rw [List.drop_eq_getElem_cons hlt]
      rw [List.getElem?_eq_getElem hlt] at hw
      rw [Option.some.inj hw]
    rw [hd] at h
    unfold forM at h
    obtain ⟨hG, h⟩ := h.gdh
    obtain ⟨hgo, hy⟩ := sk.go o i w X1 R hG hw
    refine .inr ⟨hgo, fun σ' H' => ∃ o ρ, o.H = H' ∧ Ex o1 o ∧ Rel X.K o ∧ Re X.K o ρ σ' ∧ Ps (cg X E) (RFl X.K) o (forM s.G t g (s.l.drop (i + 1)) ρ o.h) (DQ D), fun σ' H' q => ⟨_, by omega, rfl, hlt, q⟩, fun x H' y => ?_⟩
    obtain ⟨p, rfl, eh, X2, R2, rv⟩ := hy x H' y
    cases et : t w ρ with
    | none => rw [et] at h; exact h.elim
    | some r =>
      rw [et] at h
      obtain ⟨σ2, k1, k2, _, _⟩ := ht.ok p w x ρ r σ rv (S.mono R X2) et
      refine k1 _ ?_
      have h2 : Ps (cg X E) (RFl X.K) p (bd (g r) (fun x => match x with
        | .nx r' => forM s.G t g (s.l.drop (i + 1)) r'
        | .ct r' => forM s.G t g (s.l.drop (i + 1)) r'
        | .bk r' => pr (.nx r')
        | .rt v => pr (.rt v)) p.h) (DQ D) := by rw [eh]; exact h.after X2
      refine ⟨p, r, rfl, R2, k2, Ps.bd h2 fun q x b e3 R3 r3 h3 => ?_⟩
      cases x with
      | nx r => obtain ⟨s', rfl, re⟩ := r3; exact ⟨q, r, rfl, (X1.trans X2).trans e3, R3, re, h3⟩
      | ct r => obtain ⟨s', rfl, re⟩ := r3; exact ⟨q, r, rfl, (X1.trans X2).trans e3, R3, re, h3⟩
      | bk r => obtain ⟨s', rfl, re⟩ := r3; exact h3.pr R3 (b := .nx s') ⟨s', rfl, re⟩
      | rt w => obtain ⟨v, rfl, rv⟩ := r3; exact h3.pr R3 (b := .rt v) ⟨v, rfl, rv⟩
  · have e : i = s.l.length := by omega
    subst e
    rw [List.drop_length] at h
    unfold forM at h
    obtain ⟨hG, h⟩ := h.gdh
    exact .inl ⟨sk.stop o X1 R hG, Ps.pr (b := FlV.nx σ) h R ⟨σ, rfl, S⟩⟩
end
end L2
set_option maxHeartbeats 1000000
/-! the mirror: comprehensions, more sources, defs -/
namespace L2
open PySem PySem.Spec PyProof.Rows
section
variable {X : Cx} {E : XK} {pos : Pos}
/-! ### comprehensions -/
variable {elt iter tg : Expr} {ifs : List Expr} {scope : Scope} {ls : List Str} {gT : TG} {t : W → Env' → Option Env'} {f : Env' → M Bool} {e : Env' → M W} {src : Env' → M Sr} {hs : List Nat}
def mYes : Env' → M Bool := fun _ => pr true
end
end L2
set_option maxHeartbeats 1000000
/-! the mirror: Python's own functions and methods, stores, defs -/
namespace L2
open PySem PySem.Spec PyProof.Rows
section
variable {X : Cx} {E : XK} {pos p : Pos} {a b : Expr} {l : Env' → M (List W)}
theorem Rvs.one {K : PySem.W.Frag} {o : Wo} {w : W} {vs : List V} (h : Rvs K o [w] vs) : ∃ v, vs = [v] ∧ Rv K o w v := by
  unfold Rvs Rvs at h; obtain ⟨v, r, rfl, h1, rfl⟩ := h; exact ⟨v, rfl, h1⟩
/-! ### len -/
def lenW (ws : List W) : M W := match ws with
  | [.str z] => gd (z.length ≤ sizeLine) (pr (.int z.length))
  | [.tup l] => pr (.int l.length)
  | [w] => bd (lstOf w) fun l => pr (.int l.length)
  | _ => no
theorem cm_len : CallM X E (fun xs H Q => (fun xs H Q => ∃ z, xs = [.str z] ∧ z.length ≤ sizeLine ∧ Q (.int z.length) H) xs H Q ∨ (fun xs H Q => ∃ p ys, xs = [.ref p] ∧ (SqL X.K H p ys ∨ SqT X.K H p ys) ∧ Q (.int ys.length) H) xs H Q) lenW := by
  intro o ws vs Q R rv h
  unfold lenW at h
  split at h
  · obtain ⟨v, rfl, r⟩ := rv.one
    obtain ⟨hz, h⟩ := h.gd
    exact .inl ⟨_, by rw [rv_str.mp r], hz, h.pr R (rv_int.mpr rfl)⟩
  · obtain ⟨v, rfl, r⟩ := rv.one
    unfold Rv at r
    obtain ⟨a, us, rfl, s, r⟩ := r
    exact .inr ⟨a, us, rfl, .inr s, by rw [r.len]; exact h.pr R (rv_int.mpr rfl)⟩
  · obtain ⟨v, rfl, r⟩ := rv.one
    obtain ⟨l, a, us, rfl, s, r, h⟩ := lstOf_ps R r h
    exact .inr ⟨a, us, rfl, .inl s, by rw [r.len]; exact h.pr R (rv_int.mpr rfl)⟩
  · exact h.elim
theorem me_len (hm : X.mg "len" = none) (ha : JA X E [a] l) (hg : Gl X "len" := by rfl) (he : starEach [a] X.env = (false, eval a X.env) :: starEach [] X.env := by rfl) (hpl : (backTo pos (starEach [] X.env)).any (·.1) = false := by rfl) : JE X E (.Call (.Name "len" p) [a] [] pos) (mCall lenW l) :=
  me_callB (call_len_str.or call_len_seq) cm_len hg hm PySem.boot_len ha (he := he) (hpl := hpl)
/-! ### int, str -/
def intW (ws : List W) : M W := match ws with
  | [.int i] => pr (.int i)
  | [.bl k] => pr (.int (if k then 1 else 0))
  | [.str z] => match PySem.intText? z with
    | some n => gd (z.length ≤ 640) (pr (.int n))
    | none => no
  | _ => no
theorem cm_int : CallM X E (fun xs H Q => ((∃ i, xs = [.int i] ∧ Q (.int i) H) ∨ ∃ k, xs = [.bl k] ∧ Q (.int (if k then 1 else 0)) H) ∨ (fun xs H Q => ∃ (z : Str) (n : Int), xs = [.str z] ∧ PySem.intText? z = some n ∧ z.length ≤ 640 ∧ Q (.int n) H) xs H Q) intW := by
  intro o ws vs Q R rv h
  unfold intW at h
  split at h
  · obtain ⟨v, rfl, r⟩ := rv.one
    exact .inl (.inl ⟨_, by rw [rv_int.mp r], h.pr R (rv_int.mpr rfl)⟩)
  · obtain ⟨v, rfl, r⟩ := rv.one
    exact .inl (.inr ⟨_, by rw [rv_bl.mp r], h.pr R (rv_int.mpr rfl)⟩)
  · obtain ⟨v, rfl, r⟩ := rv.one
    rename_i z
    cases hn : PySem.intText? z with
    | some n =>
      rw [hn] at h
      obtain ⟨hz, h⟩ := h.gd
      exact .inr ⟨_, n, by rw [rv_str.mp r], hn, hz, h.pr R (rv_int.mpr rfl)⟩
    | none => rw [hn] at h; exact h.elim
  · exact h.elim
theorem me_intF (hm : X.mg "int" = none) (ha : JA X E [a] l) (hg : Gl X "int" := by rfl) (he : starEach [a] X.env = (false, eval a X.env) :: starEach [] X.env := by rfl) (hpl : (backTo pos (starEach [] X.env)).any (·.1) = false := by rfl) : JE X E (.Call (.Name "int" p) [a] [] pos) (mCall intW l) :=
  me_callTy (call_int1.or call_int_str) cm_int hg hm PyProof.Rows.boot_int ha (he := he) (hpl := hpl)
def strW (ws : List W) : M W := match ws with
  | [.int i] => gd (i.natAbs.log2 < 1920) (pr (.str (toString i)))
  | [.str z] => pr (.str z)
  | _ => no
theorem cm_str : CallM X E (fun xs H Q => (fun xs H Q => ∃ i, xs = [.int i] ∧ i.natAbs.log2 < 1920 ∧ Q (.str (toString i)) H) xs H Q ∨ (fun xs H Q => ∃ (z : Str), xs = [.str z] ∧ Q (.str z) H) xs H Q) strW := by
  intro o ws vs Q R rv h
  unfold strW at h
  split at h
  · obtain ⟨v, rfl, r⟩ := rv.one
    obtain ⟨hz, h⟩ := h.gd
    exact .inl ⟨_, by rw [rv_int.mp r], hz, h.pr R (rv_str.mpr rfl)⟩
  · obtain ⟨v, rfl, r⟩ := rv.one
    exact .inr ⟨_, by rw [rv_str.mp r], h.pr R (rv_str.mpr rfl)⟩
  · exact h.elim
theorem me_strF (hm : X.mg "str" = none) (ha : JA X E [a] l) (hg : Gl X "str" := by rfl) (he : starEach [a] X.env = (false, eval a X.env) :: starEach [] X.env := by rfl) (hpl : (backTo pos (starEach [] X.env)).any (·.1) = false := by rfl) : JE X E (.Call (.Name "str" p) [a] [] pos) (mCall strW l) :=
  me_callTy (call_str_int.or call_str_str) cm_str hg hm PyProof.Rows.boot_str ha (he := he) (hpl := hpl)
/-! ### abs, max, min of two -/
/-! ### sum, all -/
def sOf : W → Option Str
  | .str i => some i
  | _ => none
theorem optL_rv {K : PySem.W.Frag} {o : Wo} {α : Type} {f : W → Option α} {g : α → V} (hf : ∀ w a v, f w = some a → Rv K o w v → v = g a) : ∀ {l : List W} {xs : List α} {vs : List V}, optL f l = some xs → Rvs K o l vs → vs = xs.map g
  | [], xs, vs, e, h => by unfold Rvs at h; cases e; exact h
  | w :: l, xs, vs, e, h => by
    unfold Rvs at h
    obtain ⟨v, r, rfl, h1, h2⟩ := h
    unfold optL at e
    split at e
    · rename_i d ds e1 e2
      cases e
      rw [hf w d v e1 h1, optL_rv hf e2 h2]; rfl
    · cases e
theorem sOf_rv {K : PySem.W.Frag} {o : Wo} : ∀ (w : W) (a : Str) (v : V), sOf w = some a → Rv K o w v → v = .str a := fun w a v e h => by
  cases w <;> first | (cases e; exact rv_str.mp h) | cases e
/-! ### tuple, list -/
def listL (l : Env' → M (List W)) : Env' → M (List W) := fun ρ => bd (l ρ) fun ws => match ws with
  | [.tup l] => pr l
  | [w] => lstOf w
  | _ => no
/-! ### join -/
def isS (w : W) : M W := match w with
  | .str z => pr (.str z)
  | _ => no
def joinW (x : W) (ws : List W) : M W := match x, ws with
  | .str sep, [w] => bd (lstO w) fun l => match optL sOf l with
    | some ts => gd ((ts.map (·.length)).sum + ts.length * sep.length ≤ sizeLine) (pr (.str (Str.join sep ts)))
    | none => no
  | _, _ => no
def mMeth (chk : W → M W) (f : W → List W → M W) (fo : Env' → M W) (l : Env' → M (List W)) : Env' → M W := fun ρ => bd (fo ρ) fun x => bd (chk x) fun x => bd (l ρ) fun ws => f x ws
variable {o e : Expr} {es : List Expr} {apos cpos : Pos} {fo : Env' → M W}
theorem me_join (ho : JE X E o fo) (ha : JA X E [e] l) (hbase : attributeBase o "join" X.env (eval o X.env) = eval o X.env := by rfl)
    (hfew : ((backTo cpos (starEach [e] X.env)).all (fun x => !x.1) && (backToKw cpos (keywordEach [] X.env)).all (fun x => x.1.isSome) && decide (([e] : List Expr).length + ([] : List Keyword).length + (if ([] : List Keyword).isEmpty then 0 else 1) < 30)) = true := by rfl)
    (hline : (apos.endLine == cpos.line) = true := by rfl) (hs : starEach [e] X.env = (false, eval e X.env) :: starEach [] X.env := by rfl) (hplain : (backTo cpos (starEach [] X.env)).any (·.1) = false := by rfl) :
    JE X E (.Call (.Attribute o "join" apos) [e] [] cpos) (mMeth isS joinW fo l) :=
  (pe_bm PySem.F.plainAttrs_str PySem.F.slot_str_join PySem.F.type_str_join mt_join ho.h ha.h hbase hfew hline hs hplain).imp fun σ H Q h => by
    obtain ⟨w, ρ, rfl, R, S, h⟩ := h
    refine ⟨w, ρ, rfl, R, S, Ps.bd h fun p x vx e1 R1 r1 h1 => ?_⟩
    cases x with
    | str sep =>
      have h1 : Ps (cg X E) (Rv X.K) p (bd (l ρ) (fun ws => joinW (.str sep) ws) p.h) Q := h1
      rw [rv_str.mp r1]
      refine ⟨rfl, p, ρ, rfl, R1, S.mono R e1, Ps.bd h1 fun q ws vs e2 R2 r2 h2 => ?_⟩
      rcases ws with _ | ⟨w', _ | ⟨_, _⟩⟩
      · exact h2.elim
      · have h2 : Ps (cg X E) (Rv X.K) q (bd (lstO w') (fun l => match optL sOf l with
          | some ts => gd ((ts.map (·.length)).sum + ts.length * sep.length ≤ sizeLine) (pr (.str (Str.join sep ts)))
          | none => no) q.h) Q := h2
        obtain ⟨v, rfl, r⟩ := r2.one
        obtain ⟨l', a, us, rfl, s, r, h2⟩ := lstO_ps R2 r h2
        cases e : optL sOf l' with
        | none => rw [e] at h2; exact h2.elim
        | some ts =>
          rw [e] at h2
          rw [optL_rv sOf_rv e r] at s
          obtain ⟨hz, h2⟩ := h2.gd
          exact ⟨sep, a, ts, rfl, rfl, .of s, hz, h2.pr R2 (rv_str.mpr rfl)⟩
      · exact h2.elim
    | _ => exact h1.elim
/-! ### append, pop -/
def isL (w : W) : M W := match w with
  | .loc k => fun h => match h[k]? with
    | some (.lst _) => .ok (.loc k) h
    | _ => .bad
  | _ => no
theorem isL_ps {α β : Type} {r : Wo → α → β → Prop} {o : Wo} {w : W} {v : V} {k : W → M α} {Q : β → Hp → Prop} (R : Rel X.K o) (hr : Rv X.K o w v) (h : Ps (cg X E) r o (bd (isL w) k o.h) Q) :
    ∃ j l vs, w = .loc j ∧ o.h[j]? = some (.lst l) ∧ v = .ref (o.mu j) ∧ j < o.h.length ∧ o.H (o.mu j) = some (.lst vs) ∧ Rvs X.K o l vs ∧ Ps (cg X E) r o (k (.loc j) o.h) Q := by
  cases w with
  | loc j =>
    unfold Rv at hr
    unfold isL bd at h
    cases e : o.h[j]? with
    | none => simp only [e] at h; exact h.elim
    | some b =>
      cases b with
      | lst l =>
        simp only [e] at h
        obtain ⟨vs, h1, h2⟩ := R.ob j _ e
        exact ⟨j, l, vs, rfl, e, hr.2, hr.1, h1, h2, h⟩
      | _ => simp only [e] at h; exact h.elim
  | _ => exact h.elim
def appendW (x : W) (ws : List W) : M W := match x, ws with
  | .loc k, [w] => fun h => match h[k]? with
    | some (.lst l) => if l.length < sizeLine then .ok .non (h.set k (.lst (l ++ [w]))) else .bad
    | _ => .bad
  | _, _ => no
theorem me_append (ho : JE X E o fo) (ha : JA X E [e] l) (hbase : attributeBase o "append" X.env (eval o X.env) = eval o X.env := by rfl)
    (hfew : ((backTo cpos (starEach [e] X.env)).all (fun x => !x.1) && (backToKw cpos (keywordEach [] X.env)).all (fun x => x.1.isSome) && decide (([e] : List Expr).length + ([] : List Keyword).length + (if ([] : List Keyword).isEmpty then 0 else 1) < 30)) = true := by rfl)
    (hline : (apos.endLine == cpos.line) = true := by rfl) (hs : starEach [e] X.env = (false, eval e X.env) :: starEach [] X.env := by rfl) (hplain : (backTo cpos (starEach [] X.env)).any (·.1) = false := by rfl) :
    JE X E (.Call (.Attribute o "append" apos) [e] [] cpos) (mMeth isL appendW fo l) :=
  (pe_bm PySem.F.plainAttrs_list PySem.F.slot_list_append PySem.F.type_list_append mt_append ho.h ha.h hbase hfew hline hs hplain).imp fun σ H Q h => by
    obtain ⟨w, ρ, rfl, R, S, h⟩ := h
    refine ⟨w, ρ, rfl, R, S, Ps.bd h fun p x vx e1 R1 r1 h1 => ?_⟩
    obtain ⟨j, l0, vs0, rfl, hj, rfl, hlt, hH, hl0, h1⟩ := isL_ps R1 r1 h1
    refine ⟨.inl ⟨rfl, vs0, .of hH⟩, p, ρ, rfl, R1, S.mono R e1, Ps.bd h1 fun q ws vs e2 R2 r2 h2 => ?_⟩
    rcases ws with _ | ⟨w', _ | ⟨_, _⟩⟩
    · exact h2.elim
    · unfold appendW at h2
      cases e : q.h[j]? with
      | none => simp only [e] at h2; exact h2.elim
      | some b =>
        cases b with
        | lst l' =>
          simp only [e] at h2
          obtain ⟨v, rfl, r⟩ := r2.one
          obtain ⟨us, k1, k2⟩ := R2.ob j _ e
          by_cases z : l'.length < sizeLine
          · rw [if_pos z] at h2
            rw [e2.mu j hlt] at k1
            refine ⟨p.mu j, us, v, rfl, rfl, k1, by rw [k2.len]; exact z, ?_⟩
            have := Ps.at (p := q.put j (.lst (l' ++ [w'])) (.lst (us ++ [v]))) (b := V.non) h2 rfl (Ex.put e (by simp)) (R2.putL e (by simp) (k2.app (Rvs.cons r Rvs.nil))) (rv_non.mpr rfl)
            have em : q.mu j = p.mu j := e2.mu j hlt
            have ew : (q.put j (.lst (l' ++ [w'])) (.lst (us ++ [v]))).H = upd q.H (p.mu j) (.lst (us ++ [v])) := by
              show upd q.H (q.mu j) _ = _
              rw [em]
            rw [ew] at this
            exact this
          · rw [if_neg z] at h2; exact h2.elim
        | _ => simp only [e] at h2; exact h2.elim
    · exact h2.elim
def popW (x : W) (ws : List W) : M W := match x, ws with
  | .loc k, [] => fun h => match h[k]? with
    | some (.lst l) => match l[l.length - 1]? with
      | some w => .ok w (h.set k (.lst l.dropLast))
      | none => .bad
    | _ => .bad
  | _, _ => no
theorem Rvs.dropLast {K : PySem.W.Frag} {o : Wo} {l : List W} {vs : List V} (h : Rvs K o l vs) : Rvs K o l.dropLast vs.dropLast := by
  rw [List.dropLast_eq_take, List.dropLast_eq_take, h.len]; exact h.take _
theorem me_pop (ho : JE X E o fo) (hbase : attributeBase o "pop" X.env (eval o X.env) = eval o X.env := by rfl) (hline : (apos.endLine == cpos.line) = true := by rfl) :
    JE X E (.Call (.Attribute o "pop" apos) [] [] cpos) (mMeth isL popW fo mNil) :=
  (pe_bm0 PySem.F.plainAttrs_list PySem.F.slot_list_pop PySem.F.type_list_pop mt_pop ho.h hbase hline).imp fun σ H Q h => by
    obtain ⟨w, ρ, rfl, R, S, h⟩ := h
    refine ⟨w, ρ, rfl, R, S, Ps.bd h fun p x vx e1 R1 r1 h1 => ?_⟩
    obtain ⟨j, l0, vs0, rfl, hj, rfl, hlt, hH, hl0, h1⟩ := isL_ps R1 r1 h1
    refine ⟨.inl ⟨rfl, vs0, .of hH⟩, ?_⟩
    have h2 : Ps (cg X E) (Rv X.K) p (popW (.loc j) [] p.h) Q := h1
    unfold popW at h2
    simp only [hj] at h2
    cases e : l0[l0.length - 1]? with
    | none => rw [e] at h2; exact h2.elim
    | some w' =>
      rw [e] at h2
      obtain ⟨y, hy, ry⟩ := hl0.get e
      rw [← hl0.len] at hy
      exact ⟨_, vs0, y, rfl, rfl, hH, hy, Ps.at (p := p.put j (.lst l0.dropLast) (.lst vs0.dropLast)) h2 rfl (Ex.put hj (by simp)) (R1.putL hj (by simp) hl0.dropLast) (ry.mono R1 (Ex.put hj (by simp)))⟩
/-! ### freezing: the list at a place is given up and stays as it is -/
def iceW (w : W) : M W := match w with
  | .loc k => fun h => match h[k]? with
    | some (.lst l) => .ok (.tl l) (h.set k .gone)
    | some (.dic ks ws) => .ok (.dv ks ws) (h.set k .gone)
    | _ => .bad
  | w => pr w
theorem tM_ice {f : Env' → M W} {σ : St} {H : Hp} {Q : VK} (h : tM (cg X E) (m1 iceW f) σ H Q) : tM (cg X E) f σ H Q := by
  obtain ⟨o, ρ, rfl, R, S, h⟩ := h
  refine ⟨o, ρ, rfl, R, S, Ps.bd h fun p x vx e1 R1 r1 h1 => ?_⟩
  cases x with
  | loc k =>
    unfold Rv at r1
    obtain ⟨_, rfl⟩ := r1
    unfold iceW at h1
    dsimp only at h1
    split at h1
    · rename_i l hl
      exact Ps.at (p := p.ice k) h1 rfl Ex.ice R1.ice (Rv.iceL R1 hl)
    · rename_i ks ws hl
      exact Ps.at (p := p.ice k) h1 rfl Ex.ice R1.ice (Rv.iceD R1 hl)
    · exact h1.elim
  | _ => exact Ps.pr (c := cg X E) h1 R1 r1
theorem me_ice {f : Env' → M W} {e : Expr} (h : JE X E e f) : JE X E e (m1 iceW f) := h.h.imp fun _ _ _ q => tM_ice q
/-! ### xs[i] = v, d[k] = v -/
def mapAt : List Key → List W → Key → W → List W
  | k :: ks, w :: ws, x, y => (if k = x then y else w) :: mapAt ks ws x y
  | _, _, _, _ => []
def putW (ks : List Key) (ws : List W) (x : Key) (y : W) : List Key × List W := if (ks.any fun k => decide (k = x)) = true then (ks, mapAt ks ws x y) else (ks ++ [x], ws ++ [y])
def storeW (x i v : W) : M Unit := match x with
  | .loc k => fun h => match h[k]? with
    | some (.lst l) => match i with
      | .int n => match ixN l.length n with
        | some j => .ok () (h.set k (.lst (l.set j v)))
        | none => .bad
      | _ => .bad
    | some (.dic ks ws) => match keyOf i with
      | some q => if ks.length < sizeLine then .ok () (h.set k (.dic (putW ks ws q v).1 (putW ks ws q v).2)) else .bad
      | none => .bad
    | _ => .bad
  | _ => no
def sStore (fo fi fv : Env' → M W) : Env' → M Fl := fun ρ => bd (fv ρ) fun v => bd (fo ρ) fun x => bd (fi ρ) fun i => bd (storeW x i v) fun _ => pr (.nx ρ)
variable {i value : Expr} {tpos : Pos} {fi fv : Env' → M W}
end
end L2
set_option maxHeartbeats 1000000
/-! the mirror: defs, more sources, isinstance, dicts -/
namespace L2
open PySem PySem.Spec PyProof.Rows
/-! ### defs -/
def runF (n : Nat) (g : Env' → M Fl) (ws : List W) : M W := bd (g (ws.map some ++ List.replicate (n - ws.length) none)) fun x => match x with
  | .rt w => pr w
  | .nx _ => pr .non
  | _ => no
section
variable {P : Program} {w : World} {K : PySem.W.Frag} {mg : Str → Option Value} {base : Heap} {x qual : Str} {st : Stmt} {f : Addr} {fd : FuncData} {N ps : List Str} {k : Nat} {g : Env' → M Fl}
/-- a def's promise, no exception leaves it -/
def spM0 (K : PySem.W.Frag) (mg : Str → Option Value) (n : Nat) (f : List W → M W) : Sp := fun vs H Q _ => ∃ o ws, o.H = H ∧ ws.length = n ∧ Rel K o ∧ Rvs K o ws vs ∧ Ps ⟨K, mg, E0⟩ (Rv K) o (f ws o.h) Q
theorem def_m {n m : Nat} {fn : List W → M W} (F : Fun K x qual st f fd) (S : FnScope N ps (defScope st)) (hn : N.length = n) (hm : ps.length = m) (hf : fn = runF n g)
    (hb : ∀ (cdv : Value) (A : Around) (outer : List Env) (s : Shared) (H : Hp) (E : XK), Room k (A.deeper (envOfC qual (defScope st) s.heap.objs.size f cdv)) → JSs (cxOf CX0 P w K mg base N qual (defScope st) f cdv A outer s H E).nox E0 (defBody st) g) :
    FnOk P w K mg base CX0 (k + 1) f fd ps (spM0 K mg m fn) := by
  subst hn hm hf
  refine F.ok S (fun vs H Q E h => ?_) (fun cdv A outer s H vs Q E hr h => ?_)
  · obtain ⟨o, ws, _, hl, _, rv, _⟩ := h
    rw [rv.len, hl]
  · obtain ⟨o, ws, rfl, hl, R, rv, h⟩ := h
    refine ⟨_, (hb cdv A outer s o.H E hr).h, ?_⟩
    have e : start N vs = vs.map some ++ List.replicate (N.length - ws.length) none := by unfold start; rw [rv.len]
    rw [e]
    refine ⟨o, _, rfl, R, Re.args _ rv, Ps.bd h fun p x b e1 R1 r1 h1 => ?_⟩
    cases x with
    | rt w => obtain ⟨v, rfl, r⟩ := r1; exact h1.pr R1 r
    | nx r => obtain ⟨s, rfl, r⟩ := r1; exact h1.pr R1 (rv_non.mpr rfl)
    | bk r => exact h1.elim
    | ct r => exact h1.elim
/-- .. that is never asked -/
theorem def_no {m : Nat} {fn : List W → M W} (h : ∀ ws h, fn ws h = .bad) : FnOk P w K mg base CX0 k f fd ps (spM0 K mg m fn) := by
  have no : ∀ vs H Q E, ¬ spM0 K mg m fn vs H Q E := fun vs H Q E ⟨o, ws, _, _, _, _, q⟩ => by rw [h] at q; exact q
  exact ⟨fun vs H Q E h => absurd h (no vs H Q E), fun A outer s H args us vs Q E _ _ _ _ h => absurd h (no vs H Q E)⟩
/-- what a caller needs of a def -/
structure CG (P : Program) (w : World) (K : PySem.W.Frag) (mg : Str → Option Value) (base : Heap) (k : Nat) (x : Str) (f : Addr) (fd : FuncData) (ps : List Str) (m : Nat) (fn : List W → M W) : Prop where
  ok : FnOk P w K mg base CX0 k f fd ps (spM0 K mg m fn)
  bi : Binds K fd ps []
  kp : PySem.W.keepIn K (.ref f) = true
  mg : mg x = some (.ref f)
end
def arW (n : Nat) (f : List W → M W) (ws : List W) : M W := if ws.length = n then f ws else no
section
variable {X : Cx} {p pos : Pos} {e : Expr} {es : List Expr} {l : Env' → M (List W)} {f : List W → M W} {k : Nat} {fA : Addr} {fd : FuncData} {ps : List Str} {x : Str}
/-- f(e, ..), f an own def -/
theorem me_fn {m : Nat} (C : CG X.prog X.w X.K X.mg X.base k x fA fd ps m f) (hr : Room k X.A) (ha : JA X E0 (e :: es) l) (hg : Gl X x := by rfl)
    (hdb : (x == ("__debug__" : Str)) = false := by decide) (he : starEach (e :: es) X.env = (false, eval e X.env) :: starEach es X.env := by rfl) (hpl : (backTo pos (starEach es X.env)).any (·.1) = false := by rfl) :
    JE X E0 (.Call (.Name x p) (e :: es) [] pos) (mCall (arW m f) l) := (pe_call C.ok hr hg C.mg C.kp C.bi .nil pass0 ha.h hdb he hpl).imp fun σ H Q h => by
  obtain ⟨o, ρ, rfl, R, S, h⟩ := h
  refine ⟨o, ρ, rfl, R, S, Ps.bd h fun p x vx e1 R1 r1 h1 => ?_⟩
  unfold arW at h1
  by_cases z : x.length = m
  · rw [if_pos z] at h1
    exact ⟨p, x, rfl, z, R1, by rw [List.append_nil]; exact r1, h1⟩
  · rw [if_neg z] at h1
    exact h1.elim
end
section
variable {X : Cx} {E : XK} {p pos : Pos}
/-! ### walks over texts, enumerate -/
def chars (z : Str) : List W := z.cps.toList.map fun c => .str ⟨#[c]⟩
def srcS (w : W) : M Sr := match w with
  | .str z => pr ⟨chars z, fun _ => True⟩
  | _ => no
/-! ### a, b = e -/
def sUnp (t : W → Env' → Option Env') (f : Env' → M W) : Env' → M Fl := fun ρ => bd (f ρ) fun w => match t w ρ with
  | some r => pr (.nx r)
  | none => no
/-! ### isinstance -/
end
end L2
set_option maxHeartbeats 1000000
/-! the mirror: isinstance, dicts -/
namespace L2
open PySem PySem.Spec PyProof.Rows
section
variable {X : Cx} {E : XK} {p pos : Pos} {a b : Expr} {l : Env' → M (List W)}
/-! ### dicts -/
def mPrs : List ((Env' → M W) × (Env' → M W)) → Env' → M (List Key × List W)
  | [], _ => pr ([], [])
  | (fk, fv) :: r, ρ => bd (fk ρ) fun k => bd (fv ρ) fun v => bd (mPrs r ρ) fun kw => match keyOf k with
    | some q => pr (q :: kw.1, v :: kw.2)
    | none => no
def RPr (K : PySem.W.Frag) (o : Wo) (kw : List Key × List W) (ps : List (V × V)) : Prop := ∃ kvs : List (Key × V), ps = kvs.map (fun kv => (kV kv.1, kv.2)) ∧ kvs.map (·.1) = kw.1 ∧ Rvs K o kw.2 (kvs.map (·.2))
theorem tPairs_m {ρ : Env'} {σ : St} : ∀ {trs : List ((Env' → M W) × (Env' → M W))} {o : Wo} {N : List (V × V) → Hp → Prop}, Rel X.K o → Re X.K o ρ σ → Ps (cg X E) (RPr X.K) o (mPrs trs ρ o.h) N → tPairs (trs.map fun t => (tM (cg X E) t.1, tM (cg X E) t.2)) σ o.H N
  | [], o, N, R, S, h => h.pr R (show RPr X.K o ([], []) [] from ⟨[], rfl, rfl, Rvs.nil⟩)
  | (fk, fv) :: r, o, N, R, S, h => by
    refine ⟨o, ρ, rfl, R, S, Ps.bd h fun p k vk e1 R1 r1 h1 => ⟨p, ρ, rfl, R1, S.mono R e1, Ps.bd h1 fun q v vv e2 R2 r2 h2 => ?_⟩⟩
    refine tPairs_m R2 ((S.mono R e1).mono R1 e2) (Ps.bd h2 fun s kw ps e3 R3 r3 h3 => ?_)
    cases ek : keyOf k with
    | none => rw [ek] at h3; exact h3.elim
    | some x =>
      rw [ek] at h3
      obtain ⟨kvs, rfl, b1, b2⟩ := r3
      refine h3.pr R3 ⟨(x, vv) :: kvs, ?_, ?_, Rvs.cons ((r2.mono R2 e3)) b2⟩
      · rw [keyOf_rv ek r1]; rfl
      · show x :: kvs.map (·.1) = x :: kw.1
        rw [b1]
theorem mergeK_nodup : ∀ (more kvs : List (Key × V)), ((kvs ++ more).map (·.1)).Nodup → mergeK kvs more = kvs ++ more
  | [], kvs, _ => by rw [List.append_nil]; rfl
  | (k, v) :: r, kvs, h => by
    have nk : ¬ (kvs.any fun kv => decide (kv.1 = k)) = true := fun z => by
      obtain ⟨q, hq, e⟩ := List.any_eq_true.mp z
      have e := of_decide_eq_true e
      rw [List.map_append, List.map_cons] at h
      have := (List.nodup_append.mp h).2.2 q.1 (List.mem_map_of_mem hq) k (List.mem_cons_self)
      exact this e
    show mergeK (putK kvs k v) r = _
    have : putK kvs k v = kvs ++ [(k, v)] := by unfold putK; rw [if_neg nk]
    rw [this, mergeK_nodup r (kvs ++ [(k, v)]) (by rw [List.append_assoc]; exact h), List.append_assoc]
    rfl
def mDisp (trs : List ((Env' → M W) × (Env' → M W))) : Env' → M W := fun ρ h => match mPrs trs ρ (h ++ [.dic [] []]) with
  | .ok kw h' => if kw.1.Nodup ∧ kw.1.length ≤ 15 then (match h'[h.length]? with
      | some (.dic [] []) => .ok (.loc h.length) (h'.set h.length (.dic kw.1 kw.2))
      | _ => .bad) else .bad
  | .ex c h' => .bad
  | .bad => .bad
structure JP (X : Cx) (E : XK) (pos : Pos) (keys : List (Option Expr)) (values : List Expr) (trs : List ((Env' → M W) × (Env' → M W))) : Prop where
  h : PPs X pos keys values (trs.map fun t => (tM (cg X E) t.1, tM (cg X E) t.2))
theorem jp_nil : JP X E pos [] [] [] := ⟨pps_nil⟩
theorem jp_cons {k v : Expr} {ks : List (Option Expr)} {vs : List Expr} {fk fv : Env' → M W} {trs : List ((Env' → M W) × (Env' → M W))} (hk : JE X E k fk) (hv : JE X E v fv) (hr : JP X E pos ks vs trs) : JP X E pos (some k :: ks) (v :: vs) ((fk, fv) :: trs) := ⟨pps_cons hk.h hv.h hr.h⟩
theorem me_disp {keys : List (Option Expr)} {values : List Expr} {trs : List ((Env' → M W) × (Env' → M W))} (h : JP X E pos keys values trs) (hall : keys.all (·.isSome) = true) (hl : keys.length = values.length) (h0 : keys ≠ [])
    (h15 : keys.length ≤ 15) : JE X E (.Dict keys values pos) (mDisp trs) := (pe_disp h.h hall hl h0 h15).imp fun σ H Q h => by
  obtain ⟨o, ρ, rfl, R, S, h⟩ := h
  intro q hq
  have X1 : Ex o (o.add q (.dic [] []) (.dK [])) := Ex.add hq
  have R1 : Rel X.K (o.add q (.dic [] []) (.dK [])) := R.addD hq rfl Rvs.nil
  refine tPairs_m (o := o.add q (.dic [] []) (.dK [])) R1 (S.mono R X1) ?_
  unfold mDisp at h
  have eh : (o.add q (.dic [] []) (.dK [])).h = o.h ++ [.dic [] []] := rfl
  rw [eh]
  cases e : mPrs trs ρ (o.h ++ [.dic [] []]) with
  | bad => rw [e] at h; exact h.elim
  | ex c h' => rw [e] at h; exact h.elim
  | ok kw h' =>
    rw [e] at h
    intro p ps ep X2 R2 r2
    subst ep
    by_cases hc : kw.1.Nodup ∧ kw.1.length ≤ 15
    · simp only [if_pos hc] at h
      cases ek : p.h[o.h.length]? with
      | none => simp only [ek] at h; exact h.elim
      | some b =>
        cases b with
        | dic ks ws =>
          cases ks with
          | cons a b => simp only [ek] at h; exact h.elim
          | nil =>
            cases ws with
            | cons a b => simp only [ek] at h; exact h.elim
            | nil =>
              simp only [ek] at h
              have lt : o.h.length < (o.add q (.dic [] []) (.dK [])).h.length := by show _ < (o.h ++ [_]).length; simp
              have mq : p.mu o.h.length = q := by
                rw [X2.mu _ lt]
                show (if o.h.length = o.h.length then q else _) = q
                rw [if_pos rfl]
              obtain ⟨kvs0, k1, k2, _⟩ := R2.ob _ _ ek
              rw [mq] at k1
              have : kvs0 = [] := by cases kvs0 with
                | nil => rfl
                | cons a b => cases k2
              subst this
              obtain ⟨kvs, rfl, b1, b2⟩ := r2
              have nd : (([] ++ kvs).map (fun z : Key × V => z.1)).Nodup := by rw [List.nil_append, b1]; exact hc.1
              refine ⟨k1, kvs, rfl, by rw [← b1, List.length_map] at hc; exact hc.2, ?_⟩
              rw [mergeK_nodup kvs [] nd, List.nil_append]
              have := Ps.at (p := p.put o.h.length (.dic kw.1 kw.2) (.dK kvs)) (b := V.ref q) h rfl (X1.trans (X2.trans (Ex.put ek (by simp)))) (R2.putD ek (by simp) b1 b2) (by
                unfold Rv
                refine ⟨?_, ?_⟩
                · show _ < (p.h.set _ _).length
                  rw [List.length_set]
                  exact Nat.lt_of_lt_of_le lt X2.le
                · show V.ref q = V.ref (p.mu o.h.length)
                  rw [mq])
              have ew : (p.put o.h.length (.dic kw.1 kw.2) (.dK kvs)).H = upd p.H q (.dK kvs) := by
                show upd p.H (p.mu o.h.length) _ = _
                rw [mq]
              rw [ew] at this
              exact this
        | _ => simp only [ek] at h; exact h.elim
    · simp only [if_neg hc] at h; exact h.elim
end
end L2
set_option maxHeartbeats 1000000
/-! the mirror: chains, what is seen of the text, older promises -/
namespace L2
open PySem PySem.Spec PyProof.Rows
section
variable {X : Cx} {E : XK} {p pos : Pos} {a b c : Expr} {fa fb fc : Env' → M W}
/-! ### a < b < c -/
def mChain (f g : W → W → M W) (fa fb fc : Env' → M W) : Env' → M W := fun ρ => bd (fa ρ) fun x => bd (fb ρ) fun y => bd (f x y) fun z => bd (asB z) fun k => if k = true then bd (fc ρ) fun w => g y w else pr (.bl false)
end
/-! ### what is seen of an argument list -/
section
variable {es : List Expr} {env : Env} {pos : Pos}
theorem se_c {c k p} : starEach (.Constant c k p :: es) env = (false, eval (.Constant c k p) env) :: starEach es env := by rfl
theorem se_n {c p} : starEach (.Name c p :: es) env = (false, eval (.Name c p) env) :: starEach es env := by rfl
theorem se_b {a o b p} : starEach (.BinOp a o b p :: es) env = (false, eval (.BinOp a o b p) env) :: starEach es env := by rfl
theorem se_f {a o b p} : starEach (.Call a o b p :: es) env = (false, eval (.Call a o b p) env) :: starEach es env := by rfl
theorem se_s {a o p} : starEach (.Subscript a o p :: es) env = (false, eval (.Subscript a o p) env) :: starEach es env := by rfl
theorem ns_nil : (backTo pos (starEach [] env)).any (·.1) = false := by rfl
theorem ns_cons {e : Expr} (hs : starEach (e :: es) env = (false, eval e env) :: starEach es env) (h : (backTo pos (starEach es env)).any (·.1) = false) : (backTo pos (starEach (e :: es) env)).any (·.1) = false := by
  rw [hs]
  show ((false || (backTo pos (starEach es env)).any (·.1)) : Bool) = false
  rw [h]; rfl
end
/-! ### promises of the older kind -/
section
variable {P : Program} {w : World} {K : PySem.W.Frag} {mg : Str → Option Value} {base : Heap} {x : Str} {f : Addr} {fd : FuncData} {ps : List Str} {k : Nat} {sp : Sp} {fn : List W → M W}
/-- no exception wished for: none comes -/
theorem fn0_of_x (F : FnOk P w K mg base (CXx P w) k f fd ps sp) {sp' : Sp} (h : ∀ vs H Q E, sp' vs H Q E → sp vs H Q E0) : FnOk P w K mg base CX0 k f fd ps sp' :=
  ⟨fun vs H Q E q => F.len vs H Q E0 (h _ _ _ _ q), fun A outer s H args us vs Q E hr he hb hv hs => codeAny_mono (F.run A outer s H args us vs Q E0 hr he hb hv (h _ _ _ _ hs)) fun r s' q => by
    cases r with
    | ok fl => cases fl <;> exact q
    | error e =>
      obtain ⟨_, _, _, _, _, _, _, _, _, _, _, _, _, _, z⟩ := q
      exact z.elim⟩
end
end L2
set_option maxHeartbeats 1000000
/-! the mirror: refusals taken -/
namespace L2
open PySem PySem.Spec PyProof.Rows
section
variable {X : Cx} {E : XK} {p pos : Pos} {a b : Expr} {l : Env' → M (List W)} {CF : Addr} {raised : List Str}
/-! ### try: f(..) except .. as e: -/
variable {x n f : Str} {e b0 : Expr} {es : List Expr} {s0 : Stmt} {suite : List Stmt} {np hpos tpos epos : Pos} {fn : List W → M W} {g : Env' → M Fl} {k i m : Nat} {fA : Addr} {fd : FuncData} {ps : List Str}
/-! ### xs + ys, a list that may change -/
end
end L2
set_option maxHeartbeats 1000000
/-! running the mirror -/
namespace L2
open PySem
theorem bd_ok {α β : Type} {f : M α} {g : α → M β} {h h' : List Ob} {a : α} (e : f h = .ok a h') : bd f g h = g a h' := by unfold bd; rw [e]
@[simp] theorem bd_pr {α β : Type} (a : α) (g : α → M β) : bd (pr a) g = g a := rfl
@[simp] theorem bd_no {α β : Type} (g : α → M β) : bd (no : M α) g = no := rfl
theorem gd_pos {α : Type} {p : Prop} [Decidable p] {m : M α} (hp : p) : gd p m = m := by funext h; unfold gd; rw [if_pos hp]
@[simp] theorem addW_int (i j : Int) : addW (.int i) (.int j) = pr (.int (i + j)) := rfl
@[simp] theorem subW_int (i j : Int) : subW (.int i) (.int j) = pr (.int (i - j)) := gd_pos trivial
theorem mulW_int {i j : Int} (h : CMulA i j) : mulW (.int i) (.int j) = pr (.int (i * j)) := by unfold mulW; exact gd_pos h
theorem mulA_l {i j : Int} (h1 : -(2 ^ 64) < i) (h2 : i < 2 ^ 64) : CMulA i j := .inl (.inl ⟨h1, h2⟩)
theorem mulA_r {i j : Int} (h1 : -(2 ^ 64) < j) (h2 : j < 2 ^ 64) : CMulA i j := .inl (.inr ⟨h1, h2⟩)
theorem fdivW_int {i j : Int} (h1 : 0 < j) (h2 : j < 2 ^ 200) : fdivW (.int i) (.int j) = pr (.int (i / j)) := gd_pos ⟨h1, h2⟩
theorem modW_int {i j : Int} (h1 : 0 < j) : modW (.int i) (.int j) = pr (.int (i % j)) := gd_pos h1
theorem powW_int {i j : Int} (h : CPow i j) : powW (.int i) (.int j) = pr (.int (i ^ j.toNat)) := gd_pos h
theorem shrW_int {i j : Int} (h : 0 ≤ j) : shrW (.int i) (.int j) = pr (.int (i / 2 ^ j.toNat)) := gd_pos h
@[simp] theorem ltW_int (i j : Int) : ltW (.int i) (.int j) = pr (.bl (decide (i < j))) := gd_pos trivial
@[simp] theorem leW_int (i j : Int) : leW (.int i) (.int j) = pr (.bl (decide (i ≤ j))) := gd_pos trivial
@[simp] theorem gtW_int (i j : Int) : gtW (.int i) (.int j) = pr (.bl (decide (j < i))) := gd_pos trivial
@[simp] theorem geW_int (i j : Int) : geW (.int i) (.int j) = pr (.bl (decide (j ≤ i))) := gd_pos trivial
@[simp] theorem asB_bl (b : Bool) : asB (.bl b) = pr b := rfl
@[simp] theorem eqW_int (i j : Int) : eqW (.int i) (.int j) = pr (.bl (decide (i = j))) := by
  funext h
  show Rs.ok (W.bl (decide (V.int i = V.int j))) h = Rs.ok (W.bl (decide (i = j))) h
  congr 2
  rw [decide_eq_decide]
  exact ⟨V.int.inj, congrArg _⟩
@[simp] theorem eqW_str (i j : Str) : eqW (.str i) (.str j) = pr (.bl (decide (i = j))) := by
  funext h
  show Rs.ok (W.bl (decide (V.str i = V.str j))) h = Rs.ok (W.bl (decide (i = j))) h
  congr 2
  rw [decide_eq_decide]
  exact ⟨V.str.inj, congrArg _⟩
@[simp] theorem neW_int (i j : Int) : neW (.int i) (.int j) = pr (.bl (!decide (i = j))) := by
  funext h
  show Rs.ok (W.bl (!decide (V.int i = V.int j))) h = Rs.ok (W.bl (!decide (i = j))) h
  congr 3
  rw [decide_eq_decide]
  exact ⟨V.int.inj, congrArg _⟩
@[simp] theorem neW_str (i j : Str) : neW (.str i) (.str j) = pr (.bl (!decide (i = j))) := by
  funext h
  show Rs.ok (W.bl (!decide (V.str i = V.str j))) h = Rs.ok (W.bl (!decide (i = j))) h
  congr 3
  rw [decide_eq_decide]
  exact ⟨V.str.inj, congrArg _⟩
@[simp] theorem neW_bl (i j : Bool) : neW (.bl i) (.bl j) = pr (.bl (!decide (i = j))) := by
  funext h
  show Rs.ok (W.bl (!decide (V.bl i = V.bl j))) h = Rs.ok (W.bl (!decide (i = j))) h
  congr 3
  rw [decide_eq_decide]
  exact ⟨V.bl.inj, congrArg _⟩
theorem ixW_tl {l : List W} {i : Int} {w : W} (h : atI l i = some w) : ixW (.tl l) (.int i) = pr w := by
  funext hh
  unfold ixW
  have : ixO (.tl l) (.int i) hh = some w := h
  rw [this]; rfl
theorem ixW_tup {l : List W} {i : Int} {w : W} (h : atI l i = some w) : ixW (.tup l) (.int i) = pr w := by
  funext hh
  unfold ixW
  have : ixO (.tup l) (.int i) hh = some w := h
  rw [this]; rfl
theorem ixW_str {z : Str} {i : Int} {c : Nat} (hz : z.length ≤ sizeLine) (h : atI z.cps.toList i = some c) : ixW (.str z) (.int i) = pr (.str ⟨#[c]⟩) := by
  funext hh
  unfold ixW
  have : ixO (.str z) (.int i) hh = some (.str ⟨#[c]⟩) := by
    show (if z.length ≤ sizeLine then (atI z.cps.toList i).map fun c => W.str ⟨#[c]⟩ else none) = _
    rw [if_pos hz, h]; rfl
  rw [this]; rfl
@[simp] theorem slW_tl (l : List W) (lo hi : Option Int) : slW (.tl l) lo hi = pr (.tl (cutW l lo hi)) := rfl
@[simp] theorem slW_cl (l : List W) (lo hi : Option Int) : slW (.cl l) lo hi = pr (.tl (cutW l lo hi)) := rfl
@[simp] theorem lenW_tl (l : List W) : lenW [.tl l] = pr (.int l.length) := rfl
@[simp] theorem lenW_tup (l : List W) : lenW [.tup l] = pr (.int l.length) := rfl
theorem lenW_str {z : Str} (hz : z.length ≤ sizeLine) : lenW [.str z] = pr (.int z.length) := gd_pos hz
theorem strW_int {i : Int} (h : i.natAbs.log2 < 1920) : strW [.int i] = pr (.str (toString i)) := gd_pos h
theorem atI_ofW {α : Type} {xs : List α} {i : Int} {v : α} (h0 : 0 ≤ i) (h : xs[i.toNat]? = some v) : atI xs i = some v := by
  have q := atI_nat h
  have e : ((i.toNat : Nat) : Int) = i := by omega
  rw [e] at q; exact q
def finF : Fl → M W := fun x => match x with
  | .rt w => pr w
  | .nx _ => pr .non
  | _ => no
theorem gdn0 {α : Type} (m : M α) : gd (0 ≤ sizeLine) m = m := gd_pos (by decide)
theorem gdn1 {α : Type} (m : M α) : gd (0 + 1 ≤ sizeLine) m = m := gd_pos (by decide)
theorem gdn2 {α : Type} (m : M α) : gd (0 + 1 + 1 ≤ sizeLine) m = m := gd_pos (by decide)
theorem gdn3 {α : Type} (m : M α) : gd (0 + 1 + 1 + 1 ≤ sizeLine) m = m := gd_pos (by decide)
theorem gdn4 {α : Type} (m : M α) : gd (0 + 1 + 1 + 1 + 1 ≤ sizeLine) m = m := gd_pos (by decide)
theorem gdn5 {α : Type} (m : M α) : gd (0 + 1 + 1 + 1 + 1 + 1 ≤ sizeLine) m = m := gd_pos (by decide)
theorem gdn6 {α : Type} (m : M α) : gd (0 + 1 + 1 + 1 + 1 + 1 + 1 ≤ sizeLine) m = m := gd_pos (by decide)
theorem gdn7 {α : Type} (m : M α) : gd (0 + 1 + 1 + 1 + 1 + 1 + 1 + 1 ≤ sizeLine) m = m := gd_pos (by decide)
theorem gdn8 {α : Type} (m : M α) : gd (0 + 1 + 1 + 1 + 1 + 1 + 1 + 1 + 1 ≤ sizeLine) m = m := gd_pos (by decide)
theorem gdn9 {α : Type} (m : M α) : gd (0 + 1 + 1 + 1 + 1 + 1 + 1 + 1 + 1 + 1 ≤ sizeLine) m = m := gd_pos (by decide)
theorem gdn10 {α : Type} (m : M α) : gd (0 + 1 + 1 + 1 + 1 + 1 + 1 + 1 + 1 + 1 + 1 ≤ sizeLine) m = m := gd_pos (by decide)
theorem gdn11 {α : Type} (m : M α) : gd (0 + 1 + 1 + 1 + 1 + 1 + 1 + 1 + 1 + 1 + 1 + 1 ≤ sizeLine) m = m := gd_pos (by decide)
theorem gdn12 {α : Type} (m : M α) : gd (0 + 1 + 1 + 1 + 1 + 1 + 1 + 1 + 1 + 1 + 1 + 1 + 1 ≤ sizeLine) m = m := gd_pos (by decide)
theorem gdn13 {α : Type} (m : M α) : gd (0 + 1 + 1 + 1 + 1 + 1 + 1 + 1 + 1 + 1 + 1 + 1 + 1 + 1 ≤ sizeLine) m = m := gd_pos (by decide)
theorem gdn14 {α : Type} (m : M α) : gd (0 + 1 + 1 + 1 + 1 + 1 + 1 + 1 + 1 + 1 + 1 + 1 + 1 + 1 + 1 ≤ sizeLine) m = m := gd_pos (by decide)
theorem gdn15 {α : Type} (m : M α) : gd (0 + 1 + 1 + 1 + 1 + 1 + 1 + 1 + 1 + 1 + 1 + 1 + 1 + 1 + 1 + 1 ≤ sizeLine) m = m := gd_pos (by decide)
theorem gdn16 {α : Type} (m : M α) : gd (0 + 1 + 1 + 1 + 1 + 1 + 1 + 1 + 1 + 1 + 1 + 1 + 1 + 1 + 1 + 1 + 1 ≤ sizeLine) m = m := gd_pos (by decide)
theorem gdn17 {α : Type} (m : M α) : gd (0 + 1 + 1 + 1 + 1 + 1 + 1 + 1 + 1 + 1 + 1 + 1 + 1 + 1 + 1 + 1 + 1 + 1 ≤ sizeLine) m = m := gd_pos (by decide)
theorem gdn18 {α : Type} (m : M α) : gd (0 + 1 + 1 + 1 + 1 + 1 + 1 + 1 + 1 + 1 + 1 + 1 + 1 + 1 + 1 + 1 + 1 + 1 + 1 ≤ sizeLine) m = m := gd_pos (by decide)
theorem gdn19 {α : Type} (m : M α) : gd (0 + 1 + 1 + 1 + 1 + 1 + 1 + 1 + 1 + 1 + 1 + 1 + 1 + 1 + 1 + 1 + 1 + 1 + 1 + 1 ≤ sizeLine) m = m := gd_pos (by decide)
theorem gdn20 {α : Type} (m : M α) : gd (0 + 1 + 1 + 1 + 1 + 1 + 1 + 1 + 1 + 1 + 1 + 1 + 1 + 1 + 1 + 1 + 1 + 1 + 1 + 1 + 1 ≤ sizeLine) m = m := gd_pos (by decide)
theorem gdn21 {α : Type} (m : M α) : gd (0 + 1 + 1 + 1 + 1 + 1 + 1 + 1 + 1 + 1 + 1 + 1 + 1 + 1 + 1 + 1 + 1 + 1 + 1 + 1 + 1 + 1 ≤ sizeLine) m = m := gd_pos (by decide)
theorem gdn22 {α : Type} (m : M α) : gd (0 + 1 + 1 + 1 + 1 + 1 + 1 + 1 + 1 + 1 + 1 + 1 + 1 + 1 + 1 + 1 + 1 + 1 + 1 + 1 + 1 + 1 + 1 ≤ sizeLine) m = m := gd_pos (by decide)
theorem gdn23 {α : Type} (m : M α) : gd (0 + 1 + 1 + 1 + 1 + 1 + 1 + 1 + 1 + 1 + 1 + 1 + 1 + 1 + 1 + 1 + 1 + 1 + 1 + 1 + 1 + 1 + 1 + 1 ≤ sizeLine) m = m := gd_pos (by decide)
theorem gdn24 {α : Type} (m : M α) : gd (0 + 1 + 1 + 1 + 1 + 1 + 1 + 1 + 1 + 1 + 1 + 1 + 1 + 1 + 1 + 1 + 1 + 1 + 1 + 1 + 1 + 1 + 1 + 1 + 1 ≤ sizeLine) m = m := gd_pos (by decide)
theorem gd_tt {α : Type} {m : M α} {inst : Decidable (true = true)} : @gd α (true = true) inst m = m := @gd_pos α (true = true) inst m rfl
end L2
set_option maxHeartbeats 1000000
/-! running the mirror: comprehensions, walks, comparisons -/
namespace L2
open PySem
theorem optL_map {α : Type} {f : W → Option α} {g : α → W} (hf : ∀ a, f (g a) = some a) : ∀ l : List α, optL f (l.map g) = some l
  | [] => rfl
  | a :: l => by
    show (match f (g a), optL f (l.map g) with
      | some b, some r => some (b :: r)
      | _, _ => none) = _
    rw [hf, optL_map hf l]
theorem optL_mapD {β : Type} {α : Type} {f : W → Option β} {g : α → W} {k : α → β} (hf : ∀ a, f (g a) = some (k a)) : ∀ l : List α, optL f (l.map g) = some (l.map k)
  | [] => rfl
  | a :: l => by
    show (match f (g a), optL f (l.map g) with
      | some b, some r => some (b :: r)
      | _, _ => none) = _
    rw [hf, optL_mapD hf l]; rfl
theorem vsOf_map {α : Type} {g : α → W} {k : α → V} (hf : ∀ a, vOf (g a) = some (k a)) : ∀ l : List α, vsOf (l.map g) = some (l.map k)
  | [] => rfl
  | a :: l => by
    show (match vOf (g a), vsOf (l.map g) with
      | some v, some vs => some (v :: vs)
      | _, _ => none) = _
    rw [hf, vsOf_map hf l]; rfl
theorem joinW_eq {sep : Str} {ts : List Str} (h : (ts.map (·.length)).sum + ts.length * sep.length ≤ sizeLine) : joinW (.str sep) [.tl (ts.map W.str)] = pr (.str (Str.join sep ts)) := by
  have e : joinW (.str sep) [.tl (ts.map W.str)] = (match optL sOf (ts.map W.str) with
    | some (ts : List Str) => gd ((ts.map (fun z : Str => z.length)).sum + ts.length * sep.length ≤ sizeLine) (pr (W.str (Str.join sep ts)))
    | none => no) := rfl
  rw [e, optL_map (f := sOf) (g := W.str) (fun a => rfl)]
  exact gd_pos h
/-! ### == of lists -/
theorem canAll {α : Type} {k : α → PyData} : ∀ (l : List α), (∀ a ∈ l, (k a).canLay0 = true) → PyData.canLayAll0 (l.map k) = true
  | [], _ => by rw [List.map_nil, PyData.canLayAll0]
  | a :: l, h => by rw [List.map_cons, PyData.canLayAll0, h a List.mem_cons_self, canAll l fun b hb => h b (List.mem_cons_of_mem _ hb)]; rfl
/-! ### texts -/
theorem notIn_strs {x : Str} {ss : List Str} : notInW (.str x) (.tl (ss.map W.str)) = pr (.bl (!decide (x ∈ ss))) := by
  funext h
  unfold notInW
  have e : inB (.str x) (.tl (ss.map W.str)) h = some (decide (x ∈ ss)) := by
    show (match vOf (.str x), vsOf (ss.map W.str) with
      | some v, some vs => some (inV v vs)
      | _, _ => none) = _
    rw [vsOf_map (k := V.str) (fun a => rfl)]
    show some (inV (.str x) (ss.map V.str)) = _
    congr 1
    unfold inV
    rw [Bool.eq_iff_iff, List.any_eq_true, decide_eq_true_eq]
    constructor
    · rintro ⟨v, hv, q⟩
      obtain ⟨y, hy, rfl⟩ := List.mem_map.mp hv
      have : y = x := by simpa [eqV] using q
      subst this; exact hy
    · intro q
      exact ⟨.str x, List.mem_map.mpr ⟨x, q, rfl⟩, by simp [eqV]⟩
  rw [e]; rfl
/-! ### walks that change nothing -/
end L2
set_option maxHeartbeats 1000000
/-! the mirror: enumerate over tuples, find -/
namespace L2
open PySem PySem.Spec PyProof.Rows
section
variable {X : Cx} {E : XK} {p pos : Pos}
variable {o e : Expr} {apos cpos : Pos} {fo : Env' → M W} {l : Env' → M (List W)}
end
end L2
set_option maxHeartbeats 1000000
/-! running the mirror: what holds behind -/
namespace L2
open PySem
/-- not by reflexivity, so that the kernel compares no runs -/
theorem bd_prN {α β : Type} (a : α) (g : α → M β) : bd (pr a) g = g a := funext fun h => bd_ok (f := pr a) (a := a) (h := h) (h' := h) rfl
def Ok {α : Type} (m : M α) (h : List Ob) (Q : α → List Ob → Prop) : Prop := ∃ a h', m h = .ok a h' ∧ Q a h'
section
variable {α β : Type} {m : M α} {k : α → M β} {h h' : List Ob} {a : α}
theorem Ok.imp {P Q : α → List Ob → Prop} (p : Ok m h P) (q : ∀ a h', P a h' → Q a h') : Ok m h Q := let ⟨a, h', e, r⟩ := p; ⟨a, h', e, q a h' r⟩
theorem ok_bd {P : α → List Ob → Prop} {Q : β → List Ob → Prop} (p : Ok m h P) (q : ∀ a h', P a h' → Ok (k a) h' Q) : Ok (bd m k) h Q := by
  obtain ⟨a, h', e, r⟩ := p
  obtain ⟨b, h2, e2, r2⟩ := q a h' r
  exact ⟨b, h2, (bd_ok e).trans e2, r2⟩
theorem ok_bdo {Q : β → List Ob → Prop} (e : m h = .ok a h') (q : Ok (k a) h' Q) : Ok (bd m k) h Q := by
  obtain ⟨b, h2, e2, r2⟩ := q
  exact ⟨b, h2, (bd_ok e).trans e2, r2⟩
theorem ok_pr {Q : α → List Ob → Prop} (q : Q a h) : Ok (pr a) h Q := ⟨a, h, rfl, q⟩
end
section
variable {β : Type} {h : List Ob} {Q : β → List Ob → Prop} {j : Nat} {l : List W}
theorem ok_ix {i : Int} {w : W} {k : W → M β} (e : h[j]? = some (.lst l)) (e2 : atI l i = some w) (q : Ok (k w) h Q) : Ok (bd (ixW (.loc j) (.int i)) k) h Q := by
  refine ok_bdo (a := w) (h' := h) ?_ q
  have d : dicOf (.loc j) h = none := by unfold dicOf; simp only [e]
  have lo : lstOf (.loc j) h = .ok l h := by unfold lstOf; simp only [e]
  have : ixO (.loc j) (.int i) h = some w := by
    unfold ixO
    simp only [d, lo, e2]
  unfold ixW
  rw [this]
theorem ok_app {w : W} {k : W → M β} (e : h[j]? = some (.lst l)) (z : l.length < sizeLine) (q : Ok (k .non) (h.set j (.lst (l ++ [w]))) Q) : Ok (bd (appendW (.loc j) [w]) k) h Q := by
  refine ok_bdo (a := .non) (h' := h.set j (.lst (l ++ [w]))) ?_ q
  unfold appendW
  simp only [e, if_pos z]
theorem ok_isL {k : W → M β} (e : h[j]? = some (.lst l)) (q : Ok (k (.loc j)) h Q) : Ok (bd (isL (.loc j)) k) h Q := by
  refine ok_bdo (a := .loc j) (h' := h) ?_ q
  unfold isL
  simp only [e]
theorem ok_new {k : W → M β} (q : Ok (k (.loc h.length)) (h ++ [.lst l]) Q) : Ok (bd (newW l) k) h Q := ok_bdo (a := .loc h.length) (h' := h ++ [.lst l]) rfl q
end
theorem rng1_int {i : Int} (h0 : -(2 ^ 62) ≤ i) (h1 : i < 2 ^ 62) : rng1 [.int i] = pr ⟨intsW 0 i.toNat, fun _ => True⟩ := gd_pos ⟨h0, h1⟩
/-! ### for -/
theorem for_ok {G : List Ob → Prop} {t : W → Env' → Option Env'} {g : Env' → M Fl} (I : Nat → Env' → List Ob → Prop) (l : List W) (hG : ∀ i ρ h, I i ρ h → G h)
    (hs : ∀ i w ρ h, l[i]? = some w → I i ρ h → ∃ r, t w ρ = some r ∧ Ok (g r) h fun x h' => ∃ r', x = .nx r' ∧ I (i + 1) r' h') :
    ∀ (m : List W) (n : Nat) (ρ : Env') (h : List Ob), l.drop n = m → n ≤ l.length → I n ρ h → Ok (forM G t g m ρ) h fun x h' => ∃ r', x = .nx r' ∧ I l.length r' h'
  | [], n, ρ, h, e, hn, i => by
    have : l.length ≤ n := List.drop_eq_nil_iff.mp e
    have hn : n = l.length := by omega
    subst hn
    refine ⟨.nx ρ, h, ?_, ρ, rfl, i⟩
    unfold forM
    rw [gdh_pos (hG _ _ _ i)]; rfl
  | w :: m, n, ρ, h, e, hn, i => by
    have hw : l[n]? = some w := by
      have := congrArg List.head? e
      rw [List.head?_drop, List.head?_cons] at this
      exact this
    have hl : n < l.length := (List.getElem?_eq_some_iff.mp hw).1
    have em : l.drop (n + 1) = m := by rw [← List.tail_drop, e]; rfl
    obtain ⟨r, e1, x, h', e2, r', rfl, i'⟩ := hs n w ρ h hw i
    obtain ⟨y, h2, e3, q⟩ := for_ok I l hG hs m (n + 1) r' h' em hl i'
    refine ⟨y, h2, ?_, q⟩
    unfold forM
    rw [gdh_pos (hG _ _ _ i), e1]
    dsimp only
    rw [bd_ok e2]
    exact e3
theorem ok_for {β : Type} {G : List Ob → Prop} {t : W → Env' → Option Env'} {g : Env' → M Fl} {l : List W} {ρ : Env'} {h : List Ob} {k : Fl → M β} {Q : β → List Ob → Prop} (I : Nat → Env' → List Ob → Prop) (h0 : I 0 ρ h) (hG : ∀ i ρ h, I i ρ h → G h)
    (hs : ∀ i w ρ h, l[i]? = some w → I i ρ h → ∃ r, t w ρ = some r ∧ Ok (g r) h fun x h' => ∃ r', x = .nx r' ∧ I (i + 1) r' h') (hd : ∀ ρ h, I l.length ρ h → Ok (k (.nx ρ)) h Q) : Ok (bd (forM G t g l ρ) k) h Q :=
  ok_bd (for_ok I l hG hs l 0 ρ h rfl (Nat.zero_le _) h0) fun x h' ⟨r', e, i⟩ => by subst e; exact hd r' h' i
/-! ### comprehensions without a condition -/
/-! ### places -/
/-- only the place j has changed -/
structure Fr (j : Nat) (h h' : List Ob) : Prop where
  len : h'.length = h.length
  eq : ∀ i, i ≠ j → h'[i]? = h[i]?
theorem set_get {j : Nat} {h : List Ob} {a b : Ob} (e : h[j]? = some a) : (h.set j b)[j]? = some b := by
  rw [List.getElem?_set_self (List.getElem?_eq_some_iff.mp e).1]
theorem get_lt {j : Nat} {h : List Ob} {a : Ob} (e : h[j]? = some a) : j < h.length := (List.getElem?_eq_some_iff.mp e).1
theorem get_app {j : Nat} {h r : List Ob} {a : Ob} (e : h[j]? = some a) : (h ++ r)[j]? = some a := by
  rw [List.getElem?_append_left (get_lt e)]; exact e
theorem get_end {h : List Ob} {a : Ob} : (h ++ [a])[h.length]? = some a := by simp
/-! ### the least -/
theorem least {p : Nat → Prop} : ∀ {n : Nat}, (∃ r, r < n ∧ p r) → ∃ r, r < n ∧ p r ∧ ∀ j, j < r → ¬ p j
  | 0, ⟨_, h, _⟩ => absurd h (Nat.not_lt_zero _)
  | n + 1, ⟨r, h, q⟩ => by
    by_cases z : ∃ r, r < n ∧ p r
    · obtain ⟨r, h1, h2, h3⟩ := least z
      exact ⟨r, by omega, h2, h3⟩
    · have : r = n := by
        by_cases e : r < n
        · exact absurd ⟨r, e, q⟩ z
        · omega
      subst this
      exact ⟨r, h, q, fun j hj hp => z ⟨j, hj, hp⟩⟩
end L2
namespace L2
open PySem
theorem ix0 (a : W) (l : List W) : ixW (.tup (a :: l)) (.int 0) = pr a := ixW_tup (atI_ofW (by decide) rfl)
theorem ix1 (a b : W) (l : List W) : ixW (.tup (a :: b :: l)) (.int 1) = pr b := ixW_tup (atI_ofW (by decide) rfl)
theorem ix2 (a b c : W) (l : List W) : ixW (.tup (a :: b :: c :: l)) (.int 2) = pr c := ixW_tup (atI_ofW (by decide) rfl)
theorem cut_map {α : Type} (f : α → W) (l : List α) (lo hi : Option Int) : cutW (l.map f) lo hi = (cutW l lo hi).map f := by
  unfold cutW
  rw [List.length_map, List.map_take, List.map_drop]
end L2
/-! names, numbers, expressions: the mathematics -/
namespace Wd
open PySem L2
def LET : Str := "abcdefghijklmnopqrstuvwxyz"
def FIG : Str := "0123456789"
def isLet (c : Nat) : Bool := decide (c ∈ LET.cps.toList)
def isFig (c : Nat) : Bool := decide (c ∈ FIG.cps.toList)
def isAN (c : Nat) : Bool := decide (c ∈ (LET ++ FIG).cps.toList)
theorem let_list : LET.cps.toList = List.range' 97 26 := by decide +kernel
theorem fig_list : FIG.cps.toList = List.range' 48 10 := by decide +kernel
theorem isLet_iff {c : Nat} : isLet c = true ↔ 97 ≤ c ∧ c ≤ 122 := by
  unfold isLet
  rw [decide_eq_true_eq, let_list, List.mem_range'_1]
  omega
theorem isFig_iff {c : Nat} : isFig c = true ↔ 48 ≤ c ∧ c ≤ 57 := by
  unfold isFig
  rw [decide_eq_true_eq, fig_list, List.mem_range'_1]
  omega
theorem isAN_eq (c : Nat) : isAN c = (isLet c || isFig c) := by
  rw [Bool.eq_iff_iff, Bool.or_eq_true, isLet_iff, isFig_iff]
  unfold isAN
  have e : (LET ++ FIG).cps.toList = LET.cps.toList ++ FIG.cps.toList := by decide +kernel
  rw [decide_eq_true_eq, e, List.mem_append, let_list, fig_list, List.mem_range'_1, List.mem_range'_1]
  omega
def taken : List Str := ["box", "block", "put", "say", "ask", "go", "if", "else", "table", "stop"]
def nameOk (w : Str) : Bool := decide (1 ≤ w.length ∧ w.length ≤ 8) && (w.cps.toList.all isLet && !decide (w ∈ taken))
def numOk (w : Str) : Bool := decide (1 ≤ w.length ∧ w.length ≤ 3) && (!(decide (w.cps.toList.head? = some 48) && !decide (w = "0")) && w.cps.toList.all isFig)
def numVal (w : Str) : Int := ((PySem.NumText.digitsVal w.cps.toList : Nat) : Int)
inductive Exp where
  | num (n : Int)
  | box (x : Str)
  | bin (s : Str) (l r : Exp)
  deriving DecidableEq
def leafP (l : List Nat) : Option (Exp × List Nat) :=
  if nameOk ⟨(l.takeWhile isAN).toArray⟩ = true then some (.box ⟨(l.takeWhile isAN).toArray⟩, l.dropWhile isAN)
  else if numOk ⟨(l.takeWhile isAN).toArray⟩ = true then some (.num (numVal ⟨(l.takeWhile isAN).toArray⟩), l.dropWhile isAN) else none
def chain (f : List Nat → Option (Exp × List Nat)) (ops : List Nat) : Nat → Exp → List Nat → Option (Exp × List Nat)
  | 0, e, l => some (e, l)
  | _ + 1, e, [] => some (e, [])
  | n + 1, e, c :: r => if c ∈ ops then (match f r with
      | none => none
      | some (e2, r2) => chain f ops n (.bin ⟨#[c]⟩ e e2) r2) else some (e, c :: r)
def parts (f : List Nat → Option (Exp × List Nat)) (ops : List Nat) (l : List Nat) : Option (Exp × List Nat) := match f l with
  | none => none
  | some (e, r) => chain f ops r.length e r
def opsF : List Nat := [42]
def opsT : List Nat := [43, 45]
def bracketP (f : List Nat → Option (Exp × List Nat)) (r : List Nat) : Option (Exp × List Nat) := match f r with
  | some (e, 41 :: r2) => some (e, r2)
  | _ => none
def factorP : Nat → List Nat → Option (Exp × List Nat)
  | 0, l => if l.head? = some 40 then none else leafP l
  | m + 1, l => if l.head? = some 40 then bracketP (parts (parts (factorP m) opsF) opsT) l.tail else leafP l
def factorsP (m : Nat) : List Nat → Option (Exp × List Nat) := parts (factorP m) opsF
def termsP (m : Nat) : List Nat → Option (Exp × List Nat) := parts (factorsP m) opsT
def exprP (w : Str) : Option Exp := if w.length > 60 then none else match termsP 5 w.cps.toList with
  | some (e, []) => some e
  | _ => none
/-- what is left is an end of what was there -/
def Suf (f : List Nat → Option (Exp × List Nat)) : Prop := ∀ l e r, f l = some (e, r) → r <:+ l
theorem suf_leaf : Suf leafP := fun l e r h => by
  unfold leafP at h
  split at h
  · cases h; exact List.dropWhile_suffix _
  · split at h
    · cases h; exact List.dropWhile_suffix _
    · cases h
theorem suf_chain {f : List Nat → Option (Exp × List Nat)} {ops : List Nat} (hf : Suf f) : ∀ (n : Nat) (e : Exp) (l : List Nat) (e' : Exp) (r : List Nat), chain f ops n e l = some (e', r) → r <:+ l
  | 0, e, l, e', r, h => by cases h; exact List.suffix_refl _
  | _ + 1, e, [], e', r, h => by cases h; exact List.suffix_refl _
  | n + 1, e, c :: l, e', r, h => by
    unfold chain at h
    split at h
    · split at h
      · cases h
      · rename_i e2 r2 hf2
        exact (suf_chain hf n _ r2 e' r h).trans ((hf l e2 r2 hf2).trans (List.suffix_cons c l))
    · cases h; exact List.suffix_refl _
theorem suf_parts {f : List Nat → Option (Exp × List Nat)} {ops : List Nat} (hf : Suf f) : Suf (parts f ops) := fun l e r h => by
  unfold parts at h
  split at h
  · cases h
  · rename_i e1 r1 h1
    exact (suf_chain hf _ _ _ _ _ h).trans (hf l e1 r1 h1)
theorem suf_bracket {f : List Nat → Option (Exp × List Nat)} (hf : Suf f) : Suf (bracketP f) := fun l e r h => by
  unfold bracketP at h
  split at h
  · rename_i e1 r1 h1
    cases h
    exact (List.suffix_cons 41 r).trans (hf l e _ h1)
  · cases h
theorem suf_factor : ∀ m, Suf (factorP m)
  | 0 => fun l e r h => by
    unfold factorP at h
    split at h
    · cases h
    · exact suf_leaf l e r h
  | m + 1 => fun l e r h => by
    unfold factorP at h
    split at h
    · exact (suf_bracket (suf_parts (suf_parts (suf_factor m))) _ e r h).trans (List.tail_suffix l)
    · exact suf_leaf l e r h
theorem suf_factors (m : Nat) : Suf (factorsP m) := suf_parts (suf_factor m)
theorem suf_terms (m : Nat) : Suf (termsP m) := suf_parts (suf_factors m)
theorem suf_drop {w l r : List Nat} {p : Nat} (hl : l = w.drop p) (h : r <:+ l) : r = w.drop (w.length - r.length) ∧ r.length ≤ l.length := by
  subst hl
  refine ⟨List.suffix_iff_eq_drop.mp (h.trans (List.drop_suffix p w)), h.length_le⟩
end Wd
/-! written expressions are read -/
namespace Wd
open PySem L2
theorem chain_fuel {f : List Nat → Option (Exp × List Nat)} {ops : List Nat} (hf : Suf f) : ∀ (n : Nat) (e : Exp) (l : List Nat), l.length ≤ n → chain f ops n e l = chain f ops l.length e l
  | 0, e, [], _ => rfl
  | 0, e, c :: r, h => by simp at h
  | n + 1, e, [], _ => rfl
  | n + 1, e, c :: r, h => by
    rw [List.length_cons] at h ⊢
    unfold chain
    split
    · cases hr : f r with
      | none => rfl
      | some er =>
        obtain ⟨e2, r2⟩ := er
        have l2 := (hf r e2 r2 hr).length_le
        show chain f ops n (.bin ⟨#[c]⟩ e e2) r2 = chain f ops r.length (.bin ⟨#[c]⟩ e e2) r2
        rw [chain_fuel hf n _ r2 (by omega), chain_fuel hf r.length _ r2 l2]
    · rfl
theorem chain_cons (f : List Nat → Option (Exp × List Nat)) (ops : List Nat) (n : Nat) (e : Exp) (c : Nat) (r : List Nat) : chain f ops (n + 1) e (c :: r) = if c ∈ ops then (match f r with
      | none => none
      | some (e2, r2) => chain f ops n (.bin ⟨#[c]⟩ e e2) r2) else some (e, c :: r) := rfl
theorem chain_nil {f : List Nat → Option (Exp × List Nat)} {ops : List Nat} {e : Exp} {n : Nat} {l : List Nat} (h : ∀ c r, l = c :: r → ¬ c ∈ ops) : chain f ops n e l = some (e, l) := by
  cases n with
  | zero => rfl
  | succ n => cases l with
    | nil => rfl
    | cons c r => unfold chain; rw [if_neg (h c r rfl)]
def noAN (l : List Nat) : Prop := ∀ c r, l = c :: r → isAN c = false
def noStar (l : List Nat) : Prop := ∀ c r, l = c :: r → c ≠ 42
/-- a text that reads as e, its brackets d deep -/
def AtomT (W : List Nat) (e : Exp) (d : Nat) : Prop := ∀ m rest, noAN rest → factorP m (W ++ rest) = if d ≤ m then some (e, rest) else none
def ProdT (W : List Nat) (e : Exp) (d : Nat) : Prop := ∀ m rest, noAN rest → factorsP m (W ++ rest) = if d ≤ m then chain (factorP m) opsF rest.length e rest else none
def SumT (W : List Nat) (e : Exp) (d : Nat) : Prop := ∀ m rest, noAN rest → noStar rest → termsP m (W ++ rest) = if d ≤ m then chain (factorsP m) opsT rest.length e rest else none
theorem AtomT.prod {W : List Nat} {e : Exp} {d : Nat} (h : AtomT W e d) : ProdT W e d := fun m rest hr => by
  unfold factorsP parts
  rw [h m rest hr]
  by_cases hd : d ≤ m
  · rw [if_pos hd, if_pos hd]
  · rw [if_neg hd, if_neg hd]
theorem star_stop {l : List Nat} (h : noStar l) : ∀ c r, l = c :: r → ¬ c ∈ opsF := fun c r e hm => h c r e (by simpa [opsF] using hm)
theorem ProdT.sum {W : List Nat} {e : Exp} {d : Nat} (h : ProdT W e d) : SumT W e d := fun m rest hr hs => by
  unfold termsP parts
  rw [h m rest hr]
  by_cases hd : d ≤ m
  · rw [if_pos hd, if_pos hd, chain_nil (star_stop hs)]
  · rw [if_neg hd, if_neg hd]
theorem noAN_of {c : Nat} {r : List Nat} (h : isAN c = false) : noAN (c :: r) := fun c' r' e => by cases e; exact h
theorem noStar_of {c : Nat} {r : List Nat} (h : c ≠ 42) : noStar (c :: r) := fun c' r' e => by cases e; exact h
theorem an_no {c : Nat} (h : c = 40 ∨ c = 41 ∨ c = 42 ∨ c = 43 ∨ c = 45) : isAN c = false := by
  rw [isAN_eq]
  cases h1 : isLet c with
  | true => have := isLet_iff.mp h1; omega
  | false =>
    cases h2 : isFig c with
    | true => have := isFig_iff.mp h2; omega
    | false => rfl
theorem SumT.bracket {W : List Nat} {e : Exp} {d : Nat} (h : SumT W e d) : AtomT (40 :: (W ++ [41])) e (d + 1) := fun m rest hr => by
  cases m with
  | zero =>
    rw [if_neg (by omega)]
    rfl
  | succ m =>
    show (if (some 40 : Option Nat) = some 40 then bracketP (termsP m) ((W ++ [41]) ++ rest) else leafP _) = _
    rw [if_pos rfl]
    unfold bracketP
    rw [List.append_assoc]
    show (match termsP m (W ++ (41 :: rest)) with | some (e, 41 :: r2) => some (e, r2) | _ => none) = _
    rw [h m (41 :: rest) (noAN_of (an_no (by omega))) (noStar_of (by decide))]
    by_cases hd : d ≤ m
    · rw [if_pos hd, if_pos (by omega), chain_nil (fun c r e hm => by cases e; simp [opsT] at hm)]; rfl
    · rw [if_neg hd, if_neg (by omega)]
theorem SumT.bin {Wl Wr : List Nat} {l r : Exp} {dl dr c : Nat} (hl : SumT Wl l dl) (hr : ProdT Wr r dr) (hc : c = 43 ∨ c = 45) : SumT (Wl ++ c :: Wr) (.bin ⟨#[c]⟩ l r) (max dl dr) := fun m rest hn hs => by
  have e0 : (Wl ++ c :: Wr) ++ rest = Wl ++ (c :: (Wr ++ rest)) := by simp
  rw [e0, hl m _ (noAN_of (an_no (by omega))) (noStar_of (by omega))]
  by_cases h1 : dl ≤ m
  · rw [if_pos h1, List.length_cons]
    rw [chain_cons, if_pos (by simp [opsT]; omega), hr m rest hn]
    by_cases h2 : dr ≤ m
    · rw [if_pos h2, if_pos (by omega), chain_nil (star_stop hs)]
      exact chain_fuel (suf_factors m) (Wr ++ rest).length _ rest (by rw [List.length_append]; omega)
    · rw [if_neg h2, if_neg (by omega)]
  · rw [if_neg h1, if_neg (by omega)]
theorem ProdT.bin {Wl Wr : List Nat} {l r : Exp} {dl dr : Nat} (hl : ProdT Wl l dl) (hr : AtomT Wr r dr) : ProdT (Wl ++ 42 :: Wr) (.bin ⟨#[42]⟩ l r) (max dl dr) := fun m rest hn => by
  have e0 : (Wl ++ 42 :: Wr) ++ rest = Wl ++ (42 :: (Wr ++ rest)) := by simp
  rw [e0, hl m _ (noAN_of (an_no (by omega)))]
  by_cases h1 : dl ≤ m
  · rw [if_pos h1, List.length_cons]
    rw [chain_cons, if_pos (by simp [opsF]), hr m rest hn]
    by_cases h2 : dr ≤ m
    · rw [if_pos h2, if_pos (by omega)]
      exact chain_fuel (suf_factor m) (Wr ++ rest).length _ rest (by rw [List.length_append]; omega)
    · rw [if_neg h2, if_neg (by omega)]
  · rw [if_neg h1, if_neg (by omega)]
theorem takeWhile_app {p : Nat → Bool} : ∀ {W rest : List Nat}, W.all p = true → (∀ c r, rest = c :: r → p c = false) → (W ++ rest).takeWhile p = W ∧ (W ++ rest).dropWhile p = rest
  | [], rest, _, h => by
    cases rest with
    | nil => exact ⟨rfl, rfl⟩
    | cons c r =>
      have := h c r rfl
      simp [List.takeWhile_cons, List.dropWhile_cons, this]
  | c :: W, rest, hw, h => by
    rw [List.all_cons, Bool.and_eq_true] at hw
    obtain ⟨a, b⟩ := takeWhile_app (W := W) hw.2 h
    simp [List.takeWhile_cons, List.dropWhile_cons, hw.1, a, b]
theorem box_text {z : Str} (h : nameOk z = true) : AtomT z.cps.toList (.box z) 0 := fun m rest hr => by
  have h' := h
  unfold nameOk at h'
  simp only [Bool.and_eq_true, decide_eq_true_eq] at h'
  obtain ⟨⟨h1, h2⟩, h3, h4⟩ := h'
  have an : z.cps.toList.all isAN = true := by
    rw [List.all_eq_true] at h3 ⊢
    intro c hc
    rw [isAN_eq, h3 c hc]; rfl
  obtain ⟨t1, t2⟩ := takeWhile_app an hr
  obtain ⟨c0, r0, e0⟩ : ∃ c0 r0, z.cps.toList = c0 :: r0 := by
    cases hz : z.cps.toList with
    | nil => have : z.length = 0 := by show z.cps.size = 0; rw [← Array.length_toList, hz]; rfl
             omega
    | cons a b => exact ⟨a, b, rfl⟩
  have hd : ¬ (z.cps.toList ++ rest).head? = some 40 := by
    rw [e0]
    intro h40
    have : c0 = 40 := by simpa using h40
    rw [List.all_eq_true] at an
    have a0 := an c0 (by rw [e0]; exact List.mem_cons_self)
    rw [this, an_no (by omega)] at a0
    cases a0
  have ez : (⟨z.cps.toList.toArray⟩ : Str) = z := by cases z; simp
  have lf : factorP m (z.cps.toList ++ rest) = leafP (z.cps.toList ++ rest) := by
    cases m <;> (unfold factorP; rw [if_neg hd])
  rw [lf, if_pos (Nat.zero_le _)]
  unfold leafP
  rw [t1, t2, ez, if_pos h]
theorem num_text' {z : Str} (h : numOk z = true) : AtomT z.cps.toList (.num (numVal z)) 0 := fun m rest hr => by
  have h' := h
  unfold numOk at h'
  simp only [Bool.and_eq_true, decide_eq_true_eq] at h'
  obtain ⟨⟨h1, h2⟩, _, h3⟩ := h'
  have an : z.cps.toList.all isAN = true := by
    rw [List.all_eq_true] at h3 ⊢
    intro c hc
    rw [isAN_eq, h3 c hc, Bool.or_true]
  obtain ⟨t1, t2⟩ := takeWhile_app an hr
  obtain ⟨c0, r0, e0⟩ : ∃ c0 r0, z.cps.toList = c0 :: r0 := by
    cases hz : z.cps.toList with
    | nil => have : z.length = 0 := by show z.cps.size = 0; rw [← Array.length_toList, hz]; rfl
             omega
    | cons a b => exact ⟨a, b, rfl⟩
  have hd : ¬ (z.cps.toList ++ rest).head? = some 40 := by
    rw [e0]
    intro h40
    have : c0 = 40 := by simpa using h40
    rw [List.all_eq_true] at an
    have a0 := an c0 (by rw [e0]; exact List.mem_cons_self)
    rw [this, an_no (by omega)] at a0
    cases a0
  have ez : (⟨z.cps.toList.toArray⟩ : Str) = z := by cases z; simp
  have nn : ¬ nameOk z = true := fun hn => by
    unfold nameOk at hn
    simp only [Bool.and_eq_true] at hn
    have a := List.all_eq_true.mp hn.2.1 c0 (by rw [e0]; exact List.mem_cons_self)
    have b := List.all_eq_true.mp h3 c0 (by rw [e0]; exact List.mem_cons_self)
    have a := isLet_iff.mp a
    have b := isFig_iff.mp b
    omega
  have lf : factorP m (z.cps.toList ++ rest) = leafP (z.cps.toList ++ rest) := by
    cases m <;> (unfold factorP; rw [if_neg hd])
  rw [lf, if_pos (Nat.zero_le _)]
  unfold leafP
  rw [t1, t2, ez, if_neg nn, if_pos h]
theorem SumT.expr {z : Str} {e : Exp} {d : Nat} (h : SumT z.cps.toList e d) : exprP z = if z.length > 60 ∨ d > 5 then none else some e := by
  unfold exprP
  by_cases h1 : z.length > 60
  · rw [if_pos h1, if_pos (.inl h1)]
  · rw [if_neg h1]
    have q := h 5 [] (fun c r e => by cases e) (fun c r e => by cases e)
    rw [List.append_nil] at q
    rw [q]
    by_cases h2 : d ≤ 5
    · rw [if_pos h2, if_neg (by omega)]; rfl
    · rw [if_neg h2, if_pos (.inr (by omega))]
/-! the deepest bracket of a text, as a law reckons it -/
end Wd
/-! a walk from part to part knows what the reader takes -/
namespace Wd
open PySem L2
/-- 0: another sign, 1: a letter, 2: a figure -/
def kindN (c : Nat) : Nat := if isFig c = true then 2 else if isLet c = true then 1 else 0
abbrev Tk := Nat × List Nat
def toks : List Nat → List Tk
  | [] => []
  | c :: r => match toks r with
    | [] => [(kindN c, [c])]
    | (k, t) :: ts => if kindN c ≠ 0 ∧ k = kindN c then (k, c :: t) :: ts else (kindN c, [c]) :: (k, t) :: ts
/-! the walk -/
/-! from level to level -/
end Wd
/-! words without signs of sums and products -/
namespace Wd
open PySem L2
/-! a bracket behind it -/
/-! what is due, as the law reckons it -/
end Wd
/-! words' promises by the mirror -/
namespace Wd
open PySem L2
def expW : Exp → W
  | .num n => .tup [.str "number", .int n]
  | .box x => .tup [.str "box", .str x]
  | .bin s l r => .tup [.str s, expW l, expW r]
def fIsName (ws : List W) : M W := match ws with
  | [.str z] => gd (z.length ≤ sizeLine) (pr (.bl (nameOk z)))
  | _ => no
def fExprX (ws : List W) : M W := match ws with
  | [.str z] => gd (z.length ≤ sizeLine) (match exprP z with
    | some e => pr (expW e)
    | none => fun h => .ex "NoRow" h)
  | _ => no
def fExpr0 (ws : List W) : M W := match ws with
  | [.str z] => gd (z.length ≤ sizeLine) (match exprP z with
    | some e => pr (expW e)
    | none => no)
  | _ => no
end Wd
namespace Q
open PySem L2
def top (i : Nat) : Stmt := PySem.Challenge.pw_blockfall_k05_whole_words_worth.main.body.getD i (.Pass ⟨0, 0, 0, 0⟩)
abbrev sIsName : Stmt := top 11
abbrev sIsNum : Stmt := top 12
abbrev sSInit : Stmt := inClass (top 13) 0
abbrev sSDone : Stmt := inClass (top 13) 1
abbrev sSStands : Stmt := inClass (top 13) 2
abbrev sSTake : Stmt := inClass (top 13) 3
abbrev sSRun : Stmt := inClass (top 13) 4
abbrev sExpr : Stmt := top 14
abbrev sTerms : Stmt := top 15
abbrev sFactors : Stmt := top 16
abbrev sFactor : Stmt := top 17
abbrev sBracket : Stmt := top 18
abbrev sLaw : Stmt := top 25
end Q
namespace Q
open PySem L2 Wd
/-! ### what the top holds -/
def takenV : List V := taken.map V.str
structure Txt (K : PySem.W.Frag) (mg : Str → Option Value) (CS CN : Addr) : Prop where
  cl : Cls K CS
  nw : NoAttr K CS "word"
  np : NoAttr K CS "place"
  mgS : mg "Signs" = some (.ref CS)
  mgN : mg "NoRow" = some (.ref CN)
  exN : PySem.W.excIn K CN bmVal "ValueError.__new__" = true
  len : mg "len" = none
  all : mg "all" = none
  int : mg "int" = none
  let_ : ∃ t, mg "LETTERS" = some (.str LET t)
  fig : ∃ t, mg "FIGURES" = some (.str FIG t)
  tak : ∃ a, mg "TAKEN_WORDS" = some (.ref a) ∧ ∀ H : Hp, SqT K H a takenV
  n8 : ∃ t, mg "LONGEST_NAME" = some (.int 8 t)
  n3 : ∃ t, mg "LONGEST_NUMBER" = some (.int 3 t)
  n60 : ∃ t, mg "LONGEST_EXPRESSION" = some (.int 60 t)
  n5 : ∃ t, mg "DEEPEST_BRACKET" = some (.int 5 t)
theorem same_new {H : Hp} {p : Addr} (h : H p = none) (o : HO) : Same H (upd H p o) := fun b u q => by rw [upd_ne (ne_of_none q h)]; exact q
theorem small {n : Nat} (h : n ≤ 1000) : n ≤ sizeLine := Nat.le_of_lt (small1000 h)
theorem take_snoc {α : Type} {l : List α} {i : Nat} {x : α} (h : l[i]? = some x) : l.take (i + 1) = l.take i ++ [x] := by
  obtain ⟨hi, e⟩ := List.getElem?_eq_some_iff.mp h
  rw [List.take_succ, h]
  rfl
theorem atI_of {α : Type} {xs : List α} {i : Int} {v : α} (h0 : 0 ≤ i) (h : xs[i.toNat]? = some v) : atI xs i = some v := by
  have q := atI_nat h
  have e : ((i.toNat : Nat) : Int) = i := by omega
  rw [e] at q; exact q
theorem len_list (w : Str) : w.cps.toList.length = w.length := by simp [Str.length]
theorem yesT {σ : St} {H : Hp} {A B : Hp → Prop} (h : A H) : tYes σ H (fun b H3 => if b = true then A H3 else B H3) := by
  show if true = true then A H else B H
  rw [if_pos rfl]; exact h
section
variable {P : Program} {w : World} {K : PySem.W.Frag} {mg : Str → Option Value} {base : Heap} {f CS CN : Addr} {fd : FuncData}
/-! ### is_name -/
def spName : Sp := fun vs H Q _ => ∃ z : Str, vs = [.str z] ∧ z.length ≤ sizeLine ∧ ∀ H', Same H H' → Q (.bl (nameOk z)) H'
theorem scName : FnScope ["word"] ["word"] (defScope sIsName) := ⟨rfl, rfl, rfl, by decide +kernel, rfl, by decide +kernel, by decide +kernel⟩
theorem ndName : ((["sign", ".0"] : List Str) ++ (["word"] : List Str).map (hid ["sign", ".0"])).Nodup := by decide +kernel
theorem inV_taken (z : Str) : inV (.str z) takenV = decide (z ∈ taken) := by
  unfold inV takenV
  rw [Bool.eq_iff_iff, List.any_eq_true, decide_eq_true_eq]
  constructor
  · rintro ⟨v, hv, h⟩
    obtain ⟨y, hy, rfl⟩ := List.mem_map.mp hv
    have : y = z := by simpa [eqV] using h
    subst this; exact hy
  · intro h
    exact ⟨.str z, List.mem_map.mpr ⟨z, h, rfl⟩, by simp [eqV]⟩
theorem flat_taken : takenV.all flatV = true := by decide +kernel
theorem ok_name (F : Fun K "is_name" "is_name" sIsName f fd) (T : Txt K mg CS CN) : FnOk P w K mg base CX0 1 f fd ["word"] spName := by
  refine F.ok scName (fun vs H Q E h => ?_) (fun cdv A outer s H vs Q E hr h => ?_)
  · obtain ⟨z, rfl, _⟩ := h
    rfl
  obtain ⟨z, rfl, hz, q⟩ := h
  obtain ⟨t8, h8⟩ := T.n8
  obtain ⟨tL, hL⟩ := T.let_
  obtain ⟨aT, hT, sT⟩ := T.tak
  refine ⟨_, pss_cons (ps_if (PW.pt (pw_or (pt_cmpR op_lt (pe_callB call_len_str rfl T.len PySem.boot_len (pa_cons (pv 0) pa_nil)) pe_int (nomark _))
      (pw_or1 (pt_cmpR op_gt (pe_callB call_len_str rfl T.len PySem.boot_len (pa_cons (pv 0) pa_nil)) (pe_glob (v := .int 8) rfl h8 ⟨_, rfl⟩) (nomark _))))) (pss_one (ps_ret pe_bl)) pss_nil)
    (pss_one (ps_ret (pe_and (pe_callB (call_all rfl) rfl T.all PyProof.Rows.boot_all (pa_cons (pe_comp (ls := ["sign", ".0"]) rfl (.of (defScope sIsName)) (pi_str (pv 0)) (fun _ _ _ _ => pg_name (i := 0) ndName rfl (Or.inl rfl) (.inr rfl)) (fun _ _ _ _ => pif_nil)
        (fun _ _ _ _ => pe_cmpR op_in_str (pv 0) (pe_glob (v := .str LET) rfl hL ⟨_, rfl⟩) (by with_unfolding_all rfl))) pa_nil))
      (pe_one (pe_cmpR op_notIn_seq (pv 0) (pe_glob (v := .ref aT) rfl hT rfl) (by with_unfolding_all rfl)))))), ?_⟩
  refine ⟨_, rfl, z, rfl, hz, _, _, rfl, rfl, _, rfl, ?_⟩
  have no : ¬ (1 ≤ z.length ∧ z.length ≤ 8) → nameOk z = false := fun h => by unfold nameOk; rw [decide_eq_false h]; rfl
  refine ite2 (fun c => ?_) (fun c => ?_)
  · have c1 : (z.length : Int) < 1 := of_decide_eq_true c
    refine iteT ?_
    have := q H (Same.refl _)
    rw [no (by omega)] at this
    exact this
  · have c1 : ¬ (z.length : Int) < 1 := of_decide_eq_false (Bool.eq_false_iff.mpr c)
    refine ⟨_, rfl, z, rfl, hz, _, _, rfl, rfl, _, rfl, ?_⟩
    refine ite2 (fun c => ?_) (fun c => ?_)
    · have c2 : (z.length : Int) > 8 := of_decide_eq_true c
      have := q H (Same.refl _)
      rw [no (by omega)] at this
      exact this
    · have c2 : ¬ (z.length : Int) > 8 := of_decide_eq_false (Bool.eq_false_iff.mpr c)
      have yes : nameOk z = (z.cps.toList.all isLet && !decide (z ∈ taken)) := by
        unfold nameOk
        rw [decide_eq_true (by omega : 1 ≤ z.length ∧ z.length ≤ 8)]; rfl
      refine ⟨rfl, _, rfl, z, rfl, comp_str (fun i ys H' => H' = H ∧ ys = ((z.cps.toList.take i).map isLet).map V.bl) ⟨rfl, rfl⟩ ?_ ?_⟩
      · rintro i c0 ys H' hc ⟨rfl, rfl⟩
        refine ⟨rfl, rfl, yesT ?_⟩
        refine ⟨_, rfl, _, _, rfl, rfl, ?_, rfl, ?_⟩
        · rw [List.length_map, List.length_map, List.length_take]
          exact small1000 (by rw [len_list]; omega)
        · rw [take_snoc hc, List.map_append, List.map_append, in_one]; rfl
      · rintro ys H' ⟨rfl, rfl⟩ D hD
        refine ⟨D, (z.cps.toList.take z.cps.size).map isLet, rfl, SqL.of upd_same, _, rfl, ?_⟩
        have ea : ((z.cps.toList.take z.cps.size).map isLet).all id = z.cps.toList.all isLet := by
          have : z.cps.size = z.cps.toList.length := by simp
          rw [this, List.take_length, List.all_map]; rfl
        rw [ea]
        cases hb : z.cps.toList.all isLet with
        | false =>
          refine iteF ?_
          have this : ∀ L, Q _ (upd H' D (.lst L)) := fun L => q _ (same_new hD _)
          rw [yes, hb] at this
          exact this _
        | true =>
          refine iteT ⟨_, rfl, aT, takenV, rfl, .inr (sT _), rfl, flat_taken, ?_⟩
          have this : ∀ L, Q _ (upd H' D (.lst L)) := fun L => q _ (same_new hD _)
          rw [yes, hb, ← inV_taken] at this
          exact this _
/-! ### is_number -/
def spNum : Sp := fun vs H Q _ => ∃ z : Str, vs = [.str z] ∧ z.length ≤ sizeLine ∧ ∀ H', Same H H' → Q (.bl (numOk z)) H'
theorem scNum : FnScope ["word"] ["word"] (defScope sIsNum) := ⟨rfl, rfl, rfl, by decide +kernel, rfl, by decide +kernel, by decide +kernel⟩
theorem ok_num (F : Fun K "is_number" "is_number" sIsNum f fd) (T : Txt K mg CS CN) : FnOk P w K mg base CX0 1 f fd ["word"] spNum := by
  refine F.ok scNum (fun vs H Q E h => ?_) (fun cdv A outer s H vs Q E hr h => ?_)
  · obtain ⟨z, rfl, _⟩ := h
    rfl
  obtain ⟨z, rfl, hz, q⟩ := h
  obtain ⟨t3, h3⟩ := T.n3
  obtain ⟨tL, hL⟩ := T.fig
  refine ⟨_, pss_cons (ps_if (PW.pt (pw_or (pt_cmpR op_lt (pe_callB call_len_str rfl T.len PySem.boot_len (pa_cons (pv 0) pa_nil)) pe_int (nomark _))
      (pw_or1 (pt_cmpR op_gt (pe_callB call_len_str rfl T.len PySem.boot_len (pa_cons (pv 0) pa_nil)) (pe_glob (v := .int 3) rfl h3 ⟨_, rfl⟩) (nomark _))))) (pss_one (ps_ret pe_bl)) pss_nil)
    (pss_cons (ps_if (PW.pt (pw_and (pt_cmpR op_eq (pe_ix ix_str (pv 0) pe_int (fun _ _ => rfl)) pe_str (nomark _)) (pw_and1 (pt_cmpR op_ne (pv 0) pe_str (nomark _))))) (pss_one (ps_ret pe_bl)) pss_nil)
    (pss_one (ps_ret (pe_callB (call_all rfl) rfl T.all PyProof.Rows.boot_all (pa_cons (pe_comp (ls := ["sign", ".0"]) rfl (.of (defScope sIsNum)) (pi_str (pv 0)) (fun _ _ _ _ => pg_name (i := 0) ndName rfl (Or.inl rfl) (.inr rfl)) (fun _ _ _ _ => pif_nil)
        (fun _ _ _ _ => pe_cmpR op_in_str (pv 0) (pe_glob (v := .str FIG) rfl hL ⟨_, rfl⟩) (by with_unfolding_all rfl))) pa_nil))))), ?_⟩
  refine ⟨_, rfl, z, rfl, hz, _, _, rfl, rfl, _, rfl, ?_⟩
  have no : ¬ (1 ≤ z.length ∧ z.length ≤ 3) → numOk z = false := fun h => by unfold numOk; rw [decide_eq_false h]; rfl
  refine ite2 (fun c => ?_) (fun c => ?_)
  · have c1 : (z.length : Int) < 1 := of_decide_eq_true c
    refine iteT ?_
    have := q H (Same.refl _)
    rw [no (by omega)] at this
    exact this
  · have c1 : ¬ (z.length : Int) < 1 := of_decide_eq_false (Bool.eq_false_iff.mpr c)
    refine ⟨_, rfl, z, rfl, hz, _, _, rfl, rfl, _, rfl, ?_⟩
    refine ite2 (fun c => ?_) (fun c => ?_)
    · have c2 : (z.length : Int) > 3 := of_decide_eq_true c
      have := q H (Same.refl _)
      rw [no (by omega)] at this
      exact this
    · have c2 : ¬ (z.length : Int) > 3 := of_decide_eq_false (Bool.eq_false_iff.mpr c)
      have yes : numOk z = (!(decide (z.cps.toList.head? = some 48) && !decide (z = "0")) && z.cps.toList.all isFig) := by
        unfold numOk
        rw [decide_eq_true (by omega : 1 ≤ z.length ∧ z.length ≤ 3)]; rfl
      obtain ⟨c0, r0, e0⟩ : ∃ c0 r0, z.cps.toList = c0 :: r0 := by
        cases h : z.cps.toList with
        | nil => have := len_list z; rw [h] at this; simp at this; omega
        | cons a b => exact ⟨a, b, rfl⟩
      refine ⟨_, rfl, z, 0, c0, rfl, rfl, hz, by rw [e0]; exact atI_of (by decide) rfl, rfl, _, rfl, ?_⟩
      have h48 : decide (V.str ⟨#[c0]⟩ = V.str "0") = decide (z.cps.toList.head? = some 48) := by
        rw [e0, decide_eq_decide]
        constructor
        · intro h
          have h1 := V.str.inj h
          have h2 : (#[c0] : Array Nat) = ("0" : Str).cps := congrArg Str.cps h1
          have h3 : ("0" : Str).cps = #[48] := by decide +kernel
          rw [h3] at h2
          have : c0 = 48 := by simpa using h2
          subst this; rfl
        · intro h
          have : c0 = 48 := by simpa using h
          subst this
          have h3 : (⟨#[48]⟩ : Str) = "0" := by decide +kernel
          rw [h3]
      have fin : (!(decide (z.cps.toList.head? = some 48) && !decide (z = "0"))) = true → tRet (tCB (fun xs H Q => ∃ (p : Addr) (bs : List Bool), xs = [.ref p] ∧ SqL K H p (bs.map V.bl) ∧ Q (.bl (bs.all id)) H) (tCons (tComp ["word"] ["sign", ".0"] (iStr (tVar 0)) (gName 0) tYes (tOp (fun x y H Q => ∃ i j, x = .str i ∧ y = .str j ∧ Q (.bl (!(Builtin.Str.occurrences j i 0 j.length 1).isEmpty)) H) (tVar 0) (tC (.str FIG)))) tNil)) { nx := fun _ H' => Q .non H', rt := Q } (start ["word"] [.str z]) H := by
        intro hb
        refine ⟨rfl, _, rfl, z, rfl, comp_str (fun i ys H' => H' = H ∧ ys = ((z.cps.toList.take i).map isFig).map V.bl) ⟨rfl, rfl⟩ ?_ ?_⟩
        · rintro i c0 ys H' hc ⟨rfl, rfl⟩
          refine ⟨rfl, rfl, yesT ?_⟩
          refine ⟨_, rfl, _, _, rfl, rfl, ?_, rfl, ?_⟩
          · rw [List.length_map, List.length_map, List.length_take]
            exact small1000 (by rw [len_list]; omega)
          · rw [take_snoc hc, List.map_append, List.map_append, in_one]; rfl
        · rintro ys H' ⟨rfl, rfl⟩ D hD
          refine ⟨D, (z.cps.toList.take z.cps.size).map isFig, rfl, SqL.of upd_same, ?_⟩
          have ea : ((z.cps.toList.take z.cps.size).map isFig).all id = z.cps.toList.all isFig := by
            have : z.cps.size = z.cps.toList.length := by simp
            rw [this, List.take_length, List.all_map]; rfl
          rw [ea]
          have this : ∀ L, Q _ (upd H' D (.lst L)) := fun L => q _ (same_new hD _)
          rw [yes, hb, Bool.true_and] at this
          exact this _
      rw [h48]
      refine ite2 (fun c => ?_) (fun c => ?_)
      · refine ⟨_, rfl, rfl, _, rfl, ?_⟩
        have e2 : decide (V.str z = V.str "0") = decide (z = "0") := by
          rw [decide_eq_decide]; exact ⟨V.str.inj, congrArg V.str⟩
        rw [e2]
        refine ite2 (fun c2 => ?_) (fun c2 => ?_)
        · have := q H (Same.refl _)
          rw [yes, c, c2] at this
          exact this
        · exact fin (by rw [c, Bool.eq_false_iff.mpr c2]; rfl)
      · exact fin (by rw [Bool.eq_false_iff.mpr c]; rfl)
end
end Q
namespace Q
open PySem L2 Wd
structure CF (P : Program) (w : World) (K : PySem.W.Frag) (mg : Str → Option Value) (base : Heap) (CX : CXT) (k : Nat) (x : Str) (f : Addr) (fd : FuncData) (ps : List Str) (sp : Sp) : Prop where
  ok : FnOk P w K mg base CX k f fd ps sp
  bi : Binds K fd ps []
  kp : PySem.W.keepIn K (.ref f) = true
  mg : mg x = some (.ref f)
structure CM (P : Program) (w : World) (K : PySem.W.Frag) (mg : Str → Option Value) (base : Heap) (CX : CXT) (k : Nat) (C : Addr) (m : Str) (f : Addr) (fd : FuncData) (ps : List Str) (sp : Sp) : Prop where
  ok : FnOk P w K mg base CX k f fd ps sp
  bi : Binds K fd ps []
  me : Meth K C m f
/-! ### Signs -/
theorem wp_ne : ¬ (("word" : Str) = "place") := by decide +kernel
def flds (z : Str) (p : Int) : List (Str × V) := putF "place" (.int p) (putF "word" (.str z) [])
theorem flds_eq (z : Str) (p : Int) : flds z p = ([("word", V.str z), ("place", V.int p)] : List (Str × V)) := by
  show (if ("word" : Str) = "place" then [(("word" : Str), V.int p)] else (("word" : Str), V.str z) :: putF "place" (V.int p) []) = ([("word", V.str z), ("place", V.int p)] : List (Str × V))
  rw [if_neg wp_ne]
  all_goals rfl
theorem flds_word (z : Str) (p : Int) : (flds z p).lookup ("word" : Str) = some (.str z) := by
  unfold flds
  rw [lookup_putF, if_neg wp_ne, lookup_putF, if_pos rfl]
theorem flds_place (z : Str) (p : Int) : (flds z p).lookup ("place" : Str) = some (.int p) := by
  unfold flds
  rw [lookup_putF, if_pos rfl]
theorem flds_no (z : Str) (p : Int) {m : Str} (h1 : ¬ m = "place") (h2 : ¬ m = "word") : (flds z p).lookup m = none := by
  unfold flds
  rw [lookup_putF, if_neg h1, lookup_putF, if_neg h2]
  all_goals rfl
theorem flds_put (z : Str) (p y : Int) : putF "place" (.int y) (flds z p) = flds z y := by
  rw [flds_eq, flds_eq]
  show (if ("word" : Str) = "place" then _ else (("word" : Str), V.str z) :: (if ("place" : Str) = "place" then [(("place" : Str), V.int y)] else _)) = ([("word", V.str z), ("place", V.int y)] : List (Str × V))
  rw [if_neg wp_ne, if_pos rfl]
/-- the signs at a, p of them taken -/
def SgAt (C : Addr) (H : Hp) (a : Addr) (z : Str) (p : Nat) : Prop := z.length ≤ sizeLine ∧ p ≤ z.length ∧ ∃ dx, H a = some (.ins C dx (flds z (p : Int)))
/-- nothing but a has changed -/
def Moved (H H' : Hp) (a : Addr) : Prop := ∀ b o, b ≠ a → H b = some o → H' b = some o
theorem Moved.refl (H : Hp) (a : Addr) : Moved H H a := fun _ _ _ h => h
theorem Moved.trans {H H1 H2 : Hp} {a : Addr} (x : Moved H H1 a) (y : Moved H1 H2 a) : Moved H H2 a := fun b o hb h => y b o hb (x b o hb h)
theorem Moved.same {H H1 : Hp} {a : Addr} (x : Same H H1) : Moved H H1 a := fun b o _ h => x b o h
theorem moved_upd {H : Hp} {a : Addr} (o : HO) : Moved H (upd H a o) a := fun b u hb h => by rw [upd_ne hb]; exact h
theorem SgAt.same {C : Addr} {H H' : Hp} {a : Addr} {z : Str} {p : Nat} (g : Same H H') (h : SgAt C H a z p) : SgAt C H' a z p := let ⟨h1, h2, dx, e⟩ := h; ⟨h1, h2, dx, g _ _ e⟩
def stands (z : Str) (p : Nat) (y : Str) : Bool := match z.cps.toList.drop p with
  | [] => false
  | c :: _ => decide (c ∈ y.cps.toList)
section
variable {P : Program} {w : World} {K : PySem.W.Frag} {mg : Str → Option Value} {base : Heap} {f CS CN fD fS : Addr} {fd fdD fdS : FuncData}
def spSInit (C : Addr) : Sp := fun vs H Q _ => ∃ (a dx : Addr) (z : Str), vs = [.ref a, .str z] ∧ H a = some (.ins C dx []) ∧ z.length ≤ sizeLine ∧ ∀ H', Moved H H' a → SgAt C H' a z 0 → Q .non H'
theorem scSInit : FnScope ["self", "word"] ["self", "word"] (defScope sSInit) := ⟨rfl, rfl, rfl, by decide +kernel, rfl, by decide +kernel, by decide +kernel⟩
theorem ok_sinit (F : Fun K "__init__" "Signs.__init__" sSInit f fd) (T : Txt K mg CS CN) : FnOk P w K mg base CX0 1 f fd ["self", "word"] (spSInit CS) := by
  refine F.ok scSInit (fun vs H Q E h => ?_) (fun cdv A outer s H vs Q E hr h => ?_)
  · obtain ⟨a, dx, z, rfl, _⟩ := h
    rfl
  obtain ⟨a, dx, z, rfl, hp, hz, k⟩ := h
  refine ⟨_, pss_cons (ps_fld (pv 0) (pv 1) rfl) (pss_one (ps_fld (pv 0) pe_int rfl)), ?_⟩
  refine ⟨_, rfl, _, rfl, a, CS, dx, [], rfl, hp, T.cl, T.nw, (by show 0 < 1000; decide), _, rfl, a, CS, dx, _, rfl, upd_same, T.cl, T.np, (by show 1 < 1000; decide), ?_⟩
  exact k _ ((moved_upd _).trans (moved_upd _)) ⟨hz, Nat.zero_le _, dx, upd_same⟩
def spDone (C : Addr) : Sp := fun vs H Q _ => ∃ (a : Addr) (z : Str) (p : Nat), vs = [.ref a] ∧ SgAt C H a z p ∧ Q (.bl (decide (p = z.length))) H
theorem scDone : FnScope ["self"] ["self"] (defScope sSDone) := ⟨rfl, rfl, rfl, by decide +kernel, rfl, by decide +kernel, by decide +kernel⟩
theorem ok_done (F : Fun K "is_done" "Signs.is_done" sSDone f fd) (T : Txt K mg CS CN) : FnOk P w K mg base CX0 1 f fd ["self"] (spDone CS) := by
  refine F.ok scDone (fun vs H Q E h => ?_) (fun cdv A outer s H vs Q E hr h => ?_)
  · obtain ⟨a, z, p, rfl, _⟩ := h
    rfl
  obtain ⟨a, z, p, rfl, ⟨hz, hp, dx, ha⟩, k⟩ := h
  refine ⟨_, pss_one (ps_ret (pe_cmpR op_eq (pe_fld (pv 0) rfl) (pe_callB call_len_str rfl T.len PySem.boot_len (pa_cons (pe_fld (pv 0) rfl) pa_nil)) (nomark _))), ?_⟩
  refine ⟨_, rfl, a, CS, dx, _, _, rfl, ha, T.cl, T.np, flds_place _ _, _, rfl, a, CS, dx, _, _, rfl, ha, T.cl, T.nw, flds_word _ _, z, rfl, hz, rfl, ?_⟩
  have e : decide (V.int (p : Int) = V.int (z.length : Int)) = decide (p = z.length) := by
    rw [decide_eq_decide]
    exact ⟨fun h => by have := V.int.inj h; omega, fun h => by rw [h]⟩
  show Q (.bl (decide (V.int (p : Int) = V.int (z.length : Int)))) H
  rw [e]
  exact k
def spStands (C : Addr) : Sp := fun vs H Q _ => ∃ (a : Addr) (z : Str) (p : Nat) (y : Str), vs = [.ref a, .str y] ∧ SgAt C H a z p ∧ Q (.bl (stands z p y)) H
theorem scStands : FnScope ["self", "wanted"] ["self", "wanted"] (defScope sSStands) := ⟨rfl, rfl, rfl, by decide +kernel, rfl, by decide +kernel, by decide +kernel⟩
theorem sg_at {z : Str} {p : Nat} (h : p < z.length) : ∃ c, z.cps.toList[p]? = some c ∧ z.cps.toList.drop p = c :: z.cps.toList.drop (p + 1) := by
  have hl : p < z.cps.toList.length := by rw [len_list]; exact h
  exact ⟨z.cps.toList[p], List.getElem?_eq_getElem hl, List.drop_eq_getElem_cons hl⟩
theorem ok_stands (F : Fun K "stands_one_of" "Signs.stands_one_of" sSStands f fd) (T : Txt K mg CS CN) (M : CM P w K mg base CX0 1 CS "is_done" fD fdD ["self"] (spDone CS)) : FnOk P w K mg base CX0 2 f fd ["self", "wanted"] (spStands CS) := by
  refine F.ok scStands (fun vs H Q E h => ?_) (fun cdv A outer s H vs Q E hr h => ?_)
  · obtain ⟨a, z, p, y, rfl, _⟩ := h
    rfl
  obtain ⟨a, z, p, y, rfl, S, k⟩ := h
  obtain ⟨hz, hp, dx, ha⟩ := id S
  refine ⟨_, pss_one (ps_ret (pe_and (pe_not (pe_meth0 (pv 0) T.cl M.me M.ok hr M.bi .nil pass0)) (pe_one (pe_cmpR op_in_str (pe_ix ix_str (pe_fld (pv 0) rfl) (pe_fld (pv 0) rfl) (fun _ _ => rfl)) (pv 1) (by with_unfolding_all rfl))))), ?_⟩
  refine ⟨_, rfl, a, dx, _, rfl, ha, flds_no _ _ (by decide +kernel) (by decide +kernel), a, z, p, rfl, S, _, rfl, _, rfl, ?_⟩
  by_cases hd : p = z.length
  · rw [decide_eq_true hd]
    refine iteF ?_
    have e : stands z p y = false := by
      unfold stands
      rw [List.drop_eq_nil_of_le (by rw [len_list]; omega)]
    rw [e] at k
    exact k
  · rw [decide_eq_false hd]
    obtain ⟨c, hc, hdr⟩ := sg_at (z := z) (p := p) (by omega)
    refine iteT ⟨_, rfl, a, CS, dx, _, _, rfl, ha, T.cl, T.nw, flds_word _ _, _, rfl, a, CS, dx, _, _, rfl, ha, T.cl, T.np, flds_place _ _, z, (p : Int), c, rfl, rfl, hz, atI_nat hc, _, rfl, _, _, rfl, rfl, ?_⟩
    have e : stands z p y = decide (c ∈ y.cps.toList) := by
      unfold stands
      rw [hdr]
    rw [e] at k
    rw [in_one]
    exact k
def spTake (C : Addr) : Sp := fun vs H Q _ => ∃ (a : Addr) (z : Str) (p : Nat) (c : Nat), vs = [.ref a] ∧ SgAt C H a z p ∧ z.cps.toList[p]? = some c ∧ ∀ H', Moved H H' a → SgAt C H' a z (p + 1) → Q (.str ⟨#[c]⟩) H'
theorem scTake : FnScope ["self", "sign"] ["self"] (defScope sSTake) := ⟨rfl, rfl, rfl, by decide +kernel, rfl, by decide +kernel, by decide +kernel⟩
theorem lt_of_at {z : Str} {p c : Nat} (h : z.cps.toList[p]? = some c) : p < z.length := by rw [← len_list]; exact (List.getElem?_eq_some_iff.mp h).1
theorem ok_take (F : Fun K "take_sign" "Signs.take_sign" sSTake f fd) (T : Txt K mg CS CN) : FnOk P w K mg base CX0 1 f fd ["self"] (spTake CS) := by
  refine F.ok scTake (fun vs H Q E h => ?_) (fun cdv A outer s H vs Q E hr h => ?_)
  · obtain ⟨a, z, p, c, rfl, _⟩ := h
    rfl
  obtain ⟨a, z, p, c, rfl, ⟨hz, hp, dx, ha⟩, hc, k⟩ := h
  refine ⟨_, pss_cons (ps_set (i := 1) scTake.nd rfl (Or.inl rfl) (pe_ix ix_str (pe_fld (pv 0) rfl) (pe_fld (pv 0) rfl) (fun _ _ => rfl))) (pss_cons (ps_fldaug (pv 0) pe_int in_add) (pss_one (ps_ret (pv 1)))), ?_⟩
  refine ⟨_, rfl, a, CS, dx, _, _, rfl, ha, T.cl, T.nw, flds_word _ _, _, rfl, a, CS, dx, _, _, rfl, ha, T.cl, T.np, flds_place _ _, z, (p : Int), c, rfl, rfl, hz, atI_nat hc, ?_⟩
  refine ⟨_, rfl, a, CS, dx, _, _, rfl, ha, T.cl, T.np, flds_place _ _, _, _, rfl, rfl, dx, _, ha, (by rw [flds_eq]; show 2 < 1000; decide), _, rfl, ?_⟩
  refine k _ (moved_upd _) ⟨hz, lt_of_at hc, dx, ?_⟩
  rw [upd_same, flds_put]
  rfl
def spRun (C : Addr) : Sp := fun vs H Q _ => ∃ (a : Addr) (z : Str) (p : Nat) (y : Str), vs = [.ref a, .str y] ∧ SgAt C H a z p ∧
  ∀ H', Moved H H' a → SgAt C H' a z (p + ((z.cps.toList.drop p).takeWhile fun c => decide (c ∈ y.cps.toList)).length) → Q (.str ⟨((z.cps.toList.drop p).takeWhile fun c => decide (c ∈ y.cps.toList)).toArray⟩) H'
theorem scRun : FnScope ["self", "wanted", "begin"] ["self", "wanted"] (defScope sSRun) := ⟨rfl, rfl, rfl, by decide +kernel, rfl, by decide +kernel, by decide +kernel⟩
theorem ok_run (F : Fun K "run_of" "Signs.run_of" sSRun f fd) (T : Txt K mg CS CN) (M : CM P w K mg base CX0 2 CS "stands_one_of" fS fdS ["self", "wanted"] (spStands CS)) : FnOk P w K mg base CX0 3 f fd ["self", "wanted"] (spRun CS) := by
  refine F.ok scRun (fun vs H Q E h => ?_) (fun cdv A outer s H vs Q E hr h => ?_)
  · obtain ⟨a, z, p, y, rfl, _⟩ := h
    rfl
  obtain ⟨a, z, p, y, rfl, S, k⟩ := h
  obtain ⟨hz, hp, dx, ha⟩ := id S
  refine ⟨_, pss_cons (ps_set (i := 2) scRun.nd rfl (Or.inl rfl) (pe_fld (pv 0) rfl))
    (pss_cons (ps_while PassesOwn.never (pt_val (pe_meth (pv 0) T.cl M.me M.ok hr M.bi .nil pass0 (pa_cons (pv 1) pa_nil))) (pss_one (ps_fldaug (pv 0) pe_int in_add)))
    (pss_one (ps_ret (pe_slice sl_str (pe_fld (pv 0) rfl) (po_some (pv 2)) (po_some (pe_fld (pv 0) rfl)))))), ?_⟩
  refine ⟨_, rfl, a, CS, dx, _, _, rfl, ha, T.cl, T.np, flds_place _ _, ?_⟩
  refine ⟨fun m σ H' => ∃ j, σ = [some (.ref a), some (.str y), some (.int (p : Int))] ∧ Moved H H' a ∧ SgAt CS H' a z (p + j) ∧ m = z.length - (p + j) ∧
      (z.cps.toList.drop p).takeWhile (fun c => decide (c ∈ y.cps.toList)) = (z.cps.toList.drop p).take j ++ (z.cps.toList.drop (p + j)).takeWhile (fun c => decide (c ∈ y.cps.toList)) ∧ j ≤ (z.cps.toList.drop p).length, ⟨_, 0, rfl, Moved.refl _ _, S, rfl, by simp, Nat.zero_le _⟩, ?_⟩
  rintro m σ H' ⟨j, rfl, mv, S', rfl, tw, jl⟩
  obtain ⟨hz', hp', dx', ha'⟩ := id S'
  refine ⟨_, rfl, a, dx', _, rfl, ha', flds_no _ _ (by decide +kernel) (by decide +kernel), _, rfl, a, z, p + j, y, rfl, S', _, rfl, ?_⟩
  refine ite2 (fun c => ?_) (fun c => ?_)
  · have lt : p + j < z.length := by
      rcases Nat.lt_or_ge (p + j) z.length with h | h
      · exact h
      · unfold stands at c
        rw [List.drop_eq_nil_of_le (by rw [len_list]; exact h)] at c
        cases c
    obtain ⟨c0, hc0, hdr⟩ := sg_at lt
    have cw : decide (c0 ∈ y.cps.toList) = true := by
      unfold stands at c
      rw [hdr] at c
      exact c
    refine ⟨_, fun σ' H'' h => h, ⟨_, rfl, a, CS, dx', _, _, rfl, ha', T.cl, T.np, flds_place _ _, _, _, rfl, rfl, dx', _, ha', (by rw [flds_eq]; show 2 < 1000; decide), ?_⟩⟩
    refine ⟨z.length - (p + (j + 1)), by omega, j + 1, rfl, mv.trans (moved_upd _), ⟨hz, by omega, dx', ?_⟩, rfl, ?_, ?_⟩
    · rw [upd_same, flds_put]
      show some (HO.ins CS dx' (flds z (((p + j : Nat) : Int) + 1))) = some (HO.ins CS dx' (flds z ((p + (j + 1) : Nat) : Int)))
      have : ((p + j : Nat) : Int) + 1 = ((p + (j + 1) : Nat) : Int) := by omega
      rw [this]
    · rw [tw, hdr, List.takeWhile_cons, if_pos cw]
      have : (z.cps.toList.drop p)[j]? = some c0 := by rw [List.getElem?_drop]; exact hc0
      rw [take_snoc this, List.append_assoc]
      rfl
    · rw [List.length_drop, len_list]; omega
  · have tn : (z.cps.toList.drop (p + j)).takeWhile (fun c => decide (c ∈ y.cps.toList)) = [] := by
      unfold stands at c
      split at c
      · rename_i h; rw [h]; rfl
      · rename_i c1 r1 h
        rw [h, List.takeWhile_cons, if_neg c]
    rw [tn, List.append_nil] at tw
    have tl : ((z.cps.toList.drop p).takeWhile fun c => decide (c ∈ y.cps.toList)).length = j := by rw [tw, List.length_take]; omega
    refine ⟨_, rfl, a, CS, dx', _, _, rfl, ha', T.cl, T.nw, flds_word _ _, _, rfl, _, rfl, _, rfl, a, CS, dx', _, _, rfl, ha', T.cl, T.np, flds_place _ _, _, rfl, z, rfl, hz, ?_⟩
    have q := k H' mv (by rw [tl]; exact S')
    rw [StrLaws.sliceText_nat z (a := p) (b := p + j) (by omega) hp', Nat.add_sub_cancel_left, ← tw]
    exact q
end
end Q
namespace Q
open PySem L2 Wd
def IsE (H : Hp) : Exp → V → Prop
  | .num n, v => ∃ p, v = .ref p ∧ H p = some (.tup [.str "number", .int n])
  | .box x, v => ∃ p, v = .ref p ∧ H p = some (.tup [.str "box", .str x])
  | .bin s l r, v => ∃ p a b, v = .ref p ∧ H p = some (.tup [.str s, a, b]) ∧ IsE H l a ∧ IsE H r b
theorem IsE.mono {H H' : Hp} (g : Same H H') : ∀ {e : Exp} {v : V}, IsE H e v → IsE H' e v
  | .num _, _, ⟨p, e, h⟩ => ⟨p, e, g _ _ h⟩
  | .box _, _, ⟨p, e, h⟩ => ⟨p, e, g _ _ h⟩
  | .bin _ _ _, _, ⟨p, a, b, e, h, h1, h2⟩ => ⟨p, a, b, e, g _ _ h, h1.mono g, h2.mono g⟩
theorem tup_ne {H : Hp} {a p C dx : Addr} {fs : List (Str × V)} {xs : List V} (ha : H a = some (.ins C dx fs)) (h : H p = some (.tup xs)) : p ≠ a := fun z => by rw [z, ha] at h; cases h
theorem IsE.moved {H H' : Hp} {a C dx : Addr} {fs : List (Str × V)} (ha : H a = some (.ins C dx fs)) (g : Moved H H' a) : ∀ {e : Exp} {v : V}, IsE H e v → IsE H' e v
  | .num _, _, ⟨p, e, h⟩ => ⟨p, e, g _ _ (tup_ne ha h) h⟩
  | .box _, _, ⟨p, e, h⟩ => ⟨p, e, g _ _ (tup_ne ha h) h⟩
  | .bin _ _ _, _, ⟨p, x, y, e, h, h1, h2⟩ => ⟨p, x, y, e, g _ _ (tup_ne ha h) h, h1.moved ha g, h2.moved ha g⟩
/-- what a reader's end is wanted to be -/
def Outcome (C CN : Addr) (H : Hp) (a : Addr) (z : Str) (Q : VK) (E : XK) : Option (Exp × List Nat) → Prop
  | some (e, r) => ∀ v H', Moved H H' a → SgAt C H' a z (z.length - r.length) → IsE H' e v → Q v H'
  | none => ∀ H', Moved H H' a → E (.ref CN) none H'
def spRead (C CN : Addr) (fP : Nat → List Nat → Option (Exp × List Nat)) (m : Nat) : Sp := fun vs H Q E => ∃ (a : Addr) (z : Str) (p : Nat), vs = [.ref a, .int (5 - (m : Int))] ∧ SgAt C H a z p ∧ Outcome C CN H a z Q E (fP m (z.cps.toList.drop p))
def brP : Nat → List Nat → Option (Exp × List Nat)
  | 0, _ => none
  | m + 1, r => bracketP (termsP m) r
theorem factor_eq (m : Nat) (l : List Nat) : factorP m l = if l.head? = some 40 then brP m l.tail else leafP l := by
  cases m <;> rfl
def spBr (C CN : Addr) (m : Nat) : Sp := fun vs H Q E => ∃ (a : Addr) (z : Str) (p : Nat) (r : List Nat), vs = [.ref a, .int (6 - (m : Int))] ∧ m ≤ 5 ∧ SgAt C H a z p ∧ z.cps.toList.drop p = 40 :: r ∧ Outcome C CN H a z Q E (brP m r)
theorem chain_stop {f : List Nat → Option (Exp × List Nat)} {ops : List Nat} {e : Exp} : ∀ {n : Nat} {l : List Nat}, (∀ c r, l = c :: r → ¬ c ∈ ops) → chain f ops n e l = some (e, l)
  | 0, _, _ => rfl
  | _ + 1, [], _ => rfl
  | _ + 1, c :: r, h => by
    unfold chain
    rw [if_neg (h c r rfl)]
theorem ops_T : ("+-" : Str).cps.toList = opsT := by decide +kernel
theorem ops_F : ("*" : Str).cps.toList = opsF := by decide +kernel
theorem ops_L : ("(" : Str).cps.toList = [40] := by decide +kernel
theorem ops_R : (")" : Str).cps.toList = [41] := by decide +kernel
theorem drop_len {z : Str} {p : Nat} (hp : p ≤ z.length) : z.length - (z.cps.toList.drop p).length = p := by rw [List.length_drop, len_list]; omega
theorem at_of_drop {z : Str} {p c : Nat} {r : List Nat} (h : z.cps.toList.drop p = c :: r) : z.cps.toList[p]? = some c ∧ z.cps.toList.drop (p + 1) = r := by
  refine ⟨?_, ?_⟩
  · have : (z.cps.toList.drop p)[0]? = some c := by rw [h]; rfl
    rw [List.getElem?_drop] at this
    exact this
  · have := congrArg (List.drop 1) h
    rw [List.drop_drop] at this
    exact this
theorem br_none1 {f : List Nat → Option (Exp × List Nat)} {r : List Nat} (h : f r = none) : bracketP f r = none := by unfold bracketP; rw [h]
theorem br_some {f : List Nat → Option (Exp × List Nat)} {r r2 : List Nat} {e : Exp} (h : f r = some (e, 41 :: r2)) : bracketP f r = some (e, r2) := by unfold bracketP; rw [h]; rfl
theorem br_none2 {f : List Nat → Option (Exp × List Nat)} {r r1 : List Nat} {e : Exp} (h : f r = some (e, r1)) (h2 : ¬ r1.head? = some 41) : bracketP f r = none := by
  unfold bracketP
  rw [h]
  split
  · rename_i heq
    cases heq
    exact absurd rfl h2
  · rfl
theorem back_to {C : Addr} {H : Hp} {a : Addr} {z : Str} {p : Nat} {r : List Nat} (h : r <:+ z.cps.toList.drop p) : z.cps.toList.drop (z.length - r.length) = r := by
  have := (suf_drop (w := z.cps.toList) rfl h).1
  rw [len_list] at this
  exact this.symm
section
variable {P : Program} {w : World} {K : PySem.W.Frag} {mg : Str → Option Value} {base : Heap} {f CS CN fG fS fK : Addr} {fd fdG fdS fdK : FuncData}
/-! ### read_terms, read_factors -/
theorem scTerms : FnScope ["signs", "depth", "e", "sign"] ["signs", "depth"] (defScope sTerms) := ⟨rfl, rfl, rfl, by decide +kernel, rfl, by decide +kernel, by decide +kernel⟩
theorem ok_terms {m k : Nat} (hk : 2 ≤ k) (F : Fun K "read_terms" "read_terms" sTerms f fd) (T : Txt K mg CS CN) (G : CF P w K mg base (CXx P w) k "read_factors" fG fdG ["signs", "depth"] (spRead CS CN factorsP m))
    (MS : CM P w K mg base CX0 2 CS "stands_one_of" fS fdS ["self", "wanted"] (spStands CS)) (MT : CM P w K mg base CX0 1 CS "take_sign" fK fdK ["self"] (spTake CS)) : FnOk P w K mg base (CXx P w) (k + 1) f fd ["signs", "depth"] (spRead CS CN termsP m) := by
  refine F.okX scTerms (fun vs H Q E h => ?_) (fun cdv A outer s H vs Q E hr h => ?_)
  · obtain ⟨a, z, p, rfl, _⟩ := h
    rfl
  obtain ⟨a, z, p, rfl, S, k0⟩ := h
  refine ⟨_, pss_cons (ps_set (i := 2) scTerms.nd rfl (Or.inl rfl) (pe_call G.ok hr rfl G.mg G.kp G.bi .nil passes_x (pa_cons (pv 0) (pa_cons (pv 1) pa_nil))))
    (pss_cons (ps_while PassesOwn.leaving (pt_val (pe_meth (pv 0) T.cl MS.me MS.ok (hr.mono hk) MS.bi .nil pass0 (pa_cons pe_str pa_nil)))
      (pss_cons (ps_set (i := 3) scTerms.nd rfl (Or.inl rfl) (pe_meth0 (pv 0) T.cl MT.me MT.ok (hr.mono (by omega)) MT.bi .nil pass0))
      (pss_one (ps_set (i := 2) scTerms.nd rfl (Or.inl rfl) (pe_tup (pa_cons (pv 3) (pa_cons (pv 2) (pa_cons (pe_call G.ok hr rfl G.mg G.kp G.bi .nil passes_x (pa_cons (pv 0) (pa_cons (pv 1) pa_nil))) pa_nil))))))))
    (pss_one (ps_ret (pv 2)))), ?_⟩
  have sufG : Suf (factorsP m) := suf_factors m
  refine ⟨_, rfl, _, rfl, a, z, p, rfl, S, ?_⟩
  have k1 : Outcome CS CN H a z Q E (parts (factorsP m) opsT (z.cps.toList.drop p)) := k0
  unfold parts at k1
  cases hG : factorsP m (z.cps.toList.drop p) with
  | none =>
    rw [hG] at k1
    exact fun H' mv => k1 H' mv
  | some er =>
    obtain ⟨e1, r1⟩ := er
    rw [hG] at k1
    have k1 : Outcome CS CN H a z Q E (chain (factorsP m) opsT r1.length e1 r1) := k1
    intro v1 H1 mv1 S1 i1
    have b1 : z.cps.toList.drop (z.length - r1.length) = r1 := back_to (C := CS) (H := H) (a := a) (sufG _ _ _ hG)
    generalize hR : chain (factorsP m) opsT r1.length e1 r1 = R at k1
    refine ⟨fun mm σ H' => ∃ (v : V) (e : Exp) (p' n : Nat) (sg : Option V), σ = [some (.ref a), some (.int (5 - (m : Int))), some v, sg] ∧ Moved H H' a ∧ SgAt CS H' a z p' ∧ IsE H' e v ∧ (z.cps.toList.drop p').length ≤ n ∧
      chain (factorsP m) opsT n e (z.cps.toList.drop p') = R ∧ mm = z.length - p', ⟨_, v1, e1, z.length - r1.length, r1.length, none, rfl, mv1, S1, i1, by rw [b1]; exact Nat.le_refl _, by rw [b1]; exact hR, rfl⟩, ?_⟩
    rintro mm σ H' ⟨v, e, p', n, sg, rfl, mv, S', ie, ln, ch, rfl⟩
    obtain ⟨hz, hp', dx, ha⟩ := id S'
    refine ⟨_, rfl, a, dx, _, rfl, ha, flds_no _ _ (by decide +kernel) (by decide +kernel), a, z, p', "+-", rfl, S', _, rfl, ?_⟩
    refine ite2 (fun c => ?_) (fun c => ?_)
    · unfold stands at c
      cases hd : z.cps.toList.drop p' with
      | nil => rw [hd] at c; cases c
      | cons c0 r0 =>
        rw [hd] at c ch ln
        have c0m : c0 ∈ opsT := by rw [← ops_T]; exact of_decide_eq_true c
        obtain ⟨n, rfl⟩ : ∃ n', n = n' + 1 := ⟨n - 1, by rw [List.length_cons] at ln; omega⟩
        obtain ⟨at0, dr0⟩ := at_of_drop hd
        unfold chain at ch
        rw [if_pos c0m] at ch
        refine ⟨_, fun σ' H'' h => h, ⟨_, rfl, a, dx, _, rfl, ha, flds_no _ _ (by decide +kernel) (by decide +kernel), a, z, p', c0, rfl, S', at0, fun H2 mv2 S2 => ?_⟩⟩
        obtain ⟨_, hp2, dx2, ha2⟩ := id S2
        refine ⟨_, rfl, _, rfl, _, rfl, _, rfl, a, z, p' + 1, rfl, S2, ?_⟩
        rw [dr0]
        cases hG2 : factorsP m r0 with
        | none =>
          rw [hG2] at ch
          subst ch
          exact fun H3 mv3 => k1 H3 (mv.trans (mv2.trans mv3))
        | some er2 =>
          obtain ⟨e2, r2⟩ := er2
          rw [hG2] at ch
          intro v2 H3 mv3 S3 i3
          refine ⟨small (by show 3 ≤ 1000; decide), fun t ht => ?_⟩
          have g4 := same_new ht (.tup [.str ⟨#[c0]⟩, v, v2])
          have suf2 : r2 <:+ z.cps.toList.drop (p' + 1) := by rw [dr0]; exact sufG _ _ _ hG2
          have b2 := back_to (C := CS) (H := H) (a := a) suf2
          have l2 : r2.length ≤ r0.length := (sufG _ _ _ hG2).length_le
          have l0 := lt_of_at at0
          have l3 : r0.length = z.length - (p' + 1) := by rw [← dr0, List.length_drop, len_list]
          refine ⟨z.length - (z.length - r2.length), by omega, .ref t, .bin ⟨#[c0]⟩ e e2, z.length - r2.length, n, _, rfl, mv.trans (mv2.trans (mv3.trans (Moved.same g4))), S3.same g4, ?_, ?_, ?_, rfl⟩
          · exact ⟨t, v, v2, rfl, upd_same, ((ie.moved ha mv2).moved ha2 mv3).mono g4, i3.mono g4⟩
          · rw [b2]; rw [List.length_cons] at ln; omega
          · rw [b2]; exact ch
    · have st : chain (factorsP m) opsT n e (z.cps.toList.drop p') = some (e, z.cps.toList.drop p') := chain_stop fun c0 r0 hd hm => by
        unfold stands at c
        rw [hd] at c
        exact c (decide_eq_true (by rw [ops_T]; exact hm))
      rw [st] at ch
      subst ch
      exact ⟨_, rfl, k1 v H' mv (by rw [drop_len hp']; exact S') ie⟩

theorem scFactors : FnScope ["signs", "depth", "e", "sign"] ["signs", "depth"] (defScope sFactors) := ⟨rfl, rfl, rfl, by decide +kernel, rfl, by decide +kernel, by decide +kernel⟩
theorem ok_factors {m k : Nat} (hk : 2 ≤ k) (F : Fun K "read_factors" "read_factors" sFactors f fd) (T : Txt K mg CS CN) (G : CF P w K mg base (CXx P w) k "read_factor" fG fdG ["signs", "depth"] (spRead CS CN factorP m))
    (MS : CM P w K mg base CX0 2 CS "stands_one_of" fS fdS ["self", "wanted"] (spStands CS)) (MT : CM P w K mg base CX0 1 CS "take_sign" fK fdK ["self"] (spTake CS)) : FnOk P w K mg base (CXx P w) (k + 1) f fd ["signs", "depth"] (spRead CS CN factorsP m) := by
  refine F.okX scFactors (fun vs H Q E h => ?_) (fun cdv A outer s H vs Q E hr h => ?_)
  · obtain ⟨a, z, p, rfl, _⟩ := h
    rfl
  obtain ⟨a, z, p, rfl, S, k0⟩ := h
  refine ⟨_, pss_cons (ps_set (i := 2) scFactors.nd rfl (Or.inl rfl) (pe_call G.ok hr rfl G.mg G.kp G.bi .nil passes_x (pa_cons (pv 0) (pa_cons (pv 1) pa_nil))))
    (pss_cons (ps_while PassesOwn.leaving (pt_val (pe_meth (pv 0) T.cl MS.me MS.ok (hr.mono hk) MS.bi .nil pass0 (pa_cons pe_str pa_nil)))
      (pss_cons (ps_set (i := 3) scFactors.nd rfl (Or.inl rfl) (pe_meth0 (pv 0) T.cl MT.me MT.ok (hr.mono (by omega)) MT.bi .nil pass0))
      (pss_one (ps_set (i := 2) scFactors.nd rfl (Or.inl rfl) (pe_tup (pa_cons (pv 3) (pa_cons (pv 2) (pa_cons (pe_call G.ok hr rfl G.mg G.kp G.bi .nil passes_x (pa_cons (pv 0) (pa_cons (pv 1) pa_nil))) pa_nil))))))))
    (pss_one (ps_ret (pv 2)))), ?_⟩
  have sufG : Suf (factorP m) := suf_factor m
  refine ⟨_, rfl, _, rfl, a, z, p, rfl, S, ?_⟩
  have k1 : Outcome CS CN H a z Q E (parts (factorP m) opsF (z.cps.toList.drop p)) := k0
  unfold parts at k1
  cases hG : factorP m (z.cps.toList.drop p) with
  | none =>
    rw [hG] at k1
    exact fun H' mv => k1 H' mv
  | some er =>
    obtain ⟨e1, r1⟩ := er
    rw [hG] at k1
    have k1 : Outcome CS CN H a z Q E (chain (factorP m) opsF r1.length e1 r1) := k1
    intro v1 H1 mv1 S1 i1
    have b1 : z.cps.toList.drop (z.length - r1.length) = r1 := back_to (C := CS) (H := H) (a := a) (sufG _ _ _ hG)
    generalize hR : chain (factorP m) opsF r1.length e1 r1 = R at k1
    refine ⟨fun mm σ H' => ∃ (v : V) (e : Exp) (p' n : Nat) (sg : Option V), σ = [some (.ref a), some (.int (5 - (m : Int))), some v, sg] ∧ Moved H H' a ∧ SgAt CS H' a z p' ∧ IsE H' e v ∧ (z.cps.toList.drop p').length ≤ n ∧
      chain (factorP m) opsF n e (z.cps.toList.drop p') = R ∧ mm = z.length - p', ⟨_, v1, e1, z.length - r1.length, r1.length, none, rfl, mv1, S1, i1, by rw [b1]; exact Nat.le_refl _, by rw [b1]; exact hR, rfl⟩, ?_⟩
    rintro mm σ H' ⟨v, e, p', n, sg, rfl, mv, S', ie, ln, ch, rfl⟩
    obtain ⟨hz, hp', dx, ha⟩ := id S'
    refine ⟨_, rfl, a, dx, _, rfl, ha, flds_no _ _ (by decide +kernel) (by decide +kernel), a, z, p', "*", rfl, S', _, rfl, ?_⟩
    refine ite2 (fun c => ?_) (fun c => ?_)
    · unfold stands at c
      cases hd : z.cps.toList.drop p' with
      | nil => rw [hd] at c; cases c
      | cons c0 r0 =>
        rw [hd] at c ch ln
        have c0m : c0 ∈ opsF := by rw [← ops_F]; exact of_decide_eq_true c
        obtain ⟨n, rfl⟩ : ∃ n', n = n' + 1 := ⟨n - 1, by rw [List.length_cons] at ln; omega⟩
        obtain ⟨at0, dr0⟩ := at_of_drop hd
        unfold chain at ch
        rw [if_pos c0m] at ch
        refine ⟨_, fun σ' H'' h => h, ⟨_, rfl, a, dx, _, rfl, ha, flds_no _ _ (by decide +kernel) (by decide +kernel), a, z, p', c0, rfl, S', at0, fun H2 mv2 S2 => ?_⟩⟩
        obtain ⟨_, hp2, dx2, ha2⟩ := id S2
        refine ⟨_, rfl, _, rfl, _, rfl, _, rfl, a, z, p' + 1, rfl, S2, ?_⟩
        rw [dr0]
        cases hG2 : factorP m r0 with
        | none =>
          rw [hG2] at ch
          subst ch
          exact fun H3 mv3 => k1 H3 (mv.trans (mv2.trans mv3))
        | some er2 =>
          obtain ⟨e2, r2⟩ := er2
          rw [hG2] at ch
          intro v2 H3 mv3 S3 i3
          refine ⟨small (by show 3 ≤ 1000; decide), fun t ht => ?_⟩
          have g4 := same_new ht (.tup [.str ⟨#[c0]⟩, v, v2])
          have suf2 : r2 <:+ z.cps.toList.drop (p' + 1) := by rw [dr0]; exact sufG _ _ _ hG2
          have b2 := back_to (C := CS) (H := H) (a := a) suf2
          have l2 : r2.length ≤ r0.length := (sufG _ _ _ hG2).length_le
          have l0 := lt_of_at at0
          have l3 : r0.length = z.length - (p' + 1) := by rw [← dr0, List.length_drop, len_list]
          refine ⟨z.length - (z.length - r2.length), by omega, .ref t, .bin ⟨#[c0]⟩ e e2, z.length - r2.length, n, _, rfl, mv.trans (mv2.trans (mv3.trans (Moved.same g4))), S3.same g4, ?_, ?_, ?_, rfl⟩
          · exact ⟨t, v, v2, rfl, upd_same, ((ie.moved ha mv2).moved ha2 mv3).mono g4, i3.mono g4⟩
          · rw [b2]; rw [List.length_cons] at ln; omega
          · rw [b2]; exact ch
    · have st : chain (factorP m) opsF n e (z.cps.toList.drop p') = some (e, z.cps.toList.drop p') := chain_stop fun c0 r0 hd hm => by
        unfold stands at c
        rw [hd] at c
        exact c (decide_eq_true (by rw [ops_F]; exact hm))
      rw [st] at ch
      subst ch
      exact ⟨_, rfl, k1 v H' mv (by rw [drop_len hp']; exact S') ie⟩

/-! ### read_bracket -/
theorem scBr : FnScope ["signs", "depth", "e"] ["signs", "depth"] (defScope sBracket) := ⟨rfl, rfl, rfl, by decide +kernel, rfl, by decide +kernel, by decide +kernel⟩
theorem ok_br0 (F : Fun K "read_bracket" "read_bracket" sBracket f fd) (T : Txt K mg CS CN) : FnOk P w K mg base (CXx P w) 1 f fd ["signs", "depth"] (spBr CS CN 0) := by
  refine F.okX scBr (fun vs H Q E h => ?_) (fun cdv A outer s H vs Q E hr h => ?_)
  · obtain ⟨a, z, p, r, rfl, _⟩ := h
    rfl
  obtain ⟨a, z, p, r, rfl, h5, S, hd, k0⟩ := h
  obtain ⟨t5, g5⟩ := T.n5
  refine ⟨_, pss_cons (ps_if (pt_cmpR op_gt (pv 1) (pe_glob (v := .int 5) rfl g5 ⟨_, rfl⟩) (nomark _)) (pss_one (ps_raise raises_x rfl rfl T.mgN T.exN (pa_cons pe_str pa_nil))) pss_nil) pss_never, ?_⟩
  refine ⟨_, rfl, _, _, rfl, rfl, _, rfl, ?_⟩
  refine iteT ⟨small (by show 1 ≤ 1000; decide), k0 H (Moved.refl _ _)⟩
theorem ok_br {m k : Nat} (hk : 2 ≤ k) (F : Fun K "read_bracket" "read_bracket" sBracket f fd) (T : Txt K mg CS CN) (G : CF P w K mg base (CXx P w) k "read_terms" fG fdG ["signs", "depth"] (spRead CS CN termsP m))
    (MS : CM P w K mg base CX0 2 CS "stands_one_of" fS fdS ["self", "wanted"] (spStands CS)) (MT : CM P w K mg base CX0 1 CS "take_sign" fK fdK ["self"] (spTake CS)) : FnOk P w K mg base (CXx P w) (k + 1) f fd ["signs", "depth"] (spBr CS CN (m + 1)) := by
  refine F.okX scBr (fun vs H Q E h => ?_) (fun cdv A outer s H vs Q E hr h => ?_)
  · obtain ⟨a, z, p, r, rfl, _⟩ := h
    rfl
  obtain ⟨a, z, p, r, rfl, h5, S, hd, k0⟩ := h
  obtain ⟨t5, g5⟩ := T.n5
  refine ⟨_, pss_cons (ps_if (pt_cmpR op_gt (pv 1) (pe_glob (v := .int 5) rfl g5 ⟨_, rfl⟩) (nomark _)) (pss_one (ps_raise raises_x rfl rfl T.mgN T.exN (pa_cons pe_str pa_nil))) pss_nil)
    (pss_cons (ps_expr (pe_meth0 (pv 0) T.cl MT.me MT.ok (hr.mono (by omega)) MT.bi .nil pass0))
    (pss_cons (ps_set (i := 2) scBr.nd rfl (Or.inl rfl) (pe_call G.ok hr rfl G.mg G.kp G.bi .nil passes_x (pa_cons (pv 0) (pa_cons (pv 1) pa_nil))))
    (pss_cons (ps_if (pt_not (pt_val (pe_meth (pv 0) T.cl MS.me MS.ok (hr.mono hk) MS.bi .nil pass0 (pa_cons pe_str pa_nil)))) (pss_one (ps_raise raises_x rfl rfl T.mgN T.exN (pa_cons pe_str pa_nil))) pss_nil)
    (pss_cons (ps_expr (pe_meth0 (pv 0) T.cl MT.me MT.ok (hr.mono (by omega)) MT.bi .nil pass0))
    (pss_one (ps_ret (pv 2))))))), ?_⟩
  obtain ⟨hz, hp, dx, ha⟩ := id S
  obtain ⟨at0, dr0⟩ := at_of_drop hd
  refine ⟨_, rfl, _, _, rfl, rfl, _, rfl, ?_⟩
  refine ite2 (fun c => ?_) (fun c => ?_)
  · have c1 : (6 - ((m + 1 : Nat) : Int)) > 5 := of_decide_eq_true c
    omega
  · refine ⟨_, rfl, a, dx, _, rfl, ha, flds_no _ _ (by decide +kernel) (by decide +kernel), a, z, p, 40, rfl, S, at0, fun H1 mv1 S1 => ?_⟩
    have e6 : (6 - ((m + 1 : Nat) : Int)) = 5 - (m : Int) := by omega
    refine ⟨_, rfl, _, rfl, a, z, p + 1, by show [V.ref a, V.int (6 - ((m + 1 : Nat) : Int))] = _; rw [e6], S1, ?_⟩
    rw [dr0]
    have k1 : Outcome CS CN H a z Q E (bracketP (termsP m) r) := k0
    cases hG : termsP m r with
    | none =>
      rw [br_none1 hG] at k1
      exact fun H' mv => k1 H' (mv1.trans mv)
    | some er =>
      obtain ⟨e1, r1⟩ := er
      intro v2 H2 mv2 S2 i2
      obtain ⟨_, hp2, dx2, ha2⟩ := id S2
      have suf1 : r1 <:+ z.cps.toList.drop (p + 1) := by rw [dr0]; exact suf_terms m _ _ _ hG
      have b1 := back_to (C := CS) (H := H) (a := a) suf1
      refine ⟨_, rfl, a, dx2, _, rfl, ha2, flds_no _ _ (by decide +kernel) (by decide +kernel), a, z, _, ")", rfl, S2, _, rfl, ?_⟩
      have st : stands z (z.length - r1.length) ")" = decide (r1.head? = some 41) := by
        unfold stands
        rw [b1]
        cases r1 with
        | nil => rfl
        | cons c0 r0 =>
          show decide (c0 ∈ (")" : Str).cps.toList) = decide (some c0 = some 41)
          rw [ops_R, decide_eq_decide]
          simp
      rw [st]
      by_cases h41 : r1.head? = some 41
      · rw [decide_eq_true h41]
        obtain ⟨r2, rfl⟩ : ∃ r2, r1 = 41 :: r2 := by
          cases r1 with
          | nil => cases h41
          | cons c0 r0 => have : c0 = 41 := by simpa using h41
                          subst this; exact ⟨r0, rfl⟩
        obtain ⟨at1, dr1⟩ := at_of_drop b1
        refine iteF ⟨_, rfl, a, dx2, _, rfl, ha2, flds_no _ _ (by decide +kernel) (by decide +kernel), a, z, _, 41, rfl, S2, at1, fun H3 mv3 S3 => ⟨_, rfl, ?_⟩⟩
        rw [br_some hG] at k1
        have k2 : ∀ v H', Moved H H' a → SgAt CS H' a z (z.length - r2.length) → IsE H' e1 v → Q v H' := k1
        refine k2 v2 H3 (mv1.trans (mv2.trans mv3)) ?_ (i2.moved ha2 mv3)
        have l1 := lt_of_at at1
        have : z.length - (41 :: r2).length + 1 = z.length - r2.length := by
          have := suf1.length_le
          rw [List.length_drop, len_list, List.length_cons] at this
          rw [List.length_cons]; omega
        rw [this] at S3
        exact S3
      · rw [decide_eq_false h41]
        refine iteT ⟨small (by show 1 ≤ 1000; decide), ?_⟩
        rw [br_none2 hG h41] at k1
        have k2 : ∀ H', Moved H H' a → E (.ref CN) none H' := k1
        exact k2 H2 (mv1.trans mv2)
/-! ### read_factor -/
theorem scFactor : FnScope ["signs", "depth", "factor"] ["signs", "depth"] (defScope sFactor) := ⟨rfl, rfl, rfl, by decide +kernel, rfl, by decide +kernel, by decide +kernel⟩
theorem an_add : LET.length + FIG.length ≤ sizeLine := by decide +kernel
theorem num_text {z : Str} (h : numOk z = true) : PySem.intText? z = some (numVal z) ∧ z.length ≤ 640 := by
  unfold numOk at h
  simp only [Bool.and_eq_true, decide_eq_true_eq] at h
  obtain ⟨⟨h1, h2⟩, _, h4⟩ := h
  refine ⟨?_, by omega⟩
  refine PySem.intText_digits (fun c hc => ?_) (fun e => ?_) (by omega)
  · exact isFig_iff.mp (List.all_eq_true.mp h4 c hc)
  · have := len_list z; rw [e] at this; simp at this; omega
theorem ok_factor {m k : Nat} {fN fM fR : Addr} {fdN fdM fdR : FuncData} (hk : 3 ≤ k) (hm5 : m ≤ 5) (F : Fun K "read_factor" "read_factor" sFactor f fd) (T : Txt K mg CS CN) (G : CF P w K mg base (CXx P w) k "read_bracket" fG fdG ["signs", "depth"] (spBr CS CN m))
    (MS : CM P w K mg base CX0 2 CS "stands_one_of" fS fdS ["self", "wanted"] (spStands CS)) (MR : CM P w K mg base CX0 3 CS "run_of" fR fdR ["self", "wanted"] (spRun CS))
    (FN : CF P w K mg base CX0 1 "is_name" fN fdN ["word"] spName) (FM : CF P w K mg base CX0 1 "is_number" fM fdM ["word"] spNum) : FnOk P w K mg base (CXx P w) (k + 1) f fd ["signs", "depth"] (spRead CS CN factorP m) := by
  refine F.okX scFactor (fun vs H Q E h => ?_) (fun cdv A outer s H vs Q E hr h => ?_)
  · obtain ⟨a, z, p, rfl, _⟩ := h
    rfl
  obtain ⟨a, z, p, rfl, S, k0⟩ := h
  obtain ⟨tL, hL⟩ := T.let_
  obtain ⟨tF, hF⟩ := T.fig
  refine ⟨_, pss_cons (ps_if (pt_val (pe_meth (pv 0) T.cl MS.me MS.ok (hr.mono (by omega)) MS.bi .nil pass0 (pa_cons pe_str pa_nil))) (pss_one (ps_ret (pe_call G.ok hr rfl G.mg G.kp G.bi .nil passes_x (pa_cons (pv 0) (pa_cons (pe_op op_add (pv 1) pe_int) pa_nil))))) pss_nil)
    (pss_cons (ps_set (i := 2) scFactor.nd rfl (Or.inl rfl) (pe_meth (pv 0) T.cl MR.me MR.ok (hr.mono hk) MR.bi .nil pass0 (pa_cons (pe_op op_add_str (pe_glob (v := .str LET) rfl hL ⟨_, rfl⟩) (pe_glob (v := .str FIG) rfl hF ⟨_, rfl⟩)) pa_nil)))
    (pss_cons (ps_if (pt_val (pe_call FN.ok (hr.mono (by omega)) rfl FN.mg FN.kp FN.bi .nil pass0 (pa_cons (pv 2) pa_nil))) (pss_one (ps_ret (pe_tup (pa_cons pe_str (pa_cons (pv 2) pa_nil))))) pss_nil)
    (pss_cons (ps_if (pt_val (pe_call FM.ok (hr.mono (by omega)) rfl FM.mg FM.kp FM.bi .nil pass0 (pa_cons (pv 2) pa_nil))) (pss_one (ps_ret (pe_tup (pa_cons pe_str (pa_cons (pe_callTy call_int_str rfl T.int PyProof.Rows.boot_int (pa_cons (pv 2) pa_nil)) pa_nil))))) pss_nil)
    (pss_one (ps_raise raises_x rfl rfl T.mgN T.exN (pa_cons pe_str pa_nil)))))), ?_⟩
  obtain ⟨hz, hp, dx, ha⟩ := id S
  refine ⟨_, rfl, a, dx, _, rfl, ha, flds_no _ _ (by decide +kernel) (by decide +kernel), a, z, p, "(", rfl, S, _, rfl, ?_⟩
  rw [factor_eq] at k0
  have st : stands z p "(" = decide ((z.cps.toList.drop p).head? = some 40) := by
    unfold stands
    cases hd : z.cps.toList.drop p with
    | nil => rfl
    | cons c0 r0 =>
      show decide (c0 ∈ ("(" : Str).cps.toList) = decide (some c0 = some 40)
      rw [ops_L, decide_eq_decide]
      simp
  rw [st]
  by_cases h40 : (z.cps.toList.drop p).head? = some 40
  · rw [decide_eq_true h40]
    rw [if_pos h40] at k0
    obtain ⟨r, hd⟩ : ∃ r, z.cps.toList.drop p = 40 :: r := by
      cases hd : z.cps.toList.drop p with
      | nil => rw [hd] at h40; cases h40
      | cons c0 r0 => rw [hd] at h40
                      have : c0 = 40 := by simpa using h40
                      subst this; exact ⟨r0, rfl⟩
    rw [hd] at k0
    refine iteT ⟨_, rfl, _, rfl, _, _, rfl, rfl, a, z, p, r, ?_, hm5, S, hd, k0⟩
    show [V.ref a, V.int (5 - (m : Int) + 1)] = _
    have : (5 - (m : Int) + 1) = 6 - (m : Int) := by omega
    rw [this]
  · rw [decide_eq_false h40]
    rw [if_neg h40] at k0
    refine iteF ⟨_, rfl, a, dx, _, rfl, ha, flds_no _ _ (by decide +kernel) (by decide +kernel), _, _, rfl, rfl, an_add, a, z, p, LET ++ FIG, rfl, S, fun H1 mv1 S1 => ?_⟩
    have ean : (fun c => decide (c ∈ (LET ++ FIG).cps.toList)) = isAN := rfl
    rw [ean] at S1 ⊢
    have fl : (⟨((z.cps.toList.drop p).takeWhile isAN).toArray⟩ : Str).length ≤ sizeLine := by
      show (((z.cps.toList.drop p).takeWhile isAN).toArray).size ≤ sizeLine
      rw [List.size_toArray]
      have := (List.takeWhile_sublist (l := z.cps.toList.drop p) isAN).length_le
      rw [List.length_drop, len_list] at this
      omega
    have dw : z.length - ((z.cps.toList.drop p).dropWhile isAN).length = p + ((z.cps.toList.drop p).takeWhile isAN).length := by
      have e := congrArg List.length (List.takeWhile_append_dropWhile (p := isAN) (l := z.cps.toList.drop p))
      rw [List.length_append, List.length_drop, len_list] at e
      omega
    unfold leafP at k0
    refine ⟨_, rfl, _, rfl, fl, fun H2 g2 => ⟨_, rfl, ?_⟩⟩
    refine ite2 (fun c => ?_) (fun c => ?_)
    · rw [if_pos c] at k0
      have k1 : ∀ v H', Moved H H' a → SgAt CS H' a z (z.length - ((z.cps.toList.drop p).dropWhile isAN).length) → IsE H' (.box ⟨((z.cps.toList.drop p).takeWhile isAN).toArray⟩) v → Q v H' := k0
      refine ⟨_, rfl, small (by show 2 ≤ 1000; decide), fun t ht => ?_⟩
      refine k1 _ _ (mv1.trans ((Moved.same g2).trans (Moved.same (same_new ht _)))) ?_ ⟨t, rfl, upd_same⟩
      rw [dw]
      exact (S1.same g2).same (same_new ht _)
    · rw [if_neg c] at k0
      refine ⟨_, rfl, _, rfl, fl, fun H3 g3 => ⟨_, rfl, ?_⟩⟩
      refine ite2 (fun c2 => ?_) (fun c2 => ?_)
      · rw [if_pos c2] at k0
        have k1 : ∀ v H', Moved H H' a → SgAt CS H' a z (z.length - ((z.cps.toList.drop p).dropWhile isAN).length) → IsE H' (.num (numVal ⟨((z.cps.toList.drop p).takeWhile isAN).toArray⟩)) v → Q v H' := k0
        obtain ⟨n1, n2⟩ := num_text c2
        refine ⟨_, rfl, _, _, rfl, n1, n2, small (by show 2 ≤ 1000; decide), fun t ht => ?_⟩
        refine k1 _ _ (mv1.trans ((Moved.same g2).trans ((Moved.same g3).trans (Moved.same (same_new ht _))))) ?_ ⟨t, rfl, upd_same⟩
        rw [dw]
        exact ((S1.same g2).same g3).same (same_new ht _)
      · rw [if_neg c2] at k0
        exact ⟨small (by show 1 ≤ 1000; decide), k0 H3 (mv1.trans ((Moved.same g2).trans (Moved.same g3)))⟩
end
end Q
namespace Q
open PySem L2 Wd
/-! ### expression -/
def Told (CN : Addr) (H : Hp) (Q : VK) (E : XK) : Option Exp → Prop
  | some e => ∀ v H', Same H H' → IsE H' e v → Q v H'
  | none => ∀ H', Same H H' → E (.ref CN) none H'
def spExpr (CN : Addr) : Sp := fun vs H Q E => ∃ z : Str, vs = [.str z] ∧ z.length ≤ sizeLine ∧ Told CN H Q E (exprP z)
section
variable {P : Program} {w : World} {K : PySem.W.Frag} {mg : Str → Option Value} {base : Heap} {f CS CN fT fI fD : Addr} {fd fdT fdI fdD : FuncData}
theorem scExpr : FnScope ["word", "signs", "e"] ["word"] (defScope sExpr) := ⟨rfl, rfl, rfl, by decide +kernel, rfl, by decide +kernel, by decide +kernel⟩
theorem ok_expr {k : Nat} (hk : 2 ≤ k) (F : Fun K "expression" "expression" sExpr f fd) (T : Txt K mg CS CN) (G : CF P w K mg base (CXx P w) k "read_terms" fT fdT ["signs", "depth"] (spRead CS CN termsP 5))
    (M : Mk K CS fI) (GI : FnOk P w K mg base CX0 1 fI fdI ["self", "word"] (spSInit CS)) (bI : Binds K fdI ["self", "word"] []) (MD : CM P w K mg base CX0 1 CS "is_done" fD fdD ["self"] (spDone CS)) : FnOk P w K mg base (CXx P w) (k + 1) f fd ["word"] (spExpr CN) := by
  refine F.okX scExpr (fun vs H Q E h => ?_) (fun cdv A outer s H vs Q E hr h => ?_)
  · obtain ⟨z, rfl, _⟩ := h
    rfl
  obtain ⟨z, rfl, hz, k0⟩ := h
  obtain ⟨t60, h60⟩ := T.n60
  refine ⟨_, pss_cons (ps_if (pt_cmpR op_gt (pe_callB call_len_str rfl T.len PySem.boot_len (pa_cons (pv 0) pa_nil)) (pe_glob (v := .int 60) rfl h60 ⟨_, rfl⟩) (nomark _)) (pss_one (ps_raise raises_x rfl rfl T.mgN T.exN (pa_cons pe_str pa_nil))) pss_nil)
    (pss_cons (ps_set (i := 1) scExpr.nd rfl (Or.inl rfl) (pe_make M GI (hr.mono hk) rfl T.mgS bI .nil pass0 (pa_cons (pv 0) pa_nil)))
    (pss_cons (ps_set (i := 2) scExpr.nd rfl (Or.inl rfl) (pe_call G.ok hr rfl G.mg G.kp G.bi .nil passes_x (pa_cons (pv 1) (pa_cons pe_int pa_nil))))
    (pss_cons (ps_if (pt_not (pt_val (pe_meth0 (pv 1) T.cl MD.me MD.ok (hr.mono (by omega)) MD.bi .nil pass0))) (pss_one (ps_raise raises_x rfl rfl T.mgN T.exN (pa_cons pe_str pa_nil))) pss_nil)
    (pss_one (ps_ret (pv 2)))))), ?_⟩
  refine ⟨_, rfl, z, rfl, hz, _, _, rfl, rfl, _, rfl, ?_⟩
  unfold exprP at k0
  refine ite2 (fun c => ?_) (fun c => ?_)
  · have c1 : (z.length : Int) > 60 := of_decide_eq_true c
    rw [if_pos (by omega)] at k0
    exact ⟨small (by show 1 ≤ 1000; decide), k0 H (Same.refl _)⟩
  · have c1 : ¬ (z.length : Int) > 60 := of_decide_eq_false (Bool.eq_false_iff.mpr c)
    rw [if_neg (by omega)] at k0
    refine ⟨_, rfl, fun x dx nx ndx nex => ?_⟩
    refine ⟨x, dx, z, rfl, upd_same, hz, fun H1 mv1 S1 => ⟨rfl, ?_⟩⟩
    have s0 : ∀ {H2 : Hp}, Moved H1 H2 x → Same H H2 := fun {H2} mv b o e => mv b o (ne_of_none e nx) (mv1 b o (ne_of_none e nx) (by rw [upd_ne (ne_of_none e nx), upd_ne (ne_of_none e ndx)]; exact e))
    refine ⟨_, rfl, x, z, 0, rfl, S1, ?_⟩
    rw [List.drop_zero]
    cases hG : termsP 5 z.cps.toList with
    | none =>
      rw [hG] at k0
      exact fun H2 mv2 => k0 H2 (s0 mv2)
    | some er =>
      obtain ⟨e1, r1⟩ := er
      rw [hG] at k0
      intro v2 H2 mv2 S2 i2
      obtain ⟨_, hp2, dx2, ha2⟩ := id S2
      refine ⟨_, rfl, x, dx2, _, rfl, ha2, flds_no _ _ (by decide +kernel) (by decide +kernel), x, z, _, rfl, S2, _, rfl, ?_⟩
      have rl : r1.length ≤ z.length := by
        have := (suf_terms 5 _ _ _ hG).length_le
        rw [len_list] at this; exact this
      cases r1 with
      | nil =>
        have k1 : ∀ v H', Same H H' → IsE H' e1 v → Q v H' := k0
        rw [decide_eq_true (by simp : z.length - ([] : List Nat).length = z.length)]
        exact iteF ⟨_, rfl, k1 v2 H2 (s0 mv2) i2⟩
      | cons c0 r0 =>
        have k1 : ∀ H', Same H H' → E (.ref CN) none H' := k0
        rw [decide_eq_false (by rw [List.length_cons] at rl ⊢; omega)]
        exact iteT ⟨small (by show 1 ≤ 1000; decide), k1 H2 (s0 mv2)⟩
end
/-! ### all readers, level by level -/
section
variable {P : Program} {w : World} {K : PySem.W.Frag} {mg : Str → Option Value} {base : Heap} {CS CN fT fF fA fB fS fK fN fM fR : Addr} {fdT fdF fdA fdB fdS fdK fdN fdM fdR : FuncData}
theorem readers (T : Txt K mg CS CN) (FT : Fun K "read_terms" "read_terms" sTerms fT fdT) (bT : Binds K fdT ["signs", "depth"] []) (mT : mg "read_terms" = some (.ref fT))
    (FF : Fun K "read_factors" "read_factors" sFactors fF fdF) (bF : Binds K fdF ["signs", "depth"] []) (mF : mg "read_factors" = some (.ref fF))
    (FA : Fun K "read_factor" "read_factor" sFactor fA fdA) (bA : Binds K fdA ["signs", "depth"] []) (mA : mg "read_factor" = some (.ref fA))
    (FB : Fun K "read_bracket" "read_bracket" sBracket fB fdB) (bB : Binds K fdB ["signs", "depth"] []) (mB : mg "read_bracket" = some (.ref fB))
    (MS : CM P w K mg base CX0 2 CS "stands_one_of" fS fdS ["self", "wanted"] (spStands CS)) (MT : CM P w K mg base CX0 1 CS "take_sign" fK fdK ["self"] (spTake CS)) (MR : CM P w K mg base CX0 3 CS "run_of" fR fdR ["self", "wanted"] (spRun CS))
    (CN' : CF P w K mg base CX0 1 "is_name" fN fdN ["word"] spName) (CM' : CF P w K mg base CX0 1 "is_number" fM fdM ["word"] spNum) :
    ∀ m, m ≤ 5 → CF P w K mg base (CXx P w) (4 * m + 7) "read_terms" fT fdT ["signs", "depth"] (spRead CS CN termsP m)
  | 0, h => by
    have B0 : CF P w K mg base (CXx P w) 4 "read_bracket" fB fdB ["signs", "depth"] (spBr CS CN 0) := ⟨(ok_br0 FB T).mono (by decide), bB, FB.kp, mB⟩
    have A0 : CF P w K mg base (CXx P w) 5 "read_factor" fA fdA ["signs", "depth"] (spRead CS CN factorP 0) := ⟨ok_factor (by decide) h FA T B0 MS MR CN' CM', bA, FA.kp, mA⟩
    have F0 : CF P w K mg base (CXx P w) 6 "read_factors" fF fdF ["signs", "depth"] (spRead CS CN factorsP 0) := ⟨ok_factors (by decide) FF T A0 MS MT, bF, FF.kp, mF⟩
    exact ⟨ok_terms (by decide) FT T F0 MS MT, bT, FT.kp, mT⟩
  | m + 1, h => by
    have T0 := readers T FT bT mT FF bF mF FA bA mA FB bB mB MS MT MR CN' CM' m (by omega)
    have B0 : CF P w K mg base (CXx P w) (4 * m + 8) "read_bracket" fB fdB ["signs", "depth"] (spBr CS CN (m + 1)) := ⟨ok_br (by omega) FB T T0 MS MT, bB, FB.kp, mB⟩
    have A0 : CF P w K mg base (CXx P w) (4 * m + 9) "read_factor" fA fdA ["signs", "depth"] (spRead CS CN factorP (m + 1)) := ⟨ok_factor (by omega) h FA T B0 MS MR CN' CM', bA, FA.kp, mA⟩
    have F0 : CF P w K mg base (CXx P w) (4 * m + 10) "read_factors" fF fdF ["signs", "depth"] (spRead CS CN factorsP (m + 1)) := ⟨ok_factors (by omega) FF T A0 MS MT, bF, FF.kp, mF⟩
    exact ⟨ok_terms (by omega) FT T F0 MS MT, bT, FT.kp, mT⟩
end
end Q
namespace Q
open PySem L2 Wd
theorem isE_rv {K : PySem.W.Frag} {mu : Nat → Addr} {h : List Ob} {H : Hp} : ∀ {e : Exp} {v : V}, IsE H e v → Rv K ⟨mu, h, H⟩ (expW e) v
  | .num n, v, q => by
    obtain ⟨p, rfl, e⟩ := q
    unfold expW Rv
    exact ⟨p, _, rfl, .of e, Rvs.cons (rv_str.mpr rfl) (Rvs.cons (rv_int.mpr rfl) Rvs.nil)⟩
  | .box n, v, q => by
    obtain ⟨p, rfl, e⟩ := q
    unfold expW Rv
    exact ⟨p, _, rfl, .of e, Rvs.cons (rv_str.mpr rfl) (Rvs.cons (rv_str.mpr rfl) Rvs.nil)⟩
  | .bin s l r, v, q => by
    obtain ⟨p, a, b, rfl, e, h1, h2⟩ := q
    unfold expW Rv
    exact ⟨p, _, rfl, .of e, Rvs.cons (rv_str.mpr rfl) (Rvs.cons (isE_rv h1) (Rvs.cons (isE_rv h2) Rvs.nil))⟩
section
variable {P : Program} {w : World} {K : PySem.W.Frag} {mg : Str → Option Value} {base : Heap} {f CN : Addr} {fd : FuncData} {k : Nat}
theorem cg_expr (C : CF P w K mg base (CXx P w) k "expression" f fd ["word"] (spExpr CN)) : CG P w K mg base k "expression" f fd ["word"] 1 fExpr0 :=
  ⟨fn0_of_x C.ok fun vs H Q E h => by
    obtain ⟨o, ws, rfl, hl, R, rv, h⟩ := h
    rcases ws with _ | ⟨x, _ | ⟨_, _⟩⟩
    · exact h.elim
    · obtain ⟨v, rfl, r⟩ := rv.one
      cases x with
      | str z =>
        obtain ⟨hz, h⟩ := h.gd
        refine ⟨z, by rw [rv_str.mp r], hz, ?_⟩
        cases e : exprP z with
        | none => rw [e] at h; exact h.elim
        | some x =>
          rw [e] at h
          exact fun v H' g i => Ps.at (p := ⟨o.mu, o.h, H'⟩) h rfl (Ex.same g) (R.same g) (isE_rv i)
      | _ => exact h.elim
    · exact absurd hl (by simp), C.bi, C.kp, C.mg⟩
end
end Q
namespace Q
open PySem L2 Wd
abbrev s_law_stir : Stmt := top 21
abbrev s_law_parts : Stmt := top 22
abbrev s_law_reckon : Stmt := top 23
abbrev s_law_due : Stmt := top 24
abbrev s_worth : Stmt := top 19
abbrev s_law : Stmt := top 25
noncomputable def g_law_stir : Env' → M Fl := (sSeq (sIf (mB (m2 geW (mVar 0) (m2 powW (mC (.int 10)) (mC (.int 18))))) (sRet (m2 modW (m2 shrW (m2 subW (mVar 0) (m2 powW (mC (.int 10)) (mC (.int 18)))) (m2 mulW (mC (.int 28)) (mVar 1))) (m2 powW (mC (.int 2)) (mC (.int 28))))) sNil) (sSeq (sSet 2 (m2 modW (m2 mulW (m2 addW (m2 addW (mVar 0) (m2 mulW (mC (.int 1013)) (mVar 1))) (mC (.int 1))) (mC (.int 16807))) (mC (.int 2147483647)))) (sSeq (sSet 2 (m2 modW (m2 mulW (mVar 2) (mVar 2)) (mC (.int 2147483629)))) (sRet (m2 fdivW (m2 modW (m2 mulW (mVar 2) (mC (.int 39373))) (mC (.int 2147483587))) (mC (.int 8)))))))
noncomputable def f_law_stir : List W → M W := runF 3 g_law_stir
noncomputable def g_law_parts : Env' → M Fl := (sSeq (sSet 1 (mNew (lenG mNil))) (sSeq (sSet 2 (mC (.int 0))) (sSeq (sFor (mSrcA (mCons (m2 addW (mC (.int 1)) (m2 modW (mCall (arW 2 f_law_stir) (mCons (mVar 0) (mCons (mC (.int 0)) mNil))) (mC (.int 10)))) mNil) rng1) (tgN 3) (sSeq (sSet 4 (mCall (arW 2 f_law_stir) (mCons (mVar 0) (mCons (m2 addW (mC (.int 1)) (mVar 3)) mNil)))) (sSeq (whileM (mAnd (mB (m2 eqW (m2 modW (mVar 4) (mC (.int 4))) (mC (.int 0)))) (mAnd (mB (m2 gtW (mVar 4) (mC (.int 0)))) (mB (m2 ltW (mVar 2) (mC (.int 5)))))) (sSeq (sEx (mMeth isL appendW (mVar 1) (mCons (mC (.str "(")) mNil))) (sSeq (sSet 2 (m2 addW (mVar 2) (mC (.int 1)))) (sSet 4 (m2 fdivW (mVar 4) (mC (.int 4)))))) 1000) (sSeq (sSet 5 (m2 ixW (mTl (lenG (mCons (mCall strW (mCons (m2 modW (m2 fdivW (mVar 4) (mC (.int 8))) (mC (.int 12))) mNil)) (mCons (mCall strW (mCons (m2 modW (m2 fdivW (mVar 4) (mC (.int 8))) (mC (.int 1000))) mNil)) (mCons (mC (.str "a")) (mCons (mC (.str "bb")) (mCons (mC (.str "c")) (mCons (mC (.str "a")) (mCons (mC (.str "bb")) mNil))))))))) (m2 modW (mVar 4) (mC (.int 7))))) (sSeq (sEx (mMeth isL appendW (mVar 1) (mCons (mVar 5) mNil))) (sSeq (sSet 4 (m2 fdivW (mVar 4) (mC (.int 56)))) (sSeq (whileM (mAnd (mB (m2 eqW (m2 modW (mVar 4) (mC (.int 3))) (mC (.int 0)))) (mAnd (mB (m2 gtW (mVar 4) (mC (.int 0)))) (mB (m2 gtW (mVar 2) (mC (.int 0)))))) (sSeq (sEx (mMeth isL appendW (mVar 1) (mCons (mC (.str ")")) mNil))) (sSeq (sSet 2 (m2 subW (mVar 2) (mC (.int 1)))) (sSet 4 (m2 fdivW (mVar 4) (mC (.int 3)))))) 1000) (sEx (mMeth isL appendW (mVar 1) (mCons (m2 ixW (mC (.str "+-*")) (m2 modW (mVar 4) (mC (.int 3)))) mNil)))))))))) (sRet (m2 addW (m3 slW (mVar 1) mNoPart (mPart (m1 negW (mC (.int 1))))) (m2 mulW (mTl (lenG (mCons (mC (.str ")")) mNil))) (mVar 2)))))))
noncomputable def f_law_parts : List W → M W := runF 6 g_law_parts
noncomputable def g_law_reckon : Env' → M Fl := (sSeq (sSet 2 (mMeth isL popW (mVar 1) mNil)) (sSeq (sSet 3 (mMeth isL popW (mVar 0) mNil)) (sSeq (sSet 4 (mMeth isL popW (mVar 0) mNil)) (sEx (mMeth isL appendW (mVar 0) (mCons (m2 ixW (m1 iceW (mDisp [((mC (.str "+")), (m2 addW (mVar 4) (mVar 3))), ((mC (.str "-")), (m2 subW (mVar 4) (mVar 3))), ((mC (.str "*")), (m2 mulW (mVar 4) (mVar 3)))])) (mVar 2)) mNil))))))
noncomputable def f_law_reckon : List W → M W := runF 5 g_law_reckon
noncomputable def g_law_due : Env' → M Fl := (sSeq (sSet 2 (mNew (lenG mNil))) (sSeq (sSet 3 (mNew (lenG mNil))) (sSeq (sFor (mSrc (m2 addW (mVar 0) (mTl (lenG (mCons (mC (.str ")")) mNil)))) srcL) (tgN 4) (sIf (mB (m2 eqW (mVar 4) (mC (.str "(")))) (sEx (mMeth isL appendW (mVar 3) (mCons (mVar 4) mNil))) (sIf (mB (m2 inW (mVar 4) (mVar 1))) (sEx (mMeth isL appendW (mVar 2) (mCons (m2 ixW (mVar 1) (mVar 4)) mNil))) (sIf (mB (m2 notInW (mVar 4) (mTl (lenG (mCons (mC (.str "+")) (mCons (mC (.str "-")) (mCons (mC (.str "*")) (mCons (mC (.str ")")) mNil)))))))) (sEx (mMeth isL appendW (mVar 2) (mCons (mCall intW (mCons (mVar 4) mNil)) mNil))) (sSeq (whileM (mAnd (mB (m2 neW (mVar 3) (mTl (lenG mNil)))) (mAnd (mB (m2 neW (m2 ixW (mVar 3) (m1 negW (mC (.int 1)))) (mC (.str "(")))) (mOr (mB (m2 neW (mVar 4) (mC (.str "*")))) (mB (m2 eqW (m2 ixW (mVar 3) (m1 negW (mC (.int 1)))) (mC (.str "*"))))))) (sEx (mCall (arW 2 f_law_reckon) (mCons (mVar 2) (mCons (mVar 3) mNil)))) 1000) (sIf (mB (m2 neW (mVar 4) (mC (.str ")")))) (sEx (mMeth isL appendW (mVar 3) (mCons (mVar 4) mNil))) (sIf (mB (m2 neW (mVar 3) (mTl (lenG mNil)))) (sEx (mMeth isL popW (mVar 3) mNil)) sNil))))))) (sRet (m2 ixW (mVar 2) (mC (.int 0)))))))
noncomputable def f_law_due : List W → M W := runF 5 g_law_due
noncomputable def g_worth (fr : List W → M W) : Env' → M Fl := (sSeq (sIf (mB (m2 eqW (m2 ixW (mVar 0) (mC (.int 0))) (mC (.str "number")))) (sRet (m2 ixW (mVar 0) (mC (.int 1)))) sNil) (sSeq (sIf (mB (m2 eqW (m2 ixW (mVar 0) (mC (.int 0))) (mC (.str "box")))) (sRet (m2 ixW (mVar 1) (m2 ixW (mVar 0) (mC (.int 1))))) sNil) (sSeq (sSet 2 (mCall (arW 2 fr) (mCons (m2 ixW (mVar 0) (mC (.int 1))) (mCons (mVar 1) mNil)))) (sSeq (sSet 3 (mCall (arW 2 fr) (mCons (m2 ixW (mVar 0) (mC (.int 2))) (mCons (mVar 1) mNil)))) (sSeq (sIf (mB (m2 eqW (m2 ixW (mVar 0) (mC (.int 0))) (mC (.str "+")))) (sRet (m2 addW (mVar 2) (mVar 3))) sNil) (sSeq (sIf (mB (m2 eqW (m2 ixW (mVar 0) (mC (.int 0))) (mC (.str "-")))) (sRet (m2 subW (mVar 2) (mVar 3))) sNil) (sRet (m2 mulW (mVar 2) (mVar 3)))))))))
noncomputable def f_worth : Nat → List W → M W
  | 0 => fun _ => no
  | n + 1 => runF 4 (g_worth (f_worth n))
noncomputable def g_law : Env' → M Fl := (sSeq (sFor (mSrc (m3 slW (mVar 0) mNoPart (mPart (mC (.int 63)))) srcL) (tgN 1) (sSeq (sSet 2 (mCall (arW 1 f_law_parts) (mCons (mVar 1) mNil))) (sSeq (sSet 3 (mMeth isS joinW (mC (.str "")) (mCons (mVar 2) mNil))) (sSeq (sSet 4 (mCall (arW 2 f_law_stir) (mCons (mVar 1) (mCons (mC (.int 40)) mNil)))) (sSeq (sSet 5 (m1 iceW (mDisp [((mC (.str "a")), (m2 subW (m2 modW (mVar 4) (mC (.int 41))) (mC (.int 20)))), ((mC (.str "bb")), (m2 subW (m2 modW (m2 fdivW (mVar 4) (mC (.int 41))) (mC (.int 2001))) (mC (.int 1000)))), ((mC (.str "c")), (m2 modW (m2 fdivW (mVar 4) (mC (.int 100000))) (mC (.int 200))))]))) (sIf (mAnd (mB (m2 leW (mCall lenW (mCons (mVar 3) mNil)) (mC (.int 60)))) (mB (m2 neW (mCall (arW 2 (f_worth 12)) (mCons (mCall (arW 1 fExpr0) (mCons (mVar 3) mNil)) (mCons (mVar 5) mNil))) (mCall (arW 2 f_law_due) (mCons (mVar 2) (mCons (mVar 5) mNil)))))) (sRet (mC (.bl false))) sNil)))))) (sRet (mC (.bl true))))
noncomputable def f_law : List W → M W := runF 6 g_law
section
variable {P : Program} {w : World} {K : PySem.W.Frag} {mg : Str → Option Value} {base : Heap} {f : Addr} {fd : FuncData}
theorem sc_law_stir : FnScope ["cell", "k", "number"] ["cell", "k"] (defScope s_law_stir) := ⟨rfl, rfl, rfl, by decide +kernel, rfl, by decide +kernel, by decide +kernel⟩
theorem ok_law_stir   (F : Fun K "_law_stir" "_law_stir" s_law_stir f fd) (B : Binds K fd ["cell", "k"] []) (Mf : mg "_law_stir" = some (.ref f)) : CG P w K mg base 1 "_law_stir" f fd ["cell", "k"] 2 f_law_stir := by
  refine ⟨def_m (g := g_law_stir) F sc_law_stir rfl rfl rfl fun cdv A outer s H E hr => ?_, B, F.kp, Mf⟩
  have hu := hu_of hr
  have hu6 := hr.units
  exact (mss_cons (ms_if (mt_cmp or_ge opm_ge (me_var 0) (me_pow me_int me_int) (nomark _)) (mss_one (ms_ret (me_mod (me_shr (me_sub (me_var 0) (me_pow me_int me_int)) (me_mul me_int (me_var 1))) (me_pow me_int me_int)))) mss_nil)
    (mss_cons (ms_set (i := 2) sc_law_stir.nd rfl (Or.inl rfl) (me_mod (me_mul (me_add (me_add (me_var 0) (me_mul me_int (me_var 1))) me_int) me_int) me_int))
    (mss_cons (ms_set (i := 2) sc_law_stir.nd rfl (Or.inl rfl) (me_mod (me_mul (me_var 2) (me_var 2)) me_int))
    (mss_one (ms_ret (me_fdiv (me_mod (me_mul (me_var 2) me_int) me_int) me_int))))))
theorem sc_law_parts : FnScope ["cell", "parts", "deep", "k", "number", "leaf"] ["cell"] (defScope s_law_parts) := ⟨rfl, rfl, rfl, by decide +kernel, rfl, by decide +kernel, by decide +kernel⟩
theorem ok_law_parts {a_law_stir : Addr} {d_law_stir : FuncData} (y_range : mg "range" = none) (y_str : mg "str" = none) (C_law_stir : CG P w K mg base 1 "_law_stir" a_law_stir d_law_stir ["cell", "k"] 2 f_law_stir) (F : Fun K "_law_parts" "_law_parts" s_law_parts f fd) (B : Binds K fd ["cell"] []) (Mf : mg "_law_parts" = some (.ref f)) : CG P w K mg base 2 "_law_parts" f fd ["cell"] 1 f_law_parts := by
  refine ⟨def_m (g := g_law_parts) F sc_law_parts rfl rfl rfl fun cdv A outer s H E hr => ?_, B, F.kp, Mf⟩
  have hu := hu_of hr
  have hu6 := hr.units
  exact (mss_cons (ms_set (i := 1) sc_law_parts.nd rfl (Or.inl rfl) (me_new (mf_lst ma_nil)))
    (mss_cons (ms_set (i := 2) sc_law_parts.nd rfl (Or.inl rfl) me_int)
    (mss_cons (ms_for PassesOwn.never rfl (mi_range1 rfl y_range (ma_cons (me_add me_int (me_mod (me_fn (ps := ["cell", "k"]) C_law_stir (hr.mono (by omega)) (ma_cons (me_var 0) (ma_cons me_int ma_nil se_c) se_n) (he := se_n) (hpl := (ns_cons se_c ns_nil))) me_int)) ma_nil se_b)) (pg_name (i := 3) sc_law_parts.nd rfl (Or.inl rfl)) (tg_name 6 3 (by decide)) (mss_cons (ms_set (i := 4) sc_law_parts.nd rfl (Or.inl rfl) (me_fn (ps := ["cell", "k"]) C_law_stir (hr.mono (by omega)) (ma_cons (me_var 0) (ma_cons (me_add me_int (me_var 3)) ma_nil se_b) se_n) (he := se_n) (hpl := (ns_cons se_b ns_nil))))
    (mss_cons (ms_while 1000 PassesOwn.never (jw_pt (mw_and (mt_cmp or_eq (opm_eq hu6) (me_mod (me_var 4) me_int) me_int (nomark _)) (mw_and (mt_cmp or_gt opm_gt (me_var 4) me_int (nomark _)) (mw_and1 (mt_cmp or_lt opm_lt (me_var 2) me_int (nomark _)))))) (mss_cons (ms_expr (me_append (me_var 1) (ma_cons me_str ma_nil se_c)))
    (mss_cons (ms_set (i := 2) sc_law_parts.nd rfl (Or.inl rfl) (me_add (me_var 2) me_int))
    (mss_one (ms_set (i := 4) sc_law_parts.nd rfl (Or.inl rfl) (me_fdiv (me_var 4) me_int))))))
    (mss_cons (ms_set (i := 5) sc_law_parts.nd rfl (Or.inl rfl) (me_ix hu (me_tl (mf_lst (ma_cons (me_strF y_str (ma_cons (me_mod (me_fdiv (me_var 4) me_int) me_int) ma_nil se_b) (he := se_b) (hpl := ns_nil)) (ma_cons (me_strF y_str (ma_cons (me_mod (me_fdiv (me_var 4) me_int) me_int) ma_nil se_b) (he := se_b) (hpl := ns_nil)) (ma_cons me_str (ma_cons me_str (ma_cons me_str (ma_cons me_str (ma_cons me_str ma_nil se_c) se_c) se_c) se_c) se_c) se_f) se_f))) (me_mod (me_var 4) me_int) (fun _ _ => rfl)))
    (mss_cons (ms_expr (me_append (me_var 1) (ma_cons (me_var 5) ma_nil se_n)))
    (mss_cons (ms_set (i := 4) sc_law_parts.nd rfl (Or.inl rfl) (me_fdiv (me_var 4) me_int))
    (mss_cons (ms_while 1000 PassesOwn.never (jw_pt (mw_and (mt_cmp or_eq (opm_eq hu6) (me_mod (me_var 4) me_int) me_int (nomark _)) (mw_and (mt_cmp or_gt opm_gt (me_var 4) me_int (nomark _)) (mw_and1 (mt_cmp or_gt opm_gt (me_var 2) me_int (nomark _)))))) (mss_cons (ms_expr (me_append (me_var 1) (ma_cons me_str ma_nil se_c)))
    (mss_cons (ms_set (i := 2) sc_law_parts.nd rfl (Or.inl rfl) (me_sub (me_var 2) me_int))
    (mss_one (ms_set (i := 4) sc_law_parts.nd rfl (Or.inl rfl) (me_fdiv (me_var 4) me_int))))))
    (mss_one (ms_expr (me_append (me_var 1) (ma_cons (me_ix hu me_str (me_mod (me_var 4) me_int) (fun _ _ => rfl)) ma_nil se_s)))))))))))
    (mss_one (ms_ret (me_add (me_sl (me_var 1) mo_none (mo_some (me_neg me_int))) (me_mul (me_tl (mf_lst (ma_cons me_str ma_nil se_c))) (me_var 2))))))))
theorem sc_law_reckon : FnScope ["numbers", "signs", "sign", "other", "one"] ["numbers", "signs"] (defScope s_law_reckon) := ⟨rfl, rfl, rfl, by decide +kernel, rfl, by decide +kernel, by decide +kernel⟩
theorem ok_law_reckon   (F : Fun K "_law_reckon" "_law_reckon" s_law_reckon f fd) (B : Binds K fd ["numbers", "signs"] []) (Mf : mg "_law_reckon" = some (.ref f)) : CG P w K mg base 1 "_law_reckon" f fd ["numbers", "signs"] 2 f_law_reckon := by
  refine ⟨def_m (g := g_law_reckon) F sc_law_reckon rfl rfl rfl fun cdv A outer s H E hr => ?_, B, F.kp, Mf⟩
  have hu := hu_of hr
  have hu6 := hr.units
  exact (mss_cons (ms_set (i := 2) sc_law_reckon.nd rfl (Or.inl rfl) (me_pop (me_var 1)))
    (mss_cons (ms_set (i := 3) sc_law_reckon.nd rfl (Or.inl rfl) (me_pop (me_var 0)))
    (mss_cons (ms_set (i := 4) sc_law_reckon.nd rfl (Or.inl rfl) (me_pop (me_var 0)))
    (mss_one (ms_expr (me_append (me_var 0) (ma_cons (me_ix hu (me_ice (me_disp (jp_cons me_str (me_add (me_var 4) (me_var 3)) (jp_cons me_str (me_sub (me_var 4) (me_var 3)) (jp_cons me_str (me_mul (me_var 4) (me_var 3)) jp_nil))) rfl rfl (by simp) (by decide))) (me_var 2) (fun _ _ => rfl)) ma_nil se_s)))))))
theorem sc_law_due : FnScope ["parts", "values", "numbers", "signs", "part"] ["parts", "values"] (defScope s_law_due) := ⟨rfl, rfl, rfl, by decide +kernel, rfl, by decide +kernel, by decide +kernel⟩
theorem ok_law_due {a_law_reckon : Addr} {d_law_reckon : FuncData} (y_int : mg "int" = none) (C_law_reckon : CG P w K mg base 1 "_law_reckon" a_law_reckon d_law_reckon ["numbers", "signs"] 2 f_law_reckon) (F : Fun K "_law_due" "_law_due" s_law_due f fd) (B : Binds K fd ["parts", "values"] []) (Mf : mg "_law_due" = some (.ref f)) : CG P w K mg base 2 "_law_due" f fd ["parts", "values"] 2 f_law_due := by
  refine ⟨def_m (g := g_law_due) F sc_law_due rfl rfl rfl fun cdv A outer s H E hr => ?_, B, F.kp, Mf⟩
  have hu := hu_of hr
  have hu6 := hr.units
  exact (mss_cons (ms_set (i := 2) sc_law_due.nd rfl (Or.inl rfl) (me_new (mf_lst ma_nil)))
    (mss_cons (ms_set (i := 3) sc_law_due.nd rfl (Or.inl rfl) (me_new (mf_lst ma_nil)))
    (mss_cons (ms_for PassesOwn.never rfl (mi_list (me_add (me_var 0) (me_tl (mf_lst (ma_cons me_str ma_nil se_c))))) (pg_name (i := 4) sc_law_due.nd rfl (Or.inl rfl)) (tg_name 5 4 (by decide)) (mss_one (ms_if (mt_cmp or_eq (opm_eq hu6) (me_var 4) me_str (nomark _)) (mss_one (ms_expr (me_append (me_var 3) (ma_cons (me_var 4) ma_nil se_n)))) (mss_one (ms_if (mt_cmp (or_in hu) opm_in (me_var 4) (me_var 1) (by with_unfolding_all rfl)) (mss_one (ms_expr (me_append (me_var 2) (ma_cons (me_ix hu (me_var 1) (me_var 4) (fun _ _ => rfl)) ma_nil se_s)))) (mss_one (ms_if (mt_cmp (or_notIn hu) opm_notIn (me_var 4) (me_tl (mf_lst (ma_cons me_str (ma_cons me_str (ma_cons me_str (ma_cons me_str ma_nil se_c) se_c) se_c) se_c))) (by with_unfolding_all rfl)) (mss_one (ms_expr (me_append (me_var 2) (ma_cons (me_intF y_int (ma_cons (me_var 4) ma_nil se_n) (he := se_n) (hpl := ns_nil)) ma_nil se_f)))) (mss_cons (ms_while 1000 PassesOwn.never (jw_pt (mw_and (mt_cmp or_ne (opm_ne hu6) (me_var 3) (me_tl (mf_lst ma_nil)) (nomark _)) (mw_and (mt_cmp or_ne (opm_ne hu6) (me_ix hu (me_var 3) (me_neg me_int) (fun _ _ => rfl)) me_str (nomark _)) (mw_and1 (jw_pt (mw_or (mt_cmp or_ne (opm_ne hu6) (me_var 4) me_str (nomark _)) (mw_or1 (mt_cmp or_eq (opm_eq hu6) (me_ix hu (me_var 3) (me_neg me_int) (fun _ _ => rfl)) me_str (nomark _))))))))) (mss_one (ms_expr (me_fn (ps := ["numbers", "signs"]) C_law_reckon (hr.mono (by omega)) (ma_cons (me_var 2) (ma_cons (me_var 3) ma_nil se_n) se_n) (he := se_n) (hpl := (ns_cons se_n ns_nil))))))
    (mss_one (ms_if (mt_cmp or_ne (opm_ne hu6) (me_var 4) me_str (nomark _)) (mss_one (ms_expr (me_append (me_var 3) (ma_cons (me_var 4) ma_nil se_n)))) (mss_one (ms_if (mt_cmp or_ne (opm_ne hu6) (me_var 3) (me_tl (mf_lst ma_nil)) (nomark _)) (mss_one (ms_expr (me_pop (me_var 3)))) mss_nil))))))))))))
    (mss_one (ms_ret (me_ix hu (me_var 2) me_int (fun _ _ => rfl)))))))
theorem sc_worth : FnScope ["e", "values", "left", "right"] ["e", "values"] (defScope s_worth) := ⟨rfl, rfl, rfl, by decide +kernel, rfl, by decide +kernel, by decide +kernel⟩
theorem ok_worth   (F : Fun K "worth" "worth" s_worth f fd) (B : Binds K fd ["e", "values"] []) (Mf : mg "worth" = some (.ref f)) : ∀ n : Nat, CG P w K mg base (1 + n) "worth" f fd ["e", "values"] 2 (f_worth n)
  | 0 => ⟨def_no fun _ _ => rfl, B, F.kp, Mf⟩
  | n + 1 => by
    have C_worth := ok_worth  F B Mf n
    refine ⟨def_m (g := g_worth (f_worth n)) F sc_worth rfl rfl rfl fun cdv A outer s H E hr => ?_, B, F.kp, Mf⟩
    have hr : Room (1 + n) _ := hr
    have hu := hu_of hr
    have hu6 := hr.units
    exact (mss_cons (ms_if (mt_cmp or_eq (opm_eq hu6) (me_ix hu (me_var 0) me_int (fun _ _ => rfl)) me_str (nomark _)) (mss_one (ms_ret (me_ix hu (me_var 0) me_int (fun _ _ => rfl)))) mss_nil)
      (mss_cons (ms_if (mt_cmp or_eq (opm_eq hu6) (me_ix hu (me_var 0) me_int (fun _ _ => rfl)) me_str (nomark _)) (mss_one (ms_ret (me_ix hu (me_var 1) (me_ix hu (me_var 0) me_int (fun _ _ => rfl)) (fun _ _ => rfl)))) mss_nil)
      (mss_cons (ms_set (i := 2) sc_worth.nd rfl (Or.inl rfl) (me_fn (ps := ["e", "values"]) C_worth (hr.mono (by omega)) (ma_cons (me_ix hu (me_var 0) me_int (fun _ _ => rfl)) (ma_cons (me_var 1) ma_nil se_n) se_s) (he := se_s) (hpl := (ns_cons se_n ns_nil))))
      (mss_cons (ms_set (i := 3) sc_worth.nd rfl (Or.inl rfl) (me_fn (ps := ["e", "values"]) C_worth (hr.mono (by omega)) (ma_cons (me_ix hu (me_var 0) me_int (fun _ _ => rfl)) (ma_cons (me_var 1) ma_nil se_n) se_s) (he := se_s) (hpl := (ns_cons se_n ns_nil))))
      (mss_cons (ms_if (mt_cmp or_eq (opm_eq hu6) (me_ix hu (me_var 0) me_int (fun _ _ => rfl)) me_str (nomark _)) (mss_one (ms_ret (me_add (me_var 2) (me_var 3)))) mss_nil)
      (mss_cons (ms_if (mt_cmp or_eq (opm_eq hu6) (me_ix hu (me_var 0) me_int (fun _ _ => rfl)) me_str (nomark _)) (mss_one (ms_ret (me_sub (me_var 2) (me_var 3)))) mss_nil)
      (mss_one (ms_ret (me_mul (me_var 2) (me_var 3))))))))))
theorem sc_law : FnScope ["script", "cell", "parts", "word", "far", "values"] ["script"] (defScope s_law) := ⟨rfl, rfl, rfl, by decide +kernel, rfl, by decide +kernel, by decide +kernel⟩
theorem ok_law {a_law_parts : Addr} {d_law_parts : FuncData} {a_law_stir : Addr} {d_law_stir : FuncData} {a_worth : Addr} {d_worth : FuncData} {a_law_due : Addr} {d_law_due : FuncData} {a_expression : Addr} {d_expression : FuncData} (y_len : mg "len" = none) (C0_expression : CG P w K mg base 28 "expression" a_expression d_expression ["word"] 1 fExpr0) (C_law_parts : CG P w K mg base 2 "_law_parts" a_law_parts d_law_parts ["cell"] 1 f_law_parts) (C_law_stir : CG P w K mg base 1 "_law_stir" a_law_stir d_law_stir ["cell", "k"] 2 f_law_stir) (C_worth : CG P w K mg base 13 "worth" a_worth d_worth ["e", "values"] 2 (f_worth 12)) (C_law_due : CG P w K mg base 2 "_law_due" a_law_due d_law_due ["parts", "values"] 2 f_law_due) (F : Fun K "law" "law" s_law f fd) (B : Binds K fd ["script"] []) (Mf : mg "law" = some (.ref f)) : CG P w K mg base 29 "law" f fd ["script"] 1 f_law := by
  refine ⟨def_m (g := g_law) F sc_law rfl rfl rfl fun cdv A outer s H E hr => ?_, B, F.kp, Mf⟩
  have hu := hu_of hr
  have hu6 := hr.units
  exact (mss_cons (ms_for PassesOwn.never rfl (mi_list (me_sl (me_var 0) mo_none (mo_some me_int))) (pg_name (i := 1) sc_law.nd rfl (Or.inl rfl)) (tg_name 6 1 (by decide)) (mss_cons (ms_set (i := 2) sc_law.nd rfl (Or.inl rfl) (me_fn (ps := ["cell"]) C_law_parts (hr.mono (by omega)) (ma_cons (me_var 1) ma_nil se_n) (he := se_n) (hpl := ns_nil)))
    (mss_cons (ms_set (i := 3) sc_law.nd rfl (Or.inl rfl) (me_join me_str (ma_cons (me_var 2) ma_nil se_n)))
    (mss_cons (ms_set (i := 4) sc_law.nd rfl (Or.inl rfl) (me_fn (ps := ["cell", "k"]) C_law_stir (hr.mono (by omega)) (ma_cons (me_var 1) (ma_cons me_int ma_nil se_c) se_n) (he := se_n) (hpl := (ns_cons se_c ns_nil))))
    (mss_cons (ms_set (i := 5) sc_law.nd rfl (Or.inl rfl) (me_ice (me_disp (jp_cons me_str (me_sub (me_mod (me_var 4) me_int) me_int) (jp_cons me_str (me_sub (me_mod (me_fdiv (me_var 4) me_int) me_int) me_int) (jp_cons me_str (me_mod (me_fdiv (me_var 4) me_int) me_int) jp_nil))) rfl rfl (by simp) (by decide))))
    (mss_one (ms_if (jw_pt (mw_and (mt_cmp or_le opm_le (me_len y_len (ma_cons (me_var 3) ma_nil se_n) (he := se_n) (hpl := ns_nil)) me_int (nomark _)) (mw_and1 (mt_cmp or_ne (opm_ne hu6) (me_fn (ps := ["e", "values"]) C_worth (hr.mono (by omega)) (ma_cons (me_fn (ps := ["word"]) C0_expression (hr.mono (by omega)) (ma_cons (me_var 3) ma_nil se_n) (he := se_n) (hpl := ns_nil)) (ma_cons (me_var 5) ma_nil se_n) se_f) (he := se_f) (hpl := (ns_cons se_n ns_nil))) (me_fn (ps := ["parts", "values"]) C_law_due (hr.mono (by omega)) (ma_cons (me_var 2) (ma_cons (me_var 5) ma_nil se_n) se_n) (he := se_n) (hpl := (ns_cons se_n ns_nil))) (nomark _))))) (mss_one (ms_ret me_bl)) mss_nil)))))))
    (mss_one (ms_ret me_bl)))
end
end Q
set_option maxHeartbeats 1000000
/-! words by their parts: what is read, and what it is worth -/
namespace Wd
open PySem L2
def val (vs : Str → Int) : Exp → Int
  | .num n => n
  | .box x => vs x
  | .bin s l r => if s = ⟨#[43]⟩ then val vs l + val vs r else if s = ⟨#[45]⟩ then val vs l - val vs r else val vs l * val vs r
def lvs : Exp → Nat
  | .num _ => 1
  | .box _ => 1
  | .bin _ l r => lvs l + lvs r
theorem lvs_pos : ∀ e : Exp, 1 ≤ lvs e
  | .num _ => Nat.le_refl _
  | .box _ => Nat.le_refl _
  | .bin _ l r => Nat.le_trans (lvs_pos l) (Nat.le_add_right _ _)
def names : List Str := ["a", "bb", "c"]
def WfE : Exp → Prop
  | .num n => n.natAbs ≤ 1000
  | .box z => z ∈ names
  | .bin s l r => (s = ⟨#[43]⟩ ∨ s = ⟨#[45]⟩ ∨ s = ⟨#[42]⟩) ∧ WfE l ∧ WfE r
def Vok (vs : Str → Int) : Prop := ∀ z ∈ names, (vs z).natAbs ≤ 1000
theorem pow_ge {a : Nat} (h : 1 ≤ a) : 1000 ≤ 1000 ^ a := by
  have := Nat.pow_le_pow_right (n := 1000) (by decide) h
  simpa using this
theorem add_le_mul {p q : Nat} (hp : 2 ≤ p) (hq : 2 ≤ q) : p + q ≤ p * q := by
  by_cases h : p ≤ q
  · have := Nat.mul_le_mul_right q hp
    omega
  · have := Nat.mul_le_mul_left p hq
    omega
theorem wf_bd {vs : Str → Int} (V : Vok vs) : ∀ {e : Exp}, WfE e → (val vs e).natAbs ≤ 1000 ^ lvs e
  | .num n, h => by have h : n.natAbs ≤ 1000 := h; simpa [val, lvs] using h
  | .box z, h => by have := V z h; simpa [val, lvs] using this
  | .bin s l r, h => by
    have a := wf_bd V h.2.1
    have b := wf_bd V h.2.2
    have e : 1000 ^ lvs (.bin s l r) = 1000 ^ lvs l * 1000 ^ lvs r := Nat.pow_add _ _ _
    have p1 := pow_ge (lvs_pos l)
    have p2 := pow_ge (lvs_pos r)
    have m := add_le_mul (p := 1000 ^ lvs l) (q := 1000 ^ lvs r) (by omega) (by omega)
    rw [e]
    unfold val
    split
    · have := Int.natAbs_add_le (val vs l) (val vs r); omega
    · split
      · have := Int.natAbs_sub_le (val vs l) (val vs r); omega
      · rw [Int.natAbs_mul]; exact Nat.mul_le_mul a b
theorem wf_small {vs : Str → Int} (V : Vok vs) {e : Exp} (h : WfE e) (z : lvs e ≤ 5) : -(2 ^ 64) < val vs e ∧ val vs e < 2 ^ 64 := by
  have a : 1000 ^ lvs e ≤ 1000 ^ 5 := Nat.pow_le_pow_right (by decide) z
  have b : (1000 : Nat) ^ 5 < 2 ^ 63 := by decide
  have h := wf_bd V h
  omega
theorem mul_ok {vs : Str → Int} (V : Vok vs) {x y : Exp} (a : WfE x) (b : WfE y) (z : lvs x + lvs y ≤ 10) : CMulA (val vs x) (val vs y) := by
  by_cases h : lvs x ≤ 5
  · exact mulA_l (wf_small V a h).1 (wf_small V a h).2
  · exact mulA_r (wf_small V b (by omega)).1 (wf_small V b (by omega)).2
structure Lvl where
  s : Option (Exp × Nat)
  p : Option Exp
def Lvl.prod (L : Lvl) (e : Exp) : Exp := match L.p with
  | none => e
  | some y => .bin ⟨#[42]⟩ y e
def Lvl.sum (L : Lvl) (e : Exp) : Exp := match L.s with
  | none => L.prod e
  | some (x, c) => .bin ⟨#[c]⟩ x (L.prod e)
def Lvl.op (L : Lvl) (c : Nat) (e : Exp) : Lvl := if c = 42 then ⟨L.s, some (L.prod e)⟩ else ⟨some (L.sum e, c), none⟩
def Lvl.e0 : Lvl := ⟨none, none⟩
structure Sta where
  o : List Lvl
  L : Lvl
  a : Option Exp
  n : Nat
inductive Leaf : Str → Exp → Prop
  | name (z : Str) : z ∈ names → Leaf z (.box z)
  | num (z : Str) : numOk z = true → (numVal z).natAbs ≤ 1000 → Leaf z (.num (numVal z))
inductive Stp : Sta → Str → Sta → Prop
  | lp {o : List Lvl} {L : Lvl} {n : Nat} : o.length < 5 → Stp ⟨o, L, none, n⟩ "(" ⟨L :: o, Lvl.e0, none, n⟩
  | leaf {o : List Lvl} {L : Lvl} {n : Nat} {z : Str} {e : Exp} : Leaf z e → Stp ⟨o, L, none, n⟩ z ⟨o, L, some e, n + 1⟩
  | rp {o : List Lvl} {K L : Lvl} {e : Exp} {n : Nat} : Stp ⟨K :: o, L, some e, n⟩ ")" ⟨o, K, some (L.sum e), n⟩
  | op {o : List Lvl} {L : Lvl} {e : Exp} {n c : Nat} : (c = 43 ∨ c = 45 ∨ c = 42) → Stp ⟨o, L, some e, n⟩ ⟨#[c]⟩ ⟨o, L.op c e, none, n⟩
inductive Runs : Sta → List Str → Sta → Prop
  | nil {s : Sta} : Runs s [] s
  | cons {s s' s'' : Sta} {t : Str} {r : List Str} : Stp s t s' → Runs s' r s'' → Runs s (t :: r) s''
theorem Runs.snoc {s s' s'' : Sta} {t : Str} {l : List Str} (h : Runs s l s') (g : Stp s' t s'') : Runs s (l ++ [t]) s'' := by
  induction h with
  | nil => exact .cons g .nil
  | cons a b ih => exact .cons a (ih g)
theorem Stp.n_le {s s' : Sta} {t : Str} (h : Stp s t s') : s.n ≤ s'.n := by cases h <;> simp
theorem Runs.n_le {s s' : Sta} {l : List Str} (h : Runs s l s') : s.n ≤ s'.n := by
  induction h with
  | nil => exact Nat.le_refl _
  | cons a b ih => exact Nat.le_trans a.n_le ih
/-! ### the text -/
def WaitT (L : Lvl) (D : Nat) (T : List Nat) : Prop := ∃ X Y, T = X ++ Y ∧ (match L.s with
  | none => X = []
  | some (x, c) => (c = 43 ∨ c = 45) ∧ ∃ X' d, X = X' ++ [c] ∧ d ≤ D ∧ SumT X' x d) ∧ (match L.p with
  | none => Y = []
  | some y => ∃ Y' d, Y = Y' ++ [42] ∧ d ≤ D ∧ ProdT Y' y d)
theorem wait0 {D : Nat} : WaitT Lvl.e0 D [] := ⟨[], [], rfl, rfl, rfl⟩
theorem prod_text {p : Option Exp} {s : Option (Exp × Nat)} {D d : Nat} {Y A : List Nat} {e : Exp} (h : match p with
  | none => Y = []
  | some y => ∃ Y' d, Y = Y' ++ [42] ∧ d ≤ D ∧ ProdT Y' y d) (ha : AtomT A e d) (hd : d ≤ D) : ∃ d', d' ≤ D ∧ ProdT (Y ++ A) (Lvl.prod ⟨s, p⟩ e) d' := by
  cases p with
  | none =>
    have h : Y = [] := h
    subst h
    exact ⟨d, hd, ha.prod⟩
  | some y =>
    obtain ⟨Y', d1, rfl, h1, hy⟩ := h
    refine ⟨max d1 d, by omega, ?_⟩
    have := hy.bin ha
    rw [show Y' ++ [42] ++ A = Y' ++ 42 :: A by simp]
    exact this
theorem wait_sum {L : Lvl} {D d : Nat} {T A : List Nat} {e : Exp} (h : WaitT L D T) (ha : AtomT A e d) (hd : d ≤ D) : ∃ d', d' ≤ D ∧ SumT (T ++ A) (L.sum e) d' := by
  obtain ⟨s, p⟩ := L
  obtain ⟨X, Y, rfl, hx, hy⟩ := h
  obtain ⟨d2, h2, hp⟩ := prod_text (s := s) hy ha hd
  cases s with
  | none =>
    have hx : X = [] := hx
    subst hx
    exact ⟨d2, h2, hp.sum⟩
  | some xc =>
    obtain ⟨x, c⟩ := xc
    obtain ⟨hc, X', d3, rfl, h3, hs⟩ := hx
    refine ⟨max d3 d2, by omega, ?_⟩
    have := hs.bin hp hc
    rw [show X' ++ [c] ++ Y ++ A = X' ++ c :: (Y ++ A) by simp]
    exact this
theorem wait_op {L : Lvl} {D d c : Nat} {T A : List Nat} {e : Exp} (h : WaitT L D T) (ha : AtomT A e d) (hd : d ≤ D) (hc : c = 43 ∨ c = 45 ∨ c = 42) : WaitT (L.op c e) D (T ++ A ++ [c]) := by
  by_cases h42 : c = 42
  · subst h42
    unfold Lvl.op
    rw [if_pos rfl]
    obtain ⟨s, p⟩ := L
    obtain ⟨X, Y, rfl, hx, hy⟩ := h
    obtain ⟨d2, h2, hp⟩ := prod_text (s := s) hy ha hd
    exact ⟨X, Y ++ A ++ [42], by simp, hx, Y ++ A, d2, rfl, h2, hp⟩
  · unfold Lvl.op
    rw [if_neg h42]
    obtain ⟨d2, h2, hs⟩ := wait_sum h ha hd
    exact ⟨T ++ A ++ [c], [], by simp, ⟨by omega, T ++ A, d2, rfl, h2, hs⟩, rfl⟩
inductive StkT : List Lvl → List Nat → Prop
  | nil : StkT [] []
  | cons {o : List Lvl} {T TK : List Nat} {K : Lvl} : StkT o T → WaitT K (5 - o.length) TK → o.length < 5 → StkT (K :: o) (T ++ TK ++ [40])
def AtT (a : Option Exp) (D : Nat) (A : List Nat) : Prop := match a with
  | none => A = []
  | some e => ∃ d, d ≤ D ∧ AtomT A e d
def TxI (s : Sta) (T : List Nat) : Prop := ∃ Ts TL A, T = Ts ++ TL ++ A ∧ StkT s.o Ts ∧ WaitT s.L (5 - s.o.length) TL ∧ s.o.length ≤ 5 ∧ AtT s.a (5 - s.o.length) A
theorem name_ok : ∀ z ∈ names, nameOk z = true := by decide +kernel
theorem Leaf.text {z : Str} {e : Exp} (h : Leaf z e) : AtomT z.cps.toList e 0 := by
  cases h with
  | name h => exact box_text (name_ok z h)
  | num h _ => exact num_text' h
theorem cps_lp : ("(" : Str).cps.toList = [40] := by decide +kernel
theorem cps_rp : (")" : Str).cps.toList = [41] := by decide +kernel
theorem Stp.tx {s s' : Sta} {t : Str} {T : List Nat} (h : Stp s t s') (x : TxI s T) : TxI s' (T ++ t.cps.toList) := by
  obtain ⟨Ts, TL, A, rfl, st, wt, ho, ha⟩ := x
  cases h with
  | lp hl =>
    have ha : A = [] := ha
    subst ha
    refine ⟨Ts ++ TL ++ [40], [], [], by rw [cps_lp]; simp, .cons st wt hl, wait0, by rw [List.length_cons]; exact hl, rfl⟩
  | leaf hl =>
    have ha : A = [] := ha
    subst ha
    exact ⟨Ts, TL, t.cps.toList, by simp, st, wt, ho, 0, Nat.zero_le _, hl.text⟩
  | rp =>
    obtain ⟨d, hd, ha⟩ := ha
    cases st with
    | cons st' wk hk =>
      obtain ⟨d2, h2, hs⟩ := wait_sum wt ha hd
      rename_i o K L e n T TK
      refine ⟨T, TK, 40 :: ((TL ++ A) ++ [41]), by rw [cps_rp]; simp, st', wk, Nat.le_of_lt hk, d2 + 1, ?_, hs.bracket⟩
      have h2 : d2 ≤ 5 - (o.length + 1) := h2
      show d2 + 1 ≤ 5 - o.length
      omega
  | op hc =>
    obtain ⟨d, hd, ha⟩ := ha
    rename_i o L e n c
    exact ⟨Ts, TL ++ A ++ [c], [], by simp, st, wait_op wt ha hd hc, ho, rfl⟩
theorem Runs.tx {s s' : Sta} {l : List Str} (h : Runs s l s') : ∀ {T : List Nat}, TxI s T → TxI s' (T ++ (l.map (·.cps.toList)).flatten) := by
  induction h with
  | nil => intro T x; rw [List.map_nil, List.flatten_nil, List.append_nil]; exact x
  | cons a b ih =>
    intro T x
    have := ih (a.tx x)
    rw [List.map_cons, List.flatten_cons, ← List.append_assoc]
    exact this
def s0 : Sta := ⟨[], Lvl.e0, none, 0⟩
theorem tx0 : TxI s0 [] := ⟨[], [], [], rfl, .nil, wait0, Nat.zero_le _, rfl⟩
theorem runs_expr {l : List Str} {L : Lvl} {e : Exp} {n : Nat} (h : Runs s0 l ⟨[], L, some e, n⟩) {z : Str} (hz : z.cps.toList = (l.map (·.cps.toList)).flatten) (hl : z.length ≤ 60) : exprP z = some (L.sum e) := by
  obtain ⟨Ts, TL, A, eT, st, wt, _, d, hd, ha⟩ := h.tx tx0
  cases st
  obtain ⟨d2, h2, hs⟩ := wait_sum wt ha hd
  rw [List.nil_append, List.nil_append, ← hz] at eT
  rw [← eT] at hs
  have h2 : d2 ≤ 5 := h2
  rw [hs.expr, if_neg (by omega)]
/-! ### the numbers -/
section
variable (vs : Str → Int)
def numS (s : Option (Exp × Nat)) : List Int := match s with
  | none => []
  | some (x, _) => [val vs x]
def numP (p : Option Exp) : List Int := match p with
  | none => []
  | some y => [val vs y]
def sgnS (s : Option (Exp × Nat)) : List Str := match s with
  | none => []
  | some (_, c) => [⟨#[c]⟩]
def sgnP (p : Option Exp) : List Str := match p with
  | none => []
  | some _ => [⟨#[42]⟩]
def numO : List Lvl → List Int
  | [] => []
  | K :: o => numO o ++ numS vs K.s ++ numP vs K.p
def sgnO : List Lvl → List Str
  | [] => []
  | K :: o => sgnO o ++ sgnS K.s ++ sgnP K.p ++ ([("(" : Str)] : List Str)
def nums (s : Sta) : List Int := numO vs s.o ++ numS vs s.L.s ++ numP vs s.L.p ++ numP vs s.a
def sgns (s : Sta) : List Str := sgnO s.o ++ sgnS s.L.s ++ sgnP s.L.p
def totS (s : Option (Exp × Nat)) : Nat := match s with
  | none => 0
  | some (x, _) => lvs x
def totP (p : Option Exp) : Nat := match p with
  | none => 0
  | some y => lvs y
def totO : List Lvl → Nat
  | [] => 0
  | K :: o => totO o + totS K.s + totP K.p
def okS (s : Option (Exp × Nat)) : Prop := match s with
  | none => True
  | some (x, c) => WfE x ∧ (c = 43 ∨ c = 45)
def okP (p : Option Exp) : Prop := match p with
  | none => True
  | some y => WfE y
def okO : List Lvl → Prop
  | [] => True
  | K :: o => okO o ∧ okS K.s ∧ okP K.p
structure Fit (st : Sta) : Prop where
  o : okO st.o
  s : okS st.L.s
  p : okP st.L.p
  a : okP st.a
  tot : totO st.o + totS st.L.s + totP st.L.p + totP st.a ≤ st.n
end
theorem prod_fit {p : Option Exp} {s : Option (Exp × Nat)} {e : Exp} (hp : okP p) (he : WfE e) : WfE (Lvl.prod ⟨s, p⟩ e) ∧ lvs (Lvl.prod ⟨s, p⟩ e) = totP p + lvs e := by
  cases p with
  | none => exact ⟨he, (Nat.zero_add _).symm⟩
  | some y => exact ⟨⟨.inr (.inr rfl), hp, he⟩, rfl⟩
theorem sum_fit {p : Option Exp} {s : Option (Exp × Nat)} {e : Exp} (hs : okS s) (hp : okP p) (he : WfE e) : WfE (Lvl.sum ⟨s, p⟩ e) ∧ lvs (Lvl.sum ⟨s, p⟩ e) = totS s + (totP p + lvs e) := by
  obtain ⟨a, b⟩ := prod_fit (s := s) hp he
  cases s with
  | none => exact ⟨a, by rw [show Lvl.sum ⟨none, p⟩ e = Lvl.prod ⟨none, p⟩ e from rfl, b]; exact (Nat.zero_add _).symm⟩
  | some xc =>
    obtain ⟨x, c⟩ := xc
    exact ⟨⟨hs.2.elim (fun z => .inl (by rw [z])) fun z => .inr (.inl (by rw [z])), hs.1, a⟩, by rw [← b]; rfl⟩
theorem Leaf.wf {z : Str} {e : Exp} (h : Leaf z e) : WfE e ∧ lvs e = 1 := by
  cases h with
  | name h => exact ⟨h, rfl⟩
  | num _ h => exact ⟨h, rfl⟩
theorem Stp.fit {s s' : Sta} {t : Str} (h : Stp s t s') (f : Fit s) : Fit s' := by
  obtain ⟨f1, f2, f3, f4, f5⟩ := f
  cases h with
  | lp _ => exact ⟨⟨f1, f2, f3⟩, trivial, trivial, trivial, by simpa [totO, totS, totP, Lvl.e0] using f5⟩
  | leaf hl =>
    refine ⟨f1, f2, f3, hl.wf.1, ?_⟩
    have := hl.wf.2
    simp only [totP] at f5 ⊢
    omega
  | rp =>
    rename_i o K L e n
    obtain ⟨a, b⟩ := sum_fit f2 f3 f4
    refine ⟨f1.1, f1.2.1, f1.2.2, a, ?_⟩
    have b : lvs (L.sum e) = totS L.s + (totP L.p + lvs e) := b
    have f5 : totO o + totS K.s + totP K.p + totS L.s + totP L.p + lvs e ≤ n := f5
    show totO o + totS K.s + totP K.p + lvs (L.sum e) ≤ n
    omega
  | op hc =>
    rename_i o L e n c
    by_cases h42 : c = 42
    · obtain ⟨a, b⟩ := prod_fit (s := L.s) f3 f4
      have b : lvs (L.prod e) = totP L.p + lvs e := b
      unfold Lvl.op
      rw [if_pos h42]
      refine ⟨f1, f2, a, trivial, ?_⟩
      have f5 : totO o + totS L.s + totP L.p + lvs e ≤ n := f5
      show totO o + totS L.s + lvs (L.prod e) + 0 ≤ n
      omega
    · obtain ⟨a, b⟩ := sum_fit f2 f3 f4
      have b : lvs (L.sum e) = totS L.s + (totP L.p + lvs e) := b
      unfold Lvl.op
      rw [if_neg h42]
      refine ⟨f1, ⟨a, by omega⟩, trivial, trivial, ?_⟩
      have f5 : totO o + totS L.s + totP L.p + lvs e ≤ n := f5
      show totO o + lvs (L.sum e) + 0 + 0 ≤ n
      omega
end Wd
set_option maxHeartbeats 1000000
namespace Q
open PySem L2 Wd
noncomputable def tD : Env' → M Bool := (mAnd (mB (L2.m2 neW (mVar 3) (mTl (lenG mNil)))) (mAnd (mB (L2.m2 neW (L2.m2 ixW (mVar 3) (L2.m1 negW (mC (.int 1)))) (mC (.str "(")))) (mOr (mB (L2.m2 neW (mVar 4) (mC (.str "*")))) (mB (L2.m2 eqW (L2.m2 ixW (mVar 3) (L2.m1 negW (mC (.int 1)))) (mC (.str "*")))))))
noncomputable def bD : Env' → M Fl := (sEx (mCall (arW 2 f_law_reckon) (mCons (mVar 2) (mCons (mVar 3) mNil))))
noncomputable def opD : Env' → M Fl := (sSeq (whileM tD bD 1000) (sIf (mB (L2.m2 neW (mVar 4) (mC (.str ")")))) (sEx (mMeth isL appendW (mVar 3) (mCons (mVar 4) mNil))) (sIf (mB (L2.m2 neW (mVar 3) (mTl (lenG mNil)))) (sEx (mMeth isL popW (mVar 3) mNil)) sNil)))
noncomputable def bodyD : Env' → M Fl := (sIf (mB (L2.m2 eqW (mVar 4) (mC (.str "(")))) (sEx (mMeth isL appendW (mVar 3) (mCons (mVar 4) mNil))) (sIf (mB (L2.m2 inW (mVar 4) (mVar 1))) (sEx (mMeth isL appendW (mVar 2) (mCons (L2.m2 ixW (mVar 1) (mVar 4)) mNil))) (sIf (mB (L2.m2 notInW (mVar 4) (mTl (lenG (mCons (mC (.str "+")) (mCons (mC (.str "-")) (mCons (mC (.str "*")) (mCons (mC (.str ")")) mNil)))))))) (sEx (mMeth isL appendW (mVar 2) (mCons (mCall intW (mCons (mVar 4) mNil)) mNil))) opD)))
theorem due_parts : g_law_due = (sSeq (sSet 2 (mNew (lenG mNil))) (sSeq (sSet 3 (mNew (lenG mNil))) (sSeq (sFor (mSrc (L2.m2 addW (mVar 0) (mTl (lenG (mCons (mC (.str ")")) mNil)))) srcL) (tgN 4) bodyD) (sRet (L2.m2 ixW (mVar 2) (mC (.int 0))))))) := rfl
noncomputable def tP1 : Env' → M Bool := (mAnd (mB (L2.m2 eqW (L2.m2 modW (mVar 4) (mC (.int 4))) (mC (.int 0)))) (mAnd (mB (L2.m2 gtW (mVar 4) (mC (.int 0)))) (mB (L2.m2 ltW (mVar 2) (mC (.int 5))))))
noncomputable def bP1 : Env' → M Fl := (sSeq (sEx (mMeth isL appendW (mVar 1) (mCons (mC (.str "(")) mNil))) (sSeq (sSet 2 (L2.m2 addW (mVar 2) (mC (.int 1)))) (sSet 4 (L2.m2 fdivW (mVar 4) (mC (.int 4))))))
noncomputable def tP2 : Env' → M Bool := (mAnd (mB (L2.m2 eqW (L2.m2 modW (mVar 4) (mC (.int 3))) (mC (.int 0)))) (mAnd (mB (L2.m2 gtW (mVar 4) (mC (.int 0)))) (mB (L2.m2 gtW (mVar 2) (mC (.int 0))))))
noncomputable def bP2 : Env' → M Fl := (sSeq (sEx (mMeth isL appendW (mVar 1) (mCons (mC (.str ")")) mNil))) (sSeq (sSet 2 (L2.m2 subW (mVar 2) (mC (.int 1)))) (sSet 4 (L2.m2 fdivW (mVar 4) (mC (.int 3))))))
noncomputable def bodyP : Env' → M Fl := (sSeq (sSet 4 (mCall (arW 2 f_law_stir) (mCons (mVar 0) (mCons (L2.m2 addW (mC (.int 1)) (mVar 3)) mNil)))) (sSeq (whileM tP1 bP1 1000) (sSeq (sSet 5 (L2.m2 ixW (mTl (lenG (mCons (mCall strW (mCons (L2.m2 modW (L2.m2 fdivW (mVar 4) (mC (.int 8))) (mC (.int 12))) mNil)) (mCons (mCall strW (mCons (L2.m2 modW (L2.m2 fdivW (mVar 4) (mC (.int 8))) (mC (.int 1000))) mNil)) (mCons (mC (.str "a")) (mCons (mC (.str "bb")) (mCons (mC (.str "c")) (mCons (mC (.str "a")) (mCons (mC (.str "bb")) mNil))))))))) (L2.m2 modW (mVar 4) (mC (.int 7))))) (sSeq (sEx (mMeth isL appendW (mVar 1) (mCons (mVar 5) mNil))) (sSeq (sSet 4 (L2.m2 fdivW (mVar 4) (mC (.int 56)))) (sSeq (whileM tP2 bP2 1000) (sEx (mMeth isL appendW (mVar 1) (mCons (L2.m2 ixW (mC (.str "+-*")) (L2.m2 modW (mVar 4) (mC (.int 3)))) mNil)))))))))
theorem parts_parts : g_law_parts = (sSeq (sSet 1 (mNew (lenG mNil))) (sSeq (sSet 2 (mC (.int 0))) (sSeq (sFor (mSrcA (mCons (L2.m2 addW (mC (.int 1)) (L2.m2 modW (mCall (arW 2 f_law_stir) (mCons (mVar 0) (mCons (mC (.int 0)) mNil))) (mC (.int 10)))) mNil) rng1) (tgN 3) bodyP) (sRet (L2.m2 addW (m3 slW (mVar 1) mNoPart (mPart (L2.m1 negW (mC (.int 1))))) (L2.m2 mulW (mTl (lenG (mCons (mC (.str ")")) mNil))) (mVar 2))))))) := rfl
noncomputable def bodyL : Env' → M Fl := (sSeq (sSet 2 (mCall (arW 1 f_law_parts) (mCons (mVar 1) mNil))) (sSeq (sSet 3 (mMeth isS joinW (mC (.str "")) (mCons (mVar 2) mNil))) (sSeq (sSet 4 (mCall (arW 2 f_law_stir) (mCons (mVar 1) (mCons (mC (.int 40)) mNil)))) (sSeq (sSet 5 (L2.m1 iceW (mDisp [ ((mC (.str "a")) , (L2.m2 subW (L2.m2 modW (mVar 4) (mC (.int 41))) (mC (.int 20)))) , ((mC (.str "bb")) , (L2.m2 subW (L2.m2 modW (L2.m2 fdivW (mVar 4) (mC (.int 41))) (mC (.int 2001))) (mC (.int 1000)))) , ((mC (.str "c")) , (L2.m2 modW (L2.m2 fdivW (mVar 4) (mC (.int 100000))) (mC (.int 200)))) ]))) (sIf (mAnd (mB (L2.m2 leW (mCall lenW (mCons (mVar 3) mNil)) (mC (.int 60)))) (mB (L2.m2 neW (mCall (arW 2 (f_worth 12)) (mCons (mCall (arW 1 fExpr0) (mCons (mVar 3) mNil)) (mCons (mVar 5) mNil))) (mCall (arW 2 f_law_due) (mCons (mVar 2) (mCons (mVar 5) mNil)))))) (sRet (mC (.bl false))) sNil)))))
theorem law_parts' : g_law = (sSeq (sFor (mSrc (m3 slW (mVar 0) mNoPart (mPart (mC (.int 63)))) srcL) (tgN 1) bodyL) (sRet (mC (.bl true)))) := rfl

def stir (cell k : Int) : Int :=
  if 10 ^ (18 : Int).toNat ≤ cell then (cell - 10 ^ (18 : Int).toNat) / 2 ^ (28 * k).toNat % 2 ^ (28 : Int).toNat
  else ((cell + 1013 * k + 1) * 16807 % 2147483647) * ((cell + 1013 * k + 1) * 16807 % 2147483647) % 2147483629 * 39373 % 2147483587 / 8
theorem stir_ge (cell k : Int) : 0 ≤ stir cell k := by
  unfold stir
  split
  · exact Int.emod_nonneg _ (by decide)
  · omega
theorem cp10 : CPow 10 18 := ⟨by decide, by decide, by decide⟩
theorem cp2 : CPow 2 28 := ⟨by decide, by decide, by decide⟩
theorem stir_run (c k : Int) (hk : 0 ≤ k) (h : List Ob) : f_law_stir [.int c, .int k] h = .ok (.int (stir c k)) h := by
  have e0 : f_law_stir [.int c, .int k] h = bd (g_law_stir [some (.int c), some (.int k), none]) finF h := rfl
  rw [e0]
  have m1 : CMulA 28 k := mulA_l (by decide) (by decide)
  have m2' : CMulA 1013 k := mulA_l (by decide) (by decide)
  have m3 : CMulA (c + 1013 * k + 1) 16807 := mulA_r (by decide) (by decide)
  have m4 : CMulA ((c + 1013 * k + 1) * 16807 % 2147483647) ((c + 1013 * k + 1) * 16807 % 2147483647) := mulA_l (by omega) (by omega)
  have m5 : ∀ x : Int, CMulA x 39373 := fun x => mulA_r (by decide) (by decide)
  unfold g_law_stir stir
  by_cases hc : 10 ^ (18 : Int).toNat ≤ c
  · simp only [finF, sSeq, sIf, sRet, sSet, sNil, sEx, sPass, sBreak, sCont, sUnp, sStore, mB, L2.m2, L2.m1, L2.m3, mVar, mC, mCall, mCons, mNil, mTup, mTl, mNew, lenG, listL, mPart, mNoPart, mAnd, mOr, mNot, mAndV, mOrV, mNotV, mIf, mChain, mMeth, isS, mSrc, mSrcA, srcL, srcT, srcS, tgN, tgT, setW, mYes, bd_prN, bd_no, asB_bl, addW_int, subW_int, ltW_int, leW_int, gtW_int, geW_int, eqW_int, eqW_str, neW_int, neW_str, neW_bl, slW_tl, slW_cl, lenW_tl, lenW_tup, negW, List.set_cons_zero, List.set_cons_succ, List.getElem?_cons_zero, List.getElem?_cons_succ, List.length_cons, List.length_nil, arW, if_true, if_false, Bool.false_eq_true, ite_true, ite_false, reduceIte, decide_true, decide_false, Bool.not_true, Bool.not_false, gd_tt, gdn0, gdn1, gdn2, gdn3, gdn4, gdn5, gdn6, gdn7, gdn8, gdn9, gdn10, gdn11, gdn12, gdn13, gdn14, gdn15, gdn16, gdn17, gdn18, gdn19, gdn20, gdn21, gdn22, gdn23, gdn24, powW_int cp10, powW_int cp2, mulW_int m1, shrW_int (show (0:Int) ≤ 28 * k by omega), modW_int (show (0:Int) < 2 ^ (28 : Int).toNat by decide), decide_eq_true hc, if_pos hc]
    rfl
  · simp only [finF, sSeq, sIf, sRet, sSet, sNil, sEx, sPass, sBreak, sCont, sUnp, sStore, mB, L2.m2, L2.m1, L2.m3, mVar, mC, mCall, mCons, mNil, mTup, mTl, mNew, lenG, listL, mPart, mNoPart, mAnd, mOr, mNot, mAndV, mOrV, mNotV, mIf, mChain, mMeth, isS, mSrc, mSrcA, srcL, srcT, srcS, tgN, tgT, setW, mYes, bd_prN, bd_no, asB_bl, addW_int, subW_int, ltW_int, leW_int, gtW_int, geW_int, eqW_int, eqW_str, neW_int, neW_str, neW_bl, slW_tl, slW_cl, lenW_tl, lenW_tup, negW, List.set_cons_zero, List.set_cons_succ, List.getElem?_cons_zero, List.getElem?_cons_succ, List.length_cons, List.length_nil, arW, if_true, if_false, Bool.false_eq_true, ite_true, ite_false, reduceIte, decide_true, decide_false, Bool.not_true, Bool.not_false, gd_tt, gdn0, gdn1, gdn2, gdn3, gdn4, gdn5, gdn6, gdn7, gdn8, gdn9, gdn10, gdn11, gdn12, gdn13, gdn14, gdn15, gdn16, gdn17, gdn18, gdn19, gdn20, gdn21, gdn22, gdn23, gdn24, powW_int cp10, mulW_int m2', mulW_int m3, mulW_int m4, mulW_int (m5 _), modW_int (show (0:Int) < 2147483647 by decide), modW_int (show (0:Int) < 2147483629 by decide), modW_int (show (0:Int) < 2147483587 by decide), fdivW_int (show (0:Int) < 8 by decide) (by decide), decide_eq_false hc, if_neg hc]
    rfl
theorem stir_eq {c k : Int} (hk : 0 ≤ k) : f_law_stir [.int c, .int k] = pr (.int (stir c k)) := funext fun h => stir_run c k hk h
theorem sz {n : Nat} (h : n ≤ 100000) : n ≤ sizeLine := Nat.le_trans h (by decide)
/-! ### the values -/
def dvW (x y z : Int) : W := .dv [.inr "a", .inr "bb", .inr "c"] [.int x, .int y, .int z]
def vsf (x y z : Int) : Str → Int := fun s => if s = "a" then x else if s = "bb" then y else z
theorem in_dv {x y z : Int} {t : Str} : inW (.str t) (dvW x y z) = pr (.bl (decide (t ∈ names))) := by
  funext h
  have e : inB (.str t) (dvW x y z) h = some (atK [.inr "a", .inr "bb", .inr "c"] [.int x, .int y, .int z] (.inr t)).isSome := rfl
  have e2 : (atK [.inr "a", .inr "bb", .inr "c"] [W.int x, .int y, .int z] (.inr t)).isSome = decide (t ∈ names) := by
    by_cases h1 : t = "a"
    · subst h1; rfl
    by_cases h2 : t = "bb"
    · subst h2; rfl
    by_cases h3 : t = "c"
    · subst h3; rfl
    have n1 : ¬ (Sum.inr "a" : Key) = .inr t := fun q => h1 (Sum.inr.inj q).symm
    have n2 : ¬ (Sum.inr "bb" : Key) = .inr t := fun q => h2 (Sum.inr.inj q).symm
    have n3 : ¬ (Sum.inr "c" : Key) = .inr t := fun q => h3 (Sum.inr.inj q).symm
    rw [atK, if_neg n1, atK, if_neg n2, atK, if_neg n3, atK]
    · rw [show decide (t ∈ names) = false from decide_eq_false (by unfold names; simp [h1, h2, h3])]; rfl
    · intro a b c d e f; cases e
  unfold inW
  rw [e, e2]; rfl
theorem ix_dv {x y z : Int} {t : Str} (h : t ∈ names) : ixW (dvW x y z) (.str t) = pr (.int (vsf x y z t)) := by
  funext hh
  unfold names at h
  simp only [List.mem_cons, List.not_mem_nil, or_false] at h
  rcases h with rfl | rfl | rfl <;> rfl
/-! ### worth -/
theorem d_bn : decide (("box" : Str) = "number") = false := by decide +kernel
theorem d1 : decide ((⟨#[43]⟩ : Str) = "number") = false ∧ decide ((⟨#[43]⟩ : Str) = "box") = false ∧ decide ((⟨#[43]⟩ : Str) = "+") = true := by decide +kernel
theorem d2 : decide ((⟨#[45]⟩ : Str) = "number") = false ∧ decide ((⟨#[45]⟩ : Str) = "box") = false ∧ decide ((⟨#[45]⟩ : Str) = "+") = false ∧ decide ((⟨#[45]⟩ : Str) = "-") = true := by decide +kernel
theorem d3 : decide ((⟨#[42]⟩ : Str) = "number") = false ∧ decide ((⟨#[42]⟩ : Str) = "box") = false ∧ decide ((⟨#[42]⟩ : Str) = "+") = false ∧ decide ((⟨#[42]⟩ : Str) = "-") = false := by decide +kernel
theorem v43 (vs : Str → Int) (l r : Exp) : val vs (.bin ⟨#[43]⟩ l r) = val vs l + val vs r := if_pos rfl
theorem v45 (vs : Str → Int) (l r : Exp) : val vs (.bin ⟨#[45]⟩ l r) = val vs l - val vs r := by
  show (if (⟨#[45]⟩ : Str) = ⟨#[43]⟩ then _ else if (⟨#[45]⟩ : Str) = ⟨#[45]⟩ then _ else _) = _
  rw [if_neg (by decide), if_pos rfl]
theorem v42 (vs : Str → Int) (l r : Exp) : val vs (.bin ⟨#[42]⟩ l r) = val vs l * val vs r := by
  show (if (⟨#[42]⟩ : Str) = ⟨#[43]⟩ then _ else if (⟨#[42]⟩ : Str) = ⟨#[45]⟩ then _ else _) = _
  rw [if_neg (by decide), if_neg (by decide)]
theorem worth_eq {x y z : Int} (V : Vok (vsf x y z)) (n : Nat) : ∀ (e : Exp), WfE e → lvs e ≤ n → lvs e ≤ 10 → f_worth n [expW e, dvW x y z] = pr (.int (val (vsf x y z) e)) := by
  induction n with
  | zero => intro e _ h; have := lvs_pos e; omega
  | succ n ih =>
    intro e w h1 h2
    have e0 : f_worth (n + 1) [expW e, dvW x y z] = bd (g_worth (f_worth n) [some (expW e), some (dvW x y z), none, none]) finF := rfl
    rw [e0]
    unfold g_worth
    cases e with
    | num i =>
      simp only [expW, finF, sSeq, sIf, sRet, sSet, sNil, sEx, sPass, sBreak, sCont, sUnp, sStore, mB, L2.m2, L2.m1, L2.m3, mVar, mC, mCall, mCons, mNil, mTup, mTl, mNew, lenG, listL, mPart, mNoPart, mAnd, mOr, mNot, mAndV, mOrV, mNotV, mIf, mChain, mMeth, isS, mSrc, mSrcA, srcL, srcT, srcS, tgN, tgT, setW, mYes, bd_prN, bd_no, asB_bl, addW_int, subW_int, ltW_int, leW_int, gtW_int, geW_int, eqW_int, eqW_str, neW_int, neW_str, neW_bl, slW_tl, slW_cl, lenW_tl, lenW_tup, negW, List.set_cons_zero, List.set_cons_succ, List.getElem?_cons_zero, List.getElem?_cons_succ, List.length_cons, List.length_nil, arW, if_true, if_false, Bool.false_eq_true, ite_true, ite_false, reduceIte, decide_true, decide_false, Bool.not_true, Bool.not_false, gd_tt, gdn0, gdn1, gdn2, gdn3, gdn4, gdn5, gdn6, gdn7, gdn8, gdn9, gdn10, gdn11, gdn12, gdn13, gdn14, gdn15, gdn16, gdn17, gdn18, gdn19, gdn20, gdn21, gdn22, gdn23, gdn24, bd_assoc, ix0, ix1, eq_self, decide_true]
      rfl
    | box s =>
      simp only [expW, finF, sSeq, sIf, sRet, sSet, sNil, sEx, sPass, sBreak, sCont, sUnp, sStore, mB, L2.m2, L2.m1, L2.m3, mVar, mC, mCall, mCons, mNil, mTup, mTl, mNew, lenG, listL, mPart, mNoPart, mAnd, mOr, mNot, mAndV, mOrV, mNotV, mIf, mChain, mMeth, isS, mSrc, mSrcA, srcL, srcT, srcS, tgN, tgT, setW, mYes, bd_prN, bd_no, asB_bl, addW_int, subW_int, ltW_int, leW_int, gtW_int, geW_int, eqW_int, eqW_str, neW_int, neW_str, neW_bl, slW_tl, slW_cl, lenW_tl, lenW_tup, negW, List.set_cons_zero, List.set_cons_succ, List.getElem?_cons_zero, List.getElem?_cons_succ, List.length_cons, List.length_nil, arW, if_true, if_false, Bool.false_eq_true, ite_true, ite_false, reduceIte, decide_true, decide_false, Bool.not_true, Bool.not_false, gd_tt, gdn0, gdn1, gdn2, gdn3, gdn4, gdn5, gdn6, gdn7, gdn8, gdn9, gdn10, gdn11, gdn12, gdn13, gdn14, gdn15, gdn16, gdn17, gdn18, gdn19, gdn20, gdn21, gdn22, gdn23, gdn24, bd_assoc, ix0, ix1, d_bn, eq_self, decide_true, ix_dv w]
      rfl
    | bin s l r =>
      obtain ⟨hs, wl, wr⟩ := w
      have el : lvs (.bin s l r) = lvs l + lvs r := rfl
      have pl := lvs_pos l
      have pr' := lvs_pos r
      have il := ih l wl (by omega) (by omega)
      have ir := ih r wr (by omega) (by omega)
      have mo := mul_ok V wl wr (by omega)
      rcases hs with rfl | rfl | rfl
      · simp only [expW, finF, sSeq, sIf, sRet, sSet, sNil, sEx, sPass, sBreak, sCont, sUnp, sStore, mB, L2.m2, L2.m1, L2.m3, mVar, mC, mCall, mCons, mNil, mTup, mTl, mNew, lenG, listL, mPart, mNoPart, mAnd, mOr, mNot, mAndV, mOrV, mNotV, mIf, mChain, mMeth, isS, mSrc, mSrcA, srcL, srcT, srcS, tgN, tgT, setW, mYes, bd_prN, bd_no, asB_bl, addW_int, subW_int, ltW_int, leW_int, gtW_int, geW_int, eqW_int, eqW_str, neW_int, neW_str, neW_bl, slW_tl, slW_cl, lenW_tl, lenW_tup, negW, List.set_cons_zero, List.set_cons_succ, List.getElem?_cons_zero, List.getElem?_cons_succ, List.length_cons, List.length_nil, arW, if_true, if_false, Bool.false_eq_true, ite_true, ite_false, reduceIte, decide_true, decide_false, Bool.not_true, Bool.not_false, gd_tt, gdn0, gdn1, gdn2, gdn3, gdn4, gdn5, gdn6, gdn7, gdn8, gdn9, gdn10, gdn11, gdn12, gdn13, gdn14, gdn15, gdn16, gdn17, gdn18, gdn19, gdn20, gdn21, gdn22, gdn23, gdn24, bd_assoc, ix0, ix1, ix2, d1.1, d1.2.1, d1.2.2, il, ir, v43]
      · simp only [expW, finF, sSeq, sIf, sRet, sSet, sNil, sEx, sPass, sBreak, sCont, sUnp, sStore, mB, L2.m2, L2.m1, L2.m3, mVar, mC, mCall, mCons, mNil, mTup, mTl, mNew, lenG, listL, mPart, mNoPart, mAnd, mOr, mNot, mAndV, mOrV, mNotV, mIf, mChain, mMeth, isS, mSrc, mSrcA, srcL, srcT, srcS, tgN, tgT, setW, mYes, bd_prN, bd_no, asB_bl, addW_int, subW_int, ltW_int, leW_int, gtW_int, geW_int, eqW_int, eqW_str, neW_int, neW_str, neW_bl, slW_tl, slW_cl, lenW_tl, lenW_tup, negW, List.set_cons_zero, List.set_cons_succ, List.getElem?_cons_zero, List.getElem?_cons_succ, List.length_cons, List.length_nil, arW, if_true, if_false, Bool.false_eq_true, ite_true, ite_false, reduceIte, decide_true, decide_false, Bool.not_true, Bool.not_false, gd_tt, gdn0, gdn1, gdn2, gdn3, gdn4, gdn5, gdn6, gdn7, gdn8, gdn9, gdn10, gdn11, gdn12, gdn13, gdn14, gdn15, gdn16, gdn17, gdn18, gdn19, gdn20, gdn21, gdn22, gdn23, gdn24, bd_assoc, ix0, ix1, ix2, d2.1, d2.2.1, d2.2.2.1, d2.2.2.2, il, ir, v45]
      · simp only [expW, finF, sSeq, sIf, sRet, sSet, sNil, sEx, sPass, sBreak, sCont, sUnp, sStore, mB, L2.m2, L2.m1, L2.m3, mVar, mC, mCall, mCons, mNil, mTup, mTl, mNew, lenG, listL, mPart, mNoPart, mAnd, mOr, mNot, mAndV, mOrV, mNotV, mIf, mChain, mMeth, isS, mSrc, mSrcA, srcL, srcT, srcS, tgN, tgT, setW, mYes, bd_prN, bd_no, asB_bl, addW_int, subW_int, ltW_int, leW_int, gtW_int, geW_int, eqW_int, eqW_str, neW_int, neW_str, neW_bl, slW_tl, slW_cl, lenW_tl, lenW_tup, negW, List.set_cons_zero, List.set_cons_succ, List.getElem?_cons_zero, List.getElem?_cons_succ, List.length_cons, List.length_nil, arW, if_true, if_false, Bool.false_eq_true, ite_true, ite_false, reduceIte, decide_true, decide_false, Bool.not_true, Bool.not_false, gd_tt, gdn0, gdn1, gdn2, gdn3, gdn4, gdn5, gdn6, gdn7, gdn8, gdn9, gdn10, gdn11, gdn12, gdn13, gdn14, gdn15, gdn16, gdn17, gdn18, gdn19, gdn20, gdn21, gdn22, gdn23, gdn24, bd_assoc, ix0, ix1, ix2, d3.1, d3.2.1, d3.2.2.1, d3.2.2.2, il, ir, v42, mulW_int mo]
/-! ### two heaps -/
theorem ok_pop {β : Type} {h : List Ob} {Q : β → List Ob → Prop} {j : Nat} {l : List W} {w : W} {k : W → M β} (e : h[j]? = some (.lst (l ++ [w]))) (q : Ok (k w) (h.set j (.lst l)) Q) : Ok (bd (popW (.loc j) []) k) h Q := by
  refine ok_bdo (a := w) (h' := h.set j (.lst l)) ?_ q
  unfold popW
  have e1 : (l ++ [w])[(l ++ [w]).length - 1]? = some w := by simp
  have e2 : (l ++ [w]).dropLast = l := by simp
  simp only [e, e1, e2]
theorem ok_iceDisp {β : Type} {h : List Ob} {Q : β → List Ob → Prop} {trs : List ((Env' → M W) × (Env' → M W))} {ρ : Env'} {ks : List Key} {ws : List W} {k : W → M β} (e : mPrs trs ρ = pr (ks, ws)) (nd : ks.Nodup ∧ ks.length ≤ 15) (q : Ok (k (.dv ks ws)) (h ++ [.gone]) Q) : Ok (bd (mDisp trs ρ) fun w => bd (iceW w) k) h Q := by
  have e1 : mDisp trs ρ h = .ok (.loc h.length) (h ++ [.dic ks ws]) := by
    unfold mDisp
    rw [e]
    show (if ks.Nodup ∧ ks.length ≤ 15 then (match (h ++ [Ob.dic [] []])[h.length]? with
      | some (.dic [] []) => Rs.ok (W.loc h.length) ((h ++ [Ob.dic [] []]).set h.length (.dic ks ws))
      | _ => .bad) else .bad) = _
    rw [if_pos nd, get_end]
    simp
  refine ok_bdo e1 ?_
  have e2 : iceW (.loc h.length) (h ++ [.dic ks ws]) = .ok (.dv ks ws) (h ++ [.gone]) := by
    unfold iceW
    simp only [get_end]
    simp
  exact ok_bdo e2 q
def opv (c : Nat) (a b : Int) : Int := if c = 43 then a + b else if c = 45 then a - b else a * b
theorem opv_val {vs : Str → Int} {c : Nat} {x y : Exp} (hc : c = 43 ∨ c = 45 ∨ c = 42) : opv c (val vs x) (val vs y) = val vs (.bin ⟨#[c]⟩ x y) := by
  rcases hc with rfl | rfl | rfl
  · rw [v43]; rfl
  · rw [v45]; rfl
  · rw [v42]; rfl
/-- the two lists stand so -/
structure Hp2 (kn ks : Nat) (ns : List Int) (ss : List Str) (h : List Ob) : Prop where
  n : h[kn]? = some (.lst (ns.map W.int))
  s : h[ks]? = some (.lst (ss.map W.str))
theorem nd3 : ([.inr "+", .inr "-", .inr "*"] : List Key).Nodup ∧ ([.inr "+", .inr "-", .inr "*"] : List Key).length ≤ 15 := by decide +kernel
theorem reckon_ok {h : List Ob} {kn ks : Nat} {ns : List Int} {ss : List Str} {a b : Int} {c : Nat} (ne : kn ≠ ks) (H : Hp2 kn ks (ns ++ [a, b]) (ss ++ [⟨#[c]⟩]) h) (hc : c = 43 ∨ c = 45 ∨ c = 42) (hm : CMulA a b) (hl : ns.length ≤ 100) :
    Ok (f_law_reckon [.loc kn, .loc ks]) h fun _ h' => Hp2 kn ks (ns ++ [opv c a b]) ss h' := by
  have e0 : f_law_reckon [.loc kn, .loc ks] = bd (g_law_reckon [some (.loc kn), some (.loc ks), none, none, none]) finF := rfl
  have n1 : h[kn]? = some (.lst ((ns.map W.int ++ [.int a]) ++ [.int b])) := by rw [H.n]; simp
  have s1 : h[ks]? = some (.lst (ss.map W.str ++ [.str ⟨#[c]⟩])) := by rw [H.s]; simp
  rw [e0]
  unfold g_law_reckon
  simp only [finF, sSeq, sIf, sRet, sSet, sNil, sEx, sPass, sBreak, sCont, sUnp, sStore, mB, L2.m2, L2.m1, L2.m3, mVar, mC, mCall, mCons, mNil, mTup, mTl, mNew, lenG, listL, mPart, mNoPart, mAnd, mOr, mNot, mAndV, mOrV, mNotV, mIf, mChain, mMeth, isS, mSrc, mSrcA, srcL, srcT, srcS, tgN, tgT, setW, mYes, bd_prN, bd_no, asB_bl, addW_int, subW_int, ltW_int, leW_int, gtW_int, geW_int, eqW_int, eqW_str, neW_int, neW_str, neW_bl, slW_tl, slW_cl, lenW_tl, lenW_tup, negW, List.set_cons_zero, List.set_cons_succ, List.getElem?_cons_zero, List.getElem?_cons_succ, List.length_cons, List.length_nil, arW, if_true, if_false, Bool.false_eq_true, ite_true, ite_false, reduceIte, decide_true, decide_false, Bool.not_true, Bool.not_false, gd_tt, gdn0, gdn1, gdn2, gdn3, gdn4, gdn5, gdn6, gdn7, gdn8, gdn9, gdn10, gdn11, gdn12, gdn13, gdn14, gdn15, gdn16, gdn17, gdn18, gdn19, gdn20, gdn21, gdn22, gdn23, gdn24, bd_assoc]
  refine ok_isL s1 ?_
  try simp only [finF, sSeq, sIf, sRet, sSet, sNil, sEx, sPass, sBreak, sCont, sUnp, sStore, mB, L2.m2, L2.m1, L2.m3, mVar, mC, mCall, mCons, mNil, mTup, mTl, mNew, lenG, listL, mPart, mNoPart, mAnd, mOr, mNot, mAndV, mOrV, mNotV, mIf, mChain, mMeth, isS, mSrc, mSrcA, srcL, srcT, srcS, tgN, tgT, setW, mYes, bd_prN, bd_no, asB_bl, addW_int, subW_int, ltW_int, leW_int, gtW_int, geW_int, eqW_int, eqW_str, neW_int, neW_str, neW_bl, slW_tl, slW_cl, lenW_tl, lenW_tup, negW, List.set_cons_zero, List.set_cons_succ, List.getElem?_cons_zero, List.getElem?_cons_succ, List.length_cons, List.length_nil, arW, if_true, if_false, Bool.false_eq_true, ite_true, ite_false, reduceIte, decide_true, decide_false, Bool.not_true, Bool.not_false, gd_tt, gdn0, gdn1, gdn2, gdn3, gdn4, gdn5, gdn6, gdn7, gdn8, gdn9, gdn10, gdn11, gdn12, gdn13, gdn14, gdn15, gdn16, gdn17, gdn18, gdn19, gdn20, gdn21, gdn22, gdn23, gdn24, bd_assoc]
  refine ok_pop s1 ?_
  have n2 : (h.set ks (.lst (ss.map W.str)))[kn]? = some (.lst ((ns.map W.int ++ [.int a]) ++ [.int b])) := by rw [List.getElem?_set_ne (Ne.symm ne)]; exact n1
  have s2 : (h.set ks (.lst (ss.map W.str)))[ks]? = some (.lst (ss.map W.str)) := set_get s1
  generalize h.set ks (.lst (ss.map W.str)) = h2 at *
  try simp only [finF, sSeq, sIf, sRet, sSet, sNil, sEx, sPass, sBreak, sCont, sUnp, sStore, mB, L2.m2, L2.m1, L2.m3, mVar, mC, mCall, mCons, mNil, mTup, mTl, mNew, lenG, listL, mPart, mNoPart, mAnd, mOr, mNot, mAndV, mOrV, mNotV, mIf, mChain, mMeth, isS, mSrc, mSrcA, srcL, srcT, srcS, tgN, tgT, setW, mYes, bd_prN, bd_no, asB_bl, addW_int, subW_int, ltW_int, leW_int, gtW_int, geW_int, eqW_int, eqW_str, neW_int, neW_str, neW_bl, slW_tl, slW_cl, lenW_tl, lenW_tup, negW, List.set_cons_zero, List.set_cons_succ, List.getElem?_cons_zero, List.getElem?_cons_succ, List.length_cons, List.length_nil, arW, if_true, if_false, Bool.false_eq_true, ite_true, ite_false, reduceIte, decide_true, decide_false, Bool.not_true, Bool.not_false, gd_tt, gdn0, gdn1, gdn2, gdn3, gdn4, gdn5, gdn6, gdn7, gdn8, gdn9, gdn10, gdn11, gdn12, gdn13, gdn14, gdn15, gdn16, gdn17, gdn18, gdn19, gdn20, gdn21, gdn22, gdn23, gdn24, bd_assoc]
  refine ok_isL n2 ?_
  try simp only [finF, sSeq, sIf, sRet, sSet, sNil, sEx, sPass, sBreak, sCont, sUnp, sStore, mB, L2.m2, L2.m1, L2.m3, mVar, mC, mCall, mCons, mNil, mTup, mTl, mNew, lenG, listL, mPart, mNoPart, mAnd, mOr, mNot, mAndV, mOrV, mNotV, mIf, mChain, mMeth, isS, mSrc, mSrcA, srcL, srcT, srcS, tgN, tgT, setW, mYes, bd_prN, bd_no, asB_bl, addW_int, subW_int, ltW_int, leW_int, gtW_int, geW_int, eqW_int, eqW_str, neW_int, neW_str, neW_bl, slW_tl, slW_cl, lenW_tl, lenW_tup, negW, List.set_cons_zero, List.set_cons_succ, List.getElem?_cons_zero, List.getElem?_cons_succ, List.length_cons, List.length_nil, arW, if_true, if_false, Bool.false_eq_true, ite_true, ite_false, reduceIte, decide_true, decide_false, Bool.not_true, Bool.not_false, gd_tt, gdn0, gdn1, gdn2, gdn3, gdn4, gdn5, gdn6, gdn7, gdn8, gdn9, gdn10, gdn11, gdn12, gdn13, gdn14, gdn15, gdn16, gdn17, gdn18, gdn19, gdn20, gdn21, gdn22, gdn23, gdn24, bd_assoc]
  refine ok_pop n2 ?_
  have n3 : (h2.set kn (.lst (ns.map W.int ++ [.int a])))[kn]? = some (.lst (ns.map W.int ++ [.int a])) := set_get n2
  have s3 : (h2.set kn (.lst (ns.map W.int ++ [.int a])))[ks]? = some (.lst (ss.map W.str)) := by rw [List.getElem?_set_ne ne]; exact s2
  generalize h2.set kn (.lst (ns.map W.int ++ [.int a])) = h3 at *
  try simp only [finF, sSeq, sIf, sRet, sSet, sNil, sEx, sPass, sBreak, sCont, sUnp, sStore, mB, L2.m2, L2.m1, L2.m3, mVar, mC, mCall, mCons, mNil, mTup, mTl, mNew, lenG, listL, mPart, mNoPart, mAnd, mOr, mNot, mAndV, mOrV, mNotV, mIf, mChain, mMeth, isS, mSrc, mSrcA, srcL, srcT, srcS, tgN, tgT, setW, mYes, bd_prN, bd_no, asB_bl, addW_int, subW_int, ltW_int, leW_int, gtW_int, geW_int, eqW_int, eqW_str, neW_int, neW_str, neW_bl, slW_tl, slW_cl, lenW_tl, lenW_tup, negW, List.set_cons_zero, List.set_cons_succ, List.getElem?_cons_zero, List.getElem?_cons_succ, List.length_cons, List.length_nil, arW, if_true, if_false, Bool.false_eq_true, ite_true, ite_false, reduceIte, decide_true, decide_false, Bool.not_true, Bool.not_false, gd_tt, gdn0, gdn1, gdn2, gdn3, gdn4, gdn5, gdn6, gdn7, gdn8, gdn9, gdn10, gdn11, gdn12, gdn13, gdn14, gdn15, gdn16, gdn17, gdn18, gdn19, gdn20, gdn21, gdn22, gdn23, gdn24, bd_assoc]
  refine ok_isL n3 ?_
  try simp only [finF, sSeq, sIf, sRet, sSet, sNil, sEx, sPass, sBreak, sCont, sUnp, sStore, mB, L2.m2, L2.m1, L2.m3, mVar, mC, mCall, mCons, mNil, mTup, mTl, mNew, lenG, listL, mPart, mNoPart, mAnd, mOr, mNot, mAndV, mOrV, mNotV, mIf, mChain, mMeth, isS, mSrc, mSrcA, srcL, srcT, srcS, tgN, tgT, setW, mYes, bd_prN, bd_no, asB_bl, addW_int, subW_int, ltW_int, leW_int, gtW_int, geW_int, eqW_int, eqW_str, neW_int, neW_str, neW_bl, slW_tl, slW_cl, lenW_tl, lenW_tup, negW, List.set_cons_zero, List.set_cons_succ, List.getElem?_cons_zero, List.getElem?_cons_succ, List.length_cons, List.length_nil, arW, if_true, if_false, Bool.false_eq_true, ite_true, ite_false, reduceIte, decide_true, decide_false, Bool.not_true, Bool.not_false, gd_tt, gdn0, gdn1, gdn2, gdn3, gdn4, gdn5, gdn6, gdn7, gdn8, gdn9, gdn10, gdn11, gdn12, gdn13, gdn14, gdn15, gdn16, gdn17, gdn18, gdn19, gdn20, gdn21, gdn22, gdn23, gdn24, bd_assoc]
  refine ok_pop n3 ?_
  have n4 : (h3.set kn (.lst (ns.map W.int)))[kn]? = some (.lst (ns.map W.int)) := set_get n3
  have s4 : (h3.set kn (.lst (ns.map W.int)))[ks]? = some (.lst (ss.map W.str)) := by rw [List.getElem?_set_ne ne]; exact s3
  generalize h3.set kn (.lst (ns.map W.int)) = h4 at *
  try simp only [finF, sSeq, sIf, sRet, sSet, sNil, sEx, sPass, sBreak, sCont, sUnp, sStore, mB, L2.m2, L2.m1, L2.m3, mVar, mC, mCall, mCons, mNil, mTup, mTl, mNew, lenG, listL, mPart, mNoPart, mAnd, mOr, mNot, mAndV, mOrV, mNotV, mIf, mChain, mMeth, isS, mSrc, mSrcA, srcL, srcT, srcS, tgN, tgT, setW, mYes, bd_prN, bd_no, asB_bl, addW_int, subW_int, ltW_int, leW_int, gtW_int, geW_int, eqW_int, eqW_str, neW_int, neW_str, neW_bl, slW_tl, slW_cl, lenW_tl, lenW_tup, negW, List.set_cons_zero, List.set_cons_succ, List.getElem?_cons_zero, List.getElem?_cons_succ, List.length_cons, List.length_nil, arW, if_true, if_false, Bool.false_eq_true, ite_true, ite_false, reduceIte, decide_true, decide_false, Bool.not_true, Bool.not_false, gd_tt, gdn0, gdn1, gdn2, gdn3, gdn4, gdn5, gdn6, gdn7, gdn8, gdn9, gdn10, gdn11, gdn12, gdn13, gdn14, gdn15, gdn16, gdn17, gdn18, gdn19, gdn20, gdn21, gdn22, gdn23, gdn24, bd_assoc]
  refine ok_isL n4 ?_
  try simp only [finF, sSeq, sIf, sRet, sSet, sNil, sEx, sPass, sBreak, sCont, sUnp, sStore, mB, L2.m2, L2.m1, L2.m3, mVar, mC, mCall, mCons, mNil, mTup, mTl, mNew, lenG, listL, mPart, mNoPart, mAnd, mOr, mNot, mAndV, mOrV, mNotV, mIf, mChain, mMeth, isS, mSrc, mSrcA, srcL, srcT, srcS, tgN, tgT, setW, mYes, bd_prN, bd_no, asB_bl, addW_int, subW_int, ltW_int, leW_int, gtW_int, geW_int, eqW_int, eqW_str, neW_int, neW_str, neW_bl, slW_tl, slW_cl, lenW_tl, lenW_tup, negW, List.set_cons_zero, List.set_cons_succ, List.getElem?_cons_zero, List.getElem?_cons_succ, List.length_cons, List.length_nil, arW, if_true, if_false, Bool.false_eq_true, ite_true, ite_false, reduceIte, decide_true, decide_false, Bool.not_true, Bool.not_false, gd_tt, gdn0, gdn1, gdn2, gdn3, gdn4, gdn5, gdn6, gdn7, gdn8, gdn9, gdn10, gdn11, gdn12, gdn13, gdn14, gdn15, gdn16, gdn17, gdn18, gdn19, gdn20, gdn21, gdn22, gdn23, gdn24, bd_assoc]
  refine ok_iceDisp (ks := [.inr "+", .inr "-", .inr "*"]) (ws := [.int (a + b), .int (a - b), .int (a * b)]) (by simp only [mPrs, keyOf, finF, sSeq, sIf, sRet, sSet, sNil, sEx, sPass, sBreak, sCont, sUnp, sStore, mB, L2.m2, L2.m1, L2.m3, mVar, mC, mCall, mCons, mNil, mTup, mTl, mNew, lenG, listL, mPart, mNoPart, mAnd, mOr, mNot, mAndV, mOrV, mNotV, mIf, mChain, mMeth, isS, mSrc, mSrcA, srcL, srcT, srcS, tgN, tgT, setW, mYes, bd_prN, bd_no, asB_bl, addW_int, subW_int, ltW_int, leW_int, gtW_int, geW_int, eqW_int, eqW_str, neW_int, neW_str, neW_bl, slW_tl, slW_cl, lenW_tl, lenW_tup, negW, List.set_cons_zero, List.set_cons_succ, List.getElem?_cons_zero, List.getElem?_cons_succ, List.length_cons, List.length_nil, arW, if_true, if_false, Bool.false_eq_true, ite_true, ite_false, reduceIte, decide_true, decide_false, Bool.not_true, Bool.not_false, gd_tt, gdn0, gdn1, gdn2, gdn3, gdn4, gdn5, gdn6, gdn7, gdn8, gdn9, gdn10, gdn11, gdn12, gdn13, gdn14, gdn15, gdn16, gdn17, gdn18, gdn19, gdn20, gdn21, gdn22, gdn23, gdn24, bd_assoc, mulW_int hm]) nd3 ?_
  have ix : ixW (.dv [.inr "+", .inr "-", .inr "*"] [.int (a + b), .int (a - b), .int (a * b)]) (.str ⟨#[c]⟩) = pr (.int (opv c a b)) := by
    rcases hc with rfl | rfl | rfl <;> rfl
  try simp only [finF, sSeq, sIf, sRet, sSet, sNil, sEx, sPass, sBreak, sCont, sUnp, sStore, mB, L2.m2, L2.m1, L2.m3, mVar, mC, mCall, mCons, mNil, mTup, mTl, mNew, lenG, listL, mPart, mNoPart, mAnd, mOr, mNot, mAndV, mOrV, mNotV, mIf, mChain, mMeth, isS, mSrc, mSrcA, srcL, srcT, srcS, tgN, tgT, setW, mYes, bd_prN, bd_no, asB_bl, addW_int, subW_int, ltW_int, leW_int, gtW_int, geW_int, eqW_int, eqW_str, neW_int, neW_str, neW_bl, slW_tl, slW_cl, lenW_tl, lenW_tup, negW, List.set_cons_zero, List.set_cons_succ, List.getElem?_cons_zero, List.getElem?_cons_succ, List.length_cons, List.length_nil, arW, if_true, if_false, Bool.false_eq_true, ite_true, ite_false, reduceIte, decide_true, decide_false, Bool.not_true, Bool.not_false, gd_tt, gdn0, gdn1, gdn2, gdn3, gdn4, gdn5, gdn6, gdn7, gdn8, gdn9, gdn10, gdn11, gdn12, gdn13, gdn14, gdn15, gdn16, gdn17, gdn18, gdn19, gdn20, gdn21, gdn22, gdn23, gdn24, bd_assoc, ix]
  have n5 : (h4 ++ [Ob.gone])[kn]? = some (.lst (ns.map W.int)) := get_app n4
  have s5 : (h4 ++ [Ob.gone])[ks]? = some (.lst (ss.map W.str)) := get_app s4
  refine ok_app n5 (by rw [List.length_map]; exact Nat.lt_of_le_of_lt hl (by decide)) ?_
  try simp only [finF, sSeq, sIf, sRet, sSet, sNil, sEx, sPass, sBreak, sCont, sUnp, sStore, mB, L2.m2, L2.m1, L2.m3, mVar, mC, mCall, mCons, mNil, mTup, mTl, mNew, lenG, listL, mPart, mNoPart, mAnd, mOr, mNot, mAndV, mOrV, mNotV, mIf, mChain, mMeth, isS, mSrc, mSrcA, srcL, srcT, srcS, tgN, tgT, setW, mYes, bd_prN, bd_no, asB_bl, addW_int, subW_int, ltW_int, leW_int, gtW_int, geW_int, eqW_int, eqW_str, neW_int, neW_str, neW_bl, slW_tl, slW_cl, lenW_tl, lenW_tup, negW, List.set_cons_zero, List.set_cons_succ, List.getElem?_cons_zero, List.getElem?_cons_succ, List.length_cons, List.length_nil, arW, if_true, if_false, Bool.false_eq_true, ite_true, ite_false, reduceIte, decide_true, decide_false, Bool.not_true, Bool.not_false, gd_tt, gdn0, gdn1, gdn2, gdn3, gdn4, gdn5, gdn6, gdn7, gdn8, gdn9, gdn10, gdn11, gdn12, gdn13, gdn14, gdn15, gdn16, gdn17, gdn18, gdn19, gdn20, gdn21, gdn22, gdn23, gdn24, bd_assoc]
  exact ok_pr ⟨by rw [set_get n5]; simp, by rw [List.getElem?_set_ne ne]; exact s5⟩
/-! ### the inner walk -/
def envD (P V : W) (kn ks : Nat) (t : Str) : Env' := [some P, some V, some (.loc kn), some (.loc ks), some (.str t)]
def testV (t : Str) (ss : List Str) : Bool := match ss.getLast? with
  | none => false
  | some top => !decide (top = "(") && (!decide (t = "*") || decide (top = "*"))
theorem canS {z : Str} (h : ∀ c ∈ z.cps.toList, c < 128) : PyData.canLay0 (.str z) = true := by
  rw [PyData.canLay0]
  show z.cps.all (fun x => decide (x < 0x110000)) = true
  rw [← Array.all_toList, List.all_eq_true]
  intro c hc
  have := h c hc
  exact decide_eq_true (by omega)
def Sm (ss : List Str) : Prop := ∀ z ∈ ss, ∀ c ∈ z.cps.toList, c < 128
theorem ok_neS {β : Type} {h : List Ob} {Q : β → List Ob → Prop} {j : Nat} {ss : List Str} {k : W → M β} (e : h[j]? = some (.lst (ss.map W.str))) (hs : Sm ss) (q : Ok (k (.bl (!ss.isEmpty))) h Q) : Ok (bd (neW (.loc j) (.tl [])) k) h Q := by
  refine ok_bdo (a := .bl (!ss.isEmpty)) (h' := h) ?_ q
  have o1 : optL (dataH h 49) (ss.map W.str) = some (ss.map PyData.str) := optL_mapD (f := dataH h 49) (g := W.str) (k := PyData.str) (fun a => rfl) ss
  have x1 : dataH h 50 (.loc j) = some (.list (ss.map PyData.str)) := by
    show (match h[j]? with
      | some (.lst l) => (optL (dataH h 49) l).map PyData.list
      | _ => none) = _
    simp only [e, o1]; rfl
  have x2 : dataH h 50 (.tl []) = some (.list []) := rfl
  have ca : PyData.canLayAll0 (ss.map PyData.str) = true := canAll ss fun z hz => canS (hs z hz)
  have e2 : eqB (.loc j) (.tl []) h = some ss.isEmpty := by
    show (match dataH h 50 (.loc j), dataH h 50 (.tl []) with
      | some d, some e => if d.canLay0 = true ∧ e.canLay0 = true then some (PyData.eqv d e) else none
      | _, _ => none) = _
    rw [x1, x2]
    show (if (PyData.list (ss.map PyData.str)).canLay0 = true ∧ (PyData.list []).canLay0 = true then some (PyData.eqv (.list (ss.map PyData.str)) (.list [])) else none) = _
    rw [if_pos ⟨by rw [PyData.canLay0]; exact ca, by rw [PyData.canLay0, PyData.canLayAll0]⟩, PyData.eqv]
    cases ss with
    | nil => rw [List.map_nil, PyData.eqvAll]; rfl
    | cons a b => rw [List.map_cons, PyData.eqvAll]; rfl
  unfold neW
  rw [e2]
theorem test_ok {h : List Ob} {P V : W} {kn ks : Nat} {t : Str} {ns : List Int} {ss : List Str} (H : Hp2 kn ks ns ss h) (hs : Sm ss) : Ok (tD (envD P V kn ks t)) h fun b h' => b = testV t ss ∧ h' = h := by
  unfold tD
  simp only [envD, finF, sSeq, sIf, sRet, sSet, sNil, sEx, sPass, sBreak, sCont, sUnp, sStore, mB, L2.m2, L2.m1, L2.m3, mVar, mC, mCall, mCons, mNil, mTup, mTl, mNew, lenG, listL, mPart, mNoPart, mAnd, mOr, mNot, mAndV, mOrV, mNotV, mIf, mChain, mMeth, isS, mSrc, mSrcA, srcL, srcT, srcS, tgN, tgT, setW, mYes, bd_prN, bd_no, asB_bl, addW_int, subW_int, ltW_int, leW_int, gtW_int, geW_int, eqW_int, eqW_str, neW_int, neW_str, neW_bl, slW_tl, slW_cl, lenW_tl, lenW_tup, negW, List.set_cons_zero, List.set_cons_succ, List.getElem?_cons_zero, List.getElem?_cons_succ, List.length_cons, List.length_nil, arW, if_true, if_false, Bool.false_eq_true, ite_true, ite_false, reduceIte, decide_true, decide_false, Bool.not_true, Bool.not_false, gd_tt, gdn0, gdn1, gdn2, gdn3, gdn4, gdn5, gdn6, gdn7, gdn8, gdn9, gdn10, gdn11, gdn12, gdn13, gdn14, gdn15, gdn16, gdn17, gdn18, gdn19, gdn20, gdn21, gdn22, gdn23, gdn24, bd_assoc]
  refine ok_neS H.s hs ?_
  rcases List.eq_nil_or_concat ss with rfl | ⟨r, top, er⟩
  · simp only [List.isEmpty_nil, finF, sSeq, sIf, sRet, sSet, sNil, sEx, sPass, sBreak, sCont, sUnp, sStore, mB, L2.m2, L2.m1, L2.m3, mVar, mC, mCall, mCons, mNil, mTup, mTl, mNew, lenG, listL, mPart, mNoPart, mAnd, mOr, mNot, mAndV, mOrV, mNotV, mIf, mChain, mMeth, isS, mSrc, mSrcA, srcL, srcT, srcS, tgN, tgT, setW, mYes, bd_prN, bd_no, asB_bl, addW_int, subW_int, ltW_int, leW_int, gtW_int, geW_int, eqW_int, eqW_str, neW_int, neW_str, neW_bl, slW_tl, slW_cl, lenW_tl, lenW_tup, negW, List.set_cons_zero, List.set_cons_succ, List.getElem?_cons_zero, List.getElem?_cons_succ, List.length_cons, List.length_nil, arW, if_true, if_false, Bool.false_eq_true, ite_true, ite_false, reduceIte, decide_true, decide_false, Bool.not_true, Bool.not_false, gd_tt, gdn0, gdn1, gdn2, gdn3, gdn4, gdn5, gdn6, gdn7, gdn8, gdn9, gdn10, gdn11, gdn12, gdn13, gdn14, gdn15, gdn16, gdn17, gdn18, gdn19, gdn20, gdn21, gdn22, gdn23, gdn24, bd_assoc]
    exact ok_pr ⟨rfl, rfl⟩
  · rw [List.concat_eq_append] at er
    subst er
    have em : (r ++ [top]).isEmpty = false := by simp
    have s1 : h[ks]? = some (.lst (r.map W.str ++ [.str top])) := by rw [H.s]; simp
    have tv : testV t (r ++ [top]) = (!decide (top = "(") && (!decide (t = "*") || decide (top = "*"))) := by unfold testV; rw [List.getLast?_concat]
    rw [tv]
    simp only [em, finF, sSeq, sIf, sRet, sSet, sNil, sEx, sPass, sBreak, sCont, sUnp, sStore, mB, L2.m2, L2.m1, L2.m3, mVar, mC, mCall, mCons, mNil, mTup, mTl, mNew, lenG, listL, mPart, mNoPart, mAnd, mOr, mNot, mAndV, mOrV, mNotV, mIf, mChain, mMeth, isS, mSrc, mSrcA, srcL, srcT, srcS, tgN, tgT, setW, mYes, bd_prN, bd_no, asB_bl, addW_int, subW_int, ltW_int, leW_int, gtW_int, geW_int, eqW_int, eqW_str, neW_int, neW_str, neW_bl, slW_tl, slW_cl, lenW_tl, lenW_tup, negW, List.set_cons_zero, List.set_cons_succ, List.getElem?_cons_zero, List.getElem?_cons_succ, List.length_cons, List.length_nil, arW, if_true, if_false, Bool.false_eq_true, ite_true, ite_false, reduceIte, decide_true, decide_false, Bool.not_true, Bool.not_false, gd_tt, gdn0, gdn1, gdn2, gdn3, gdn4, gdn5, gdn6, gdn7, gdn8, gdn9, gdn10, gdn11, gdn12, gdn13, gdn14, gdn15, gdn16, gdn17, gdn18, gdn19, gdn20, gdn21, gdn22, gdn23, gdn24, bd_assoc]
    refine ok_ix s1 (w := .str top) (atI_last _ _) ?_
    cases d1 : decide (top = "(") with
    | true =>
      try simp only [d1, finF, sSeq, sIf, sRet, sSet, sNil, sEx, sPass, sBreak, sCont, sUnp, sStore, mB, L2.m2, L2.m1, L2.m3, mVar, mC, mCall, mCons, mNil, mTup, mTl, mNew, lenG, listL, mPart, mNoPart, mAnd, mOr, mNot, mAndV, mOrV, mNotV, mIf, mChain, mMeth, isS, mSrc, mSrcA, srcL, srcT, srcS, tgN, tgT, setW, mYes, bd_prN, bd_no, asB_bl, addW_int, subW_int, ltW_int, leW_int, gtW_int, geW_int, eqW_int, eqW_str, neW_int, neW_str, neW_bl, slW_tl, slW_cl, lenW_tl, lenW_tup, negW, List.set_cons_zero, List.set_cons_succ, List.getElem?_cons_zero, List.getElem?_cons_succ, List.length_cons, List.length_nil, arW, if_true, if_false, Bool.false_eq_true, ite_true, ite_false, reduceIte, decide_true, decide_false, Bool.not_true, Bool.not_false, gd_tt, gdn0, gdn1, gdn2, gdn3, gdn4, gdn5, gdn6, gdn7, gdn8, gdn9, gdn10, gdn11, gdn12, gdn13, gdn14, gdn15, gdn16, gdn17, gdn18, gdn19, gdn20, gdn21, gdn22, gdn23, gdn24, bd_assoc]
      exact ok_pr ⟨rfl, rfl⟩
    | false =>
      cases d2 : decide (t = "*") with
      | false =>
        try simp only [d1, d2, finF, sSeq, sIf, sRet, sSet, sNil, sEx, sPass, sBreak, sCont, sUnp, sStore, mB, L2.m2, L2.m1, L2.m3, mVar, mC, mCall, mCons, mNil, mTup, mTl, mNew, lenG, listL, mPart, mNoPart, mAnd, mOr, mNot, mAndV, mOrV, mNotV, mIf, mChain, mMeth, isS, mSrc, mSrcA, srcL, srcT, srcS, tgN, tgT, setW, mYes, bd_prN, bd_no, asB_bl, addW_int, subW_int, ltW_int, leW_int, gtW_int, geW_int, eqW_int, eqW_str, neW_int, neW_str, neW_bl, slW_tl, slW_cl, lenW_tl, lenW_tup, negW, List.set_cons_zero, List.set_cons_succ, List.getElem?_cons_zero, List.getElem?_cons_succ, List.length_cons, List.length_nil, arW, if_true, if_false, Bool.false_eq_true, ite_true, ite_false, reduceIte, decide_true, decide_false, Bool.not_true, Bool.not_false, gd_tt, gdn0, gdn1, gdn2, gdn3, gdn4, gdn5, gdn6, gdn7, gdn8, gdn9, gdn10, gdn11, gdn12, gdn13, gdn14, gdn15, gdn16, gdn17, gdn18, gdn19, gdn20, gdn21, gdn22, gdn23, gdn24, bd_assoc]
        exact ok_pr ⟨rfl, rfl⟩
      | true =>
        try simp only [d1, d2, finF, sSeq, sIf, sRet, sSet, sNil, sEx, sPass, sBreak, sCont, sUnp, sStore, mB, L2.m2, L2.m1, L2.m3, mVar, mC, mCall, mCons, mNil, mTup, mTl, mNew, lenG, listL, mPart, mNoPart, mAnd, mOr, mNot, mAndV, mOrV, mNotV, mIf, mChain, mMeth, isS, mSrc, mSrcA, srcL, srcT, srcS, tgN, tgT, setW, mYes, bd_prN, bd_no, asB_bl, addW_int, subW_int, ltW_int, leW_int, gtW_int, geW_int, eqW_int, eqW_str, neW_int, neW_str, neW_bl, slW_tl, slW_cl, lenW_tl, lenW_tup, negW, List.set_cons_zero, List.set_cons_succ, List.getElem?_cons_zero, List.getElem?_cons_succ, List.length_cons, List.length_nil, arW, if_true, if_false, Bool.false_eq_true, ite_true, ite_false, reduceIte, decide_true, decide_false, Bool.not_true, Bool.not_false, gd_tt, gdn0, gdn1, gdn2, gdn3, gdn4, gdn5, gdn6, gdn7, gdn8, gdn9, gdn10, gdn11, gdn12, gdn13, gdn14, gdn15, gdn16, gdn17, gdn18, gdn19, gdn20, gdn21, gdn22, gdn23, gdn24, bd_assoc]
        refine ok_ix s1 (w := .str top) (atI_last _ _) ?_
        try simp only [d1, d2, finF, sSeq, sIf, sRet, sSet, sNil, sEx, sPass, sBreak, sCont, sUnp, sStore, mB, L2.m2, L2.m1, L2.m3, mVar, mC, mCall, mCons, mNil, mTup, mTl, mNew, lenG, listL, mPart, mNoPart, mAnd, mOr, mNot, mAndV, mOrV, mNotV, mIf, mChain, mMeth, isS, mSrc, mSrcA, srcL, srcT, srcS, tgN, tgT, setW, mYes, bd_prN, bd_no, asB_bl, addW_int, subW_int, ltW_int, leW_int, gtW_int, geW_int, eqW_int, eqW_str, neW_int, neW_str, neW_bl, slW_tl, slW_cl, lenW_tl, lenW_tup, negW, List.set_cons_zero, List.set_cons_succ, List.getElem?_cons_zero, List.getElem?_cons_succ, List.length_cons, List.length_nil, arW, if_true, if_false, Bool.false_eq_true, ite_true, ite_false, reduceIte, decide_true, decide_false, Bool.not_true, Bool.not_false, gd_tt, gdn0, gdn1, gdn2, gdn3, gdn4, gdn5, gdn6, gdn7, gdn8, gdn9, gdn10, gdn11, gdn12, gdn13, gdn14, gdn15, gdn16, gdn17, gdn18, gdn19, gdn20, gdn21, gdn22, gdn23, gdn24, bd_assoc]
        exact ok_pr ⟨rfl, rfl⟩
section
variable {h : List Ob} {P V : W} {kn ks : Nat} {t : Str} {ns : List Int} {ss : List Str} {Q : Fl → List Ob → Prop} {n : Nat}
theorem wh_stop (H : Hp2 kn ks ns ss h) (hs : Sm ss) (tv : testV t ss = false) (q : Q (.nx (envD P V kn ks t)) h) : Ok (whileM tD bD (n + 1) (envD P V kn ks t)) h Q := by
  unfold whileM
  refine ok_bd (test_ok H hs) fun b h' ⟨e1, e2⟩ => ?_
  subst e2
  rw [tv] at e1
  subst e1
  exact ok_pr q
theorem wh_go {a b : Int} {c : Nat} (ne : kn ≠ ks) (H : Hp2 kn ks (ns ++ [a, b]) (ss ++ [⟨#[c]⟩]) h) (hs : Sm (ss ++ [⟨#[c]⟩])) (hc : c = 43 ∨ c = 45 ∨ c = 42) (hm : CMulA a b) (hl : ns.length ≤ 100) (tv : testV t (ss ++ [⟨#[c]⟩]) = true)
    (q : ∀ h', Hp2 kn ks (ns ++ [opv c a b]) ss h' → Ok (whileM tD bD n (envD P V kn ks t)) h' Q) : Ok (whileM tD bD (n + 1) (envD P V kn ks t)) h Q := by
  unfold whileM
  refine ok_bd (test_ok H hs) fun b h' ⟨e1, e2⟩ => ?_
  subst e2
  rw [tv] at e1
  subst e1
  rw [if_pos rfl]
  have st : bD (envD P V kn ks t) = bd (f_law_reckon [.loc kn, .loc ks]) fun _ => pr (.nx (envD P V kn ks t)) := by
    unfold bD
    simp only [envD, finF, sSeq, sIf, sRet, sSet, sNil, sEx, sPass, sBreak, sCont, sUnp, sStore, mB, L2.m2, L2.m1, L2.m3, mVar, mC, mCall, mCons, mNil, mTup, mTl, mNew, lenG, listL, mPart, mNoPart, mAnd, mOr, mNot, mAndV, mOrV, mNotV, mIf, mChain, mMeth, isS, mSrc, mSrcA, srcL, srcT, srcS, tgN, tgT, setW, mYes, bd_prN, bd_no, asB_bl, addW_int, subW_int, ltW_int, leW_int, gtW_int, geW_int, eqW_int, eqW_str, neW_int, neW_str, neW_bl, slW_tl, slW_cl, lenW_tl, lenW_tup, negW, List.set_cons_zero, List.set_cons_succ, List.getElem?_cons_zero, List.getElem?_cons_succ, List.length_cons, List.length_nil, arW, if_true, if_false, Bool.false_eq_true, ite_true, ite_false, reduceIte, decide_true, decide_false, Bool.not_true, Bool.not_false, gd_tt, gdn0, gdn1, gdn2, gdn3, gdn4, gdn5, gdn6, gdn7, gdn8, gdn9, gdn10, gdn11, gdn12, gdn13, gdn14, gdn15, gdn16, gdn17, gdn18, gdn19, gdn20, gdn21, gdn22, gdn23, gdn24, bd_assoc]
  rw [st, bd_assoc]
  refine ok_bd (reckon_ok ne H hc hm hl) fun _ h2 H2 => ?_
  rw [bd_prN]
  exact q h2 H2
end
theorem sm_app {a b : List Str} (x : Sm a) (y : Sm b) : Sm (a ++ b) := fun z hz => (List.mem_append.mp hz).elim (x z) (y z)
theorem top_ne {c : Nat} (hc : c = 43 ∨ c = 45 ∨ c = 42) : decide ((⟨#[c]⟩ : Str) = "(") = false := by rcases hc with rfl | rfl | rfl <;> decide +kernel
theorem tv_go {t : Str} {ss : List Str} {c : Nat} (hc : c = 43 ∨ c = 45 ∨ c = 42) (ht : t ≠ "*") : testV t (ss ++ [⟨#[c]⟩]) = true := by
  unfold testV
  rw [List.getLast?_concat]
  dsimp only
  rw [top_ne hc, decide_eq_false ht]; rfl
theorem tv_star {ss : List Str} : testV "*" (ss ++ [⟨#[42]⟩]) = true := by
  unfold testV
  rw [List.getLast?_concat]
  decide +kernel
theorem tv_low {ss : List Str} {c : Nat} (hc : c = 43 ∨ c = 45) : testV "*" (ss ++ [⟨#[c]⟩]) = false := by
  unfold testV
  rw [List.getLast?_concat]
  rcases hc with rfl | rfl <;> decide +kernel
theorem tv_o (t : Str) : ∀ o : List Lvl, testV t (sgnO o) = false
  | [] => rfl
  | K :: o => by
    unfold testV sgnO
    rw [List.getLast?_concat]
    rfl
theorem sm_o : ∀ {o : List Lvl}, okO o → Sm (sgnO o)
  | [], _ => fun z hz => absurd hz List.not_mem_nil
  | K :: o, h => sm_app (sm_app (sm_app (sm_o h.1) (sm_s h.2.1)) (sm_p K.p)) fun z hz => by
    rw [List.mem_singleton.mp hz, cps_lp]
    intro c hc
    rw [List.mem_singleton.mp hc]; decide
where
  sm_s : ∀ {s : Option (Exp × Nat)}, okS s → Sm (sgnS s)
    | none, _ => fun z hz => absurd hz List.not_mem_nil
    | some (x, c), h => fun z hz => by
      rw [List.mem_singleton.mp hz]
      intro d hd
      have : d = c := by simpa using hd
      have := h.2
      omega
  sm_p : ∀ p : Option Exp, Sm (sgnP p)
    | none => fun z hz => absurd hz List.not_mem_nil
    | some y => fun z hz => by
      rw [List.mem_singleton.mp hz]
      intro d hd
      have : d = 42 := by simpa using hd
      omega
theorem num_len {vs : Str → Int} : ∀ o : List Lvl, (numO vs o).length ≤ totO o
  | [] => Nat.zero_le _
  | K :: o => by
    have a := num_len (vs := vs) o
    have b : (numS vs K.s).length ≤ totS K.s := by cases K.s with
      | none => exact Nat.zero_le _
      | some x => exact lvs_pos x.1
    have c : (numP vs K.p).length ≤ totP K.p := by cases K.p with
      | none => exact Nat.zero_le _
      | some x => exact lvs_pos x
    show (numO vs o ++ numS vs K.s ++ numP vs K.p).length ≤ totO o + totS K.s + totP K.p
    rw [List.length_append, List.length_append]
    omega
section
variable {h : List Ob} {P V : W} {kn ks : Nat} {t : Str} {vs : Str → Int} {o : List Lvl} {L : Lvl} {e : Exp} {n : Nat} {Q : Fl → List Ob → Prop} {m : Nat}
/-- all products of a level are reckoned -/
theorem red_p (Vk : Vok vs) (ne : kn ≠ ks) (F : Fit ⟨o, L, some e, n⟩) (h10 : n ≤ 10) (H : Hp2 kn ks (nums vs ⟨o, L, some e, n⟩) (sgns ⟨o, L, some e, n⟩) h) (tv : ∀ ss, testV t (ss ++ [⟨#[42]⟩]) = true)
    (q : ∀ h', Hp2 kn ks (numO vs o ++ numS vs L.s ++ [val vs (L.prod e)]) (sgnO o ++ sgnS L.s) h' → Ok (whileM tD bD (m + 2) (envD P V kn ks t)) h' Q) : Ok (whileM tD bD (m + 3) (envD P V kn ks t)) h Q ∨ Ok (whileM tD bD (m + 2) (envD P V kn ks t)) h Q := by
  obtain ⟨s, p⟩ := L
  have f5 : totO o + totS s + totP p + lvs e ≤ n := F.tot
  have l1 := num_len (vs := vs) o
  have l2 : (numS vs s).length ≤ 1 := by cases s <;> simp [numS]
  cases p with
  | none =>
    refine .inr (q h ?_)
    have a : nums vs ⟨o, ⟨s, none⟩, some e, n⟩ = numO vs o ++ numS vs s ++ [val vs (Lvl.prod ⟨s, none⟩ e)] := by
      show numO vs o ++ numS vs s ++ [] ++ [val vs e] = _
      rw [List.append_nil]; rfl
    have b : sgns ⟨o, ⟨s, none⟩, some e, n⟩ = sgnO o ++ sgnS s := by
      show sgnO o ++ sgnS s ++ [] = _
      rw [List.append_nil]
    rw [a, b] at H
    exact H
  | some y =>
    refine .inl ?_
    have a : nums vs ⟨o, ⟨s, some y⟩, some e, n⟩ = (numO vs o ++ numS vs s) ++ [val vs y, val vs e] := by
      show numO vs o ++ numS vs s ++ [val vs y] ++ [val vs e] = _
      simp
    have b : sgns ⟨o, ⟨s, some y⟩, some e, n⟩ = (sgnO o ++ sgnS s) ++ [⟨#[42]⟩] := rfl
    rw [a, b] at H
    have f6 : totP (some y) = lvs y := rfl
    refine wh_go ne H (sm_app (sm_app (sm_o F.o) (sm_o.sm_s F.s)) (sm_o.sm_p (some y))) (.inr (.inr rfl)) (mul_ok Vk F.p F.a (by omega)) (by rw [List.length_append]; omega) (tv _) fun h' H' => q h' ?_
    rw [opv_val (.inr (.inr rfl))] at H'
    exact H'
theorem wh_more {ρ : Env'} (x : Ok (whileM tD bD m ρ) h Q) : Ok (whileM tD bD (m + 1) ρ) h Q := wh_mono m ρ h x
where
  wh_mono : ∀ (m : Nat) (ρ : Env') (h : List Ob), Ok (whileM tD bD m ρ) h Q → Ok (whileM tD bD (m + 1) ρ) h Q
    | 0, ρ, h, ⟨_, _, e, _⟩ => by unfold whileM at e; cases e
    | m + 1, ρ, h, ⟨a, h2, e, q⟩ => by
      unfold whileM at e ⊢
      unfold bd at e
      cases e1 : tD ρ h with
      | ok b h1 =>
        simp only [e1] at e
        refine ok_bdo e1 ?_
        cases b with
        | false => exact ⟨a, h2, e, q⟩
        | true =>
          rw [if_pos rfl] at e ⊢
          cases e2 : bD ρ h1 with
          | ok x h3 =>
            simp only [e2] at e
            refine ok_bdo e2 ?_
            cases x with
            | nx r => exact wh_mono m r h3 ⟨a, h2, e, q⟩
            | ct r => exact wh_mono m r h3 ⟨a, h2, e, q⟩
            | bk r => exact ⟨a, h2, e, q⟩
            | rt r => exact ⟨a, h2, e, q⟩
          | ex c h3 => simp only [e2] at e; cases e
          | bad => simp only [e2] at e; cases e
      | ex c h1 => simp only [e1] at e; cases e
      | bad => simp only [e1] at e; cases e
theorem red_prod (Vk : Vok vs) (ne : kn ≠ ks) (F : Fit ⟨o, L, some e, n⟩) (h10 : n ≤ 10) (H : Hp2 kn ks (nums vs ⟨o, L, some e, n⟩) (sgns ⟨o, L, some e, n⟩) h)
    (q : ∀ h', Hp2 kn ks (numO vs o ++ numS vs L.s ++ [val vs (L.prod e)]) (sgnO o ++ sgnS L.s) h' → Q (.nx (envD P V kn ks "*")) h') : Ok (whileM tD bD (m + 3) (envD P V kn ks "*")) h Q := by
  have st : ∀ h', Hp2 kn ks (numO vs o ++ numS vs L.s ++ [val vs (L.prod e)]) (sgnO o ++ sgnS L.s) h' → Ok (whileM tD bD (m + 2) (envD P V kn ks "*")) h' Q := fun h' H' => by
    refine wh_stop H' (sm_app (sm_o F.o) (sm_o.sm_s F.s)) ?_ (q h' H')
    have fs := F.s
    cases hs : L.s with
    | none => show testV "*" (sgnO o ++ []) = false; rw [List.append_nil]; exact tv_o _ o
    | some xc =>
      obtain ⟨x, c⟩ := xc
      have fs : okS L.s := fs
      rw [hs] at fs
      exact tv_low fs.2
  rcases red_p Vk ne F h10 H (fun _ => tv_star) st with a | a
  · exact a
  · exact wh_more a
theorem red_sum (ht : t ≠ "*") (Vk : Vok vs) (ne : kn ≠ ks) (F : Fit ⟨o, L, some e, n⟩) (h10 : n ≤ 10) (H : Hp2 kn ks (nums vs ⟨o, L, some e, n⟩) (sgns ⟨o, L, some e, n⟩) h)
    (q : ∀ h', Hp2 kn ks (numO vs o ++ [val vs (L.sum e)]) (sgnO o) h' → Q (.nx (envD P V kn ks t)) h') : Ok (whileM tD bD (m + 3) (envD P V kn ks t)) h Q := by
  have st : ∀ h', Hp2 kn ks (numO vs o ++ numS vs L.s ++ [val vs (L.prod e)]) (sgnO o ++ sgnS L.s) h' → Ok (whileM tD bD (m + 2) (envD P V kn ks t)) h' Q := fun h' H' => by
    obtain ⟨s, p⟩ := L
    have f5 : totO o + totS s + totP p + lvs e ≤ n := F.tot
    have l1 := num_len (vs := vs) o
    obtain ⟨wp, lp⟩ := prod_fit (s := s) F.p F.a
    have lp : lvs (Lvl.prod ⟨s, p⟩ e) = totP p + lvs e := lp
    cases s with
    | none =>
      refine wh_more (wh_stop (ns := numO vs o ++ [val vs (Lvl.sum ⟨none, p⟩ e)]) (ss := sgnO o) ?_ (sm_o F.o) (tv_o t o) ?_)
      · have H' : Hp2 kn ks (numO vs o ++ [] ++ [val vs (Lvl.prod ⟨none, p⟩ e)]) (sgnO o ++ []) h' := H'
        rw [List.append_nil, List.append_nil] at H'
        exact H'
      · refine q h' ?_
        have H' : Hp2 kn ks (numO vs o ++ [] ++ [val vs (Lvl.prod ⟨none, p⟩ e)]) (sgnO o ++ []) h' := H'
        rw [List.append_nil, List.append_nil] at H'
        exact H'
    | some xc =>
      obtain ⟨x, c⟩ := xc
      have hc : c = 43 ∨ c = 45 ∨ c = 42 := F.s.2.elim .inl fun z => .inr (.inl z)
      have H' : Hp2 kn ks (numO vs o ++ [val vs x] ++ [val vs (Lvl.prod ⟨some (x, c), p⟩ e)]) (sgnO o ++ [⟨#[c]⟩]) h' := H'
      rw [List.append_assoc] at H'
      have f6 : totS (some (x, c)) = lvs x := rfl
      refine wh_go ne H' (sm_app (sm_o F.o) (sm_o.sm_s F.s)) hc (mul_ok Vk F.s.1 wp (by omega)) (by omega) (tv_go hc ht) fun h2 H2 => ?_
      rw [opv_val hc] at H2
      exact wh_stop H2 (sm_o F.o) (tv_o t o) (q h2 H2)
  rcases red_p Vk ne F h10 H (fun _ => tv_go (.inr (.inr rfl)) ht) st with a | a
  · exact a
  · exact wh_more a
end
end Q
set_option maxHeartbeats 1000000
namespace Q
open PySem L2 Wd

theorem f_lp1 : decide ((")" : Str) = "(") = false := by decide +kernel
theorem f_lp2 : decide ((")" : Str) ∈ names) = false := by decide +kernel
theorem f_lp3 : decide ((")" : Str) ∈ (["+", "-", "*", ")"] : List Str)) = true := by decide +kernel
theorem f_nm1 : ∀ z ∈ names, decide (z = "(") = false := by decide +kernel
theorem f_op : ∀ c ∈ ([43, 45, 42] : List Nat), decide ((⟨#[c]⟩ : Str) = "(") = false ∧ decide ((⟨#[c]⟩ : Str) ∈ names) = false ∧ decide ((⟨#[c]⟩ : Str) ∈ (["+", "-", "*", ")"] : List Str)) = true ∧ decide ((⟨#[c]⟩ : Str) = ")") = false := by decide +kernel
theorem star_eq : (⟨#[42]⟩ : Str) = "*" := by decide +kernel
theorem not_star : ∀ c ∈ ([43, 45] : List Nat), (⟨#[c]⟩ : Str) ≠ "*" := by decide +kernel
theorem rp_star : (")" : Str) ≠ "*" := by decide +kernel
theorem num_no {z : Str} (h : numOk z = true) : decide (z = "(") = false ∧ decide (z ∈ names) = false ∧ decide (z ∈ (["+", "-", "*", ")"] : List Str)) = false := by
  have no : ∀ y : Str, numOk y = false → z ≠ y := fun y q e => by rw [e, q] at h; cases h
  have nn : ∀ y ∈ (["(", "+", "-", "*", ")", "a", "bb", "c"] : List Str), numOk y = false := by decide +kernel
  refine ⟨decide_eq_false (no _ (nn _ (by simp))), decide_eq_false fun q => ?_, decide_eq_false fun q => ?_⟩
  · unfold names at q
    simp only [List.mem_cons, List.not_mem_nil, or_false] at q
    rcases q with q | q | q <;> exact no _ (nn _ (by simp)) q
  · simp only [List.mem_cons, List.not_mem_nil, or_false] at q
    rcases q with q | q | q | q <;> exact no _ (nn _ (by simp)) q
theorem int_num {z : Str} (h : numOk z = true) : intW [.str z] = pr (.int (numVal z)) := by
  have a := num_text h
  show (match PySem.intText? z with
    | some n => gd (z.length ≤ 640) (pr (W.int n))
    | none => no) = _
  rw [a.1]
  exact gd_pos a.2
theorem ni4 {z : Str} : notInW (.str z) (.tl [W.str "+", W.str "-", W.str "*", W.str ")"]) = pr (.bl (!decide (z ∈ (["+", "-", "*", ")"] : List Str)))) := notIn_strs (ss := ["+", "-", "*", ")"])
theorem sgn_len : ∀ o : List Lvl, (sgnO o).length ≤ 3 * o.length
  | [] => Nat.zero_le _
  | K :: o => by
    have a := sgn_len o
    have b : (sgnS K.s).length ≤ 1 := by cases K.s <;> simp [sgnS]
    have c : (sgnP K.p).length ≤ 1 := by cases K.p <;> simp [sgnP]
    show (sgnO o ++ sgnS K.s ++ sgnP K.p ++ [_]).length ≤ 3 * (o.length + 1)
    rw [List.length_append, List.length_append, List.length_append]
    show _ + 1 ≤ _
    omega
theorem sgns_len (s : Sta) : (sgns s).length ≤ 3 * s.o.length + 2 := by
  have a := sgn_len s.o
  have b : (sgnS s.L.s).length ≤ 1 := by cases s.L.s <;> simp [sgnS]
  have c : (sgnP s.L.p).length ≤ 1 := by cases s.L.p <;> simp [sgnP]
  show (sgnO s.o ++ sgnS s.L.s ++ sgnP s.L.p).length ≤ _
  rw [List.length_append, List.length_append]
  omega
theorem nums_len {vs : Str → Int} {s : Sta} (F : Fit s) : (nums vs s).length ≤ s.n := by
  have a := num_len (vs := vs) s.o
  have b : (numS vs s.L.s).length ≤ totS s.L.s := by cases s.L.s with
    | none => exact Nat.zero_le _
    | some x => exact lvs_pos x.1
  have c : (numP vs s.L.p).length ≤ totP s.L.p := by cases s.L.p with
    | none => exact Nat.zero_le _
    | some x => exact lvs_pos x
  have d : (numP vs s.a).length ≤ totP s.a := by cases s.a with
    | none => exact Nat.zero_le _
    | some x => exact lvs_pos x
  have e := F.tot
  show (numO vs s.o ++ numS vs s.L.s ++ numP vs s.L.p ++ numP vs s.a).length ≤ _
  rw [List.length_append, List.length_append, List.length_append]
  omega
section
variable {h : List Ob} {P : W} {x y z : Int} {kn ks : Nat} {ns : List Int} {ss : List Str} {Q : Fl → List Ob → Prop}
theorem app_n {t : Str} {i : Int} (ne : kn ≠ ks) (H : Hp2 kn ks ns ss h) : Hp2 kn ks (ns ++ [i]) ss (h.set kn (.lst (ns.map W.int ++ [.int i]))) := ⟨by rw [set_get H.n]; simp, by rw [List.getElem?_set_ne ne]; exact H.s⟩
theorem app_s {t : Str} (ne : kn ≠ ks) (H : Hp2 kn ks ns ss h) : Hp2 kn ks ns (ss ++ [t]) (h.set ks (.lst (ss.map W.str ++ [.str t]))) := ⟨by rw [List.getElem?_set_ne (Ne.symm ne)]; exact H.n, by rw [set_get H.s]; simp⟩
theorem body_lp (ne : kn ≠ ks) (H : Hp2 kn ks ns ss h) (sl : ss.length ≤ 100) : Ok (bodyD (envD P (dvW x y z) kn ks "(")) h fun r h' => r = .nx (envD P (dvW x y z) kn ks "(") ∧ Hp2 kn ks ns (ss ++ ([("(" : Str)] : List Str)) h' := by
  unfold bodyD
  simp only [envD, finF, sSeq, sIf, sRet, sSet, sNil, sEx, sPass, sBreak, sCont, sUnp, sStore, mB, L2.m2, L2.m1, L2.m3, mVar, mC, mCall, mCons, mNil, mTup, mTl, mNew, lenG, listL, mPart, mNoPart, mAnd, mOr, mNot, mAndV, mOrV, mNotV, mIf, mChain, mMeth, isS, mSrc, mSrcA, srcL, srcT, srcS, tgN, tgT, setW, mYes, bd_prN, bd_no, asB_bl, addW_int, subW_int, ltW_int, leW_int, gtW_int, geW_int, eqW_int, eqW_str, neW_int, neW_str, neW_bl, slW_tl, slW_cl, lenW_tl, lenW_tup, negW, List.set_cons_zero, List.set_cons_succ, List.getElem?_cons_zero, List.getElem?_cons_succ, List.length_cons, List.length_nil, arW, if_true, if_false, Bool.false_eq_true, ite_true, ite_false, reduceIte, decide_true, decide_false, Bool.not_true, Bool.not_false, gd_tt, gdn0, gdn1, gdn2, gdn3, gdn4, gdn5, gdn6, gdn7, gdn8, gdn9, gdn10, gdn11, gdn12, gdn13, gdn14, gdn15, gdn16, gdn17, gdn18, gdn19, gdn20, gdn21, gdn22, gdn23, gdn24, bd_assoc, eq_self, decide_true]
  refine ok_isL H.s ?_
  try simp only [finF, sSeq, sIf, sRet, sSet, sNil, sEx, sPass, sBreak, sCont, sUnp, sStore, mB, L2.m2, L2.m1, L2.m3, mVar, mC, mCall, mCons, mNil, mTup, mTl, mNew, lenG, listL, mPart, mNoPart, mAnd, mOr, mNot, mAndV, mOrV, mNotV, mIf, mChain, mMeth, isS, mSrc, mSrcA, srcL, srcT, srcS, tgN, tgT, setW, mYes, bd_prN, bd_no, asB_bl, addW_int, subW_int, ltW_int, leW_int, gtW_int, geW_int, eqW_int, eqW_str, neW_int, neW_str, neW_bl, slW_tl, slW_cl, lenW_tl, lenW_tup, negW, List.set_cons_zero, List.set_cons_succ, List.getElem?_cons_zero, List.getElem?_cons_succ, List.length_cons, List.length_nil, arW, if_true, if_false, Bool.false_eq_true, ite_true, ite_false, reduceIte, decide_true, decide_false, Bool.not_true, Bool.not_false, gd_tt, gdn0, gdn1, gdn2, gdn3, gdn4, gdn5, gdn6, gdn7, gdn8, gdn9, gdn10, gdn11, gdn12, gdn13, gdn14, gdn15, gdn16, gdn17, gdn18, gdn19, gdn20, gdn21, gdn22, gdn23, gdn24, bd_assoc]
  refine ok_app H.s (by rw [List.length_map]; exact Nat.lt_of_le_of_lt sl (by decide)) ?_
  try simp only [finF, sSeq, sIf, sRet, sSet, sNil, sEx, sPass, sBreak, sCont, sUnp, sStore, mB, L2.m2, L2.m1, L2.m3, mVar, mC, mCall, mCons, mNil, mTup, mTl, mNew, lenG, listL, mPart, mNoPart, mAnd, mOr, mNot, mAndV, mOrV, mNotV, mIf, mChain, mMeth, isS, mSrc, mSrcA, srcL, srcT, srcS, tgN, tgT, setW, mYes, bd_prN, bd_no, asB_bl, addW_int, subW_int, ltW_int, leW_int, gtW_int, geW_int, eqW_int, eqW_str, neW_int, neW_str, neW_bl, slW_tl, slW_cl, lenW_tl, lenW_tup, negW, List.set_cons_zero, List.set_cons_succ, List.getElem?_cons_zero, List.getElem?_cons_succ, List.length_cons, List.length_nil, arW, if_true, if_false, Bool.false_eq_true, ite_true, ite_false, reduceIte, decide_true, decide_false, Bool.not_true, Bool.not_false, gd_tt, gdn0, gdn1, gdn2, gdn3, gdn4, gdn5, gdn6, gdn7, gdn8, gdn9, gdn10, gdn11, gdn12, gdn13, gdn14, gdn15, gdn16, gdn17, gdn18, gdn19, gdn20, gdn21, gdn22, gdn23, gdn24, bd_assoc]
  exact ok_pr ⟨rfl, app_s ne H⟩
theorem body_leaf {t : Str} {e : Exp} (ne : kn ≠ ks) (H : Hp2 kn ks ns ss h) (nl : ns.length ≤ 100) (lf : Leaf t e) : Ok (bodyD (envD P (dvW x y z) kn ks t)) h fun r h' => r = .nx (envD P (dvW x y z) kn ks t) ∧ Hp2 kn ks (ns ++ [val (vsf x y z) e]) ss h' := by
  have nz : (ns.map W.int).length < sizeLine := by rw [List.length_map]; exact Nat.lt_of_le_of_lt nl (by decide)
  unfold bodyD
  cases lf with
  | name hn =>
    simp only [envD, finF, sSeq, sIf, sRet, sSet, sNil, sEx, sPass, sBreak, sCont, sUnp, sStore, mB, L2.m2, L2.m1, L2.m3, mVar, mC, mCall, mCons, mNil, mTup, mTl, mNew, lenG, listL, mPart, mNoPart, mAnd, mOr, mNot, mAndV, mOrV, mNotV, mIf, mChain, mMeth, isS, mSrc, mSrcA, srcL, srcT, srcS, tgN, tgT, setW, mYes, bd_prN, bd_no, asB_bl, addW_int, subW_int, ltW_int, leW_int, gtW_int, geW_int, eqW_int, eqW_str, neW_int, neW_str, neW_bl, slW_tl, slW_cl, lenW_tl, lenW_tup, negW, List.set_cons_zero, List.set_cons_succ, List.getElem?_cons_zero, List.getElem?_cons_succ, List.length_cons, List.length_nil, arW, if_true, if_false, Bool.false_eq_true, ite_true, ite_false, reduceIte, decide_true, decide_false, Bool.not_true, Bool.not_false, gd_tt, gdn0, gdn1, gdn2, gdn3, gdn4, gdn5, gdn6, gdn7, gdn8, gdn9, gdn10, gdn11, gdn12, gdn13, gdn14, gdn15, gdn16, gdn17, gdn18, gdn19, gdn20, gdn21, gdn22, gdn23, gdn24, bd_assoc, f_nm1 t hn, in_dv, decide_eq_true hn]
    refine ok_isL H.n ?_
    try simp only [finF, sSeq, sIf, sRet, sSet, sNil, sEx, sPass, sBreak, sCont, sUnp, sStore, mB, L2.m2, L2.m1, L2.m3, mVar, mC, mCall, mCons, mNil, mTup, mTl, mNew, lenG, listL, mPart, mNoPart, mAnd, mOr, mNot, mAndV, mOrV, mNotV, mIf, mChain, mMeth, isS, mSrc, mSrcA, srcL, srcT, srcS, tgN, tgT, setW, mYes, bd_prN, bd_no, asB_bl, addW_int, subW_int, ltW_int, leW_int, gtW_int, geW_int, eqW_int, eqW_str, neW_int, neW_str, neW_bl, slW_tl, slW_cl, lenW_tl, lenW_tup, negW, List.set_cons_zero, List.set_cons_succ, List.getElem?_cons_zero, List.getElem?_cons_succ, List.length_cons, List.length_nil, arW, if_true, if_false, Bool.false_eq_true, ite_true, ite_false, reduceIte, decide_true, decide_false, Bool.not_true, Bool.not_false, gd_tt, gdn0, gdn1, gdn2, gdn3, gdn4, gdn5, gdn6, gdn7, gdn8, gdn9, gdn10, gdn11, gdn12, gdn13, gdn14, gdn15, gdn16, gdn17, gdn18, gdn19, gdn20, gdn21, gdn22, gdn23, gdn24, bd_assoc, ix_dv hn]
    refine ok_app H.n nz ?_
    try simp only [finF, sSeq, sIf, sRet, sSet, sNil, sEx, sPass, sBreak, sCont, sUnp, sStore, mB, L2.m2, L2.m1, L2.m3, mVar, mC, mCall, mCons, mNil, mTup, mTl, mNew, lenG, listL, mPart, mNoPart, mAnd, mOr, mNot, mAndV, mOrV, mNotV, mIf, mChain, mMeth, isS, mSrc, mSrcA, srcL, srcT, srcS, tgN, tgT, setW, mYes, bd_prN, bd_no, asB_bl, addW_int, subW_int, ltW_int, leW_int, gtW_int, geW_int, eqW_int, eqW_str, neW_int, neW_str, neW_bl, slW_tl, slW_cl, lenW_tl, lenW_tup, negW, List.set_cons_zero, List.set_cons_succ, List.getElem?_cons_zero, List.getElem?_cons_succ, List.length_cons, List.length_nil, arW, if_true, if_false, Bool.false_eq_true, ite_true, ite_false, reduceIte, decide_true, decide_false, Bool.not_true, Bool.not_false, gd_tt, gdn0, gdn1, gdn2, gdn3, gdn4, gdn5, gdn6, gdn7, gdn8, gdn9, gdn10, gdn11, gdn12, gdn13, gdn14, gdn15, gdn16, gdn17, gdn18, gdn19, gdn20, gdn21, gdn22, gdn23, gdn24, bd_assoc]
    exact ok_pr ⟨rfl, app_n (t := t) ne H⟩
  | num hn hb =>
    obtain ⟨n1, n2, n3⟩ := num_no hn
    simp only [envD, finF, sSeq, sIf, sRet, sSet, sNil, sEx, sPass, sBreak, sCont, sUnp, sStore, mB, L2.m2, L2.m1, L2.m3, mVar, mC, mCall, mCons, mNil, mTup, mTl, mNew, lenG, listL, mPart, mNoPart, mAnd, mOr, mNot, mAndV, mOrV, mNotV, mIf, mChain, mMeth, isS, mSrc, mSrcA, srcL, srcT, srcS, tgN, tgT, setW, mYes, bd_prN, bd_no, asB_bl, addW_int, subW_int, ltW_int, leW_int, gtW_int, geW_int, eqW_int, eqW_str, neW_int, neW_str, neW_bl, slW_tl, slW_cl, lenW_tl, lenW_tup, negW, List.set_cons_zero, List.set_cons_succ, List.getElem?_cons_zero, List.getElem?_cons_succ, List.length_cons, List.length_nil, arW, if_true, if_false, Bool.false_eq_true, ite_true, ite_false, reduceIte, decide_true, decide_false, Bool.not_true, Bool.not_false, gd_tt, gdn0, gdn1, gdn2, gdn3, gdn4, gdn5, gdn6, gdn7, gdn8, gdn9, gdn10, gdn11, gdn12, gdn13, gdn14, gdn15, gdn16, gdn17, gdn18, gdn19, gdn20, gdn21, gdn22, gdn23, gdn24, bd_assoc, n1, in_dv, n2, ni4, n3]
    refine ok_isL H.n ?_
    try simp only [finF, sSeq, sIf, sRet, sSet, sNil, sEx, sPass, sBreak, sCont, sUnp, sStore, mB, L2.m2, L2.m1, L2.m3, mVar, mC, mCall, mCons, mNil, mTup, mTl, mNew, lenG, listL, mPart, mNoPart, mAnd, mOr, mNot, mAndV, mOrV, mNotV, mIf, mChain, mMeth, isS, mSrc, mSrcA, srcL, srcT, srcS, tgN, tgT, setW, mYes, bd_prN, bd_no, asB_bl, addW_int, subW_int, ltW_int, leW_int, gtW_int, geW_int, eqW_int, eqW_str, neW_int, neW_str, neW_bl, slW_tl, slW_cl, lenW_tl, lenW_tup, negW, List.set_cons_zero, List.set_cons_succ, List.getElem?_cons_zero, List.getElem?_cons_succ, List.length_cons, List.length_nil, arW, if_true, if_false, Bool.false_eq_true, ite_true, ite_false, reduceIte, decide_true, decide_false, Bool.not_true, Bool.not_false, gd_tt, gdn0, gdn1, gdn2, gdn3, gdn4, gdn5, gdn6, gdn7, gdn8, gdn9, gdn10, gdn11, gdn12, gdn13, gdn14, gdn15, gdn16, gdn17, gdn18, gdn19, gdn20, gdn21, gdn22, gdn23, gdn24, bd_assoc, int_num hn]
    refine ok_app H.n nz ?_
    try simp only [finF, sSeq, sIf, sRet, sSet, sNil, sEx, sPass, sBreak, sCont, sUnp, sStore, mB, L2.m2, L2.m1, L2.m3, mVar, mC, mCall, mCons, mNil, mTup, mTl, mNew, lenG, listL, mPart, mNoPart, mAnd, mOr, mNot, mAndV, mOrV, mNotV, mIf, mChain, mMeth, isS, mSrc, mSrcA, srcL, srcT, srcS, tgN, tgT, setW, mYes, bd_prN, bd_no, asB_bl, addW_int, subW_int, ltW_int, leW_int, gtW_int, geW_int, eqW_int, eqW_str, neW_int, neW_str, neW_bl, slW_tl, slW_cl, lenW_tl, lenW_tup, negW, List.set_cons_zero, List.set_cons_succ, List.getElem?_cons_zero, List.getElem?_cons_succ, List.length_cons, List.length_nil, arW, if_true, if_false, Bool.false_eq_true, ite_true, ite_false, reduceIte, decide_true, decide_false, Bool.not_true, Bool.not_false, gd_tt, gdn0, gdn1, gdn2, gdn3, gdn4, gdn5, gdn6, gdn7, gdn8, gdn9, gdn10, gdn11, gdn12, gdn13, gdn14, gdn15, gdn16, gdn17, gdn18, gdn19, gdn20, gdn21, gdn22, gdn23, gdn24, bd_assoc]
    exact ok_pr ⟨rfl, app_n (t := t) ne H⟩
variable {o : List Lvl} {L : Lvl} {e : Exp} {n : Nat}
theorem body_op {c : Nat} (V : Vok (vsf x y z)) (ne : kn ≠ ks) (F : Fit ⟨o, L, some e, n⟩) (h10 : n ≤ 10) (ho : o.length ≤ 5) (hc : c = 43 ∨ c = 45 ∨ c = 42) (H : Hp2 kn ks (nums (vsf x y z) ⟨o, L, some e, n⟩) (sgns ⟨o, L, some e, n⟩) h) :
    Ok (bodyD (envD P (dvW x y z) kn ks ⟨#[c]⟩)) h fun r h' => r = .nx (envD P (dvW x y z) kn ks ⟨#[c]⟩) ∧ Hp2 kn ks (nums (vsf x y z) ⟨o, L.op c e, none, n⟩) (sgns ⟨o, L.op c e, none, n⟩) h' := by
  obtain ⟨g1, g2, g3, g4⟩ := f_op c (by simp only [List.mem_cons, List.not_mem_nil, or_false]; exact hc)
  unfold bodyD
  simp only [envD, finF, sSeq, sIf, sRet, sSet, sNil, sEx, sPass, sBreak, sCont, sUnp, sStore, mB, L2.m2, L2.m1, L2.m3, mVar, mC, mCall, mCons, mNil, mTup, mTl, mNew, lenG, listL, mPart, mNoPart, mAnd, mOr, mNot, mAndV, mOrV, mNotV, mIf, mChain, mMeth, isS, mSrc, mSrcA, srcL, srcT, srcS, tgN, tgT, setW, mYes, bd_prN, bd_no, asB_bl, addW_int, subW_int, ltW_int, leW_int, gtW_int, geW_int, eqW_int, eqW_str, neW_int, neW_str, neW_bl, slW_tl, slW_cl, lenW_tl, lenW_tup, negW, List.set_cons_zero, List.set_cons_succ, List.getElem?_cons_zero, List.getElem?_cons_succ, List.length_cons, List.length_nil, arW, if_true, if_false, Bool.false_eq_true, ite_true, ite_false, reduceIte, decide_true, decide_false, Bool.not_true, Bool.not_false, gd_tt, gdn0, gdn1, gdn2, gdn3, gdn4, gdn5, gdn6, gdn7, gdn8, gdn9, gdn10, gdn11, gdn12, gdn13, gdn14, gdn15, gdn16, gdn17, gdn18, gdn19, gdn20, gdn21, gdn22, gdn23, gdn24, bd_assoc, g1, in_dv, g2, ni4, g3]
  unfold opD
  have sl := sgn_len o
  have s1 : (sgnS L.s).length ≤ 1 := by cases L.s <;> simp [sgnS]
  have fin : ∀ {ns : List Int} {ss : List Str} {h' : List Ob}, ss.length ≤ 100 → Hp2 kn ks ns ss h' → Ok (sIf (mB (L2.m2 neW (mVar 4) (mC (.str ")")))) (sEx (mMeth isL appendW (mVar 3) (mCons (mVar 4) mNil))) (sIf (mB (L2.m2 neW (mVar 3) (mTl (lenG mNil)))) (sEx (mMeth isL popW (mVar 3) mNil)) sNil) (envD P (dvW x y z) kn ks ⟨#[c]⟩)) h' fun r h2 => r = .nx (envD P (dvW x y z) kn ks ⟨#[c]⟩) ∧ Hp2 kn ks ns (ss ++ [⟨#[c]⟩]) h2 := fun {ns ss h'} hl H' => by
    simp only [envD, finF, sSeq, sIf, sRet, sSet, sNil, sEx, sPass, sBreak, sCont, sUnp, sStore, mB, L2.m2, L2.m1, L2.m3, mVar, mC, mCall, mCons, mNil, mTup, mTl, mNew, lenG, listL, mPart, mNoPart, mAnd, mOr, mNot, mAndV, mOrV, mNotV, mIf, mChain, mMeth, isS, mSrc, mSrcA, srcL, srcT, srcS, tgN, tgT, setW, mYes, bd_prN, bd_no, asB_bl, addW_int, subW_int, ltW_int, leW_int, gtW_int, geW_int, eqW_int, eqW_str, neW_int, neW_str, neW_bl, slW_tl, slW_cl, lenW_tl, lenW_tup, negW, List.set_cons_zero, List.set_cons_succ, List.getElem?_cons_zero, List.getElem?_cons_succ, List.length_cons, List.length_nil, arW, if_true, if_false, Bool.false_eq_true, ite_true, ite_false, reduceIte, decide_true, decide_false, Bool.not_true, Bool.not_false, gd_tt, gdn0, gdn1, gdn2, gdn3, gdn4, gdn5, gdn6, gdn7, gdn8, gdn9, gdn10, gdn11, gdn12, gdn13, gdn14, gdn15, gdn16, gdn17, gdn18, gdn19, gdn20, gdn21, gdn22, gdn23, gdn24, bd_assoc, g4]
    refine ok_isL H'.s ?_
    try simp only [finF, sSeq, sIf, sRet, sSet, sNil, sEx, sPass, sBreak, sCont, sUnp, sStore, mB, L2.m2, L2.m1, L2.m3, mVar, mC, mCall, mCons, mNil, mTup, mTl, mNew, lenG, listL, mPart, mNoPart, mAnd, mOr, mNot, mAndV, mOrV, mNotV, mIf, mChain, mMeth, isS, mSrc, mSrcA, srcL, srcT, srcS, tgN, tgT, setW, mYes, bd_prN, bd_no, asB_bl, addW_int, subW_int, ltW_int, leW_int, gtW_int, geW_int, eqW_int, eqW_str, neW_int, neW_str, neW_bl, slW_tl, slW_cl, lenW_tl, lenW_tup, negW, List.set_cons_zero, List.set_cons_succ, List.getElem?_cons_zero, List.getElem?_cons_succ, List.length_cons, List.length_nil, arW, if_true, if_false, Bool.false_eq_true, ite_true, ite_false, reduceIte, decide_true, decide_false, Bool.not_true, Bool.not_false, gd_tt, gdn0, gdn1, gdn2, gdn3, gdn4, gdn5, gdn6, gdn7, gdn8, gdn9, gdn10, gdn11, gdn12, gdn13, gdn14, gdn15, gdn16, gdn17, gdn18, gdn19, gdn20, gdn21, gdn22, gdn23, gdn24, bd_assoc]
    refine ok_app H'.s (by rw [List.length_map]; exact Nat.lt_of_le_of_lt hl (by decide)) ?_
    try simp only [finF, sSeq, sIf, sRet, sSet, sNil, sEx, sPass, sBreak, sCont, sUnp, sStore, mB, L2.m2, L2.m1, L2.m3, mVar, mC, mCall, mCons, mNil, mTup, mTl, mNew, lenG, listL, mPart, mNoPart, mAnd, mOr, mNot, mAndV, mOrV, mNotV, mIf, mChain, mMeth, isS, mSrc, mSrcA, srcL, srcT, srcS, tgN, tgT, setW, mYes, bd_prN, bd_no, asB_bl, addW_int, subW_int, ltW_int, leW_int, gtW_int, geW_int, eqW_int, eqW_str, neW_int, neW_str, neW_bl, slW_tl, slW_cl, lenW_tl, lenW_tup, negW, List.set_cons_zero, List.set_cons_succ, List.getElem?_cons_zero, List.getElem?_cons_succ, List.length_cons, List.length_nil, arW, if_true, if_false, Bool.false_eq_true, ite_true, ite_false, reduceIte, decide_true, decide_false, Bool.not_true, Bool.not_false, gd_tt, gdn0, gdn1, gdn2, gdn3, gdn4, gdn5, gdn6, gdn7, gdn8, gdn9, gdn10, gdn11, gdn12, gdn13, gdn14, gdn15, gdn16, gdn17, gdn18, gdn19, gdn20, gdn21, gdn22, gdn23, gdn24, bd_assoc]
    exact ok_pr ⟨rfl, app_s ne H'⟩
  show Ok (bd (whileM tD bD (997 + 3) (envD P (dvW x y z) kn ks ⟨#[c]⟩)) _) h _
  by_cases h42 : c = 42
  · subst h42
    have w := red_prod (P := P) (V := dvW x y z) (m := 997) (Q := fun r h' => r = .nx (envD P (dvW x y z) kn ks "*") ∧ Hp2 kn ks (numO (vsf x y z) o ++ numS (vsf x y z) L.s ++ [val (vsf x y z) (L.prod e)]) (sgnO o ++ sgnS L.s) h') V ne F h10 H fun h' H' => ⟨rfl, H'⟩
    rw [← star_eq] at w
    refine ok_bd w fun r h2 ⟨e1, H2⟩ => ?_
    subst e1
    refine Ok.imp (fin (by rw [List.length_append]; omega) H2) fun r h3 ⟨e2, H3⟩ => ⟨e2, ?_⟩
    have a : nums (vsf x y z) ⟨o, L.op 42 e, none, n⟩ = numO (vsf x y z) o ++ numS (vsf x y z) L.s ++ [val (vsf x y z) (L.prod e)] := by
      show numO (vsf x y z) o ++ numS (vsf x y z) L.s ++ [val (vsf x y z) (L.prod e)] ++ [] = _
      rw [List.append_nil]
    rw [a]
    exact H3
  · have hc2 : c = 43 ∨ c = 45 := by omega
    have nt : (⟨#[c]⟩ : Str) ≠ "*" := not_star c (by simp only [List.mem_cons, List.not_mem_nil, or_false]; exact hc2)
    refine ok_bd (red_sum (P := P) (V := dvW x y z) (m := 997) (Q := fun r h' => r = .nx (envD P (dvW x y z) kn ks ⟨#[c]⟩) ∧ Hp2 kn ks (numO (vsf x y z) o ++ [val (vsf x y z) (L.sum e)]) (sgnO o) h') nt V ne F h10 H fun h' H' => ⟨rfl, H'⟩) fun r h2 ⟨e1, H2⟩ => ?_
    subst e1
    refine Ok.imp (fin (by omega) H2) fun r h3 ⟨e2, H3⟩ => ⟨e2, ?_⟩
    have op : L.op c e = ⟨some (L.sum e, c), none⟩ := if_neg h42
    have a : nums (vsf x y z) ⟨o, L.op c e, none, n⟩ = numO (vsf x y z) o ++ [val (vsf x y z) (L.sum e)] := by
      rw [op]
      show numO (vsf x y z) o ++ [val (vsf x y z) (L.sum e)] ++ [] ++ [] = _
      rw [List.append_nil, List.append_nil]
    have b : sgns ⟨o, L.op c e, none, n⟩ = sgnO o ++ [⟨#[c]⟩] := by
      rw [op]
      show sgnO o ++ [⟨#[c]⟩] ++ [] = _
      rw [List.append_nil]
    rw [a, b]
    exact H3
theorem body_rp (V : Vok (vsf x y z)) (ne : kn ≠ ks) (F : Fit ⟨o, L, some e, n⟩) (h10 : n ≤ 10) (H : Hp2 kn ks (nums (vsf x y z) ⟨o, L, some e, n⟩) (sgns ⟨o, L, some e, n⟩) h) :
    Ok (bodyD (envD P (dvW x y z) kn ks ")")) h fun r h' => r = .nx (envD P (dvW x y z) kn ks ")") ∧ Hp2 kn ks (numO (vsf x y z) o ++ [val (vsf x y z) (L.sum e)]) (sgnO o).dropLast h' := by
  unfold bodyD
  simp only [envD, finF, sSeq, sIf, sRet, sSet, sNil, sEx, sPass, sBreak, sCont, sUnp, sStore, mB, L2.m2, L2.m1, L2.m3, mVar, mC, mCall, mCons, mNil, mTup, mTl, mNew, lenG, listL, mPart, mNoPart, mAnd, mOr, mNot, mAndV, mOrV, mNotV, mIf, mChain, mMeth, isS, mSrc, mSrcA, srcL, srcT, srcS, tgN, tgT, setW, mYes, bd_prN, bd_no, asB_bl, addW_int, subW_int, ltW_int, leW_int, gtW_int, geW_int, eqW_int, eqW_str, neW_int, neW_str, neW_bl, slW_tl, slW_cl, lenW_tl, lenW_tup, negW, List.set_cons_zero, List.set_cons_succ, List.getElem?_cons_zero, List.getElem?_cons_succ, List.length_cons, List.length_nil, arW, if_true, if_false, Bool.false_eq_true, ite_true, ite_false, reduceIte, decide_true, decide_false, Bool.not_true, Bool.not_false, gd_tt, gdn0, gdn1, gdn2, gdn3, gdn4, gdn5, gdn6, gdn7, gdn8, gdn9, gdn10, gdn11, gdn12, gdn13, gdn14, gdn15, gdn16, gdn17, gdn18, gdn19, gdn20, gdn21, gdn22, gdn23, gdn24, bd_assoc, f_lp1, in_dv, f_lp2, ni4, f_lp3]
  unfold opD
  show Ok (bd (whileM tD bD (997 + 3) (envD P (dvW x y z) kn ks ")")) _) h _
  refine ok_bd (red_sum (P := P) (V := dvW x y z) (m := 997) (Q := fun r h' => r = .nx (envD P (dvW x y z) kn ks ")") ∧ Hp2 kn ks (numO (vsf x y z) o ++ [val (vsf x y z) (L.sum e)]) (sgnO o) h') rp_star V ne F h10 H fun h' H' => ⟨rfl, H'⟩) fun r h2 ⟨e1, H2⟩ => ?_
  subst e1
  simp only [envD, finF, sSeq, sIf, sRet, sSet, sNil, sEx, sPass, sBreak, sCont, sUnp, sStore, mB, L2.m2, L2.m1, L2.m3, mVar, mC, mCall, mCons, mNil, mTup, mTl, mNew, lenG, listL, mPart, mNoPart, mAnd, mOr, mNot, mAndV, mOrV, mNotV, mIf, mChain, mMeth, isS, mSrc, mSrcA, srcL, srcT, srcS, tgN, tgT, setW, mYes, bd_prN, bd_no, asB_bl, addW_int, subW_int, ltW_int, leW_int, gtW_int, geW_int, eqW_int, eqW_str, neW_int, neW_str, neW_bl, slW_tl, slW_cl, lenW_tl, lenW_tup, negW, List.set_cons_zero, List.set_cons_succ, List.getElem?_cons_zero, List.getElem?_cons_succ, List.length_cons, List.length_nil, arW, if_true, if_false, Bool.false_eq_true, ite_true, ite_false, reduceIte, decide_true, decide_false, Bool.not_true, Bool.not_false, gd_tt, gdn0, gdn1, gdn2, gdn3, gdn4, gdn5, gdn6, gdn7, gdn8, gdn9, gdn10, gdn11, gdn12, gdn13, gdn14, gdn15, gdn16, gdn17, gdn18, gdn19, gdn20, gdn21, gdn22, gdn23, gdn24, bd_assoc, eq_self, decide_true]
  refine ok_neS H2.s (sm_o F.o) ?_
  cases o with
  | nil =>
    have e3 : (sgnO []).isEmpty = true := rfl
    try simp only [e3, finF, sSeq, sIf, sRet, sSet, sNil, sEx, sPass, sBreak, sCont, sUnp, sStore, mB, L2.m2, L2.m1, L2.m3, mVar, mC, mCall, mCons, mNil, mTup, mTl, mNew, lenG, listL, mPart, mNoPart, mAnd, mOr, mNot, mAndV, mOrV, mNotV, mIf, mChain, mMeth, isS, mSrc, mSrcA, srcL, srcT, srcS, tgN, tgT, setW, mYes, bd_prN, bd_no, asB_bl, addW_int, subW_int, ltW_int, leW_int, gtW_int, geW_int, eqW_int, eqW_str, neW_int, neW_str, neW_bl, slW_tl, slW_cl, lenW_tl, lenW_tup, negW, List.set_cons_zero, List.set_cons_succ, List.getElem?_cons_zero, List.getElem?_cons_succ, List.length_cons, List.length_nil, arW, if_true, if_false, Bool.false_eq_true, ite_true, ite_false, reduceIte, decide_true, decide_false, Bool.not_true, Bool.not_false, gd_tt, gdn0, gdn1, gdn2, gdn3, gdn4, gdn5, gdn6, gdn7, gdn8, gdn9, gdn10, gdn11, gdn12, gdn13, gdn14, gdn15, gdn16, gdn17, gdn18, gdn19, gdn20, gdn21, gdn22, gdn23, gdn24, bd_assoc]
    exact ok_pr ⟨rfl, H2⟩
  | cons K o =>
    obtain ⟨r, er⟩ : ∃ r, sgnO (K :: o) = r ++ [("(" : Str)] := ⟨_, rfl⟩
    rw [er] at H2 ⊢
    have e3 : (r ++ [("(" : Str)]).isEmpty = false := by simp
    have e4 : (r ++ [("(" : Str)]).dropLast = r := by simp
    have s1 : h2[ks]? = some (.lst (r.map W.str ++ [.str "("])) := by rw [H2.s]; simp
    try simp only [e3, finF, sSeq, sIf, sRet, sSet, sNil, sEx, sPass, sBreak, sCont, sUnp, sStore, mB, L2.m2, L2.m1, L2.m3, mVar, mC, mCall, mCons, mNil, mTup, mTl, mNew, lenG, listL, mPart, mNoPart, mAnd, mOr, mNot, mAndV, mOrV, mNotV, mIf, mChain, mMeth, isS, mSrc, mSrcA, srcL, srcT, srcS, tgN, tgT, setW, mYes, bd_prN, bd_no, asB_bl, addW_int, subW_int, ltW_int, leW_int, gtW_int, geW_int, eqW_int, eqW_str, neW_int, neW_str, neW_bl, slW_tl, slW_cl, lenW_tl, lenW_tup, negW, List.set_cons_zero, List.set_cons_succ, List.getElem?_cons_zero, List.getElem?_cons_succ, List.length_cons, List.length_nil, arW, if_true, if_false, Bool.false_eq_true, ite_true, ite_false, reduceIte, decide_true, decide_false, Bool.not_true, Bool.not_false, gd_tt, gdn0, gdn1, gdn2, gdn3, gdn4, gdn5, gdn6, gdn7, gdn8, gdn9, gdn10, gdn11, gdn12, gdn13, gdn14, gdn15, gdn16, gdn17, gdn18, gdn19, gdn20, gdn21, gdn22, gdn23, gdn24, bd_assoc]
    refine ok_isL s1 ?_
    try simp only [finF, sSeq, sIf, sRet, sSet, sNil, sEx, sPass, sBreak, sCont, sUnp, sStore, mB, L2.m2, L2.m1, L2.m3, mVar, mC, mCall, mCons, mNil, mTup, mTl, mNew, lenG, listL, mPart, mNoPart, mAnd, mOr, mNot, mAndV, mOrV, mNotV, mIf, mChain, mMeth, isS, mSrc, mSrcA, srcL, srcT, srcS, tgN, tgT, setW, mYes, bd_prN, bd_no, asB_bl, addW_int, subW_int, ltW_int, leW_int, gtW_int, geW_int, eqW_int, eqW_str, neW_int, neW_str, neW_bl, slW_tl, slW_cl, lenW_tl, lenW_tup, negW, List.set_cons_zero, List.set_cons_succ, List.getElem?_cons_zero, List.getElem?_cons_succ, List.length_cons, List.length_nil, arW, if_true, if_false, Bool.false_eq_true, ite_true, ite_false, reduceIte, decide_true, decide_false, Bool.not_true, Bool.not_false, gd_tt, gdn0, gdn1, gdn2, gdn3, gdn4, gdn5, gdn6, gdn7, gdn8, gdn9, gdn10, gdn11, gdn12, gdn13, gdn14, gdn15, gdn16, gdn17, gdn18, gdn19, gdn20, gdn21, gdn22, gdn23, gdn24, bd_assoc]
    refine ok_pop s1 ?_
    try simp only [finF, sSeq, sIf, sRet, sSet, sNil, sEx, sPass, sBreak, sCont, sUnp, sStore, mB, L2.m2, L2.m1, L2.m3, mVar, mC, mCall, mCons, mNil, mTup, mTl, mNew, lenG, listL, mPart, mNoPart, mAnd, mOr, mNot, mAndV, mOrV, mNotV, mIf, mChain, mMeth, isS, mSrc, mSrcA, srcL, srcT, srcS, tgN, tgT, setW, mYes, bd_prN, bd_no, asB_bl, addW_int, subW_int, ltW_int, leW_int, gtW_int, geW_int, eqW_int, eqW_str, neW_int, neW_str, neW_bl, slW_tl, slW_cl, lenW_tl, lenW_tup, negW, List.set_cons_zero, List.set_cons_succ, List.getElem?_cons_zero, List.getElem?_cons_succ, List.length_cons, List.length_nil, arW, if_true, if_false, Bool.false_eq_true, ite_true, ite_false, reduceIte, decide_true, decide_false, Bool.not_true, Bool.not_false, gd_tt, gdn0, gdn1, gdn2, gdn3, gdn4, gdn5, gdn6, gdn7, gdn8, gdn9, gdn10, gdn11, gdn12, gdn13, gdn14, gdn15, gdn16, gdn17, gdn18, gdn19, gdn20, gdn21, gdn22, gdn23, gdn24, bd_assoc]
    rw [e4]
    exact ok_pr ⟨rfl, by rw [List.getElem?_set_ne (Ne.symm ne)]; exact H2.n, set_get s1⟩
theorem step_ok {s s' : Sta} {t : Str} (V : Vok (vsf x y z)) (ne : kn ≠ ks) (S : Stp s t s') (F : Fit s) (h10 : s.n ≤ 10) (ho : s.o.length ≤ 5) (H : Hp2 kn ks (nums (vsf x y z) s) (sgns s) h) :
    Ok (bodyD (envD P (dvW x y z) kn ks t)) h fun r h' => r = .nx (envD P (dvW x y z) kn ks t) ∧ Hp2 kn ks (nums (vsf x y z) s') (sgns s') h' := by
  have nl := nums_len (vs := vsf x y z) F
  have sl := sgns_len s
  cases S with
  | lp hl =>
    rename_i o L n
    have ho : o.length ≤ 5 := ho
    have sl : (sgns ⟨o, L, none, n⟩).length ≤ 3 * o.length + 2 := sl
    refine Ok.imp (body_lp ne H (by omega)) fun r h' ⟨e1, H'⟩ => ⟨e1, ?_⟩
    have a : nums (vsf x y z) ⟨L :: o, Lvl.e0, none, n⟩ = nums (vsf x y z) ⟨o, L, none, n⟩ := by
      show numO (vsf x y z) o ++ numS (vsf x y z) L.s ++ numP (vsf x y z) L.p ++ [] ++ [] ++ [] = numO (vsf x y z) o ++ numS (vsf x y z) L.s ++ numP (vsf x y z) L.p ++ []
      simp
    have b : sgns ⟨L :: o, Lvl.e0, none, n⟩ = sgns ⟨o, L, none, n⟩ ++ ([("(" : Str)] : List Str) := by
      show sgnO o ++ sgnS L.s ++ sgnP L.p ++ ([("(" : Str)] : List Str) ++ [] ++ [] = sgnO o ++ sgnS L.s ++ sgnP L.p ++ ([("(" : Str)] : List Str)
      simp
    rw [a, b]
    exact H'
  | leaf lf =>
    rename_i o L n e
    have h10 : n ≤ 10 := h10
    have nl : (nums (vsf x y z) ⟨o, L, none, n⟩).length ≤ n := nl
    refine Ok.imp (body_leaf ne H (by omega) lf) fun r h' ⟨e1, H'⟩ => ⟨e1, ?_⟩
    have a : nums (vsf x y z) ⟨o, L, some e, n + 1⟩ = nums (vsf x y z) ⟨o, L, none, n⟩ ++ [val (vsf x y z) e] := by
      show numO (vsf x y z) o ++ numS (vsf x y z) L.s ++ numP (vsf x y z) L.p ++ [val (vsf x y z) e] = numO (vsf x y z) o ++ numS (vsf x y z) L.s ++ numP (vsf x y z) L.p ++ [] ++ [val (vsf x y z) e]
      simp
    rw [a]
    exact H'
  | rp =>
    rename_i o K L e n
    refine Ok.imp (body_rp V ne F h10 H) fun r h' ⟨e1, H'⟩ => ⟨e1, ?_⟩
    have b : (sgnO (K :: o)).dropLast = sgnO o ++ sgnS K.s ++ sgnP K.p := by
      show (sgnO o ++ sgnS K.s ++ sgnP K.p ++ [_]).dropLast = _
      simp
    rw [b] at H'
    exact H'
  | op hc => exact body_op V ne F h10 ho hc H
theorem stp_o {s s' : Sta} {t : Str} (S : Stp s t s') (ho : s.o.length ≤ 5) : s'.o.length ≤ 5 := by
  cases S with
  | lp hl => rw [List.length_cons]; exact hl
  | leaf _ => exact ho
  | rp =>
    rename_i o K L e n
    have ho : o.length + 1 ≤ 5 := ho
    show o.length ≤ 5
    omega
  | op _ => exact ho
theorem loop_ok {s s' : Sta} {l : List Str} (V : Vok (vsf x y z)) (ne : kn ≠ ks) (R : Runs s l s') : ∀ {h : List Ob} {a : Option W} {L : Lvl} {e : Exp} {n : Nat}, s' = ⟨[], L, some e, n⟩ → n ≤ 10 → Fit s → s.o.length ≤ 5 → Hp2 kn ks (nums (vsf x y z) s) (sgns s) h →
    Ok (L2.forM (fun _ => True) (tgN 4) bodyD (l.map W.str ++ [.str ")"]) [some P, some (dvW x y z), some (.loc kn), some (.loc ks), a]) h fun r h' => (∃ a, r = .nx [some P, some (dvW x y z), some (.loc kn), some (.loc ks), a]) ∧ h'[kn]? = some (.lst [.int (val (vsf x y z) (L.sum e))]) := by
  induction R with
  | nil =>
    intro h a L e n es h10 F ho H
    subst es
    show Ok (L2.forM (fun _ => True) (tgN 4) bodyD [.str ")"] _) h _
    unfold L2.forM
    rw [gdh_true]
    refine ok_bd (body_rp V ne F h10 H) fun r h' ⟨e1, H'⟩ => ?_
    subst e1
    dsimp only
    unfold L2.forM
    rw [gdh_true]
    exact ok_pr ⟨⟨_, rfl⟩, H'.n⟩
  | cons S R ih =>
    intro h a L e n es h10 F ho H
    rename_i s1 s2 s3 t r
    rw [List.map_cons, List.cons_append]
    unfold L2.forM
    rw [gdh_true]
    have n3 := R.n_le
    have n2 := S.n_le
    rw [es] at n3
    have n3 : s2.n ≤ n := n3
    refine ok_bd (step_ok V ne S F (by omega) ho H) fun r h' ⟨e1, H'⟩ => ?_
    subst e1
    exact ih es h10 (S.fit F) (stp_o S ho) H'
end
theorem addW_tl (a b : List W) (h : a.length + b.length ≤ sizeLine) : addW (.tl a) (.tl b) = pr (.tl (a ++ b)) := by
  show gd (a.length + b.length ≤ sizeLine) (pr (W.tl (a ++ b))) = _
  exact gd_pos h
theorem fit0 : Fit s0 := ⟨trivial, trivial, trivial, trivial, Nat.le_refl _⟩
theorem due_ok {h : List Ob} {x y z : Int} {toks : List Str} {L : Lvl} {e : Exp} {n : Nat} (V : Vok (vsf x y z)) (R : Runs s0 toks ⟨[], L, some e, n⟩) (h10 : n ≤ 10) (hl : toks.length ≤ 10000) :
    Ok (f_law_due [.tl (toks.map W.str), dvW x y z]) h fun w _ => w = .int (val (vsf x y z) (L.sum e)) := by
  have e0 : f_law_due [.tl (toks.map W.str), dvW x y z] = bd (g_law_due [some (.tl (toks.map W.str)), some (dvW x y z), none, none, none]) finF := rfl
  have ad : addW (.tl (toks.map W.str)) (.tl [.str ")"]) = pr (.tl (toks.map W.str ++ [.str ")"])) := addW_tl _ _ (by rw [List.length_map]; show toks.length + 1 ≤ _; exact sz (by omega))
  rw [e0, due_parts]
  simp only [finF, sSeq, sIf, sRet, sSet, sNil, sEx, sPass, sBreak, sCont, sUnp, sStore, mB, L2.m2, L2.m1, L2.m3, mVar, mC, mCall, mCons, mNil, mTup, mTl, mNew, lenG, listL, mPart, mNoPart, mAnd, mOr, mNot, mAndV, mOrV, mNotV, mIf, mChain, mMeth, isS, mSrc, mSrcA, srcL, srcT, srcS, tgN, tgT, setW, mYes, bd_prN, bd_no, asB_bl, addW_int, subW_int, ltW_int, leW_int, gtW_int, geW_int, eqW_int, eqW_str, neW_int, neW_str, neW_bl, slW_tl, slW_cl, lenW_tl, lenW_tup, negW, List.set_cons_zero, List.set_cons_succ, List.getElem?_cons_zero, List.getElem?_cons_succ, List.length_cons, List.length_nil, arW, if_true, if_false, Bool.false_eq_true, ite_true, ite_false, reduceIte, decide_true, decide_false, Bool.not_true, Bool.not_false, gd_tt, gdn0, gdn1, gdn2, gdn3, gdn4, gdn5, gdn6, gdn7, gdn8, gdn9, gdn10, gdn11, gdn12, gdn13, gdn14, gdn15, gdn16, gdn17, gdn18, gdn19, gdn20, gdn21, gdn22, gdn23, gdn24, bd_assoc]
  refine ok_new ?_
  try simp only [finF, sSeq, sIf, sRet, sSet, sNil, sEx, sPass, sBreak, sCont, sUnp, sStore, mB, L2.m2, L2.m1, L2.m3, mVar, mC, mCall, mCons, mNil, mTup, mTl, mNew, lenG, listL, mPart, mNoPart, mAnd, mOr, mNot, mAndV, mOrV, mNotV, mIf, mChain, mMeth, isS, mSrc, mSrcA, srcL, srcT, srcS, tgN, tgT, setW, mYes, bd_prN, bd_no, asB_bl, addW_int, subW_int, ltW_int, leW_int, gtW_int, geW_int, eqW_int, eqW_str, neW_int, neW_str, neW_bl, slW_tl, slW_cl, lenW_tl, lenW_tup, negW, List.set_cons_zero, List.set_cons_succ, List.getElem?_cons_zero, List.getElem?_cons_succ, List.length_cons, List.length_nil, arW, if_true, if_false, Bool.false_eq_true, ite_true, ite_false, reduceIte, decide_true, decide_false, Bool.not_true, Bool.not_false, gd_tt, gdn0, gdn1, gdn2, gdn3, gdn4, gdn5, gdn6, gdn7, gdn8, gdn9, gdn10, gdn11, gdn12, gdn13, gdn14, gdn15, gdn16, gdn17, gdn18, gdn19, gdn20, gdn21, gdn22, gdn23, gdn24, bd_assoc]
  refine ok_new ?_
  simp only [finF, sSeq, sIf, sRet, sSet, sNil, sEx, sPass, sBreak, sCont, sUnp, sStore, mB, L2.m2, L2.m1, L2.m3, mVar, mC, mCall, mCons, mNil, mTup, mTl, mNew, lenG, listL, mPart, mNoPart, mAnd, mOr, mNot, mAndV, mOrV, mNotV, mIf, mChain, mMeth, isS, mSrc, mSrcA, srcL, srcT, srcS, tgN, tgT, setW, mYes, bd_prN, bd_no, asB_bl, addW_int, subW_int, ltW_int, leW_int, gtW_int, geW_int, eqW_int, eqW_str, neW_int, neW_str, neW_bl, slW_tl, slW_cl, lenW_tl, lenW_tup, negW, List.set_cons_zero, List.set_cons_succ, List.getElem?_cons_zero, List.getElem?_cons_succ, List.length_cons, List.length_nil, arW, if_true, if_false, Bool.false_eq_true, ite_true, ite_false, reduceIte, decide_true, decide_false, Bool.not_true, Bool.not_false, gd_tt, gdn0, gdn1, gdn2, gdn3, gdn4, gdn5, gdn6, gdn7, gdn8, gdn9, gdn10, gdn11, gdn12, gdn13, gdn14, gdn15, gdn16, gdn17, gdn18, gdn19, gdn20, gdn21, gdn22, gdn23, gdn24, sFor, bd_assoc, ad]
  have H : Hp2 h.length (h ++ [Ob.lst []]).length (nums (vsf x y z) s0) (sgns s0) (h ++ [Ob.lst []] ++ [Ob.lst []]) := ⟨get_app get_end, get_end⟩
  refine ok_bd (loop_ok (P := .tl (toks.map W.str)) V (by simp) R rfl h10 fit0 (Nat.zero_le _) H) fun r h' ⟨⟨a, e1⟩, e2⟩ => ?_
  subst e1
  try simp only [finF, sSeq, sIf, sRet, sSet, sNil, sEx, sPass, sBreak, sCont, sUnp, sStore, mB, L2.m2, L2.m1, L2.m3, mVar, mC, mCall, mCons, mNil, mTup, mTl, mNew, lenG, listL, mPart, mNoPart, mAnd, mOr, mNot, mAndV, mOrV, mNotV, mIf, mChain, mMeth, isS, mSrc, mSrcA, srcL, srcT, srcS, tgN, tgT, setW, mYes, bd_prN, bd_no, asB_bl, addW_int, subW_int, ltW_int, leW_int, gtW_int, geW_int, eqW_int, eqW_str, neW_int, neW_str, neW_bl, slW_tl, slW_cl, lenW_tl, lenW_tup, negW, List.set_cons_zero, List.set_cons_succ, List.getElem?_cons_zero, List.getElem?_cons_succ, List.length_cons, List.length_nil, arW, if_true, if_false, Bool.false_eq_true, ite_true, ite_false, reduceIte, decide_true, decide_false, Bool.not_true, Bool.not_false, gd_tt, gdn0, gdn1, gdn2, gdn3, gdn4, gdn5, gdn6, gdn7, gdn8, gdn9, gdn10, gdn11, gdn12, gdn13, gdn14, gdn15, gdn16, gdn17, gdn18, gdn19, gdn20, gdn21, gdn22, gdn23, gdn24, bd_assoc]
  refine ok_ix e2 (w := .int (val (vsf x y z) (L.sum e))) rfl ?_
  try simp only [finF, sSeq, sIf, sRet, sSet, sNil, sEx, sPass, sBreak, sCont, sUnp, sStore, mB, L2.m2, L2.m1, L2.m3, mVar, mC, mCall, mCons, mNil, mTup, mTl, mNew, lenG, listL, mPart, mNoPart, mAnd, mOr, mNot, mAndV, mOrV, mNotV, mIf, mChain, mMeth, isS, mSrc, mSrcA, srcL, srcT, srcS, tgN, tgT, setW, mYes, bd_prN, bd_no, asB_bl, addW_int, subW_int, ltW_int, leW_int, gtW_int, geW_int, eqW_int, eqW_str, neW_int, neW_str, neW_bl, slW_tl, slW_cl, lenW_tl, lenW_tup, negW, List.set_cons_zero, List.set_cons_succ, List.getElem?_cons_zero, List.getElem?_cons_succ, List.length_cons, List.length_nil, arW, if_true, if_false, Bool.false_eq_true, ite_true, ite_false, reduceIte, decide_true, decide_false, Bool.not_true, Bool.not_false, gd_tt, gdn0, gdn1, gdn2, gdn3, gdn4, gdn5, gdn6, gdn7, gdn8, gdn9, gdn10, gdn11, gdn12, gdn13, gdn14, gdn15, gdn16, gdn17, gdn18, gdn19, gdn20, gdn21, gdn22, gdn23, gdn24, bd_assoc]
  exact ok_pr rfl
end Q
set_option maxHeartbeats 1000000
namespace Q
open PySem L2 Wd

theorem num_good : ∀ n : Nat, n < 1000 → numOk (Str.ofString (toString ((n : Nat) : Int))) = true ∧ numVal (Str.ofString (toString ((n : Nat) : Int))) = (n : Int) := by
  have h : ∀ n : Nat, n < 1000 → numOk (Str.ofString (toString ((n : Nat) : Int))) = true := by decide +kernel
  intro n hn
  refine ⟨h n hn, ?_⟩
  have h1 := (num_text (h n hn)).1
  have h2 := PySem.W.KIN.num_reads (n := (n : Int)) (by omega) (by omega)
  rw [h2] at h1
  exact (Option.some.inj h1).symm
theorem num_leaf {i : Int} (h0 : 0 ≤ i) (h1 : i < 1000) : Leaf (Str.ofString (toString i)) (.num (numVal (Str.ofString (toString i)))) ∧ (Str.ofString (toString i)).length ≤ 3 := by
  obtain ⟨n, rfl⟩ := Int.eq_ofNat_of_zero_le h0
  obtain ⟨a, b⟩ := num_good n (by omega)
  refine ⟨.num _ a (by rw [b]; omega), ?_⟩
  unfold numOk at a
  simp only [Bool.and_eq_true, decide_eq_true_eq] at a
  exact a.1.2
theorem log_small {x : Int} (h0 : 0 ≤ x) (h1 : x < 10000) : x.natAbs.log2 < 1920 := by
  by_cases h : x.natAbs = 0
  · rw [h]; decide
  · have : x.natAbs < 2 ^ 20 := by omega
    have := (Nat.log2_lt h).mpr this
    omega
def T3 (toks : List Str) : Prop := ∀ t ∈ toks, t.length ≤ 3
theorem T3.app {a : List Str} {t : Str} (h : T3 a) (ht : t.length ≤ 3) : T3 (a ++ [t]) := fun z hz => (List.mem_append.mp hz).elim (h z) fun q => by rw [List.mem_singleton.mp q]; exact ht
def envP (cell : Int) (kp : Nat) (deep : Int) (a3 : Option W) (num : Int) (a5 : Option W) : Env' := [some (.int cell), some (.loc kp), some (.int deep), a3, some (.int num), a5]
/-- the parts stand so -/
structure Pts (kp : Nat) (toks : List Str) (s : Sta) (h : List Ob) : Prop where
  at' : h[kp]? = some (.lst (toks.map W.str))
  run : Runs s0 toks s
  t3 : T3 toks
  ho : s.o.length ≤ 5
theorem Pts.app {kp : Nat} {toks : List Str} {s s' : Sta} {h : List Ob} {t : Str} (p : Pts kp toks s h) (S : Stp s t s') (ht : t.length ≤ 3) : Pts kp (toks ++ [t]) s' (h.set kp (.lst (toks.map W.str ++ [.str t]))) :=
  ⟨by rw [set_get p.at', List.map_append]; rfl, p.run.snoc S, p.t3.app ht, stp_o S p.ho⟩
section
variable {cell : Int} {kp : Nat} {a3 a5 : Option W}
theorem w1_ok (f : Nat) : ∀ {n : Nat} {h : List Ob} {toks : List Str} {s : Sta} {num deep : Int}, Pts kp toks s h → s.a = none → deep = (s.o.length : Int) → 5 - s.o.length ≤ f → f < n → 0 ≤ num → toks.length + f ≤ 500 →
    Ok (whileM tP1 bP1 n (envP cell kp deep a3 num a5)) h fun x h' => ∃ toks' s' num' deep', x = .nx (envP cell kp deep' a3 num' a5) ∧ Pts kp toks' s' h' ∧ s'.a = none ∧ s'.n = s.n ∧ deep' = (s'.o.length : Int) ∧ 0 ≤ num' ∧ toks'.length ≤ toks.length + f := by
  induction f with
  | zero =>
    intro n h toks s num deep p sa hd hf hn h0 hl
    obtain ⟨n, rfl⟩ : ∃ m, n = m + 1 := ⟨n - 1, by omega⟩
    have d5 : ¬ deep < 5 := by have := p.ho; omega
    unfold whileM tP1
    have m4 : modW (.int num) (.int 4) = pr (.int (num % 4)) := modW_int (by decide)
    simp only [envP, finF, sSeq, sIf, sRet, sSet, sNil, sEx, sPass, sBreak, sCont, sUnp, sStore, mB, L2.m2, L2.m1, L2.m3, mVar, mC, mCall, mCons, mNil, mTup, mTl, mNew, lenG, listL, mPart, mNoPart, mAnd, mOr, mNot, mAndV, mOrV, mNotV, mIf, mChain, mMeth, isS, mSrc, mSrcA, srcL, srcT, srcS, tgN, tgT, setW, mYes, bd_prN, bd_no, asB_bl, addW_int, subW_int, ltW_int, leW_int, gtW_int, geW_int, eqW_int, eqW_str, neW_int, neW_str, neW_bl, slW_tl, slW_cl, lenW_tl, lenW_tup, negW, List.set_cons_zero, List.set_cons_succ, List.getElem?_cons_zero, List.getElem?_cons_succ, List.length_cons, List.length_nil, arW, if_true, if_false, Bool.false_eq_true, ite_true, ite_false, reduceIte, decide_true, decide_false, Bool.not_true, Bool.not_false, gd_tt, gdn0, gdn1, gdn2, gdn3, gdn4, gdn5, gdn6, gdn7, gdn8, gdn9, gdn10, gdn11, gdn12, gdn13, gdn14, gdn15, gdn16, gdn17, gdn18, gdn19, gdn20, gdn21, gdn22, gdn23, gdn24, bd_assoc, m4, decide_eq_false d5]
    by_cases c1 : num % 4 = 0
    · by_cases c2 : 0 < num
      · simp only [decide_eq_true c1, decide_eq_true c2, finF, sSeq, sIf, sRet, sSet, sNil, sEx, sPass, sBreak, sCont, sUnp, sStore, mB, L2.m2, L2.m1, L2.m3, mVar, mC, mCall, mCons, mNil, mTup, mTl, mNew, lenG, listL, mPart, mNoPart, mAnd, mOr, mNot, mAndV, mOrV, mNotV, mIf, mChain, mMeth, isS, mSrc, mSrcA, srcL, srcT, srcS, tgN, tgT, setW, mYes, bd_prN, bd_no, asB_bl, addW_int, subW_int, ltW_int, leW_int, gtW_int, geW_int, eqW_int, eqW_str, neW_int, neW_str, neW_bl, slW_tl, slW_cl, lenW_tl, lenW_tup, negW, List.set_cons_zero, List.set_cons_succ, List.getElem?_cons_zero, List.getElem?_cons_succ, List.length_cons, List.length_nil, arW, if_true, if_false, Bool.false_eq_true, ite_true, ite_false, reduceIte, decide_true, decide_false, Bool.not_true, Bool.not_false, gd_tt, gdn0, gdn1, gdn2, gdn3, gdn4, gdn5, gdn6, gdn7, gdn8, gdn9, gdn10, gdn11, gdn12, gdn13, gdn14, gdn15, gdn16, gdn17, gdn18, gdn19, gdn20, gdn21, gdn22, gdn23, gdn24, bd_assoc]
        exact ok_pr ⟨toks, s, num, deep, rfl, p, sa, rfl, hd, h0, Nat.le_refl _⟩
      · simp only [decide_eq_true c1, decide_eq_false c2, finF, sSeq, sIf, sRet, sSet, sNil, sEx, sPass, sBreak, sCont, sUnp, sStore, mB, L2.m2, L2.m1, L2.m3, mVar, mC, mCall, mCons, mNil, mTup, mTl, mNew, lenG, listL, mPart, mNoPart, mAnd, mOr, mNot, mAndV, mOrV, mNotV, mIf, mChain, mMeth, isS, mSrc, mSrcA, srcL, srcT, srcS, tgN, tgT, setW, mYes, bd_prN, bd_no, asB_bl, addW_int, subW_int, ltW_int, leW_int, gtW_int, geW_int, eqW_int, eqW_str, neW_int, neW_str, neW_bl, slW_tl, slW_cl, lenW_tl, lenW_tup, negW, List.set_cons_zero, List.set_cons_succ, List.getElem?_cons_zero, List.getElem?_cons_succ, List.length_cons, List.length_nil, arW, if_true, if_false, Bool.false_eq_true, ite_true, ite_false, reduceIte, decide_true, decide_false, Bool.not_true, Bool.not_false, gd_tt, gdn0, gdn1, gdn2, gdn3, gdn4, gdn5, gdn6, gdn7, gdn8, gdn9, gdn10, gdn11, gdn12, gdn13, gdn14, gdn15, gdn16, gdn17, gdn18, gdn19, gdn20, gdn21, gdn22, gdn23, gdn24, bd_assoc]
        exact ok_pr ⟨toks, s, num, deep, rfl, p, sa, rfl, hd, h0, Nat.le_refl _⟩
    · simp only [decide_eq_false c1, finF, sSeq, sIf, sRet, sSet, sNil, sEx, sPass, sBreak, sCont, sUnp, sStore, mB, L2.m2, L2.m1, L2.m3, mVar, mC, mCall, mCons, mNil, mTup, mTl, mNew, lenG, listL, mPart, mNoPart, mAnd, mOr, mNot, mAndV, mOrV, mNotV, mIf, mChain, mMeth, isS, mSrc, mSrcA, srcL, srcT, srcS, tgN, tgT, setW, mYes, bd_prN, bd_no, asB_bl, addW_int, subW_int, ltW_int, leW_int, gtW_int, geW_int, eqW_int, eqW_str, neW_int, neW_str, neW_bl, slW_tl, slW_cl, lenW_tl, lenW_tup, negW, List.set_cons_zero, List.set_cons_succ, List.getElem?_cons_zero, List.getElem?_cons_succ, List.length_cons, List.length_nil, arW, if_true, if_false, Bool.false_eq_true, ite_true, ite_false, reduceIte, decide_true, decide_false, Bool.not_true, Bool.not_false, gd_tt, gdn0, gdn1, gdn2, gdn3, gdn4, gdn5, gdn6, gdn7, gdn8, gdn9, gdn10, gdn11, gdn12, gdn13, gdn14, gdn15, gdn16, gdn17, gdn18, gdn19, gdn20, gdn21, gdn22, gdn23, gdn24, bd_assoc]
      exact ok_pr ⟨toks, s, num, deep, rfl, p, sa, rfl, hd, h0, Nat.le_refl _⟩
  | succ f ih =>
    intro n h toks s num deep p sa hd hf hn h0 hl
    obtain ⟨n, rfl⟩ : ∃ m, n = m + 1 := ⟨n - 1, by omega⟩
    have m4 : modW (.int num) (.int 4) = pr (.int (num % 4)) := modW_int (by decide)
    have d4 : fdivW (.int num) (.int 4) = pr (.int (num / 4)) := fdivW_int (by decide) (by decide)
    have stop : (∃ toks' s' num' deep', (Fl.nx (envP cell kp deep a3 num a5)) = .nx (envP cell kp deep' a3 num' a5) ∧ Pts kp toks' s' h ∧ s'.a = none ∧ s'.n = s.n ∧ deep' = (s'.o.length : Int) ∧ 0 ≤ num' ∧ toks'.length ≤ toks.length + (f + 1)) := ⟨toks, s, num, deep, rfl, p, sa, rfl, hd, h0, by omega⟩
    unfold whileM tP1
    simp only [envP, finF, sSeq, sIf, sRet, sSet, sNil, sEx, sPass, sBreak, sCont, sUnp, sStore, mB, L2.m2, L2.m1, L2.m3, mVar, mC, mCall, mCons, mNil, mTup, mTl, mNew, lenG, listL, mPart, mNoPart, mAnd, mOr, mNot, mAndV, mOrV, mNotV, mIf, mChain, mMeth, isS, mSrc, mSrcA, srcL, srcT, srcS, tgN, tgT, setW, mYes, bd_prN, bd_no, asB_bl, addW_int, subW_int, ltW_int, leW_int, gtW_int, geW_int, eqW_int, eqW_str, neW_int, neW_str, neW_bl, slW_tl, slW_cl, lenW_tl, lenW_tup, negW, List.set_cons_zero, List.set_cons_succ, List.getElem?_cons_zero, List.getElem?_cons_succ, List.length_cons, List.length_nil, arW, if_true, if_false, Bool.false_eq_true, ite_true, ite_false, reduceIte, decide_true, decide_false, Bool.not_true, Bool.not_false, gd_tt, gdn0, gdn1, gdn2, gdn3, gdn4, gdn5, gdn6, gdn7, gdn8, gdn9, gdn10, gdn11, gdn12, gdn13, gdn14, gdn15, gdn16, gdn17, gdn18, gdn19, gdn20, gdn21, gdn22, gdn23, gdn24, bd_assoc, m4]
    by_cases c1 : num % 4 = 0
    · by_cases c2 : 0 < num
      · by_cases c3 : deep < 5
        · simp only [decide_eq_true c1, decide_eq_true c2, decide_eq_true c3, finF, sSeq, sIf, sRet, sSet, sNil, sEx, sPass, sBreak, sCont, sUnp, sStore, mB, L2.m2, L2.m1, L2.m3, mVar, mC, mCall, mCons, mNil, mTup, mTl, mNew, lenG, listL, mPart, mNoPart, mAnd, mOr, mNot, mAndV, mOrV, mNotV, mIf, mChain, mMeth, isS, mSrc, mSrcA, srcL, srcT, srcS, tgN, tgT, setW, mYes, bd_prN, bd_no, asB_bl, addW_int, subW_int, ltW_int, leW_int, gtW_int, geW_int, eqW_int, eqW_str, neW_int, neW_str, neW_bl, slW_tl, slW_cl, lenW_tl, lenW_tup, negW, List.set_cons_zero, List.set_cons_succ, List.getElem?_cons_zero, List.getElem?_cons_succ, List.length_cons, List.length_nil, arW, if_true, if_false, Bool.false_eq_true, ite_true, ite_false, reduceIte, decide_true, decide_false, Bool.not_true, Bool.not_false, gd_tt, gdn0, gdn1, gdn2, gdn3, gdn4, gdn5, gdn6, gdn7, gdn8, gdn9, gdn10, gdn11, gdn12, gdn13, gdn14, gdn15, gdn16, gdn17, gdn18, gdn19, gdn20, gdn21, gdn22, gdn23, gdn24, bd_assoc]
          unfold bP1
          simp only [finF, sSeq, sIf, sRet, sSet, sNil, sEx, sPass, sBreak, sCont, sUnp, sStore, mB, L2.m2, L2.m1, L2.m3, mVar, mC, mCall, mCons, mNil, mTup, mTl, mNew, lenG, listL, mPart, mNoPart, mAnd, mOr, mNot, mAndV, mOrV, mNotV, mIf, mChain, mMeth, isS, mSrc, mSrcA, srcL, srcT, srcS, tgN, tgT, setW, mYes, bd_prN, bd_no, asB_bl, addW_int, subW_int, ltW_int, leW_int, gtW_int, geW_int, eqW_int, eqW_str, neW_int, neW_str, neW_bl, slW_tl, slW_cl, lenW_tl, lenW_tup, negW, List.set_cons_zero, List.set_cons_succ, List.getElem?_cons_zero, List.getElem?_cons_succ, List.length_cons, List.length_nil, arW, if_true, if_false, Bool.false_eq_true, ite_true, ite_false, reduceIte, decide_true, decide_false, Bool.not_true, Bool.not_false, gd_tt, gdn0, gdn1, gdn2, gdn3, gdn4, gdn5, gdn6, gdn7, gdn8, gdn9, gdn10, gdn11, gdn12, gdn13, gdn14, gdn15, gdn16, gdn17, gdn18, gdn19, gdn20, gdn21, gdn22, gdn23, gdn24, bd_assoc]
          refine ok_isL p.at' ?_
          try simp only [finF, sSeq, sIf, sRet, sSet, sNil, sEx, sPass, sBreak, sCont, sUnp, sStore, mB, L2.m2, L2.m1, L2.m3, mVar, mC, mCall, mCons, mNil, mTup, mTl, mNew, lenG, listL, mPart, mNoPart, mAnd, mOr, mNot, mAndV, mOrV, mNotV, mIf, mChain, mMeth, isS, mSrc, mSrcA, srcL, srcT, srcS, tgN, tgT, setW, mYes, bd_prN, bd_no, asB_bl, addW_int, subW_int, ltW_int, leW_int, gtW_int, geW_int, eqW_int, eqW_str, neW_int, neW_str, neW_bl, slW_tl, slW_cl, lenW_tl, lenW_tup, negW, List.set_cons_zero, List.set_cons_succ, List.getElem?_cons_zero, List.getElem?_cons_succ, List.length_cons, List.length_nil, arW, if_true, if_false, Bool.false_eq_true, ite_true, ite_false, reduceIte, decide_true, decide_false, Bool.not_true, Bool.not_false, gd_tt, gdn0, gdn1, gdn2, gdn3, gdn4, gdn5, gdn6, gdn7, gdn8, gdn9, gdn10, gdn11, gdn12, gdn13, gdn14, gdn15, gdn16, gdn17, gdn18, gdn19, gdn20, gdn21, gdn22, gdn23, gdn24, bd_assoc]
          refine ok_app p.at' (by rw [List.length_map]; exact Nat.lt_of_le_of_lt (show toks.length ≤ 600 by omega) (by decide)) ?_
          simp only [finF, sSeq, sIf, sRet, sSet, sNil, sEx, sPass, sBreak, sCont, sUnp, sStore, mB, L2.m2, L2.m1, L2.m3, mVar, mC, mCall, mCons, mNil, mTup, mTl, mNew, lenG, listL, mPart, mNoPart, mAnd, mOr, mNot, mAndV, mOrV, mNotV, mIf, mChain, mMeth, isS, mSrc, mSrcA, srcL, srcT, srcS, tgN, tgT, setW, mYes, bd_prN, bd_no, asB_bl, addW_int, subW_int, ltW_int, leW_int, gtW_int, geW_int, eqW_int, eqW_str, neW_int, neW_str, neW_bl, slW_tl, slW_cl, lenW_tl, lenW_tup, negW, List.set_cons_zero, List.set_cons_succ, List.getElem?_cons_zero, List.getElem?_cons_succ, List.length_cons, List.length_nil, arW, if_true, if_false, Bool.false_eq_true, ite_true, ite_false, reduceIte, decide_true, decide_false, Bool.not_true, Bool.not_false, gd_tt, gdn0, gdn1, gdn2, gdn3, gdn4, gdn5, gdn6, gdn7, gdn8, gdn9, gdn10, gdn11, gdn12, gdn13, gdn14, gdn15, gdn16, gdn17, gdn18, gdn19, gdn20, gdn21, gdn22, gdn23, gdn24, bd_assoc, d4]
          obtain ⟨o, L, a, m⟩ := s
          have sa : a = none := sa
          subst sa
          have hd : deep = (o.length : Int) := hd
          have S : Stp ⟨o, L, none, m⟩ "(" ⟨L :: o, Lvl.e0, none, m⟩ := .lp (by omega)
          refine Ok.imp (ih (n := n) (num := num / 4) (deep := deep + 1) (p.app S (by decide +kernel)) rfl (by show deep + 1 = ((o.length + 1 : Nat) : Int); omega) (by show 5 - (o.length + 1) ≤ f; have hf : 5 - o.length ≤ f + 1 := hf; omega) (by omega) (by omega) (by rw [List.length_append]; show toks.length + 1 + f ≤ 500; omega)) fun x h' ⟨t', s', n', d', e1, p', a1, a2, a3, a4, a5⟩ => ⟨t', s', n', d', e1, p', a1, a2, a3, a4, ?_⟩
          rw [List.length_append] at a5
          have a5 : t'.length ≤ toks.length + 1 + f := a5
          omega
        · simp only [decide_eq_true c1, decide_eq_true c2, decide_eq_false c3, finF, sSeq, sIf, sRet, sSet, sNil, sEx, sPass, sBreak, sCont, sUnp, sStore, mB, L2.m2, L2.m1, L2.m3, mVar, mC, mCall, mCons, mNil, mTup, mTl, mNew, lenG, listL, mPart, mNoPart, mAnd, mOr, mNot, mAndV, mOrV, mNotV, mIf, mChain, mMeth, isS, mSrc, mSrcA, srcL, srcT, srcS, tgN, tgT, setW, mYes, bd_prN, bd_no, asB_bl, addW_int, subW_int, ltW_int, leW_int, gtW_int, geW_int, eqW_int, eqW_str, neW_int, neW_str, neW_bl, slW_tl, slW_cl, lenW_tl, lenW_tup, negW, List.set_cons_zero, List.set_cons_succ, List.getElem?_cons_zero, List.getElem?_cons_succ, List.length_cons, List.length_nil, arW, if_true, if_false, Bool.false_eq_true, ite_true, ite_false, reduceIte, decide_true, decide_false, Bool.not_true, Bool.not_false, gd_tt, gdn0, gdn1, gdn2, gdn3, gdn4, gdn5, gdn6, gdn7, gdn8, gdn9, gdn10, gdn11, gdn12, gdn13, gdn14, gdn15, gdn16, gdn17, gdn18, gdn19, gdn20, gdn21, gdn22, gdn23, gdn24, bd_assoc]
          exact ok_pr stop
      · simp only [decide_eq_true c1, decide_eq_false c2, finF, sSeq, sIf, sRet, sSet, sNil, sEx, sPass, sBreak, sCont, sUnp, sStore, mB, L2.m2, L2.m1, L2.m3, mVar, mC, mCall, mCons, mNil, mTup, mTl, mNew, lenG, listL, mPart, mNoPart, mAnd, mOr, mNot, mAndV, mOrV, mNotV, mIf, mChain, mMeth, isS, mSrc, mSrcA, srcL, srcT, srcS, tgN, tgT, setW, mYes, bd_prN, bd_no, asB_bl, addW_int, subW_int, ltW_int, leW_int, gtW_int, geW_int, eqW_int, eqW_str, neW_int, neW_str, neW_bl, slW_tl, slW_cl, lenW_tl, lenW_tup, negW, List.set_cons_zero, List.set_cons_succ, List.getElem?_cons_zero, List.getElem?_cons_succ, List.length_cons, List.length_nil, arW, if_true, if_false, Bool.false_eq_true, ite_true, ite_false, reduceIte, decide_true, decide_false, Bool.not_true, Bool.not_false, gd_tt, gdn0, gdn1, gdn2, gdn3, gdn4, gdn5, gdn6, gdn7, gdn8, gdn9, gdn10, gdn11, gdn12, gdn13, gdn14, gdn15, gdn16, gdn17, gdn18, gdn19, gdn20, gdn21, gdn22, gdn23, gdn24, bd_assoc]
        exact ok_pr stop
    · simp only [decide_eq_false c1, finF, sSeq, sIf, sRet, sSet, sNil, sEx, sPass, sBreak, sCont, sUnp, sStore, mB, L2.m2, L2.m1, L2.m3, mVar, mC, mCall, mCons, mNil, mTup, mTl, mNew, lenG, listL, mPart, mNoPart, mAnd, mOr, mNot, mAndV, mOrV, mNotV, mIf, mChain, mMeth, isS, mSrc, mSrcA, srcL, srcT, srcS, tgN, tgT, setW, mYes, bd_prN, bd_no, asB_bl, addW_int, subW_int, ltW_int, leW_int, gtW_int, geW_int, eqW_int, eqW_str, neW_int, neW_str, neW_bl, slW_tl, slW_cl, lenW_tl, lenW_tup, negW, List.set_cons_zero, List.set_cons_succ, List.getElem?_cons_zero, List.getElem?_cons_succ, List.length_cons, List.length_nil, arW, if_true, if_false, Bool.false_eq_true, ite_true, ite_false, reduceIte, decide_true, decide_false, Bool.not_true, Bool.not_false, gd_tt, gdn0, gdn1, gdn2, gdn3, gdn4, gdn5, gdn6, gdn7, gdn8, gdn9, gdn10, gdn11, gdn12, gdn13, gdn14, gdn15, gdn16, gdn17, gdn18, gdn19, gdn20, gdn21, gdn22, gdn23, gdn24, bd_assoc]
      exact ok_pr stop
theorem w2_ok (f : Nat) : ∀ {n : Nat} {h : List Ob} {toks : List Str} {s : Sta} {num deep : Int}, Pts kp toks s h → (∃ e, s.a = some e) → deep = (s.o.length : Int) → s.o.length ≤ f → f < n → 0 ≤ num → toks.length + f ≤ 600 →
    Ok (whileM tP2 bP2 n (envP cell kp deep a3 num a5)) h fun x h' => ∃ toks' s' num' deep', x = .nx (envP cell kp deep' a3 num' a5) ∧ Pts kp toks' s' h' ∧ (∃ e, s'.a = some e) ∧ s'.n = s.n ∧ deep' = (s'.o.length : Int) ∧ 0 ≤ num' ∧ toks'.length ≤ toks.length + f := by
  induction f with
  | zero =>
    intro n h toks s num deep p sa hd hf hn h0 hl
    obtain ⟨n, rfl⟩ : ∃ m, n = m + 1 := ⟨n - 1, by omega⟩
    have d5 : ¬ 0 < deep := by omega
    unfold whileM tP2
    have m4 : modW (.int num) (.int 3) = pr (.int (num % 3)) := modW_int (by decide)
    simp only [envP, finF, sSeq, sIf, sRet, sSet, sNil, sEx, sPass, sBreak, sCont, sUnp, sStore, mB, L2.m2, L2.m1, L2.m3, mVar, mC, mCall, mCons, mNil, mTup, mTl, mNew, lenG, listL, mPart, mNoPart, mAnd, mOr, mNot, mAndV, mOrV, mNotV, mIf, mChain, mMeth, isS, mSrc, mSrcA, srcL, srcT, srcS, tgN, tgT, setW, mYes, bd_prN, bd_no, asB_bl, addW_int, subW_int, ltW_int, leW_int, gtW_int, geW_int, eqW_int, eqW_str, neW_int, neW_str, neW_bl, slW_tl, slW_cl, lenW_tl, lenW_tup, negW, List.set_cons_zero, List.set_cons_succ, List.getElem?_cons_zero, List.getElem?_cons_succ, List.length_cons, List.length_nil, arW, if_true, if_false, Bool.false_eq_true, ite_true, ite_false, reduceIte, decide_true, decide_false, Bool.not_true, Bool.not_false, gd_tt, gdn0, gdn1, gdn2, gdn3, gdn4, gdn5, gdn6, gdn7, gdn8, gdn9, gdn10, gdn11, gdn12, gdn13, gdn14, gdn15, gdn16, gdn17, gdn18, gdn19, gdn20, gdn21, gdn22, gdn23, gdn24, bd_assoc, m4, decide_eq_false d5]
    by_cases c1 : num % 3 = 0
    · by_cases c2 : 0 < num
      · simp only [decide_eq_true c1, decide_eq_true c2, finF, sSeq, sIf, sRet, sSet, sNil, sEx, sPass, sBreak, sCont, sUnp, sStore, mB, L2.m2, L2.m1, L2.m3, mVar, mC, mCall, mCons, mNil, mTup, mTl, mNew, lenG, listL, mPart, mNoPart, mAnd, mOr, mNot, mAndV, mOrV, mNotV, mIf, mChain, mMeth, isS, mSrc, mSrcA, srcL, srcT, srcS, tgN, tgT, setW, mYes, bd_prN, bd_no, asB_bl, addW_int, subW_int, ltW_int, leW_int, gtW_int, geW_int, eqW_int, eqW_str, neW_int, neW_str, neW_bl, slW_tl, slW_cl, lenW_tl, lenW_tup, negW, List.set_cons_zero, List.set_cons_succ, List.getElem?_cons_zero, List.getElem?_cons_succ, List.length_cons, List.length_nil, arW, if_true, if_false, Bool.false_eq_true, ite_true, ite_false, reduceIte, decide_true, decide_false, Bool.not_true, Bool.not_false, gd_tt, gdn0, gdn1, gdn2, gdn3, gdn4, gdn5, gdn6, gdn7, gdn8, gdn9, gdn10, gdn11, gdn12, gdn13, gdn14, gdn15, gdn16, gdn17, gdn18, gdn19, gdn20, gdn21, gdn22, gdn23, gdn24, bd_assoc]
        exact ok_pr ⟨toks, s, num, deep, rfl, p, sa, rfl, hd, h0, Nat.le_refl _⟩
      · simp only [decide_eq_true c1, decide_eq_false c2, finF, sSeq, sIf, sRet, sSet, sNil, sEx, sPass, sBreak, sCont, sUnp, sStore, mB, L2.m2, L2.m1, L2.m3, mVar, mC, mCall, mCons, mNil, mTup, mTl, mNew, lenG, listL, mPart, mNoPart, mAnd, mOr, mNot, mAndV, mOrV, mNotV, mIf, mChain, mMeth, isS, mSrc, mSrcA, srcL, srcT, srcS, tgN, tgT, setW, mYes, bd_prN, bd_no, asB_bl, addW_int, subW_int, ltW_int, leW_int, gtW_int, geW_int, eqW_int, eqW_str, neW_int, neW_str, neW_bl, slW_tl, slW_cl, lenW_tl, lenW_tup, negW, List.set_cons_zero, List.set_cons_succ, List.getElem?_cons_zero, List.getElem?_cons_succ, List.length_cons, List.length_nil, arW, if_true, if_false, Bool.false_eq_true, ite_true, ite_false, reduceIte, decide_true, decide_false, Bool.not_true, Bool.not_false, gd_tt, gdn0, gdn1, gdn2, gdn3, gdn4, gdn5, gdn6, gdn7, gdn8, gdn9, gdn10, gdn11, gdn12, gdn13, gdn14, gdn15, gdn16, gdn17, gdn18, gdn19, gdn20, gdn21, gdn22, gdn23, gdn24, bd_assoc]
        exact ok_pr ⟨toks, s, num, deep, rfl, p, sa, rfl, hd, h0, Nat.le_refl _⟩
    · simp only [decide_eq_false c1, finF, sSeq, sIf, sRet, sSet, sNil, sEx, sPass, sBreak, sCont, sUnp, sStore, mB, L2.m2, L2.m1, L2.m3, mVar, mC, mCall, mCons, mNil, mTup, mTl, mNew, lenG, listL, mPart, mNoPart, mAnd, mOr, mNot, mAndV, mOrV, mNotV, mIf, mChain, mMeth, isS, mSrc, mSrcA, srcL, srcT, srcS, tgN, tgT, setW, mYes, bd_prN, bd_no, asB_bl, addW_int, subW_int, ltW_int, leW_int, gtW_int, geW_int, eqW_int, eqW_str, neW_int, neW_str, neW_bl, slW_tl, slW_cl, lenW_tl, lenW_tup, negW, List.set_cons_zero, List.set_cons_succ, List.getElem?_cons_zero, List.getElem?_cons_succ, List.length_cons, List.length_nil, arW, if_true, if_false, Bool.false_eq_true, ite_true, ite_false, reduceIte, decide_true, decide_false, Bool.not_true, Bool.not_false, gd_tt, gdn0, gdn1, gdn2, gdn3, gdn4, gdn5, gdn6, gdn7, gdn8, gdn9, gdn10, gdn11, gdn12, gdn13, gdn14, gdn15, gdn16, gdn17, gdn18, gdn19, gdn20, gdn21, gdn22, gdn23, gdn24, bd_assoc]
      exact ok_pr ⟨toks, s, num, deep, rfl, p, sa, rfl, hd, h0, Nat.le_refl _⟩
  | succ f ih =>
    intro n h toks s num deep p sa hd hf hn h0 hl
    obtain ⟨n, rfl⟩ : ∃ m, n = m + 1 := ⟨n - 1, by omega⟩
    have m4 : modW (.int num) (.int 3) = pr (.int (num % 3)) := modW_int (by decide)
    have d4 : fdivW (.int num) (.int 3) = pr (.int (num / 3)) := fdivW_int (by decide) (by decide)
    have stop : (∃ toks' s' num' deep', (Fl.nx (envP cell kp deep a3 num a5)) = .nx (envP cell kp deep' a3 num' a5) ∧ Pts kp toks' s' h ∧ (∃ e, s'.a = some e) ∧ s'.n = s.n ∧ deep' = (s'.o.length : Int) ∧ 0 ≤ num' ∧ toks'.length ≤ toks.length + (f + 1)) := ⟨toks, s, num, deep, rfl, p, sa, rfl, hd, h0, by omega⟩
    unfold whileM tP2
    simp only [envP, finF, sSeq, sIf, sRet, sSet, sNil, sEx, sPass, sBreak, sCont, sUnp, sStore, mB, L2.m2, L2.m1, L2.m3, mVar, mC, mCall, mCons, mNil, mTup, mTl, mNew, lenG, listL, mPart, mNoPart, mAnd, mOr, mNot, mAndV, mOrV, mNotV, mIf, mChain, mMeth, isS, mSrc, mSrcA, srcL, srcT, srcS, tgN, tgT, setW, mYes, bd_prN, bd_no, asB_bl, addW_int, subW_int, ltW_int, leW_int, gtW_int, geW_int, eqW_int, eqW_str, neW_int, neW_str, neW_bl, slW_tl, slW_cl, lenW_tl, lenW_tup, negW, List.set_cons_zero, List.set_cons_succ, List.getElem?_cons_zero, List.getElem?_cons_succ, List.length_cons, List.length_nil, arW, if_true, if_false, Bool.false_eq_true, ite_true, ite_false, reduceIte, decide_true, decide_false, Bool.not_true, Bool.not_false, gd_tt, gdn0, gdn1, gdn2, gdn3, gdn4, gdn5, gdn6, gdn7, gdn8, gdn9, gdn10, gdn11, gdn12, gdn13, gdn14, gdn15, gdn16, gdn17, gdn18, gdn19, gdn20, gdn21, gdn22, gdn23, gdn24, bd_assoc, m4]
    by_cases c1 : num % 3 = 0
    · by_cases c2 : 0 < num
      · by_cases c3 : 0 < deep
        · simp only [decide_eq_true c1, decide_eq_true c2, decide_eq_true c3, finF, sSeq, sIf, sRet, sSet, sNil, sEx, sPass, sBreak, sCont, sUnp, sStore, mB, L2.m2, L2.m1, L2.m3, mVar, mC, mCall, mCons, mNil, mTup, mTl, mNew, lenG, listL, mPart, mNoPart, mAnd, mOr, mNot, mAndV, mOrV, mNotV, mIf, mChain, mMeth, isS, mSrc, mSrcA, srcL, srcT, srcS, tgN, tgT, setW, mYes, bd_prN, bd_no, asB_bl, addW_int, subW_int, ltW_int, leW_int, gtW_int, geW_int, eqW_int, eqW_str, neW_int, neW_str, neW_bl, slW_tl, slW_cl, lenW_tl, lenW_tup, negW, List.set_cons_zero, List.set_cons_succ, List.getElem?_cons_zero, List.getElem?_cons_succ, List.length_cons, List.length_nil, arW, if_true, if_false, Bool.false_eq_true, ite_true, ite_false, reduceIte, decide_true, decide_false, Bool.not_true, Bool.not_false, gd_tt, gdn0, gdn1, gdn2, gdn3, gdn4, gdn5, gdn6, gdn7, gdn8, gdn9, gdn10, gdn11, gdn12, gdn13, gdn14, gdn15, gdn16, gdn17, gdn18, gdn19, gdn20, gdn21, gdn22, gdn23, gdn24, bd_assoc]
          unfold bP2
          simp only [finF, sSeq, sIf, sRet, sSet, sNil, sEx, sPass, sBreak, sCont, sUnp, sStore, mB, L2.m2, L2.m1, L2.m3, mVar, mC, mCall, mCons, mNil, mTup, mTl, mNew, lenG, listL, mPart, mNoPart, mAnd, mOr, mNot, mAndV, mOrV, mNotV, mIf, mChain, mMeth, isS, mSrc, mSrcA, srcL, srcT, srcS, tgN, tgT, setW, mYes, bd_prN, bd_no, asB_bl, addW_int, subW_int, ltW_int, leW_int, gtW_int, geW_int, eqW_int, eqW_str, neW_int, neW_str, neW_bl, slW_tl, slW_cl, lenW_tl, lenW_tup, negW, List.set_cons_zero, List.set_cons_succ, List.getElem?_cons_zero, List.getElem?_cons_succ, List.length_cons, List.length_nil, arW, if_true, if_false, Bool.false_eq_true, ite_true, ite_false, reduceIte, decide_true, decide_false, Bool.not_true, Bool.not_false, gd_tt, gdn0, gdn1, gdn2, gdn3, gdn4, gdn5, gdn6, gdn7, gdn8, gdn9, gdn10, gdn11, gdn12, gdn13, gdn14, gdn15, gdn16, gdn17, gdn18, gdn19, gdn20, gdn21, gdn22, gdn23, gdn24, bd_assoc]
          refine ok_isL p.at' ?_
          try simp only [finF, sSeq, sIf, sRet, sSet, sNil, sEx, sPass, sBreak, sCont, sUnp, sStore, mB, L2.m2, L2.m1, L2.m3, mVar, mC, mCall, mCons, mNil, mTup, mTl, mNew, lenG, listL, mPart, mNoPart, mAnd, mOr, mNot, mAndV, mOrV, mNotV, mIf, mChain, mMeth, isS, mSrc, mSrcA, srcL, srcT, srcS, tgN, tgT, setW, mYes, bd_prN, bd_no, asB_bl, addW_int, subW_int, ltW_int, leW_int, gtW_int, geW_int, eqW_int, eqW_str, neW_int, neW_str, neW_bl, slW_tl, slW_cl, lenW_tl, lenW_tup, negW, List.set_cons_zero, List.set_cons_succ, List.getElem?_cons_zero, List.getElem?_cons_succ, List.length_cons, List.length_nil, arW, if_true, if_false, Bool.false_eq_true, ite_true, ite_false, reduceIte, decide_true, decide_false, Bool.not_true, Bool.not_false, gd_tt, gdn0, gdn1, gdn2, gdn3, gdn4, gdn5, gdn6, gdn7, gdn8, gdn9, gdn10, gdn11, gdn12, gdn13, gdn14, gdn15, gdn16, gdn17, gdn18, gdn19, gdn20, gdn21, gdn22, gdn23, gdn24, bd_assoc]
          refine ok_app p.at' (by rw [List.length_map]; exact Nat.lt_of_le_of_lt (show toks.length ≤ 600 by omega) (by decide)) ?_
          simp only [finF, sSeq, sIf, sRet, sSet, sNil, sEx, sPass, sBreak, sCont, sUnp, sStore, mB, L2.m2, L2.m1, L2.m3, mVar, mC, mCall, mCons, mNil, mTup, mTl, mNew, lenG, listL, mPart, mNoPart, mAnd, mOr, mNot, mAndV, mOrV, mNotV, mIf, mChain, mMeth, isS, mSrc, mSrcA, srcL, srcT, srcS, tgN, tgT, setW, mYes, bd_prN, bd_no, asB_bl, addW_int, subW_int, ltW_int, leW_int, gtW_int, geW_int, eqW_int, eqW_str, neW_int, neW_str, neW_bl, slW_tl, slW_cl, lenW_tl, lenW_tup, negW, List.set_cons_zero, List.set_cons_succ, List.getElem?_cons_zero, List.getElem?_cons_succ, List.length_cons, List.length_nil, arW, if_true, if_false, Bool.false_eq_true, ite_true, ite_false, reduceIte, decide_true, decide_false, Bool.not_true, Bool.not_false, gd_tt, gdn0, gdn1, gdn2, gdn3, gdn4, gdn5, gdn6, gdn7, gdn8, gdn9, gdn10, gdn11, gdn12, gdn13, gdn14, gdn15, gdn16, gdn17, gdn18, gdn19, gdn20, gdn21, gdn22, gdn23, gdn24, bd_assoc, d4]
          obtain ⟨o, L, a, m⟩ := s
          obtain ⟨e, sa⟩ := sa
          have sa : a = some e := sa
          subst sa
          cases o with
          | nil =>
            have hd : deep = 0 := hd
            omega
          | cons K o =>
            have hd : deep = ((o.length + 1 : Nat) : Int) := hd
            have hf : o.length + 1 ≤ f + 1 := hf
            refine Ok.imp (ih (n := n) (num := num / 3) (deep := deep - 1) (p.app .rp (by decide +kernel)) ⟨_, rfl⟩ (by show deep - 1 = (o.length : Int); omega) (by show o.length ≤ f; omega) (by omega) (by omega) (by rw [List.length_append]; show toks.length + 1 + f ≤ 600; omega)) fun x h' ⟨t', s', n', d', e1, p', a1, a2, a3, a4, a5⟩ => ⟨t', s', n', d', e1, p', a1, a2, a3, a4, ?_⟩
            rw [List.length_append] at a5
            have a5 : t'.length ≤ toks.length + 1 + f := a5
            omega
        · simp only [decide_eq_true c1, decide_eq_true c2, decide_eq_false c3, finF, sSeq, sIf, sRet, sSet, sNil, sEx, sPass, sBreak, sCont, sUnp, sStore, mB, L2.m2, L2.m1, L2.m3, mVar, mC, mCall, mCons, mNil, mTup, mTl, mNew, lenG, listL, mPart, mNoPart, mAnd, mOr, mNot, mAndV, mOrV, mNotV, mIf, mChain, mMeth, isS, mSrc, mSrcA, srcL, srcT, srcS, tgN, tgT, setW, mYes, bd_prN, bd_no, asB_bl, addW_int, subW_int, ltW_int, leW_int, gtW_int, geW_int, eqW_int, eqW_str, neW_int, neW_str, neW_bl, slW_tl, slW_cl, lenW_tl, lenW_tup, negW, List.set_cons_zero, List.set_cons_succ, List.getElem?_cons_zero, List.getElem?_cons_succ, List.length_cons, List.length_nil, arW, if_true, if_false, Bool.false_eq_true, ite_true, ite_false, reduceIte, decide_true, decide_false, Bool.not_true, Bool.not_false, gd_tt, gdn0, gdn1, gdn2, gdn3, gdn4, gdn5, gdn6, gdn7, gdn8, gdn9, gdn10, gdn11, gdn12, gdn13, gdn14, gdn15, gdn16, gdn17, gdn18, gdn19, gdn20, gdn21, gdn22, gdn23, gdn24, bd_assoc]
          exact ok_pr stop
      · simp only [decide_eq_true c1, decide_eq_false c2, finF, sSeq, sIf, sRet, sSet, sNil, sEx, sPass, sBreak, sCont, sUnp, sStore, mB, L2.m2, L2.m1, L2.m3, mVar, mC, mCall, mCons, mNil, mTup, mTl, mNew, lenG, listL, mPart, mNoPart, mAnd, mOr, mNot, mAndV, mOrV, mNotV, mIf, mChain, mMeth, isS, mSrc, mSrcA, srcL, srcT, srcS, tgN, tgT, setW, mYes, bd_prN, bd_no, asB_bl, addW_int, subW_int, ltW_int, leW_int, gtW_int, geW_int, eqW_int, eqW_str, neW_int, neW_str, neW_bl, slW_tl, slW_cl, lenW_tl, lenW_tup, negW, List.set_cons_zero, List.set_cons_succ, List.getElem?_cons_zero, List.getElem?_cons_succ, List.length_cons, List.length_nil, arW, if_true, if_false, Bool.false_eq_true, ite_true, ite_false, reduceIte, decide_true, decide_false, Bool.not_true, Bool.not_false, gd_tt, gdn0, gdn1, gdn2, gdn3, gdn4, gdn5, gdn6, gdn7, gdn8, gdn9, gdn10, gdn11, gdn12, gdn13, gdn14, gdn15, gdn16, gdn17, gdn18, gdn19, gdn20, gdn21, gdn22, gdn23, gdn24, bd_assoc]
        exact ok_pr stop
    · simp only [decide_eq_false c1, finF, sSeq, sIf, sRet, sSet, sNil, sEx, sPass, sBreak, sCont, sUnp, sStore, mB, L2.m2, L2.m1, L2.m3, mVar, mC, mCall, mCons, mNil, mTup, mTl, mNew, lenG, listL, mPart, mNoPart, mAnd, mOr, mNot, mAndV, mOrV, mNotV, mIf, mChain, mMeth, isS, mSrc, mSrcA, srcL, srcT, srcS, tgN, tgT, setW, mYes, bd_prN, bd_no, asB_bl, addW_int, subW_int, ltW_int, leW_int, gtW_int, geW_int, eqW_int, eqW_str, neW_int, neW_str, neW_bl, slW_tl, slW_cl, lenW_tl, lenW_tup, negW, List.set_cons_zero, List.set_cons_succ, List.getElem?_cons_zero, List.getElem?_cons_succ, List.length_cons, List.length_nil, arW, if_true, if_false, Bool.false_eq_true, ite_true, ite_false, reduceIte, decide_true, decide_false, Bool.not_true, Bool.not_false, gd_tt, gdn0, gdn1, gdn2, gdn3, gdn4, gdn5, gdn6, gdn7, gdn8, gdn9, gdn10, gdn11, gdn12, gdn13, gdn14, gdn15, gdn16, gdn17, gdn18, gdn19, gdn20, gdn21, gdn22, gdn23, gdn24, bd_assoc]
      exact ok_pr stop
end
theorem leaf_at {a b v : Int} (a0 : 0 ≤ a) (a1 : a < 1000) (b0 : 0 ≤ b) (b1 : b < 1000) (v0 : 0 ≤ v) (v1 : v < 7) : ∃ z e, ixW (.tl [.str (Str.ofString (toString a)), .str (Str.ofString (toString b)), .str "a", .str "bb", .str "c", .str "a", .str "bb"]) (.int v) = pr (.str z) ∧ Leaf z e ∧ z.length ≤ 3 := by
  obtain ⟨la, na⟩ := num_leaf a0 a1
  obtain ⟨lb, nb⟩ := num_leaf b0 b1
  have nm : ∀ z ∈ names, Leaf z (.box z) ∧ z.length ≤ 3 := fun z hz => ⟨.name z hz, by revert z; decide +kernel⟩
  have hv : v = 0 ∨ v = 1 ∨ v = 2 ∨ v = 3 ∨ v = 4 ∨ v = 5 ∨ v = 6 := by omega
  rcases hv with rfl | rfl | rfl | rfl | rfl | rfl | rfl
  · exact ⟨_, _, ixW_tl rfl, la, na⟩
  · exact ⟨_, _, ixW_tl rfl, lb, nb⟩
  · exact ⟨_, _, ixW_tl rfl, nm "a" (by decide +kernel)⟩
  · exact ⟨_, _, ixW_tl rfl, nm "bb" (by decide +kernel)⟩
  · exact ⟨_, _, ixW_tl rfl, nm "c" (by decide +kernel)⟩
  · exact ⟨_, _, ixW_tl rfl, nm "a" (by decide +kernel)⟩
  · exact ⟨_, _, ixW_tl rfl, nm "bb" (by decide +kernel)⟩
theorem op_at {v : Int} (v0 : 0 ≤ v) (v1 : v < 3) : ∃ c : Nat, (c = 43 ∨ c = 45 ∨ c = 42) ∧ ixW (.str "+-*") (.int v) = pr (.str ⟨#[c]⟩) := by
  have e : ("+-*" : Str).cps.toList = [43, 45, 42] := by decide +kernel
  have z : ("+-*" : Str).length ≤ sizeLine := by decide +kernel
  have hv : v = 0 ∨ v = 1 ∨ v = 2 := by omega
  rcases hv with rfl | rfl | rfl
  · exact ⟨43, .inl rfl, ixW_str z (by rw [e]; rfl)⟩
  · exact ⟨45, .inr (.inl rfl), ixW_str z (by rw [e]; rfl)⟩
  · exact ⟨42, .inr (.inr rfl), ixW_str z (by rw [e]; rfl)⟩
theorem one_len (c : Nat) : (⟨#[c]⟩ : Str).length ≤ 3 := by show 1 ≤ 3; decide
/-- behind a turn: the last part is an operator -/
def Tail (toks : List Str) (s : Sta) : Prop := ∃ l t s1 e, toks = l ++ [t] ∧ Runs s0 l s1 ∧ s1.a = some e ∧ s1.o = s.o ∧ s1.n = s.n
theorem turn_ok {cell : Int} {kp : Nat} {deep : Int} {k : Nat} {a4 a5 : Option W} {h : List Ob} {toks : List Str} {s : Sta} (p : Pts kp toks s h) (sa : s.a = none) (hd : deep = (s.o.length : Int)) (hl : toks.length ≤ 400) :
    Ok (bodyP [some (.int cell), some (.loc kp), some (.int deep), some (.int (k : Int)), a4, a5]) h fun x h' => ∃ toks' s' deep' a4 a5, x = .nx [some (.int cell), some (.loc kp), some (.int deep'), some (.int (k : Int)), a4, a5] ∧ Pts kp toks' s' h' ∧ s'.a = none ∧ s'.n = s.n + 1 ∧ deep' = (s'.o.length : Int) ∧ toks'.length ≤ toks.length + 12 ∧ Tail toks' s' := by
  unfold bodyP
  have st : f_law_stir [.int cell, .int (1 + (k : Int))] = pr (.int (stir cell (1 + (k : Int)))) := stir_eq (by omega)
  simp only [finF, sSeq, sIf, sRet, sSet, sNil, sEx, sPass, sBreak, sCont, sUnp, sStore, mB, L2.m2, L2.m1, L2.m3, mVar, mC, mCall, mCons, mNil, mTup, mTl, mNew, lenG, listL, mPart, mNoPart, mAnd, mOr, mNot, mAndV, mOrV, mNotV, mIf, mChain, mMeth, isS, mSrc, mSrcA, srcL, srcT, srcS, tgN, tgT, setW, mYes, bd_prN, bd_no, asB_bl, addW_int, subW_int, ltW_int, leW_int, gtW_int, geW_int, eqW_int, eqW_str, neW_int, neW_str, neW_bl, slW_tl, slW_cl, lenW_tl, lenW_tup, negW, List.set_cons_zero, List.set_cons_succ, List.getElem?_cons_zero, List.getElem?_cons_succ, List.length_cons, List.length_nil, arW, if_true, if_false, Bool.false_eq_true, ite_true, ite_false, reduceIte, decide_true, decide_false, Bool.not_true, Bool.not_false, gd_tt, gdn0, gdn1, gdn2, gdn3, gdn4, gdn5, gdn6, gdn7, gdn8, gdn9, gdn10, gdn11, gdn12, gdn13, gdn14, gdn15, gdn16, gdn17, gdn18, gdn19, gdn20, gdn21, gdn22, gdn23, gdn24, bd_assoc, st]
  have n0 := stir_ge cell (1 + (k : Int))
  generalize stir cell (1 + (k : Int)) = num at *
  refine ok_bd (w1_ok (cell := cell) (a3 := some (.int (k : Int))) (a5 := a5) 5 (n := 1000) (num := num) p sa hd (by omega) (by decide) n0 (by omega)) fun x h1 ⟨t1, s1, n1, d1, e1, p1, sa1, sn1, hd1, n10, l1⟩ => ?_
  subst e1
  have q8 : fdivW (.int n1) (.int 8) = pr (.int (n1 / 8)) := fdivW_int (by decide) (by decide)
  have q12 : modW (.int (n1 / 8)) (.int 12) = pr (.int (n1 / 8 % 12)) := modW_int (by decide)
  have q1000 : modW (.int (n1 / 8)) (.int 1000) = pr (.int (n1 / 8 % 1000)) := modW_int (by decide)
  have q7 : modW (.int n1) (.int 7) = pr (.int (n1 % 7)) := modW_int (by decide)
  have q56 : fdivW (.int n1) (.int 56) = pr (.int (n1 / 56)) := fdivW_int (by decide) (by decide)
  have s12 : strW [.int (n1 / 8 % 12)] = pr (.str (Str.ofString (toString (n1 / 8 % 12)))) := strW_int (log_small (by omega) (by omega))
  have s1000 : strW [.int (n1 / 8 % 1000)] = pr (.str (Str.ofString (toString (n1 / 8 % 1000)))) := strW_int (log_small (by omega) (by omega))
  obtain ⟨z, e, ez, lf, z3⟩ := leaf_at (a := n1 / 8 % 12) (b := n1 / 8 % 1000) (v := n1 % 7) (by omega) (by omega) (by omega) (by omega) (by omega) (by omega)
  simp only [envP, finF, sSeq, sIf, sRet, sSet, sNil, sEx, sPass, sBreak, sCont, sUnp, sStore, mB, L2.m2, L2.m1, L2.m3, mVar, mC, mCall, mCons, mNil, mTup, mTl, mNew, lenG, listL, mPart, mNoPart, mAnd, mOr, mNot, mAndV, mOrV, mNotV, mIf, mChain, mMeth, isS, mSrc, mSrcA, srcL, srcT, srcS, tgN, tgT, setW, mYes, bd_prN, bd_no, asB_bl, addW_int, subW_int, ltW_int, leW_int, gtW_int, geW_int, eqW_int, eqW_str, neW_int, neW_str, neW_bl, slW_tl, slW_cl, lenW_tl, lenW_tup, negW, List.set_cons_zero, List.set_cons_succ, List.getElem?_cons_zero, List.getElem?_cons_succ, List.length_cons, List.length_nil, arW, if_true, if_false, Bool.false_eq_true, ite_true, ite_false, reduceIte, decide_true, decide_false, Bool.not_true, Bool.not_false, gd_tt, gdn0, gdn1, gdn2, gdn3, gdn4, gdn5, gdn6, gdn7, gdn8, gdn9, gdn10, gdn11, gdn12, gdn13, gdn14, gdn15, gdn16, gdn17, gdn18, gdn19, gdn20, gdn21, gdn22, gdn23, gdn24, bd_assoc, q8, q12, q1000, q7, s12, s1000, ez]
  refine ok_isL p1.at' ?_
  try simp only [finF, sSeq, sIf, sRet, sSet, sNil, sEx, sPass, sBreak, sCont, sUnp, sStore, mB, L2.m2, L2.m1, L2.m3, mVar, mC, mCall, mCons, mNil, mTup, mTl, mNew, lenG, listL, mPart, mNoPart, mAnd, mOr, mNot, mAndV, mOrV, mNotV, mIf, mChain, mMeth, isS, mSrc, mSrcA, srcL, srcT, srcS, tgN, tgT, setW, mYes, bd_prN, bd_no, asB_bl, addW_int, subW_int, ltW_int, leW_int, gtW_int, geW_int, eqW_int, eqW_str, neW_int, neW_str, neW_bl, slW_tl, slW_cl, lenW_tl, lenW_tup, negW, List.set_cons_zero, List.set_cons_succ, List.getElem?_cons_zero, List.getElem?_cons_succ, List.length_cons, List.length_nil, arW, if_true, if_false, Bool.false_eq_true, ite_true, ite_false, reduceIte, decide_true, decide_false, Bool.not_true, Bool.not_false, gd_tt, gdn0, gdn1, gdn2, gdn3, gdn4, gdn5, gdn6, gdn7, gdn8, gdn9, gdn10, gdn11, gdn12, gdn13, gdn14, gdn15, gdn16, gdn17, gdn18, gdn19, gdn20, gdn21, gdn22, gdn23, gdn24, bd_assoc]
  refine ok_app p1.at' (by rw [List.length_map]; exact Nat.lt_of_le_of_lt (show t1.length ≤ 500 by omega) (by decide)) ?_
  obtain ⟨o1, L1, a1, m1⟩ := s1
  have sa1 : a1 = none := sa1
  subst sa1
  have p2 := p1.app (.leaf lf) z3
  generalize h1.set kp (.lst (t1.map W.str ++ [.str z])) = h2 at *
  simp only [finF, sSeq, sIf, sRet, sSet, sNil, sEx, sPass, sBreak, sCont, sUnp, sStore, mB, L2.m2, L2.m1, L2.m3, mVar, mC, mCall, mCons, mNil, mTup, mTl, mNew, lenG, listL, mPart, mNoPart, mAnd, mOr, mNot, mAndV, mOrV, mNotV, mIf, mChain, mMeth, isS, mSrc, mSrcA, srcL, srcT, srcS, tgN, tgT, setW, mYes, bd_prN, bd_no, asB_bl, addW_int, subW_int, ltW_int, leW_int, gtW_int, geW_int, eqW_int, eqW_str, neW_int, neW_str, neW_bl, slW_tl, slW_cl, lenW_tl, lenW_tup, negW, List.set_cons_zero, List.set_cons_succ, List.getElem?_cons_zero, List.getElem?_cons_succ, List.length_cons, List.length_nil, arW, if_true, if_false, Bool.false_eq_true, ite_true, ite_false, reduceIte, decide_true, decide_false, Bool.not_true, Bool.not_false, gd_tt, gdn0, gdn1, gdn2, gdn3, gdn4, gdn5, gdn6, gdn7, gdn8, gdn9, gdn10, gdn11, gdn12, gdn13, gdn14, gdn15, gdn16, gdn17, gdn18, gdn19, gdn20, gdn21, gdn22, gdn23, gdn24, bd_assoc, q56]
  refine ok_bd (w2_ok (cell := cell) (a3 := some (.int (k : Int))) (a5 := some (.str z)) 5 (n := 1000) (num := n1 / 56) p2 ⟨_, rfl⟩ hd1 p2.ho (by decide) (by omega) (by rw [List.length_append]; show t1.length + 1 + 5 ≤ 600; omega)) fun x h3 ⟨t3, s3, n3, d3, e3, p3, ⟨e', sa3⟩, sn3, hd3, n30, l3⟩ => ?_
  subst e3
  have q3 : modW (.int n3) (.int 3) = pr (.int (n3 % 3)) := modW_int (by decide)
  obtain ⟨c, hc, ec⟩ := op_at (v := n3 % 3) (by omega) (by omega)
  rw [List.length_append] at l3
  have l3 : t3.length ≤ t1.length + 1 + 5 := l3
  simp only [envP, finF, sSeq, sIf, sRet, sSet, sNil, sEx, sPass, sBreak, sCont, sUnp, sStore, mB, L2.m2, L2.m1, L2.m3, mVar, mC, mCall, mCons, mNil, mTup, mTl, mNew, lenG, listL, mPart, mNoPart, mAnd, mOr, mNot, mAndV, mOrV, mNotV, mIf, mChain, mMeth, isS, mSrc, mSrcA, srcL, srcT, srcS, tgN, tgT, setW, mYes, bd_prN, bd_no, asB_bl, addW_int, subW_int, ltW_int, leW_int, gtW_int, geW_int, eqW_int, eqW_str, neW_int, neW_str, neW_bl, slW_tl, slW_cl, lenW_tl, lenW_tup, negW, List.set_cons_zero, List.set_cons_succ, List.getElem?_cons_zero, List.getElem?_cons_succ, List.length_cons, List.length_nil, arW, if_true, if_false, Bool.false_eq_true, ite_true, ite_false, reduceIte, decide_true, decide_false, Bool.not_true, Bool.not_false, gd_tt, gdn0, gdn1, gdn2, gdn3, gdn4, gdn5, gdn6, gdn7, gdn8, gdn9, gdn10, gdn11, gdn12, gdn13, gdn14, gdn15, gdn16, gdn17, gdn18, gdn19, gdn20, gdn21, gdn22, gdn23, gdn24, bd_assoc]
  refine ok_isL p3.at' ?_
  simp only [finF, sSeq, sIf, sRet, sSet, sNil, sEx, sPass, sBreak, sCont, sUnp, sStore, mB, L2.m2, L2.m1, L2.m3, mVar, mC, mCall, mCons, mNil, mTup, mTl, mNew, lenG, listL, mPart, mNoPart, mAnd, mOr, mNot, mAndV, mOrV, mNotV, mIf, mChain, mMeth, isS, mSrc, mSrcA, srcL, srcT, srcS, tgN, tgT, setW, mYes, bd_prN, bd_no, asB_bl, addW_int, subW_int, ltW_int, leW_int, gtW_int, geW_int, eqW_int, eqW_str, neW_int, neW_str, neW_bl, slW_tl, slW_cl, lenW_tl, lenW_tup, negW, List.set_cons_zero, List.set_cons_succ, List.getElem?_cons_zero, List.getElem?_cons_succ, List.length_cons, List.length_nil, arW, if_true, if_false, Bool.false_eq_true, ite_true, ite_false, reduceIte, decide_true, decide_false, Bool.not_true, Bool.not_false, gd_tt, gdn0, gdn1, gdn2, gdn3, gdn4, gdn5, gdn6, gdn7, gdn8, gdn9, gdn10, gdn11, gdn12, gdn13, gdn14, gdn15, gdn16, gdn17, gdn18, gdn19, gdn20, gdn21, gdn22, gdn23, gdn24, bd_assoc, q3, ec]
  refine ok_app p3.at' (by rw [List.length_map]; exact Nat.lt_of_le_of_lt (show t3.length ≤ 600 by omega) (by decide)) ?_
  try simp only [finF, sSeq, sIf, sRet, sSet, sNil, sEx, sPass, sBreak, sCont, sUnp, sStore, mB, L2.m2, L2.m1, L2.m3, mVar, mC, mCall, mCons, mNil, mTup, mTl, mNew, lenG, listL, mPart, mNoPart, mAnd, mOr, mNot, mAndV, mOrV, mNotV, mIf, mChain, mMeth, isS, mSrc, mSrcA, srcL, srcT, srcS, tgN, tgT, setW, mYes, bd_prN, bd_no, asB_bl, addW_int, subW_int, ltW_int, leW_int, gtW_int, geW_int, eqW_int, eqW_str, neW_int, neW_str, neW_bl, slW_tl, slW_cl, lenW_tl, lenW_tup, negW, List.set_cons_zero, List.set_cons_succ, List.getElem?_cons_zero, List.getElem?_cons_succ, List.length_cons, List.length_nil, arW, if_true, if_false, Bool.false_eq_true, ite_true, ite_false, reduceIte, decide_true, decide_false, Bool.not_true, Bool.not_false, gd_tt, gdn0, gdn1, gdn2, gdn3, gdn4, gdn5, gdn6, gdn7, gdn8, gdn9, gdn10, gdn11, gdn12, gdn13, gdn14, gdn15, gdn16, gdn17, gdn18, gdn19, gdn20, gdn21, gdn22, gdn23, gdn24, bd_assoc]
  obtain ⟨o3, L3, a3, m3⟩ := s3
  have sa3 : a3 = some e' := sa3
  subst sa3
  have sn3 : m3 = m1 + 1 := sn3
  have sn1 : m1 = s.n := sn1
  refine ok_pr ⟨t3 ++ [⟨#[c]⟩], ⟨o3, L3.op c e', none, m3⟩, d3, _, _, rfl, p3.app (.op hc) (one_len c), rfl, by show m3 = s.n + 1; omega, hd3, by rw [List.length_append]; show t3.length + 1 ≤ _; omega, t3, _, _, e', rfl, p3.run, rfl, rfl, rfl⟩
theorem close_ok : ∀ {o : List Lvl} {L : Lvl} {e : Exp} {n : Nat} {l : List Str}, Runs s0 l ⟨o, L, some e, n⟩ → ∃ L' e', Wd.Runs s0 (l ++ List.replicate o.length (")" : Str)) ⟨[], L', some e', n⟩
  | [], L, e, n, l, R => ⟨L, e, by rw [List.length_nil, List.replicate_zero, List.append_nil]; exact R⟩
  | K :: o, L, e, n, l, R => by
    obtain ⟨L', e', R'⟩ := close_ok (R.snoc .rp)
    refine ⟨L', e', ?_⟩
    rw [List.length_cons, List.replicate_succ, show l ++ (")" : Str) :: List.replicate o.length (")" : Str) = l ++ [(")" : Str)] ++ List.replicate o.length (")" : Str) by simp]
    exact R'
theorem cut_last {α : Type} (l : List α) (w : α) : cutW (l ++ [w]) none (some (-1)) = l := by
  unfold cutW
  have e1 : HT.sIx (l ++ [w]).length 0 none = 0 := rfl
  have e2 : HT.sIx (l ++ [w]).length (l ++ [w]).length (some (-1)) = l.length := by
    show (if (-1 : Int) < 0 then ((-1 : Int) + ((l ++ [w]).length : Int)).toNat else min (-1 : Int).toNat (l ++ [w]).length) = _
    rw [if_pos (by decide), List.length_append]
    show ((-1 : Int) + ((l.length + 1 : Nat) : Int)).toNat = _
    omega
  rw [e1, e2, List.drop_zero, Nat.sub_zero, List.take_left' rfl]
theorem ok_slL {β : Type} {h : List Ob} {Q : β → List Ob → Prop} {j : Nat} {l : List W} {w : W} {k : W → M β} (e : h[j]? = some (.lst (l ++ [w]))) (q : Ok (k (.tl l)) h Q) : Ok (bd (slW (.loc j) none (some (-1))) k) h Q := by
  refine ok_bdo (a := .tl l) (h' := h) ?_ q
  show bd (lstOf (.loc j)) (fun l => pr (W.tl (cutW l none (some (-1))))) h = _
  have e1 : lstOf (.loc j) h = .ok (l ++ [w]) h := by unfold lstOf; simp only [e]
  rw [bd_ok e1, cut_last]; rfl
theorem rep_flat : ∀ n : Nat, (List.replicate n [W.str ")"]).flatten = (List.replicate n (")" : Str)).map W.str
  | 0 => rfl
  | n + 1 => by rw [List.replicate_succ, List.flatten_cons, rep_flat n, List.replicate_succ, List.map_cons]; rfl
theorem mul_tl {n : Int} (h0 : 0 ≤ n) (h1 : n ≤ 5) : mulW (.tl [.str ")"]) (.int n) = pr (.tl ((List.replicate n.toNat (")" : Str)).map W.str)) := by
  show gd (0 ≤ n ∧ n ≤ 1000000 ∧ 1 * n.toNat ≤ sizeLine) (pr (W.tl (List.replicate n.toNat [W.str ")"]).flatten)) = _
  rw [gd_pos ⟨h0, by omega, sz (by omega)⟩, rep_flat]
theorem t3_rep (n : Nat) {l : List Str} (h : T3 l) : T3 (l ++ List.replicate n (")" : Str)) := fun z hz => (List.mem_append.mp hz).elim (h z) fun q => by
  rw [(List.mem_replicate.mp q).2]; decide +kernel
theorem parts_ok {cell : Int} {h : List Ob} : Ok (f_law_parts [.int cell]) h fun w _ => ∃ toks L e n, w = .tl (toks.map W.str) ∧ Runs s0 toks ⟨[], L, some e, n⟩ ∧ n ≤ 10 ∧ toks.length ≤ 1000 ∧ T3 toks := by
  have e0 : f_law_parts [.int cell] = bd (g_law_parts [some (.int cell), none, none, none, none, none]) finF := rfl
  have st : f_law_stir [.int cell, .int 0] = pr (.int (stir cell 0)) := stir_eq (by decide)
  have q10 : modW (.int (stir cell 0)) (.int 10) = pr (.int (stir cell 0 % 10)) := modW_int (by decide)
  obtain ⟨N, hN⟩ : ∃ N : Int, N = stir cell 0 % 10 := ⟨_, rfl⟩
  have N0 : 0 ≤ N ∧ N < 10 := by omega
  rw [← hN] at q10
  rw [e0, parts_parts]
  simp only [finF, sSeq, sIf, sRet, sSet, sNil, sEx, sPass, sBreak, sCont, sUnp, sStore, mB, L2.m2, L2.m1, L2.m3, mVar, mC, mCall, mCons, mNil, mTup, mTl, mNew, lenG, listL, mPart, mNoPart, mAnd, mOr, mNot, mAndV, mOrV, mNotV, mIf, mChain, mMeth, isS, mSrc, mSrcA, srcL, srcT, srcS, tgN, tgT, setW, mYes, bd_prN, bd_no, asB_bl, addW_int, subW_int, ltW_int, leW_int, gtW_int, geW_int, eqW_int, eqW_str, neW_int, neW_str, neW_bl, slW_tl, slW_cl, lenW_tl, lenW_tup, negW, List.set_cons_zero, List.set_cons_succ, List.getElem?_cons_zero, List.getElem?_cons_succ, List.length_cons, List.length_nil, arW, if_true, if_false, Bool.false_eq_true, ite_true, ite_false, reduceIte, decide_true, decide_false, Bool.not_true, Bool.not_false, gd_tt, gdn0, gdn1, gdn2, gdn3, gdn4, gdn5, gdn6, gdn7, gdn8, gdn9, gdn10, gdn11, gdn12, gdn13, gdn14, gdn15, gdn16, gdn17, gdn18, gdn19, gdn20, gdn21, gdn22, gdn23, gdn24, bd_assoc]
  refine ok_new ?_
  simp only [finF, sSeq, sIf, sRet, sSet, sNil, sEx, sPass, sBreak, sCont, sUnp, sStore, mB, L2.m2, L2.m1, L2.m3, mVar, mC, mCall, mCons, mNil, mTup, mTl, mNew, lenG, listL, mPart, mNoPart, mAnd, mOr, mNot, mAndV, mOrV, mNotV, mIf, mChain, mMeth, isS, mSrc, mSrcA, srcL, srcT, srcS, tgN, tgT, setW, mYes, bd_prN, bd_no, asB_bl, addW_int, subW_int, ltW_int, leW_int, gtW_int, geW_int, eqW_int, eqW_str, neW_int, neW_str, neW_bl, slW_tl, slW_cl, lenW_tl, lenW_tup, negW, List.set_cons_zero, List.set_cons_succ, List.getElem?_cons_zero, List.getElem?_cons_succ, List.length_cons, List.length_nil, arW, if_true, if_false, Bool.false_eq_true, ite_true, ite_false, reduceIte, decide_true, decide_false, Bool.not_true, Bool.not_false, gd_tt, gdn0, gdn1, gdn2, gdn3, gdn4, gdn5, gdn6, gdn7, gdn8, gdn9, gdn10, gdn11, gdn12, gdn13, gdn14, gdn15, gdn16, gdn17, gdn18, gdn19, gdn20, gdn21, gdn22, gdn23, gdn24, sFor, bd_assoc, st, q10, rng1_int (show (-(2 ^ 62) : Int) ≤ 1 + N by omega) (show (1 + N : Int) < 2 ^ 62 by omega)]
  refine ok_for (I := fun i ρ h' => ∃ toks s deep a3 a4 a5, ρ = [some (.int cell), some (.loc h.length), some (.int deep), a3, a4, a5] ∧ Pts h.length toks s h' ∧ s.a = none ∧ s.n = i ∧ deep = (s.o.length : Int) ∧ toks.length ≤ 12 * i ∧ (0 < i → Tail toks s)) ⟨[], s0, 0, _, _, _, rfl, ⟨get_end, .nil, fun z hz => absurd hz List.not_mem_nil, Nat.zero_le _⟩, rfl, rfl, rfl, Nat.le_refl _, fun q => absurd q (Nat.lt_irrefl _)⟩ (fun _ _ _ _ => trivial) (fun i w ρ h1 hw I => ?_) fun ρ h1 I => ?_
  · obtain ⟨toks, s, deep, a3, a4, a5, rfl, p, sa, sn, hd, tl, _⟩ := I
    obtain ⟨rfl, hi⟩ := ints_get _ _ _ _ hw
    rw [show (0 : Int) + (i : Int) = (i : Int) by omega]
    refine ⟨_, rfl, ?_⟩
    refine Ok.imp (turn_ok p sa hd (by omega)) fun x h2 ⟨t', s', d', b4, b5, e1, p', sa', sn', hd', tl', ta⟩ => ⟨_, e1, t', s', d', _, _, _, rfl, p', sa', by omega, hd', by omega, fun _ => ta⟩
  · obtain ⟨toks, s, deep, a3, a4, a5, rfl, p, sa, sn, hd, tl, ta⟩ := I
    rw [ints_len] at sn tl ta
    obtain ⟨l, t, s1, e, rfl, R, sa1, so1, sn1⟩ := ta (by omega)
    have ho := p.ho
    have at1 : h1[h.length]? = some (.lst (l.map W.str ++ [.str t])) := by rw [p.at']; simp
    have dn : deep.toNat = s.o.length := by omega
    have ml := mul_tl (n := deep) (by omega) (by omega)
    rw [List.length_append] at tl
    have tl : l.length + 1 ≤ 12 * (1 + N).toNat := tl
    have ad := addW_tl (l.map W.str) ((List.replicate deep.toNat (")" : Str)).map W.str) (by rw [List.length_map, List.length_map, List.length_replicate]; exact sz (by omega))
    simp only [finF, sSeq, sIf, sRet, sSet, sNil, sEx, sPass, sBreak, sCont, sUnp, sStore, mB, L2.m2, L2.m1, L2.m3, mVar, mC, mCall, mCons, mNil, mTup, mTl, mNew, lenG, listL, mPart, mNoPart, mAnd, mOr, mNot, mAndV, mOrV, mNotV, mIf, mChain, mMeth, isS, mSrc, mSrcA, srcL, srcT, srcS, tgN, tgT, setW, mYes, bd_prN, bd_no, asB_bl, addW_int, subW_int, ltW_int, leW_int, gtW_int, geW_int, eqW_int, eqW_str, neW_int, neW_str, neW_bl, slW_tl, slW_cl, lenW_tl, lenW_tup, negW, List.set_cons_zero, List.set_cons_succ, List.getElem?_cons_zero, List.getElem?_cons_succ, List.length_cons, List.length_nil, arW, if_true, if_false, Bool.false_eq_true, ite_true, ite_false, reduceIte, decide_true, decide_false, Bool.not_true, Bool.not_false, gd_tt, gdn0, gdn1, gdn2, gdn3, gdn4, gdn5, gdn6, gdn7, gdn8, gdn9, gdn10, gdn11, gdn12, gdn13, gdn14, gdn15, gdn16, gdn17, gdn18, gdn19, gdn20, gdn21, gdn22, gdn23, gdn24, bd_assoc]
    refine ok_slL at1 ?_
    simp only [finF, sSeq, sIf, sRet, sSet, sNil, sEx, sPass, sBreak, sCont, sUnp, sStore, mB, L2.m2, L2.m1, L2.m3, mVar, mC, mCall, mCons, mNil, mTup, mTl, mNew, lenG, listL, mPart, mNoPart, mAnd, mOr, mNot, mAndV, mOrV, mNotV, mIf, mChain, mMeth, isS, mSrc, mSrcA, srcL, srcT, srcS, tgN, tgT, setW, mYes, bd_prN, bd_no, asB_bl, addW_int, subW_int, ltW_int, leW_int, gtW_int, geW_int, eqW_int, eqW_str, neW_int, neW_str, neW_bl, slW_tl, slW_cl, lenW_tl, lenW_tup, negW, List.set_cons_zero, List.set_cons_succ, List.getElem?_cons_zero, List.getElem?_cons_succ, List.length_cons, List.length_nil, arW, if_true, if_false, Bool.false_eq_true, ite_true, ite_false, reduceIte, decide_true, decide_false, Bool.not_true, Bool.not_false, gd_tt, gdn0, gdn1, gdn2, gdn3, gdn4, gdn5, gdn6, gdn7, gdn8, gdn9, gdn10, gdn11, gdn12, gdn13, gdn14, gdn15, gdn16, gdn17, gdn18, gdn19, gdn20, gdn21, gdn22, gdn23, gdn24, bd_assoc, ml, ad]
    obtain ⟨o, L, a, n⟩ := s1
    have sa1 : a = some e := sa1
    subst sa1
    have so1 : o = s.o := so1
    have sn1 : n = s.n := sn1
    obtain ⟨L', e', R'⟩ := close_ok R
    have t3l : T3 l := fun z hz => p.t3 z (List.mem_append.mpr (.inl hz))
    refine ok_pr ⟨l ++ List.replicate o.length (")" : Str), L', e', n, by rw [dn, so1, List.map_append], R', by omega, ?_, t3_rep _ t3l⟩
    rw [List.length_append, List.length_replicate, so1]
    omega
theorem fit_runs {s s' : Sta} {l : List Str} (R : Runs s l s') (F : Fit s) : Fit s' := by
  induction R with
  | nil => exact F
  | cons S _ ih => exact ih (S.fit F)
theorem sum_len : ∀ {l : List Str}, T3 l → (l.map (·.length)).sum ≤ 3 * l.length
  | [], _ => Nat.le_refl _
  | t :: l, h => by
    have a := h t List.mem_cons_self
    have b := sum_len (l := l) fun z hz => h z (List.mem_cons_of_mem _ hz)
    rw [List.map_cons, List.sum_cons, List.length_cons]
    omega
theorem nd5 : ([.inr "a", .inr "bb", .inr "c"] : List Key).Nodup ∧ ([.inr "a", .inr "bb", .inr "c"] : List Key).length ≤ 15 := by decide +kernel
theorem turnL_ok {S : W} {cell : Int} {a2 a3 a4 a5 : Option W} {h : List Ob} : Ok (bodyL [some S, some (.int cell), a2, a3, a4, a5]) h fun x _ => ∃ a2 a3 a4 a5, x = .nx [some S, some (.int cell), a2, a3, a4, a5] := by
  unfold bodyL
  simp only [finF, sSeq, sIf, sRet, sSet, sNil, sEx, sPass, sBreak, sCont, sUnp, sStore, mB, L2.m2, L2.m1, L2.m3, mVar, mC, mCall, mCons, mNil, mTup, mTl, mNew, lenG, listL, mPart, mNoPart, mAnd, mOr, mNot, mAndV, mOrV, mNotV, mIf, mChain, mMeth, isS, mSrc, mSrcA, srcL, srcT, srcS, tgN, tgT, setW, mYes, bd_prN, bd_no, asB_bl, addW_int, subW_int, ltW_int, leW_int, gtW_int, geW_int, eqW_int, eqW_str, neW_int, neW_str, neW_bl, slW_tl, slW_cl, lenW_tl, lenW_tup, negW, List.set_cons_zero, List.set_cons_succ, List.getElem?_cons_zero, List.getElem?_cons_succ, List.length_cons, List.length_nil, arW, if_true, if_false, Bool.false_eq_true, ite_true, ite_false, reduceIte, decide_true, decide_false, Bool.not_true, Bool.not_false, gd_tt, gdn0, gdn1, gdn2, gdn3, gdn4, gdn5, gdn6, gdn7, gdn8, gdn9, gdn10, gdn11, gdn12, gdn13, gdn14, gdn15, gdn16, gdn17, gdn18, gdn19, gdn20, gdn21, gdn22, gdn23, gdn24, bd_assoc]
  refine ok_bd parts_ok fun w h1 ⟨toks, L, e, n, ew, R, n10, tl, t3⟩ => ?_
  subst ew
  have jn := joinW_eq (sep := "") (ts := toks) (by have := sum_len t3; have z : ("" : Str).length = 0 := by decide +kernel
                                                   rw [z, Nat.mul_zero]; exact sz (by omega))
  have sg : f_law_stir [.int cell, .int 40] = pr (.int (stir cell 40)) := stir_eq (by decide)
  have s0' := stir_ge cell 40
  obtain ⟨f, hf⟩ : ∃ f : Int, stir cell 40 = f := ⟨_, rfl⟩
  rw [hf] at sg s0'
  have q1 : modW (.int f) (.int 41) = pr (.int (f % 41)) := modW_int (by decide)
  have q2 : fdivW (.int f) (.int 41) = pr (.int (f / 41)) := fdivW_int (by decide) (by decide)
  have q3 : modW (.int (f / 41)) (.int 2001) = pr (.int (f / 41 % 2001)) := modW_int (by decide)
  have q4 : fdivW (.int f) (.int 100000) = pr (.int (f / 100000)) := fdivW_int (by decide) (by decide)
  have q5 : modW (.int (f / 100000)) (.int 200) = pr (.int (f / 100000 % 200)) := modW_int (by decide)
  simp only [finF, sSeq, sIf, sRet, sSet, sNil, sEx, sPass, sBreak, sCont, sUnp, sStore, mB, L2.m2, L2.m1, L2.m3, mVar, mC, mCall, mCons, mNil, mTup, mTl, mNew, lenG, listL, mPart, mNoPart, mAnd, mOr, mNot, mAndV, mOrV, mNotV, mIf, mChain, mMeth, isS, mSrc, mSrcA, srcL, srcT, srcS, tgN, tgT, setW, mYes, bd_prN, bd_no, asB_bl, addW_int, subW_int, ltW_int, leW_int, gtW_int, geW_int, eqW_int, eqW_str, neW_int, neW_str, neW_bl, slW_tl, slW_cl, lenW_tl, lenW_tup, negW, List.set_cons_zero, List.set_cons_succ, List.getElem?_cons_zero, List.getElem?_cons_succ, List.length_cons, List.length_nil, arW, if_true, if_false, Bool.false_eq_true, ite_true, ite_false, reduceIte, decide_true, decide_false, Bool.not_true, Bool.not_false, gd_tt, gdn0, gdn1, gdn2, gdn3, gdn4, gdn5, gdn6, gdn7, gdn8, gdn9, gdn10, gdn11, gdn12, gdn13, gdn14, gdn15, gdn16, gdn17, gdn18, gdn19, gdn20, gdn21, gdn22, gdn23, gdn24, bd_assoc, jn, sg]
  refine ok_iceDisp (ks := [.inr "a", .inr "bb", .inr "c"]) (ws := [.int (f % 41 - 20), .int (f / 41 % 2001 - 1000), .int (f / 100000 % 200)]) (by simp only [mPrs, keyOf, finF, sSeq, sIf, sRet, sSet, sNil, sEx, sPass, sBreak, sCont, sUnp, sStore, mB, L2.m2, L2.m1, L2.m3, mVar, mC, mCall, mCons, mNil, mTup, mTl, mNew, lenG, listL, mPart, mNoPart, mAnd, mOr, mNot, mAndV, mOrV, mNotV, mIf, mChain, mMeth, isS, mSrc, mSrcA, srcL, srcT, srcS, tgN, tgT, setW, mYes, bd_prN, bd_no, asB_bl, addW_int, subW_int, ltW_int, leW_int, gtW_int, geW_int, eqW_int, eqW_str, neW_int, neW_str, neW_bl, slW_tl, slW_cl, lenW_tl, lenW_tup, negW, List.set_cons_zero, List.set_cons_succ, List.getElem?_cons_zero, List.getElem?_cons_succ, List.length_cons, List.length_nil, arW, if_true, if_false, Bool.false_eq_true, ite_true, ite_false, reduceIte, decide_true, decide_false, Bool.not_true, Bool.not_false, gd_tt, gdn0, gdn1, gdn2, gdn3, gdn4, gdn5, gdn6, gdn7, gdn8, gdn9, gdn10, gdn11, gdn12, gdn13, gdn14, gdn15, gdn16, gdn17, gdn18, gdn19, gdn20, gdn21, gdn22, gdn23, gdn24, bd_assoc, q1, q2, q3, q4, q5]) nd5 ?_
  have V : Vok (vsf (f % 41 - 20) (f / 41 % 2001 - 1000) (f / 100000 % 200)) := fun z _ => by
    unfold vsf
    split
    · omega
    · split <;> omega
  have dv : W.dv [.inr "a", .inr "bb", .inr "c"] [.int (f % 41 - 20), .int (f / 41 % 2001 - 1000), .int (f / 100000 % 200)] = dvW (f % 41 - 20) (f / 41 % 2001 - 1000) (f / 100000 % 200) := rfl
  rw [dv]
  have zl : (Str.join "" toks).length ≤ 100000 := by
    have a := join_len "" toks
    have b := sum_len t3
    have z : ("" : Str).length = 0 := by decide +kernel
    rw [z, Nat.mul_zero] at a
    omega
  by_cases h60 : ((Str.join "" toks).length : Int) ≤ 60
  · have ex : fExpr0 [.str (Str.join "" toks)] = pr (expW (L.sum e)) := by
      show gd ((Str.join "" toks).length ≤ sizeLine) (match exprP (Str.join "" toks) with
        | some e => pr (expW e)
        | none => no) = _
      rw [gd_pos (sz zl), runs_expr R (join_list toks) (by omega)]
    have F : Fit ⟨[], L, some e, n⟩ := fit_runs R fit0
    obtain ⟨wf, lv⟩ := sum_fit F.s F.p F.a
    have tt : totO [] + totS L.s + totP L.p + lvs e ≤ n := F.tot
    have lv : lvs (L.sum e) = totS L.s + (totP L.p + lvs e) := lv
    have l10 : lvs (L.sum e) ≤ 10 := by rw [lv]; omega
    have wo := worth_eq V 12 (L.sum e) wf (by omega) l10
    simp only [finF, sSeq, sIf, sRet, sSet, sNil, sEx, sPass, sBreak, sCont, sUnp, sStore, mB, L2.m2, L2.m1, L2.m3, mVar, mC, mCall, mCons, mNil, mTup, mTl, mNew, lenG, listL, mPart, mNoPart, mAnd, mOr, mNot, mAndV, mOrV, mNotV, mIf, mChain, mMeth, isS, mSrc, mSrcA, srcL, srcT, srcS, tgN, tgT, setW, mYes, bd_prN, bd_no, asB_bl, addW_int, subW_int, ltW_int, leW_int, gtW_int, geW_int, eqW_int, eqW_str, neW_int, neW_str, neW_bl, slW_tl, slW_cl, lenW_tl, lenW_tup, negW, List.set_cons_zero, List.set_cons_succ, List.getElem?_cons_zero, List.getElem?_cons_succ, List.length_cons, List.length_nil, arW, if_true, if_false, Bool.false_eq_true, ite_true, ite_false, reduceIte, decide_true, decide_false, Bool.not_true, Bool.not_false, gd_tt, gdn0, gdn1, gdn2, gdn3, gdn4, gdn5, gdn6, gdn7, gdn8, gdn9, gdn10, gdn11, gdn12, gdn13, gdn14, gdn15, gdn16, gdn17, gdn18, gdn19, gdn20, gdn21, gdn22, gdn23, gdn24, bd_assoc, lenW_str (sz zl), decide_eq_true h60, ex, wo]
    refine ok_bd (due_ok V R n10 (by omega)) fun w h2 ew => ?_
    subst ew
    simp only [finF, sSeq, sIf, sRet, sSet, sNil, sEx, sPass, sBreak, sCont, sUnp, sStore, mB, L2.m2, L2.m1, L2.m3, mVar, mC, mCall, mCons, mNil, mTup, mTl, mNew, lenG, listL, mPart, mNoPart, mAnd, mOr, mNot, mAndV, mOrV, mNotV, mIf, mChain, mMeth, isS, mSrc, mSrcA, srcL, srcT, srcS, tgN, tgT, setW, mYes, bd_prN, bd_no, asB_bl, addW_int, subW_int, ltW_int, leW_int, gtW_int, geW_int, eqW_int, eqW_str, neW_int, neW_str, neW_bl, slW_tl, slW_cl, lenW_tl, lenW_tup, negW, List.set_cons_zero, List.set_cons_succ, List.getElem?_cons_zero, List.getElem?_cons_succ, List.length_cons, List.length_nil, arW, if_true, if_false, Bool.false_eq_true, ite_true, ite_false, reduceIte, decide_true, decide_false, Bool.not_true, Bool.not_false, gd_tt, gdn0, gdn1, gdn2, gdn3, gdn4, gdn5, gdn6, gdn7, gdn8, gdn9, gdn10, gdn11, gdn12, gdn13, gdn14, gdn15, gdn16, gdn17, gdn18, gdn19, gdn20, gdn21, gdn22, gdn23, gdn24, bd_assoc, eq_self, decide_true]
    exact ok_pr ⟨_, _, _, _, rfl⟩
  · simp only [finF, sSeq, sIf, sRet, sSet, sNil, sEx, sPass, sBreak, sCont, sUnp, sStore, mB, L2.m2, L2.m1, L2.m3, mVar, mC, mCall, mCons, mNil, mTup, mTl, mNew, lenG, listL, mPart, mNoPart, mAnd, mOr, mNot, mAndV, mOrV, mNotV, mIf, mChain, mMeth, isS, mSrc, mSrcA, srcL, srcT, srcS, tgN, tgT, setW, mYes, bd_prN, bd_no, asB_bl, addW_int, subW_int, ltW_int, leW_int, gtW_int, geW_int, eqW_int, eqW_str, neW_int, neW_str, neW_bl, slW_tl, slW_cl, lenW_tl, lenW_tup, negW, List.set_cons_zero, List.set_cons_succ, List.getElem?_cons_zero, List.getElem?_cons_succ, List.length_cons, List.length_nil, arW, if_true, if_false, Bool.false_eq_true, ite_true, ite_false, reduceIte, decide_true, decide_false, Bool.not_true, Bool.not_false, gd_tt, gdn0, gdn1, gdn2, gdn3, gdn4, gdn5, gdn6, gdn7, gdn8, gdn9, gdn10, gdn11, gdn12, gdn13, gdn14, gdn15, gdn16, gdn17, gdn18, gdn19, gdn20, gdn21, gdn22, gdn23, gdn24, bd_assoc, lenW_str (sz zl), decide_eq_false h60]
    exact ok_pr ⟨_, _, _, _, rfl⟩
theorem law_run (ns : List Int) (hh : List Ob) : Ok (f_law [.cl (ns.map W.int)]) hh fun w _ => w = .bl true := by
  have e0 : f_law [.cl (ns.map W.int)] = bd (g_law [some (.cl (ns.map W.int)), none, none, none, none, none]) finF := rfl
  rw [e0, law_parts']
  simp only [finF, sSeq, sIf, sRet, sSet, sNil, sEx, sPass, sBreak, sCont, sUnp, sStore, mB, L2.m2, L2.m1, L2.m3, mVar, mC, mCall, mCons, mNil, mTup, mTl, mNew, lenG, listL, mPart, mNoPart, mAnd, mOr, mNot, mAndV, mOrV, mNotV, mIf, mChain, mMeth, isS, mSrc, mSrcA, srcL, srcT, srcS, tgN, tgT, setW, mYes, bd_prN, bd_no, asB_bl, addW_int, subW_int, ltW_int, leW_int, gtW_int, geW_int, eqW_int, eqW_str, neW_int, neW_str, neW_bl, slW_tl, slW_cl, lenW_tl, lenW_tup, negW, List.set_cons_zero, List.set_cons_succ, List.getElem?_cons_zero, List.getElem?_cons_succ, List.length_cons, List.length_nil, arW, if_true, if_false, Bool.false_eq_true, ite_true, ite_false, reduceIte, decide_true, decide_false, Bool.not_true, Bool.not_false, gd_tt, gdn0, gdn1, gdn2, gdn3, gdn4, gdn5, gdn6, gdn7, gdn8, gdn9, gdn10, gdn11, gdn12, gdn13, gdn14, gdn15, gdn16, gdn17, gdn18, gdn19, gdn20, gdn21, gdn22, gdn23, gdn24, sFor, bd_assoc, cut_map]
  refine ok_for (I := fun _ ρ _ => ∃ a1 a2 a3 a4 a5, ρ = [some (.cl (ns.map W.int)), a1, a2, a3, a4, a5]) ⟨_, _, _, _, _, rfl⟩ (fun _ _ _ _ => trivial) (fun i w ρ h1 hw I => ?_) fun ρ h1 I => ?_
  · obtain ⟨a1, a2, a3, a4, a5, rfl⟩ := I
    rw [List.getElem?_map] at hw
    obtain ⟨cell, _, rfl⟩ := Option.map_eq_some_iff.mp hw
    refine ⟨_, rfl, ?_⟩
    exact Ok.imp turnL_ok fun x h2 ⟨b2, b3, b4, b5, e⟩ => ⟨_, e, _, _, _, _, _, rfl⟩
  · obtain ⟨a1, a2, a3, a4, a5, rfl⟩ := I
    simp only [finF, sSeq, sIf, sRet, sSet, sNil, sEx, sPass, sBreak, sCont, sUnp, sStore, mB, L2.m2, L2.m1, L2.m3, mVar, mC, mCall, mCons, mNil, mTup, mTl, mNew, lenG, listL, mPart, mNoPart, mAnd, mOr, mNot, mAndV, mOrV, mNotV, mIf, mChain, mMeth, isS, mSrc, mSrcA, srcL, srcT, srcS, tgN, tgT, setW, mYes, bd_prN, bd_no, asB_bl, addW_int, subW_int, ltW_int, leW_int, gtW_int, geW_int, eqW_int, eqW_str, neW_int, neW_str, neW_bl, slW_tl, slW_cl, lenW_tl, lenW_tup, negW, List.set_cons_zero, List.set_cons_succ, List.getElem?_cons_zero, List.getElem?_cons_succ, List.length_cons, List.length_nil, arW, if_true, if_false, Bool.false_eq_true, ite_true, ite_false, reduceIte, decide_true, decide_false, Bool.not_true, Bool.not_false, gd_tt, gdn0, gdn1, gdn2, gdn3, gdn4, gdn5, gdn6, gdn7, gdn8, gdn9, gdn10, gdn11, gdn12, gdn13, gdn14, gdn15, gdn16, gdn17, gdn18, gdn19, gdn20, gdn21, gdn22, gdn23, gdn24, bd_assoc]
    exact ok_pr rfl
theorem law_true (ns : List Int) (hh : List Ob) : ∃ h', f_law [.cl (ns.map W.int)] hh = .ok (.bl true) h' := by
  obtain ⟨w, h', e, rfl⟩ := law_run ns hh
  exact ⟨h', e⟩
end Q
namespace Q
open PySem L2 Wd
def spLaw (K : PySem.W.Frag) : Sp := fun vs H Q _ => ∃ (a : Addr) (ns : List Int), vs = [.ref a] ∧ SqL K H a (ns.map V.int) ∧ ns.length ≤ 63 ∧ ∀ H', Q (.bl true) H'
theorem rvs_ints {K : PySem.W.Frag} {o : Wo} : ∀ ns : List Int, Rvs K o (ns.map W.int) (ns.map V.int)
  | [] => Rvs.nil
  | n :: r => Rvs.cons (rv_int.mpr rfl) (rvs_ints r)
theorem law_ok {P : Program} {w : World} {K : PySem.W.Frag} {mg : Str → Option Value} {base : Heap} {f : Addr} {fd : FuncData} (C : CG P w K mg base 29 "law" f fd ["script"] 1 f_law) : FnOk P w K mg base CX0 29 f fd ["script"] (spLaw K) :=
  C.ok.imp fun vs H Q E h => by
    obtain ⟨a, ns, rfl, sq, _, q⟩ := h
    have nl : ¬ Lv ⟨fun _ => 0, [], H⟩ a := fun ⟨k, b, hk, _⟩ => by simp at hk
    refine ⟨⟨fun _ => 0, [], H⟩, [.cl (ns.map W.int)], rfl, rfl, ⟨fun k b hk => by simp at hk, fun j k b c hj => by simp at hj⟩, Rvs.cons ?_ Rvs.nil, ?_⟩
    · unfold Rv
      exact ⟨a, _, rfl, sq.imp (fun r => ⟨r, nl⟩) id, rvs_ints ns⟩
    · obtain ⟨h', e⟩ := law_true ns []
      show Ps _ _ _ (f_law [.cl (ns.map W.int)] []) Q
      rw [e]
      intro p b _ _ _ rb
      rw [rv_bl.mp rb]
      exact q _
theorem all_mk {l : PySem.W.OpenLaw} {w : World} {K : PySem.W.Frag} {h : Heap} {mg : Str → Option Value} {fa CS CN aT f1 f2 f3 f4 f5 f6 f7 f8 f9 f10 f11 f12 f13 f14 f15 f16 f17 f18 : Addr} (X : K.In h) (G : h.Ns mainGlobals mg) (hfa : mg "law" = some (.ref fa))
    {od1 an1 od2 an2 od3 an3 od4 an4 od5 an5 od6 an6 od7 an7 od8 an8 od9 an9 od10 an10 od11 an11 od12 an12 od13 an13 od14 an14 od15 an15 od16 an16 od17 an17 od18 an18 : Option Addr} {sl1 sl2 sl3 sl4 sl5 sl6 sl7 sl8 sl9 sl10 sl11 sl12 sl13 sl14 sl15 sl16 sl17 sl18 : Array (Option Value)} {oc1 kV1 dc1 pm1 cd1 ct1 oc2 kV2 dc2 pm2 cd2 ct2 oc3 kV3 dc3 pm3 cd3 ct3 oc4 kV4 dc4 pm4 cd4 ct4 oc5 kV5 dc5 pm5 cd5 ct5 oc6 kV6 dc6 pm6 cd6 ct6 oc7 kV7 dc7 pm7 cd7 ct7 oc8 kV8 dc8 pm8 cd8 ct8 oc9 kV9 dc9 pm9 cd9 ct9 oc10 kV10 dc10 pm10 cd10 ct10 oc11 kV11 dc11 pm11 cd11 ct11 oc12 kV12 dc12 pm12 cd12 ct12 oc13 kV13 dc13 pm13 cd13 ct13 oc14 kV14 dc14 pm14 cd14 ct14 oc15 kV15 dc15 pm15 cd15 ct15 oc16 kV16 dc16 pm16 cd16 ct16 oc17 kV17 dc17 pm17 cd17 ct17 oc18 kV18 dc18 pm18 cd18 ct18 : Value}
    {odT : Option Addr} {slT : Array (Option Value)} {nT : Nat} {tl tf tt0 tt1 tt2 tt3 tt4 tt5 tt6 tt7 tt8 tt9 tc0 tc1 tc2 tc3 : Tok}
    (aS : PySem.W.nsIn K mainGlobals "Signs" = some (some (.ref CS)))
    (aN : PySem.W.nsIn K mainGlobals "NoRow" = some (some (.ref CN)))
    (xN : PySem.W.excIn K CN bmVal "ValueError.__new__" = true)
    (aL : PySem.W.nsIn K mainGlobals "LETTERS" = some (some (.str "abcdefghijklmnopqrstuvwxyz" tl)))
    (aF : PySem.W.nsIn K mainGlobals "FIGURES" = some (some (.str "0123456789" tf)))
    (aW : PySem.W.nsIn K mainGlobals "TAKEN_WORDS" = some (some (.ref aT)))
    (lW : K.lookup aT = some ⟨.type "tuple", odT, .seq #[.str "box" tt0, .str "block" tt1, .str "put" tt2, .str "say" tt3, .str "ask" tt4, .str "go" tt5, .str "if" tt6, .str "else" tt7, .str "table" tt8, .str "stop" tt9] nT, slT⟩)
    (n0 : PySem.W.nsIn K mainGlobals "LONGEST_NAME" = some (some (.int 8 tc0)))
    (n1 : PySem.W.nsIn K mainGlobals "LONGEST_NUMBER" = some (some (.int 3 tc1)))
    (n2 : PySem.W.nsIn K mainGlobals "LONGEST_EXPRESSION" = some (some (.int 60 tc2)))
    (n3 : PySem.W.nsIn K mainGlobals "DEEPEST_BRACKET" = some (some (.int 5 tc3)))
    (a1 : PySem.W.findIn K (.ref CS) "__init__" = some (some (.ref f1)))
    (i1 : PySem.W.isFn K (.ref f1) = true)
    (l1 : K.lookup f1 = some ⟨oc1, od1, .func (PySem.W.fnOf "__init__" "Signs.__init__" (defArgs sSInit) (defBody sSInit) (defScope sSInit) .none kV1 dc1 pm1 an1 cd1 ct1), sl1⟩)
    (c1 : PySem.W.codeIn K cd1 "Signs.__init__" = true)
    (k1 : PySem.W.keepIn K (.ref f1) = true)
    (a2 : PySem.W.findIn K (.ref CS) "is_done" = some (some (.ref f2)))
    (i2 : PySem.W.isFn K (.ref f2) = true)
    (l2 : K.lookup f2 = some ⟨oc2, od2, .func (PySem.W.fnOf "is_done" "Signs.is_done" (defArgs sSDone) (defBody sSDone) (defScope sSDone) .none kV2 dc2 pm2 an2 cd2 ct2), sl2⟩)
    (c2 : PySem.W.codeIn K cd2 "Signs.is_done" = true)
    (k2 : PySem.W.keepIn K (.ref f2) = true)
    (a3 : PySem.W.findIn K (.ref CS) "stands_one_of" = some (some (.ref f3)))
    (i3 : PySem.W.isFn K (.ref f3) = true)
    (l3 : K.lookup f3 = some ⟨oc3, od3, .func (PySem.W.fnOf "stands_one_of" "Signs.stands_one_of" (defArgs sSStands) (defBody sSStands) (defScope sSStands) .none kV3 dc3 pm3 an3 cd3 ct3), sl3⟩)
    (c3 : PySem.W.codeIn K cd3 "Signs.stands_one_of" = true)
    (k3 : PySem.W.keepIn K (.ref f3) = true)
    (a4 : PySem.W.findIn K (.ref CS) "take_sign" = some (some (.ref f4)))
    (i4 : PySem.W.isFn K (.ref f4) = true)
    (l4 : K.lookup f4 = some ⟨oc4, od4, .func (PySem.W.fnOf "take_sign" "Signs.take_sign" (defArgs sSTake) (defBody sSTake) (defScope sSTake) .none kV4 dc4 pm4 an4 cd4 ct4), sl4⟩)
    (c4 : PySem.W.codeIn K cd4 "Signs.take_sign" = true)
    (k4 : PySem.W.keepIn K (.ref f4) = true)
    (a5 : PySem.W.findIn K (.ref CS) "run_of" = some (some (.ref f5)))
    (i5 : PySem.W.isFn K (.ref f5) = true)
    (l5 : K.lookup f5 = some ⟨oc5, od5, .func (PySem.W.fnOf "run_of" "Signs.run_of" (defArgs sSRun) (defBody sSRun) (defScope sSRun) .none kV5 dc5 pm5 an5 cd5 ct5), sl5⟩)
    (c5 : PySem.W.codeIn K cd5 "Signs.run_of" = true)
    (k5 : PySem.W.keepIn K (.ref f5) = true)
    (a6 : PySem.W.nsIn K mainGlobals "is_name" = some (some (.ref f6)))
    (l6 : K.lookup f6 = some ⟨oc6, od6, .func (PySem.W.fnOf "is_name" "is_name" (defArgs sIsName) (defBody sIsName) (defScope sIsName) .none kV6 dc6 pm6 an6 cd6 ct6), sl6⟩)
    (c6 : PySem.W.codeIn K cd6 "is_name" = true)
    (k6 : PySem.W.keepIn K (.ref f6) = true)
    (a7 : PySem.W.nsIn K mainGlobals "is_number" = some (some (.ref f7)))
    (l7 : K.lookup f7 = some ⟨oc7, od7, .func (PySem.W.fnOf "is_number" "is_number" (defArgs sIsNum) (defBody sIsNum) (defScope sIsNum) .none kV7 dc7 pm7 an7 cd7 ct7), sl7⟩)
    (c7 : PySem.W.codeIn K cd7 "is_number" = true)
    (k7 : PySem.W.keepIn K (.ref f7) = true)
    (a8 : PySem.W.nsIn K mainGlobals "expression" = some (some (.ref f8)))
    (l8 : K.lookup f8 = some ⟨oc8, od8, .func (PySem.W.fnOf "expression" "expression" (defArgs sExpr) (defBody sExpr) (defScope sExpr) .none kV8 dc8 pm8 an8 cd8 ct8), sl8⟩)
    (c8 : PySem.W.codeIn K cd8 "expression" = true)
    (k8 : PySem.W.keepIn K (.ref f8) = true)
    (a9 : PySem.W.nsIn K mainGlobals "read_terms" = some (some (.ref f9)))
    (l9 : K.lookup f9 = some ⟨oc9, od9, .func (PySem.W.fnOf "read_terms" "read_terms" (defArgs sTerms) (defBody sTerms) (defScope sTerms) .none kV9 dc9 pm9 an9 cd9 ct9), sl9⟩)
    (c9 : PySem.W.codeIn K cd9 "read_terms" = true)
    (k9 : PySem.W.keepIn K (.ref f9) = true)
    (a10 : PySem.W.nsIn K mainGlobals "read_factors" = some (some (.ref f10)))
    (l10 : K.lookup f10 = some ⟨oc10, od10, .func (PySem.W.fnOf "read_factors" "read_factors" (defArgs sFactors) (defBody sFactors) (defScope sFactors) .none kV10 dc10 pm10 an10 cd10 ct10), sl10⟩)
    (c10 : PySem.W.codeIn K cd10 "read_factors" = true)
    (k10 : PySem.W.keepIn K (.ref f10) = true)
    (a11 : PySem.W.nsIn K mainGlobals "read_factor" = some (some (.ref f11)))
    (l11 : K.lookup f11 = some ⟨oc11, od11, .func (PySem.W.fnOf "read_factor" "read_factor" (defArgs sFactor) (defBody sFactor) (defScope sFactor) .none kV11 dc11 pm11 an11 cd11 ct11), sl11⟩)
    (c11 : PySem.W.codeIn K cd11 "read_factor" = true)
    (k11 : PySem.W.keepIn K (.ref f11) = true)
    (a12 : PySem.W.nsIn K mainGlobals "read_bracket" = some (some (.ref f12)))
    (l12 : K.lookup f12 = some ⟨oc12, od12, .func (PySem.W.fnOf "read_bracket" "read_bracket" (defArgs sBracket) (defBody sBracket) (defScope sBracket) .none kV12 dc12 pm12 an12 cd12 ct12), sl12⟩)
    (c12 : PySem.W.codeIn K cd12 "read_bracket" = true)
    (k12 : PySem.W.keepIn K (.ref f12) = true)
    (a13 : PySem.W.nsIn K mainGlobals "worth" = some (some (.ref f13)))
    (l13 : K.lookup f13 = some ⟨oc13, od13, .func (PySem.W.fnOf "worth" "worth" (defArgs s_worth) (defBody s_worth) (defScope s_worth) .none kV13 dc13 pm13 an13 cd13 ct13), sl13⟩)
    (c13 : PySem.W.codeIn K cd13 "worth" = true)
    (k13 : PySem.W.keepIn K (.ref f13) = true)
    (a14 : PySem.W.nsIn K mainGlobals "_law_stir" = some (some (.ref f14)))
    (l14 : K.lookup f14 = some ⟨oc14, od14, .func (PySem.W.fnOf "_law_stir" "_law_stir" (defArgs s_law_stir) (defBody s_law_stir) (defScope s_law_stir) .none kV14 dc14 pm14 an14 cd14 ct14), sl14⟩)
    (c14 : PySem.W.codeIn K cd14 "_law_stir" = true)
    (k14 : PySem.W.keepIn K (.ref f14) = true)
    (a15 : PySem.W.nsIn K mainGlobals "_law_parts" = some (some (.ref f15)))
    (l15 : K.lookup f15 = some ⟨oc15, od15, .func (PySem.W.fnOf "_law_parts" "_law_parts" (defArgs s_law_parts) (defBody s_law_parts) (defScope s_law_parts) .none kV15 dc15 pm15 an15 cd15 ct15), sl15⟩)
    (c15 : PySem.W.codeIn K cd15 "_law_parts" = true)
    (k15 : PySem.W.keepIn K (.ref f15) = true)
    (a16 : PySem.W.nsIn K mainGlobals "_law_reckon" = some (some (.ref f16)))
    (l16 : K.lookup f16 = some ⟨oc16, od16, .func (PySem.W.fnOf "_law_reckon" "_law_reckon" (defArgs s_law_reckon) (defBody s_law_reckon) (defScope s_law_reckon) .none kV16 dc16 pm16 an16 cd16 ct16), sl16⟩)
    (c16 : PySem.W.codeIn K cd16 "_law_reckon" = true)
    (k16 : PySem.W.keepIn K (.ref f16) = true)
    (a17 : PySem.W.nsIn K mainGlobals "_law_due" = some (some (.ref f17)))
    (l17 : K.lookup f17 = some ⟨oc17, od17, .func (PySem.W.fnOf "_law_due" "_law_due" (defArgs s_law_due) (defBody s_law_due) (defScope s_law_due) .none kV17 dc17 pm17 an17 cd17 ct17), sl17⟩)
    (c17 : PySem.W.codeIn K cd17 "_law_due" = true)
    (k17 : PySem.W.keepIn K (.ref f17) = true)
    (a18 : PySem.W.nsIn K mainGlobals "law" = some (some (.ref f18)))
    (l18 : K.lookup f18 = some ⟨oc18, od18, .func (PySem.W.fnOf "law" "law" (defArgs sLaw) (defBody sLaw) (defScope sLaw) .none kV18 dc18 pm18 an18 cd18 ct18), sl18⟩)
    (c18 : PySem.W.codeIn K cd18 "law" = true)
    (k18 : PySem.W.keepIn K (.ref f18) = true)
    (pg : PySem.W.plainGet K CS Str.empty = true)
    (hd : PySem.W.hasDictIn K CS = true)
    (po : PySem.W.plainOver K CS = true)
    (sa : PySem.W.findIn K (.ref CS) "__setattr__" = some (some (.builtin "object.__setattr__")))
    (mk : PySem.W.makesIn K CS = true)
    (kc : PySem.W.keepIn K (.ref CS) = true)
    (nW : PySem.W.findIn K (.ref CS) "word" = some none)
    (nP : PySem.W.findIn K (.ref CS) "place" = some none)
    (z_len : PySem.W.nsIn K mainGlobals "len" = some none)
    (z_all : PySem.W.nsIn K mainGlobals "all" = some none)
    (z_int : PySem.W.nsIn K mainGlobals "int" = some none)
    (z_str : PySem.W.nsIn K mainGlobals "str" = some none)
    (z_range : PySem.W.nsIn K mainGlobals "range" = some none) :
    ∃ fd : FuncData, (∀ (s : Shared) (v : Value), BindsTo s fd ⟨[v], []⟩ [("script", v)]) ∧ ∀ base : Heap, K.In base → base.Ns mainGlobals mg → FnOk l.prog w K mg base CX0 29 fa fd ["script"] (spLaw K) := by
  have e := hfa.symm.trans (PySem.W.mg_of X G a18)
  cases e
  have y_len := PySem.W.mg_none_of X G z_len
  have y_all := PySem.W.mg_none_of X G z_all
  have y_int := PySem.W.mg_none_of X G z_int
  have y_str := PySem.W.mg_none_of X G z_str
  have y_range := PySem.W.mg_none_of X G z_range
  have T : Txt K mg CS CN := ⟨⟨pg, hd, po, sa⟩, nW, nP, PySem.W.mg_of X G aS, PySem.W.mg_of X G aN, xN, y_len, y_all, y_int, ⟨_, PySem.W.mg_of X G aL⟩, ⟨_, PySem.W.mg_of X G aF⟩, ⟨aT, PySem.W.mg_of X G aW, fun H => .inr ⟨_, _, _, lW, rfl, rfl, by show 10 ≤ sizeLine; decide, .cons ⟨_, rfl⟩ (.cons ⟨_, rfl⟩ (.cons ⟨_, rfl⟩ (.cons ⟨_, rfl⟩ (.cons ⟨_, rfl⟩ (.cons ⟨_, rfl⟩ (.cons ⟨_, rfl⟩ (.cons ⟨_, rfl⟩ (.cons ⟨_, rfl⟩ (.cons ⟨_, rfl⟩ (.nil))))))))))⟩⟩, ⟨_, PySem.W.mg_of X G n0⟩, ⟨_, PySem.W.mg_of X G n1⟩, ⟨_, PySem.W.mg_of X G n2⟩, ⟨_, PySem.W.mg_of X G n3⟩⟩
  have F_Sinit := fun_mk (st := sSInit) l1 c1 k1
  have B_Sinit := F_Sinit.binds (ps := ["self", "word"]) fun _ _ _ _ _ _ us hl => match us, hl with | [_, _], _ => rfl
  have F_Sis_done := fun_mk (st := sSDone) l2 c2 k2
  have B_Sis_done := F_Sis_done.binds (ps := ["self"]) fun _ _ _ _ _ _ us hl => match us, hl with | [_], _ => rfl
  have F_Sstands_one_of := fun_mk (st := sSStands) l3 c3 k3
  have B_Sstands_one_of := F_Sstands_one_of.binds (ps := ["self", "wanted"]) fun _ _ _ _ _ _ us hl => match us, hl with | [_, _], _ => rfl
  have F_Stake_sign := fun_mk (st := sSTake) l4 c4 k4
  have B_Stake_sign := F_Stake_sign.binds (ps := ["self"]) fun _ _ _ _ _ _ us hl => match us, hl with | [_], _ => rfl
  have F_Srun_of := fun_mk (st := sSRun) l5 c5 k5
  have B_Srun_of := F_Srun_of.binds (ps := ["self", "wanted"]) fun _ _ _ _ _ _ us hl => match us, hl with | [_, _], _ => rfl
  have F_is_name := fun_mk (st := sIsName) l6 c6 k6
  have B_is_name := F_is_name.binds (ps := ["word"]) fun _ _ _ _ _ _ us hl => match us, hl with | [_], _ => rfl
  have M_is_name := PySem.W.mg_of X G a6
  have F_is_number := fun_mk (st := sIsNum) l7 c7 k7
  have B_is_number := F_is_number.binds (ps := ["word"]) fun _ _ _ _ _ _ us hl => match us, hl with | [_], _ => rfl
  have M_is_number := PySem.W.mg_of X G a7
  have F_expression := fun_mk (st := sExpr) l8 c8 k8
  have B_expression := F_expression.binds (ps := ["word"]) fun _ _ _ _ _ _ us hl => match us, hl with | [_], _ => rfl
  have M_expression := PySem.W.mg_of X G a8
  have F_read_terms := fun_mk (st := sTerms) l9 c9 k9
  have B_read_terms := F_read_terms.binds (ps := ["signs", "depth"]) fun _ _ _ _ _ _ us hl => match us, hl with | [_, _], _ => rfl
  have M_read_terms := PySem.W.mg_of X G a9
  have F_read_factors := fun_mk (st := sFactors) l10 c10 k10
  have B_read_factors := F_read_factors.binds (ps := ["signs", "depth"]) fun _ _ _ _ _ _ us hl => match us, hl with | [_, _], _ => rfl
  have M_read_factors := PySem.W.mg_of X G a10
  have F_read_factor := fun_mk (st := sFactor) l11 c11 k11
  have B_read_factor := F_read_factor.binds (ps := ["signs", "depth"]) fun _ _ _ _ _ _ us hl => match us, hl with | [_, _], _ => rfl
  have M_read_factor := PySem.W.mg_of X G a11
  have F_read_bracket := fun_mk (st := sBracket) l12 c12 k12
  have B_read_bracket := F_read_bracket.binds (ps := ["signs", "depth"]) fun _ _ _ _ _ _ us hl => match us, hl with | [_, _], _ => rfl
  have M_read_bracket := PySem.W.mg_of X G a12
  have F_worth := fun_mk (st := s_worth) l13 c13 k13
  have B_worth := F_worth.binds (ps := ["e", "values"]) fun _ _ _ _ _ _ us hl => match us, hl with | [_, _], _ => rfl
  have M_worth := PySem.W.mg_of X G a13
  have F_law_stir := fun_mk (st := s_law_stir) l14 c14 k14
  have B_law_stir := F_law_stir.binds (ps := ["cell", "k"]) fun _ _ _ _ _ _ us hl => match us, hl with | [_, _], _ => rfl
  have M_law_stir := PySem.W.mg_of X G a14
  have F_law_parts := fun_mk (st := s_law_parts) l15 c15 k15
  have B_law_parts := F_law_parts.binds (ps := ["cell"]) fun _ _ _ _ _ _ us hl => match us, hl with | [_], _ => rfl
  have M_law_parts := PySem.W.mg_of X G a15
  have F_law_reckon := fun_mk (st := s_law_reckon) l16 c16 k16
  have B_law_reckon := F_law_reckon.binds (ps := ["numbers", "signs"]) fun _ _ _ _ _ _ us hl => match us, hl with | [_, _], _ => rfl
  have M_law_reckon := PySem.W.mg_of X G a16
  have F_law_due := fun_mk (st := s_law_due) l17 c17 k17
  have B_law_due := F_law_due.binds (ps := ["parts", "values"]) fun _ _ _ _ _ _ us hl => match us, hl with | [_, _], _ => rfl
  have M_law_due := PySem.W.mg_of X G a17
  have F_law := fun_mk (st := sLaw) l18 c18 k18
  have M_law := PySem.W.mg_of X G a18
  refine ⟨PySem.W.fnOf "law" "law" (defArgs sLaw) (defBody sLaw) (defScope sLaw) .none kV18 dc18 pm18 an18 cd18 ct18, fun s v => .of_eq rfl, fun base _ _ => ?_⟩
  have MD : CM l.prog w K mg base CX0 1 CS "is_done" _ _ ["self"] (spDone CS) := ⟨ok_done F_Sis_done T, B_Sis_done, ⟨a2, i2, k2⟩⟩
  have MS : CM l.prog w K mg base CX0 2 CS "stands_one_of" _ _ ["self", "wanted"] (spStands CS) := ⟨ok_stands F_Sstands_one_of T MD, B_Sstands_one_of, ⟨a3, i3, k3⟩⟩
  have MT : CM l.prog w K mg base CX0 1 CS "take_sign" _ _ ["self"] (spTake CS) := ⟨ok_take F_Stake_sign T, B_Stake_sign, ⟨a4, i4, k4⟩⟩
  have MR : CM l.prog w K mg base CX0 3 CS "run_of" _ _ ["self", "wanted"] (spRun CS) := ⟨ok_run F_Srun_of T MS, B_Srun_of, ⟨a5, i5, k5⟩⟩
  have CNm : CF l.prog w K mg base CX0 1 "is_name" _ _ ["word"] spName := ⟨ok_name F_is_name T, B_is_name, F_is_name.kp, M_is_name⟩
  have CNu : CF l.prog w K mg base CX0 1 "is_number" _ _ ["word"] spNum := ⟨ok_num F_is_number T, B_is_number, F_is_number.kp, M_is_number⟩
  have RT := readers T F_read_terms B_read_terms M_read_terms F_read_factors B_read_factors M_read_factors F_read_factor B_read_factor M_read_factor F_read_bracket B_read_bracket M_read_bracket MS MT MR CNm CNu 5 (by decide)
  have CE : CF l.prog w K mg base (CXx l.prog w) 28 "expression" _ _ ["word"] (spExpr CN) := ⟨ok_expr (by decide) F_expression T RT ⟨mk, a1, i1, kc⟩ (ok_sinit F_Sinit T) B_Sinit MD, B_expression, F_expression.kp, M_expression⟩
  have B_law := F_law.binds (ps := ["script"]) fun _ _ _ _ _ _ us hl => match us, hl with | [_], _ => rfl
  have C1 := ok_law_stir (P := l.prog) (w := w) (base := base) F_law_stir B_law_stir M_law_stir
  have C2 := ok_law_parts y_range y_str C1 F_law_parts B_law_parts M_law_parts
  have C3 := ok_law_reckon (P := l.prog) (w := w) (base := base) F_law_reckon B_law_reckon M_law_reckon
  have C4 := ok_law_due y_int C3 F_law_due B_law_due M_law_due
  have C5 := ok_worth (P := l.prog) (w := w) (base := base) F_worth B_worth M_worth 12
  have C6 := ok_law y_len (cg_expr CE) C2 C1 C5 C4 F_law B_law M_law
  exact law_ok C6
theorem walk {l : PySem.W.OpenLaw} {q : Program} {loose : List Str} {XP : (Str → Option Value) → Heap → Prop} {YP : World → Heap → Prop} {d : DefRec} {K : Params → PySem.W.Frag} (hn : l.most = some 63) (hdf : d.params.defaults = [])
    (hY : ∀ (w : World) (h : Heap), YP w h → (K w.params).In h)
    (F : ∀ (w : World) (mg : Str → Option Value) (fa : Addr) (h : Heap), (K w.params).In h → h.Ns mainGlobals mg → mg d.name = some (.ref fa) →
      ∃ fd : FuncData, (∀ (s : Shared) (u : Value), BindsTo s fd ⟨[u], []⟩ [("script", u)]) ∧ ∀ base : Heap, (K w.params).In base → base.Ns mainGlobals mg → FnOk l.prog w (K w.params) mg base CX0 29 fa fd ["script"] (spLaw (K w.params))) :
    PySem.W.WalkO q loose XP YP l.row.toRowW d [] (fun f vs => PySem.call f vs) :=
  L2.walk_of (n := 63) (k := 29) (x := "script") (CX := fun _ => CX0) (sp := fun w => spLaw (K w.params)) hn (by decide) hdf ⟨rfl, by decide, by decide⟩ hY F (fun _ _ a ns hl _ hS => ⟨a, ns, rfl, hS, hl, fun _ => rfl⟩) fun _ _ _ _ _ z => z
end Q
open PySem PySem.W PyProof.Rows
set_option maxRecDepth 100000 in
set_option maxHeartbeats 0 in
theorem PySem.Challenge.cw_blockfall_k05_whole_words_worth_holds : PySem.Challenge.rw_blockfall_k05_whole_words_worth.Holds := by
  w_on; o_law; k_head; (case hw => w_witness2)
  k_fill
  refine Q.walk (l := PySem.Challenge.rw_blockfall_k05_whole_words_worth) rfl rfl (fun w h Y => PySem.W.kIn_of Y) ?F
  case F =>
    intro w mg fa h KX G hmg
    refine' Q.all_mk KX G hmg ?aS ?aN ?xN ?aL ?aF ?aW ?lW ?n0 ?n1 ?n2 ?n3 ?a1 ?i1 ?l1 ?c1 ?k1 ?a2 ?i2 ?l2 ?c2 ?k2 ?a3 ?i3 ?l3 ?c3 ?k3 ?a4 ?i4 ?l4 ?c4 ?k4 ?a5 ?i5 ?l5 ?c5 ?k5 ?a6 ?l6 ?c6 ?k6 ?a7 ?l7 ?c7 ?k7 ?a8 ?l8 ?c8 ?k8 ?a9 ?l9 ?c9 ?k9 ?a10 ?l10 ?c10 ?k10 ?a11 ?l11 ?c11 ?k11 ?a12 ?l12 ?c12 ?k12 ?a13 ?l13 ?c13 ?k13 ?a14 ?l14 ?c14 ?k14 ?a15 ?l15 ?c15 ?k15 ?a16 ?l16 ?c16 ?k16 ?a17 ?l17 ?c17 ?k17 ?a18 ?l18 ?c18 ?k18 ?pg ?hd ?po ?sa ?mk ?kc ?nW ?nP ?z_len ?z_all ?z_int ?z_str ?z_range
    (case aS => k_is)
    (case aN => k_is)
    (case xN => k_exc)
    (case aL => k_is)
    (case aF => k_is)
    (case aW => k_is)
    (case lW => k_is)
    (case n0 => k_is)
    (case n1 => k_is)
    (case n2 => k_is)
    (case n3 => k_is)
    (case a1 => k_is)
    (case i1 => k_is)
    (case l1 => k_is)
    (case c1 => k_is)
    (case k1 => k_is)
    (case a2 => k_is)
    (case i2 => k_is)
    (case l2 => k_is)
    (case c2 => k_is)
    (case k2 => k_is)
    (case a3 => k_is)
    (case i3 => k_is)
    (case l3 => k_is)
    (case c3 => k_is)
    (case k3 => k_is)
    (case a4 => k_is)
    (case i4 => k_is)
    (case l4 => k_is)
    (case c4 => k_is)
    (case k4 => k_is)
    (case a5 => k_is)
    (case i5 => k_is)
    (case l5 => k_is)
    (case c5 => k_is)
    (case k5 => k_is)
    (case a6 => k_is)
    (case l6 => k_is)
    (case c6 => k_is)
    (case k6 => k_is)
    (case a7 => k_is)
    (case l7 => k_is)
    (case c7 => k_is)
    (case k7 => k_is)
    (case a8 => k_is)
    (case l8 => k_is)
    (case c8 => k_is)
    (case k8 => k_is)
    (case a9 => k_is)
    (case l9 => k_is)
    (case c9 => k_is)
    (case k9 => k_is)
    (case a10 => k_is)
    (case l10 => k_is)
    (case c10 => k_is)
    (case k10 => k_is)
    (case a11 => k_is)
    (case l11 => k_is)
    (case c11 => k_is)
    (case k11 => k_is)
    (case a12 => k_is)
    (case l12 => k_is)
    (case c12 => k_is)
    (case k12 => k_is)
    (case a13 => k_is)
    (case l13 => k_is)
    (case c13 => k_is)
    (case k13 => k_is)
    (case a14 => k_is)
    (case l14 => k_is)
    (case c14 => k_is)
    (case k14 => k_is)
    (case a15 => k_is)
    (case l15 => k_is)
    (case c15 => k_is)
    (case k15 => k_is)
    (case a16 => k_is)
    (case l16 => k_is)
    (case c16 => k_is)
    (case k16 => k_is)
    (case a17 => k_is)
    (case l17 => k_is)
    (case c17 => k_is)
    (case k17 => k_is)
    (case a18 => k_is)
    (case l18 => k_is)
    (case c18 => k_is)
    (case k18 => k_is)
    (case pg => k_is)
    (case hd => k_is)
    (case po => k_is)
    (case sa => k_is)
    (case mk => k_is)
    (case kc => k_is)
    (case nW => k_is)
    (case nP => k_is)
    (case z_len => k_is)
    (case z_all => k_is)
    (case z_int => k_is)
    (case z_str => k_is)
    (case z_range => k_is)
#print axioms PySem.Challenge.cw_blockfall_k05_whole_words_worth_holds
