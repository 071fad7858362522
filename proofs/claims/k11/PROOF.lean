import PyProof.Rows.All
import Wide.All
import OpenK.AllK
import Wide.FinOn
import Lean
import PyProof.EqAt
import PyProof.EqKinds
import PyProof.TupleCall
import PyProof.ZipIter
import PySem.Challenge.RW_blockfall_k11_one_block
set_option Elab.async false
set_option linter.all false
set_option maxRecDepth 100000
set_option maxHeartbeats 4000000
/-! THE HAND LAYER, for ints, bools, texts, own classes, LISTS and tuples (index, slices, in, append, pop ..), calls, loops. Paste it whole ahead of your own text; what your proof does not reach may be deleted. -/
namespace L2
open PySem PySem.Spec PyProof.Rows

/-- a key: an int or a str -/
abbrev Key := Sum Int Str
def keyIs : Key → Value → Bool
  | .inl k, v => Value.isInt k v
  | .inr x, v => Value.isStrOf x v
def keyH (w : World) : Key → Int
  | .inl k => hashInt k
  | .inr x => hashStr w x
theorem keyIs_shape : ∀ {k : Key} {v : Value}, keyIs k v = true → (∃ i t, k = Sum.inl i ∧ v = Value.int i t) ∨ (∃ x t, k = Sum.inr x ∧ v = Value.str x t)
  | .inl i, v, h => by
    obtain ⟨t, e⟩ := Value.isInt_shape (k := i) (v := v) h
    exact .inl ⟨i, t, rfl, e⟩
  | .inr x, v, h => by
    obtain ⟨t, e⟩ := Value.isStrOf_shape (x := x) (v := v) h
    exact .inr ⟨x, t, rfl, e⟩
theorem keyIs_int (i : Int) (t : Tok) : keyIs (.inl i) (.int i t) = true := by simp [keyIs, Value.isInt]
theorem keyIs_str (x : Str) (t : Tok) : keyIs (.inr x) (.str x t) = true := by simp [keyIs, Value.isStrOf]
theorem key_ll (a b : Int) : decide ((Sum.inl a : Key) = Sum.inl b) = (a == b) := by
  by_cases e : a = b
  · subst e; simp
  · have h : ¬ (Sum.inl a : Key) = Sum.inl b := fun q => e (Sum.inl.inj q)
    rw [decide_eq_false h]
    exact (beq_eq_false_iff_ne.mpr e).symm
theorem key_rr (a b : Str) : decide ((Sum.inr a : Key) = Sum.inr b) = decide (a = b) := by
  by_cases e : a = b
  · subst e; simp
  · have h : ¬ (Sum.inr a : Key) = Sum.inr b := fun q => e (Sum.inr.inj q)
    rw [decide_eq_false h, decide_eq_false e]
theorem key_lr (a : Int) (b : Str) : decide ((Sum.inl a : Key) = Sum.inr b) = false := decide_eq_false (fun q => nomatch q)
theorem key_rl (a : Str) (b : Int) : decide ((Sum.inr a : Key) = Sum.inl b) = false := decide_eq_false (fun q => nomatch q)

def mixKind (prog : Program) (w : World) : PySem.KeyKind prog w Key where
  is := keyIs
  hash := keyH w
  inj := fun v a b ha hb => by
    rcases keyIs_shape ha with ⟨i, t, rfl, rfl⟩ | ⟨x, t, rfl, rfl⟩
    · rcases keyIs_shape hb with ⟨j, u, rfl, e⟩ | ⟨y, u, rfl, e⟩
      · injection e with e1 _; rw [e1]
      · exact nomatch e
    · rcases keyIs_shape hb with ⟨j, u, rfl, e⟩ | ⟨y, u, rfl, e⟩
      · exact nomatch e
      · injection e with e1 _; rw [e1]
  byValue := fun k v h => by
    rcases keyIs_shape h with ⟨i, t, rfl, rfl⟩ | ⟨x, t, rfl, rfl⟩ <;> rfl
  pyHash := fun hv h => by
    rcases keyIs_shape hv with ⟨i, t, rfl, rfl⟩ | ⟨x, t, rfl, rfl⟩
    · exact wpAny_pyHash_int h
    · exact wpAny_pyHash_str h
  eqBool := fun hu hv h => by
    rcases keyIs_shape hu with ⟨i, t, rfl, rfl⟩ | ⟨x, t, rfl, rfl⟩
    · rcases keyIs_shape hv with ⟨j, u, rfl, rfl⟩ | ⟨y, u, rfl, rfl⟩
      · rw [key_ll] at h; exact wpAny_eqBool_int h
      · rw [key_lr] at h; exact SeqAt.EqAt.int_str i t y u _ _ _ _ h
    · rcases keyIs_shape hv with ⟨j, u, rfl, rfl⟩ | ⟨y, u, rfl, rfl⟩
      · rw [key_rl] at h; exact SeqAt.EqAt.str_int x t j u _ _ _ _ h
      · rw [key_rr] at h; exact wpAny_eqBool_str h
  «strs» := fun k x t v h => by
    rcases keyIs_shape h with ⟨i, u, rfl, e⟩ | ⟨y, u, rfl, e⟩
    · exact nomatch e
    · injection e with e1 _
      subst e1
      cases v <;> rfl

theorem mixKind_int (prog : Program) (w : World) (i : Int) (t : Tok) : (mixKind prog w).is (.inl i) (.int i t) = true := keyIs_int i t
theorem mixKind_str (prog : Program) (w : World) (x : Str) (t : Tok) : (mixKind prog w).is (.inr x) (.str x t) = true := keyIs_str x t
end L2

namespace L2
open PySem PySem.Spec PyProof.Rows

/-- a value, without the heap -/
inductive V where
  | non | bl (b : Bool) | int (i : Int) | str (x : Str) | byt (b : Array UInt8) | flt (b : UInt64) | ref (a : Addr) | ty (n : String)
  deriving DecidableEq

def RelV : V → Value → Prop
  | .non, u => u = Value.none
  | .bl b, u => u = Value.bool b
  | .int i, u => ∃ t, u = Value.int i t
  | .str x, u => ∃ t, u = Value.str x t
  | .byt b, u => ∃ t, u = Value.bytes b t
  | .flt b, u => ∃ t, u = Value.float b t
  | .ref a, u => u = Value.ref a
  | .ty n, u => u = Value.type n

abbrev Vals : List V → List Value → Prop := Paired RelV
theorem Vals.length {xs : List V} {us : List Value} (r : Vals xs us) : xs.length = us.length := Paired.length r
theorem Vals.get : ∀ {xs : List V} {us : List Value} {i : Nat} {x : V}, Vals xs us → xs[i]? = some x → ∃ u, us[i]? = some u ∧ RelV x u
  | _, _, _, _, .nil, e => by simp at e
  | _, _, 0, _, .cons r _, e => by simp at e; subst e; exact ⟨_, rfl, r⟩
  | _, _, i + 1, x, .cons _ t, e => by
    obtain ⟨u, h1, h2⟩ := Vals.get (i := i) (x := x) t (by simpa using e)
    exact ⟨u, by simpa using h1, h2⟩
theorem Vals.set {x : V} {u : Value} (r : RelV x u) : ∀ {xs : List V} {us : List Value} (i : Nat), Vals xs us → Vals (xs.set i x) (us.set i u)
  | _, _, _, .nil => .nil
  | _, _, 0, .cons _ t => .cons r t
  | _, _, i + 1, .cons q t => .cons q (Vals.set r i t)
theorem Vals.append : ∀ {xs ys : List V} {us ws : List Value}, Vals xs us → Vals ys ws → Vals (xs ++ ys) (us ++ ws)
  | _, _, _, _, .nil, s => s
  | _, _, _, _, .cons r t, s => .cons r (Vals.append t s)
theorem Vals.take : ∀ {xs : List V} {us : List Value} (n : Nat), Vals xs us → Vals (xs.take n) (us.take n)
  | _, _, 0, _ => .nil
  | _, _, _ + 1, .nil => .nil
  | _, _, n + 1, .cons r t => .cons r (Vals.take n t)
theorem Vals.drop : ∀ {xs : List V} {us : List Value} (n : Nat), Vals xs us → Vals (xs.drop n) (us.drop n)
  | _, _, 0, r => r
  | _, _, _ + 1, .nil => .nil
  | _, _, n + 1, .cons _ t => Vals.drop n t
def RelO : Option V → Option Value → Prop
  | some v, some u => RelV v u
  | none, none => True
  | _, _ => False
def KV {κ : Type} : List (κ × V) → List (κ × Value) → Prop := Paired fun (p : κ × V) (q : κ × Value) => p.1 = q.1 ∧ RelV p.2 q.2

/-- a key of a dict (00_mix): an int or a text -/
def kV : Key → V
  | .inl i => .int i
  | .inr x => .str x

/-- what stands at a tracked address -/
inductive HO where
  /-- a list -/
  | lst (xs : List V)
  /-- a tuple (never changes) -/
  | tup (xs : List V)
  /-- a dict whose keys are ints and texts; one whose keys are tuples of ints and texts (the empty one is both) -/
  | dK (kvs : List (Key × V)) | dT (kvs : List (List Key × V))
  /-- a set of ints: its members, its size -/
  | set (S : Int → Bool) (n : Nat)
  /-- an instance of the class at C, its dict at dx, its attributes -/
  | ins (C dx : Addr) (fs : List (Str × V))
  /-- the dict of the instance at x -/
  | own (x : Addr)
  /-- the dict of an exception -/
  | xd (fs : List (Str × V))
  /-- a bound method, f of x -/
  | met (f x : Addr)
  /-- a range object lo, lo + 1, .. below hi -/
  | rng (lo hi : Int)
  /-- a thing that is known to the object (the script; a dict while a loop walks it): read, never written while it is so -/
  | frz (o : Obj) (u : HO)
  /-- a code object's table -/
  | tbl (ps : Array Value)
  /-- any other thing, by what is true of its one object (a def of one's own: SetO a S n := HO.ext fun h => ..) -/
  | ext (φ : Heap → Prop)

abbrev Hp := Addr → Option HO
def upd (H : Hp) (a : Addr) (o : HO) : Hp := fun b => if b = a then some o else H b
theorem upd_same {H : Hp} {a : Addr} {o : HO} : upd H a o a = some o := by unfold upd; rw [if_pos rfl]
theorem upd_ne {H : Hp} {a b : Addr} {o : HO} (h : b ≠ a) : upd H a o b = H b := by unfold upd; rw [if_neg h]
/-- two objects of different content stand apart -/
theorem ne_of {H : Hp} {a b : Addr} {o u : HO} (h : H a = some o) (h' : H b = some u) (d : o ≠ u) : a ≠ b := by
  intro e; subst e; rw [h] at h'; exact d (Option.some.inj h')
theorem ne_of_none {H : Hp} {a b : Addr} {o : HO} (h : H a = some o) (h' : H b = none) : a ≠ b := by
  intro e; subst e; rw [h] at h'; cases h'

/-- a tuple without names of its own -/
def IsTupD (h : Heap) (a : Addr) (its : Array Value) : Prop := IsTup h a its ∧ ∃ o, h.get? a = some o ∧ o.dict = none
theorem IsTupD.new (h : Heap) (its : Array Value) : IsTupD (h.push { cls := .type "tuple", data := .seq its }) h.objs.size its := ⟨IsTup.new _ _, _, Heap.get?_push_size _ rfl, rfl⟩
section
variable (P : Program) (w : World)
def ObjOk (H : Hp) (h : Heap) (a : Addr) : HO → Prop
  | .lst xs => xs.length ≤ sizeLine ∧ ∃ (its : List Value) (n : Nat), Vals xs its ∧ h.get? a = some { cls := .type "list", data := .seq its.toArray n }
  | .tup xs => xs.length ≤ sizeLine ∧ ∃ its : List Value, Vals xs its ∧ IsTupD h a its.toArray
  | .dK kvs => kvs.length ≤ sizeLine ∧ (a == sysModules) = false ∧ ∃ vs, KV kvs vs ∧ h.DictOf (mixKind P w) a vs
  | .dT kvs => kvs.length ≤ sizeLine ∧ (a == sysModules) = false ∧ ∃ xs : List (List Key × Addr × Value),
      Paired (fun (p : List Key × V) (q : List Key × Addr × Value) => p.1 = q.1 ∧ H q.2.1 = some (.tup (p.1.map kV)) ∧ RelV p.2 q.2.2) kvs xs ∧
      ∃ o es ep, h.get? a = some o ∧ o.ExactDict ∧ o.data = .dict es ep ∧ es.toList = xs.map (entryOfKey (tupleKind (mixKind P w))) ∧ (xs.map (·.1)).Nodup
  | .set S n => h.SetOf (intKind P w) a S n
  | .ins C dx fs => H dx = some (.own a) ∧ fs.length ≤ 1000 ∧ dx ≠ a ∧ h.get? a = some (PySem.W.instObj C dx) ∧
      ∃ mA, h.Ns1 dx mA ∧ (∀ f, RelO (fs.lookup f) (mA f)) ∧ PySem.Within mA (fs.map (·.1))
  | .own _ => ∃ o, h.get? a = some o
  | .xd fs => ∃ mA, h.Ns1 a mA ∧ ∀ f, RelO (fs.lookup f) (mA f)
  | .rng lo hi => ∃ t u v, h.get? a = some { cls := .type "range", data := .fields #[.int lo t, .int hi u, .int 1 v] }
  | .frz o u => h.get? a = some o ∧ ObjOk H h a u
  | .tbl ps => h.get? a = some { cls := .none, data := .fields ps }
  | .met f x => h.get? a = some (PySem.W.methodObj (.ref f) (.ref x))
  | .ext φ => φ h ∧ (∃ o, h.get? a = some o) ∧ ∀ h1 h2 : Heap, φ h1 → (∀ o, h1.get? a = some o → h2.get? a = some o) → φ h2
/-- the abstract heap is held -/
def HOk (H : Hp) (h : Heap) : Prop := ∀ a o, H a = some o → ObjOk P w H h a o
end

section
variable {P : Program} {w : World} {H H' : Hp} {h h' : Heap} {a : Addr} {o : HO}
theorem ObjOk.lt (x : ObjOk P w H h a o) : a < h.objs.size := by
  cases o with
  | lst xs => obtain ⟨_, _, _, _, e⟩ := x; exact Heap.lt_size e
  | tup xs => obtain ⟨_, _, _, p⟩ := x; exact p.1.lt
  | dK kvs => obtain ⟨_, _, _, _, o, _, _, e, _⟩ := x; exact Heap.lt_size e
  | dT kvs => obtain ⟨_, _, _, _, o, _, _, e, _⟩ := x; exact Heap.lt_size e
  | set S n => obtain ⟨o, _, _, _, e, _⟩ := x; exact Heap.lt_size e
  | ins C dx fs => obtain ⟨_, _, _, e, _⟩ := x; exact Heap.lt_size e
  | own y => obtain ⟨_, e⟩ := x; exact Heap.lt_size e
  | xd fs => obtain ⟨_, ⟨_, _, _, e, _⟩, _⟩ := x; exact Heap.lt_size e
  | rng lo hi => obtain ⟨_, _, _, e⟩ := x; exact Heap.lt_size e
  | frz ob u => obtain ⟨e, _⟩ := x; exact Heap.lt_size e
  | tbl ps => exact Heap.lt_size (show h.get? a = some _ from x)
  | met f y => exact Heap.lt_size (show h.get? a = some _ from x)
  | ext φ => obtain ⟨_, ⟨_, e⟩, _⟩ := x; exact Heap.lt_size e
theorem Paired.mapP {α β : Type} {F G : α → β → Prop} : ∀ {l₁ : List α} {l₂ : List β}, Paired F l₁ l₂ → (∀ a b, F a b → G a b) → Paired G l₁ l₂
  | _, _, .nil, _ => .nil
  | _, _, .cons r t, f => .cons (f _ _ r) (Paired.mapP t f)
/-- what an object's description leans on: its own object, its own dict, the tuples -/
theorem ObjOk.stay (x : ObjOk P w H h a o) (k : ∀ b u, (b = a ∨ H b = some (.own a)) → h.get? b = some u → h'.get? b = some u)
    (ho : ∀ b, H b = some (.own a) → H' b = some (.own a)) (ht : ∀ b xs, H b = some (.tup xs) → H' b = some (.tup xs)) : ObjOk P w H' h' a o := by
  induction o with
  | lst xs => obtain ⟨z, its, n, r, e⟩ := x; exact ⟨z, its, n, r, k _ _ (.inl rfl) e⟩
  | tup xs => obtain ⟨z, its, r, ⟨ob, e, c⟩, o2, e2, c2⟩ := x; exact ⟨z, its, r, ⟨ob, k _ _ (.inl rfl) e, c⟩, o2, k _ _ (.inl rfl) e2, c2⟩
  | dK kvs => obtain ⟨z, y, vs, r, ob, es, ep, e, c⟩ := x; exact ⟨z, y, vs, r, ob, es, ep, k _ _ (.inl rfl) e, c⟩
  | dT kvs =>
    obtain ⟨z, y, xs, r, ob, es, ep, e, c⟩ := x
    exact ⟨z, y, xs, Paired.mapP r fun p q z => ⟨z.1, ht _ _ z.2.1, z.2.2⟩, ob, es, ep, k _ _ (.inl rfl) e, c⟩
  | set S n => obtain ⟨ob, es, ep, t, e, c⟩ := x; exact ⟨ob, es, ep, t, k _ _ (.inl rfl) e, c⟩
  | ins C dx fs =>
    obtain ⟨d, z, ne, e, mA, ⟨od, es, ep, e2, c⟩, r⟩ := x
    exact ⟨ho _ d, z, ne, k _ _ (.inl rfl) e, mA, ⟨od, es, ep, k _ _ (.inr d) e2, c⟩, r⟩
  | own y => obtain ⟨ob, e⟩ := x; exact ⟨ob, k _ _ (.inl rfl) e⟩
  | xd fs => obtain ⟨mA, ⟨od, es, ep, e, c⟩, r⟩ := x; exact ⟨mA, ⟨od, es, ep, k _ _ (.inl rfl) e, c⟩, r⟩
  | rng lo hi => obtain ⟨t, u, v, e⟩ := x; exact ⟨t, u, v, k _ _ (.inl rfl) e⟩
  | frz ob u ih => obtain ⟨e, q⟩ := x; exact ⟨k _ _ (.inl rfl) e, ih q⟩
  | tbl ps =>
    have e : h.get? a = some { cls := .none, data := .fields ps } := x
    show h'.get? a = some { cls := .none, data := .fields ps }
    exact k a _ (.inl rfl) e
  | met f y =>
    have e : h.get? a = some (PySem.W.methodObj (.ref f) (.ref y)) := x
    show h'.get? a = some (PySem.W.methodObj (.ref f) (.ref y))
    exact k a _ (.inl rfl) e
  | ext φ => obtain ⟨p, ⟨o, e⟩, st⟩ := x; exact ⟨st _ _ p fun o q => k _ _ (.inl rfl) q, ⟨o, k _ _ (.inl rfl) e⟩, st⟩
theorem HOk.lt (x : HOk P w H h) (e : H a = some o) : a < h.objs.size := (x a o e).lt
theorem HOk.fresh (x : HOk P w H h) (e : h.objs.size ≤ a) : H a = none := by
  cases q : H a with
  | none => rfl
  | some u => exact absurd (Nat.lt_of_lt_of_le (x.lt q) e) (Nat.lt_irrefl _)
/-- every object of the heap is kept -/
theorem HOk.kept (x : HOk P w H h) (k : ∀ b u, h.get? b = some u → h'.get? b = some u) : HOk P w H h' := fun a o e =>
  (x a o e).stay (fun b u _ q => k b u q) (fun _ q => q) fun _ _ q => q
/-- a new object is laid and tracked -/
theorem HOk.laid (x : HOk P w H h) (k : ∀ b u, h.get? b = some u → h'.get? b = some u) (hp : h.objs.size ≤ a) (new : ObjOk P w (upd H a o) h' a o) : HOk P w (upd H a o) h' := fun b u e => by
  have hn := x.fresh hp
  by_cases hb : b = a
  · subst hb; rw [upd_same] at e; cases e; exact new
  · rw [upd_ne hb] at e
    exact (x b u e).stay (fun c v _ q => k c v q) (fun c q => by rw [upd_ne (ne_of_none q hn)]; exact q) fun c xs q => by rw [upd_ne (ne_of_none q hn)]; exact q
end

/-- what may be read as u: it is u, or a known u -/
def Rd (H : Hp) (a : Addr) (u : HO) : Prop := H a = some u ∨ ∃ o, H a = some (.frz o u)
theorem Rd.ok {P : Program} {w : World} {H : Hp} {h : Heap} {a : Addr} {u : HO} (r : Rd H a u) (x : HOk P w H h) : ObjOk P w H h a u := by
  rcases r with r | ⟨o, r⟩
  · exact x a u r
  · obtain ⟨_, q⟩ := x a _ r
    exact q
/-- what may be written -/
def Mut : Option HO → Prop
  | some (.lst _) => True
  | some (.dK _) => True
  | some (.dT _) => True
  | some (.set _ _) => True
  | some (.ins _ _ _) => True
  | some (.ext _) => True
  | _ => False
section
variable {P : Program} {w : World} {H : Hp} {h h' : Heap} {x e : Addr} {o' : HO}
/-- the object at e is changed: x itself, or the dict of the instance x -/
theorem HOk.write (ok : HOk P w H h) (mu : Mut (H x)) (he : e = x ∨ H e = some (.own x)) (k : ∀ b u, b ≠ e → h.get? b = some u → h'.get? b = some u) (heo : ∃ u, h'.get? e = some u)
    (new : ObjOk P w (upd H x o') h' x o') : HOk P w (upd H x o') h' := fun b u q => by
  have nown : ∀ c y, H c = some (.own y) → c ≠ x := fun c y r z => by subst z; rw [r] at mu; exact mu
  have ntup : ∀ c xs, H c = some (.tup xs) → c ≠ x := fun c xs r z => by subst z; rw [r] at mu; exact mu
  by_cases hb : b = x
  · subst hb; rw [upd_same] at q; cases q; exact new
  · rw [upd_ne hb] at q
    by_cases hbe : b = e
    · have q' : H b = some (.own x) := by
        rcases he with z | z
        · exact absurd (hbe.trans z) hb
        · rw [hbe]; exact z
      rw [q] at q'; cases q'
      obtain ⟨v, hv⟩ := heo
      exact ⟨v, by rw [hbe]; exact hv⟩
    · refine (ok b u q).stay (fun c v hc r => k c v ?_ r) (fun c r => by rw [upd_ne (nown c b r)]; exact r) fun c xs r => by rw [upd_ne (ntup c xs r)]; exact r
      rcases hc with rfl | hc
      · exact hbe
      · rintro rfl
        rcases he with z | z
        · exact nown c b hc z
        · rw [hc] at z; cases z; exact hb rfl
end

/-! ### kept unless tracked; of the frames at fs (the callers') the slots may change (an exception that passes writes there); of the records at ex (iterators) nothing is said -/
structure Un (fs ex : List Addr) (H H' : Hp) (h h' : Heap) : Prop where
  keep : ∀ b o, h.get? b = some o → H b = none → b ∉ fs → b ∉ ex → h'.get? b = some o
  slot : ∀ b o, h.get? b = some o → H b = none → b ∈ fs → b ∉ ex → ∃ sl, h'.get? b = some { o with slots := sl }
  free : ∀ b o, h.get? b = some o → H b = none → b ∉ ex → H' b = none
  there : ∀ b o, h.get? b = some o → b ∉ ex → ∃ o', h'.get? b = some o'
  tups : ∀ b xs, H b = some (.tup xs) → H' b = some (.tup xs)
  frzs : ∀ b o u, H b = some (.frz o u) → H' b = some (.frz o u)
  tbls : ∀ b ps, H b = some (.tbl ps) → ∃ more, H' b = some (.tbl (ps ++ more))
section
variable {fs fs' ex ex' : List Addr} {H H1 H2 : Hp} {h h1 h2 h' : Heap} {a x e : Addr} {o : HO}
theorem Un.any (u : Un fs ex H H1 h h1) {b : Addr} {ob : Obj} (q : h.get? b = some ob) (n : H b = none) (hx : b ∉ ex) : ∃ sl, h1.get? b = some { ob with slots := sl } := by
  by_cases hb : b ∈ fs
  · exact u.slot b ob q n hb hx
  · exact ⟨ob.slots, u.keep b ob q n hb hx⟩
theorem Un.kept (k : ∀ b u, h.get? b = some u → h'.get? b = some u) : Un fs ex H H h h' :=
  ⟨fun b ob q _ _ _ => k b ob q, fun b ob q _ _ _ => ⟨ob.slots, k b ob q⟩, fun _ _ _ n _ => n, fun b ob q _ => ⟨ob, k b ob q⟩, fun _ _ q => q, fun _ _ _ q => q, fun _ ps q => ⟨#[], by rw [q]; simp⟩⟩
theorem Un.refl : Un fs ex H H h h := Un.kept fun _ _ q => q
theorem Un.laid (k : ∀ b u, h.get? b = some u → h'.get? b = some u) (hp : h.objs.size ≤ a) (hn : H a = none) : Un fs ex H (upd H a o) h h' where
  keep := fun b u q _ _ _ => k b u q
  slot := fun b u q _ _ _ => ⟨u.slots, k b u q⟩
  free := fun b u q n _ => by rw [upd_ne (Nat.ne_of_lt (Nat.lt_of_lt_of_le (Heap.lt_size q) hp))]; exact n
  there := fun b u q _ => ⟨u, k b u q⟩
  tups := fun b xs q => by rw [upd_ne (ne_of_none q hn)]; exact q
  frzs := fun b u xs q => by rw [upd_ne (ne_of_none q hn)]; exact q
  tbls := fun b ps q => ⟨#[], by rw [upd_ne (ne_of_none q hn), q]; simp⟩
theorem Un.write (mu : Mut (H x)) (he : e = x ∨ H e = some (.own x)) (k : ∀ b u, b ≠ e → h.get? b = some u → h'.get? b = some u) (heo : ∃ u, h'.get? e = some u) : Un fs ex H (upd H x o) h h' := by
  have hx : ∀ b, H b = none → b ≠ x := fun b n z => by subst z; rw [n] at mu; exact mu
  have hb : ∀ b, H b = none → b ≠ e := fun b n z => by
    subst z
    rcases he with r | r
    · exact hx b n r
    · rw [n] at r; cases r
  have hm : ∀ b u, H b = some u → ¬ Mut (some u) → b ≠ x := fun b u q nm z => by subst z; rw [q] at mu; exact nm mu
  refine ⟨fun b u q n _ _ => k b u (hb b n) q, fun b u q n _ _ => ⟨u.slots, k b u (hb b n) q⟩, fun b u q n _ => by rw [upd_ne (hx b n)]; exact n, fun b u q _ => ?_,
    fun b xs q => by rw [upd_ne (hm b _ q fun z => z)]; exact q, fun b u xs q => by rw [upd_ne (hm b _ q fun z => z)]; exact q, fun b ps q => ⟨#[], by rw [upd_ne (hm b _ q fun z => z), q]; simp⟩⟩
  by_cases hbe : b = e
  · subst hbe; exact heo
  · exact ⟨u, k b u hbe q⟩
end

/-! ### the heap without what is tracked -/
def trk (h : Heap) (H : Hp) : List Addr := (List.range h.objs.size).filter fun a => (H a).isSome
def hidT (h : Heap) (H : Hp) : Heap := PySem.W.hideAll h (trk h H)
theorem hidT_size (h : Heap) (H : Hp) : (hidT h H).objs.size = h.objs.size := PySem.W.hideAll_size _ _
theorem hidT_get {h : Heap} {H : Hp} {b : Addr} {o : Obj} (e : h.get? b = some o) (n : H b = none) : (hidT h H).get? b = some o :=
  PySem.W.hideAll_get _ e fun hm => by
    have q : (H b).isSome = true := (List.mem_filter.mp hm).2
    rw [n] at q; simp at q
theorem of_hidT {h : Heap} {H : Hp} {b : Addr} {o : Obj} (e : (hidT h H).get? b = some o) : h.get? b = some o ∧ H b = none := by
  have e' : h.get? b = some o := PySem.W.of_hideAll (trk h H) e
  refine ⟨e', ?_⟩
  cases q : H b with
  | none => rfl
  | some x =>
    have hm : b ∈ trk h H := List.mem_filter.mpr ⟨List.mem_range.mpr (Heap.lt_size e'), by simp [q]⟩
    have z : (hidT h H).get? b = none := PySem.W.hideAll_none (trk h H) hm
    rw [z] at e; cases e

/-! ### OpenK's ledger, filled with every new object but one -/
def allNews (g h : Heap) (L : Addr) : List (Addr × Obj) := (List.range h.objs.size).filterMap fun a => if a = L ∨ (g.get? a).isSome = true then none else (h.get? a).map fun o => (a, o)
def rest (g h : Heap) (L d : Addr) : List (Addr × Obj) := (allNews g h L).filter fun p => decide (p.1 ≠ d)
end L2

namespace L2
open PySem PySem.Spec PyProof.Rows

/-- the module's facts, over the base: the heap at the law's entry without what is tracked there -/
structure Mod (K : PySem.W.Frag) (mg : Str → Option Value) (base : Heap) : Prop where
  kin : K.In base
  glob : base.Ns mainGlobals mg
  blt : ∃ mb, base.Ns builtinsNs mb ∧ ∀ x : Str, x ≠ "__name__" → mb x = bootBuiltins x
  nolimit : base.NoLimit

/-- the context: a def's body (or a comprehension's block) running. base: fixed through the whole law; s₀, H₀: the entry; outer: the frames whose slots others may change (a def's callers); stack: all frames that run;
   ex: iterators that were made ahead of the entry and are walked here (a comprehension's); fn: the names whose cells were made at the entry (a def: all; a comprehension's block: its own); calm: not within an except suite; pn: pins that every state bears; xe: what is wanted of an exception that leaves the code -/
structure Cx where
  prog : Program
  w : World
  K : PySem.W.Frag
  mg : Str → Option Value
  base : Heap
  A : Around
  N : List Str
  s₀ : Shared
  H₀ : Hp
  env : Env
  outer : List Env
  stack : List Env
  ex : List Addr
  fn : Str → Bool
  calm : Bool
  pn : List (Addr × Obj)
  xe : Value → Shared → Prop
/-- the callers' frames -/
def frs (l : List Env) : List Addr := l.filterMap (·.frame)
abbrev Cx.fs (X : Cx) : List Addr := frs X.outer

def Vis (sc : Scope) (x : Str) : Prop := sc.names.lookup x = some .local ∨ sc.names.lookup x = some .cell ∨ sc.names.lookup x = some .free
def Loc (sc : Scope) (x : Str) : Prop := sc.names.lookup x = some .local ∨ sc.names.lookup x = some .cell
def Look (env : Env) (h : Heap) (m : Str → Option Value) (x : Str) (u : Value) : Prop :=
  (env.kindOf x = some .local ∧ m x = some u) ∨ ((env.kindOf x = some .cell ∨ env.kindOf x = some .free) ∧ ∃ c, env.cells.lookup x = some c ∧ h.IsCell c (some u))

structure Cx.Ok (X : Cx) : Prop where
  mod : Mod X.K X.mg X.base
  kind : X.env.scope.kind = .function
  glob : X.env.globals = mainGlobals
  blt : X.env.builtins = builtinsNs
  above : X.s₀.heap.objs.size ≤ X.env.locals
  inj : ∀ x y c, X.env.cells.lookup x = some c → X.env.cells.lookup y = some c → x = y
  has : ∀ x, (X.env.kindOf x = some .cell ∨ X.env.kindOf x = some .free) → ∃ c, X.env.cells.lookup x = some c
  cab : ∀ x c, X.fn x = true → X.env.cells.lookup x = some c → X.s₀.heap.objs.size ≤ c
  hd : X.calm = true → X.A.handled = none
  frames : X.A.frames = some X.stack
  stk : X.stack = X.outer ∨ (X.stack = X.env :: X.outer ∧ X.env.frame = some X.env.locals)
  exf : ∀ b ∈ X.ex, b ≠ X.env.locals ∧ ∀ x c, X.env.cells.lookup x = some c → c ≠ b
  bs : ∀ b o, X.base.get? b = some o → X.s₀.heap.get? b = some o ∧ X.H₀ b = none
  bsz : X.base.objs.size ≤ X.s₀.heap.objs.size
  noex : ∀ b o, X.base.get? b = some o → b ∉ X.ex
  exfs : ∀ b ∈ X.ex, b ∉ X.fs
  funs : X.s₀.heap.FunFrames X.base X.outer
  frf : ∀ b ∈ X.fs, X.H₀ b = none

structure Inv (X : Cx) (pins : List (Addr × Obj)) (σ : List (Option V)) (H : Hp) (s : Shared) : Prop where
  ok : X.Ok
  os : s.os = X.s₀.os
  bare : AllBare s.gens
  base : Un X.fs X.ex X.H₀ H X.s₀.heap s.heap
  loc : ∃ m, s.heap.Ns X.env.locals m ∧ ∀ (i : Nat) (x : Str) (v : V), X.N[i]? = some x → σ[i]? = some (some v) → Vis X.env.scope x → ∃ u, RelV v u ∧ Look X.env s.heap m x u
  cell : ∀ x c, X.env.cells.lookup x = some c → ∃ v, s.heap.IsCell c v
  free : H X.env.locals = none
  freeC : ∀ x c, X.env.cells.lookup x = some c → H c = none
  pin : ∀ p ∈ X.pn ++ pins, s.heap.get? p.1 = some p.2 ∧ H p.1 = none ∧ p.1 ≠ X.env.locals ∧ p.1 ∉ X.fs ∧ ∀ v, p.2.data ≠ .cell v
  hok : HOk X.prog X.w H s.heap
  len : σ.length = X.N.length

section
variable {X : Cx} {pins : List (Addr × Obj)} {σ : List (Option V)} {H H' : Hp} {s : Shared} {h' : Heap}

theorem Cx.Ok.nofr (ok : X.Ok) {b : Addr} {o : Obj} (e : X.base.get? b = some o) : b ∉ X.fs := fun hb => by
  have := (ok.funs.mem hb).1
  rw [e] at this; cases this
theorem Inv.bs (I : Inv X pins σ H s) : ∀ b o, X.base.get? b = some o → s.heap.get? b = some o ∧ H b = none := fun b o e =>
  ⟨I.base.keep b o (I.ok.bs b o e).1 (I.ok.bs b o e).2 (I.ok.nofr e) (I.ok.noex b o e), I.base.free b o (I.ok.bs b o e).1 (I.ok.bs b o e).2 (I.ok.noex b o e)⟩
theorem Inv.bk (I : Inv X pins σ H s) : ∀ b o, X.base.get? b = some o → s.heap.get? b = some o := fun b o e => (I.bs b o e).1
theorem Inv.mod (I : Inv X pins σ H s) : Mod X.K X.mg X.base := I.ok.mod
theorem Inv.kIn (I : Inv X pins σ H s) : X.K.In s.heap := I.ok.mod.kin.keeps I.bk
/-- the frame over the base: for OpenK's rules (K.In X.base is I.mod.kin) -/
theorem Inv.fr (I : Inv X pins σ H s) : ∃ m, Fr X.base X.env.locals s.heap m :=
  let ⟨m, hn, _⟩ := I.loc
  ⟨m, hn, I.bk, Nat.le_trans I.ok.bsz I.ok.above⟩
theorem Inv.lt (I : Inv X pins σ H s) : X.env.locals < s.heap.objs.size := let ⟨_, hn, _⟩ := I.loc; hn.lt
theorem Inv.sz (I : Inv X pins σ H s) : X.s₀.heap.objs.size ≤ s.heap.objs.size := Nat.le_trans I.ok.above (Nat.le_of_lt I.lt)
theorem Inv.nofs (I : Inv X pins σ H s) {a : Addr} (h : s.heap.objs.size ≤ a) : a ∉ X.fs := fun hb => by
  obtain ⟨_, o, ho, _⟩ := I.ok.funs.mem hb
  exact absurd (Nat.lt_of_lt_of_le (Heap.lt_size ho) (Nat.le_trans I.sz h)) (Nat.lt_irrefl _)
theorem Inv.cne (I : Inv X pins σ H s) : ∀ x c, X.env.cells.lookup x = some c → c ≠ X.env.locals := fun x c e z => by
  obtain ⟨v, o, ho, hd⟩ := I.cell x c e
  obtain ⟨m, ⟨o', es, ep, ho', hd', _⟩, _⟩ := I.loc
  rw [z, ho'] at ho; cases ho; rw [hd'] at hd; cases hd
theorem Inv.funs (I : Inv X pins σ H s) : s.heap.FunFrames X.base X.outer := by
  have all : ∀ (l : List Env), (∀ b ∈ frs l, b ∈ X.fs) → X.s₀.heap.FunFrames X.base l → s.heap.FunFrames X.base l := by
    intro l
    induction l with
    | nil => intro _ _; trivial
    | cons env r ih =>
      intro hs hl
      obtain ⟨hk, ⟨L, o, hf, hn, ho, hd⟩, hr⟩ := hl
      have hL : L ∈ X.fs := hs L (by unfold frs; rw [List.filterMap_cons, hf]; exact List.mem_cons_self)
      obtain ⟨sl, e⟩ := I.base.slot L o ho (I.ok.frf L hL) hL fun z => I.ok.exfs L z hL
      exact ⟨hk, ⟨L, _, hf, hn, e, hd⟩, ih (fun b hb => hs b (by unfold frs; rw [List.filterMap_cons, hf]; exact List.mem_cons_of_mem _ hb)) hr⟩
  exact all X.outer (fun _ hb => hb) I.ok.funs

/-- the frames that run, for a call -/
theorem Inv.stack (I : Inv X pins σ H s) : s.heap.FunFrames X.base X.stack := by
  rcases I.ok.stk with e | ⟨e, hf⟩
  · rw [e]; exact I.funs
  · rw [e]
    obtain ⟨m, hn, _⟩ := I.loc
    refine .cons (by rw [I.ok.kind]; decide) hf hn ?_ I.funs
    exact Heap.get?_none_of_le (Nat.le_trans I.ok.bsz I.ok.above)
theorem Inv.stkSub (I : Inv X pins σ H s) : ∀ b ∈ frs X.stack, b ∈ X.env.locals :: X.fs := fun b hb => by
  rcases I.ok.stk with e | ⟨e, hf⟩
  · rw [e] at hb; exact List.mem_cons_of_mem _ hb
  · rw [e] at hb
    unfold frs at hb
    rw [List.filterMap_cons, hf] at hb
    exact hb
theorem Inv.stkFree (I : Inv X pins σ H s) : ∀ b ∈ frs X.stack, H b = none := fun b hb => by
  rcases List.mem_cons.mp (I.stkSub b hb) with e | hb
  · rw [e]; exact I.free
  · obtain ⟨_, o, ho, _⟩ := I.ok.funs.mem hb
    exact I.base.free b o ho (I.ok.frf b hb) fun z => I.ok.exfs b z hb

/-- THE STEP: the untracked objects but the frame and the records at ch are kept (the callers' frames up to slots), the frame's map is kept, the new abstract heap is held -/
theorem Inv.step {g' : Array GenState} {t' : Nat} {d' : Drawn} {ch : List Addr} (I : Inv X pins σ H s)
    (hch : ∀ b ∈ ch, (b ∈ X.ex ∨ X.s₀.heap.objs.size ≤ b) ∧ b ≠ X.env.locals ∧ (∀ x c, X.env.cells.lookup x = some c → c ≠ b) ∧ ∀ p ∈ X.pn ++ pins, p.1 ≠ b)
    (keep : ∀ b o, b ≠ X.env.locals → b ∉ X.fs → b ∉ ch → s.heap.get? b = some o → H b = none → h'.get? b = some o)
    (slot : ∀ b o, b ≠ X.env.locals → b ∈ X.fs → b ∉ ch → s.heap.get? b = some o → H b = none → ∃ sl, h'.get? b = some { o with slots := sl }) (free : ∀ b o, b ∉ ch → s.heap.get? b = some o → H b = none → H' b = none)
    (there : ∀ b o, b ∉ ch → s.heap.get? b = some o → ∃ o', h'.get? b = some o')
    (tups : ∀ b xs, H b = some (.tup xs) → H' b = some (.tup xs)) (frzs : ∀ b o u, H b = some (.frz o u) → H' b = some (.frz o u)) (tbls : ∀ b ps, H b = some (.tbl ps) → ∃ more, H' b = some (.tbl (ps ++ more)))
    (ns : ∀ m, s.heap.Ns X.env.locals m → h'.Ns X.env.locals m) (hok : HOk X.prog X.w H' h') (hg : AllBare g') :
    Inv X pins σ H' { s with heap := h', gens := g', drawn := d', toks := t' } := by
  have neL : ∀ b o, X.s₀.heap.get? b = some o → b ≠ X.env.locals := fun b o e => Nat.ne_of_lt (Nat.lt_of_lt_of_le (Heap.lt_size e) I.ok.above)
  have neC : ∀ b o, X.s₀.heap.get? b = some o → b ∉ X.ex → b ∉ ch := fun b o e hx hb => by
    rcases (hch b hb).1 with z | z
    · exact hx z
    · exact absurd (Nat.lt_of_lt_of_le (Heap.lt_size e) z) (Nat.lt_irrefl _)
  have cellK : ∀ x c, X.env.cells.lookup x = some c → ∀ v, s.heap.IsCell c v → h'.IsCell c v := fun x c e v ⟨o, ho, hd⟩ => by
    have nch : c ∉ ch := fun z => (hch c z).2.2.1 x c e rfl
    by_cases hc : c ∈ X.fs
    · obtain ⟨sl, q⟩ := slot c o (I.cne x c e) hc nch ho (I.freeC x c e)
      exact ⟨_, q, hd⟩
    · exact ⟨o, keep c o (I.cne x c e) hc nch ho (I.freeC x c e), hd⟩
  refine ⟨I.ok, I.os, hg, ⟨fun b o e n hb hx => ?_, fun b o e n hb hx => ?_, fun b o e n hx => ?_, fun b o e hx => ?_, fun b xs e => tups b xs (I.base.tups b xs e), fun b o xs e => frzs b o xs (I.base.frzs b o xs e), fun b ps e => ?_⟩, ?_, fun x c e => ?_, ?_, fun x c e => ?_, fun p hp => ?_, hok, I.len⟩
  · exact keep b o (neL b o e) hb (neC b o e hx) (I.base.keep b o e n hb hx) (I.base.free b o e n hx)
  · obtain ⟨sl, e1⟩ := I.base.slot b o e n hb hx
    obtain ⟨sl', e2⟩ := slot b _ (neL b o e) hb (neC b o e hx) e1 (I.base.free b o e n hx)
    exact ⟨sl', e2⟩
  · obtain ⟨o', e1⟩ := I.base.there b o e hx
    exact free b o' (neC b o e hx) e1 (I.base.free b o e n hx)
  · obtain ⟨o', e1⟩ := I.base.there b o e hx
    exact there b o' (neC b o e hx) e1
  · obtain ⟨m1, e1⟩ := I.base.tbls b ps e
    obtain ⟨m2, e2⟩ := tbls b _ e1
    exact ⟨m1 ++ m2, by rw [e2, Array.append_assoc]⟩
  · obtain ⟨m, hn, hl⟩ := I.loc
    refine ⟨m, ns m hn, fun i x v e1 e2 e3 => ?_⟩
    obtain ⟨u, r, l⟩ := hl i x v e1 e2 e3
    refine ⟨u, r, ?_⟩
    rcases l with l | ⟨k, c, e, z⟩
    · exact .inl l
    · exact .inr ⟨k, c, e, cellK x c e _ z⟩
  · obtain ⟨v, z⟩ := I.cell x c e
    exact ⟨v, cellK x c e v z⟩
  · obtain ⟨m, ⟨o, _, _, ho, _⟩, _⟩ := I.loc
    exact free _ o (fun z => (hch _ z).2.1 rfl) ho I.free
  · obtain ⟨v, o, ho, hd⟩ := I.cell x c e
    exact free c o (fun z => (hch c z).2.2.1 x c e rfl) ho (I.freeC x c e)
  · obtain ⟨e, n, ne, nf, d⟩ := I.pin p hp
    have nch : p.1 ∉ ch := fun z => (hch p.1 z).2.2.2 p hp rfl
    exact ⟨keep p.1 p.2 ne nf nch e n, free p.1 p.2 nch e n, ne, nf, d⟩
/-- .. where the frame's own object is kept too -/
theorem Inv.un {t' : Nat} (I : Inv X pins σ H s) (u : Un X.fs [] H H' s.heap h') (hok : HOk X.prog X.w H' h') : Inv X pins σ H' { s with heap := h', toks := t' } := by
  obtain ⟨m, ⟨o, es, ep, ho, r⟩, _⟩ := id I.loc
  obtain ⟨sl, hL⟩ := u.any ho I.free (by simp)
  exact I.step (g' := s.gens) (d' := s.drawn) (ch := []) (fun _ z => nomatch z) (fun b o _ hb _ e n => u.keep b o e n hb (by simp)) (fun b o _ hb _ e n => u.slot b o e n hb (by simp)) (fun b o _ e n => u.free b o e n (by simp)) (fun b o _ e => u.there b o e (by simp)) u.tups u.frzs u.tbls (fun m' hm => by
    obtain ⟨o', es', ep', ho', r'⟩ := hm
    rw [ho] at ho'; cases ho'
    exact ⟨_, es', ep', hL, r'⟩) hok I.bare
/-- behind a call (or a comprehension's block): the slots of this frame may have changed too, the records at ch may have turned -/
theorem Inv.call {g' : Array GenState} {t' : Nat} {d' : Drawn} {ch : List Addr} (I : Inv X pins σ H s) (u : Un (frs X.stack) ch H H' s.heap h') (hok : HOk X.prog X.w H' h') (hg : AllBare g')
    (hch : ∀ b ∈ ch, (b ∈ X.ex ∨ X.s₀.heap.objs.size ≤ b) ∧ b ≠ X.env.locals ∧ (∀ x c, X.env.cells.lookup x = some c → c ≠ b) ∧ ∀ p ∈ X.pn ++ pins, p.1 ≠ b) :
    Inv X pins σ H' { s with heap := h', gens := g', drawn := d', toks := t' } := by
  obtain ⟨m, ⟨o, es, ep, ho, r⟩, _⟩ := id I.loc
  obtain ⟨sl, hL⟩ := u.any ho I.free fun z => (hch _ z).2.1 rfl
  exact I.step (ch := ch) hch (fun b o hL hb hc e n => u.keep b o e n (fun z => (List.mem_cons.mp (I.stkSub b z)).elim hL hb) hc) (fun b o _ _ hc e n => u.any e n hc) (fun b o hc e n => u.free b o e n hc) (fun b o hc e => u.there b o e hc) u.tups u.frzs u.tbls (fun m' hm => by
    obtain ⟨o', es', ep', ho', r'⟩ := hm
    rw [ho] at ho'; cases ho'
    exact ⟨_, es', ep', hL, r'⟩) hok hg
/-- an untracked record of ours (an iterator) has turned -/
theorem Inv.turned {t' : Nat} {it : Addr} (I : Inv X pins σ H s) (k : ∀ b o, b ≠ it → s.heap.get? b = some o → h'.get? b = some o) (hn : H it = none) (hL : it ≠ X.env.locals)
    (h1 : it ∈ X.ex ∨ X.s₀.heap.objs.size ≤ it) (h2 : ∀ x c, X.env.cells.lookup x = some c → c ≠ it) (h3 : ∀ p ∈ X.pn ++ pins, p.1 ≠ it) : Inv X pins σ H { s with heap := h', toks := t' } := by
  have nit : ∀ b u, H b = some u → b ≠ it := fun b u e z => by rw [z, hn] at e; cases e
  refine I.step (g' := s.gens) (d' := s.drawn) (ch := [it]) (fun b hb => ?_) (fun b o _ _ hc e _ => k b o (fun z => hc (by simp [z])) e) (fun b o _ _ hc e _ => ⟨o.slots, k b o (fun z => hc (by simp [z])) e⟩) (fun _ _ _ _ n => n)
    (fun b o hc e => ⟨o, k b o (fun z => hc (by simp [z])) e⟩) (fun _ _ e => e) (fun _ _ _ e => e) (fun b ps e => ⟨#[], by rw [e]; simp⟩) (fun m hm => ?_) (fun b u e => ?_) I.bare
  · have e : b = it := by simpa using hb
    subst e
    exact ⟨h1, hL, h2, h3⟩
  · obtain ⟨o, es, ep, ho, r⟩ := hm
    exact ⟨o, es, ep, k _ o (Ne.symm hL) ho, r⟩
  · refine (I.hok b u e).stay (fun c v hc q => k c v ?_ q) (fun _ q => q) fun _ _ q => q
    rcases hc with z | z
    · rw [z]; exact nit b u e
    · exact nit c _ z
theorem Inv.tok (I : Inv X pins σ H s) (t : Nat) : Inv X pins σ H { s with toks := t } := I.un (h' := s.heap) (t' := t) Un.refl I.hok
/-- all objects kept -/
theorem Inv.kept {t' : Nat} (I : Inv X pins σ H s) (k : ∀ b u, s.heap.get? b = some u → h'.get? b = some u) : Inv X pins σ H { s with heap := h', toks := t' } := I.un (Un.kept k) (I.hok.kept k)
/-- a new object laid and tracked -/
theorem Inv.laid {a : Addr} {o : HO} {t' : Nat} (I : Inv X pins σ H s) (k : ∀ b u, s.heap.get? b = some u → h'.get? b = some u) (hp : s.heap.objs.size ≤ a) (new : ObjOk X.prog X.w (upd H a o) h' a o) :
    Inv X pins σ (upd H a o) { s with heap := h', toks := t' } := I.un (Un.laid k hp (I.hok.fresh hp)) (I.hok.laid k hp new)
/-- an object written -/
theorem Inv.write {x e : Addr} {o : HO} {t' : Nat} (I : Inv X pins σ H s) (mu : Mut (H x)) (he : e = x ∨ H e = some (.own x)) (k : ∀ b u, b ≠ e → s.heap.get? b = some u → h'.get? b = some u) (heo : ∃ u, h'.get? e = some u)
    (new : ObjOk X.prog X.w (upd H x o) h' x o) : Inv X pins σ (upd H x o) { s with heap := h', toks := t' } := I.un (Un.write mu he k heo) (I.hok.write mu he k heo new)
/-- forgetting slots, pins -/
theorem Inv.weak {σ' : List (Option V)} (I : Inv X pins σ H s) (hl : σ'.length = σ.length) (w : ∀ (i : Nat) v, σ'[i]? = some (some v) → σ[i]? = some (some v)) : Inv X pins σ' H s :=
  ⟨I.ok, I.os, I.bare, I.base, let ⟨m, hn, hl'⟩ := I.loc; ⟨m, hn, fun i x v e1 e2 e3 => hl' i x v e1 (w i v e2) e3⟩, I.cell, I.free, I.freeC, I.pin, I.hok, hl.trans I.len⟩
theorem Inv.pins_of {pins' : List (Addr × Obj)} (I : Inv X pins σ H s) (h : ∀ p ∈ pins', s.heap.get? p.1 = some p.2 ∧ H p.1 = none ∧ p.1 ≠ X.env.locals ∧ p.1 ∉ X.fs ∧ ∀ v, p.2.data ≠ .cell v) : Inv X pins' σ H s :=
  ⟨I.ok, I.os, I.bare, I.base, I.loc, I.cell, I.free, I.freeC, fun p hp => (List.mem_append.mp hp).elim (fun z => I.pin p (List.mem_append_left _ z)) (h p), I.hok, I.len⟩

theorem nodup_ix {N : List Str} (hN : N.Nodup) {i j : Nat} {x : Str} (a : N[i]? = some x) (b : N[j]? = some x) : i = j := by
  obtain ⟨h1, e1⟩ := List.getElem?_eq_some_iff.mp a
  obtain ⟨h2, e2⟩ := List.getElem?_eq_some_iff.mp b
  exact (List.getElem_inj hN).mp (e1.trans e2.symm)

/-- a name is stored; what changed -/
theorem store_ok2 {M : Model} {A : Around} {E : Value → Shared → Prop} {i : Nat} {x : Str} {v : V} {u : Value} {Q : Unit → Shared → Prop} (I : Inv X pins σ H s) (hN : X.N.Nodup) (hi : X.N[i]? = some x) (hx : Loc X.env.scope x) (r : RelV v u)
    (h : ∀ s', Inv X pins (σ.set i (some v)) H s' → (∃ a, Heap.SameBut a s.heap s'.heap ∧ (a = X.env.locals ∨ X.env.cells.lookup x = some a)) → Q () s') (hf : X.fn x = true ∨ X.env.scope.names.lookup x = some .local := by first | exact .inl rfl | exact .inr rfl | assumption) : wpAny M A (storeName X.env x u) Q E s := by
  obtain ⟨m, hn, hl⟩ := id I.loc
  have hcls : (X.env.scope.kind == .class || (X.env.scope.kind == .module && X.env.locals != X.env.globals)) = false := by rw [I.ok.kind]; rfl
  have hiσ : i < σ.length := by rw [I.len]; exact (List.getElem?_eq_some_iff.mp hi).1
  have cne := I.cne
  have tracked : ∀ {a : Addr} {h' : Heap}, (∃ o, s.heap.get? a = some o ∧ H a = none) → Heap.SameBut a s.heap h' → HOk X.prog X.w H h' := fun {a h'} ha hs b ob e => by
    obtain ⟨_, _, hfree⟩ := ha
    refine (I.hok b ob e).stay (fun c w' hc q => (hs.2 c ?_).trans q) (fun _ q => q) fun _ _ q => q
    rintro rfl
    rcases hc with rfl | hc
    · rw [hfree] at e; cases e
    · rw [hfree] at hc; cases hc
  rcases hx with hk | hk
  · refine wpAny_storeName_local hk hn (fun h' hn' hs => ?_) hcls
    obtain ⟨oL, _, _, hoL, _⟩ := id hn
    refine h _ ⟨I.ok, I.os, I.bare, ⟨fun b o e n hb hx => ?_, fun b o e n hb hx => ?_, I.base.free, fun b o e hx => ?_, I.base.tups, I.base.frzs, I.base.tbls⟩, ⟨_, hn', fun j y v' e1 e2 e3 => ?_⟩, fun y c e => ?_, I.free, I.freeC, fun p hp => ?_, tracked ⟨oL, hoL, I.free⟩ hs, by simpa using I.len⟩ ⟨_, hs, .inl rfl⟩
    · exact (hs.2 b (Nat.ne_of_lt (Nat.lt_of_lt_of_le (Heap.lt_size e) I.ok.above))).trans (I.base.keep b o e n hb hx)
    · obtain ⟨sl, e1⟩ := I.base.slot b o e n hb hx
      exact ⟨sl, (hs.2 b (Nat.ne_of_lt (Nat.lt_of_lt_of_le (Heap.lt_size e) I.ok.above))).trans e1⟩
    · obtain ⟨o', e1⟩ := I.base.there b o e hx
      exact ⟨o', (hs.2 b (Nat.ne_of_lt (Nat.lt_of_lt_of_le (Heap.lt_size e) I.ok.above))).trans e1⟩
    · by_cases hj : j = i
      · subst hj
        rw [hi] at e1; cases e1
        rw [List.getElem?_set_self hiσ] at e2
        cases e2
        exact ⟨u, r, .inl ⟨hk, by simp⟩⟩
      · rw [List.getElem?_set_ne (Ne.symm hj)] at e2
        obtain ⟨u', r', q⟩ := hl j y v' e1 e2 e3
        refine ⟨u', r', ?_⟩
        rcases q with ⟨k, e⟩ | ⟨k, c, e, z⟩
        · refine .inl ⟨k, ?_⟩
          have : y ≠ x := fun e => hj (nodup_ix hN e1 (e ▸ hi))
          simp [this, e]
        · exact .inr ⟨k, c, e, z.sameBut hs (cne y c e)⟩
    · obtain ⟨w', z⟩ := I.cell y c e
      exact ⟨w', z.sameBut hs (cne y c e)⟩
    · obtain ⟨e, n, ne, nf, d⟩ := I.pin p hp
      exact ⟨(hs.2 p.1 ne).trans e, n, ne, nf, d⟩
  · have hfn : X.fn x = true := by
      rcases hf with z | z
      · exact z
      · rw [z] at hk; cases hk
    obtain ⟨c, hc⟩ := I.ok.has x (.inl hk)
    obtain ⟨w', z⟩ := I.cell x c hc
    refine wpAny_storeName_cell I.ok.kind hk hc z (fun h' hc' hs => ?_)
    obtain ⟨oc, hoc, hocd⟩ := id z
    refine h { s with heap := h' } ⟨I.ok, I.os, I.bare, ⟨fun b o e n hb hx => ?_, fun b o e n hb hx => ?_, I.base.free, fun b o e hx => ?_, I.base.tups, I.base.frzs, I.base.tbls⟩, ⟨m, hn.sameBut hs (Ne.symm (cne x c hc)), fun j y v' e1 e2 e3 => ?_⟩, fun y c' e => ?_, I.free, I.freeC, fun p hp => ?_, tracked ⟨oc, hoc, I.freeC x c hc⟩ hs, by simpa using I.len⟩ ⟨c, hs, .inr hc⟩
    · exact (hs.2 b (Nat.ne_of_lt (Nat.lt_of_lt_of_le (Heap.lt_size e) (I.ok.cab x c hfn hc)))).trans (I.base.keep b o e n hb hx)
    · obtain ⟨sl, e1⟩ := I.base.slot b o e n hb hx
      exact ⟨sl, (hs.2 b (Nat.ne_of_lt (Nat.lt_of_lt_of_le (Heap.lt_size e) (I.ok.cab x c hfn hc)))).trans e1⟩
    · obtain ⟨o', e1⟩ := I.base.there b o e hx
      exact ⟨o', (hs.2 b (Nat.ne_of_lt (Nat.lt_of_lt_of_le (Heap.lt_size e) (I.ok.cab x c hfn hc)))).trans e1⟩
    · by_cases hj : j = i
      · subst hj
        rw [hi] at e1; cases e1
        rw [List.getElem?_set_self hiσ] at e2
        cases e2
        exact ⟨u, r, .inr ⟨.inl hk, c, hc, hc'⟩⟩
      · rw [List.getElem?_set_ne (Ne.symm hj)] at e2
        obtain ⟨u', r', q⟩ := hl j y v' e1 e2 e3
        refine ⟨u', r', ?_⟩
        rcases q with q | ⟨k, c', e, z'⟩
        · exact .inl q
        · refine .inr ⟨k, c', e, z'.sameBut hs ?_⟩
          rintro rfl
          exact hj (nodup_ix hN e1 (I.ok.inj _ _ _ e hc ▸ hi))
    · by_cases hcc : c' = c
      · subst hcc; exact ⟨_, hc'⟩
      · obtain ⟨w2, z2⟩ := I.cell y c' e
        exact ⟨w2, z2.sameBut hs hcc⟩
    · obtain ⟨e, n, ne, nf, d⟩ := I.pin p hp
      refine ⟨(hs.2 p.1 ?_).trans e, n, ne, nf, d⟩
      intro q
      rw [q, hoc] at e
      have q' : oc = p.2 := Option.some.inj e
      exact d w' (by rw [← q']; exact hocd)
theorem store_ok {M : Model} {A : Around} {E : Value → Shared → Prop} {i : Nat} {x : Str} {v : V} {u : Value} {Q : Unit → Shared → Prop} (I : Inv X pins σ H s) (hN : X.N.Nodup) (hi : X.N[i]? = some x) (hx : Loc X.env.scope x) (r : RelV v u)
    (h : ∀ s', Inv X pins (σ.set i (some v)) H s' → Q () s') (hf : X.fn x = true ∨ X.env.scope.names.lookup x = some .local := by first | exact .inl rfl | exact .inr rfl | assumption) : wpAny M A (storeName X.env x u) Q E s :=
  store_ok2 I hN hi hx r (fun s' I' _ => h s' I') hf
/-- behind a call or a block, the state as it is -/
theorem Inv.call' {s' : Shared} {ch : List Addr} (I : Inv X pins σ H s) (ho : s'.os = s.os) (u : Un (frs X.stack) ch H H' s.heap s'.heap) (hok : HOk X.prog X.w H' s'.heap) (hg : AllBare s'.gens)
    (hch : ∀ b ∈ ch, (b ∈ X.ex ∨ X.s₀.heap.objs.size ≤ b) ∧ b ≠ X.env.locals ∧ (∀ x c, X.env.cells.lookup x = some c → c ≠ b) ∧ ∀ p ∈ X.pn ++ pins, p.1 ≠ b) : Inv X pins σ H' s' := by
  obtain ⟨h', g', d', t', o'⟩ := s'
  have e : o' = s.os := ho
  subst e
  exact I.call (g' := g') (t' := t') (d' := d') u hok hg hch
end

/-! ### the judgements -/
/-- an exception: its class, its own dict's address (where it has one), the abstract heap behind it -/
abbrev XK := Value → Option Addr → Hp → Prop
abbrev St := List (Option V)
abbrev VK := V → Hp → Prop
/-- an expression's reading; a test's; an argument list's -/
abbrev TE := St → Hp → VK → Prop
abbrev TT := St → Hp → (Bool → Hp → Prop) → Prop
abbrev TA := St → Hp → (List V → Hp → Prop) → Prop
/-- what is wanted behind a statement -/
structure Ends where
  nx : St → Hp → Prop
  rt : VK
  bk : St → Hp → Prop := fun _ _ => False
  ct : St → Hp → Prop := fun _ _ => False
abbrev TS := Ends → St → Hp → Prop

def EP (X : Cx) (pins : List (Addr × Obj)) (σ : St) (Q : VK) (u : Value) (s' : Shared) : Prop := ∃ v H', Inv X pins σ H' s' ∧ RelV v u ∧ Q v H'
def TP (X : Cx) (pins : List (Addr × Obj)) (σ : St) (Q : Bool → Hp → Prop) (b : Bool) (s' : Shared) : Prop := ∃ H', Inv X pins σ H' s' ∧ Q b H'
def AP (X : Cx) (pins : List (Addr × Obj)) (σ : St) (Q : List V → Hp → Prop) (us : List Value) (s' : Shared) : Prop := ∃ vs H', Inv X pins σ H' s' ∧ Vals vs us ∧ Q vs H'
def SP (X : Cx) (pins : List (Addr × Obj)) (D : Ends) (f : Flow) (s' : Shared) : Prop :=
  match f with
  | .next => ∃ σ' H', Inv X pins σ' H' s' ∧ D.nx σ' H'
  | .brk => ∃ σ' H', Inv X pins σ' H' s' ∧ D.bk σ' H'
  | .cont => ∃ σ' H', Inv X pins σ' H' s' ∧ D.ct σ' H'
  | .ret u => ∃ v σ' H', Inv X pins σ' H' s' ∧ RelV v u ∧ D.rt v H'

def PE (X : Cx) (e : Expr) (t : TE) : Prop :=
  ∀ (pins : List (Addr × Obj)) (s : Shared) (σ : St) (H : Hp) (Q : VK), Inv X pins σ H s → t σ H Q → wpAny (model X.prog X.w) X.A (eval e X.env) (EP X pins σ Q) X.xe s
def PT (X : Cx) (e : Expr) (t : TT) : Prop :=
  ∀ (pins : List (Addr × Obj)) (s : Shared) (σ : St) (H : Hp) (Q : Bool → Hp → Prop), Inv X pins σ H s → t σ H Q → wpAny (model X.prog X.w) X.A (isTrue e X.env (eval e X.env)) (TP X pins σ Q) X.xe s
/-- a test whatever its 'whole' is (and, or) -/
def PW (X : Cx) (e : Expr) (t : TT) : Prop :=
  ∀ (whole : Sem Value) (pins : List (Addr × Obj)) (s : Shared) (σ : St) (H : Hp) (Q : Bool → Hp → Prop), Inv X pins σ H s → t σ H Q → wpAny (model X.prog X.w) X.A (isTrue e X.env whole) (TP X pins σ Q) X.xe s
theorem PW.pt {X : Cx} {e : Expr} {t : TT} (h : PW X e t) : PT X e t := h _
/-- an argument list (no star), from the left -/
def PA (X : Cx) (es : List Expr) (t : TA) : Prop :=
  ∀ (pos : Pos) (pins : List (Addr × Obj)) (s : Shared) (σ : St) (H : Hp) (Q : List V → Hp → Prop), Inv X pins σ H s → t σ H Q → wpAny (model X.prog X.w) X.A (spliced (backTo pos (starEach es X.env))) (AP X pins σ Q) X.xe s
def PS (X : Cx) (st : Stmt) (t : TS) : Prop :=
  ∀ (pins : List (Addr × Obj)) (s : Shared) (σ : St) (H : Hp) (D : Ends), Inv X pins σ H s → t D σ H → wpAny (model X.prog X.w) X.A (exec st X.env) (SP X pins D) X.xe s
def PSs (X : Cx) (st : List Stmt) (t : TS) : Prop :=
  ∀ (pins : List (Addr × Obj)) (s : Shared) (σ : St) (H : Hp) (D : Ends), Inv X pins σ H s → t D σ H → wpAny (model X.prog X.w) X.A (execs st X.env) (SP X pins D) X.xe s
/-- weaken the end -/
theorem thn {α : Type} {t : Sem α} {Q Q' : α → Shared → Prop} {M : Model} {A : Around} {E : Value → Shared → Prop} {s : Shared} (h : wpAny M A t Q E s) (hQ : ∀ a s, Q a s → Q' a s) : wpAny M A t Q' E s := wpAny_mono h hQ fun _ _ x => x
end L2

namespace L2
open PySem PySem.Spec PyProof.Rows
section
variable {X : Cx}

/-- two expressions in a row -/
theorem bin {a b : Expr} {ta tb : TE} (ha : PE X a ta) (hb : PE X b tb) {pins : List (Addr × Obj)} {s : Shared} {σ : St} {H : Hp} {R : V → V → Hp → Prop} (I : Inv X pins σ H s) (h : ta σ H fun x H1 => tb σ H1 fun y H2 => R x y H2)
    {α : Type} {Q : α → Shared → Prop} {f : Value → Value → Sem α}
    (hf : ∀ v u s2 x y H2, Inv X pins σ H2 s2 → RelV x v → RelV y u → R x y H2 → wpAny (model X.prog X.w) X.A (f v u) Q X.xe s2) :
    wpAny (model X.prog X.w) X.A (eval a X.env) (fun v s₁ => wpAny (model X.prog X.w) X.A (eval b X.env) (fun u s₂ => wpAny (model X.prog X.w) X.A (f v u) Q X.xe s₂) X.xe s₁) X.xe s := by
  refine thn (ha pins s σ H _ I h) fun v s1 ⟨x, H1, I1, r1, q1⟩ => ?_
  refine thn (hb pins s1 σ H1 _ I1 q1) fun u s2 ⟨y, H2, I2, r2, q2⟩ => ?_
  exact hf v u s2 x y H2 I2 r1 r2 q2

/-! ### names and constants -/
def tVar (i : Nat) : TE := fun σ H Q => ∃ v, σ[i]? = some (some v) ∧ Q v H
def tC (v : V) : TE := fun _ H Q => Q v H
theorem pe_var {i : Nat} {x : Str} {pos : Pos} (hN : X.N[i]? = some x) (hv : Vis X.env.scope x) (hd : (x == ("__debug__" : Str)) = false := by decide) (hcd : (x == ("__classdict__" : Str)) = false := by decide) : PE X (.Name x pos) (tVar i) := by
  intro pins s σ H Q I h
  obtain ⟨v, e, h⟩ := h
  obtain ⟨m, hn, hl⟩ := I.loc
  obtain ⟨u, r, l⟩ := hl i x v hN e hv
  have fin : EP X pins σ Q u s := ⟨v, H, I, r, h⟩
  rcases l with ⟨hk, hm⟩ | ⟨hk, c, hc, hcell⟩
  · exact wpAny_Name (wpAny_loadName_local I.ok.kind hk hn hm fin) hd
  · rcases hk with hk | hk
    · exact wpAny_Name (wpAny_loadName_cell I.ok.kind hk hc hcell fin) hd
    · exact wpAny_Name (wpAny_loadName_free I.ok.kind hk hc hcell fin hcd) hd
theorem pe_int {i j pos} : PE X (.Constant (.int i) j pos) (tC (.int i)) := fun _ _ _ H _ I h => wpAny_Constant_int ⟨.int i, H, I.tok _, ⟨_, rfl⟩, h⟩
theorem pe_bl {b j pos} : PE X (.Constant (.bool b) j pos) (tC (.bl b)) := fun _ _ _ H _ I h => Constant_bool ⟨.bl b, H, I, rfl, h⟩
theorem pe_non {j pos} : PE X (.Constant .none j pos) (tC .non) := fun _ _ _ H _ I h => Constant_none ⟨.non, H, I, rfl, h⟩
theorem pe_str {x j pos} : PE X (.Constant (.str x) j pos) (tC (.str x)) := fun _ _ _ H _ I h => Calls.Constant_str ⟨.str x, H, I.tok _, ⟨_, rfl⟩, h⟩

/-- a global name of the def -/
def Gl (X : Cx) (x : Str) : Prop := X.env.kindOf x = some .globalImplicit
theorem ld_glob {E : Value → Shared → Prop} {pins : List (Addr × Obj)} {s : Shared} {σ : St} {H : Hp} {x : Str} {u : Value} {pos : Pos} {Q : Value → Shared → Prop} (I : Inv X pins σ H s) (hg : Gl X x) (hm : X.mg x = some u) (h : Q u s)
    (hd : (x == ("__debug__" : Str)) = false := by decide) : wpAny (model X.prog X.w) X.A (eval (.Name x pos) X.env) Q E s :=
  Calls.Name_function_global I.ok.kind hg (Calls.loadGlobal_global (by rw [I.ok.glob]; exact I.mod.glob.keeps I.bk) hm h) hd
theorem ld_blt {E : Value → Shared → Prop} {pins : List (Addr × Obj)} {s : Shared} {σ : St} {H : Hp} {x : Str} {u : Value} {pos : Pos} {Q : Value → Shared → Prop} (I : Inv X pins σ H s) (hg : Gl X x) (hm : X.mg x = none) (hv : bootBuiltins x = some u) (h : Q u s)
    (hn : x ≠ "__name__" := by decide) (hd : (x == ("__debug__" : Str)) = false := by decide) : wpAny (model X.prog X.w) X.A (eval (.Name x pos) X.env) Q E s := by
  obtain ⟨mb, h1, h2⟩ := I.mod.blt
  exact Calls.Name_function_global I.ok.kind hg (Calls.loadGlobal_builtin (by rw [I.ok.glob]; exact I.mod.glob.keeps I.bk) hm (by rw [I.ok.blt]; exact h1.keeps I.bk) ((h2 x hn).trans hv) h) hd
/-- a module's constant, a class, a function, as a value -/
theorem pe_glob {x : Str} {v : V} {u : Value} {pos : Pos} (hg : Gl X x) (hm : X.mg x = some u) (r : RelV v u) (hd : (x == ("__debug__" : Str)) = false := by decide) : PE X (.Name x pos) (tC v) :=
  fun _ _ _ H _ I h => ld_glob I hg hm ⟨v, H, I, r, h⟩ hd
theorem pe_bltn {x : Str} {v : V} {u : Value} {pos : Pos} (hg : Gl X x) (hm : X.mg x = none) (hv : bootBuiltins x = some u) (r : RelV v u) (hn : x ≠ "__name__" := by decide) (hd : (x == ("__debug__" : Str)) = false := by decide) : PE X (.Name x pos) (tC v) :=
  fun _ _ _ H _ I h => ld_blt I hg hm hv ⟨v, H, I, r, h⟩ hn hd

/-! ### arithmetic -/
variable {a b : Expr} {ta tb : TE} {pos : Pos}
/-! ### comparisons -/
def PC (X : Cx) (op : CmpOp) (a b : Expr) (t : TE) : Prop :=
  ∀ (pins : List (Addr × Obj)) (s : Shared) (σ : St) (H : Hp) (Q : VK), Inv X pins σ H s → t σ H Q →
    wpAny (model X.prog X.w) X.A (eval a X.env) (fun v s₁ => wpAny (model X.prog X.w) X.A (eval b X.env) (fun u s₂ => wpAny (model X.prog X.w) X.A (compareOp op v u) (EP X pins σ Q) X.xe s₂) X.xe s₁) X.xe s
/-- a comparison as a value, as a test -/
def tB (t : TE) : TT := fun σ H Q => t σ H fun x H1 => ∃ c, x = .bl c ∧ Q c H1
theorem pt_cmp {op : CmpOp} {t : TE} (h : PC X op a b t) (h1 : behindInMarks op b = false := by first | exact nobehind _ (by decide) (by decide) | rfl) : PT X (.Compare a [op] [b] pos) (tB t) := by
  intro pins s σ H Q I hw
  refine wpAny_isTrue_Compare1 (thn (h pins s σ H _ I hw) fun v s1 h1 => thn h1 fun u s2 h2 => thn h2 fun c s3 ⟨x, H1, I1, r1, q1⟩ => ?_) h1
  obtain ⟨d, rfl, q⟩ := q1
  cases r1
  exact wpAny_truthy_bool ⟨H1, I1, q⟩
/-- an expression whose value is a bool, as a test -/
theorem pt_val {e : Expr} {t : TE} (h : PE X e t) (he : ∀ whole, isTrue e X.env whole = (do let v ← whole; standAt e.pos; holding [v] (truthy v)) := by intro _; rfl) : PT X e (tB t) := by
  intro pins s σ H Q I hw
  refine isTrue_plain (thn (h pins s σ H _ I hw) fun v s1 ⟨x, H1, I1, r1, q1⟩ => ?_) (he _)
  obtain ⟨d, rfl, q⟩ := q1
  cases r1
  exact wpAny_truthy_bool ⟨H1, I1, q⟩

/-! ### and, or, not -/
variable {tA tB' : TT} {rest : List Expr}
def tAnd (t u : TT) : TT := fun σ H Q => t σ H fun c H1 => if c = true then u σ H1 Q else Q false H1
def tOr (t u : TT) : TT := fun σ H Q => t σ H fun c H1 => if c = true then Q true H1 else u σ H1 Q
def tNot (t : TT) : TT := fun σ H Q => t σ H fun c H1 => Q (!c) H1
theorem pw_and1 (ha : PT X a tA) : PW X (.BoolOp .And [a] pos) tA := by
  intro wh pins s σ H Q I h
  refine isTrue_and (thn (ha pins s σ H Q I h) fun c s1 e => ?_)
  cases c with
  | true => exact isTrue_and_nil e
  | false => exact e
theorem pw_or1 (ha : PT X a tA) : PW X (.BoolOp .Or [a] pos) tA := by
  intro wh pins s σ H Q I h
  refine isTrue_or (thn (ha pins s σ H Q I h) fun c s1 e => ?_)
  cases c with
  | false => exact isTrue_or_nil e
  | true => exact e
theorem pw_and (ha : PT X a tA) (hb : PW X (.BoolOp .And (b :: rest) pos) tB') : PW X (.BoolOp .And (a :: b :: rest) pos) (tAnd tA tB') := by
  intro wh pins s σ H Q I h
  refine isTrue_and (thn (ha pins s σ H _ I h) fun c s1 ⟨H1, I1, q1⟩ => ?_)
  cases c with
  | true => exact hb wh pins s1 σ H1 Q I1 q1
  | false => exact ⟨H1, I1, q1⟩
theorem pw_or (ha : PT X a tA) (hb : PW X (.BoolOp .Or (b :: rest) pos) tB') : PW X (.BoolOp .Or (a :: b :: rest) pos) (tOr tA tB') := by
  intro wh pins s σ H Q I h
  refine isTrue_or (thn (ha pins s σ H _ I h) fun c s1 ⟨H1, I1, q1⟩ => ?_)
  cases c with
  | true => exact ⟨H1, I1, q1⟩
  | false => exact hb wh pins s1 σ H1 Q I1 q1
theorem pt_not (ha : PT X a tA) : PT X (.UnaryOp .Not a pos) (tNot tA) := by
  intro pins s σ H Q I h
  exact isTrue_not (ha pins s σ H (fun c H1 => Q (!c) H1) I h)
/-- .. as values (bools) -/
def tAndV (ta tb : TE) : TE := fun σ H Q => ta σ H fun x H1 => ∃ c, x = .bl c ∧ if c = true then tb σ H1 Q else Q (.bl false) H1
def tNotV (ta : TE) : TE := fun σ H Q => ta σ H fun x H1 => ∃ c, x = .bl c ∧ Q (.bl (!c)) H1
theorem pe_one {op} {t : TE} (h : PE X a t) : PE X (.BoolOp op [a] pos) t := fun pins s σ H Q I hw => BoolOp_one (h pins s σ H Q I hw)
theorem pe_and (ha : PE X a ta) (hb : PE X (.BoolOp .And (b :: rest) pos) tb) : PE X (.BoolOp .And (a :: b :: rest) pos) (tAndV ta tb) := by
  intro pins s σ H Q I h
  refine BoolOp_and (thn (ha pins s σ H _ I h) fun v s1 ⟨x, H1, I1, r1, q1⟩ => ?_)
  obtain ⟨c, rfl, q1⟩ := q1
  cases r1
  refine wpAny_truthy_bool ?_
  cases c with
  | true => exact hb pins s1 σ H1 Q I1 q1
  | false => exact ⟨.bl false, H1, I1, rfl, q1⟩
theorem pe_not (ha : PE X a ta) : PE X (.UnaryOp .Not a pos) (tNotV ta) := by
  intro pins s σ H Q I h
  refine UnaryOp_ (thn (ha pins s σ H _ I h) fun v s1 ⟨x, H1, I1, r1, q1⟩ => ?_)
  obtain ⟨c, rfl, q1⟩ := q1
  cases r1
  exact not_of (wpAny_truthy_bool ⟨.bl (!c), H1, I1, rfl, q1⟩)
/-- a if t else b -/
def tIf (t : TT) (ta tb : TE) : TE := fun σ H Q => t σ H fun c H1 => if c = true then ta σ H1 Q else tb σ H1 Q
theorem pe_ifExp {c : Expr} (hc : PT X c tA) (ha : PE X a ta) (hb : PE X b tb) : PE X (.IfExp c a b pos) (tIf tA ta tb) := by
  intro pins s σ H Q I h
  refine wpAny_IfExp (thn (hc pins s σ H _ I h) fun d s1 ⟨H1, I1, q1⟩ => ?_)
  cases d with
  | true => exact ha pins s1 σ H1 Q I1 q1
  | false => exact hb pins s1 σ H1 Q I1 q1
end
end L2

namespace L2
open PySem PySem.Spec PyProof.Rows

/-! ### a list, a tuple that is read: tracked, frozen, or an object of the module -/
def SqL (K : PySem.W.Frag) (H : Hp) (a : Addr) (xs : List V) : Prop :=
  Rd H a (.lst xs) ∨
    ∃ (o : Obj) (its : Array Value) (n : Nat), K.lookup a = some o ∧ o.cls = .type "list" ∧ o.dict = none ∧ o.data = .seq its n ∧ its.size ≤ sizeLine ∧ Vals xs its.toList
def SqT (K : PySem.W.Frag) (H : Hp) (a : Addr) (xs : List V) : Prop :=
  Rd H a (.tup xs) ∨
    ∃ (o : Obj) (its : Array Value) (n : Nat), K.lookup a = some o ∧ o.cls = .type "tuple" ∧ o.data = .seq its n ∧ its.size ≤ sizeLine ∧ Vals xs its.toList
def absV : Value → Option V
  | .none => some .non
  | .bool b => some (.bl b)
  | .int i _ => some (.int i)
  | .str x _ => some (.str x)
  | .bytes b _ => some (.byt b)
  | .float b _ => some (.flt b)
  | .ref a => some (.ref a)
  | .type n => some (.ty n)
  | _ => none
theorem RelV.abs {x : V} {u : Value} (r : RelV x u) : absV u = some x := by
  cases x with
  | non => cases r; rfl
  | bl _ => cases r; rfl
  | int _ => obtain ⟨t, rfl⟩ := r; rfl
  | str _ => obtain ⟨t, rfl⟩ := r; rfl
  | byt _ => obtain ⟨t, rfl⟩ := r; rfl
  | flt _ => obtain ⟨t, rfl⟩ := r; rfl
  | ref _ => cases r; rfl
  | ty _ => cases r; rfl
theorem RelV.inj {x y : V} {u : Value} (r : RelV x u) (q : RelV y u) : x = y := Option.some.inj (r.abs.symm.trans q.abs)
theorem Vals.inj : ∀ {xs ys : List V} {us : List Value}, Vals xs us → Vals ys us → xs = ys
  | _, _, _, .nil, .nil => rfl
  | _, _, _, .cons r t, .cons r' t' => by rw [r.inj r', Vals.inj t t']
section
variable {X : Cx} {pins : List (Addr × Obj)} {σ : St} {H : Hp} {s : Shared} {a : Addr} {xs ys : List V}
theorem SqL.of {K : PySem.W.Frag} (h : H a = some (.lst xs)) : SqL K H a xs := .inl (.inl h)
theorem SqT.of {K : PySem.W.Frag} (h : H a = some (.tup xs)) : SqT K H a xs := .inl (.inl h)
theorem Inv.list (I : Inv X pins σ H s) (h : SqL X.K H a xs) : ∃ its : List Value, Vals xs its ∧ PlainL s.heap a its.toArray ∧ xs.length ≤ sizeLine := by
  rcases h with h | ⟨o, its, n, hk, hc, hd, hs, hz, r⟩
  · obtain ⟨z, its, n, r, e⟩ := h.ok I.hok
    exact ⟨its, r, ⟨_, n, e, rfl, rfl, rfl⟩, z⟩
  · refine ⟨its.toList, r, ⟨o, n, I.kIn a o hk, hc, hd, by simpa using hs⟩, ?_⟩
    have e := r.length
    simp only [Array.length_toList] at e
    omega
theorem Inv.tuple (I : Inv X pins σ H s) (h : SqT X.K H a xs) : ∃ its : List Value, Vals xs its ∧ IsTup s.heap a its.toArray ∧ xs.length ≤ sizeLine := by
  rcases h with h | ⟨o, its, n, hk, hc, hs, hz, r⟩
  · obtain ⟨z, its, r, p⟩ := h.ok I.hok
    exact ⟨its, r, p.1, z⟩
  · refine ⟨its.toList, r, ⟨o, I.kIn a o hk, hc, n, by simpa using hs⟩, ?_⟩
    have e := r.length
    simp only [Array.length_toList] at e
    omega
theorem Inv.list_inj (I : Inv X pins σ H s) (h : SqL X.K H a xs) (h' : SqL X.K H a ys) : xs = ys := by
  obtain ⟨its, r, ⟨o, n, e, _, _, d⟩, _⟩ := I.list h
  obtain ⟨its', r', ⟨o', n', e', _, _, d'⟩, _⟩ := I.list h'
  rw [e] at e'; cases e'
  rw [d] at d'
  injection d' with d1 _
  have : its = its' := by simpa using congrArg Array.toList d1
  subst this
  exact r.inj r'
end

/-! ### another wish about exceptions -/
abbrev Cx.wish (X : Cx) (E : Value → Shared → Prop) : Cx := { X with xe := E }
/-- no exception leaves -/
abbrev Cx.nox (X : Cx) : Cx := X.wish fun _ _ => False
theorem Cx.Ok.wish {X : Cx} (ok : X.Ok) (E : Value → Shared → Prop) : (X.wish E).Ok :=
  ⟨ok.mod, ok.kind, ok.glob, ok.blt, ok.above, ok.inj, ok.has, ok.cab, ok.hd, ok.frames, ok.stk, ok.exf, ok.bs, ok.bsz, ok.noex, ok.exfs, ok.funs, ok.frf⟩
theorem Cx.Ok.unwish {X : Cx} {E : Value → Shared → Prop} (ok : (X.wish E).Ok) : X.Ok :=
  ⟨ok.mod, ok.kind, ok.glob, ok.blt, ok.above, ok.inj, ok.has, ok.cab, ok.hd, ok.frames, ok.stk, ok.exf, ok.bs, ok.bsz, ok.noex, ok.exfs, ok.funs, ok.frf⟩
section
variable {X : Cx} {pins : List (Addr × Obj)} {σ : St} {H : Hp} {s : Shared} {E : Value → Shared → Prop}
theorem Inv.wish (I : Inv X pins σ H s) (E : Value → Shared → Prop) : Inv (X.wish E) pins σ H s := ⟨I.ok.wish E, I.os, I.bare, I.base, I.loc, I.cell, I.free, I.freeC, I.pin, I.hok, I.len⟩
theorem Inv.unwish (I : Inv (X.wish E) pins σ H s) : Inv X pins σ H s := ⟨I.ok.unwish, I.os, I.bare, I.base, I.loc, I.cell, I.free, I.freeC, I.pin, I.hok, I.len⟩
theorem SP.unwish {D : Ends} {f : Flow} {s' : Shared} (h : SP (X.wish E) pins D f s') : SP X pins D f s' := by
  cases f with
  | next => obtain ⟨σ', H', I, q⟩ := h; exact ⟨σ', H', I.unwish, q⟩
  | brk => obtain ⟨σ', H', I, q⟩ := h; exact ⟨σ', H', I.unwish, q⟩
  | cont => obtain ⟨σ', H', I, q⟩ := h; exact ⟨σ', H', I.unwish, q⟩
  | ret u => obtain ⟨v, σ', H', I, r, q⟩ := h; exact ⟨v, σ', H', I.unwish, r, q⟩
theorem PSs.nox {st : List Stmt} {t : TS} (h : PSs X.nox st t) : PSs X st t := fun pins s σ H D I hw =>
  wpAny_mono (h pins s σ H D (I.wish _) hw) (fun _ _ q => q.unwish) fun _ _ z => False.elim z
end

/-! ### blocks and small statements -/
section
variable {X : Cx} {st : Stmt} {rest : List Stmt} {t u : TS} {e : Expr} {te : TE} {pos : Pos}
def tNext : TS := fun D σ H => D.nx σ H
def tSeq (t u : TS) : TS := fun D σ H => t { D with nx := u D } σ H
theorem pss_nil : PSs X [] tNext := fun _ _ σ H _ I h => wpAny_execs_nil ⟨σ, H, I, h⟩
theorem pss_cons (h1 : PS X st t) (h2 : PSs X rest u) : PSs X (st :: rest) (tSeq t u) := by
  intro pins s σ H D I h
  refine wpAny_execs_cons (thn (h1 pins s σ H { D with nx := u D } I h) fun f s1 q => ?_)
  cases f with
  | next =>
    obtain ⟨σ', H', I', q⟩ := q
    exact h2 pins s1 σ' H' D I' q
  | ret v => exact q
  | brk => exact q
  | cont => exact q
theorem pss_one (h1 : PS X st t) : PSs X [st] t := by
  intro pins s σ H D I h
  refine wpAny_execs_cons (thn (h1 pins s σ H D I h) fun f s1 q => ?_)
  cases f with
  | next => exact wpAny_execs_nil q
  | ret v => exact q
  | brk => exact q
  | cont => exact q
/-- in a def's body nothing is shown -/
theorem Inv.quiet {pins : List (Addr × Obj)} {σ : St} {H : Hp} {s : Shared} (I : Inv X pins σ H s) : interactive X.env = false := by simp [interactive, I.ok.kind]
/-- an expression whose value is dropped -/
def tDrop (te : TE) : TS := fun D σ H => te σ H fun _ H1 => D.nx σ H1
theorem ps_expr (he : PE X e te) (hs : swapsWith e none pos.line X.env = pure false := by rfl) : PS X (.Expr e pos) (tDrop te) := by
  intro pins s σ H D I h
  exact wpAny_Expr_any (thn (he pins s σ H _ I h) fun v s1 ⟨x, H1, I1, r1, q1⟩ => ⟨σ, H1, I1, q1⟩) I.quiet hs
def tRet (te : TE) : TS := fun D σ H => te σ H D.rt
theorem ps_ret (he : PE X e te) : PS X (.Return (some e) pos) (tRet te) := by
  intro pins s σ H D I h
  exact wpAny_Return_some (thn (he pins s σ H _ I h) fun v s1 ⟨x, H1, I1, r1, q1⟩ => ⟨x, σ, H1, I1, r1, q1⟩)
def tIfS (c : TT) (t u : TS) : TS := fun D σ H => c σ H fun b H1 => if b = true then t D σ H1 else u D σ H1
theorem ps_if {c : Expr} {a b : List Stmt} {tc : TT} (hc : PT X c tc) (ha : PSs X a t) (hb : PSs X b u) : PS X (.If c a b pos) (tIfS tc t u) := by
  intro pins s σ H D I h
  refine wpAny_If (thn (hc pins s σ H _ I h) fun d s1 ⟨H1, I1, q1⟩ => ?_)
  cases d with
  | true => exact ha pins s1 σ H1 D I1 q1
  | false => exact hb pins s1 σ H1 D I1 q1
end

/-! ### targets -/
abbrev TG := V → St → Hp → (St → Hp → Prop) → Prop
abbrev TGs := List V → St → Hp → (St → Hp → Prop) → Prop
def PG (X : Cx) (target : Expr) (t : TG) : Prop :=
  ∀ (pins : List (Addr × Obj)) (s : Shared) (σ : St) (H : Hp) (v : V) (u : Value) (Q : St → Hp → Prop), Inv X pins σ H s → RelV v u → t v σ H Q →
    wpAny (model X.prog X.w) X.A (assign target X.env u) (fun _ s' => ∃ σ' H', Inv X pins σ' H' s' ∧ Q σ' H') X.xe s
/-- several targets, one after another -/
def PGs (X : Cx) (ts : List Expr) (t : TGs) : Prop :=
  ∀ (pins : List (Addr × Obj)) (s : Shared) (σ : St) (H : Hp) (vs : List V) (us : List Value) (Q : St → Hp → Prop), Inv X pins σ H s → Vals vs us → t vs σ H Q →
    wpAny (model X.prog X.w) X.A (assignInOrder ((assignEach ts X.env).map (·.2)) us) (fun _ s' => ∃ σ' H', Inv X pins σ' H' s' ∧ Q σ' H') X.xe s
/-- o[i] = v, by values -/
abbrev TSet := V → V → V → Hp → (Hp → Prop) → Prop
def PSet (X : Cx) (t : TSet) : Prop :=
  ∀ (pins : List (Addr × Obj)) (s : Shared) (σ : St) (H : Hp) (o i v : V) (ov iv u : Value) (Q : Hp → Prop), Inv X pins σ H s → RelV o ov → RelV i iv → RelV v u → t o i v H Q →
    wpAny (model X.prog X.w) X.A (setItem ov iv u) (fun _ s' => ∃ H', Inv X pins σ H' s' ∧ Q H') X.xe s
section
variable {X : Cx} {pos : Pos}
def gName (i : Nat) : TG := fun v σ H Q => Q (σ.set i (some v)) H
theorem pg_name {i : Nat} {x : Str} (hN : X.N.Nodup) (hi : X.N[i]? = some x) (hx : Loc X.env.scope x) (hf : X.fn x = true ∨ X.env.scope.names.lookup x = some .local := by first | exact .inl rfl | exact .inr rfl | assumption) : PG X (.Name x pos) (gName i) := by
  intro pins s σ H v u Q I r h
  exact wpAny_assign_Name (store_ok I hN hi hx r (fun s' I' => ⟨_, H, I', h⟩) hf)
def gNil : TGs := fun vs σ H Q => vs = [] ∧ Q σ H
def gCons (t : TG) (u : TGs) : TGs := fun vs σ H Q => ∃ v r, vs = v :: r ∧ t v σ H fun σ' H' => u r σ' H' Q
theorem pgs_nil : PGs X [] gNil := by
  intro pins s σ H vs us Q I r h
  obtain ⟨e, h⟩ := h
  subst e
  cases r
  exact assignInOrder_nil ⟨σ, H, I, h⟩
theorem pgs_cons {e : Expr} {es : List Expr} {t : TG} {u : TGs} (h1 : PG X e t) (h2 : PGs X es u)
    (hs : (assignEach (e :: es) X.env).map (·.2) = assign e X.env :: (assignEach es X.env).map (·.2) := by rfl) : PGs X (e :: es) (gCons t u) := by
  intro pins s σ H vs us Q I r h
  obtain ⟨v, vr, e1, h⟩ := h
  subst e1
  cases r with
  | cons r rr =>
    rw [hs]
    refine assignInOrder_cons (thn (h1 pins s σ H _ _ _ I r h) fun _ s1 ⟨σ1, H1, I1, q1⟩ => ?_)
    exact h2 pins s1 σ1 H1 _ _ Q I1 rr q1
/-- (a, b, ..) = a tuple of that length -/
def gTup (K : PySem.W.Frag) (n : Nat) (t : TGs) : TG := fun v σ H Q => ∃ a xs, v = .ref a ∧ SqT K H a xs ∧ xs.length = n ∧ t xs σ H Q
theorem pg_tup {es : List Expr} {k : Nat} {t : TGs} {n : Nat} (hc : X.calm = true) (h : PGs X es t)
    (hn : (assignEach es X.env).length = n := by rfl) (hst : (assignEach es X.env).findIdx? (·.1) = none := by rfl) : PG X (.Tuple es k pos) (gTup X.K n t) := by
  intro pins s σ H v u Q I r hw
  obtain ⟨a, xs, e1, hq, hl, hw⟩ := hw
  subst e1
  cases r
  obtain ⟨its, rv, ht, hz⟩ := I.tuple hq
  refine assign_Tuple_tuple (I.ok.hd hc) ht (by simp [hn, ← hl, rv.length]) hst fun h' hx => ?_
  have I1 : Inv X pins σ H { s with heap := h' } := I.kept (t' := s.toks) fun b o e => hx b o (Nat.ne_of_lt (Heap.lt_size e)) e
  exact h pins _ σ H xs _ Q I1 (by simpa using rv) hw
/-- o[i] = .. -/
def gSub (to ti : TE) (t : TSet) : TG := fun v σ H Q => to σ H fun o H1 => ti σ H1 fun i H2 => t o i v H2 fun H3 => Q σ H3
theorem pg_sub {o i : Expr} {to ti : TE} {t : TSet} (ho : PE X o to) (hi : PE X i ti) (hs : PSet X t)
    (ha : ∀ v, assign (.Subscript o i pos) X.env v = (do
      let ov ← holding [v] (eval o X.env)
      let iv ← holding [v, ov] (eval i X.env)
      standAt pos
      holding [v, ov, iv] (setItem ov iv v)
      release [v, ov, iv] []) := by intro _; rfl) : PG X (.Subscript o i pos) (gSub to ti t) := by
  intro pins s σ H v u Q I r h
  rw [ha]
  refine wpAny_bind (wpAny_holding (thn (ho pins s σ H _ I h) fun ov s1 ⟨x, H1, I1, r1, q1⟩ => ?_))
  refine wpAny_bind (wpAny_holding (thn (hi pins s1 σ H1 _ I1 q1) fun iv s2 ⟨y, H2, I2, r2, q2⟩ => ?_))
  refine wpAny_bind (wpAny_standAt (wpAny_bind (wpAny_holding (thn (hs pins s2 σ H2 x y v ov iv u _ I2 r1 r2 r q2) fun _ s3 ⟨H3, I3, q3⟩ => ?_))))
  exact wpAny_release ⟨σ, H3, I3, q3⟩
/-- target = value -/
def tAsg (te : TE) (g : TG) : TS := fun D σ H => te σ H fun x H1 => g x σ H1 D.nx
theorem ps_asg {tg e : Expr} {te : TE} {g : TG} (he : PE X e te) (hg : PG X tg g) (hs : swapsWithSole [tg] e pos.line X.env = pure false := by rfl) (hw : swappedStores [tg] e X.env = pure none := by rfl)
    (h1 : (assignEach [tg] X.env).map (·.2) = [assign tg X.env] := by rfl) : PS X (.Assign [tg] e pos) (tAsg te g) := by
  intro pins s σ H D I h
  refine wpAny_Assign_stores (thn (he pins s σ H _ I h) fun v s1 ⟨x, H1, I1, r1, q1⟩ => ?_) hs hw
  rw [h1]
  exact thn (hg pins s1 σ H1 x v _ I1 r1 q1) fun _ s2 q => q
/-- name = value -/
theorem ps_set {i : Nat} {x : Str} {e : Expr} {te : TE} {pos' : Pos} (hN : X.N.Nodup) (hi : X.N[i]? = some x) (hx : Loc X.env.scope x) (he : PE X e te) (hs : swapsWith e (some (.Name x pos')) pos.line X.env = pure false := by rfl) (hf : X.fn x = true ∨ X.env.scope.names.lookup x = some .local := by first | exact .inl rfl | exact .inr rfl | assumption) :
    PS X (.Assign [.Name x pos'] e pos) (tAsg te (gName i)) := by
  intro pins s σ H D I h
  refine wpAny_Assign_Name (thn (he pins s σ H _ I h) fun v s1 ⟨y, H1, I1, r1, q1⟩ => ?_) hs
  exact store_ok I1 hN hi hx r1 (fun s2 I2 => ⟨_, H1, I2, q1⟩) hf
end

/-! ### while -/
section
variable {X : Cx} {pos : Pos}
/-- the invariant W with its measure -/
def tWhile (c : TT) (tb : TS) : TS := fun D σ H => ∃ W : Nat → St → Hp → Prop, (∃ m, W m σ H) ∧ ∀ m σ H, W m σ H →
  c σ H fun b H1 => if b = true then ∃ N : St → Hp → Prop, (∀ σ' H', N σ' H' → ∃ m', m' < m ∧ W m' σ' H') ∧ tb { D with nx := N, ct := N, bk := D.nx } σ H1 else D.nx σ H1
theorem ps_while {c : Expr} {body : List Stmt} {tc : TT} {tb : TS} (hp : PassesOwn (model X.prog X.w) X.A X.env X.xe) (hc : PT X c tc) (hb : PSs X body tb) : PS X (.While c body [] pos) (tWhile tc tb) := by
  intro pins s σ H D I h
  obtain ⟨W, ⟨m0, w0⟩, turn⟩ := h
  refine wpAny_While (codeAny_whileLoop (fun n s' => ∃ σ' H', Inv X pins σ' H' s' ∧ W n σ' H') ?_ m0 ⟨σ, H, I, w0⟩)
  rintro n s1 ⟨σ1, H1, I1, w1⟩
  refine wpAny_passesOwn hp (thn (hc pins s1 σ1 H1 _ I1 (turn n σ1 H1 w1)) fun b s2 ⟨H2, I2, q2⟩ => ?_)
  cases b with
  | true =>
    obtain ⟨N, hN, q2⟩ := q2
    rw [if_pos rfl]
    refine wpAny_passesOwn hp (thn (hb pins s2 σ1 H2 _ I2 q2) fun f s3 q3 => ?_)
    cases f with
    | next =>
      obtain ⟨σ3, H3, I3, n3⟩ := q3
      obtain ⟨m', hm, w3⟩ := hN σ3 H3 n3
      exact ⟨m', hm, σ3, H3, I3, w3⟩
    | cont =>
      obtain ⟨σ3, H3, I3, n3⟩ := q3
      obtain ⟨m', hm, w3⟩ := hN σ3 H3 n3
      exact ⟨m', hm, σ3, H3, I3, w3⟩
    | brk => exact q3
    | ret v => exact q3
  | false =>
    rw [if_neg Bool.false_ne_true]
    exact wpAny_execs_nil ⟨σ1, H2, I2, q2⟩
end

/-! ### what a loop or a comprehension walks -/
/-- at turn i: it yields x (the heap may grow), or it stops -/
structure It where
  go : Nat → Hp → Prop
  yld : Nat → Hp → V → Hp → Prop
  stop : Nat → Hp → Prop
/-- the iterator's own objects may turn: they are not the frame's, not pinned, younger than the entry (or a comprehension's own) -/
def FpOk (X : Cx) (pins : List (Addr × Obj)) (H : Hp) (b : Addr) : Prop :=
  H b = none ∧ b ≠ X.env.locals ∧ b ∉ X.fs ∧ (b ∈ X.ex ∨ X.s₀.heap.objs.size ≤ b) ∧ (∀ x c, X.env.cells.lookup x = some c → c ≠ b) ∧ ∀ p ∈ X.pn ++ pins, p.1 ≠ b
theorem Inv.fpOk {X : Cx} {pins : List (Addr × Obj)} {σ : St} {H H' : Hp} {s : Shared} {b : Addr} (I : Inv X pins σ H s) (hb : s.heap.objs.size ≤ b) (hn : H' b = none) : FpOk X pins H' b := by
  refine ⟨hn, Nat.ne_of_gt (Nat.lt_of_lt_of_le I.lt hb), I.nofs hb, .inr (Nat.le_trans I.sz hb), fun x c e z => ?_, fun p hp z => ?_⟩
  · obtain ⟨v, q⟩ := I.cell x c e
    exact absurd (Nat.lt_of_lt_of_le q.lt (by rw [z]; exact hb)) (Nat.lt_irrefl _)
  · exact absurd (Nat.lt_of_lt_of_le (Heap.lt_size (I.pin p hp).1) (by rw [z]; exact hb)) (Nat.lt_irrefl _)
structure Turn (P : Program) (w : World) (K : PySem.W.Frag) (tg : Expr) (J : It) (fp : List Addr) (it : Addr) (tn : Nat → Heap → Prop) : Prop where
  mem : it ∈ fp
  obj : ∀ i h, tn i h → ∀ b ∈ fp, ∃ o, h.get? b = some o ∧ ∀ v, o.data ≠ .cell v
  keep : ∀ i h h', tn i h → (∀ b ∈ fp, ∀ o, h.get? b = some o → h'.get? b = some o) → tn i h'
  item : ∀ (X : Cx), X.prog = P → X.w = w → X.K = K → X.calm = true → ∀ (i : Nat) (pins : List (Addr × Obj)) (s : Shared) (σ : St) (H : Hp) (E : Value → Shared → Prop), Inv X pins σ H s → (∀ b ∈ fp, FpOk X pins H b) → tn i s.heap → J.go i H →
    wpAny (model P w) X.A (pyNext (.ref it)) (fun r s1 => ∃ u, r = some u ∧
      wpAny (model P w) X.A (letOwnedTupleGo tg (.ref it) u) (fun _ s2 => ∃ x H', Inv X pins σ H' s2 ∧ RelV x u ∧ J.yld i H x H' ∧ tn (i + 1) s2.heap ∧ ∀ b ∈ fp, H' b = none) E s1) E s
  done : ∀ (X : Cx), X.prog = P → X.w = w → X.K = K → X.calm = true → ∀ (i : Nat) (pins : List (Addr × Obj)) (s : Shared) (σ : St) (H : Hp) (E : Value → Shared → Prop), Inv X pins σ H s → (∀ b ∈ fp, FpOk X pins H b) → tn i s.heap → J.stop i H →
    wpAny (model P w) X.A (pyNext (.ref it)) (fun r s1 => r = none ∧ Inv X pins σ H s1) E s
  self : ∀ (A : Around) (i : Nat) (s : Shared) (Q : Value → Shared → Prop) (E : Value → Shared → Prop), tn i s.heap → Q (.ref it) s → wpAny (model P w) A (pyIter (.ref it)) Q E s
abbrev TI := St → Hp → (It → Hp → Prop) → Prop
/-- an iterator has come -/
def PIE (X : Cx) (pins : List (Addr × Obj)) (σ : St) (tg : Expr) (R : It → Hp → Prop) (itv : Value) (s2 : Shared) : Prop :=
  ∃ (it : Addr) (fp : List Addr) (tn : Nat → Heap → Prop) (J : It) (H' : Hp), itv = .ref it ∧ Inv X pins σ H' s2 ∧ Turn X.prog X.w X.K tg J fp it tn ∧ tn 0 s2.heap ∧ (∀ b ∈ fp, FpOk X pins H' b) ∧ R J H'
def PI (X : Cx) (tg iter : Expr) (wi : TI) : Prop :=
  ∀ (pins : List (Addr × Obj)) (s : Shared) (σ : St) (H : Hp) (R : It → Hp → Prop), Inv X pins σ H s → wi σ H R →
    wpAny (model X.prog X.w) X.A (eval iter X.env) (fun v s1 => wpAny (model X.prog X.w) X.A (pyIter v) (PIE X pins σ tg R) X.xe s1) X.xe s

/-- the step ahead of the store is nothing for an iterator that keeps no tuple -/
theorem go_of {M : Model} {A : Around} {E : Value → Shared → Prop} {s : Shared} {tg : Expr} {it : Addr} {u : Value} {o : Obj} {n : String} {vs : Array Value} {Q : Unit → Shared → Prop} (ho : s.heap.get? it = some o) (hc : o.cls = .type n) (hd : o.data = .fields vs)
    (hn : ["enumerate", "zip", "dict_itemiterator", "dict_reverseitemiterator", "odict_iterator", "itertools.zip_longest", "itertools.pairwise"].contains n = false) (hQ : Q () s) : wpAny M A (letOwnedTupleGo tg (.ref it) u) Q E s := by
  unfold letOwnedTupleGo
  cases tg <;> first
    | exact wpAny_pure hQ
    | (cases u <;> first
        | exact wpAny_pure hQ
        | (refine wpAny_bind (wpAny_load ho ?_)
           rw [hc, hd]
           show wpAny M A (if (["enumerate", "zip", "dict_itemiterator", "dict_reverseitemiterator", "odict_iterator", "itertools.zip_longest", "itertools.pairwise"].contains n && vs[0]? == some (rawInt _)) = true then _ else _) Q E s
           rw [if_neg (by intro h; rw [hn, Bool.false_and] at h; cases h)]
           exact wpAny_pure hQ))

/-- the list at a, as it stands at each turn (a loop may append to it) -/
def Itl (K : PySem.W.Frag) (a : Addr) : It :=
  ⟨fun i H => ∃ xs x, SqL K H a xs ∧ xs[i]? = some x, fun i H x H' => H' = H ∧ ∀ xs, SqL K H a xs → xs[i]? = some x, fun i H => ∃ xs, SqL K H a xs ∧ xs.length ≤ i⟩
/-- lo, lo + 1, .. (n of them) -/
def Itr (lo : Int) (n : Nat) : It := ⟨fun i _ => i < n, fun i H x H' => H' = H ∧ x = .int (lo + i), fun i _ => n ≤ i⟩
theorem turn_list {P : Program} {w : World} {K : PySem.W.Frag} {tg : Expr} (a it : Addr) : Turn P w K tg (Itl K a) [it] it (fun i h => h.IsListIter it a i) where
  mem := by simp
  obj := fun i h st b hb => by
    have e : b = it := by simpa using hb
    subst e
    obtain ⟨o, e, c, d⟩ := st
    exact ⟨o, e, fun v z => by rw [d] at z; cases z⟩
  keep := fun i h h' st k => st.at fun o e => k it (by simp) o e
  item := by
    intro X hP hw hK hc i pins s σ H E I hf st hg
    subst hP hw hK
    obtain ⟨xs, x, hq, hx⟩ := hg
    obtain ⟨its, rv, p, hz⟩ := I.list hq
    obtain ⟨u, hu, ru⟩ := rv.get hx
    obtain ⟨f0, f1, f2, f3, f4, f5⟩ := hf it (by simp)
    refine wpAny_pyNext_list_item st p.isList (x := u) (by simpa using hu) fun h' st' sb => ?_
    have I1 : Inv X pins σ H { s with heap := h' } := I.turned (t' := s.toks) (fun b o hb e => (sb.2 b hb).trans e) f0 f1 f3 f4 f5
    obtain ⟨o, e, c, d⟩ := id st'
    exact ⟨u, rfl, go_of (s := { s with heap := h' }) e c d (by decide) ⟨x, H, I1, ru, ⟨rfl, fun ys hy => by rw [I.list_inj hy hq]; exact hx⟩, st', fun b hb => (hf b hb).1⟩⟩
  done := by
    intro X hP hw hK hc i pins s σ H E I hf st hg
    subst hP hw hK
    obtain ⟨xs, hq, hx⟩ := hg
    obtain ⟨its, rv, p, hz⟩ := I.list hq
    obtain ⟨f0, f1, f2, f3, f4, f5⟩ := hf it (by simp)
    have hl := rv.length
    exact wpAny_pyNext_list_end (I.ok.hd hc) st p.isList (by simp; omega) fun h' eb => ⟨rfl, I.turned (t' := s.toks) (fun b o hb e => eb b o hb e) f0 f1 f3 f4 f5⟩
  self := fun _ _ _ _ _ st h => wpAny_pyIter_listiter st h
theorem turn_range {P : Program} {w : World} {K : PySem.W.Frag} {tg : Expr} (it : Addr) (lo : Int) (n : Nat) : Turn P w K tg (Itr lo n) [it] it (fun i h => IsRangeIter h it (lo + (i : Nat) * 1) ((n : Int) - (i : Nat)) 1) where
  mem := by simp
  obj := fun i h st b hb => by
    have e : b = it := by simpa using hb
    subst e
    exact ⟨_, st, fun v z => by
      have z' : Data.fields _ = Data.cell v := z
      cases z'⟩
  keep := fun i h h' st k => k it (by simp) _ st
  item := by
    intro X hP hw hK hc i pins s σ H E I hf st hg
    subst hP hw hK
    obtain ⟨f0, f1, f2, f3, f4, f5⟩ := hf it (by simp)
    have W := Walks.range (prog := X.prog) (w := X.w) (I.ok.hd hc) it lo 1 n
    refine W.item i s _ _ hg st fun v h' tk hv st' kk => ?_
    obtain ⟨t, rfl⟩ := hv
    have I1 : Inv X pins σ H { s with heap := h', toks := tk } := I.turned (fun b o hb e => kk b o (by simpa using hb) e) f0 f1 f3 f4 f5
    refine ⟨_, rfl, go_of (s := { s with heap := h', toks := tk }) (n := "range_iterator") st' rfl rfl (by decide) ⟨.int (lo + i), H, I1, ⟨t, ?_⟩, ⟨rfl, rfl⟩, st', fun b hb => (hf b hb).1⟩⟩
    rw [Int.mul_one]
  done := by
    intro X hP hw hK hc i pins s σ H E I hf st hg
    subst hP hw hK
    obtain ⟨f0, f1, f2, f3, f4, f5⟩ := hf it (by simp)
    exact wpAny_pyNext_range_end (I.ok.hd hc) st (by have : n ≤ i := hg; omega) fun h' eb => ⟨rfl, I.turned (t' := s.toks) (fun b o hb e => eb b o hb e) f0 f1 f3 f4 f5⟩
  self := fun _ _ _ _ _ st h => wpAny_pyIter_rangeiter st h
end L2

namespace L2
open PySem PySem.Spec PyProof.Rows
section
variable {X : Cx} {tg : Expr}
def iList (K : PySem.W.Frag) (tl : TE) : TI := fun σ H R => tl σ H fun x H1 => ∃ a, x = .ref a ∧ (∃ xs, SqL K H1 a xs) ∧ R (Itl K a) H1
theorem pi_list {l : Expr} {tl : TE} (hl : PE X l tl) : PI X tg l (iList X.K tl) := by
  intro pins s σ H R I h
  refine thn (hl pins s σ H _ I h) fun v s1 ⟨x, H1, I1, r1, q1⟩ => ?_
  obtain ⟨a, e, ⟨xs, hq⟩, q⟩ := q1
  subst e
  cases r1
  obtain ⟨its, rv, p, hz⟩ := I1.list hq
  refine wpAny_pyIter_list p.isList ?_
  refine ⟨s1.heap.objs.size, [s1.heap.objs.size], _, _, H1, rfl, I1.kept (t' := s1.toks) fun b o e => Heap.get?_push_of_some _ e, turn_list a _, ⟨_, Heap.get?_push_size _ rfl, rfl, rfl⟩, fun b hb => ?_, q⟩
  have e : b = s1.heap.objs.size := by simpa using hb
  subst e
  exact I1.fpOk (Nat.le_refl _) (I1.hok.fresh (Nat.le_refl _))
/-- a range object just made, walked -/
theorem range_it {pins : List (Addr × Obj)} {σ : St} {H : Hp} {s : Shared} {R : It → Hp → Prop} {E : Value → Shared → Prop} {lo hi : Int} {t u v : Tok} {tk : Nat} (I : Inv X pins σ H s) (h1 : -(2 ^ 62) ≤ lo) (h2 : lo < 2 ^ 62) (h3 : -(2 ^ 62) ≤ hi) (h4 : hi < 2 ^ 62)
    (q : R (Itr lo (hi - lo).toNat) H) : wpAny (model X.prog X.w) X.A (pyIter (.ref s.heap.objs.size)) (PIE X pins σ tg R) E { s with heap := s.heap.push { cls := .type "range", data := .fields #[.int lo t, .int hi u, .int 1 v] }, toks := tk } := by
  refine wpAny_pyIter_range (IsRange.new ..) (small_one h1 h2 h3 h4) ?_
  have I1 : Inv X pins σ H { s with heap := s.heap.push { cls := .type "range", data := .fields #[.int lo t, .int hi u, .int 1 v] }, toks := tk } := I.kept fun b o e => Heap.get?_push_of_some _ e
  refine ⟨(s.heap.push { cls := .type "range", data := .fields #[.int lo t, .int hi u, .int 1 v] }).objs.size, [(s.heap.push { cls := .type "range", data := .fields #[.int lo t, .int hi u, .int 1 v] }).objs.size], _, _, H, rfl,
    I1.kept (t' := tk) fun b o e => Heap.get?_push_of_some _ e, turn_range _ lo (hi - lo).toNat, ?_, fun b hb => ?_, q⟩
  · have e1 : lo + ((0 : Nat) : Int) * 1 = lo := by simp
    have e2 : (((hi - lo).toNat : Nat) : Int) - ((0 : Nat) : Int) = Builtin.Range.rangeSize lo hi 1 := by rw [rangeSize_one]; split <;> omega
    show IsRangeIter _ _ (lo + ((0 : Nat) : Int) * 1) ((((hi - lo).toNat : Nat) : Int) - ((0 : Nat) : Int)) 1
    rw [e1, e2]
    exact Heap.get?_push_size _ rfl
  · have e : b = (s.heap.push { cls := .type "range", data := .fields #[.int lo t, .int hi u, .int 1 v] }).objs.size := by simpa using hb
    subst e
    exact I1.fpOk (Nat.le_refl _) (I1.hok.fresh (Nat.le_refl _))
def iRng1 (ta : TA) : TI := fun σ H R => ta σ H fun vs H1 => ∃ j : Int, vs = [.int j] ∧ -(2 ^ 62) ≤ j ∧ j < 2 ^ 62 ∧ R (Itr 0 j.toNat) H1
theorem pi_range1 {a : Expr} {ta : TA} {p pos : Pos} (hg : Gl X "range") (hm : X.mg "range" = none) (ha : PA X [a] ta) (hs : starEach [a] X.env = [(false, eval a X.env)] := by rfl) : PI X tg (.Call (.Name "range" p) [a] [] pos) (iRng1 ta) := by
  intro pins s σ H R I h
  refine Call_ (ld_blt I hg hm boot_range (PyProof.Rows.callWith_type1 (thn (ha pos pins s σ H _ I h) fun us s1 ⟨vs, H1, I1, r1, q1⟩ => ?_) hs rfl))
  obtain ⟨j, e, q1, q2, q⟩ := q1
  subst e
  cases r1 with
  | cons r rr =>
    cases rr
    obtain ⟨t, rfl⟩ := r
    exact call_range_1 (range_it I1 (by omega) (by omega) q1 q2 (by simpa using q))
/-! ### for -/
/-- W: the invariant by the turn and a measure; N: what the body is to reach -/
def tFor (wi : TI) (g : TG) (tb : TS) : TS := fun D σ H => wi σ H fun J H1 => ∃ W : Nat → Nat → St → Hp → Prop, (∃ m, W 0 m σ H1) ∧ ∀ i m σ H, W i m σ H →
  (J.stop i H ∧ D.nx σ H) ∨ (J.go i H ∧ ∃ N : St → Hp → Prop, (∀ σ' H', N σ' H' → ∃ m', m' < m ∧ W (i + 1) m' σ' H') ∧ ∀ x H', J.yld i H x H' → g x σ H' fun σ2 H2 => tb { D with nx := N, ct := N, bk := D.nx } σ2 H2)
/-- the records at fp as they stand -/
def pinsAt (fp : List Addr) (h : Heap) : List (Addr × Obj) := fp.filterMap fun b => (h.get? b).map fun o => (b, o)
theorem mem_pinsAt {fp : List Addr} {h : Heap} {b : Addr} {o : Obj} (hb : b ∈ fp) (e : h.get? b = some o) : (b, o) ∈ pinsAt fp h := List.mem_filterMap.mpr ⟨b, hb, by rw [e]; rfl⟩
theorem of_pinsAt {fp : List Addr} {h : Heap} {p : Addr × Obj} (hp : p ∈ pinsAt fp h) : p.1 ∈ fp ∧ h.get? p.1 = some p.2 := by
  obtain ⟨b, hb, e⟩ := List.mem_filterMap.mp hp
  cases q : h.get? b with
  | none => rw [q] at e; cases e
  | some o =>
    rw [q] at e
    have e' : (b, o) = p := Option.some.inj e
    subst e'
    exact ⟨hb, q⟩
theorem Inv.pinned {pins : List (Addr × Obj)} {σ : St} {H : Hp} {s : Shared} {fp : List Addr} (I : Inv X pins σ H s) (hf : ∀ b ∈ fp, FpOk X pins H b) (ho : ∀ b ∈ fp, ∃ o, s.heap.get? b = some o ∧ ∀ v, o.data ≠ .cell v) : Inv X (pins ++ pinsAt fp s.heap) σ H s :=
  I.pins_of fun p hp => (List.mem_append.mp hp).elim (fun z => I.pin p (List.mem_append_right _ z)) fun z => by
    obtain ⟨hb, e⟩ := of_pinsAt z
    obtain ⟨f0, f1, f2, _⟩ := hf p.1 hb
    obtain ⟨o, e', d⟩ := ho p.1 hb
    rw [e] at e'; cases e'
    exact ⟨e, f0, f1, f2, d⟩
theorem Inv.unpinned {pins pl : List (Addr × Obj)} {σ : St} {H : Hp} {s : Shared} (I : Inv X (pins ++ pl) σ H s) : Inv X pins σ H s := I.pins_of fun p hp => I.pin p (List.mem_append_right _ (List.mem_append_left _ hp))
theorem ps_for {iter : Expr} {body : List Stmt} {wi : TI} {g : TG} {tb : TS} {pos : Pos} (hp : PassesOwn (model X.prog X.w) X.A X.env X.xe) (hc : X.calm = true) (hi : PI X tg iter wi) (hg : PG X tg g) (hb : PSs X body tb)
    (hs : ∀ x, foldedSetIterable iter X.env x = pure x := by intro _; rfl) : PS X (.For tg iter body [] pos) (tFor wi g tb) := by
  intro pins s σ H D I h
  refine wpAny_For (thn (hi pins s σ H _ I h) fun v s1 h1 => thn h1 fun itv s2 h2 => ?_) hs
  obtain ⟨it, fp, tn, J, H2, e, I2, T, st2, f2, W, ⟨m0, w0⟩, turn⟩ := h2
  subst e
  -- what stays true of the iterator's objects through the loop
  have stat : ∀ {H' : Hp}, (∀ b ∈ fp, H' b = none) → ∀ b ∈ fp, FpOk X pins H' b := fun hn b hb => ⟨hn b hb, (f2 b hb).2⟩
  refine codeAny_forLoop_any (fun n s' => ∃ i σ' H', Inv X pins σ' H' s' ∧ tn i s'.heap ∧ (∀ b ∈ fp, H' b = none) ∧ W i n σ' H') ?_ m0 ⟨0, σ, H2, I2, st2, fun b hb => (f2 b hb).1, w0⟩
  rintro n s3 ⟨i, σ3, H3, I3, st3, fr3, w3⟩
  rcases turn i n σ3 H3 w3 with ⟨stop, qn⟩ | ⟨go, N, hN, step⟩
  · refine wpAny_passesOwn hp (thn (T.done X rfl rfl rfl hc i pins s3 σ3 H3 X.xe I3 (stat fr3) st3 stop) fun r s4 ⟨hr, I4⟩ => ?_)
    subst hr
    exact wpAny_execs_nil ⟨σ3, H3, I4, qn⟩
  · refine wpAny_passesOwn hp (thn (T.item X rfl rfl rfl hc i pins s3 σ3 H3 X.xe I3 (stat fr3) st3 go) fun r s4 ⟨u, hr, h4⟩ => ?_)
    subst hr
    refine wpAny_passesOwn hp (thn h4 fun _ s5 ⟨x, H5, I5, r5, y5, st5, fr5⟩ => ?_)
    have I5' := I5.pinned (stat fr5) (T.obj _ _ st5)
    refine wpAny_passesOwn hp (thn (hg _ s5 σ3 H5 x u _ I5' r5 (step x H5 y5)) fun _ s6 ⟨σ6, H6, I6, q6⟩ => ?_)
    refine wpAny_passesOwn hp (thn (hb _ s6 σ6 H6 _ I6 q6) fun f s7 q7 => ?_)
    have again : ∀ {σ7 : St} {H7 : Hp}, Inv X (pins ++ pinsAt fp s5.heap) σ7 H7 s7 → N σ7 H7 → ∃ m, m < n ∧ ∃ i σ' H', Inv X pins σ' H' s7 ∧ tn i s7.heap ∧ (∀ b ∈ fp, H' b = none) ∧ W i m σ' H' := fun {σ7 H7} I7 n7 => by
      obtain ⟨m', hm, w7⟩ := hN σ7 H7 n7
      refine ⟨m', hm, i + 1, σ7, H7, I7.unpinned, T.keep _ _ _ st5 fun b hb o e => (I7.pin (b, o) (List.mem_append_right _ (List.mem_append_right _ (mem_pinsAt hb e)))).1, fun b hb => ?_, w7⟩
      obtain ⟨o, e, d⟩ := T.obj _ _ st5 b hb
      exact (I7.pin (b, o) (List.mem_append_right _ (List.mem_append_right _ (mem_pinsAt hb e)))).2.1
    cases f with
    | next => obtain ⟨σ7, H7, I7, n7⟩ := q7; exact again I7 n7
    | cont => obtain ⟨σ7, H7, I7, n7⟩ := q7; exact again I7 n7
    | brk => obtain ⟨σ7, H7, I7, q7⟩ := q7; exact ⟨σ7, H7, I7.unpinned, q7⟩
    | ret v => obtain ⟨x7, σ7, H7, I7, r7, q7⟩ := q7; exact ⟨x7, σ7, H7, I7.unpinned, r7, q7⟩
end

/-! ### the forms one uses -/
end L2

namespace L2
open PySem PySem.Spec PyProof.Rows

abbrev R2 := V → V → Hp → VK → Prop
/-- a two-place operation on values: f is binaryOp op, inplaceOp op or compareOp op -/
def OpR (X : Cx) (f : Value → Value → Sem Value) (r : R2) : Prop :=
  ∀ (pins : List (Addr × Obj)) (s : Shared) (σ : St) (H : Hp) (x y : V) (v u : Value) (Q : VK), Inv X pins σ H s → RelV x v → RelV y u → r x y H Q →
    wpAny (model X.prog X.w) X.A (f v u) (EP X pins σ Q) X.xe s
/-- a one-place operation -/
def UnR (X : Cx) (f : Value → Sem Value) (r : V → Hp → VK → Prop) : Prop :=
  ∀ (pins : List (Addr × Obj)) (s : Shared) (σ : St) (H : Hp) (x : V) (v : Value) (Q : VK), Inv X pins σ H s → RelV x v → r x H Q →
    wpAny (model X.prog X.w) X.A (f v) (EP X pins σ Q) X.xe s
/-- a call of a value that is known (a builtin, a type) with values -/
def CallR (X : Cx) (f : Value) (r : List V → Hp → VK → Prop) : Prop :=
  ∀ (pins : List (Addr × Obj)) (s : Shared) (σ : St) (H : Hp) (xs : List V) (us : List Value) (Q : VK), Inv X pins σ H s → Vals xs us → r xs H Q →
    wpAny (model X.prog X.w) X.A (call f us) (EP X pins σ Q) X.xe s
def tOp (r : R2) (ta tb : TE) : TE := fun σ H Q => ta σ H fun x H1 => tb σ H1 fun y H2 => r x y H2 Q
def tUn (r : V → Hp → VK → Prop) (ta : TE) : TE := fun σ H Q => ta σ H fun x H1 => r x H1 Q
/-- ints in, under C, and a value out -/
def rI (C : Int → Int → Prop) (g : Int → Int → V) : R2 := fun x y H Q => ∃ i j, x = .int i ∧ y = .int j ∧ C i j ∧ Q (g i j) H
def rI0 (g : Int → Int → V) : R2 := fun x y H Q => ∃ i j, x = .int i ∧ y = .int j ∧ Q (g i j) H
def rU (g : Int → V) : V → Hp → VK → Prop := fun x H Q => ∃ i, x = .int i ∧ Q (g i) H

section
variable {X : Cx} {a b c : Expr} {ta tb tc : TE} {pos : Pos}

theorem binT (ha : PE X a ta) (hb : PE X b tb) {pins : List (Addr × Obj)} {s : Shared} {σ : St} {H : Hp} {R : V → V → Hp → Prop} (I : Inv X pins σ H s)
    (h : ta σ H fun x H1 => tb σ H1 fun y H2 => R x y H2) {Q : Value → Shared → Prop} {f : Value → Value → Sem Value}
    (hf : ∀ v u s2 x y H2, Inv X pins σ H2 s2 → RelV x v → RelV y u → R x y H2 → wpAny (model X.prog X.w) X.A (f v u) Q X.xe s2) :
    wpAny (model X.prog X.w) X.A (eval a X.env) (fun v s₁ => wpAny (model X.prog X.w) X.A (eval b X.env) (fun u s₂ => wpAny (model X.prog X.w) X.A (f v u) Q X.xe s₂) X.xe s₁) X.xe s := by
  refine thn (ha pins s σ H _ I h) fun v s1 ⟨x, H1, I1, r1, q1⟩ => ?_
  refine thn (hb pins s1 σ H1 _ I1 q1) fun u s2 ⟨y, H2, I2, r2, q2⟩ => ?_
  exact hf v u s2 x y H2 I2 r1 r2 q2

theorem pe_op {op : Operator} {r : R2} (ho : OpR X (binaryOp op) r) (ha : PE X a ta) (hb : PE X b tb) : PE X (.BinOp a op b pos) (tOp r ta tb) := by
  intro pins s σ H Q I h
  exact wpAny_BinOp (binT ha hb I h fun v u s2 x y H2 I2 rx ry q => ho pins s2 σ H2 x y v u Q I2 rx ry q)
theorem pe_un {op : UnaryOp} {r : V → Hp → VK → Prop} (ho : UnR X (unaryOp op) r) (ha : PE X a ta) : PE X (.UnaryOp op a pos) (tUn r ta) := by
  intro pins s σ H Q I h
  exact UnaryOp_ (thn (ha pins s σ H _ I h) fun v s1 ⟨x, H1, I1, r1, q1⟩ => ho pins s1 σ H1 x v Q I1 r1 q1)
/-! ### ints -/
theorem opI {f : Value → Value → Sem Value} {C : Int → Int → Prop} {g : Int → Int → Int}
    (rule : ∀ (i j : Int) (t u : Tok) (s : Shared) (Q : Value → Shared → Prop) (E : Value → Shared → Prop), C i j → Q (.int (g i j) s.toks) { s with toks := s.toks + 1 } → wpAny (model X.prog X.w) X.A (f (.int i t) (.int j u)) Q E s) :
    OpR X f (rI C fun i j => .int (g i j)) := by
  intro pins s σ H x y v u Q I rx ry h
  obtain ⟨i, j, rfl, rfl, hc, q⟩ := h
  obtain ⟨t, rfl⟩ := rx
  obtain ⟨t', rfl⟩ := ry
  exact rule i j t t' s _ _ hc ⟨.int (g i j), H, I.tok _, ⟨_, rfl⟩, q⟩
theorem opI0 {f : Value → Value → Sem Value} {g : Int → Int → Int}
    (rule : ∀ (i j : Int) (t u : Tok) (s : Shared) (Q : Value → Shared → Prop) (E : Value → Shared → Prop), Q (.int (g i j) s.toks) { s with toks := s.toks + 1 } → wpAny (model X.prog X.w) X.A (f (.int i t) (.int j u)) Q E s) :
    OpR X f (rI0 fun i j => .int (g i j)) := by
  intro pins s σ H x y v u Q I rx ry h
  obtain ⟨i, j, rfl, rfl, q⟩ := h
  obtain ⟨t, rfl⟩ := rx
  obtain ⟨t', rfl⟩ := ry
  exact rule i j t t' s _ _ ⟨.int (g i j), H, I.tok _, ⟨_, rfl⟩, q⟩
theorem opB0 {f : Value → Value → Sem Value} {g : Int → Int → Bool}
    (rule : ∀ (i j : Int) (t u : Tok) (s : Shared) (Q : Value → Shared → Prop) (E : Value → Shared → Prop), Q (.bool (g i j)) s → wpAny (model X.prog X.w) X.A (f (.int i t) (.int j u)) Q E s) :
    OpR X f (rI0 fun i j => .bl (g i j)) := by
  intro pins s σ H x y v u Q I rx ry h
  obtain ⟨i, j, rfl, rfl, q⟩ := h
  obtain ⟨t, rfl⟩ := rx
  obtain ⟨t', rfl⟩ := ry
  exact rule i j t t' s _ _ ⟨.bl (g i j), H, I, rfl, q⟩

def CPow (i j : Int) : Prop := 0 ≤ j ∧ j ≤ 1000000 ∧ i.natAbs < 2 ^ 64
def CMul (i j : Int) : Prop := (-(2 ^ 64) < i ∧ i < 2 ^ 64) ∨ (-(2 ^ 64) < j ∧ j < 2 ^ 64)
theorem CMul.ok {i j : Int} (h : CMul i j) : IntMulOk i j := by
  rcases h with ⟨h1, h2⟩ | ⟨h1, h2⟩
  · exact .of_left (intBits_le_64 h1 h2)
  · exact .of_right (intBits_le_64 h1 h2)
theorem op_add : OpR X (binaryOp .Add) (rI0 fun i j => .int (i + j)) := opI0 fun _ _ _ _ _ _ _ q => add_int q
theorem op_sub : OpR X (binaryOp .Sub) (rI0 fun i j => .int (i - j)) := opI0 fun _ _ _ _ _ _ _ q => sub_int q
/-- % by a positive divisor of any size -/
theorem op_mod : OpR X (binaryOp .Mod) (rI (fun _ j => 0 < j) fun i j => .int (i % j)) := opI fun i j _ _ _ _ _ hc q => by
  have h1 : (0 : Int) < j := hc
  exact mod_int' (by omega) (by rw [Int.fmod_eq_emod_of_nonneg i (by omega)]; exact q)
theorem op_pow : OpR X (binaryOp .Pow) (rI CPow fun i j => .int (i ^ j.toNat)) := opI fun _ _ _ _ _ _ _ hc q => pow_int_small hc.1 hc.2.1 hc.2.2 q
theorem unI {f : Value → Sem Value} {g : Int → Int}
    (rule : ∀ (i : Int) (t : Tok) (s : Shared) (Q : Value → Shared → Prop) (E : Value → Shared → Prop), Q (.int (g i) s.toks) { s with toks := s.toks + 1 } → wpAny (model X.prog X.w) X.A (f (.int i t)) Q E s) :
    UnR X f (rU fun i => .int (g i)) := by
  intro pins s σ H x v Q I rx h
  obtain ⟨i, rfl, q⟩ := h
  obtain ⟨t, rfl⟩ := rx
  exact rule i t s _ _ ⟨.int (g i), H, I.tok _, ⟨_, rfl⟩, q⟩
theorem un_neg : UnR X (unaryOp .USub) (rU fun i => .int (-i)) := unI fun _ _ _ _ _ q => neg_int q
/-! ### bools among ints: n += (a < b) -/
end

/-! ### comparisons -/
/-- the scalars that == tells apart as data does -/
def scal : V → V → Bool
  | .non, .non => true | .non, .int _ => true | .int _, .non => true | .non, .bl _ => true | .bl _, .non => true | .non, .str _ => true | .str _, .non => true
  | .int _, .int _ => true | .bl _, .bl _ => true | .str _, .str _ => true | .byt _, .byt _ => true
  | .int _, .str _ => true | .str _, .int _ => true | .bl _, .str _ => true | .str _, .bl _ => true
  | _, _ => false
def rEq : R2 := fun x y H Q => scal x y = true ∧ Q (.bl (decide (x = y))) H
def rNe : R2 := fun x y H Q => scal x y = true ∧ Q (.bl (!decide (x = y))) H

theorem dec_int {i j : Int} : decide (V.int i = V.int j) = (i == j) := by
  rw [Bool.eq_iff_iff]
  simp
theorem dec_bl {i j : Bool} : decide (V.bl i = V.bl j) = (i == j) := by
  rw [Bool.eq_iff_iff]
  simp
theorem dec_str {i j : Str} : decide (V.str i = V.str j) = (i == j) := by
  rw [Bool.eq_iff_iff]
  simp
theorem dec_byt {i j : Array UInt8} : decide (V.byt i = V.byt j) = (i.toList == j.toList) := by
  rw [Bool.eq_iff_iff]
  cases i
  cases j
  simp

section
variable {X : Cx} {a b c : Expr} {ta tb tc : TE} {pos : Pos}
theorem fin_bl {pins : List (Addr × Obj)} {σ : St} {H : Hp} {s : Shared} {Q : VK} {k k' : Bool} (I : Inv X pins σ H s) (q : Q (.bl k) H) (e : k = k') : EP X pins σ Q (.bool k') s := by
  subst e
  exact ⟨.bl k, H, I, rfl, q⟩
theorem op_eq : OpR X (compareOp .Eq) rEq := by
  intro pins s σ H x y v u Q I rx ry h
  obtain ⟨hs, q⟩ := h
  cases x with
  | non =>
    cases rx
    cases y with
    | non => cases ry; exact PySem.EqNone.eq_none_none (fin_bl I q (by simp))
    | bl j => cases ry; exact PySem.EqNone.eq_none_bool (fin_bl I q (by simp))
    | int j => obtain ⟨t', rfl⟩ := ry; exact PySem.EqNone.eq_none_int (fin_bl I q (by simp))
    | str j => obtain ⟨t', rfl⟩ := ry; exact PySem.EqNone.eq_none_str (fin_bl I q (by simp))
    | _ => exact absurd (show false = true from hs) Bool.false_ne_true
  | bl i =>
    cases rx
    cases y with
    | non => cases ry; exact PySem.EqNone.eq_bool_none (fin_bl I q (by simp))
    | bl j => cases ry; exact eq_bool (fin_bl I q dec_bl)
    | str j => obtain ⟨t', rfl⟩ := ry; exact PySem.EqMixed.eq_bool_str (fin_bl I q (by simp))
    | _ => exact absurd (show false = true from hs) Bool.false_ne_true
  | int i =>
    obtain ⟨t, rfl⟩ := rx
    cases y with
    | non => cases ry; exact PySem.EqNone.eq_int_none (fin_bl I q (by simp))
    | int j => obtain ⟨t', rfl⟩ := ry; exact eq_int (fin_bl I q dec_int)
    | str j => obtain ⟨t', rfl⟩ := ry; exact PySem.EqMixed.eq_int_str (fin_bl I q (by simp))
    | _ => exact absurd (show false = true from hs) Bool.false_ne_true
  | str i =>
    obtain ⟨t, rfl⟩ := rx
    cases y with
    | non => cases ry; exact PySem.EqNone.eq_str_none (fin_bl I q (by simp))
    | bl j => cases ry; exact PySem.EqMixed.eq_str_bool (fin_bl I q (by simp))
    | int j => obtain ⟨t', rfl⟩ := ry; exact PySem.EqMixed.eq_str_int (fin_bl I q (by simp))
    | str j => obtain ⟨t', rfl⟩ := ry; exact eq_str (fin_bl I q dec_str)
    | _ => exact absurd (show false = true from hs) Bool.false_ne_true
  | byt i =>
    obtain ⟨t, rfl⟩ := rx
    cases y with
    | byt j => obtain ⟨t', rfl⟩ := ry; exact PySem.W.eq_bytes (fin_bl I q dec_byt)
    | _ => exact absurd (show false = true from hs) Bool.false_ne_true
  | _ => cases y <;> exact absurd (show false = true from hs) Bool.false_ne_true
theorem op_ne : OpR X (compareOp .NotEq) rNe := by
  intro pins s σ H x y v u Q I rx ry h
  obtain ⟨hs, q⟩ := h
  cases x with
  | non =>
    cases rx
    cases y with
    | non => cases ry; exact PySem.EqNone.ne_none_none (fin_bl I q (by simp))
    | bl j => cases ry; exact PySem.EqNone.ne_none_bool (fin_bl I q (by simp))
    | int j => obtain ⟨t', rfl⟩ := ry; exact PySem.EqNone.ne_none_int (fin_bl I q (by simp))
    | str j => obtain ⟨t', rfl⟩ := ry; exact PySem.EqNone.ne_none_str (fin_bl I q (by simp))
    | _ => exact absurd (show false = true from hs) Bool.false_ne_true
  | bl i =>
    cases rx
    cases y with
    | non => cases ry; exact PySem.EqNone.ne_bool_none (fin_bl I q (by simp))
    | bl j => cases ry; exact ne_bool (fin_bl I q (congrArg not dec_bl))
    | str j => obtain ⟨t', rfl⟩ := ry; exact PySem.EqMixed.ne_bool_str (fin_bl I q (by simp))
    | _ => exact absurd (show false = true from hs) Bool.false_ne_true
  | int i =>
    obtain ⟨t, rfl⟩ := rx
    cases y with
    | non => cases ry; exact PySem.EqNone.ne_int_none (fin_bl I q (by simp))
    | int j => obtain ⟨t', rfl⟩ := ry; exact ne_int (fin_bl I q (congrArg not dec_int))
    | str j => obtain ⟨t', rfl⟩ := ry; exact PySem.EqMixed.ne_int_str (fin_bl I q (by simp))
    | _ => exact absurd (show false = true from hs) Bool.false_ne_true
  | str i =>
    obtain ⟨t, rfl⟩ := rx
    cases y with
    | non => cases ry; exact PySem.EqNone.ne_str_none (fin_bl I q (by simp))
    | bl j => cases ry; exact PySem.EqMixed.ne_str_bool (fin_bl I q (by simp))
    | int j => obtain ⟨t', rfl⟩ := ry; exact PySem.EqMixed.ne_str_int (fin_bl I q (by simp))
    | str j => obtain ⟨t', rfl⟩ := ry; exact ne_str (fin_bl I q (congrArg not dec_str))
    | _ => exact absurd (show false = true from hs) Bool.false_ne_true
  | byt i =>
    obtain ⟨t, rfl⟩ := rx
    cases y with
    | byt j => obtain ⟨t', rfl⟩ := ry; exact PySem.W.ne_bytes (fin_bl I q (congrArg not dec_byt))
    | _ => exact absurd (show false = true from hs) Bool.false_ne_true
  | _ => cases y <;> exact absurd (show false = true from hs) Bool.false_ne_true

theorem op_lt : OpR X (compareOp .Lt) (rI0 fun i j => .bl (decide (i < j))) := opB0 fun _ _ _ _ _ _ _ q => lt_int q
theorem op_gt : OpR X (compareOp .Gt) (rI0 fun i j => .bl (decide (j < i))) := opB0 fun _ _ _ _ _ _ _ q => gt_int q
theorem op_ge : OpR X (compareOp .GtE) (rI0 fun i j => .bl (decide (j ≤ i))) := opB0 fun _ _ _ _ _ _ _ q => ge_int q
/-- the one string within the other -/
theorem op_in_str : OpR X (compareOp .In) (fun x y H Q => ∃ i j, x = .str i ∧ y = .str j ∧ Q (.bl (!(Builtin.Str.occurrences j i 0 j.length 1).isEmpty)) H) := by
  intro pins s σ H x y v u Q I rx ry h
  obtain ⟨i, j, rfl, rfl, q⟩ := h
  obtain ⟨t, rfl⟩ := rx
  obtain ⟨t', rfl⟩ := ry
  exact in_str (fin_bl I q rfl)

/-- is None, is not None: the right side a value none -/
theorem op_isN : OpR X (compareOp .Is) (fun x y H Q => y = .non ∧ Q (.bl (decide (x = .non))) H) := by
  intro pins s σ H x y v u Q I rx ry h
  obtain ⟨rfl, q⟩ := h
  cases ry
  refine is_none_gen (fin_bl I q ?_)
  cases x <;> first
    | (cases rx; rfl)
    | (obtain ⟨t, rfl⟩ := rx; rfl)
/-- two rules for one operation: by cases -/
theorem OpR.or {f : Value → Value → Sem Value} {r r' : R2} (h : OpR X f r) (h' : OpR X f r') : OpR X f (fun x y H Q => r x y H Q ∨ r' x y H Q) := by
  intro pins s σ H x y v u Q I rx ry q
  rcases q with q | q
  · exact h pins s σ H x y v u Q I rx ry q
  · exact h' pins s σ H x y v u Q I rx ry q

theorem nomark (b : Expr) {op : CmpOp} (h : op ≠ .In := by decide) (h2 : op ≠ .NotIn := by decide) : behindInMarks op b = false := by
  have e1 : (op == CmpOp.In) = false := by cases op <;> first | rfl | exact absurd rfl h
  have e2 : (op == CmpOp.NotIn) = false := by cases op <;> first | rfl | exact absurd rfl h2
  cases b <;> simp [behindInMarks, e1, e2]
/-- a comparison as a value; hm: nomark b, or (for in, not in) by with_unfolding_all rfl -/
theorem pe_cmpR {op : CmpOp} {r : R2} (ho : OpR X (compareOp op) r) (ha : PE X a ta) (hb : PE X b tb) (hm : behindInMarks op b = false) : PE X (.Compare a [op] [b] pos) (tOp r ta tb) := by
  intro pins s σ H Q I h
  exact wpAny_Compare1 (binT ha hb I h fun v u s2 x y H2 I2 rx ry q => ho pins s2 σ H2 x y v u Q I2 rx ry q) hm
/-- a reading of a value as a test -/
def tTest (t : TE) : TT := fun σ H Q => t σ H fun x H' => ∃ k, x = .bl k ∧ Q k H'
theorem pt_cmpR {op : CmpOp} {r : R2} (ho : OpR X (compareOp op) r) (ha : PE X a ta) (hb : PE X b tb) (hm : behindInMarks op b = false) : PT X (.Compare a [op] [b] pos) (tTest (tOp r ta tb)) := by
  intro pins s σ H Q I h
  refine wpAny_isTrue_Compare1 (thn (ha pins s σ H _ I h) fun v s1 ⟨x, H1, I1, r1, q1⟩ => thn (hb pins s1 σ H1 _ I1 q1) fun u s2 ⟨y, H2, I2, r2, q2⟩ =>
    thn (ho pins s2 σ H2 x y v u _ I2 r1 r2 q2) fun c s3 ⟨z, H3, I3, r3, k, e, q3⟩ => ?_) hm
  subst e
  cases r3
  exact wpAny_truthy_bool ⟨H3, I3, q3⟩
/-! ### truth -/
theorem line63 : (sizeLine : Nat) < 2 ^ 63 := by rw [sizeLine_eq]; decide
/-! ### strs and bytes -/
theorem op_add_str : OpR X (binaryOp .Add) (fun x y H Q => ∃ i j, x = .str i ∧ y = .str j ∧ i.length + j.length ≤ sizeLine ∧ Q (.str (i ++ j)) H) := by
  intro pins s σ H x y v u Q I rx ry h
  obtain ⟨i, j, rfl, rfl, hz, q⟩ := h
  obtain ⟨t, rfl⟩ := rx
  obtain ⟨t', rfl⟩ := ry
  exact add_str (fun t' tk => ⟨.str (i ++ j), H, I.tok _, ⟨_, rfl⟩, q⟩) hz
/-! ### scalar builtins, by CallR -/
theorem vals1 {x : V} {us : List Value} (r : Vals [x] us) : ∃ u, us = [u] ∧ RelV x u := by
  cases r with
  | cons r1 r2 => cases r2; exact ⟨_, rfl, r1⟩
theorem vals2 {x y : V} {us : List Value} (r : Vals [x, y] us) : ∃ u w', us = [u, w'] ∧ RelV x u ∧ RelV y w' := by
  cases r with
  | cons r1 r2 =>
    cases r2 with
    | cons r3 r4 => cases r4; exact ⟨_, _, rfl, r1, r3⟩
theorem call_abs : CallR X (.builtin "abs") (fun xs H Q => ∃ i, xs = [.int i] ∧ Q (.int (if i < 0 then -i else i)) H) := by
  intro pins s σ H xs us Q I r h
  obtain ⟨i, rfl, q⟩ := h
  obtain ⟨u, rfl, t, rfl⟩ := vals1 r
  exact call_abs_int fun u tk => ⟨.int (if i < 0 then -i else i), H, I.tok _, ⟨_, rfl⟩, q⟩
theorem call_max2 (hc : X.calm = true) : CallR X (.builtin "max") (fun xs H Q => ∃ i j, xs = [.int i, .int j] ∧ Q (.int (if j > i then j else i)) H) := by
  intro pins s σ H xs us Q I r h
  obtain ⟨i, j, rfl, q⟩ := h
  obtain ⟨u, w', rfl, ⟨t, rfl⟩, ⟨t', rfl⟩⟩ := vals2 r
  refine max_two_ints (I.ok.hd hc) fun h' tk k => ⟨_, H, I.kept k, ?_, q⟩
  by_cases hj : j > i
  · rw [if_pos hj, if_pos hj]; exact ⟨_, rfl⟩
  · rw [if_neg hj, if_neg hj]; exact ⟨_, rfl⟩
end
end L2

namespace L2
open PySem PySem.Spec PyProof.Rows

/-! ### an instance, its attributes a map -/
structure ObjM (h : Heap) (x dx C : Addr) (mA : Str → Option Value) : Prop where
  obj : h.get? x = some (PySem.W.instObj C dx)
  ns : h.Ns1 dx mA
  ne : dx ≠ x

theorem lookIn_ns {h : Heap} {dx : Addr} {mA : Str → Option Value} (n : h.Ns1 dx mA) : ∃ od, h.get? dx = some od ∧ ∀ name, PySem.W.lookIn name od = some (mA name) := by
  obtain ⟨o, es, ep, ho, hd, hk, _, hm⟩ := n
  refine ⟨o, ho, fun name => ?_⟩
  have e := hm name
  unfold nsFind findBy at e
  rw [← Array.find?_toList] at e
  unfold PySem.W.lookIn
  rw [hd]
  dsimp only
  split
  · rename_i y q
    rw [q] at e
    exact congrArg some e
  · rename_i q
    rw [q] at e
    have a : es.toList.any (·.refKey) = false := by
      rw [List.any_eq_false]
      intro y hy
      obtain ⟨z, t, hkey⟩ := hk y (Array.mem_toList_iff.mp hy)
      simp [DictEntry.refKey, hkey]
    have a' : ¬ es.toList.any (·.refKey) = true := by rw [a]; exact Bool.false_ne_true
    rw [if_neg a']
    exact congrArg some e

theorem ObjM.look {h : Heap} {x dx C : Addr} {mA : Str → Option Value} (I : ObjM h x dx C mA) : ∃ od, PySem.W.InstAt h x (PySem.W.instObj C dx) C (some od) ∧ ∀ name, PySem.W.lookIn name od = some (mA name) :=
  let ⟨od, ho, hl⟩ := lookIn_ns I.ns
  ⟨od, ⟨I.obj, rfl, rfl, ho⟩, hl⟩

section
variable {prog : Program} {w : World} {A : Around} {E : Value → Shared → Prop} {s : Shared} {K : PySem.W.Frag} {x dx C f : Addr} {mA : Str → Option Value} {name : Str} {v : Value}

theorem get_map {expr : Bool} {Q : Value → Shared → Prop} (X : K.In s.heap) (I : ObjM s.heap x dx C mA) (hg : PySem.W.plainGet K C name = true) (hh : PySem.W.hasDictIn K C = true)
    (ha : PySem.W.findIn K (.ref C) name = some none) (hv : mA name = some v) (hv' : PySem.W.handedIn v = true) (h : Q v { s with toks := s.toks + 1 }) :
    wpAny (model prog w) A (getAttr (.ref x) name expr) Q E s := by
  obtain ⟨od, J, hl⟩ := I.look
  exact PySem.W.get_value X J (PySem.W.plainGet_of hg).1 (PySem.W.findObj_own hh ha rfl (by rw [hl, hv])) hv' h

theorem get_meth {pl : Sem Bool} {Q : Value × List Value → Shared → Prop} (X : K.In s.heap) (I : ObjM s.heap x dx C mA) (hg : PySem.W.plainGet K C name = true)
    (hf : PySem.W.findIn K (.ref C) name = some (some (.ref f))) (ht : PySem.W.isFn K (.ref f) = true) (hv : mA name = none) (h : Q (.ref f, [.ref x]) s) :
    wpAny (model prog w) A (getMethod (.ref x) name pl) Q E s := by
  obtain ⟨od, J, hl⟩ := I.look
  exact PySem.W.method_fn X J (PySem.W.plainGet_of hg).1 (PySem.W.plainGet_of hg).2 hf (beq_iff_eq.mp ht) (by show (PySem.W.lookIn name od).map (·.isSome) = some false; rw [hl, hv]; rfl) h

theorem set_map {ns : List Str} {Q : Unit → Shared → Prop} (X : K.In s.heap) (I : ObjM s.heap x dx C mA)
    (hs : PySem.W.findIn K (.ref C) "__setattr__" = some (some (.builtin "object.__setattr__"))) (hp : PySem.W.plainOver K C = true) (ht : PySem.W.takerIn K C name = some none) (hh : PySem.W.hasDictIn K C = true)
    (hw : PySem.Within mA ns) (hsz : ns.length ≤ sizeLine)
    (h : ∀ h', ObjM h' x dx C (fun y => if y = name then some v else mA y) → Heap.SameBut dx s.heap h' → Q () { s with heap := h', toks := s.toks + 2 }) :
    wpAny (model prog w) A (setAttr (.ref x) name v) Q E s := by
  obtain ⟨od, J, hl⟩ := I.look
  refine PySem.W.set_plain X J hs (PySem.W.osa_open (s := { s with toks := s.toks + 1 }) (r := none) X J hp ht fun b => ?_)
  obtain ⟨cd, hc, hd'⟩ := PySem.W.any_some hh
  have hx : s.heap.get? x = some ⟨.ref C, some dx, .plain, #[]⟩ := I.obj
  refine wpAny_bind (wpAny_pure (wpAny_bind (wpAny_bind (wpAny_loadPart hx (wpAny_bind (PySem.W.Looks.here (s := { s with toks := s.toks + 1 }) (PySem.W.looks_clsIn X hc) ?_))))))
  rw [hd']
  refine wpAny_pure (a := some dx) (wpAny_bind (wpAny_pure (wpAny_bind ?_)))
  refine wpAny_nsSet1 (s := { s with toks := s.toks + 1 }) I.ns fun h' hn2 hs2 => ?_
  obtain ⟨oD, esD, epD, hoD, hdD, hcD⟩ := hn2.count (PySem.Within.cons name v hw)
  refine wpAny_bind (wpAny_lookBehind hoD (by rw [hdD]; exact pastItsLine_dict (Nat.le_trans hcD (by rw [List.length_cons]; omega))) ?_)
  exact wpAny_pure (h _ ⟨(hs2.2 _ (Ne.symm I.ne)).trans I.obj, hn2, I.ne⟩ hs2)

/-- C(..): the dict at the heap's end, the instance behind it; then its __init__ -/
theorem make_map {R : Result → Shared → Prop} {vs : List Value} {kw : List (Str × Value)} (X : K.In s.heap) (hm : PySem.W.makesIn K C = true)
    (hi : PySem.W.findIn K (.ref C) "__init__" = some (some (.ref f))) (hf : PySem.W.typeIn K (.ref f) = some (.type "function"))
    (h : codeAny (model prog w) (A.under (.builtin "type.__call__" ⟨.ref C :: vs, kw⟩)) (.call (.ref f) ⟨.ref (s.heap.objs.size + 1) :: vs, kw⟩) (PySem.W.InitBack (s.heap.objs.size + 1) R)
      { s with heap := (s.heap.push PySem.W.emptyDict).push (PySem.W.instObj C s.heap.objs.size) }) :
    codeAny (model prog w) A (.call (.ref C) ⟨vs, kw⟩) R s := by
  obtain ⟨hh, g, d, t, os⟩ := s
  exact PySem.W.make_core (PySem.W.makes_of X hm) (PySem.W.looks_findIn X hi) (fun self => PySem.W.bind_fn X self hf) (.inl rfl) h
end

/-! ### the attributes as a list of pairs -/
def putF (f : Str) (v : V) : List (Str × V) → List (Str × V)
  | [] => [(f, v)]
  | (g, x) :: r => if g = f then (g, v) :: r else (g, x) :: putF f v r
theorem lookup_putF (f g : Str) (v : V) : ∀ fs : List (Str × V), (putF f v fs).lookup g = if g = f then some v else fs.lookup g
  | [] => by
    show List.lookup g [(f, v)] = _
    by_cases h : g = f
    · have hb : (g == f) = true := beq_iff_eq.mpr h
      simp only [List.lookup, hb, if_pos h]
    · have hb : (g == f) = false := beq_eq_false_iff_ne.mpr h
      simp only [List.lookup, hb, if_neg h]
  | (k, x) :: r => by
    have ih := lookup_putF f g v r
    rw [show putF f v ((k, x) :: r) = (if k = f then (k, v) :: r else (k, x) :: putF f v r) from rfl]
    by_cases hk : k = f
    · rw [if_pos hk]
      by_cases h : g = k
      · have hb : (g == k) = true := beq_iff_eq.mpr h
        simp only [List.lookup, hb, if_pos (h.trans hk)]
      · have hb : (g == k) = false := beq_eq_false_iff_ne.mpr h
        simp only [List.lookup, hb, if_neg (fun e : g = f => h (e.trans hk.symm))]
    · rw [if_neg hk]
      by_cases h : g = k
      · have hb : (g == k) = true := beq_iff_eq.mpr h
        simp only [List.lookup, hb, if_neg (fun e : g = f => hk (h.symm.trans e))]
      · have hb : (g == k) = false := beq_eq_false_iff_ne.mpr h
        simp only [List.lookup, hb]
        exact ih
theorem keys_putF (f : Str) (v : V) : ∀ fs : List (Str × V), f ∈ (putF f v fs).map (·.1) ∧ ∀ g, g ∈ fs.map (·.1) → g ∈ (putF f v fs).map (·.1)
  | [] => ⟨by simp [putF], fun g h => by simp at h⟩
  | (k, x) :: r => by
    obtain ⟨i1, i2⟩ := keys_putF f v r
    rw [show putF f v ((k, x) :: r) = (if k = f then (k, v) :: r else (k, x) :: putF f v r) from rfl]
    by_cases hk : k = f
    · rw [if_pos hk]
      subst hk
      exact ⟨by simp, fun g h => by simpa using h⟩
    · rw [if_neg hk]
      refine ⟨?_, fun g h => ?_⟩
      · rw [List.map_cons]
        exact List.mem_cons_of_mem _ i1
      · rw [List.map_cons] at h ⊢
        rcases List.mem_cons.mp h with e | e
        · exact List.mem_cons.mpr (.inl e)
        · exact List.mem_cons_of_mem _ (i2 g e)
theorem length_putF (f : Str) (v : V) : ∀ fs : List (Str × V), (putF f v fs).length ≤ fs.length + 1
  | [] => by simp [putF]
  | (k, x) :: r => by
    have ih := length_putF f v r
    rw [show putF f v ((k, x) :: r) = (if k = f then (k, v) :: r else (k, x) :: putF f v r) from rfl]
    by_cases hk : k = f
    · rw [if_pos hk, List.length_cons, List.length_cons]; omega
    · rw [if_neg hk, List.length_cons, List.length_cons]; omega

theorem RelO.some_of {v : V} {o : Option Value} (r : RelO (some v) o) : ∃ u, o = some u ∧ RelV v u := by
  cases o with
  | none => exact (show False from r).elim
  | some u => exact ⟨u, rfl, r⟩
theorem RelO.none_of {o : Option Value} (r : RelO none o) : o = none := by
  cases o with
  | none => rfl
  | some u => exact (show False from r).elim
theorem handed_of {v : V} {u : Value} (r : RelV v u) : PySem.W.handedIn u = true := by
  cases v with
  | non => cases (show u = Value.none from r); rfl
  | bl b => cases (show u = Value.bool b from r); rfl
  | int i => obtain ⟨t, e⟩ := (show ∃ t, u = Value.int i t from r); cases e; rfl
  | str x => obtain ⟨t, e⟩ := (show ∃ t, u = Value.str x t from r); cases e; rfl
  | byt b => obtain ⟨t, e⟩ := (show ∃ t, u = Value.bytes b t from r); cases e; rfl
  | flt b => obtain ⟨t, e⟩ := (show ∃ t, u = Value.float b t from r); cases e; rfl
  | ref a => cases (show u = Value.ref a from r); rfl
  | ty n => cases (show u = Value.type n from r); rfl

section
variable {P : Program} {w : World} {H H' : Hp} {h h' : Heap} {a C dx : Addr} {fs fs' : List (Str × V)}
theorem ins_get (hok : HOk P w H h) (e : H a = some (.ins C dx fs)) : ∃ mA, ObjM h a dx C mA ∧ (∀ f, RelO (fs.lookup f) (mA f)) ∧ PySem.Within mA (fs.map (·.1)) ∧ fs.length ≤ 1000 ∧ H dx = some (.own a) := by
  obtain ⟨d, z, ne, ob, mA, n, r, q⟩ := (show ObjOk P w H h a (.ins C dx fs) from hok a _ e)
  exact ⟨mA, ⟨ob, n, ne⟩, r, q, z, d⟩
end

/-! ### what of the text a class must have -/
structure Cls (K : PySem.W.Frag) (C : Addr) : Prop where
  pg : PySem.W.plainGet K C Str.empty = true
  hd : PySem.W.hasDictIn K C = true
  po : PySem.W.plainOver K C = true
  sa : PySem.W.findIn K (.ref C) "__setattr__" = some (some (.builtin "object.__setattr__"))
theorem Cls.get {K : PySem.W.Frag} {C : Addr} (c : Cls K C) (f : Str) : PySem.W.plainGet K C f = true := c.pg
/-- no class of it has the name -/
def NoAttr (K : PySem.W.Frag) (C : Addr) (f : Str) : Prop := PySem.W.findIn K (.ref C) f = some none
theorem NoAttr.taker {K : PySem.W.Frag} {C : Addr} {f : Str} (n : NoAttr K C f) : PySem.W.takerIn K C f = some none := by
  unfold PySem.W.takerIn
  rw [show PySem.W.findIn K (.ref C) f = some none from n]
  rfl
/-- a method: a plain def of the class or of one above it -/
structure Meth (K : PySem.W.Frag) (C : Addr) (m : Str) (f : Addr) : Prop where
  at_ : PySem.W.findIn K (.ref C) m = some (some (.ref f))
  fn : PySem.W.isFn K (.ref f) = true
  kp : PySem.W.keepIn K (.ref f) = true

section
variable {X : Cx} {pins : List (Addr × Obj)} {σ : St} {H : Hp} {s : Shared} {a C dx : Addr} {fs : List (Str × V)} {f : Str} {v : V} {A : Around} {E : Value → Shared → Prop}

theorem getattr_ok {b : Bool} {Q : Value → Shared → Prop} (I : Inv X pins σ H s) (e : H a = some (.ins C dx fs)) (c : Cls X.K C) (n : NoAttr X.K C f) (l : fs.lookup f = some v)
    (h : ∀ u s', Inv X pins σ H s' → RelV v u → Q u s') : wpAny (model X.prog X.w) A (getAttr (.ref a) f b) Q E s := by
  obtain ⟨mA, O, r, _, _, _⟩ := ins_get I.hok e
  obtain ⟨u, hu, ru⟩ := RelO.some_of (v := v) (o := mA f) (by rw [← l]; exact r f)
  exact get_map I.kIn O (c.get f) c.hd n hu (handed_of ru) (h u _ (I.tok _) ru)

theorem getmeth_ok {m : Str} {g : Addr} {pl : Sem Bool} {Q : Value × List Value → Shared → Prop} (I : Inv X pins σ H s) (e : H a = some (.ins C dx fs)) (c : Cls X.K C) (k : Meth X.K C m g) (l : fs.lookup m = none)
    (h : Q (.ref g, [.ref a]) s) : wpAny (model X.prog X.w) A (getMethod (.ref a) m pl) Q E s := by
  obtain ⟨mA, O, r, _, _, _⟩ := ins_get I.hok e
  have hn : mA m = none := RelO.none_of (by rw [← l]; exact r m)
  exact get_meth I.kIn O (c.get m) k.at_ k.fn hn h

theorem setattr_ok {y : V} {u : Value} {Q : Unit → Shared → Prop} (I : Inv X pins σ H s) (e : H a = some (.ins C dx fs)) (c : Cls X.K C) (n : NoAttr X.K C f) (hl : fs.length < 1000) (ry : RelV y u)
    (h : ∀ s', Inv X pins σ (upd H a (.ins C dx (putF f y fs))) s' → Q () s') : wpAny (model X.prog X.w) A (setAttr (.ref a) f u) Q E s := by
  obtain ⟨mA, O, r, wi, _, ho⟩ := ins_get I.hok e
  have hz : (fs.map (·.1)).length ≤ sizeLine := by rw [List.length_map, sizeLine_eq]; omega
  refine set_map I.kIn O c.sa c.po n.taker c.hd wi hz fun h' O' sb => h _ ?_
  have hd : ∃ o, h'.get? dx = some o := let ⟨o, _, _, e', _⟩ := O'.ns; ⟨o, e'⟩
  refine I.write (x := a) (e := dx) (by rw [e]; exact True.intro) (.inr ho) (fun b q hb z => (sb.2 b hb).trans z) hd ?_
  refine ⟨by rw [upd_ne O.ne]; exact ho, ?_, O.ne, O'.obj, _, O'.ns, fun g => ?_, fun g hg => ?_⟩
  · have := length_putF f y fs; omega
  · show RelO ((putF f y fs).lookup g) (if g = f then some u else mA g)
    rw [lookup_putF]
    by_cases q : g = f
    · rw [if_pos q, if_pos q]; exact ry
    · rw [if_neg q, if_neg q]; exact r g
  · by_cases q : g = f
    · rw [q]; exact (keys_putF f y fs).1
    · refine (keys_putF f y fs).2 g (wi g fun z => hg ?_)
      show (if g = f then some u else mA g) = none
      rw [if_neg q]; exact z

/-- a new instance, tracked, without attributes -/
theorem Inv.made (I : Inv X pins σ H s) : Inv X pins σ (upd (upd H s.heap.objs.size (.own (s.heap.objs.size + 1))) (s.heap.objs.size + 1) (.ins C s.heap.objs.size []))
    { s with heap := (s.heap.push PySem.W.emptyDict).push (PySem.W.instObj C s.heap.objs.size) } := by
  have e1 : (s.heap.push PySem.W.emptyDict).get? s.heap.objs.size = some PySem.W.emptyDict := Heap.get?_push_size s.heap rfl
  have e2 : ((s.heap.push PySem.W.emptyDict).push (PySem.W.instObj C s.heap.objs.size)).get? (s.heap.objs.size + 1) = some (PySem.W.instObj C s.heap.objs.size) := by
    have := Heap.get?_push_size (s.heap.push PySem.W.emptyDict) (o := PySem.W.instObj C s.heap.objs.size) rfl
    rwa [Heap.size_push] at this
  have e3 : (s.heap.push PySem.W.emptyDict).Ns s.heap.objs.size (fun _ => none) := ⟨PySem.W.emptyDict, #[], _, e1, rfl, (fun e he => absurd he (by simp)), fun _ => rfl⟩
  have I1 := I.laid (a := s.heap.objs.size) (o := .own (s.heap.objs.size + 1)) (h' := s.heap.push PySem.W.emptyDict) (t' := s.toks) (fun b u q => Heap.get?_push_of_some _ q) (Nat.le_refl _) ⟨_, e1⟩
  refine I1.laid (a := s.heap.objs.size + 1) (o := .ins C s.heap.objs.size []) (t' := s.toks) (fun b u q => Heap.get?_push_of_some _ q) (Nat.le_of_eq (Heap.size_push _ _)) ?_
  have ne : s.heap.objs.size ≠ s.heap.objs.size + 1 := Nat.ne_of_lt (Nat.lt_succ_self _)
  refine ⟨by rw [upd_ne ne, upd_same], Nat.zero_le _, ne, e2, fun _ => none, (Heap.Ns1.of_empty e3).at fun o q => Heap.get?_push_of_some _ q, fun _ => True.intro, fun y hy => absurd rfl hy⟩

/-- e.f where nothing but the object is asked: through attributeBase (super) and the last hold -/
theorem attr_of {prog : Program} {w : World} {env : Env} {e : Expr} {f : Str} {pos : Pos} {s : Shared} {Q : Value → Shared → Prop} (hb : attributeBase e f env (eval e env) = eval e env)
    (h : wpAny (model prog w) A (eval e env) (fun o s₁ => wpAny (model prog w) A (getAttr o f true) Q E s₁) E s) : wpAny (model prog w) A (eval (.Attribute e f pos) env) Q E s :=
  Attribute_any_ h (by rw [arm_eval_Attribute, hb])
end

/-! ### readings and rules -/
/-- e.f, an attribute of the instance -/
def tFld (K : PySem.W.Frag) (ta : TE) (f : Str) : TE := fun σ H Q => ta σ H fun x H1 => ∃ a C dx fs v, x = .ref a ∧ H1 a = some (.ins C dx fs) ∧ Cls K C ∧ NoAttr K C f ∧ fs.lookup f = some v ∧ Q v H1
/-- e.f = value -/
def sFld (K : PySem.W.Frag) (ta tv : TE) (f : Str) : TS := fun D σ H => tv σ H fun y H1 => ta σ H1 fun x H2 => ∃ a C dx fs, x = .ref a ∧ H2 a = some (.ins C dx fs) ∧ Cls K C ∧ NoAttr K C f ∧ fs.length < 1000 ∧
  D.nx σ (upd H2 a (.ins C dx (putF f y fs)))
/-- an augmented operator on two values -/
def InOp (X : Cx) (op : Operator) (rd : V → V → Hp → VK → Prop) : Prop :=
  ∀ (pins : List (Addr × Obj)) (s : Shared) (σ : St) (H : Hp) (x y : V) (u v : Value) (Q : VK), Inv X pins σ H s → RelV x u → RelV y v → rd x y H Q → wpAny (model X.prog X.w) X.A (inplaceOp op u v) (EP X pins σ Q) X.xe s
/-- e.f op= value -/
def sFldAug (K : PySem.W.Frag) (ta tv : TE) (rd : V → V → Hp → VK → Prop) (f : Str) : TS := fun D σ H => ta σ H fun x H1 => ∃ a C dx fs v, x = .ref a ∧ H1 a = some (.ins C dx fs) ∧ Cls K C ∧ NoAttr K C f ∧ fs.lookup f = some v ∧
  tv σ H1 fun y H2 => rd v y H2 fun z H3 => ∃ dx' fs', H3 a = some (.ins C dx' fs') ∧ fs'.length < 1000 ∧ D.nx σ (upd H3 a (.ins C dx' (putF f z fs')))

section
variable {X : Cx} {o e value : Expr} {f : Str} {pos pos' tpos : Pos} {ta tv : TE}
theorem pe_fld (he : PE X e ta) (hb : attributeBase e f X.env (eval e X.env) = eval e X.env) : PE X (.Attribute e f pos) (tFld X.K ta f) := by
  intro pins s σ H Q I h
  refine attr_of hb (thn (he pins s σ H _ I h) fun u s1 ⟨x, H1, I1, rx, a, C, dx, fs, v, ex, ea, c, n, l, q⟩ => ?_)
  subst ex
  obtain rfl : u = Value.ref a := rx
  exact getattr_ok I1 ea c n l fun u' s2 I2 ru => ⟨v, H1, I2, ru, q⟩
theorem ps_fld (ha : PE X o ta) (hv : PE X value tv) (hs : swapsWith value (some (.Attribute o f pos')) pos.line X.env = pure false) : PS X (.Assign [.Attribute o f pos'] value pos) (sFld X.K ta tv f) := by
  intro pins s σ H D I h
  refine plainObj_wpAny_Assign_Attribute (thn (hv pins s σ H _ I h) fun u s1 ⟨y, H1, I1, ry, q⟩ => thn (ha pins s1 σ H1 _ I1 q) fun ov s2 ⟨x, H2, I2, rx, a, C, dx, fs, ex, ea, c, n, l, q2⟩ => ?_) hs
  subst ex
  obtain rfl : ov = Value.ref a := rx
  exact setattr_ok I2 ea c n l ry fun s3 I3 => ⟨σ, _, I3, q2⟩
theorem ps_fldaug {op : Operator} {rd : V → V → Hp → VK → Prop} (ha : PE X o ta) (hv : PE X value tv) (hop : InOp X op rd) : PS X (.AugAssign (.Attribute o f tpos) op value pos) (sFldAug X.K ta tv rd f) := by
  intro pins s σ H D I h
  refine wpAny_AugAssign_AttributeAny (thn (ha pins s σ H _ I h) fun ov s1 ⟨x, H1, I1, rx, a, C, dx, fs, v, ex, ea, c, n, l, q⟩ => ?_)
  subst ex
  obtain rfl : ov = Value.ref a := rx
  refine getattr_ok I1 ea c n l fun u s2 I2 ru => thn (hv pins s2 σ H1 _ I2 q) fun w3 s3 ⟨y, H2, I3, ry, q3⟩ => thn (hop pins s3 σ H2 v y u w3 _ I3 ru ry q3) fun w4 s4 ⟨z, H3, I4, rz, dx', fs', ea', l', q4⟩ => ?_
  exact setattr_ok I4 ea' c n l' rz fun s5 I5 => ⟨σ, _, I5, q4⟩
def rAdd : V → V → Hp → VK → Prop := fun x y H Q => ∃ i j, x = .int i ∧ y = .int j ∧ Q (.int (i + j)) H
theorem in_add : InOp X .Add rAdd := by
  rintro pins s σ H x y u v Q I rx ry ⟨i, j, rfl, rfl, q⟩
  obtain ⟨t, rfl⟩ := (show ∃ t, u = Value.int i t from rx)
  obtain ⟨t', rfl⟩ := (show ∃ t', v = Value.int j t' from ry)
  exact PyProof.Rows.iadd_int ⟨.int (i + j), H, I.tok _, ⟨_, rfl⟩, q⟩
/-- what is between an instance and its method: the tree of a method call -/
theorem methcall_of {pl : Sem Bool} {m : Str} {apos : Pos} {args : List Expr} {pins : List (Addr × Obj)} {s : Shared} {σ : St} {H : Hp} {Q : Value → Shared → Prop} {te : TE} (he : PE X e te) (I : Inv X pins σ H s)
    (h : te σ H fun x H1 => ∃ a C dx fs g, x = .ref a ∧ H1 a = some (.ins C dx fs) ∧ Cls X.K C ∧ Meth X.K C m g ∧ fs.lookup m = none ∧
      ∀ s1, Inv X pins σ H1 s1 → wpAny (model X.prog X.w) X.A (callWith pos (.ref g) [.ref a] (backTo pos (starEach args X.env)) (backToKw pos (keywordEach [] X.env))) Q X.xe s1)
    (ht : eval (.Call (.Attribute e m apos) args [] pos) X.env = (do
      let ov ← eval e X.env
      standAt apos.atName
      let (f, first) ← holding [ov] (getMethod ov m pl)
      callWith pos f first (backTo pos (starEach args X.env)) (backToKw pos (keywordEach [] X.env)))) :
    wpAny (model X.prog X.w) X.A (eval (.Call (.Attribute e m apos) args [] pos) X.env) Q X.xe s := by
  refine PySem.W.methodCall_KW (pl := pl) (thn (he pins s σ H _ I h) fun u s1 ⟨x, H1, I1, rx, a, C, dx, fs, g, ex, ea, c, k, l, q⟩ => ?_) ht
  subst ex
  obtain rfl : u = Value.ref a := rx
  exact getmeth_ok I1 ea c k l (q s1 I1)
end

/-! ### isinstance -/
section
variable {X : Cx} {pins : List (Addr × Obj)} {σ : St} {H : Hp} {s : Shared} {A : Around} {E : Value → Shared → Prop} {Q : Value → Shared → Prop} {c : Value} {b : Bool}
/-- the type of a value, as the fragment's deciders take it; for an instance its class -/
inductive TyOf (K : PySem.W.Frag) (H : Hp) : V → Value → Prop where
  | non : TyOf K H .non (.type "NoneType")
  | bl (x : Bool) : TyOf K H (.bl x) (.type "bool")
  | int (i : Int) : TyOf K H (.int i) (.type "int")
  | str (x : Str) : TyOf K H (.str x) (.type "str")
  | flt (x : UInt64) : TyOf K H (.flt x) (.type "float")
  | lst {a : Addr} {xs : List V} (e : H a = some (.lst xs)) : TyOf K H (.ref a) (.type "list")
  | frz {a : Addr} {o : Obj} {xs : List V} (e : H a = some (.frz o (.lst xs))) : TyOf K H (.ref a) (.type "list")
  | tup {a : Addr} {xs : List V} (e : H a = some (.tup xs)) : TyOf K H (.ref a) (.type "tuple")
  | dK {a : Addr} {kvs : List (Key × V)} (e : H a = some (.dK kvs)) : TyOf K H (.ref a) (.type "dict")
  | dT {a : Addr} {kvs : List (List Key × V)} (e : H a = some (.dT kvs)) : TyOf K H (.ref a) (.type "dict")
  | ins {a C dx : Addr} {fs : List (Str × V)} (e : H a = some (.ins C dx fs)) (cl : Cls K C) (ha : PySem.W.findIn K (.ref C) "__class__" = some (some (.builtin "object.__class__")))
      (hn : PySem.W.specialIn K (.builtin "object.__class__") "__get__" = some (some (.builtin "getset_descriptor.__get__"))) (htk : PySem.W.takesIn K (.builtin "object.__class__") = some true)
      (hm : PySem.W.mroIn K C (.type "object") = some true) : TyOf K H (.ref a) (.ref C)
/-- isinstance(x, c) for one class c, a built-in or an own one: kitOne's answer -/
theorem isinst_ok {x : V} {u t : Value} (I : Inv X pins σ H s) (rx : RelV x u) (ty : TyOf X.K H x t) (e : PySem.W.kitOne X.K t c = some b) (h : ∀ tk, Q (.bool b) { s with toks := tk }) :
    wpAny (model X.prog X.w) A (call (.builtin "isinstance") [u, c]) Q E s := by
  cases ty with
  | non => cases (show u = Value.none from rx); exact PySem.W.kia_one PySem.W.kitx_none I.kIn True.intro e (fun z => nomatch z) h
  | bl y => cases (show u = Value.bool y from rx); exact PySem.W.kia_one PySem.W.kitx_bool I.kIn True.intro e (fun z => nomatch z) h
  | int i => obtain ⟨t, q⟩ := (show ∃ t, u = Value.int i t from rx); cases q; exact PySem.W.kia_one PySem.W.kitx_int I.kIn True.intro e (fun z => nomatch z) h
  | str y => obtain ⟨t, q⟩ := (show ∃ t, u = Value.str y t from rx); cases q; exact PySem.W.kia_one PySem.W.kitx_str I.kIn True.intro e (fun z => nomatch z) h
  | flt y => obtain ⟨t, q⟩ := (show ∃ t, u = Value.float y t from rx); cases q; exact PySem.W.kia_one PySem.W.kitx_float I.kIn True.intro e (fun z => nomatch z) h
  | @lst a xs ea =>
    cases (show u = Value.ref a from rx)
    obtain ⟨_, _, n, _, h1⟩ := (show ObjOk X.prog X.w H s.heap a (.lst xs) from I.hok a _ ea)
    exact PySem.W.kia_one PySem.W.kitx_list I.kIn ⟨_, h1, rfl⟩ e (fun z => nomatch z) h
  | @frz a ob xs ea =>
    cases (show u = Value.ref a from rx)
    obtain ⟨_, _, _, n, _, h1⟩ := (show ObjOk X.prog X.w H s.heap a (.frz ob (.lst xs)) from I.hok a _ ea)
    exact PySem.W.kia_one PySem.W.kitx_list I.kIn ⟨_, h1, rfl⟩ e (fun z => nomatch z) h
  | @tup a xs ea =>
    cases (show u = Value.ref a from rx)
    obtain ⟨_, _, _, p⟩ := (show ObjOk X.prog X.w H s.heap a (.tup xs) from I.hok a _ ea)
    obtain ⟨o, h1, h2, _⟩ := p.1
    exact PySem.W.kia_one PySem.W.kitx_tuple I.kIn ⟨o, h1, h2⟩ e (fun z => nomatch z) h
  | @dK a kvs ea =>
    cases (show u = Value.ref a from rx)
    obtain ⟨_, _, vs, _, p⟩ := (show ObjOk X.prog X.w H s.heap a (.dK kvs) from I.hok a _ ea)
    obtain ⟨o, es, ep, h1, h2, _⟩ := p
    exact PySem.W.kia_one PySem.W.kitx_dict I.kIn ⟨o, h1, h2.1⟩ e (fun z => nomatch z) h
  | @dT a kvs ea =>
    cases (show u = Value.ref a from rx)
    obtain ⟨_, _, xs, _, o, es, ep, h1, h2, _⟩ := (show ObjOk X.prog X.w H s.heap a (.dT kvs) from I.hok a _ ea)
    exact PySem.W.kia_one PySem.W.kitx_dict I.kIn ⟨o, h1, h2.1⟩ e (fun z => nomatch z) h
  | @ins a C dx fs ea cl ha hn htk hm =>
    cases (show u = Value.ref a from rx)
    obtain ⟨mA, O, _⟩ := ins_get I.hok ea
    obtain ⟨od, J, _⟩ := O.look
    exact PySem.W.kia_one (PySem.W.kitx_own (cl.get _) cl.hd ha hn htk hm) I.kIn J e (fun z => nomatch z) h
end
end L2

namespace L2
open PySem PySem.Spec PyProof.Rows

/-! ### room -/
structure Room (k : Nat) (A : Around) : Prop where
  hd : A.handled = none
  dp : A.depth + 3 * k + 5 < recursionLimit
  un : A.units + 16 * k + 200 < cLine
theorem Room.mono {j k : Nat} {A : Around} (r : Room k A) (h : j ≤ k) : Room j A := ⟨r.hd, by have := r.dp; omega, by have := r.un; omega⟩
theorem Room.deeper {k : Nat} {A : Around} (r : Room (k + 1) A) (env : Env) : Room k (A.deeper env) :=
  ⟨r.hd, by have := r.dp; show A.depth + 1 + 3 * k + 5 < _; omega, by have := r.un; show A.units + 3 + 16 * k + 200 < _; omega⟩
theorem make_depth {A : Around} {C : Addr} {us : List Value} {kw : List (Str × Value)} : (A.under (.builtin "type.__call__" ⟨.ref C :: us, kw⟩)).depth = A.depth + 1 := by
  first | rfl | simp [Around.under, Code.weight, Code.isCreation, Code.isGuard, Code.isCaller, Code.frames, Code.isFrame, guardIds]
theorem make_units {A : Around} {C : Addr} {us : List Value} {kw : List (Str × Value)} : (A.under (.builtin "type.__call__" ⟨.ref C :: us, kw⟩)).units = A.units + 1 := by
  first | rfl | simp [Around.under, Code.cUnits, Code.frames, Code.isFrame]
theorem Room.make {k : Nat} {A : Around} (r : Room (k + 1) A) (C : Addr) (us : List Value) (kw : List (Str × Value)) : Room k (A.under (.builtin "type.__call__" ⟨.ref C :: us, kw⟩)) :=
  ⟨r.hd, by have := r.dp; rw [make_depth]; omega, by have := r.un; rw [make_units]; omega⟩
theorem Room.depth {k : Nat} {A : Around} (r : Room k A) : A.depth < recursionLimit := by have := r.dp; omega
theorem Room.units {k : Nat} {A : Around} (r : Room k A) : A.units + 64 < cLine := by have := r.un; omega
/-! ### argument lists and displays -/
def tNil : TA := fun _ H Q => Q [] H
def tCons (ta : TE) (tr : TA) : TA := fun σ H Q => ta σ H fun x H1 => tr σ H1 fun xs H2 => Q (x :: xs) H2
section
variable {X : Cx} {e : Expr} {es : List Expr} {te : TE} {t : TA} {pos : Pos}
theorem pa_nil : PA X [] tNil := fun _ _ _ _ H Q I h => Calls.spliced_nil ⟨[], H, I, .nil, h⟩
theorem pa_cons (ha : PE X e te) (hr : PA X es t) (hs : starEach (e :: es) X.env = (false, eval e X.env) :: starEach es X.env := by rfl) : PA X (e :: es) (tCons te t) := by
  intro pos pins s σ H Q I h
  rw [hs]
  show wpAny _ _ (spliced ((false, eval e X.env) :: backTo pos (starEach es X.env))) _ _ s
  refine Calls.spliced_cons (thn (ha pins s σ H _ I h) fun u s1 ⟨x, H1, I1, r1, q1⟩ => ?_)
  exact thn (hr pos pins s1 σ H1 _ I1 q1) fun us s2 ⟨xs, H2, I2, r2, q2⟩ => ⟨x :: xs, H2, I2, .cons r1 r2, q2⟩

/-- a tuple, a list of written items -/
def tTup (t : TA) : TE := fun σ H Q => t σ H fun xs H1 => xs.length ≤ sizeLine ∧ ∀ p, H1 p = none → Q (.ref p) (upd H1 p (.tup xs))
def tLst (t : TA) : TE := fun σ H Q => t σ H fun xs H1 => xs.length ≤ sizeLine ∧ ∀ p, H1 p = none → Q (.ref p) (upd H1 p (.lst xs))
theorem pe_tup {x1} (h : PA X es t) : PE X (.Tuple es x1 pos) (tTup t) := by
  intro pins s σ H Q I hq
  refine wpAny_Tuple_spliced (thn (h pos pins s σ H _ I hq) fun us s1 ⟨xs, H1, I1, r, z, q⟩ => ⟨by rw [← r.length]; exact z, ?_⟩)
  have hf : H1 s1.heap.objs.size = none := I1.hok.fresh (Nat.le_refl _)
  refine ⟨.ref s1.heap.objs.size, upd H1 s1.heap.objs.size (.tup xs), I1.laid (t' := s1.toks) (fun b u e => Heap.get?_push_of_some _ e) (Nat.le_refl _) ?_, rfl, q _ hf⟩
  exact ⟨z, us, r, IsTupD.new _ _⟩
theorem pe_lst (h : PA X es t) : PE X (.List es pos) (tLst t) := by
  intro pins s σ H Q I hq
  refine wpAny_List_spliced (thn (h pos pins s σ H _ I hq) fun us s1 ⟨xs, H1, I1, r, z, q⟩ => ⟨by rw [← r.length]; exact z, ?_⟩)
  have hf : H1 s1.heap.objs.size = none := I1.hok.fresh (Nat.le_refl _)
  refine ⟨.ref s1.heap.objs.size, upd H1 s1.heap.objs.size (.lst xs), I1.laid (t' := s1.toks) (fun b u e => Heap.get?_push_of_some _ e) (Nat.le_refl _) ?_, rfl, q _ hf⟩
  exact ⟨z, us, 0, r, Heap.get?_push_size _ rfl⟩
end

/-! ### what a def promises -/
/-- a def's promise: the bound arguments in the parameters' order, the heap, the wanted end, the wanted exception -/
abbrev Sp := List V → Hp → VK → XK → Prop
/-- how an exception lies behind a call (file 08 gives it): the callers' frames, abstract heap and state ahead of the call, the wish, the exception, the state -/
abbrev CXT := List Env → Hp → Shared → XK → Value → Shared → Prop

/-- the state at a call -/
structure Env0 (P : Program) (w : World) (K : PySem.W.Frag) (mg : Str → Option Value) (base : Heap) (A : Around) (outer : List Env) (s : Shared) (H : Hp) : Prop where
  frames : A.frames = some outer
  mod : Mod K mg base
  bs : ∀ b o, base.get? b = some o → s.heap.get? b = some o ∧ H b = none
  bsz : base.objs.size ≤ s.heap.objs.size
  funs : s.heap.FunFrames base outer
  frf : ∀ b ∈ frs outer, H b = none
  hok : HOk P w H s.heap
  bare : AllBare s.gens
/-- a call's end -/
def CE (outer : List Env) (P : Program) (w : World) (H : Hp) (s : Shared) (Q : VK) (u : Value) (s' : Shared) : Prop :=
  ∃ v H', s'.os = s.os ∧ AllBare s'.gens ∧ Un (frs outer) [] H H' s.heap s'.heap ∧ HOk P w H' s'.heap ∧ RelV v u ∧ Q v H'
def CR (CX : CXT) (outer : List Env) (P : Program) (w : World) (H : Hp) (s : Shared) (Q : VK) (E : XK) (r : Result) (s' : Shared) : Prop :=
  match r with
  | .ok (.ret u) => CE outer P w H s Q u s'
  | .ok _ => False
  | .error e => CX outer H s E e s'
structure FnOk (P : Program) (w : World) (K : PySem.W.Frag) (mg : Str → Option Value) (base : Heap) (CX : CXT) (k : Nat) (f : Addr) (fd : FuncData) (ps : List Str) (sp : Sp) : Prop where
  len : ∀ vs H Q E, sp vs H Q E → vs.length = ps.length
  run : ∀ (A : Around) (outer : List Env) (s : Shared) (H : Hp) (args : Args) (us : List Value) (vs : List V) (Q : VK) (E : XK), Room k A → Env0 P w K mg base A outer s H → BindsTo s fd args (ps.zip us) → Vals vs us → sp vs H Q E →
    codeAny (model P w) A (.call (.ref f) args) (CR CX outer P w H s Q E) s
/-- a weaker promise -/
theorem FnOk.imp {P : Program} {w : World} {K : PySem.W.Frag} {mg : Str → Option Value} {base : Heap} {CX : CXT} {k : Nat} {f : Addr} {fd : FuncData} {ps : List Str} {sp sp' : Sp} (F : FnOk P w K mg base CX k f fd ps sp)
    (h : ∀ vs H Q E, sp' vs H Q E → sp vs H Q E) : FnOk P w K mg base CX k f fd ps sp' :=
  ⟨fun vs H Q E q => F.len vs H Q E (h _ _ _ _ q), fun A outer s H args us vs Q E hr he hb hv hs => F.run A outer s H args us vs Q E hr he hb hv (h _ _ _ _ hs)⟩

theorem Env0.make {P : Program} {w : World} {K : PySem.W.Frag} {mg : Str → Option Value} {base : Heap} {A : Around} {outer : List Env} {s : Shared} {H : Hp} (e : Env0 P w K mg base A outer s H) (C : Addr) (us : List Value) (kw : List (Str × Value)) :
    Env0 P w K mg base (A.under (.builtin "type.__call__" ⟨.ref C :: us, kw⟩)) outer s H := ⟨by first | exact e.frames | (simpa [Around.under, Code.envs, Code.isFrame, pushEnvs] using e.frames), e.mod, e.bs, e.bsz, e.funs, e.frf, e.hok, e.bare⟩
section
variable {X : Cx} {pins : List (Addr × Obj)} {σ : St} {H : Hp} {s s' : Shared}
/-- from a body: what a callee wants -/
theorem Inv.env0 (I : Inv X pins σ H s) : Env0 X.prog X.w X.K X.mg X.base X.A X.stack s H :=
  ⟨I.ok.frames, I.ok.mod, I.bs, Nat.le_trans I.ok.bsz I.sz, I.stack, I.stkFree, I.hok, I.bare⟩
/-- behind a call -/
theorem Inv.after {Q : VK} {u : Value} (I : Inv X pins σ H s) (h : CE X.stack X.prog X.w H s Q u s') : EP X pins σ Q u s' := by
  obtain ⟨v, H', os, bare, un, hok, r, q⟩ := h
  obtain ⟨hh, g, d, t, os'⟩ := s'
  obtain rfl : os' = s.os := os
  exact ⟨v, H', I.call (h' := hh) (g' := g) (d' := d) (t' := t) (ch := []) un hok bare (fun b z => absurd z (by simp)), r, q⟩
end

/-! ### calls -/
/-- f(..): the written arguments, then the defaults dvs; E: what is wanted of an exception -/
def tCall (sp : Sp) (dvs : List V) (E : XK) (t : TA) : TE := fun σ H Q => t σ H fun vs H1 => sp (vs ++ dvs) H1 Q E
/-- o.m(..) of an instance of the class at C -/
def tMeth (C : Addr) (m : Str) (sp : Sp) (dvs : List V) (E : XK) (ta : TE) (t : TA) : TE := fun σ H Q => ta σ H fun x H1 => ∃ a dx fs, x = .ref a ∧ H1 a = some (.ins C dx fs) ∧ fs.lookup m = none ∧
  t σ H1 fun vs H2 => sp (x :: (vs ++ dvs)) H2 Q E
/-- C(..): a new instance and its dict, then __init__ -/
def tMake (C : Addr) (sp : Sp) (dvs : List V) (E : XK) (t : TA) : TE := fun σ H Q => t σ H fun vs H1 => ∀ x dx, H1 x = none → H1 dx = none → dx ≠ x →
  sp (.ref x :: (vs ++ dvs)) (upd (upd H1 dx (.own x)) x (.ins C dx [])) (fun v H2 => v = .non ∧ Q (.ref x) H2) E

/-- how the parameters are bound: us the positional arguments, kw the keywords' values by name, ds the defaults that fill up -/
def Binds (K : PySem.W.Frag) (fd : FuncData) (ps : List Str) (ds : List Value) : Prop :=
  ∀ (s : Shared) (us : List Value), K.In s.heap → (us ++ ds).length = ps.length → BindsTo s fd ⟨us, []⟩ (ps.zip (us ++ ds))
/-- every parameter is given -/
theorem Binds.all {K : PySem.W.Frag} {fd : FuncData} {ps : List Str} (h : ∀ us : List Value, us.length = ps.length → bindArgs fd ⟨us, []⟩ = pure (ps.zip us)) : Binds K fd ps [] := fun s us _ hl => by
  rw [List.append_nil] at hl ⊢
  exact .of_eq (h us hl)

/-- an exception of a callee reaches what this body wants of exceptions -/
def Passes (CX : CXT) (X : Cx) (E : XK) : Prop := ∀ (pins : List (Addr × Obj)) (σ : St) (H : Hp) (s : Shared) (e : Value) (s' : Shared), Inv X pins σ H s → CX X.stack H s E e s' → X.xe e s'

section
variable {X : Cx} {CX : CXT} {k : Nat} {f C : Addr} {fd : FuncData} {ps : List Str} {sp : Sp} {dvs : List V} {ds : List Value} {E : XK} {x m : Str} {p pos apos : Pos} {e o : Expr} {es : List Expr} {ta : TE} {t : TA}

/-- the callee runs -/
theorem run_fn {pins : List (Addr × Obj)} {σ : St} {H : Hp} {s : Shared} {Q : VK} {us : List Value} {vs : List V} (F : FnOk X.prog X.w X.K X.mg X.base CX k f fd ps sp) (hr : Room k X.A) (hb : Binds X.K fd ps ds) (hd : Vals dvs ds) (hx : Passes CX X E)
    (I : Inv X pins σ H s) (r : Vals vs us) (h : sp (vs ++ dvs) H Q E) : wpAny (model X.prog X.w) X.A (call (.ref f) us) (EP X pins σ Q) X.xe s := by
  have r2 : Vals (vs ++ dvs) (us ++ ds) := r.append hd
  have hl : (us ++ ds).length = ps.length := by rw [← r2.length]; exact F.len _ _ _ _ h
  refine wpAny_call (codeAny_mono (F.run X.A X.stack s H ⟨us, []⟩ (us ++ ds) (vs ++ dvs) Q E hr I.env0 (hb s us I.kIn hl) r2 h) fun r s' hq => ?_)
  cases r with
  | error e => exact hx pins σ H s e s' I hq
  | ok fl =>
    cases fl with
    | ret u => exact I.after hq
    | next => exact False.elim hq
    | brk => exact False.elim hq
    | cont => exact False.elim hq

theorem pe_call (F : FnOk X.prog X.w X.K X.mg X.base CX k f fd ps sp) (hr : Room k X.A) (hg : Gl X x) (hm : X.mg x = some (.ref f)) (hk : PySem.W.keepIn X.K (.ref f) = true) (hb : Binds X.K fd ps ds) (hd : Vals dvs ds) (hx : Passes CX X E)
    (ha : PA X (e :: es) t) (hdb : (x == ("__debug__" : Str)) = false := by decide) (he : starEach (e :: es) X.env = (false, eval e X.env) :: starEach es X.env := by rfl) (hpl : (backTo pos (starEach es X.env)).any (·.1) = false := by rfl) :
    PE X (.Call (.Name x p) (e :: es) [] pos) (tCall sp dvs E t) := by
  intro pins s σ H Q I h
  refine wpAny_Call_Name_kw (ld_glob I hg hm ?_ hdb)
  refine PySem.W.callWith_K (h₀ := X.base) I.ok.mod.kin hk (thn (ha pos pins s σ H _ I h) fun us s1 ⟨vs, H1, I1, r, q⟩ => ⟨I1.kIn, ?_⟩) he hpl
  exact run_fn F hr hb hd hx I1 r q
/-- o.m(e, ..) -/
theorem pe_meth {pl : Sem Bool} (he : PE X o ta) (c : Cls X.K C) (hm : Meth X.K C m f) (F : FnOk X.prog X.w X.K X.mg X.base CX k f fd ps sp) (hr : Room k X.A) (hb : Binds X.K fd ps ds) (hd : Vals dvs ds) (hx : Passes CX X E) (ha : PA X (e :: es) t)
    (hst : starEach (e :: es) X.env = (false, eval e X.env) :: starEach es X.env := by rfl) (hpl : (backTo pos (starEach es X.env)).any (·.1) = false := by rfl)
    (ht : eval (.Call (.Attribute o m apos) (e :: es) [] pos) X.env = (do
      let ov ← eval o X.env
      standAt apos.atName
      let (f, first) ← holding [ov] (getMethod ov m pl)
      callWith pos f first (backTo pos (starEach (e :: es) X.env)) (backToKw pos (keywordEach [] X.env))) := by rfl) :
    PE X (.Call (.Attribute o m apos) (e :: es) [] pos) (tMeth C m sp dvs E ta t) := by
  intro pins s σ H Q I h
  refine PySem.W.methodCall_KW (pl := pl) (thn (he pins s σ H _ I h) fun u s1 ⟨x, H1, I1, rx, a, dx, fs, ex, ea, l, q⟩ => ?_) ht
  subst ex
  obtain rfl : u = Value.ref a := rx
  refine getmeth_ok I1 ea c hm l ?_
  refine PySem.W.callWith_K (first := [.ref a]) (h₀ := X.base) I.ok.mod.kin hm.kp (thn (ha pos pins s1 σ H1 _ I1 q) fun us s2 ⟨vs, H2, I2, r, q2⟩ => ⟨I2.kIn, ?_⟩) hst hpl
  exact run_fn (us := .ref a :: us) (vs := .ref a :: vs) F hr hb hd hx I2 (.cons rfl r) q2
/-- what a class must have to be made -/
structure Mk (K : PySem.W.Frag) (C f : Addr) : Prop where
  makes : PySem.W.makesIn K C = true
  init : PySem.W.findIn K (.ref C) "__init__" = some (some (.ref f))
  fn : PySem.W.isFn K (.ref f) = true
  kp : PySem.W.keepIn K (.ref C) = true

theorem run_make {pins : List (Addr × Obj)} {σ : St} {H : Hp} {s : Shared} {Q : VK} {us : List Value} {vs : List V} (M : Mk X.K C f) (F : FnOk X.prog X.w X.K X.mg X.base CX k f fd ps sp) (hr : Room (k + 1) X.A) (hb : Binds X.K fd ps ds) (hd : Vals dvs ds)
    (hx : Passes CX X E) (I : Inv X pins σ H s) (r : Vals vs us)
    (h : ∀ x dx, H x = none → H dx = none → dx ≠ x → sp (.ref x :: (vs ++ dvs)) (upd (upd H dx (.own x)) x (.ins C dx [])) (fun v H2 => v = .non ∧ Q (.ref x) H2) E) :
    wpAny (model X.prog X.w) X.A (call (.ref C) us) (EP X pins σ Q) X.xe s := by
  have hq := h (s.heap.objs.size + 1) s.heap.objs.size (I.hok.fresh (Nat.le_succ _)) (I.hok.fresh (Nat.le_refl _)) (Nat.ne_of_lt (Nat.lt_succ_self _))
  have I2 := Inv.made (C := C) I
  have r2 : Vals (V.ref (s.heap.objs.size + 1) :: (vs ++ dvs)) (Value.ref (s.heap.objs.size + 1) :: (us ++ ds)) := .cons rfl (r.append hd)
  have hl : (Value.ref (s.heap.objs.size + 1) :: us ++ ds).length = ps.length := by
    have e := r2.length
    rw [F.len _ _ _ _ hq] at e
    exact e.symm
  refine wpAny_call (make_map (f := f) I.kIn M.makes M.init (beq_iff_eq.mp M.fn) (codeAny_mono (F.run _ X.stack _ _ ⟨Value.ref (s.heap.objs.size + 1) :: us, []⟩ (Value.ref (s.heap.objs.size + 1) :: (us ++ ds)) _ _ E (hr.make C us [])
    (I2.env0.make C us []) (hb _ (Value.ref (s.heap.objs.size + 1) :: us) I2.kIn hl) r2 hq) fun r s' hq' => ?_))
  cases r with
  | error e => exact hx pins σ _ _ e s' I2 hq'
  | ok fl =>
    cases fl with
    | ret u =>
      obtain ⟨v, H', I3, rv, ev, q3⟩ := I2.after hq'
      subst ev
      exact ⟨rv, ⟨V.ref (s.heap.objs.size + 1), H', I3, rfl, q3⟩⟩
    | next => exact False.elim hq'
    | brk => exact False.elim hq'
    | cont => exact False.elim hq'
theorem pe_make (M : Mk X.K C f) (F : FnOk X.prog X.w X.K X.mg X.base CX k f fd ps sp) (hr : Room (k + 1) X.A) (hg : Gl X x) (hm : X.mg x = some (.ref C)) (hb : Binds X.K fd ps ds) (hd : Vals dvs ds) (hx : Passes CX X E)
    (ha : PA X (e :: es) t) (hdb : (x == ("__debug__" : Str)) = false := by decide) (he : starEach (e :: es) X.env = (false, eval e X.env) :: starEach es X.env := by rfl) (hpl : (backTo pos (starEach es X.env)).any (·.1) = false := by rfl) :
    PE X (.Call (.Name x p) (e :: es) [] pos) (tMake C sp dvs E t) := by
  intro pins s σ H Q I h
  refine wpAny_Call_Name_kw (ld_glob I hg hm ?_ hdb)
  refine PySem.W.callWith_K (h₀ := X.base) I.ok.mod.kin M.kp (thn (ha pos pins s σ H _ I h) fun us s1 ⟨vs, H1, I1, r, q⟩ => ⟨I1.kIn, ?_⟩) he hpl
  exact run_make M F hr hb hd hx I1 r q
end

/-! ### keywords -/
section
variable {X : Cx} {CX : CXT} {k : Nat} {f C : Addr} {fd : FuncData} {ps ks : List Str} {sp : Sp} {E : XK} {x m : Str} {p pos apos kpos : Pos} {e o : Expr} {es : List Expr} {kws : List Keyword} {te ta : TE} {t tk : TA} {nm : Option Str}
variable {g : List Value → List Value → List Value} {gV : List V → List V → List V}
end

/-! ### a def's body keeps its promise -/
/-- names: the parameters first -/
structure FnScope (N P : List Str) (sc : Scope) : Prop where
  kind : sc.kind = .function
  co : sc.isCoroutine = false
  gen : sc.isGenerator = false
  nd : N.Nodup
  pre : N.take P.length = P
  par : ∀ x ∈ P, sc.names.lookup x = some .local ∨ sc.names.lookup x = some .cell
  nofree : ∀ y ∈ sc.names, y.2 ≠ .free

theorem bindL_out {kindOf : Str → Option NameKind} {x : Str} : ∀ {binds : List (Str × Value)} {m : Str → Option Value}, (∀ v, (x, v) ∉ binds) → bindL kindOf binds m x = m x
  | [], _, _ => rfl
  | (n, v) :: r, m, h => by
    unfold bindL
    rw [bindL_out fun w hw => h w (List.mem_cons_of_mem _ hw)]
    split
    · have : x ≠ n := by rintro rfl; exact h v List.mem_cons_self
      simp [this]
    · rfl
theorem bindC_out {kindOf : Str → Option NameKind} {x : Str} : ∀ {binds : List (Str × Value)} {m : Str → Option Value}, (∀ v, (x, v) ∉ binds) → bindC kindOf binds m x = m x
  | [], _, _ => rfl
  | (n, v) :: r, m, h => by
    unfold bindC
    rw [bindC_out fun w hw => h w (List.mem_cons_of_mem _ hw)]
    split
    · rfl
    · have : x ≠ n := by rintro rfl; exact h v List.mem_cons_self
      simp [this]
theorem bindL_get {kindOf : Str → Option NameKind} {x : Str} {v : Value} : ∀ {P : List Str} {vs : List Value} {i : Nat} {m : Str → Option Value}, P.Nodup → P[i]? = some x → vs[i]? = some v → kindOf x = some .local →
    bindL kindOf (P.zip vs) m x = some v
  | [], _, _, _, _, h, _, _ => by simp at h
  | _ :: _, [], _, _, _, _, h, _ => by simp at h
  | p :: P, w :: vs, 0, m, nd, h1, h2, hk => by
    simp at h1 h2; subst h1; subst h2
    show bindL kindOf ((p, w) :: P.zip vs) m p = _
    unfold bindL
    rw [bindL_out fun v hv => (List.nodup_cons.mp nd).1 (List.of_mem_zip hv).1, if_pos hk]
    simp
  | p :: P, w :: vs, i + 1, m, nd, h1, h2, hk => by
    show bindL kindOf ((p, w) :: P.zip vs) m x = _
    unfold bindL
    exact bindL_get (i := i) (List.nodup_cons.mp nd).2 (by simpa using h1) (by simpa using h2) hk
theorem bindC_get {kindOf : Str → Option NameKind} {x : Str} {v : Value} : ∀ {P : List Str} {vs : List Value} {i : Nat} {m : Str → Option Value}, P.Nodup → P[i]? = some x → vs[i]? = some v → kindOf x ≠ some .local →
    bindC kindOf (P.zip vs) m x = some v
  | [], _, _, _, _, h, _, _ => by simp at h
  | _ :: _, [], _, _, _, _, h, _ => by simp at h
  | p :: P, w :: vs, 0, m, nd, h1, h2, hk => by
    simp at h1 h2; subst h1; subst h2
    show bindC kindOf ((p, w) :: P.zip vs) m p = _
    unfold bindC
    rw [bindC_out fun v hv => (List.nodup_cons.mp nd).1 (List.of_mem_zip hv).1, if_neg hk]
    simp
  | p :: P, w :: vs, i + 1, m, nd, h1, h2, hk => by
    show bindC kindOf ((p, w) :: P.zip vs) m x = _
    unfold bindC
    exact bindC_get (i := i) (List.nodup_cons.mp nd).2 (by simpa using h1) (by simpa using h2) hk

/-- the names' values at the entry -/
def start (N : List Str) (vs : List V) : St := vs.map some ++ List.replicate (N.length - vs.length) none

/-- the context of a def's body, at its entry; an exception leaves the frame, then lies as CX says -/
def cxOf (CX : CXT) (P : Program) (w : World) (K : PySem.W.Frag) (mg : Str → Option Value) (base : Heap) (N : List Str) (qual : Str) (scope : Scope) (f : Addr) (cd : Value) (A : Around) (outer : List Env) (s : Shared) (H : Hp) (E : XK) : Cx where
  prog := P
  w := w
  K := K
  mg := mg
  base := base
  A := A.deeper (envOfC qual scope s.heap.objs.size f cd)
  N := N
  s₀ := s
  H₀ := H
  env := envOfC qual scope s.heap.objs.size f cd
  outer := outer
  stack := envOfC qual scope s.heap.objs.size f cd :: outer
  ex := []
  calm := true
  fn := fun _ => true
  pn := []
  xe := fun e s' => wpAny (model P w) (A.deeper (envOfC qual scope s.heap.objs.size f cd)) (leaving (envOfC qual scope s.heap.objs.size f cd) e) (fun _ s'' => CX outer H s E e s'') (fun e' s'' => CX outer H s E e' s'') s'

theorem cell_has {sc : Scope} {n : Nat} {x : Str} (h : sc.names.lookup x = some .cell) : ∃ c, (cellsFrom n sc.names []).lookup x = some c := by
  have q := PySem.W.cellsFrom_some sc.names n [] (.inl h)
  exact Option.isSome_iff_exists.mp q

theorem inv_start {CX : CXT} {P : Program} {w : World} {K : PySem.W.Frag} {mg : Str → Option Value} {base : Heap} {N ps : List Str} {qual : Str} {scope : Scope} {f : Addr} {cd : Value} {A : Around} {outer : List Env} {s s1 : Shared} {H : Hp} {E : XK} {us : List Value} {vs : List V}
    (S : FnScope N ps scope) (hd : A.handled = none) (e0 : Env0 P w K mg base A outer s H) (hl : vs.length = ps.length) (r : Vals vs us)
    (x : InCallC s s.heap.objs.size (bindL (envOfC qual scope s.heap.objs.size f cd).kindOf (ps.zip us) fun _ => none) (cellsFrom (s.heap.objs.size + 1) scope.names []) (bindC (envOfC qual scope s.heap.objs.size f cd).kindOf (ps.zip us) fun _ => none) s1) :
    Inv (cxOf CX P w K mg base N qual scope f cd A outer s H E) [] (start N vs) H s1 := by
  have hpl : ps.length ≤ N.length := by have := congrArg List.length S.pre; rw [List.length_take] at this; omega
  obtain ⟨h1, tk, rfl, hk⟩ := x.done
  have noA : ∀ b : Addr, b ∉ (cxOf CX P w K mg base N qual scope f cd A outer s H E).ex := fun b z => absurd (show b ∈ ([] : List Addr) from z) (by simp)
  refine ⟨⟨e0.mod, S.kind, rfl, rfl, Nat.le_refl _, fun y z c h1 h2 => ?_, fun y hy => ?_, fun y c _ h => ?_, fun _ => hd, Around.frames_deeper e0.frames, .inr ⟨rfl, rfl⟩, fun b z => absurd z (noA b), e0.bs, e0.bsz, fun b _ _ => noA b, fun b z => absurd z (noA b), e0.funs, e0.frf⟩,
    rfl, e0.bare, Un.kept hk, ⟨_, x.toInCall.ns, fun i y v h1 h2 h3 => ?_⟩, fun y c h => ⟨_, x.cell y c h⟩, e0.hok.fresh (Nat.le_refl _), fun y c h => ?_, fun p hp => absurd (show p ∈ ([] : List (Addr × Obj)) from hp) (by simp), e0.hok.kept hk, ?_⟩
  · exact name_of_addr x.apart (PySem.mem_of_lookup h1) (PySem.mem_of_lookup h2)
  · have hy : scope.names.lookup y = some .cell ∨ scope.names.lookup y = some .free := hy
    rcases hy with hy | hy
    · exact cell_has hy
    · exact absurd rfl (S.nofree _ (PySem.mem_of_lookup hy))
  · exact Nat.le_of_lt (x.above y c (PySem.mem_of_lookup h))
  · have hi : i < vs.length := by
      unfold start at h2
      by_cases hi : i < vs.length
      · exact hi
      · rw [List.getElem?_append_right (by simpa using hi)] at h2
        rw [List.getElem?_replicate] at h2
        split at h2 <;> cases h2
    have ha : vs[i]? = some v := by
      unfold start at h2
      rw [List.getElem?_append_left (by simpa using hi), List.getElem?_map] at h2
      cases e : vs[i]? with
      | none => rw [e] at h2; cases h2
      | some a => rw [e] at h2; cases h2; rfl
    obtain ⟨u, hu, rv⟩ := r.get ha
    have hp : ps[i]? = some y := by
      rw [← S.pre, List.getElem?_take_of_lt (by omega)]; exact h1
    have ndP : ps.Nodup := by rw [← S.pre]; exact S.nd.sublist (List.take_sublist _ _)
    refine ⟨u, rv, ?_⟩
    rcases S.par y (List.mem_of_getElem? hp) with k | k
    · exact .inl ⟨k, bindL_get ndP hp hu k⟩
    · obtain ⟨c, e⟩ := cell_has (n := s.heap.objs.size + 1) k
      refine .inr ⟨.inl k, c, e, ?_⟩
      have q := x.cell y c e
      rw [bindC_get ndP hp hu (by show scope.names.lookup y ≠ _; rw [k]; decide)] at q
      exact q
  · exact e0.hok.fresh (Nat.le_of_lt (x.above y c (PySem.mem_of_lookup h)))
  · unfold start
    show _ = N.length
    rw [List.length_append, List.length_map, List.length_replicate]
    omega

/-- THE RULE: a def (or a method) of the text, by its body. The body's reading t is chosen for each entry; it is run at the parameters' values -/
theorem fn_of {CX : CXT} {P : Program} {w : World} {K : PySem.W.Frag} {mg : Str → Option Value} {base : Heap} {k : Nat} {f : Addr} {name qual : Str} {params : Arguments} {body : List Stmt} {scope : Scope} {dV kV doc pm cdv ct oc : Value} {an od : Option Addr}
    {osl : Array (Option Value)} {N ps : List Str} {sp : Sp} (lk : K.lookup f = some ⟨oc, od, .func (PySem.W.fnOf name qual params body scope dV kV doc pm an cdv ct), osl⟩) (hcd : PySem.W.codeIn K cdv qual = true) (S : FnScope N ps scope)
    (len : ∀ vs H Q E, sp vs H Q E → vs.length = ps.length)
    (hbody : ∀ (A : Around) (outer : List Env) (s : Shared) (H : Hp) (vs : List V) (Q : VK) (E : XK), Room k (A.deeper (envOfC qual scope s.heap.objs.size f cdv)) → sp vs H Q E →
      ∃ t, PSs (cxOf CX P w K mg base N qual scope f cdv A outer s H E) body t ∧ t { nx := fun _ H' => Q .non H', rt := Q } (start N vs) H) :
    FnOk P w K mg base CX (k + 1) f (PySem.W.fnOf name qual params body scope dV kV doc pm an cdv ct) ps sp := by
  refine ⟨len, fun A outer s H args us vs Q E hr e0 hb r hsp => ?_⟩
  have hl := len _ _ _ _ hsp
  have KX : K.In s.heap := e0.mod.kin.keeps fun b o e => (e0.bs b o e).1
  have lim : s.heap.NoLimit := e0.mod.nolimit.keeps fun b o e => (e0.bs b o e).1
  have hkind : ∀ y ∈ ps.zip us, scope.names.lookup y.1 = some .local ∨ (scope.names.lookup y.1 = some .cell ∧ ((cellsFrom (s.heap.objs.size + 1) scope.names []).lookup y.1).isSome = true) := fun ⟨n, v⟩ hy => by
    rcases S.par n (List.of_mem_zip hy).1 with q | q
    · exact .inl q
    · exact .inr ⟨q, PySem.W.cellsFrom_some _ _ _ (.inl q)⟩
  refine codeAny_call_function hr.depth (KX _ _ lk) rfl S.co S.gen rfl (PySem.W.codeRec_of KX hcd) (hb _ _ _ _ ?_)
  refine wpAny_newFunctionEnv_cells S.kind hkind fun env he s1 x => ?_
  subst he
  refine ⟨lim.keeps x.toInCall.keep, codeAny_func ?_⟩
  obtain ⟨t, ht, hq⟩ := hbody A outer s H vs Q E (hr.deeper _) hsp
  have I : Inv (cxOf CX P w K mg base N qual scope f cdv A outer s H E) [] (start N vs) H s1 := inv_start S hr.hd e0 hl r x
  refine wpAny_mono (ht [] s1 (start N vs) H _ I hq) (fun fl s' hs => ?_) fun e s' hs => hs
  have fin : ∀ {σ' : St} {H' : Hp} {v : V} {u : Value}, Inv (cxOf CX P w K mg base N qual scope f cdv A outer s H E) [] σ' H' s' → RelV v u → Q v H' → CE outer P w H s Q u s' :=
    fun {σ' H' v u} J rv q => ⟨v, H', J.os, J.bare, J.base, J.hok, rv, q⟩
  cases fl with
  | ret u =>
    obtain ⟨v, σ', H', J, rv, q⟩ := hs
    exact fin J rv q
  | next =>
    obtain ⟨σ', H', J, q⟩ := hs
    exact fin (v := V.non) (u := Value.none) J rfl q
  | brk =>
    obtain ⟨_, _, _, q⟩ := hs
    exact False.elim q
  | cont =>
    obtain ⟨_, _, _, q⟩ := hs
    exact False.elim q
end L2

namespace L2
open PySem PySem.Spec PyProof.Rows
section
variable {X : Cx} {x : Str} {p pos : Pos} {e : Expr} {es : List Expr} {t : TA} {id T : String} {r : List V → Hp → VK → Prop}

def tCB (r : List V → Hp → VK → Prop) (t : TA) : TE := fun σ H Q => t σ H fun vs H1 => r vs H1 Q
/-- f(e, ..), f a built-in function -/
theorem pe_callB (hc : CallR X (.builtin id) r) (hg : Gl X x) (hm : X.mg x = none) (hv : bootBuiltins x = some (.builtin id)) (ha : PA X (e :: es) t) (hn : x ≠ "__name__" := by decide) (hdb : (x == ("__debug__" : Str)) = false := by decide)
    (he : starEach (e :: es) X.env = (false, eval e X.env) :: starEach es X.env := by rfl) (hpl : (backTo pos (starEach es X.env)).any (·.1) = false := by rfl) : PE X (.Call (.Name x p) (e :: es) [] pos) (tCB r t) := by
  intro pins s σ H Q I h
  refine wpAny_Call_Name_kw (ld_blt I hg hm hv ?_ hn hdb)
  exact PyProof.Rows.callWith_builtin1 (thn (ha pos pins s σ H _ I h) fun us s1 ⟨vs, H1, I1, r1, q1⟩ => hc pins s1 σ H1 vs us Q I1 r1 q1) he hpl
/-- T(e, ..), T a built-in type -/
theorem pe_callTy (hc : CallR X (.type T) r) (hg : Gl X x) (hm : X.mg x = none) (hv : bootBuiltins x = some (.type T)) (ha : PA X (e :: es) t) (hn : x ≠ "__name__" := by decide) (hdb : (x == ("__debug__" : Str)) = false := by decide)
    (he : starEach (e :: es) X.env = (false, eval e X.env) :: starEach es X.env := by rfl) (hpl : (backTo pos (starEach es X.env)).any (·.1) = false := by rfl) : PE X (.Call (.Name x p) (e :: es) [] pos) (tCB r t) := by
  intro pins s σ H Q I h
  refine wpAny_Call_Name_kw (ld_blt I hg hm hv ?_ hn hdb)
  exact PyProof.Rows.callWith_type1 (thn (ha pos pins s σ H _ I h) fun us s1 ⟨vs, H1, I1, r1, q1⟩ => hc pins s1 σ H1 vs us Q I1 r1 q1) he hpl
end
end L2

namespace HT
open PySem PyProof.Rows

section
open PySem.SeqAt
open PySem.AutoSeq1 (wpAny_loadPart')
open PySem.MeetsSeq PySem.MeetsSeq2 PySem.MeetsSeq3

end

section
variable {prog : Program} {w : World} {A : Around} {E : Value → Shared → Prop} {s : Shared}

/-- t + u, t not empty -/
theorem cat_tup {t b : Addr} {vs ws : List Value} {Q : Value → Shared → Prop} (ht : IsTup s.heap t vs.toArray) (hb : IsTup s.heap b ws.toArray) (hv : vs ≠ [])
    (h1 : ws = [] → Q (.ref t) s) (h2 : ws ≠ [] → Q (.ref s.heap.objs.size) { s with heap := s.heap.push { cls := .type "tuple", data := .seq (vs ++ ws).toArray } })
    (hsz : vs.length + ws.length ≤ sizeLine) : wpAny (model prog w) A (binaryOp .Add (.ref t) (.ref b)) Q E s := by
  obtain ⟨⟨cls, dd, data, sl⟩, ho, hc, n, hd⟩ := id ht
  obtain ⟨⟨cls2, dd2, data2, sl2⟩, ho2, hc2, n2, hd2⟩ := id hb
  simp only at hc hd hc2 hd2
  subst hc hd hc2 hd2
  have e : vs.toArray ++ ws.toArray = (vs ++ ws).toArray := by simp
  by_cases hw : ws = []
  · exact concat_meets ⟨_, ho, rfl⟩ ⟨_, ho2, rfl⟩ noFill_tuple_add seq_tuple_add PySem.F.slot_tuple_add PySem.F.entry_tuple_add (PySem.F.args_tuple_add_2 _ _)
      (tuple_addW1 t b vs.toArray ws.toArray n n2 dd dd2 sl sl2 (by simpa using hv) (by simp [hw])) ⟨ho, ho2, h1 hw⟩
  · refine concat_meets ⟨_, ho, rfl⟩ ⟨_, ho2, rfl⟩ noFill_tuple_add seq_tuple_add PySem.F.slot_tuple_add PySem.F.entry_tuple_add (PySem.F.args_tuple_add_2 _ _)
      (tuple_addW2 t b vs.toArray ws.toArray n n2 dd dd2 sl sl2 (by simpa using hv) (by simpa using hw) (by rw [List.size_toArray, List.size_toArray]; exact hsz)) ⟨ho, ho2, ?_⟩
    rw [e]
    exact h2 hw

/-! ### t[a:b], not the whole -/
/-- a slice's bound as a place among n (d where it is left out) -/
def sIx (n d : Nat) : Option Int → Nat
  | none => d
  | some v => if v < 0 then (v + (n : Int)).toNat else min v.toNat n
theorem sIx_le (n d : Nat) (hd : d ≤ n) (o : Option Int) : sIx n d o ≤ n := by
  cases o with
  | none => exact hd
  | some v =>
    show (if v < 0 then (v + (n : Int)).toNat else min v.toNat n) ≤ n
    by_cases hv : v < 0
    · rw [if_pos hv]; omega
    · rw [if_neg hv]; exact Nat.min_le_right _ _
theorem clip_eq (v : Int) (n d : Nat) : (if v < 0 then max (v + (n : Int)) 0 else min v (n : Int)) = ((sIx n d (some v) : Nat) : Int) := by
  show (if v < 0 then max (v + (n : Int)) 0 else min v (n : Int)) = (((if v < 0 then (v + (n : Int)).toNat else min v.toNat n) : Nat) : Int)
  by_cases hv : v < 0
  · simp only [if_pos hv]; omega
  · simp only [if_neg hv]; omega
theorem adjust_gen (lo hi : Option Int) (n : Nat) : Builtin.Slice.sliceAdjust lo hi 1 (n : Int) = (((sIx n 0 lo : Nat) : Int), ((sIx n n hi : Nat) : Int)) := by
  have h1 : ¬ ((1 : Int) < 0) := by omega
  unfold Builtin.Slice.sliceAdjust
  simp only [h1, if_false]
  refine Prod.ext ?_ ?_
  · cases lo with
    | none => rfl
    | some v => exact clip_eq v n 0
  · cases hi with
    | none => rfl
    | some v => exact clip_eq v n n
theorem places_gen (i j : Nat) : Builtin.Slice.slicePlaces (i : Int) (j : Int) 1 = j - i := by
  unfold Builtin.Slice.slicePlaces
  have h1 : (1 : Int) > 0 := by omega
  simp only [h1, if_true, Int.ediv_one]
  split <;> omega
theorem slicePart_ {v : Value} {o : Option Int} {Q : Option Int → Shared → Prop} (p : IsPart v o) (h : Q o s) : wpAny (model prog w) A (Builtin.Slice.slicePartIndex v) Q E s := by
  cases p with
  | none => exact slicePart_none h
  | int i t => exact slicePart_int h
theorem sliceApplied_gen {sl : Addr} {vl vu : Value} {lo hi : Option Int} {n : Nat} {Q : Int × Int × Nat → Shared → Prop} (hs : s.heap.IsSliceOf sl vl vu .none) (pl : IsPart vl lo) (pu : IsPart vu hi)
    (h : Q (((sIx n 0 lo : Nat) : Int), 1, sIx n n hi - sIx n 0 lo) s) : wpAny (model prog w) A (Builtin.Slice.sliceApplied (.ref sl) (pure (n : Int))) Q E s := by
  obtain ⟨os, hos, hcs, hds⟩ := id hs
  unfold Builtin.Slice.sliceApplied Builtin.Slice.sliceFields
  refine wpAny_bind (wpAny_bind (wpAny_field hos hds (x := vl) rfl (wpAny_bind (wpAny_field hos hds (x := vu) rfl (wpAny_bind (wpAny_field hos hds (x := .none) rfl (wpAny_pure ?_)))))))
  refine wpAny_bind (slicePart_none ?_)
  show wpAny _ _ (if ((1 : Int) == 0) = true then _ else _) _ _ s
  rw [if_neg (by decide)]
  refine wpAny_bind (slicePart_ pl (wpAny_bind (slicePart_ pu (wpAny_bind (wpAny_pure ?_)))))
  show wpAny _ _ (match Builtin.Slice.sliceAdjust lo hi 1 (n : Int) with | (lo, hi) => pure (lo, (1 : Int), Builtin.Slice.slicePlaces lo hi 1)) _ _ s
  rw [adjust_gen lo hi n]
  show wpAny _ _ (pure (((sIx n 0 lo : Nat) : Int), (1 : Int), Builtin.Slice.slicePlaces ((sIx n 0 lo : Nat) : Int) ((sIx n n hi : Nat) : Int) 1)) _ _ s
  rw [places_gen]
  exact wpAny_pure h
theorem pick_gen (xs : Array Value) (i k : Nat) : ((List.range k).filterMap fun (m : Nat) => xs[((i : Int) + (m : Int) * 1).toNat]?).toArray = ((xs.toList.drop i).take k).toArray := by
  have e : (fun (m : Nat) => xs[((i : Int) + (m : Int) * 1).toNat]?) = fun m => xs[i + m]? := by
    funext m
    have : ((i : Int) + (m : Int) * 1).toNat = i + m := by omega
    rw [this]
  rw [e]
  have := pick_run xs i k
  rw [List.filterMap_map] at this
  have e2 : ((fun x => xs[x]?) ∘ fun x => i + x) = fun m => xs[i + m]? := rfl
  rw [e2] at this
  rw [this]

theorem getItem_tuple_cut {t sl : Addr} {items : Array Value} {vl vu : Value} {lo hi : Option Int} {Q : Value → Shared → Prop} (ht : IsTup s.heap t items) (hs : s.heap.IsSliceOf sl vl vu .none) (pl : IsPart vl lo) (pu : IsPart vu hi)
    (hw : ¬ (sIx items.size 0 lo = 0 ∧ sIx items.size items.size hi = items.size))
    (h : Q (.ref s.heap.objs.size) { s with heap := s.heap.push { cls := .type "tuple", data := .seq ((items.toList.drop (sIx items.size 0 lo)).take (sIx items.size items.size hi - sIx items.size 0 lo)).toArray } })
    (hsz : items.size ≤ sizeLine) : wpAny (model prog w) A (getItem (.ref t) (.ref sl)) Q E s := by
  have htake : sizeOk (.seq ((items.toList.drop (sIx items.size 0 lo)).take (sIx items.size items.size hi - sIx items.size 0 lo)).toArray) := by
    show ((items.toList.drop (sIx items.size 0 lo)).take (sIx items.size items.size hi - sIx items.size 0 lo)).toArray.size ≤ sizeLine
    rw [List.size_toArray, List.length_take, List.length_drop, Array.length_toList]
    omega
  have hj : sIx items.size items.size hi ≤ items.size := sIx_le _ _ (Nat.le_refl _) hi
  obtain ⟨os, hos, hcs, hds⟩ := id hs
  have hTs : s.TypeIs (.ref sl) "slice" := ⟨os, hos, hcs⟩
  unfold getItem
  try with_reducible refine wpAny_holding ?_
  first | refine wpAny_bind (wpAny_pure ?_) | skip
  refine wpAny_bind (wpAny_sequenceKey ht.typeIs (by decide) ?_)
  refine wpAny_bind (wpAny_callSpecial?_slot (name := Str.ofString "__getitem__") ht.typeIs PyProof.Rows.slot_tuple_getitem
    (wpAny_call_entry PyProof.Rows.slot_tuple_getitem ht.typeIs entry_tuple_getitem ?_ (args_tuple_getitem _ _)))
  show wpAny _ _ (Builtin.Tuple.tupleItemsOf (.ref t) >>= _) _ _ s
  refine wpAny_bind (tupleItemsOf_ ht ?_)
  refine wpAny_bind (wpAny_typeOf hTs ?_)
  rw [if_pos (by decide)]
  refine wpAny_bind (sliceApplied_gen hs pl pu ?_)
  have hno : ¬ ((((sIx items.size 0 lo : Nat) : Int) == 0 && (1 : Int) == 1 && (sIx items.size items.size hi - sIx items.size 0 lo) == items.size) = true) := by
    intro q
    rw [Bool.and_eq_true, Bool.and_eq_true] at q
    have q1 : ((sIx items.size 0 lo : Nat) : Int) = 0 := eq_of_beq q.1.1
    have q2 : sIx items.size items.size hi - sIx items.size 0 lo = items.size := eq_of_beq q.2
    exact hw ⟨by omega, by omega⟩
  show wpAny _ _ (if (((sIx items.size 0 lo : Nat) : Int) == 0 && (1 : Int) == 1 && (sIx items.size items.size hi - sIx items.size 0 lo) == items.size) = true then _ else _) _ _ s
  rw [if_neg hno, pick_gen]
  first
    | exact wpAny_bind (m := Builtin.Tuple.tupleExact _) (wpAny_newObj_type (wpAny_pure ⟨_, rfl, wpAny_pure h⟩) htake)
    | exact wpAny_bind (m := Builtin.Tuple.tupleExact _) (wpAny_newObj_type (wpAny_bind (wpAny_pure (wpAny_pure ⟨_, rfl, wpAny_pure h⟩))) htake)
    | exact wpAny_bind (wpAny_bind (m := Builtin.Tuple.tupleExact _) (wpAny_newObj_type (wpAny_pure (wpAny_pure ⟨_, rfl, wpAny_pure h⟩)) htake))
    | exact wpAny_bind (wpAny_bind (m := Builtin.Tuple.tupleExact _) (wpAny_newObj_type (wpAny_pure ⟨_, rfl, wpAny_pure h⟩) htake))
end
end HT

namespace L2
open PySem PySem.Spec PyProof.Rows

/-! ### the parts of a slice -/
abbrev TO := St → Hp → (Option Int → Hp → Prop) → Prop
/-- a slice's part (left out, or an int) -/
def PO (X : Cx) (e : Option Expr) (t : TO) : Prop :=
  ∀ (pins : List (Addr × Obj)) (s : Shared) (σ : St) (H : Hp) (Q : Option Int → Hp → Prop), Inv X pins σ H s → t σ H Q →
    wpAny (model X.prog X.w) X.A (evalPart e X.env) (fun u s' => ∃ o H', Inv X pins σ H' s' ∧ IsPart u o ∧ Q o H') X.xe s
def tNoPart : TO := fun _ H Q => Q none H
def tPart (t : TE) : TO := fun σ H Q => t σ H fun x H1 => ∃ i, x = .int i ∧ Q (some i) H1

section
variable {X : Cx} {e : Expr} {te : TE} {lo hi : Option Expr} {tl th : TO} {pos p2 : Pos}

theorem po_none : PO X none tNoPart := by
  intro pins s σ H Q I h
  rw [evalPart_none]
  exact wpAny_pure ⟨none, H, I, .none, h⟩
theorem po_some (h : PE X e te) : PO X (some e) (tPart te) := by
  intro pins s σ H Q I hw
  rw [evalPart_some]
  refine thn (h pins s σ H _ I hw) fun u s1 ⟨x, H1, I1, r1, q1⟩ => ?_
  obtain ⟨i, rfl, q⟩ := q1
  obtain ⟨t, rfl⟩ := r1
  exact ⟨some i, H1, I1, .int i t, q⟩

/-- what a slice of a value is, by values: the slice object stands at sl -/
def SlR (X : Cx) (r : V → Option Int → Option Int → Hp → VK → Prop) : Prop :=
  ∀ (pins : List (Addr × Obj)) (s : Shared) (σ : St) (H : Hp) (x : V) (v vl vu : Value) (lo hi : Option Int) (sl : Addr) (Q : VK), Inv X pins σ H s → RelV x v → s.heap.IsSliceOf sl vl vu .none → IsPart vl lo → IsPart vu hi → r x lo hi H Q →
    ∃ T id, typeLookup (.type T) "__getitem__" = pure (some (.builtin id)) ∧ s.TypeIs v T ∧ wpAny (model X.prog X.w) X.A (getItem v (.ref sl)) (EP X pins σ Q) X.xe s
theorem SlR.or {r r' : V → Option Int → Option Int → Hp → VK → Prop} (h : SlR X r) (h' : SlR X r') : SlR X (fun x lo hi H Q => r x lo hi H Q ∨ r' x lo hi H Q) := by
  intro pins s σ H x v vl vu lo hi sl Q I rx hs pl pu q
  rcases q with q | q
  · exact h pins s σ H x v vl vu lo hi sl Q I rx hs pl pu q
  · exact h' pins s σ H x v vl vu lo hi sl Q I rx hs pl pu q
def tSl (r : V → Option Int → Option Int → Hp → VK → Prop) (te : TE) (tl th : TO) : TE := fun σ H Q => te σ H fun x H1 => tl σ H1 fun l H2 => th σ H2 fun u H3 => r x l u H3 Q
/-- a[lo:hi], any a -/
theorem pe_slice {r : V → Option Int → Option Int → Hp → VK → Prop} (hr : SlR X r) (he : PE X e te) (hl : PO X lo tl) (hu : PO X hi th) : PE X (.Subscript e (.Slice lo hi none p2) pos) (tSl r te tl th) := by
  intro pins s σ H Q I h
  refine Subscript_ (thn (he pins s σ H _ I h) fun v s1 ⟨x, H1, I1, r1, q1⟩ => ?_)
  refine wpAny_Slice (thn (hl pins s1 σ H1 _ I1 q1) fun vl s2 ⟨l, H2, I2, pl, q2⟩ => thn (hu pins s2 σ H2 _ I2 q2) fun vu s3 ⟨u, H3, I3, pu, q3⟩ => ?_)
  rw [evalPart_none]
  refine wpAny_pure ?_
  have I4 : Inv X pins σ H3 { s3 with heap := s3.heap.push { cls := .type "slice", data := .fields #[vl, vu, .none] } } := I3.kept (t' := s3.toks) fun b ob q => Heap.get?_push_of_some _ q
  obtain ⟨T, id, hT, ht, hg⟩ := hr pins { s3 with heap := s3.heap.push { cls := .type "slice", data := .fields #[vl, vu, .none] } } σ H3 x v vl vu l u s3.heap.objs.size Q I4 r1 (Heap.IsSliceOf.new ..) pl pu q3
  show wpAny (model X.prog X.w) X.A (subscriptTail e (.Slice lo hi none p2) v (.ref s3.heap.objs.size)) (EP X pins σ Q) X.xe { s3 with heap := s3.heap.push { cls := .type "slice", data := .fields #[vl, vu, .none] } }
  exact tail_any (ops := [.ref s3.heap.objs.size, v]) ht hT hg (by with_unfolding_all rfl)

/-- the items of xs[lo:hi] -/
def cutV (xs : List V) (lo hi : Option Int) : List V := (xs.drop (HT.sIx xs.length 0 lo)).take (HT.sIx xs.length xs.length hi - HT.sIx xs.length 0 lo)
theorem cutV_length (xs : List V) (lo hi : Option Int) : (cutV xs lo hi).length ≤ xs.length := by
  unfold cutV
  rw [List.length_take, List.length_drop]
  omega
/-- t[lo:hi], not the whole of it (the whole would be t itself) -/
def rSlT (K : PySem.W.Frag) : V → Option Int → Option Int → Hp → VK → Prop := fun x lo hi H Q => ∃ a xs, x = .ref a ∧ SqT K H a xs ∧
  ¬ (HT.sIx xs.length 0 lo = 0 ∧ HT.sIx xs.length xs.length hi = xs.length) ∧ ∀ p, H p = none → Q (.ref p) (upd H p (.tup (cutV xs lo hi)))
theorem sl_tup : SlR X (rSlT X.K) := by
  intro pins s σ H x v vl vu lo hi sl Q I rx hs pl pu h
  obtain ⟨a, xs, rfl, hx, hw, q⟩ := h
  cases rx
  obtain ⟨its, r, ht, hz⟩ := I.tuple hx
  have hlen : its.toArray.size = xs.length := by rw [List.size_toArray]; exact r.length.symm
  refine ⟨"tuple", _, PyProof.Rows.slot_tuple_getitem.lookup, ht.typeIs, ?_⟩
  refine HT.getItem_tuple_cut ht hs pl pu (by rw [hlen]; exact hw) ?_ (by rw [hlen]; exact hz)
  rw [hlen]
  refine ⟨.ref s.heap.objs.size, _, I.laid (t' := s.toks) (o := .tup (cutV xs lo hi)) (fun b ob q => Heap.get?_push_of_some _ q) (Nat.le_refl _) ?_, rfl, q _ (I.hok.fresh (Nat.le_refl _))⟩
  exact ⟨Nat.le_trans (cutV_length xs lo hi) hz, _, (r.drop (HT.sIx xs.length 0 lo)).take (HT.sIx xs.length xs.length hi - HT.sIx xs.length 0 lo), IsTupD.new _ _⟩

/-! ### t < u, t + u -/
/-- t + u, t not empty: u empty gives t itself -/
def rCatT (K : PySem.W.Frag) : R2 := fun x y H Q => ∃ a b xs ys, x = .ref a ∧ y = .ref b ∧ SqT K H a xs ∧ SqT K H b ys ∧ xs ≠ [] ∧ xs.length + ys.length ≤ sizeLine ∧
  (ys = [] → Q (.ref a) H) ∧ (ys ≠ [] → ∀ p, H p = none → Q (.ref p) (upd H p (.tup (xs ++ ys))))
theorem Vals.nil_iff {xs : List V} {us : List Value} (r : Vals xs us) : us = [] ↔ xs = [] := by
  cases r with
  | nil => simp
  | cons _ _ => simp
theorem op_catT : OpR X (binaryOp .Add) (rCatT X.K) := by
  intro pins s σ H x y v u Q I rx ry h
  obtain ⟨a, b, xs, ys, rfl, rfl, ha, hb, hx, hz, q1, q2⟩ := h
  cases rx
  cases ry
  obtain ⟨its, r1, p1, _⟩ := I.tuple ha
  obtain ⟨its2, r2, p2, _⟩ := I.tuple hb
  refine HT.cat_tup p1 p2 (fun z => hx (r1.nil_iff.mp z)) (fun z => ⟨.ref a, H, I, rfl, q1 (r2.nil_iff.mp z)⟩) (fun z => ?_) (by rw [← r1.length, ← r2.length]; exact hz)
  refine ⟨.ref s.heap.objs.size, _, I.laid (t' := s.toks) (o := .tup (xs ++ ys)) (fun b ob q => Heap.get?_push_of_some _ q) (Nat.le_refl _) ?_, rfl, q2 (fun w => z (r2.nil_iff.mpr w)) _ (I.hok.fresh (Nat.le_refl _))⟩
  exact ⟨by rw [List.length_append]; exact hz, _, r1.append r2, IsTupD.new _ _⟩
end
end L2

namespace L2
open PySem PySem.Spec PyProof.Rows

/-! ### places -/
/-- the place that an index of any sign means -/
def ixN (n : Nat) (i : Int) : Option Nat := if 0 ≤ i then (if i < n then some i.toNat else none) else if -(n : Int) ≤ i then some (i + n).toNat else none
def atI {α : Type} (xs : List α) (i : Int) : Option α := (ixN xs.length i).bind fun j => xs[j]?
theorem ixN_seq {n : Nat} {i : Int} {j : Nat} (h : ixN n i = some j) : seqIndex? i n = some j ∧ j < n ∧ -(n : Int) ≤ i ∧ i < n := by
  unfold ixN at h
  by_cases h0 : 0 ≤ i
  · rw [if_pos h0] at h
    by_cases h1 : i < n
    · rw [if_pos h1] at h
      have e : i.toNat = j := Option.some.inj h
      exact ⟨by rw [seqIndex_of h0 h1, e], by omega, by omega, h1⟩
    · rw [if_neg h1] at h; cases h
  · rw [if_neg h0] at h
    by_cases h1 : -(n : Int) ≤ i
    · rw [if_pos h1] at h
      have e : (i + n).toNat = j := Option.some.inj h
      exact ⟨by rw [seqIndex_neg (by omega) h1, e], by omega, h1, by omega⟩
    · rw [if_neg h1] at h; cases h
theorem atI_get {α : Type} {xs : List α} {i : Int} {v : α} (h : atI xs i = some v) : ∃ j, seqIndex? i xs.length = some j ∧ xs[j]? = some v ∧ j < xs.length ∧ -(xs.length : Int) ≤ i ∧ i < xs.length := by
  unfold atI at h
  cases e : ixN xs.length i with
  | none => rw [e] at h; cases h
  | some j =>
    rw [e] at h
    obtain ⟨h1, h2, h3, h4⟩ := ixN_seq e
    exact ⟨j, h1, h, h2, h3, h4⟩
theorem atI_nat {α : Type} {xs : List α} {j : Nat} {v : α} (h : xs[j]? = some v) : atI xs (j : Int) = some v := by
  have hj : j < xs.length := (List.getElem?_eq_some_iff.mp h).1
  have e : ixN xs.length (j : Int) = some j := by
    unfold ixN
    rw [if_pos (by omega), if_pos (by omega)]; simp
  unfold atI; rw [e]; exact h
theorem atI_last {α : Type} (xs : List α) (v : α) : atI (xs ++ [v]) (-1) = some v := by
  have hl : (xs ++ [v]).length = xs.length + 1 := by simp
  have e : ixN (xs ++ [v]).length (-1) = some xs.length := by
    unfold ixN
    rw [hl, if_neg (by decide), if_pos (by omega)]
    congr 1
    omega
  unfold atI
  rw [e]
  show (xs ++ [v])[xs.length]? = some v
  simp

/-! ### what may be subscripted -/
/-- what stands as an index of a plain subscript -/
def PlainIx (b : Expr) : Prop := ∀ o i, subscripted b false o i = operate [o, i] (getItem o i)
/-- a subscript by values -/
def IxR (X : Cx) (r : R2) : Prop :=
  ∀ (value slice : Expr) (pins : List (Addr × Obj)) (s : Shared) (σ : St) (H : Hp) (x y : V) (v u : Value) (Q : VK), Inv X pins σ H s → RelV x v → RelV y u → r x y H Q →
    subscripted slice false v u = operate [v, u] (getItem v u) → wpAny (model X.prog X.w) X.A (subscriptTail value slice v u) (EP X pins σ Q) X.xe s
/-- a call of a builtin's method by values: the receiver, the arguments -/
def MtR (X : Cx) (id : String) (r : V → List V → Hp → VK → Prop) : Prop :=
  ∀ (pins : List (Addr × Obj)) (s : Shared) (σ : St) (H : Hp) (x : V) (xs : List V) (v : Value) (us : List Value) (Q : VK), Inv X pins σ H s → RelV x v → Vals xs us → r x xs H Q →
    wpAny (model X.prog X.w) X.A (call (.builtin id) (v :: us)) (EP X pins σ Q) X.xe s
section
variable {X : Cx} {a b : Expr} {ta tb : TE} {pos : Pos}
theorem IxR.or {r r' : R2} (h : IxR X r) (h' : IxR X r') : IxR X (fun x y H Q => r x y H Q ∨ r' x y H Q) := by
  intro value slice pins s σ H x y v u Q I rx ry q hs
  rcases q with q | q
  · exact h value slice pins s σ H x y v u Q I rx ry q hs
  · exact h' value slice pins s σ H x y v u Q I rx ry q hs
/-- a[b] -/
theorem pe_ix {r : R2} (hr : IxR X r) (ha : PE X a ta) (hb : PE X b tb) (hs : PlainIx b) : PE X (.Subscript a b pos) (tOp r ta tb) := by
  intro pins s σ H Q I h
  exact Subscript_ (binT ha hb I h fun v u s2 x y H2 I2 rx ry q => hr a b pins s2 σ H2 x y v u Q I2 rx ry q (hs _ _))

def rIxL (K : PySem.W.Frag) : R2 := fun x y H Q => ∃ p xs i v, x = .ref p ∧ y = .int i ∧ SqL K H p xs ∧ atI xs i = some v ∧ Q v H
def rIxT (K : PySem.W.Frag) : R2 := fun x y H Q => ∃ p xs i v, x = .ref p ∧ y = .int i ∧ SqT K H p xs ∧ atI xs i = some v ∧ Q v H
def rIxS : R2 := fun x y H Q => ∃ z i c, x = .str z ∧ y = .int i ∧ z.length ≤ sizeLine ∧ atI z.cps.toList i = some c ∧ Q (.str ⟨#[c]⟩) H
theorem ix_list : IxR X (rIxL X.K) := by
  intro value slice pins s σ H x y v u Q I rx ry h hs
  obtain ⟨p, xs, i, z, rfl, rfl, hq, he, q⟩ := h
  cases rx
  obtain ⟨t, rfl⟩ := ry
  obtain ⟨its, r, pl, hz⟩ := I.list hq
  obtain ⟨j, h1, h2, h3, h4, h5⟩ := atI_get he
  obtain ⟨w, ew, rw'⟩ := r.get h2
  have hl := r.length
  have hn := line63
  have fin : EP X pins σ Q w s := ⟨z, H, I, rw', q⟩
  by_cases h0 : 0 ≤ i
  · have hj : i.toNat = j := by
      rw [seqIndex_of h0 h5] at h1
      exact Option.some.inj h1
    exact item_listR pl.isList h0 (by omega) (by rw [hj]; simpa using ew) fin hs
  · have hj : (i + (its.toArray.size : Int)).toNat = j := by
      rw [seqIndex_neg (by omega) h4] at h1
      rw [List.size_toArray, ← hl]
      exact Option.some.inj h1
    exact subscriptTail_builtinR (x := w) pl.isList.typeIs slot_list_getitem.lookup
      (wpAny_getItem_list_neg (Q := fun r s' => r = w ∧ EP X pins σ Q r s') pl.isList (by omega) (by rw [List.size_toArray] <;> omega) (by omega) (by rw [hj]; simpa using ew) ⟨rfl, fin⟩) hs
theorem ix_tup : IxR X (rIxT X.K) := by
  intro value slice pins s σ H x y v u Q I rx ry h hs
  obtain ⟨p, xs, i, z, rfl, rfl, hq, he, q⟩ := h
  cases rx
  obtain ⟨t, rfl⟩ := ry
  obtain ⟨its, r, pl, hz⟩ := I.tuple hq
  obtain ⟨j, h1, h2, h3, h4, h5⟩ := atI_get he
  obtain ⟨w, ew, rw'⟩ := r.get h2
  have hl := r.length
  have hn := line63
  have fin : EP X pins σ Q w s := ⟨z, H, I, rw', q⟩
  exact subscriptTail_builtinR (x := w) pl.typeIs slot_tuple_getitem.lookup
    (getItem_tuple (j := j) (Q := fun r s' => r = w ∧ EP X pins σ Q r s') pl (by omega) (by omega) (by rw [List.size_toArray, ← hl]; exact h1) (by simpa using ew) ⟨rfl, fin⟩) hs
theorem ix_str : IxR X rIxS := by
  intro value slice pins s σ H x y v u Q I rx ry h hs
  obtain ⟨z, i, c, rfl, rfl, hz, he, q⟩ := h
  obtain ⟨t, rfl⟩ := rx
  obtain ⟨t', rfl⟩ := ry
  obtain ⟨j, h1, h2, h3, h4, h5⟩ := atI_get he
  have hl : z.cps.toList.length = z.length := by simp [Str.length]
  rw [hl] at h1 h4 h5
  have hn := line63
  exact tail_any (typeIs_str s z t) slot_str_getitem.lookup (getItem_str (c := c) (by
    have e1 : decide (i < -(2 ^ 63 : Int)) = false := decide_eq_false (by omega)
    have e2 : decide (i ≥ 2 ^ 63) = false := decide_eq_false (by omega)
    rw [e1, e2, Bool.or_false]) (by rw [h1]; simpa using h2) ⟨.str ⟨#[c]⟩, H, I.tok _, ⟨_, rfl⟩, q⟩) hs
/-- list, tuple or str -/
def rIx (K : PySem.W.Frag) : R2 := fun x y H Q => rIxL K x y H Q ∨ rIxT K x y H Q ∨ rIxS x y H Q
theorem ix_seq : IxR X (rIx X.K) := ix_list.or (ix_tup.or ix_str)

/-! ### xs[i] = v, any sign -/
/-- the list's object behind a store -/
theorem mapSeq_set (its : List Value) (n j : Nat) (u : Value) : Obj.mapSeq (·.setIfInBounds j u) { cls := .type "list", data := .seq its.toArray n } = { cls := .type "list", data := .seq (its.set j u).toArray n } := by
  simp [Obj.mapSeq]
theorem Inv.lst {pins : List (Addr × Obj)} {σ : St} {H : Hp} {s : Shared} {p : Addr} {xs : List V} (I : Inv X pins σ H s) (h : H p = some (.lst xs)) :
    ∃ (its : List Value) (n : Nat), Vals xs its ∧ s.heap.get? p = some { cls := .type "list", data := .seq its.toArray n } ∧ xs.length ≤ sizeLine := by
  obtain ⟨z, its, n, r, e⟩ := I.hok p _ h
  exact ⟨its, n, r, e, z⟩
/-- the list at p is written by an update of its object -/
theorem Inv.lstUpd {pins : List (Addr × Obj)} {σ : St} {H : Hp} {s : Shared} {p : Addr} {xs ys : List V} {its its' : List Value} {n n' : Nat} {f : Obj → Obj} (I : Inv X pins σ H s) (h : H p = some (.lst xs))
    (ho : s.heap.get? p = some { cls := .type "list", data := .seq its.toArray n }) (hf : f { cls := .type "list", data := .seq its.toArray n } = { cls := .type "list", data := .seq its'.toArray n' }) (r : Vals ys its') (hz : ys.length ≤ sizeLine) (t : Nat) :
    Inv X pins σ (upd H p (.lst ys)) { s with heap := s.heap.update p f, toks := t } := by
  have e : (s.heap.update p f).get? p = some { cls := .type "list", data := .seq its'.toArray n' } := by
    rw [Heap.get?_update_self f ho (by rw [hf] <;> rfl), hf]
  refine I.write (x := p) (e := p) (by rw [h]; trivial) (.inl rfl) (fun b u hb q => (Heap.get?_update_other _ _ (Ne.symm hb)).trans q) ⟨_, e⟩ ?_
  exact ⟨hz, its', n', r, e⟩
def rSetL : V → V → V → Hp → (Hp → Prop) → Prop := fun o i v H Q => ∃ p xs k j, o = .ref p ∧ i = .int k ∧ H p = some (.lst xs) ∧ ixN xs.length k = some j ∧ Q (upd H p (.lst (xs.set j v)))
theorem set_list : PSet X rSetL := by
  intro pins s σ H o i v ov iv u Q I ro ri rv h
  obtain ⟨p, xs, k, j, rfl, rfl, hp, hj, q⟩ := h
  cases ro
  obtain ⟨t, rfl⟩ := ri
  obtain ⟨its, n, r, ho, hz⟩ := I.lst hp
  obtain ⟨h1, h2, h3, h4⟩ := ixN_seq hj
  have hl := r.length
  have hn := line63
  have I' : Inv X pins σ (upd H p (.lst (xs.set j v))) { s with heap := s.heap.update p (Obj.mapSeq (·.setIfInBounds j u)) } :=
    I.lstUpd hp ho (mapSeq_set its n j u) (r.set rv j) (by rw [List.length_set]; exact hz) s.toks
  by_cases h0 : 0 ≤ k
  · have hk : k.toNat = j := by
      rw [seqIndex_of h0 h4] at h1
      exact Option.some.inj h1
    exact PySem.W.ki_setAt ho h0 (by omega) (by rw [List.size_toArray, ← hl]; exact h4) (by rw [hk]; exact ⟨_, I', q⟩)
  · have hk : (k + (its.toArray.size : Int)).toNat = j := by
      rw [seqIndex_neg (by omega) h3] at h1
      rw [List.size_toArray, ← hl]
      exact Option.some.inj h1
    exact PySem.W.ki_setBack ho (by omega) (by rw [List.size_toArray, ← hl]; exact h3) (by omega) (by rw [hk]; exact ⟨_, I', q⟩)

/-! ### slices -/
theorem slice_bounds (lo hi : Option Int) (n : Nat) : (sliceBounds lo hi none n).1 = ((HT.sIx n 0 lo : Nat) : Int) ∧ (sliceBounds lo hi none n).2.1 = ((HT.sIx n n hi : Nat) : Int) ∧ (sliceBounds lo hi none n).2.2 = 1 := by
  refine ⟨?_, ?_, rfl⟩
  · cases lo with
    | none => simp [sliceBounds, HT.sIx]
    | some i =>
      simp only [sliceBounds, HT.sIx, Option.getD_none, show (1 : Int) > 0 by decide, if_true]
      by_cases h : i < 0
      · simp only [h, if_true] <;> omega
      · simp only [h, if_false] <;> omega
  · cases hi with
    | none => simp [sliceBounds, HT.sIx]
    | some i =>
      simp only [sliceBounds, HT.sIx, Option.getD_none, show (1 : Int) > 0 by decide, if_true]
      by_cases h : i < 0
      · simp only [h, if_true] <;> omega
      · simp only [h, if_false] <;> omega
theorem slicePick_cut (its : List Value) (lo hi : Option Int) : slicePick its.toArray lo hi none = ((its.drop (HT.sIx its.length 0 lo)).take (HT.sIx its.length its.length hi - HT.sIx its.length 0 lo)).toArray := by
  obtain ⟨h1, h2, h3⟩ := slice_bounds lo hi its.toArray.size
  unfold slicePick
  rw [h1, h2, h3]
  simp only [sliceRange_one, pick_run, List.size_toArray] <;> rfl
/-- xs[lo:hi] of a list: a new list -/
def rSlL (K : PySem.W.Frag) : V → Option Int → Option Int → Hp → VK → Prop := fun x lo hi H Q => ∃ a xs, x = .ref a ∧ SqL K H a xs ∧ ∀ p, H p = none → Q (.ref p) (upd H p (.lst (cutV xs lo hi)))
theorem sl_list : SlR X (rSlL X.K) := by
  intro pins s σ H x v vl vu lo hi sl Q I rx hs pl pu h
  obtain ⟨a, xs, rfl, hx, q⟩ := h
  cases rx
  obtain ⟨its, r, ht, hz⟩ := I.list hx
  have hlen := r.length
  refine ⟨"list", _, slot_list_getitem.lookup, ht.isList.typeIs, ?_⟩
  refine wpAny_getItem_list_slice ht.isList hs pl pu .none (by simp) ?_ (by rw [List.size_toArray] <;> omega)
  rw [slicePick_cut, ← hlen]
  refine ⟨.ref s.heap.objs.size, _, I.laid (t' := s.toks) (o := .lst (cutV xs lo hi)) (fun b ob q => Heap.get?_push_of_some _ q) (Nat.le_refl _) ?_, rfl, q _ (I.hok.fresh (Nat.le_refl _))⟩
  exact ⟨Nat.le_trans (cutV_length xs lo hi) hz, _, 0, (r.drop (HT.sIx xs.length 0 lo)).take (HT.sIx xs.length xs.length hi - HT.sIx xs.length 0 lo), Heap.get?_push_size _ rfl⟩

/-! ### in, not in: flat items -/
def flatV : V → Bool
  | .non => true
  | .bl _ => true
  | .int _ => true
  | .str _ => true
  | _ => false
/-- == of flat values -/
def eqV : V → V → Bool
  | .non, .non => true
  | .bl a, .bl b => a == b
  | .bl a, .int b => (if a then 1 else 0) == b
  | .int a, .bl b => a == (if b then 1 else 0)
  | .int a, .int b => a == b
  | .str a, .str b => a == b
  | _, _ => false
theorem eqAt_V {A : Around} {s : Shared} {y x : V} {u v : Value} (ry : RelV y u) (rx : RelV x v) (fy : flatV y = true) (fx : flatV x = true) : SeqAt.EqAt A s u v (eqV y x) := by
  cases y with
  | non =>
    cases ry
    cases x with
    | non => cases rx; exact SeqAt.EqAt.same _
    | bl b => cases rx; exact SeqAt.EqAt.none_bool b
    | int b => obtain ⟨t, rfl⟩ := rx; exact SeqAt.EqAt.none_int b t
    | str b => obtain ⟨t, rfl⟩ := rx; exact SeqAt.EqAt.none_str b t
    | _ => exact absurd (show false = true from fx) Bool.false_ne_true
  | bl a =>
    cases ry
    cases x with
    | non => cases rx; exact SeqAt.EqAt.bool_none a
    | bl b => cases rx; exact SeqAt.EqAt.bool_bool a b
    | int b => obtain ⟨t, rfl⟩ := rx; exact SeqAt.EqAt.bool_int a b t
    | str b => obtain ⟨t, rfl⟩ := rx; exact SeqAt.EqAt.bool_str a b t
    | _ => exact absurd (show false = true from fx) Bool.false_ne_true
  | int a =>
    obtain ⟨t', rfl⟩ := ry
    cases x with
    | non => cases rx; exact SeqAt.EqAt.int_none a t'
    | bl b => cases rx; exact SeqAt.EqAt.int_bool a t' b
    | int b => obtain ⟨t, rfl⟩ := rx; exact SeqAt.EqAt.int_int a t' b t
    | str b => obtain ⟨t, rfl⟩ := rx; exact SeqAt.EqAt.int_str a t' b t
    | _ => exact absurd (show false = true from fx) Bool.false_ne_true
  | str a =>
    obtain ⟨t', rfl⟩ := ry
    cases x with
    | non => cases rx; exact SeqAt.EqAt.str_none a t'
    | bl b => cases rx; exact SeqAt.EqAt.str_bool a t' b
    | int b => obtain ⟨t, rfl⟩ := rx; exact SeqAt.EqAt.str_int a t' b t
    | str b => obtain ⟨t, rfl⟩ := rx; exact SeqAt.EqAt.str_str a t' b t
    | _ => exact absurd (show false = true from fx) Bool.false_ne_true
  | _ => exact absurd (show false = true from fy) Bool.false_ne_true
/-- the items' answers, read off the values (a value's own answer does not lean on its token) -/
def eqU (x : V) (u : Value) : Bool := match u with
  | .none => eqV .non x
  | .bool b => eqV (.bl b) x
  | .int i _ => eqV (.int i) x
  | .str z _ => eqV (.str z) x
  | _ => false
theorem eqU_of {x y : V} {u : Value} (r : RelV y u) (f : flatV y = true) : eqU x u = eqV y x := by
  cases y with
  | non => cases r; rfl
  | bl b => cases r; rfl
  | int i => obtain ⟨t, rfl⟩ := r; rfl
  | str z => obtain ⟨t, rfl⟩ := r; rfl
  | _ => exact absurd (show false = true from f) Bool.false_ne_true
theorem any_eqU {x : V} : ∀ {xs : List V} {us : List Value}, Vals xs us → xs.all flatV = true → us.any (eqU x) = xs.any fun y => eqV y x
  | _, _, .nil, _ => rfl
  | y :: xs, u :: us, .cons r t, f => by
    rw [List.all_cons, Bool.and_eq_true] at f
    rw [List.any_cons, List.any_cons, eqU_of r f.1, any_eqU t f.2]
theorem mem_eqAt {A : Around} {s : Shared} {x : V} {v : Value} (rx : RelV x v) (fx : flatV x = true) : ∀ {xs : List V} {us : List Value}, Vals xs us → xs.all flatV = true → ∀ u ∈ us, SeqAt.EqAt A s u v (eqU x u)
  | _, _, .nil, _ => fun u hu => by cases hu
  | y :: xs, u :: us, .cons r t, f => fun u' hu => by
    rw [List.all_cons, Bool.and_eq_true] at f
    rcases List.mem_cons.mp hu with rfl | hu
    · rw [eqU_of r f.1]; exact eqAt_V r rx f.1 fx
    · exact mem_eqAt rx fx t f.2 u' hu
def inV (x : V) (xs : List V) : Bool := xs.any fun y => eqV y x
/-- x in a list or tuple of flat items -/
def rIn (K : PySem.W.Frag) (neg : Bool) : R2 := fun x y H Q => ∃ p xs, y = .ref p ∧ (SqL K H p xs ∨ SqT K H p xs) ∧ flatV x = true ∧ xs.all flatV = true ∧ Q (.bl (if neg then !inV x xs else inV x xs)) H
theorem op_in_seq : OpR X (compareOp .In) (rIn X.K false) := by
  intro pins s σ H x y v u Q I rx ry h
  obtain ⟨p, xs, rfl, hq, fx, fs, q⟩ := h
  cases ry
  rcases hq with hq | hq
  · obtain ⟨its, r, pl, hz⟩ := I.list hq
    refine SeqAt.in_listAt (eqU x) pl.isList (fun w hw => mem_eqAt rx fx r fs w (by simpa using hw)) ⟨.bl _, H, I, rfl, ?_⟩
    rw [show its.toArray.any (eqU x) = its.any (eqU x) by simp, any_eqU r fs]
    exact q
  · obtain ⟨its, r, pl, hz⟩ := I.tuple hq
    refine SeqAt.in_tupleAt (eqU x) pl (fun w hw => mem_eqAt rx fx r fs w (by simpa using hw)) ⟨.bl _, H, I, rfl, ?_⟩
    rw [show its.toArray.any (eqU x) = its.any (eqU x) by simp, any_eqU r fs]
    exact q
/-! ### len, list(x), tuple(x) of any list or tuple that is read -/
theorem call_len_seq : CallR X (.builtin "len") (fun xs H Q => ∃ p ys, xs = [.ref p] ∧ (SqL X.K H p ys ∨ SqT X.K H p ys) ∧ Q (.int ys.length) H) := by
  intro pins s σ H xs us Q I r h
  obtain ⟨p, ys, rfl, hq, q⟩ := h
  obtain ⟨u, rfl, rx⟩ := vals1 r
  cases rx
  have hn := line63
  rcases hq with hq | hq
  · obtain ⟨its, r', pl, hz⟩ := I.list hq
    have hlen := r'.length
    exact Calls.call_len_list pl.isList (by simp only [List.size_toArray] <;> omega) ⟨.int ys.length, H, I.tok _, ⟨s.toks + 1, by rw [List.size_toArray, hlen]⟩, q⟩
  · obtain ⟨its, r', pl, hz⟩ := I.tuple hq
    have hlen := r'.length
    exact len_tuple pl (by simp only [List.size_toArray] <;> omega) ⟨.int ys.length, H, I.tok _, ⟨s.toks + 1, by rw [List.size_toArray, hlen]⟩, q⟩
theorem call_len_str : CallR X (.builtin "len") (fun xs H Q => ∃ z, xs = [.str z] ∧ z.length ≤ sizeLine ∧ Q (.int z.length) H) := by
  intro pins s σ H xs us Q I r h
  obtain ⟨z, rfl, hz, q⟩ := h
  obtain ⟨u, rfl, t, rfl⟩ := vals1 r
  have hn := line63
  exact len_str (by omega) ⟨.int z.length, H, I.tok _, ⟨_, rfl⟩, q⟩
theorem CallR.or {f : Value} {r r' : List V → Hp → VK → Prop} (h : CallR X f r) (h' : CallR X f r') : CallR X f (fun xs H Q => r xs H Q ∨ r' xs H Q) := by
  intro pins s σ H xs us Q I rs q
  rcases q with q | q
  · exact h pins s σ H xs us Q I rs q
  · exact h' pins s σ H xs us Q I rs q
theorem call_list_of : CallR X (.type "list") (fun xs H Q => ∃ p ys, xs = [.ref p] ∧ (SqL X.K H p ys ∨ SqT X.K H p ys) ∧ ∀ l, H l = none → Q (.ref l) (upd H l (.lst ys))) := by
  intro pins s σ H xs us Q I r h
  obtain ⟨p, ys, rfl, hq, q⟩ := h
  obtain ⟨u, rfl, rx⟩ := vals1 r
  cases rx
  have fin : ∀ (its : List Value), Vals ys its → ys.length ≤ sizeLine → ∀ (h' : Heap) (c' : Nat), (∀ b o', s.heap.get? b = some o' → h'.get? b = some o') →
      h'.get? s.heap.objs.size = some { cls := .type "list", dict := none, data := .seq its.toArray c', slots := #[] } → EP X pins σ Q (.ref s.heap.objs.size) { s with heap := h' } := fun its r' hz h' c' kp e =>
    ⟨.ref s.heap.objs.size, _, I.laid (t' := s.toks) kp (Nat.le_refl _) (show ObjOk X.prog X.w _ h' _ (.lst ys) from ⟨hz, its, c', r', e⟩), rfl, q _ (I.hok.fresh (Nat.le_refl _))⟩
  rcases hq with hq | hq
  · obtain ⟨its, r', pl, hz⟩ := I.list hq
    have hlen := r'.length
    obtain ⟨o, ho, hc, n, hd⟩ := pl.isList
    exact call_list_seq p (.inl rfl) ho hc hd (fun h' c' kp e => fin its r' hz h' c' kp e) (by simp only [List.size_toArray] <;> omega)
  · obtain ⟨its, r', pl, hz⟩ := I.tuple hq
    have hlen := r'.length
    obtain ⟨o, ho, hc, n, hd⟩ := pl
    exact call_list_seq p (.inr rfl) ho hc hd (fun h' c' kp e => fin its r' hz h' c' kp e) (by simp only [List.size_toArray] <;> omega)
/-! ### the call of a builtin's method: o.m(..) -/
/-- the value is of that builtin type -/
def tyV (K : PySem.W.Frag) (T : String) (x : V) (H : Hp) : Prop := match x with
  | .str _ => T = "str"
  | .int _ => T = "int"
  | .ref p => (T = "list" ∧ ∃ xs, SqL K H p xs) ∨ (T = "tuple" ∧ ∃ o, K.lookup p = some o ∧ o.cls = .type "tuple" ∧ o.dict = none) ∨
      (T = "dict" ∧ ((∃ kvs, H p = some (.dK kvs)) ∨ ∃ kvs, H p = some (.dT kvs))) ∨ (T = "set" ∧ ∃ S n, H p = some (.set S n))
  | _ => False
theorem tyV_is {pins : List (Addr × Obj)} {σ : St} {H : Hp} {s : Shared} {T : String} {x : V} {v : Value} (I : Inv X pins σ H s) (r : RelV x v) (ty : tyV X.K T x H) :
    s.TypeIs v T ∧ ∀ a, v = .ref a → ∃ ob, s.heap.get? a = some ob ∧ ob.dict = none := by
  cases x with
  | str z =>
    obtain ⟨t, rfl⟩ := r
    cases (show T = "str" from ty)
    exact ⟨typeIs_str s z t, fun _ e => nomatch e⟩
  | int i =>
    obtain ⟨t, rfl⟩ := r
    cases (show T = "int" from ty)
    exact ⟨typeIs_int s i t, fun _ e => nomatch e⟩
  | ref p =>
    cases r
    rcases ty with ⟨rfl, xs, hq⟩ | ⟨rfl, o, hk, hc, hd⟩ | ⟨rfl, hk⟩ | ⟨rfl, S, n, hk⟩
    · obtain ⟨its, _, pl, _⟩ := I.list hq
      refine ⟨pl.isList.typeIs, fun a e => ?_⟩
      cases e
      obtain ⟨o, n, e, c, hd, _⟩ := pl
      exact ⟨o, e, hd⟩
    · refine ⟨⟨o, I.kIn p o hk, hc⟩, fun a e => ?_⟩
      cases e
      exact ⟨o, I.kIn _ o hk, hd⟩
    · have z : ∃ o, s.heap.get? p = some o ∧ o.ExactDict := by
        rcases hk with ⟨kvs, hk⟩ | ⟨kvs, hk⟩
        · obtain ⟨_, _, _, _, o, _, _, e, ex, _⟩ := I.hok p _ hk
          exact ⟨o, e, ex⟩
        · obtain ⟨_, _, _, _, o, _, _, e, ex, _⟩ := I.hok p _ hk
          exact ⟨o, e, ex⟩
      obtain ⟨o, e, ex⟩ := z
      refine ⟨⟨o, e, ex.1⟩, fun a e2 => ?_⟩
      cases e2
      exact ⟨o, e, ex.2.1⟩
    · obtain ⟨o, _, _, _, e, ex, _⟩ := I.hok p _ hk
      refine ⟨⟨o, e, ex.1⟩, fun a e2 => ?_⟩
      cases e2
      exact ⟨o, e, ex.2.1⟩
  | _ => exact False.elim ty
def tBM (K : PySem.W.Frag) (T : String) (r : V → List V → Hp → VK → Prop) (to : TE) (t : TA) : TE := fun σ H Q => to σ H fun x H1 => tyV K T x H1 ∧ t σ H1 fun xs H2 => r x xs H2 Q
variable {o e : Expr} {es : List Expr} {to : TE} {t : TA} {name : Str} {apos cpos : Pos} {T id : String} {r : V → List V → Hp → VK → Prop}
theorem pe_bm (pa : PlainAttrs T) (slot : Slot T name id) (hty : typeOf (.builtin id) = pure (.type "method_descriptor")) (hm : MtR X id r) (ho : PE X o to) (ha : PA X (e :: es) t)
    (hbase : attributeBase o name X.env (eval o X.env) = eval o X.env := by rfl)
    (hfew : ((backTo cpos (starEach (e :: es) X.env)).all (fun x => !x.1) && (backToKw cpos (keywordEach [] X.env)).all (fun x => x.1.isSome)
      && decide ((e :: es).length + ([] : List Keyword).length + (if ([] : List Keyword).isEmpty then 0 else 1) < 30)) = true := by rfl)
    (hline : (apos.endLine == cpos.line) = true := by rfl) (hs : starEach (e :: es) X.env = (false, eval e X.env) :: starEach es X.env := by rfl) (hplain : (backTo cpos (starEach es X.env)).any (·.1) = false := by rfl) :
    PE X (.Call (.Attribute o name apos) (e :: es) [] cpos) (tBM X.K T r to t) := by
  intro pins s σ H Q I h
  refine wpAny_Call_method_late hbase hfew hline rfl (thn (ho pins s σ H _ I h) fun v s1 ⟨x, H1, I1, r1, ty, q1⟩ => ?_)
  obtain ⟨h1, h2⟩ := tyV_is I1 r1 ty
  refine ⟨T, id, pa, slot, hty, h1, h2, ?_⟩
  have hA := ha cpos pins s1 σ H1 _ I1 q1
  rw [hs] at hA ⊢
  refine Calls.callWith_builtin (by show (false || (backTo cpos (starEach es X.env)).any (·.1)) = false; rw [hplain] <;> rfl) (Calls.evalArgs_plain ?_)
  exact thn hA fun us s2 ⟨vs, H2, I2, r2, q2⟩ => hm pins s2 σ H2 x vs v us Q I2 r1 r2 q2
/- xs.append(e), list.index on a module's tuple .. are MtR facts of 06m -/
end
end L2

namespace L2
open PySem PySem.Spec PyProof.Rows

def MtM (X : Cx) (id : String) (r : V → List V → Hp → VK → Prop) : Prop :=
  ∀ (pins : List (Addr × Obj)) (s : Shared) (σ : St) (H : Hp) (x : V) (xs : List V) (v : Value) (us : List Value) (Q : VK), Inv X pins σ H s → RelV x v → Vals xs us → r x xs H Q →
    wpAny (model X.prog X.w) X.A (call (.builtin id) (v :: us)) (EP X pins σ Q) X.xe s

/-! ### lists of values -/
theorem Vals.one : ∀ {x : V} {us : List Value}, Vals [x] us → ∃ u, us = [u] ∧ RelV x u
  | _, _, .cons r .nil => ⟨_, rfl, r⟩
theorem Vals.rep {xs : List V} {us : List Value} (h : Vals xs us) : ∀ k : Nat, Vals (List.replicate k xs).flatten (List.replicate k us).flatten
  | 0 => .nil
  | k + 1 => by
    rw [List.replicate_succ, List.replicate_succ, List.flatten_cons, List.flatten_cons]
    exact Vals.append h (Vals.rep h k)
theorem foldl_rep (its : List Value) : ∀ (k : Nat) (acc : List Value),
    List.foldl (fun x1 x2 => x1 ++ x2) acc.toArray (List.replicate k its.toArray) = (acc ++ (List.replicate k its).flatten).toArray
  | 0, acc => by simp
  | k + 1, acc => by
    have e : acc.toArray ++ its.toArray = (acc ++ its).toArray := by simp
    have e2 : (acc ++ its) ++ (List.replicate k its).flatten = acc ++ (List.replicate (k + 1) its).flatten := by
      rw [List.replicate_succ, List.flatten_cons, List.append_assoc]
    rw [← e2, ← foldl_rep its k (acc ++ its), ← e, List.replicate_succ, List.foldl_cons]

section
variable {X : Cx} {pins : List (Addr × Obj)} {σ : St} {H : Hp} {s : Shared} {l b : Addr} {xs ys zs : List V}

/-! ### the two steps: a tracked list is rewritten, a new list is laid -/
theorem Inv.lset {its its' : List Value} {n : Nat} {f : Array Value → Array Value} {t' : Nat} (I : Inv X pins σ H s) (hH : H l = some (.lst xs))
    (e : s.heap.get? l = some { cls := .type "list", data := .seq its.toArray n }) (hf : f its.toArray = its'.toArray) (hv : Vals ys its') (hz : ys.length ≤ sizeLine) :
    Inv X pins σ (upd H l (.lst ys)) { s with heap := s.heap.update l (Obj.mapSeq f), toks := t' } := by
  have q := PySem.IsL.update e f
  rw [hf] at q
  refine I.write (x := l) (e := l) (by rw [hH]; exact trivial) (.inl rfl) (fun b' u hb hu => (Heap.get?_update_other s.heap (Obj.mapSeq f) (Ne.symm hb)).trans hu) ⟨_, q⟩ ?_
  exact ⟨hz, its', _, hv, q⟩
theorem Inv.lnew {its : List Value} {t' : Nat} (I : Inv X pins σ H s) (hv : Vals ys its) (hz : ys.length ≤ sizeLine) :
    Inv X pins σ (upd H s.heap.objs.size (.lst ys)) { s with heap := s.heap.push { cls := .type "list", data := .seq its.toArray }, toks := t' } :=
  I.laid (fun _ _ q => Heap.get?_push_of_some _ q) (Nat.le_refl _) ⟨hz, its, 0, hv, Heap.get?_push_size _ rfl⟩
theorem Inv.fresh (I : Inv X pins σ H s) : H s.heap.objs.size = none := I.hok.fresh (Nat.le_refl _)
theorem Inv.lstM (I : Inv X pins σ H s) (hH : H l = some (.lst xs)) : xs.length ≤ sizeLine ∧ ∃ (its : List Value) (n : Nat), Vals xs its ∧ xs.length = its.length ∧ s.heap.get? l = some { cls := .type "list", data := .seq its.toArray n } := by
  obtain ⟨z, its, n, r, e⟩ := I.hok l _ hH
  exact ⟨z, its, n, r, r.length, e⟩

theorem notLongL {n : Nat} (h : n ≤ sizeLine) : Builtin.List.listTooLong n = false := by
  unfold Builtin.List.listTooLong
  exact decide_eq_false (by omega)
end

section
variable {X : Cx}

/-! ### methods -/
def rAppend : V → List V → Hp → VK → Prop := fun x vs H Q => ∃ l xs y, x = .ref l ∧ vs = [y] ∧ H l = some (.lst xs) ∧ xs.length < sizeLine ∧ Q .non (upd H l (.lst (xs ++ [y])))
theorem mt_append : MtM X "list.append" rAppend := by
  intro pins s σ H x vs v us Q I rx rv h
  obtain ⟨l, xs, y, rfl, rfl, hH, hz, q⟩ := h
  cases rx
  obtain ⟨u, rfl, ru⟩ := rv.one
  obtain ⟨z, its, n, r, hl, e⟩ := I.lstM hH
  refine call_meets F.slot_list_append ⟨_, e, rfl⟩ F.entry_list_append (F.args_list_append_2 _ _) (PySem.list_append l its.toArray n u (by rw [List.size_toArray]; omega)) ⟨e, ?_⟩
  refine ⟨.non, _, I.lset (its' := its ++ [u]) hH e (by simp) (r.append (.cons ru .nil)) ?_, rfl, q⟩
  rw [List.length_append, List.length_singleton]
  omega

def rExtend : V → List V → Hp → VK → Prop := fun x vs H Q => ∃ l b xs zs, x = .ref l ∧ vs = [.ref b] ∧ H l = some (.lst xs) ∧ H b = some (.lst zs) ∧ xs.length + zs.length ≤ sizeLine ∧ Q .non (upd H l (.lst (xs ++ zs)))
theorem mt_extend : MtM X "list.extend" rExtend := by
  intro pins s σ H x vs v us Q I rx rv h
  obtain ⟨l, b, xs, zs, rfl, rfl, hH, hB, hz, q⟩ := h
  cases rx
  obtain ⟨u, rfl, ru⟩ := rv.one
  cases ru
  obtain ⟨z, its, n, r, hl, e⟩ := I.lstM hH
  obtain ⟨z2, its2, n2, r2, hl2, e2⟩ := I.lstM hB
  have hsz : its.toArray.size + its2.toArray.size ≤ sizeLine := by rw [List.size_toArray, List.size_toArray]; omega
  have hlong : ¬ (!its.toArray.isEmpty && Builtin.List.listTooLong (its.toArray.size + its2.toArray.size)) = true := by
    rw [notLongL hsz, Bool.and_false]
    exact Bool.false_ne_true
  refine call_meets F.slot_list_extend ⟨_, e, rfl⟩ F.entry_list_extend (F.args_list_extend_2 _ _)
    (AutoSeq1.list_extend_list_list_0 l its.toArray n b its2.toArray n2 hlong (by rw [List.size_toArray]; omega) (by omega)) ⟨e, e2, ?_⟩
  refine ⟨.non, _, I.lset (its' := its ++ its2) hH e (by simp) (r.append r2) ?_, rfl, q⟩
  rw [List.length_append]
  omega

/-! ### list + list, list += list, list * int -/
def rCat : R2 := fun x y H Q => ∃ l b xs zs, x = .ref l ∧ y = .ref b ∧ H l = some (.lst xs) ∧ H b = some (.lst zs) ∧ xs.length + zs.length ≤ sizeLine ∧ ∀ p, H p = none → Q (.ref p) (upd H p (.lst (xs ++ zs)))
theorem op_cat : OpR X (binaryOp .Add) rCat := by
  intro pins s σ H x y v u Q I rx ry h
  obtain ⟨l, b, xs, zs, rfl, rfl, hH, hB, hz, q⟩ := h
  cases rx
  cases ry
  obtain ⟨z, its, n, r, hl, e⟩ := I.lstM hH
  obtain ⟨z2, its2, n2, r2, hl2, e2⟩ := I.lstM hB
  refine PySem.P.add_list e e2 ?_ (by rw [List.size_toArray, List.size_toArray]; omega)
  have ea : its.toArray ++ its2.toArray = (its ++ its2).toArray := by simp
  rw [ea]
  exact ⟨.ref _, _, I.lnew (t' := s.toks) (r.append r2) (by rw [List.length_append]; omega), rfl, q _ I.fresh⟩
/-- a list times an int (a negative one is nothing) -/
def rRep : R2 := fun x y H Q => ∃ l k xs, x = .ref l ∧ y = .int k ∧ H l = some (.lst xs) ∧ -(2 ^ 63) ≤ k ∧ k < 2 ^ 63 ∧ xs.length * k.toNat ≤ sizeLine ∧
  ∀ p, H p = none → Q (.ref p) (upd H p (.lst (List.replicate k.toNat xs).flatten))
theorem len_rep {α : Type} (xs : List α) (k : Nat) : (List.replicate k xs).flatten.length = k * xs.length := by
  induction k with
  | zero => simp
  | succ k ih => rw [List.replicate_succ, List.flatten_cons, List.length_append, ih, Nat.succ_mul, Nat.add_comm]
theorem op_rep : OpR X (binaryOp .Mult) rRep := by
  intro pins s σ H x y v u Q I rx ry h
  obtain ⟨l, k, xs, rfl, rfl, hH, h1, h2, hz, q⟩ := h
  cases rx
  obtain ⟨t, rfl⟩ := ry
  obtain ⟨z, its, n, r, hl, e⟩ := I.lstM hH
  have hlen : its.toArray.size * k.toNat ≤ sizeLine := by rw [List.size_toArray, ← hl]; exact hz
  have hcap : ¬ its.toArray.size * k.toNat > (2 ^ 63 - 1) / 8 := by
    have : (sizeLine : Nat) ≤ (2 ^ 63 - 1) / 8 := by decide
    omega
  have hfit : ¬ (!Builtin.List.listFitsIndex k) = true := by
    rw [fitsIndex_both h1 h2]
    exact Bool.false_ne_true
  have hlong : ¬ Builtin.List.listTooLong (its.toArray.size * k.toNat) = true := by
    rw [notLongL hlen]
    exact Bool.false_ne_true
  have hnew : List.foldl (fun x1 x2 => x1 ++ x2) #[] (List.replicate (if its.toArray.isEmpty = true then 0 else k.toNat) its.toArray) = (List.replicate k.toNat its).flatten.toArray := by
    have f0 : ∀ m : Nat, List.foldl (fun x1 x2 => x1 ++ x2) #[] (List.replicate m its.toArray) = (List.replicate m its).flatten.toArray := fun m => by
      have := foldl_rep its m []
      rw [List.nil_append] at this
      exact this
    rw [f0]
    cases its with
    | nil => simp
    | cons a r' => rw [if_neg (by simp)]
  refine wpAny_binaryOp_repeat_ref (T := "list") (U := "int") (by decide) ⟨_, e, rfl⟩ (fun s' => typeIs_int s' k t) noFill_list_mul F.fills_int_mul F.slot_int_rmul repeat_list F.slot_int_index.lookup
    (call_meets F.slot_int_rmul (typeIs_int s k t) F.entry_int_rmul (F.args_int_rmul_2 _ _) (int___rmul___int_list k t l its.toArray n)
      ⟨e, rfl, ⟨_, e, rfl⟩, call_meets F.slot_list_mul ⟨_, e, rfl⟩ F.entry_list_mul (F.args_list_mul_2 _ _) (AutoListH.list___mul___list_int_3 l its.toArray n k t hfit hcap hlong) ⟨e, ?_⟩⟩)
  rw [hnew]
  exact ⟨.ref _, _, I.lnew (t' := s.toks) (r.rep k.toNat) (by rw [len_rep, Nat.mul_comm]; exact hz), rfl, q _ I.fresh⟩

/-! ### del xs[i] -/
end

/-! ### xs[a:b] = ys -/
section
variable {prog : Program} {w : World} {A : Around} {E : Value → Shared → Prop} {s : Shared}
end

section
variable {X : Cx}
end
end L2
namespace L2
open PySem PySem.Spec PyProof.Rows

/-! ### lists of pairs as tables -/
section
variable {κ : Type} [DecidableEq κ]
def valV (kvs : List (κ × V)) (k : κ) : Option V := (kvs.find? fun kv => decide (kv.1 = k)).map (·.2)
/-- in its place, or at the end -/
def putK (kvs : List (κ × V)) (k : κ) (v : V) : List (κ × V) :=
  if (kvs.any fun kv => decide (kv.1 = k)) = true then kvs.map (fun kv => if kv.1 = k then (kv.1, v) else kv) else kvs ++ [(k, v)]
theorem valV_pos {p : κ × V} {r : List (κ × V)} {k : κ} (e : p.1 = k) : valV (p :: r) k = some p.2 := by simp [valV, List.find?_cons, e]
theorem valV_neg {p : κ × V} {r : List (κ × V)} {k : κ} (e : ¬ p.1 = k) : valV (p :: r) k = valV r k := by simp [valV, List.find?_cons, e]
theorem valV_any (k : κ) : ∀ kvs : List (κ × V), (kvs.any fun kv => decide (kv.1 = k)) = (valV kvs k).isSome
  | [] => rfl
  | p :: r => by
    rw [List.any_cons]
    by_cases e : p.1 = k
    · simp only [valV_pos e, decide_eq_true e, Bool.true_or, Option.isSome_some]
    · rw [valV_neg e, decide_eq_false e, Bool.false_or]; exact valV_any k r
theorem length_putK (kvs : List (κ × V)) (k : κ) (v : V) : (putK kvs k v).length ≤ kvs.length + 1 := by
  unfold putK
  split
  · rw [List.length_map]; omega
  · rw [List.length_append, List.length_cons, List.length_nil]; omega
theorem RelO.isSome_eq {o : Option V} {u : Option Value} (r : RelO o u) : o.isSome = u.isSome := by
  cases o with
  | none => cases u with
    | none => rfl
    | some _ => exact (show False from r).elim
  | some _ => cases u with
    | none => exact (show False from r).elim
    | some _ => rfl
/-- raw tables of the same keys -/
theorem KV.val {kvs : List (κ × V)} {vs : List (κ × Value)} (r : KV kvs vs) (k : κ) : RelO (valV kvs k) (valueAt vs k) := by
  unfold KV at r
  induction r with
  | nil => exact True.intro
  | @cons p q ps qs h t ih =>
    obtain ⟨h1, h2⟩ := h
    by_cases e : p.1 = k
    · have e' : q.1 = k := h1.symm.trans e
      have b : valueAt (q :: qs) k = some q.2 := by simp [valueAt, List.find?_cons, e']
      rw [valV_pos e, b]; exact h2
    · have e' : ¬ q.1 = k := fun z => e (h1.trans z)
      have b : valueAt (q :: qs) k = valueAt qs k := by simp [valueAt, List.find?_cons, e']
      rw [valV_neg e, b]; exact ih
theorem KV.any {kvs : List (κ × V)} {vs : List (κ × Value)} (r : KV kvs vs) (k : κ) : (kvs.any fun kv => decide (kv.1 = k)) = vs.any fun kv => decide (kv.1 = k) := by
  unfold KV at r
  induction r with
  | nil => rfl
  | cons h t ih => rw [List.any_cons, List.any_cons, ih, h.1]
theorem KV.repl {kvs : List (κ × V)} {vs : List (κ × Value)} (r : KV kvs vs) (k : κ) {y : V} {u : Value} (ry : RelV y u) :
    KV (kvs.map fun kv => if kv.1 = k then (kv.1, y) else kv) (vs.map fun kv => if kv.1 = k then (kv.1, u) else kv) := by
  unfold KV at r ⊢
  induction r with
  | nil => exact .nil
  | @cons p q ps qs h t ih =>
    rw [List.map_cons, List.map_cons]
    refine .cons ?_ ih
    obtain ⟨h1, h2⟩ := h
    by_cases e : p.1 = k
    · rw [if_pos e, if_pos (h1.symm.trans e)]; exact ⟨h1, ry⟩
    · rw [if_neg e, if_neg (fun z => e (h1.trans z))]; exact ⟨h1, h2⟩
theorem KV.put {kvs : List (κ × V)} {vs : List (κ × Value)} (r : KV kvs vs) (k : κ) {y : V} {u : Value} (ry : RelV y u) : KV (putK kvs k y) (stored vs k u) := by
  unfold putK stored
  rw [r.any k]
  by_cases e : (vs.any fun kv => decide (kv.1 = k)) = true
  · rw [if_pos e, if_pos e]; exact r.repl k ry
  · rw [if_neg e, if_neg e]; exact Paired.snoc r ⟨rfl, ry⟩
theorem KV.length {kvs : List (κ × V)} {vs : List (κ × Value)} (r : KV kvs vs) : kvs.length = vs.length := Paired.length r
end


/-! ### a tracked dict, its keys ints and texts or tuples of these -/
theorem kV_is {P : Program} {w : World} {k : Key} {u : Value} (r : RelV (kV k) u) : (mixKind P w).is k u = true := by
  cases k with
  | inl i => obtain ⟨t, e⟩ := (show ∃ t, u = Value.int i t from r); subst e; exact mixKind_int P w i t
  | inr x => obtain ⟨t, e⟩ := (show ∃ t, u = Value.str x t from r); subst e; exact mixKind_str P w x t
theorem items_are {P : Program} {w : World} : ∀ {ks : List Key} {us : List Value}, Vals (ks.map kV) us → ItemsAre (mixKind P w) ks us
  | [], _, r => by rw [List.map_nil] at r; cases r; exact .nil
  | k :: ks, _, r => by
    rw [List.map_cons] at r
    cases r with
    | cons h t => exact .cons (kV_is h) (items_are t)

/-- raw entries of a dict with tuple keys -/
abbrev KT (H : Hp) : List (List Key × V) → List (List Key × Addr × Value) → Prop := Paired fun p q => p.1 = q.1 ∧ H q.2.1 = some (.tup (p.1.map kV)) ∧ RelV p.2 q.2.2
theorem KT.val {H : Hp} {kvs : List (List Key × V)} {xs : List (List Key × Addr × Value)} (r : KT H kvs xs) (k : List Key) : RelO (valV kvs k) ((atKey xs k).map (·.2)) := by
  induction r with
  | nil => exact True.intro
  | @cons p q ps qs h t ih =>
    obtain ⟨h1, _, h2⟩ := h
    by_cases e : p.1 = k
    · have e' : q.1 = k := h1.symm.trans e
      have b : atKey (q :: qs) k = some q.2 := by simp [atKey, List.find?_cons, e']
      rw [valV_pos e, b]; exact h2
    · have e' : ¬ q.1 = k := fun z => e (h1.trans z)
      have b : atKey (q :: qs) k = atKey qs k := by simp [atKey, List.find?_cons, e']
      rw [valV_neg e, b]; exact ih
theorem KT.repl {H : Hp} {kvs : List (List Key × V)} {xs : List (List Key × Addr × Value)} (r : KT H kvs xs) (k : List Key) {y : V} {u : Value} (ry : RelV y u) :
    KT H (kvs.map fun kv => if kv.1 = k then (kv.1, y) else kv) (xs.map (putAt k u)) := by
  induction r with
  | nil => exact .nil
  | @cons p q ps qs h t ih =>
    rw [List.map_cons, List.map_cons]
    refine .cons ?_ ih
    obtain ⟨h1, h2, h3⟩ := h
    unfold putAt
    by_cases e : p.1 = k
    · rw [if_pos e, if_pos (h1.symm.trans e)]; exact ⟨h1, h2, ry⟩
    · rw [if_neg e, if_neg (fun z => e (h1.trans z))]; exact ⟨h1, h2, h3⟩
theorem KT.put {H : Hp} {kvs : List (List Key × V)} {xs : List (List Key × Addr × Value)} (r : KT H kvs xs) (k : List Key) {b : Addr} {y : V} {u : Value} (hb : H b = some (.tup (k.map kV))) (ry : RelV y u) :
    KT H (putK kvs k y) (storedH xs k b u) := by
  have e : (kvs.any fun kv => decide (kv.1 = k)) = (atKey xs k).isSome := by
    rw [valV_any, (r.val k).isSome_eq, Option.isSome_map]
  unfold putK storedH
  rw [e]
  by_cases q : (atKey xs k).isSome = true
  · rw [if_pos q, if_pos q]; exact r.repl k ry
  · rw [if_neg q, if_neg q]; exact Paired.snoc r ⟨rfl, hb, ry⟩
theorem KT.keeps {H H' : Hp} {kvs : List (List Key × V)} {xs : List (List Key × Addr × Value)} (r : KT H kvs xs) (ht : ∀ b ys, H b = some (.tup ys) → H' b = some (.tup ys)) : KT H' kvs xs :=
  Paired.mapP r fun _ _ z => ⟨z.1, ht _ _ z.2.1, z.2.2⟩

section
variable {P : Program} {w : World} {H : Hp} {h : Heap} {a : Addr}
theorem rd_of {u : HO} (ok : HOk P w H h) (e : Rd H a u) : ObjOk P w H h a u := e.ok ok
theorem dk_rd {kvs : List (Key × V)} (ok : HOk P w H h) (e : Rd H a (.dK kvs)) : kvs.length ≤ sizeLine ∧ (a == sysModules) = false ∧ ∃ vs, KV kvs vs ∧ h.DictOf (mixKind P w) a vs :=
  show ObjOk P w H h a (.dK kvs) from rd_of ok e
theorem dk_of {kvs : List (Key × V)} (ok : HOk P w H h) (e : H a = some (.dK kvs)) : kvs.length ≤ sizeLine ∧ (a == sysModules) = false ∧ ∃ vs, KV kvs vs ∧ h.DictOf (mixKind P w) a vs := dk_rd ok (.inl e)
/-- a tracked tuple of ints and texts is a key -/
theorem key_of {ks : List Key} (ok : HOk P w H h) (e : H a = some (.tup (ks.map kV))) : (tupleKind (mixKind P w)).is h ks a := by
  obtain ⟨_, its, r, ⟨o, h1, h2, n, h3⟩, _⟩ := (show ObjOk P w H h a (.tup (ks.map kV)) from ok a _ e)
  exact ⟨o, its.toArray, n, h1, h2, h3, by simpa using items_are r⟩
theorem dt_rd {kvs : List (List Key × V)} (ok : HOk P w H h) (e : Rd H a (.dT kvs)) : kvs.length ≤ sizeLine ∧ (a == sysModules) = false ∧
    ∃ xs, KT H kvs xs ∧ h.DictOfH (tupleKind (mixKind P w)) a xs := by
  obtain ⟨z, y, xs, r, o, es, ep, h1, h2, h3, h4, h5⟩ := (show ObjOk P w H h a (.dT kvs) from rd_of ok e)
  refine ⟨z, y, xs, r, o, es, ep, h1, h2, h3, h4, fun x hx => ?_, h5⟩
  have all : ∀ {l : List (List Key × V)} {m : List (List Key × Addr × Value)}, KT H l m → ∀ x ∈ m, (tupleKind (mixKind P w)).is h x.1 x.2.1 := by
    intro l m q
    induction q with
    | nil => intro x hx; exact nomatch hx
    | @cons p q ps qs hq t ih =>
      intro x hx
      rcases List.mem_cons.mp hx with e | hx
      · subst e
        exact key_of ok (by rw [← hq.1]; exact hq.2.1)
      · exact ih x hx
  exact all r x hx
theorem dt_of {kvs : List (List Key × V)} (ok : HOk P w H h) (e : H a = some (.dT kvs)) : kvs.length ≤ sizeLine ∧ (a == sysModules) = false ∧
    ∃ xs, KT H kvs xs ∧ h.DictOfH (tupleKind (mixKind P w)) a xs := dt_rd ok (.inl e)
end

/-- what the dict at a holds at the key y -/
def DGet (H : Hp) (a : Addr) (y : V) (r : Option V) : Prop :=
  (∃ kvs k, Rd H a (.dK kvs) ∧ y = kV k ∧ r = valV kvs k) ∨ ∃ kvs k b, Rd H a (.dT kvs) ∧ y = .ref b ∧ H b = some (.tup (k.map kV)) ∧ r = valV kvs k
/-- the heap behind a[y] = v -/
def DPut (H : Hp) (a : Addr) (y v : V) (H' : Hp) : Prop :=
  (∃ kvs k, H a = some (.dK kvs) ∧ y = kV k ∧ kvs.length < sizeLine ∧ H' = upd H a (.dK (putK kvs k v))) ∨
  ∃ kvs k b, H a = some (.dT kvs) ∧ y = .ref b ∧ H b = some (.tup (k.map kV)) ∧ kvs.length < sizeLine ∧ H' = upd H a (.dT (putK kvs k v))
section
variable {X : Cx} {pins : List (Addr × Obj)} {σ : St} {H : Hp} {s : Shared} {a : Addr} {y v : V} {u r : Value} {o : Option V} {A : Around} {E : Value → Shared → Prop}

theorem Inv.big (I : Inv X pins σ H s) : sysModules < s.heap.objs.size := by
  have h : mainGlobals < s.heap.objs.size := (I.mod.glob.keeps I.bk).lt
  exact Nat.lt_trans (by decide) h

/-- d[y], there -/
theorem d_getItem {Q : Value → Shared → Prop} (hu : A.units + 1 < cLine) (I : Inv X pins σ H s) (g : DGet H a y (some v)) (ry : RelV y u) (h : ∀ w' s', Inv X pins σ H s' → RelV v w' → Q w' s') :
    wpAny (model X.prog X.w) A (getItem (.ref a) u) Q E s := by
  rcases g with ⟨kvs, k, e, ey, l⟩ | ⟨kvs, k, b, e, ey, eb, l⟩
  · subst ey
    obtain ⟨z, hd, vs, rel, dd⟩ := dk_rd I.hok e
    obtain ⟨w', hw, rw'⟩ := RelO.some_of (v := v) (o := valueAt vs k) (by rw [l]; exact rel.val k)
    exact wpAny_getItem_of (kV_is ry) dd.mapOf hw (h w' _ (I.tok _) rw')
  · subst ey
    cases (show u = Value.ref b from ry)
    obtain ⟨z, hd, xs, rel, dd⟩ := dt_rd I.hok e
    obtain ⟨w', hw, rw'⟩ := RelO.some_of (v := v) (o := (atKey xs k).map (·.2)) (by rw [l]; exact rel.val k)
    obtain ⟨p, hp, hp2⟩ := Option.map_eq_some_iff.mp hw
    refine wpAny_getItem_heap (tupleKind_room_in1 hu) (key_of I.hok eb) dd hp ?_
    rw [hp2]
    exact h w' _ (I.tok _) rw'
/-- y in d -/
theorem d_in {Q : Value → Shared → Prop} (hu : A.units + 1 < cLine) (I : Inv X pins σ H s) (g : DGet H a y o) (ry : RelV y u) (h : ∀ s', Inv X pins σ H s' → Q (.bool o.isSome) s') :
    wpAny (model X.prog X.w) A (compareOp .In u (.ref a)) Q E s := by
  rcases g with ⟨kvs, k, e, ey, l⟩ | ⟨kvs, k, b, e, ey, eb, l⟩
  · subst ey
    obtain ⟨z, hd, vs, rel, dd⟩ := dk_rd I.hok e
    refine wpAny_in_of (kV_is ry) hd dd.mapOf ?_
    rw [← (rel.val k).isSome_eq, ← l]
    exact h _ (I.tok _)
  · subst ey
    cases (show u = Value.ref b from ry)
    obtain ⟨z, hd, xs, rel, dd⟩ := dt_rd I.hok e
    refine wpAny_in_heap (tupleKind_room_in1 hu) (key_of I.hok eb) hd dd ?_
    have q := (rel.val k).isSome_eq
    rw [Option.isSome_map] at q
    rw [← q, ← l]
    exact h _ (I.tok _)
/-- a dict's object is replaced -/
theorem d_write {h' : Heap} {t' : Nat} {ob : HO} (I : Inv X pins σ H s) (mu : Mut (H a)) (hs : Heap.SameBut a s.heap h') (he : ∃ q, h'.get? a = some q) (new : ObjOk X.prog X.w (upd H a ob) h' a ob) :
    Inv X pins σ (upd H a ob) { s with heap := h', toks := t' } :=
  I.write (x := a) (e := a) mu (.inl rfl) (fun b q hb z => (hs.2 b hb).trans z) he new
theorem dk_new {P : Program} {w : World} {H' : Hp} {h' : Heap} {kvs : List (Key × V)} {vs : List (Key × Value)} (z : kvs.length ≤ sizeLine) (hd : (a == sysModules) = false) (rel : KV kvs vs) (dd : h'.DictOf (mixKind P w) a vs) :
    ObjOk P w H' h' a (.dK kvs) := ⟨z, hd, vs, rel, dd⟩
/-- d[y] = v -/
theorem d_setItem {H' : Hp} {Q : Unit → Shared → Prop} (hu : A.units + 1 < cLine) (I : Inv X pins σ H s) (g : DPut H a y v H') (ry : RelV y u) (rv : RelV v r) (h : ∀ s', Inv X pins σ H' s' → Q () s') :
    wpAny (model X.prog X.w) A (setItem (.ref a) u r) Q E s := by
  rcases g with ⟨kvs, k, e, ey, l, eH⟩ | ⟨kvs, k, b, e, ey, eb, l, eH⟩
  · subst ey eH
    obtain ⟨z, hd, vs, rel, dd⟩ := dk_of I.hok e
    have hz : vs.length ≤ sizeLine := by rw [← rel.length]; exact z
    have hl : (putK kvs k v).length ≤ sizeLine := by have := length_putK kvs k v; omega
    refine wpAny_setItem_pairs (hsz := hz) (kV_is ry) dd fun h' dd' hs => h _ ?_
    have he : ∃ q, h'.get? a = some q := let ⟨q, _, _, hq, _⟩ := dd'; ⟨q, hq⟩
    exact d_write I (by rw [e]; exact True.intro) hs he (dk_new hl hd (rel.put k rv) dd')
  · subst ey eH
    cases (show u = Value.ref b from ry)
    obtain ⟨z, hd, xs, rel, dd⟩ := dt_of I.hok e
    have hz : xs.length ≤ sizeLine := by rw [← Paired.length rel]; exact z
    have hl : (putK kvs k v).length ≤ sizeLine := by have := length_putK kvs k v; omega
    refine wpAny_setItem_heap (hsz := hz) (tupleKind_room_in1 hu) (key_of I.hok eb) dd fun h' dd' hs => h _ ?_
    obtain ⟨q, es, ep, hq, h2, h3, h4, _, h5⟩ := dd'
    refine d_write I (by rw [e]; exact True.intro) hs ⟨q, hq⟩ ⟨hl, hd, _, (rel.put k eb rv).keeps fun c ys ec => ?_, q, es, ep, hq, h2, h3, h4, h5⟩
    rw [upd_ne (ne_of ec e (fun z => nomatch z))]
    exact ec
end

section
variable {X : Cx} {pins : List (Addr × Obj)} {σ : St} {H : Hp} {s : Shared} {a : Addr} {kvs : List (Key × V)} {k : Key} {u : Value} {A : Around} {E : Value → Shared → Prop}
end


/-! ### readings and rules -/
theorem dict_typeIs {X : Cx} {pins : List (Addr × Obj)} {σ : St} {H : Hp} {s : Shared} {a : Addr} {y : V} {o : Option V} (I : Inv X pins σ H s) (g : DGet H a y o) : s.TypeIs (.ref a) "dict" := by
  rcases g with ⟨kvs, k, e, _, _⟩ | ⟨kvs, k, b, e, _, _, _⟩
  · obtain ⟨_, _, vs, _, dd⟩ := dk_rd I.hok e
    exact dd.typeIs
  · obtain ⟨_, _, xs, _, dd⟩ := dt_rd I.hok e
    exact dd.typeIs
section
variable {X : Cx} {o i e value : Expr} {pos pos' tpos : Pos} {td ty tv : TE}
end


/-! ### displays -/
theorem dk_empty {P : Program} {w : World} {H : Hp} (h : Heap) (hb : sysModules < h.objs.size) : ObjOk P w H (h.push { cls := .type "dict", data := .dict #[] }) h.objs.size (.dK []) :=
  ⟨Nat.zero_le _, beq_eq_false_iff_ne.mpr (Ne.symm (Nat.ne_of_lt hb)), [], .nil, Heap.DictOf.new h⟩
/-- {}, to be a dict of the kind that is wanted -/
def tDNewK : TE := fun _ H Q => ∀ p, H p = none → Q (.ref p) (upd H p (.dK []))
section
variable {X : Cx} {pos : Pos}
theorem pe_dnewK : PE X (.Dict [] [] pos) tDNewK := fun pins s σ H Q I h =>
  wpAny_Dict_empty ⟨.ref s.heap.objs.size, _, I.laid (a := s.heap.objs.size) (o := .dK []) (t' := s.toks) (fun _ _ q => Heap.get?_push_of_some _ q) (Nat.le_refl _) (dk_empty s.heap I.big), rfl, h _ (I.hok.fresh (Nat.le_refl _))⟩
end

def mergeK (kvs more : List (Key × V)) : List (Key × V) := more.foldl (fun acc kv => putK acc kv.1 kv.2) kvs
/-! ### methods -/
section
variable {X : Cx} {pins : List (Addr × Obj)} {σ : St} {H : Hp} {s : Shared} {a : Addr} {y d : V} {u r : Value} {o : Option V} {A : Around} {E : Value → Shared → Prop}
end

section
variable {X : Cx} {o e f : Expr} {apos cpos : Pos} {td ty tx : TE}
end

/-! ### dict(d): a copy -/
section
variable {X : Cx} {pins : List (Addr × Obj)} {σ : St} {H : Hp} {s : Shared} {a : Addr} {kvs : List (Key × V)} {A : Around} {E : Value → Shared → Prop}
end


section
variable {X : Cx} {pins : List (Addr × Obj)} {σ : St} {H : Hp} {s : Shared} {a : Addr} {y : V} {u : Value} {A : Around} {E : Value → Shared → Prop}
end
end L2

namespace Att
open PySem PySem.W PySem.Calls PyProof.Rows

/-! ### the script -/
theorem ints_of_wellAll {P : Params} {h : Heap} : ∀ (ns : List Int) (vs : List Value), WellAll P h vs (ns.map WData.int) → IntsAre vs ns := by
  intro ns
  induction ns with
  | nil =>
    intro vs w
    rw [List.map_nil] at w
    cases w
    exact .nil
  | cons n ns ih =>
    intro vs w
    rw [List.map_cons] at w
    cases w with
    | cons a b =>
      cases a
      exact .cons _ _ (ih _ b)

theorem script_of {l : OpenLaw} {n : Nat} (hn : l.most = some n) {P : Params} {h : Heap} {args : List WData} {vals : List Value}
    (hpre : l.row.toRowW.claim.pre args = true) (hwl : WellAll P h vals args) :
    ∃ a vs ns, vals = [Value.ref a] ∧ args = [WData.list (ns.map WData.int)] ∧ h.get? a = some { cls := .type "list", data := .seq vs.toArray } ∧ IntsAre vs ns ∧ ns.length ≤ n := by
  have hsh : WShape.hasAll [] args [.list .int] = true := (pre_splitW hpre).1
  have hc : l.pre.holds [] { args := args } = true := (pre_splitW hpre).2
  obtain ⟨d, r, rfl, h1, h2⟩ := hasAllW_cons hsh
  obtain rfl := hasAllW_nil h2
  obtain ⟨xs, rfl, h3⟩ := hasW_list h1
  obtain ⟨ns, rfl⟩ := items_int h3
  have hlen : ns.length ≤ n := by
    unfold OpenLaw.pre at hc
    have h4 : (WTm.not (.lt (.lit (.int (n : Int))) (.len (.arg 0)))).holds [] { args := [.list (ns.map .int)] } = true := by
      have h4 := (holds_andW hc).1
      rw [hn] at h4
      exact h4
    have h5 := condW_of h4 (w_not (w_lt w_lit (w_len_list (w_arg rfl))))
    rw [List.length_map] at h5
    refine Nat.le_of_not_lt fun q => ?_
    have q' : (n : Int) < ((ns.length : Nat) : Int) := by omega
    first
      | (rw [decide_eq_true q'] at h5; exact absurd h5 (by decide))
      | (simp at h5; omega)
  cases hwl with
  | cons w1 w2 =>
    cases w2
    cases w1 with
    | list ho hall => exact ⟨_, _, ns, rfl, rfl, ho, ints_of_wellAll ns _ hall, hlen⟩

theorem post_true (l : OpenLaw) (args : List WData) : l.row.toRowW.claim.post args (.bool true) args = true :=
  postW_of (r := l.row.toRowW) (X := (true == true))
    (show WShape.has [] (.bool true) .bool = true by first | rfl | decide | simp [WShape.has, WShape.arms, WShape.armsAll])
    (show (WTm.eq .res (.lit (.bool true))).value [] { args := args, res := some (.bool true), after := args } = some (.bool (true == true)) from w_eq_bool (w_res rfl) w_lit) rfl

/-! ### the attachment: holds_open's last premise (the goal 'hc' behind k_head) from a wpAny of the law's body -/
/-- the same from a codeAny of the CALL (for a layer whose function contracts speak of calls) -/
theorem attach_call {l : OpenLaw} {n : Nat} {q : Program} {loose : List Str} {XP : (Str → Option Value) → Heap → Prop} {YP : World → Heap → Prop} {d : DefRec}
    (hn : l.most = some n) (hdf : d.params.defaults = [])
    (call : ∀ (w : World) (s₀ s₁ : Shared) (mg mb : Str → Option Value) (fa : Addr) (o : Obj) (pm cd doc : Value) (a : Addr) (vs : List Value) (ns : List Int),
      Ground q loose [] XP w s₀ mg mb s₁.heap → YP w s₁.heap →
      s₁.heap.get? fa = some o → o.data = .func (docDef d.name d.params d.body d.scope pm cd doc) → s₁.heap.CodeRec cd d.name → mg d.name = some (.ref fa) →
      s₁.heap.get? a = some { cls := .type "list", data := .seq vs.toArray } → IntsAre vs ns → ns.length ≤ n → s₁.gens = #[] →
      codeAny (model l.prog w) callerA (.call (.ref fa) ⟨[.ref a], []⟩) (fun r s' => r = .ok (.ret (.bool true)) ∧ OldK s₁.heap s'.heap ∧ s'.os = s₁.os ∧ AllBare s'.gens) s₁) :
    WalkO q loose XP YP l.row.toRowW d [] (fun f vs => PySem.call f vs) := by
  intro w s₀ s₁ mg mb G Y fa o pm cd doc dV kV ho hd hcd hD hmg hg args vals as hpre hlay hrd hwl hlo
  obtain rfl : dV = .none := Dflts.none hD hdf
  obtain rfl : kV = .none := Dflts.noKw hD
  obtain ⟨a, vs, ns, rfl, rfl, hobj, hints, hlen⟩ := script_of hn hpre hwl
  refine enter_call (codeAny_mono (call w s₀ s₁ mg mb fa o pm cd doc a vs ns G Y ho (fd_plain hd) hcd hmg hobj hints hlen hg) fun r s' hq => ?_)
  obtain ⟨rfl, h2, h3, h4⟩ := hq
  exact ⟨.inl ⟨.bool true, .bool true, [], rfl, fun _ => rfl, .bool true, post_true l _, fun _ => ⟨List.Pairwise.nil, fun _ hm => (nomatch hm)⟩⟩, h2, h3, h4⟩

/-! ### rules over ANY heap (no ledger) from facts about the written part K: the library's own take a ledger (News) for what they write -/
section
variable {prog : Program} {w : World} {A : Around} {E : Value → Shared → Prop} {s : Shared} {K : Frag}

/-! the whole heap as the ledger: makes every rule that writes through a ledger a rule over any heap -/
def ledger (h : Heap) (L d : Addr) : List (Addr × Obj) := (List.range h.objs.size).filterMap fun a => if a = L ∨ a = d then none else (h.get? a).map fun o => (a, o)
end
end Att

namespace L2
open PySem PySem.Spec PyProof.Rows

theorem vals_ints : ∀ {vs : List Value} {ns : List Int}, IntsAre vs ns → Vals (ns.map V.int) vs
  | _, _, .nil => .nil
  | _, _, .cons n t h => .cons ⟨t, rfl⟩ (vals_ints h)

/-- nothing is tracked but the script, known to the object (or it is an object of the module) -/
def Only (H : Hp) : Prop := ∀ b, H b = none ∨ ∃ o xs, H b = some (.frz o (.lst xs))

/-- THE HEAD: the law's promise, at the heap behind the top. F, the promise of the law's def, may use that base is part of the heap (so K.In base, base.Ns mainGlobals mg stand in Mod) -/
theorem law_call {P : Program} {w : World} {K : PySem.W.Frag} {mg mb : Str → Option Value} {CX : CXT} {k : Nat} {fa a : Addr} {fd : FuncData} {x : Str} {sp : Sp} {s₁ : Shared} {vs : List Value} {ns : List Int}
    (KX : K.In s₁.heap) (hns : s₁.heap.Ns mainGlobals mg) (hb : s₁.heap.Ns builtinsNs mb) (hbb : ∀ x : Str, x ≠ "__name__" → mb x = bootBuiltins x) (hlim : s₁.heap.NoLimit) (hg : s₁.gens = #[])
    (ha : s₁.heap.get? a = some { cls := .type "list", data := .seq vs.toArray }) (hi : IntsAre vs ns) (hl : ns.length ≤ sizeLine) (hr : Room k callerA)
    (F : ∀ base : Heap, K.In base → base.Ns mainGlobals mg → FnOk P w K mg base CX k fa fd [x] sp) (hbind : ∀ (s : Shared) (u : Value), BindsTo s fd ⟨[u], []⟩ [(x, u)])
    (hsp : ∀ H : Hp, Only H → SqL K H a (ns.map V.int) → sp [.ref a] H (fun v _ => v = .bl true) fun _ _ _ => False)
    (hCX : ∀ H e s', CX [] H s₁ (fun _ _ _ => False) e s' → False) :
    codeAny (model P w) callerA (.call (.ref fa) ⟨[.ref a], []⟩) (fun r s' => r = .ok (.ret (.bool true)) ∧ OldK s₁.heap s'.heap ∧ s'.os = s₁.os ∧ AllBare s'.gens) s₁ := by
  have rv := vals_ints hi
  have lenV := hi.length
  -- from an abstract heap in which nothing but the script may be tracked
  have core : ∀ H : Hp, Only H → SqL K H a (ns.map V.int) → HOk P w H s₁.heap → (∀ b, H b ≠ none → b = a) → (H a ≠ none → K.lookup a = none) →
      codeAny (model P w) callerA (.call (.ref fa) ⟨[.ref a], []⟩) (fun r s' => r = .ok (.ret (.bool true)) ∧ OldK s₁.heap s'.heap ∧ s'.os = s₁.os ∧ AllBare s'.gens) s₁ := by
    intro H hO hS hok hA hK
    have base_of : ∀ {b : Addr} {o : Obj}, s₁.heap.get? b = some o → H b = none → (hidT s₁.heap H).get? b = some o := fun e n => hidT_get e n
    have noA : ∀ {b : Addr} {o : Obj} {es : Array DictEntry} {ep : Nat}, s₁.heap.get? b = some o → o.data = .dict es ep → H b = none := fun {b o es ep} e d => by
      cases q : H b with
      | none => rfl
      | some u =>
        have e' : b = a := hA b (by rw [q]; simp)
        subst e'
        rw [ha] at e; cases e
        have d' : Data.seq vs.toArray _ = Data.dict es ep := d
        cases d'
    have nsK : ∀ {b : Addr} {m : Str → Option Value}, s₁.heap.Ns b m → (hidT s₁.heap H).Ns b m := fun {b m} ⟨o, es, ep, e, d, r⟩ => ⟨o, es, ep, base_of e (noA e d), d, r⟩
    have hKb : K.In (hidT s₁.heap H) := fun b o e => base_of (KX b o e) (by
      cases q : H b with
      | none => rfl
      | some u =>
        have e' : b = a := hA b (by rw [q]; simp)
        subst e'
        rw [hK (by rw [q]; simp)] at e; cases e)
    have hM : Mod K mg (hidT s₁.heap H) := ⟨hKb, nsK hns, ⟨mb, nsK hb, hbb⟩, let ⟨mc, h1, h2⟩ := hlim; ⟨mc, nsK h1, h2⟩⟩
    have e0 : Env0 P w K mg (hidT s₁.heap H) callerA [] s₁ H := ⟨rfl, hM, fun b o e => of_hidT e, Nat.le_of_eq (hidT_size _ _), trivial, fun b hb => absurd (show b ∈ ([] : List Addr) from hb) (by simp), hok, .of_eq hg⟩
    refine codeAny_mono ((F _ hKb (nsK hns)).run callerA [] s₁ H ⟨[.ref a], []⟩ [.ref a] [.ref a] _ _ hr e0 (hbind s₁ (.ref a)) (.cons rfl .nil) (hsp H hO hS)) fun r s' h => ?_
    cases r with
    | error e => exact (hCX H e s' h).elim
    | ok fl =>
      cases fl with
      | next => exact False.elim h
      | brk => exact False.elim h
      | cont => exact False.elim h
      | ret u =>
        obtain ⟨v, H', os, bare, un, hok', r', q⟩ := h
        have q' : v = .bl true := q
        subst q'
        obtain rfl : u = Value.bool true := r'
        refine ⟨rfl, OldK.of_keep fun b o e => ?_, os, bare⟩
        cases q : H b with
        | none => exact un.keep b o e q (by intro z; exact absurd (show b ∈ ([] : List Addr) from z) (by simp)) (by simp)
        | some u =>
          rcases hO b with z | ⟨ob, xs, z⟩
          · rw [q] at z; cases z
          · have z2 := un.frzs b ob _ z
            obtain ⟨e1, _⟩ := hok b _ z
            obtain ⟨e2, _⟩ := hok' b _ z2
            rw [e] at e1; cases e1
            exact e2
  cases hk : K.lookup a with
  | some o =>
    -- the script is one of the module's own objects
    have e := KX a o hk
    rw [ha] at e
    cases e
    refine core (fun _ => none) (fun _ => .inl rfl) (.inr ⟨_, vs.toArray, _, hk, rfl, rfl, rfl, by rw [List.size_toArray, lenV]; exact hl, by simpa using rv⟩) (fun b u z => by have z' : (none : Option HO) = some u := z; cases z') (fun b z => absurd rfl z) fun z => absurd rfl z
  | none =>
    refine core (fun b => if b = a then some (.frz { cls := .type "list", data := .seq vs.toArray } (.lst (ns.map V.int))) else none) (fun b => ?_) (.inl (.inr ⟨{ cls := .type "list", data := .seq vs.toArray }, if_pos rfl⟩)) (fun b u z => ?_) (fun b z => ?_) fun _ => hk
    · by_cases hb : b = a
      · exact .inr ⟨_, _, if_pos hb⟩
      · exact .inl (if_neg hb)
    · by_cases hb : b = a
      · have z' := (if_pos hb).symm.trans z
        cases z'
        subst hb
        exact ⟨ha, by rw [List.length_map]; exact hl, vs, _, rv, ha⟩
      · have z' := (if_neg hb).symm.trans z
        cases z'
    · by_cases hb : b = a
      · exact hb
      · exact absurd (if_neg hb) z
end L2

namespace L2
open PySem PySem.Spec PyProof.Rows

abbrev KOf {K : PySem.W.Frag} {h : Heap} (_ : K.In h) : PySem.W.Frag := K

/-- the goal that k_head leaves (case hc), from the law's promise. F gives the function object fd (K's own) once, then the promise over every base -/
theorem walk_of {l : PySem.W.OpenLaw} {n k : Nat} {q : Program} {loose : List Str} {XP : (Str → Option Value) → Heap → Prop} {YP : World → Heap → Prop} {d : DefRec} {K : Params → PySem.W.Frag} {CX : World → CXT} {sp : World → Sp} {x : Str}
    (hn : l.most = some n) (hn2 : n ≤ sizeLine) (hdf : d.params.defaults = []) (hr : Room k callerA)
    (hY : ∀ (w : World) (h : Heap), YP w h → (K w.params).In h)
    (F : ∀ (w : World) (mg : Str → Option Value) (fa : Addr) (h : Heap), (K w.params).In h → h.Ns mainGlobals mg → mg d.name = some (.ref fa) →
      ∃ fd : FuncData, (∀ (s : Shared) (u : Value), BindsTo s fd ⟨[u], []⟩ [(x, u)]) ∧
        ∀ base : Heap, (K w.params).In base → base.Ns mainGlobals mg → FnOk l.prog w (K w.params) mg base (CX w) k fa fd [x] (sp w))
    (hsp : ∀ (w : World) (H : Hp) (a : Addr) (ns : List Int), ns.length ≤ n → Only H → SqL (K w.params) H a (ns.map V.int) → sp w [.ref a] H (fun v _ => v = .bl true) fun _ _ _ => False)
    (hCX : ∀ (w : World) (H : Hp) (s : Shared) (e : Value) (s' : Shared), CX w [] H s (fun _ _ _ => False) e s' → False) :
    PySem.W.WalkO q loose XP YP l.row.toRowW d [] (fun f vs => PySem.call f vs) := by
  refine Att.attach_call hn hdf fun w s₀ s₁ mg mb fa o pm cd doc a vs ns G Y ho hd hcd hmg hobj hints hlen hg => ?_
  have KX := hY w _ Y
  obtain ⟨fd, hb, hF⟩ := F w mg fa _ KX G.T.g hmg
  exact law_call KX G.T.g G.T.b G.T.builtins G.T.nolimit hg hobj hints (Nat.le_trans hlen hn2) hr hF hb (fun H hO hS => hsp w H a ns hlen hO hS) fun H e s' => hCX w H s₁ e s'
end L2

/- THE LAST THEOREM (shape; LID, My.* are yours):
   My.Adr: a structure of the addresses that your layer names (classes, functions); My.Txt K t: a structure (Prop) of the equations over K;
   My.txt_mk : {K} {implicit addresses ..} (e1 : nsIn K mainGlobals "law" = some (some (.ref f))) (e2 : K.lookup f = some ⟨oc, od, .func (fnOf "law" "law" params body scope dV kV doc pm an cdv ct), sl⟩) (e3 : codeIn K cdv "law" = true) .. : ∃ t, My.Txt K t

set_option maxRecDepth 100000 in
set_option maxHeartbeats 0 in
theorem PySem.Challenge.cw_LID_holds : PySem.Challenge.rw_LID.Holds := by
  w_on; o_law; k_head; (case hw => w_witness2)
  k_fill
  refine L2.walk_of (l := PySem.Challenge.rw_LID) (n := 63) (k := 40) (x := "script") (CX := fun w => ..) (sp := fun _ => My.sp_law) rfl (by decide) rfl ⟨rfl, by decide, by decide⟩ (fun w h Y => PySem.W.kIn_of Y) ?F ?S ?C
  case F =>
    intro w mg fa h KX G hmg
    have T : ∃ t, My.Txt (L2.KOf KX) t := by
      dsimp only [L2.KOf]                          -- K must stand as «<heap const> w.params» for k_is
      refine' My.txt_mk ?e1 ?e2 ?e3 ..
      (case e1 => PySem.W.k_is)                    -- in the order: a name -> its address -> its object -> its parts
      (case e2 => PySem.W.k_is)
      ..
    obtain ⟨t, T⟩ := T
    have e0 := hmg.symm.trans (PySem.W.mg_of KX G T.law)
    cases e0                                       -- fa is the law's own address
    exact ⟨_, fun s u => .of_eq rfl, fun base kb nb => My.law_fn T kb nb⟩     -- if «.of_eq rfl» comes too early: refine' ⟨_, ?b, fun base kb nb => My.law_fn T kb nb⟩; exact fun s u => .of_eq rfl
  case S => exact fun w H a ns hl hO hS => ..
  case C => exact ..
(the tactic k_is has no namespace: write k_is) -/

/-! SHORT WORDS over the layer: a def of the text, its body, what a loop and a test want. -/
namespace L2
open PySem PySem.Spec PyProof.Rows

/-! ### the text by places -/
/-- the j-th statement of a class's body -/
def inClass (s : Stmt) (j : Nat) : Stmt := match s with
  | .ClassDef _ _ _ body _ _ _ _ _ _ _ => body.getD j (.Pass ⟨0, 0, 0, 0⟩)
  | _ => .Pass ⟨0, 0, 0, 0⟩
def defArgs (s : Stmt) : Arguments := match s with
  | .FunctionDef _ a _ _ _ _ _ _ _ _ => a
  | _ => { posonlyargs := [], args := [], vararg := none, kwonlyargs := [], kw_defaults := [], kwarg := none, defaults := [] }
def defBody (s : Stmt) : List Stmt := match s with
  | .FunctionDef _ _ b _ _ _ _ _ _ _ => b
  | _ => []
def defScope (s : Stmt) : Scope := match s with
  | .FunctionDef _ _ _ _ _ _ sc _ _ _ => sc
  | _ => { kind := .function, names := [], isGenerator := false, isCoroutine := false }

/-! ### no exception leaves a def -/
abbrev CX0 : CXT := fun _ _ _ _ _ _ => False
abbrev E0 : XK := fun _ _ _ => False
theorem pass0 {X : Cx} : Passes CX0 X E0 := fun _ _ _ _ _ _ _ h => h.elim

/-! ### a def (or method) of the text as it stands behind the top -/
structure Fun (K : PySem.W.Frag) (x qual : Str) (st : Stmt) (f : Addr) (fd : FuncData) : Prop where
  ex : ∃ (oc : Value) (od : Option Addr) (kV doc pm : Value) (an : Option Addr) (cdv ct : Value) (osl : Array (Option Value)),
    fd = PySem.W.fnOf x qual (defArgs st) (defBody st) (defScope st) .none kV doc pm an cdv ct ∧ K.lookup f = some ⟨oc, od, .func fd, osl⟩ ∧ PySem.W.codeIn K cdv qual = true
  kp : PySem.W.keepIn K (.ref f) = true
section
variable {P : Program} {w : World} {K : PySem.W.Frag} {mg : Str → Option Value} {base : Heap}
/-- THE RULE for a def: its body as a term of rules, and the reading of that term -/
theorem Fun.ok {x qual : Str} {st : Stmt} {f : Addr} {fd : FuncData} {N ps : List Str} {k : Nat} {sp : Sp} (F : Fun K x qual st f fd) (S : FnScope N ps (defScope st)) (len : ∀ vs H Q E, sp vs H Q E → vs.length = ps.length)
    (hbody : ∀ (cdv : Value) (A : Around) (outer : List Env) (s : Shared) (H : Hp) (vs : List V) (Q : VK) (E : XK), Room k (A.deeper (envOfC qual (defScope st) s.heap.objs.size f cdv)) → sp vs H Q E →
      ∃ t, PSs (cxOf CX0 P w K mg base N qual (defScope st) f cdv A outer s H E).nox (defBody st) t ∧ t { nx := fun _ H' => Q .non H', rt := Q } (start N vs) H) : FnOk P w K mg base CX0 (k + 1) f fd ps sp := by
  obtain ⟨oc, od, kV, doc, pm, an, cdv, ct, osl, rfl, lk, hcd⟩ := F.ex
  refine fn_of lk hcd S len fun A outer s H vs Q E hr hsp => ?_
  obtain ⟨t, h, q⟩ := hbody cdv A outer s H vs Q E hr hsp
  exact ⟨t, h.nox, q⟩
/-- how its arguments bind (no defaults): h is «fun _ _ _ _ _ _ us hl => match us, hl with | [_, _], _ => rfl», one _ a parameter -/
theorem Fun.binds {x qual : Str} {st : Stmt} {f : Addr} {fd : FuncData} {ps : List Str} (F : Fun K x qual st f fd)
    (h : ∀ (kV doc pm : Value) (an : Option Addr) (cdv ct : Value) (us : List Value), us.length = ps.length → bindArgs (PySem.W.fnOf x qual (defArgs st) (defBody st) (defScope st) .none kV doc pm an cdv ct) ⟨us, []⟩ = pure (ps.zip us)) : Binds K fd ps [] := by
  obtain ⟨oc, od, kV, doc, pm, an, cdv, ct, osl, rfl, lk, hcd⟩ := F.ex
  exact .all (h kV doc pm an cdv ct)
theorem fun_mk {x qual : Str} {st : Stmt} {f : Addr} {oc : Value} {od an : Option Addr} {osl : Array (Option Value)} {kV doc pm cdv ct : Value} (l : K.lookup f = some ⟨oc, od, .func (PySem.W.fnOf x qual (defArgs st) (defBody st) (defScope st) .none kV doc pm an cdv ct), osl⟩)
    (c : PySem.W.codeIn K cdv qual = true) (k : PySem.W.keepIn K (.ref f) = true) : Fun K x qual st f (PySem.W.fnOf x qual (defArgs st) (defBody st) (defScope st) .none kV doc pm an cdv ct) := ⟨⟨oc, od, kV, doc, pm, an, cdv, ct, osl, rfl, l, c⟩, k⟩
end
theorem hu_of {A : Around} {k : Nat} (hr : Room k A) : A.units + 1 < cLine := Nat.lt_of_le_of_lt (Nat.add_le_add_left (by decide : 1 ≤ 64) _) hr.units
/-! ### expressions in short: the name that stands in the i-th slot -/
section
variable {X : Cx}
theorem pv (i : Nat) {x : Str} {pos : Pos} (hN : X.N[i]? = some x := by rfl) (hv : Vis X.env.scope x := by first | exact Or.inl rfl | exact Or.inr (Or.inl rfl) | exact Or.inr (Or.inr rfl)) (hd : (x == ("__debug__" : Str)) = false := by decide)
    (hcd : (x == ("__classdict__" : Str)) = false := by decide) : PE X (.Name x pos) (tVar i) := pe_var hN hv hd hcd
end

/-! ### tests -/
theorem iteF {A B : Prop} (h : B) : if false = true then A else B := by
  rw [if_neg Bool.false_ne_true]
  exact h
theorem iteT {A B : Prop} (h : A) : if true = true then A else B := by
  rw [if_pos rfl]
  exact h
/-! ### heaps -/
/-! ### a dict's pairs: keys that differ -/
section
variable {κ : Type} [DecidableEq κ]
end
end L2
/-! comprehensions -/
namespace L2
open PySem PySem.Spec PyProof.Rows

/-- the closure of a block -/
theorem forIn_pure {α β : Type} {f : α → β → Sem (ForInStep β)} (g : α → β → β) : ∀ (l : List α) (c : β), (∀ x ∈ l, ∀ c, f x c = pure (.yield (g x c))) → forIn l c f = pure (l.foldl (fun c x => g x c) c)
  | [], _, _ => rfl
  | x :: l, c, h => by
    rw [List.forIn_cons, h x List.mem_cons_self, pure_bind]
    exact forIn_pure g l (g x c) fun y hy => h y (List.mem_cons_of_mem _ hy)

def cloStep (env : Env) (p : Str × NameKind) (cs : List (Str × Addr)) : List (Str × Addr) := if (p.2 == NameKind.free) = true then (p.1, (env.cells.lookup p.1).getD 0) :: cs else cs
def cloOf (scope : Scope) (env : Env) : List (Str × Addr) := scope.names.foldl (fun c x => cloStep env x c) []
theorem closure_ok {scope : Scope} {env : Env} (h : ∀ p ∈ scope.names, p.2 = .free → ∃ c, env.cells.lookup p.1 = some c) : closureFor scope env = pure (cloOf scope env) := by
  unfold cloOf
  simp only [closureFor]
  rw [forIn_pure (cloStep env)]
  · rfl
  · intro x hx c
    obtain ⟨n, k⟩ := x
    by_cases hk : k = .free
    · subst hk
      obtain ⟨a, ha⟩ := h _ hx rfl
      have ha : env.cells.lookup n = some a := ha
      simp [cloStep, cellOf, ha]
    · have : (k == NameKind.free) = false := by simpa using hk
      simp [cloStep, this]
theorem clo_fold (env : Env) : ∀ (l : List (Str × NameKind)) (c : List (Str × Addr)), (∀ p ∈ l, p.2 = .free → ∃ a, env.cells.lookup p.1 = some a) →
    (∀ y a, c.lookup y = some a → env.cells.lookup y = some a) → ∀ y a, (l.foldl (fun c x => cloStep env x c) c).lookup y = some a → env.cells.lookup y = some a
  | [], _, _, h, y, a, e => h y a e
  | (n, k) :: r, c, hf, h, y, a, e => by
    refine clo_fold env r (cloStep env (n, k) c) (fun p hp => hf p (List.mem_cons_of_mem _ hp)) (fun z b q => ?_) y a e
    unfold cloStep at q
    split at q
    · rename_i hk
      obtain ⟨d, hd⟩ := hf (n, k) List.mem_cons_self (by simpa using hk)
      have hd : env.cells.lookup n = some d := hd
      rw [List.lookup_cons] at q
      split at q
      · rename_i hz
        have : z = n := by simpa using hz
        subst this
        rw [hd] at q ⊢
        simpa using q
      · exact h z b q
    · exact h z b q
theorem clo_mono (env : Env) : ∀ (l : List (Str × NameKind)) (c : List (Str × Addr)) (y : Str), (∃ a, c.lookup y = some a) → ∃ a, (l.foldl (fun c x => cloStep env x c) c).lookup y = some a
  | [], _, _, h => h
  | (n, k) :: r, c, y, h => by
    refine clo_mono env r _ y ?_
    show ∃ a, (cloStep env (n, k) c).lookup y = some a
    unfold cloStep
    split
    · rw [List.lookup_cons]
      split
      · exact ⟨_, rfl⟩
      · exact h
    · exact h
theorem clo_has (env : Env) : ∀ (l : List (Str × NameKind)) (c : List (Str × Addr)) (y : Str), (y, NameKind.free) ∈ l → ∃ a, (l.foldl (fun c x => cloStep env x c) c).lookup y = some a
  | (n, k) :: r, c, y, h => by
    rcases List.mem_cons.mp h with e | h
    · obtain ⟨rfl, rfl⟩ := Prod.mk.inj e
      refine clo_mono env r _ y ⟨(env.cells.lookup y).getD 0, ?_⟩
      show (cloStep env (y, .free) c).lookup y = _
      unfold cloStep
      rw [if_pos (by rfl), List.lookup_cons]
      simp
    · exact clo_has env r _ y h

/-- a block's scope, held against the frame around it; ls: its own names -/
structure CScope (X : Cx) (ls : List Str) (scope : Scope) : Prop where
  kind : scope.kind = .function
  nocell : ∀ y ∈ scope.names, y.2 ≠ .cell
  names : ∀ y ∈ scope.names, y.2 = .local → scope.names.lookup y.1 = some .local
  loc : ∀ y, scope.names.lookup y = some .local → y ∈ ls
  free : ∀ y ∈ scope.names, y.2 = .free → X.env.kindOf y.1 = some .cell ∨ X.env.kindOf y.1 = some .free
  noq : ∀ y ∈ ls, ∀ k, scope.names.lookup ⟨#[63] ++ y.cps⟩ ≠ some k

/-- an outer name that the block's own hide -/
def hid (ls : List Str) (y : Str) : Str := if ls.contains y then ⟨#[63] ++ y.cps⟩ else y
/-- the context of a block -/
def cxC (X : Cx) (ls : List Str) (scope : Scope) (C : Addr) (s2 : Shared) (H2 : Hp) (fp : List Addr) : Cx where
  prog := X.prog
  w := X.w
  K := X.K
  mg := X.mg
  base := X.base
  A := X.A
  N := ls ++ X.N.map (hid ls)
  s₀ := s2
  H₀ := H2
  env := compEnvC scope (cloOf scope X.env) C X.env
  outer := X.stack
  stack := X.stack
  ex := fp
  calm := X.calm
  fn := fun _ => false
  pn := []
  xe := fun _ _ => False

theorem relabel_lookup {env : Env} {y : Str} : ∀ {names : List (Str × NameKind)} {k : NameKind}, (names.map fun (n, k) => if (k == NameKind.free && env.scope.kind == .function && env.kindOf n == some .cell) then (n, NameKind.cell) else (n, k)).lookup y = some k →
    names.lookup y = some k ∨ (names.lookup y = some .free ∧ k = .cell)
  | [], _, h => by simp at h
  | (n, j) :: r, k, h => by
    have ih := @relabel_lookup env y r k
    replace h : List.lookup y ((if (j == NameKind.free && env.scope.kind == .function && env.kindOf n == some .cell) = true then (n, NameKind.cell) else (n, j)) :: (r.map fun (n, k) => if (k == NameKind.free && env.scope.kind == .function && env.kindOf n == some .cell) then (n, NameKind.cell) else (n, k))) = some k := h
    by_cases hc : (j == NameKind.free && env.scope.kind == .function && env.kindOf n == some .cell) = true
    · rw [if_pos hc, List.lookup_cons] at h
      rw [List.lookup_cons]
      cases hx : y == n with
      | true =>
        rw [hx] at h
        simp only [Bool.and_eq_true] at hc
        have hj : j = .free := by simpa using hc.1.1
        subst hj
        have h : some NameKind.cell = some k := h
        cases h
        exact .inr ⟨rfl, rfl⟩
      | false =>
        rw [hx] at h
        exact ih h
    · rw [if_neg hc, List.lookup_cons] at h
      rw [List.lookup_cons]
      cases hx : y == n with
      | true => rw [hx] at h; exact .inl h
      | false => rw [hx] at h; exact ih h

/-- the outer names that the block's own hide may have a value: `hid` tells them apart -/
def hides (N ls : List Str) (σ : St) : Bool := true

/-- the block is entered -/
theorem inv_block {X : Cx} {pins : List (Addr × Obj)} {σ : St} {H2 : Hp} {s2 : Shared} {ls : List Str} {scope : Scope} {fp : List Addr} {C : Addr} {h1 : Heap} {m : Str → Option Value} {tk : Nat}
    (I : Inv X pins σ H2 s2) (S : CScope X ls scope) (hh : hides X.N ls σ = true) (f2 : ∀ b ∈ fp, FpOk X pins H2 b) (ho : ∀ b ∈ fp, ∃ o, s2.heap.get? b = some o) (hC : s2.heap.objs.size ≤ C) (hn : h1.Ns C m)
    (old : ∀ b o, s2.heap.get? b = some o → h1.get? b = some o) :
    Inv (cxC X ls scope C s2 H2 fp) [] (List.replicate ls.length none ++ σ) H2 { s2 with heap := h1, toks := tk } := by
  have cf : ∀ p ∈ scope.names, p.2 = .free → ∃ c, X.env.cells.lookup p.1 = some c := fun p hp e => I.ok.has _ (S.free p hp e)
  have c1 : ∀ y a, (cloOf scope X.env).lookup y = some a → X.env.cells.lookup y = some a := clo_fold X.env scope.names [] cf (fun y a e => by simp at e)
  have c2 : ∀ y, scope.names.lookup y = some .free → ∃ a, (cloOf scope X.env).lookup y = some a := fun y hy => clo_has X.env scope.names [] y (PySem.mem_of_lookup hy)
  have lt2 : ∀ b ∈ fp, b < s2.heap.objs.size := fun b hb => let ⟨o, e⟩ := ho b hb; Heap.lt_size e
  have kinds : ∀ y k, (relabel scope X.env).names.lookup y = some k → k = .cell ∨ k = .free → scope.names.lookup y = some .free := fun y k h hk => by
    rcases relabel_lookup (env := X.env) h with q | ⟨q, _⟩
    · rcases hk with rfl | rfl
      · exact absurd rfl (S.nocell _ (PySem.mem_of_lookup q))
      · exact q
    · exact q
  refine ⟨⟨I.ok.mod, S.kind, I.ok.glob, I.ok.blt, hC, fun x y c e1 e2 => I.ok.inj x y c (c1 x c e1) (c1 y c e2), fun x hx => ?_, fun x c h => absurd h Bool.false_ne_true, I.ok.hd, I.ok.frames, .inl rfl, fun b hb => ⟨?_, fun x c e => (f2 b hb).2.2.2.2.1 x c (c1 x c e)⟩, I.bs, Nat.le_trans I.ok.bsz I.sz, fun b o e hb => ?_, fun b hb hz => ?_, I.stack, I.stkFree⟩,
    rfl, I.bare, Un.kept old, ⟨m, hn, fun i y v e1 e2 e3 => ?_⟩, fun x c e => ?_, I.hok.fresh hC, fun x c e => I.freeC x c (c1 x c e), fun p hp => absurd (show p ∈ ([] : List (Addr × Obj)) from hp) (by simp), I.hok.kept old, ?_⟩
  · have hx : (relabel scope X.env).names.lookup x = some .cell ∨ (relabel scope X.env).names.lookup x = some .free := hx
    rcases hx with hx | hx
    · exact c2 x (kinds x _ hx (.inl rfl))
    · exact c2 x (kinds x _ hx (.inr rfl))
  · exact Nat.ne_of_lt (Nat.lt_of_lt_of_le (lt2 b hb) hC)
  · rcases (f2 b hb).2.2.2.1 with z | z
    · exact I.ok.noex b o e z
    · exact absurd (Nat.lt_of_lt_of_le (Heap.lt_size e) (Nat.le_trans I.ok.bsz z)) (Nat.lt_irrefl _)
  · rcases List.mem_cons.mp (I.stkSub b hz) with z | z
    · exact (f2 b hb).2.1 z
    · exact (f2 b hb).2.2.1 z
  · have e1 : (ls ++ X.N.map (hid ls))[i]? = some y := e1
    by_cases hi : i < ls.length
    · rw [List.getElem?_append_left (by simpa using hi), List.getElem?_replicate] at e2
      rw [if_pos hi] at e2
      cases e2
    · rw [List.getElem?_append_right (by omega)] at e1
      rw [List.getElem?_append_right (by simpa using hi), List.length_replicate] at e2
      rw [List.getElem?_map] at e1
      obtain ⟨y0, e1', ey⟩ := Option.map_eq_some_iff.mp e1
      have e3 : (relabel scope X.env).names.lookup y = some .local ∨ (relabel scope X.env).names.lookup y = some .cell ∨ (relabel scope X.env).names.lookup y = some .free := e3
      have ny : y0 ∉ ls := fun hm => by
        unfold hid at ey
        rw [if_pos (by simpa using hm)] at ey
        subst ey
        have no : ∀ k, (relabel scope X.env).names.lookup ⟨#[63] ++ y0.cps⟩ = some k → False := fun k q => by
          rcases relabel_lookup (env := X.env) q with z | ⟨z, _⟩
          · exact S.noq y0 hm _ z
          · exact S.noq y0 hm _ z
        rcases e3 with q | q | q <;> exact no _ q
      unfold hid at ey
      rw [if_neg (by simpa using ny)] at ey
      rw [ey] at e1' ny
      have e1 := e1'
      have fr : scope.names.lookup y = some .free := by
        rcases e3 with q | q | q
        · rcases relabel_lookup (env := X.env) q with z | ⟨_, z⟩
          · exact absurd (S.loc y z) ny
          · cases z
        · exact kinds y _ q (.inl rfl)
        · exact kinds y _ q (.inr rfl)
      have kx := S.free _ (PySem.mem_of_lookup fr) rfl
      obtain ⟨m2, _, hl⟩ := I.loc
      obtain ⟨u, r, l⟩ := hl _ y v e1 e2 (.inr kx)
      refine ⟨u, r, ?_⟩
      have knd : (relabel scope X.env).names.lookup y = some .cell ∨ (relabel scope X.env).names.lookup y = some .free := by
        rcases e3 with q | q
        · rcases relabel_lookup (env := X.env) q with z | ⟨_, z⟩
          · exact absurd (S.loc y z) ny
          · cases z
        · exact q
      rcases l with ⟨k1, _⟩ | ⟨_, c, hc, hcell⟩
      · have kx : X.env.kindOf y = some .cell ∨ X.env.kindOf y = some .free := kx
        rcases kx with z | z <;> (rw [k1] at z; cases z)
      · obtain ⟨c', hc'⟩ := c2 y fr
        have := c1 y c' hc'
        rw [hc] at this
        cases this
        refine .inr ⟨knd, c, hc', ?_⟩
        obtain ⟨o, ho, hd⟩ := hcell
        exact ⟨o, old _ _ ho, hd⟩
  · obtain ⟨v, o, ho, hd⟩ := I.cell x c (c1 x c e)
    exact ⟨v, o, old _ _ ho, hd⟩
  · show (List.replicate ls.length none ++ σ).length = (ls ++ X.N.map (hid ls)).length
    rw [List.length_append, List.length_append, List.length_replicate, List.length_map, I.len]

/-- the block is left: behind it the list at D stands -/
theorem inv_left {X : Cx} {pins : List (Addr × Obj)} {σ σ' : St} {H2 H3 : Hp} {s2 s' : Shared} {ls : List Str} {scope : Scope} {fp : List Addr} {C D : Addr} {h' : Heap} {ys : List V} {its : List Value} {n : Nat} {pl : List (Addr × Obj)}
    (I : Inv X pins σ H2 s2) (f2 : ∀ b ∈ fp, FpOk X pins H2 b) (J : Inv (cxC X ls scope C s2 H2 fp) pl σ' H3 s') (hD : s2.heap.objs.size ≤ D) (hC : s2.heap.objs.size ≤ C) (hDC : D ≠ C)
    (sb : Heap.SameBut C s'.heap h') (hD3 : H3 D = none) (e : s'.heap.get? D = some { cls := .type "list", data := .seq its.toArray n }) (r : Vals ys its) (z : ys.length ≤ sizeLine) : Inv X pins σ (upd H3 D (.lst ys)) { s' with heap := h' } := by
  have ext : ∀ b o, b ≠ C → s'.heap.get? b = some o → h'.get? b = some o := fun b o hb e => sb.extBut b o hb e
  have neD : ∀ b, b < s2.heap.objs.size → b ≠ D := fun b hb => Nat.ne_of_lt (Nat.lt_of_lt_of_le hb hD)
  have neC : ∀ b, b < s2.heap.objs.size → b ≠ C := fun b hb => Nat.ne_of_lt (Nat.lt_of_lt_of_le hb hC)
  have lt : ∀ b u, H2 b = some u → b < s2.heap.objs.size := fun b u q => by
    apply Classical.byContradiction
    intro hb
    have := I.hok.fresh (Nat.le_of_not_lt hb)
    rw [this] at q
    cases q
  have fC : H3 C = none := J.free
  refine I.call' (s' := { s' with heap := h' }) (ch := fp) J.os ⟨fun b o q n hb hx => ?_, fun b o q n hb hx => ?_, fun b o q n hx => ?_, fun b o q hx => ?_, fun b xs q => ?_, fun b o u q => ?_, fun b ps q => ?_⟩ (fun b u q => ?_) J.bare fun b hb => ?_
  · exact ext b o (neC b (Heap.lt_size q)) (J.base.keep b o q n hb hx)
  · obtain ⟨sl, w⟩ := J.base.slot b o q n hb hx
    exact ⟨sl, ext b _ (neC b (Heap.lt_size q)) w⟩
  · rw [upd_ne (neD b (Heap.lt_size q))]
    exact J.base.free b o q n hx
  · obtain ⟨o', w⟩ := J.base.there b o q hx
    exact ⟨o', ext b _ (neC b (Heap.lt_size q)) w⟩
  · rw [upd_ne (neD b (lt b _ q))]; exact J.base.tups b xs q
  · rw [upd_ne (neD b (lt b _ q))]; exact J.base.frzs b o u q
  · rw [upd_ne (neD b (lt b _ q))]; exact J.base.tbls b ps q
  · by_cases hb : b = D
    · subst hb
      rw [upd_same] at q
      cases q
      exact ⟨z, its, n, r, ext _ _ hDC e⟩
    · rw [upd_ne hb] at q
      have ne1 : b ≠ C := fun w => by rw [w, fC] at q; cases q
      have ow : ∀ c u, H3 c = some u → c ≠ D := fun c u w z => by rw [z, hD3] at w; cases w
      have oc : ∀ c u, H3 c = some u → c ≠ C := fun c u w z => by rw [z, fC] at w; cases w
      refine (J.hok b u q).stay (fun c v hc w => ext c v ?_ w) (fun c w => by rw [upd_ne (ow c _ w)]; exact w) fun c xs w => by rw [upd_ne (ow c _ w)]; exact w
      rcases hc with rfl | hc
      · exact ne1
      · exact oc c _ hc
  · obtain ⟨a1, a2, a3, a4, a5, a6⟩ := f2 b hb
    exact ⟨a4, a2, a5, a6⟩

/-- the tests of a clause -/
def PIfs (X : Cx) (ifs : List Expr) (t : TT) : Prop :=
  ∀ (pins : List (Addr × Obj)) (s : Shared) (σ : St) (H : Hp) (Q : Bool → Hp → Prop), Inv X pins σ H s → t σ H Q →
    wpAny (model X.prog X.w) X.A (forIn ifs true fun c r => if r = true then do let ok ← isTrue c X.env (eval c X.env); pure (ForInStep.yield ok) else pure (ForInStep.yield r)) (TP X pins σ Q) X.xe s
def tYes : TT := fun _ H Q => Q true H
theorem pif_nil {X : Cx} : PIfs X [] tYes := fun _ _ _ H _ I h => wpAny_tests_nil ⟨H, I, h⟩
/-- [e for g in w if t] -/
def CompW (J : It) (ls : List Str) (g : TG) (tt : TT) (te : TE) (σ : St) (H1 : Hp) (Q : VK) : Prop := ∃ W : Nat → Nat → List V → Hp → Prop, (∃ m, W 0 m [] H1) ∧ ∀ i m ys H, W i m ys H →
  (J.stop i H ∧ ∀ D, H D = none → Q (.ref D) (upd H D (.lst ys))) ∨
  (J.go i H ∧ ∃ R : List V → Hp → Prop, (∀ ys' H', R ys' H' → ∃ m', m' < m ∧ W (i + 1) m' ys' H') ∧ ∀ y H', J.yld i H y H' →
    g y (List.replicate ls.length none ++ σ) H' fun σ2 H2 => σ2.drop ls.length = σ ∧ σ2.length = ls.length + σ.length ∧ tt σ2 H2 fun b H3 => if b = true then te σ2 H3 fun v H4 => ys.length < sizeLine ∧ R (ys ++ [v]) H4 else R ys H3)
def tComp (N ls : List Str) (wi : TI) (g : TG) (tt : TT) (te : TE) : TE := fun σ H Q => hides N ls σ = true ∧ wi σ H fun J H1 => CompW J ls g tt te σ H1 Q

theorem codeAny_compLoop_any {prog : Program} {w : World} {A : Around} {R : Result → Shared → Prop} {s : Shared} {elt target iter : Expr} {ifs : List Expr} {scope : Scope} {pos : Pos} {it acc : Value} {env : Env} (I : Nat → Shared → Prop)
    (turn : ∀ n s, I n s → wpAny (model prog w) A (pyNext it) (fun r s₁ => match r with
      | none => R (.ok .next) s₁
      | some v => wpAny (model prog w) A (letOwnedTupleGo target it v) (fun _ s₁ => wpAny (model prog w) A (assign target env v) (fun _ s₂ =>
          wpAny (model prog w) A (forIn ifs true fun c r => if r = true then do let ok ← isTrue c env (eval c env); pure (ForInStep.yield ok) else pure (ForInStep.yield r)) (fun ok s₃ =>
            if ok = true then wpAny (model prog w) A (eval elt env) (fun x s₄ =>
              wpAny (model prog w) A (call (.builtin "list.append") [acc, x]) (fun _ s₅ => ∃ m, m < n ∧ I m s₅) (notedBy (model prog w) A env fun e s' => R (.error e) s') s₄) (notedBy (model prog w) A env fun e s' => R (.error e) s') s₃
            else ∃ m, m < n ∧ I m s₃) (notedBy (model prog w) A env fun e s' => R (.error e) s') s₂) (notedBy (model prog w) A env fun e s' => R (.error e) s') s₁) (notedBy (model prog w) A env fun e s' => R (.error e) s') s₁) (notedBy (model prog w) A env fun e s' => R (.error e) s') s)
    (n : Nat) (h : I n s) :
    codeAny (model prog w) A (.compLoop (.ListComp elt [⟨target, iter, ifs, 0⟩] scope pos) 0 it acc env) R s := by
  refine codeAny_loop rfl I (fun n s hI => ?_) n h
  show wpAny _ A ((compTurn (.ListComp elt [⟨target, iter, ifs, 0⟩] scope pos) 0 it acc env).onRaise (fun x => do noteFrame x env; theTreesLotGoes x)) _ _ s
  refine wpAny_noted ?_
  rw [compTurn_list]
  refine wpAny_bind (wpAny_standAt (wpAny_bind (wpAny_mono (turn n s hI) (fun r s₁ h₁ => ?_) fun _ _ h' => h')))
  cases r with
  | none => exact wpAny_pure h₁
  | some v =>
    refine wpAny_bind (wpAny_mono h₁ (fun _ s₁ h₁ => ?_) fun _ _ h' => h')
    refine wpAny_bind (wpAny_mono h₁ (fun _ s₂ h₂ => wpAny_bind (wpAny_mono h₂ (fun ok s₃ h₃ => ?_) fun _ _ h' => h')) fun _ _ h' => h')
    cases ok with
    | false => exact wpAny_pure ⟨rfl, h₃⟩
    | true =>
      exact wpAny_bind (wpAny_bind (wpAny_mono h₃ (fun x s₄ h₄ => wpAny_bind (wpAny_mono h₄ (fun _ s₅ h₅ => wpAny_pure (wpAny_pure ⟨rfl, h₅⟩)) fun _ _ h' => h')) fun _ _ h' => h'))

/-- weaken from nothing wished of exceptions -/
theorem thx {α : Type} {t : Sem α} {Q Q' : α → Shared → Prop} {M : Model} {A : Around} {E : Value → Shared → Prop} {s : Shared} (h : wpAny M A t Q (fun _ _ => False) s) (hQ : ∀ a s, Q a s → Q' a s) : wpAny M A t Q' E s := wpAny_mono h hQ fun _ _ x => x.elim

section
variable {X : Cx} {elt iter tg : Expr} {ifs : List Expr} {scope : Scope} {pos : Pos} {ls : List Str} {wi : TI} {g : TG} {tt : TT} {te : TE}
/-- the whole, with what is done with the list -/
theorem comp_core {use : Option (Value → Sem Unit)} {pins : List (Addr × Obj)} {s : Shared} {σ : St} {H : Hp} {Q : VK} {QQ : Value → Shared → Prop} {pos' : Pos} (hcalm : X.calm = true) (S : CScope X ls scope) (hi : PI X tg iter wi)
    (hg : ∀ C s2 H2 fp, PG (cxC X ls scope C s2 H2 fp) tg g) (ht : ∀ C s2 H2 fp, PIfs (cxC X ls scope C s2 H2 fp) ifs tt) (he : ∀ C s2 H2 fp, PE (cxC X ls scope C s2 H2 fp) elt te)
    (hs : ∀ x, foldedSetIterable iter X.env x = pure x) (I : Inv X pins σ H s) (h : tComp X.N ls wi g tt te σ H Q)
    (hQQ : ∀ (D C : Addr) (s' : Shared) (H' : Hp), (∃ m, s'.heap.Ns C m) → FpOk X pins H' C → (∀ h', Heap.SameBut C s'.heap h' → Inv X pins σ H' { s' with heap := h' }) → Q (.ref D) H' → compPost (model X.prog X.w) X.A X.xe use QQ (.ref D) C (.ok .next) s') :
    wpAny (model X.prog X.w) X.A (comprehension (.ListComp elt [⟨tg, iter, ifs, 0⟩] scope pos) scope X.env pos' (newList []) false (eval iter X.env) use) QQ X.xe s := by
  obtain ⟨hh, h⟩ := h
  have cf : ∀ p ∈ scope.names, p.2 = .free → ∃ c, X.env.cells.lookup p.1 = some c := fun p hp e => I.ok.has _ (S.free p hp e)
  refine wpAny_comprehension_free (use := use) rfl hs (closure_ok cf) S.kind S.names (thn (hi pins s σ H _ I h) fun v s1 h1 => thn h1 fun itv s2 h2 => ?_)
  obtain ⟨it, fp, tn, J, H2, rfl, I2, T, st2, f2, W, ⟨m0, w0⟩, turn⟩ := h2
  refine wpAny_newObj_type (wpAny_newFunctionEnv S.nocell (by intro y hy; simp at hy) (fun h₁ hns₁ hsb₁ => ?_) S.kind)
  dsimp only at hns₁ hsb₁ ⊢
  generalize hH2 : s2.heap.push { cls := .type "list", dict := none, data := .seq ([] : List Value).toArray } = G2 at hns₁ hsb₁ ⊢
  have hC : G2.objs.size = s2.heap.objs.size + 1 := by rw [← hH2, Heap.size_push]
  have hDC : s2.heap.objs.size ≠ G2.objs.size := by rw [hC]; exact Nat.ne_of_lt (Nat.lt_succ_self _)
  have hCle : s2.heap.objs.size ≤ G2.objs.size := by rw [hC]; exact Nat.le_succ _
  have old : ∀ b o, s2.heap.get? b = some o → h₁.get? b = some o := fun b o e => hsb₁.extBut b o (Nat.ne_of_lt (Nat.lt_of_lt_of_le (Heap.lt_size e) hCle)) (Heap.get?_push_of_some _ (hH2 ▸ Heap.get?_push_of_some _ e))
  have hacc : h₁.get? s2.heap.objs.size = some { cls := .type "list", data := .seq ([] : List Value).toArray } := hsb₁.extBut _ _ hDC (Heap.get?_push_of_some _ (hH2 ▸ Heap.get?_push_size _ rfl))
  have hobj : ∀ b ∈ fp, ∃ o, s2.heap.get? b = some o := fun b hb => let ⟨o, e, _⟩ := T.obj 0 _ st2 b hb; ⟨o, e⟩
  have ltf : ∀ b ∈ fp, b < s2.heap.objs.size := fun b hb => let ⟨o, e⟩ := hobj b hb; Heap.lt_size e
  have nofD : s2.heap.objs.size ∉ (cxC X ls scope G2.objs.size s2 H2 fp).fs := fun z => by
    rcases List.mem_cons.mp (I2.stkSub _ z) with z | z
    · exact absurd I2.lt (by rw [← z]; exact Nat.lt_irrefl _)
    · exact I2.nofs (Nat.le_refl _) z
  have st1 : tn 0 h₁ := T.keep 0 _ _ st2 fun b _ o e => old b o e
  have J0 : ∀ tk, Inv (cxC X ls scope G2.objs.size s2 H2 fp) [] (List.replicate ls.length none ++ σ) H2 { s2 with heap := h₁, toks := tk } := fun tk => inv_block I2 S hh f2 hobj hCle hns₁ old
  -- what holds of the walked things in the block
  have fpY : ∀ (Hx : Hp) (pl : List (Addr × Obj)), (∀ b ∈ fp, Hx b = none) → (∀ p ∈ pl, s2.heap.objs.size ≤ p.1) → ∀ b ∈ fp, FpOk (cxC X ls scope G2.objs.size s2 H2 fp) pl Hx b := fun Hx pl hx hp b hb =>
    ⟨hx b hb, ((J0 0).ok.exf b hb).1, (J0 0).ok.exfs b hb, .inl hb, ((J0 0).ok.exf b hb).2, fun p hpp => by
      have hpp : p ∈ pl := by simpa [cxC] using hpp
      exact Nat.ne_of_gt (Nat.lt_of_lt_of_le (ltf b hb) (hp p hpp))⟩
  have loop : ∀ s₃ : Shared, s₃ = { s2 with heap := h₁, toks := s2.toks + ([] : List (Str × Value)).length } →
      codeAny (model X.prog X.w) X.A (.compLoop (.ListComp elt [⟨tg, iter, ifs, 0⟩] scope pos) 0 (.ref it) (.ref s2.heap.objs.size) (compEnvC scope (cloOf scope X.env) G2.objs.size X.env))
        (compPost (model X.prog X.w) X.A X.xe use QQ (.ref s2.heap.objs.size) G2.objs.size) s₃ := by
    rintro s₃ rfl
    refine codeAny_compLoop_any (fun n s' => ∃ (i : Nat) (ys : List V) (its : List Value) (k : Nat) (H' : Hp), Inv (cxC X ls scope G2.objs.size s2 H2 fp) [] (List.replicate ls.length none ++ σ) H' s' ∧ tn i s'.heap ∧ (∀ b ∈ fp, H' b = none) ∧ H' s2.heap.objs.size = none ∧
      s'.heap.get? s2.heap.objs.size = some { cls := .type "list", data := .seq its.toArray k } ∧ Vals ys its ∧ ys.length ≤ sizeLine ∧ W i n ys H') ?_ m0
      ⟨0, [], [], 0, H2, J0 _, st1, fun b hb => (f2 b hb).1, I2.hok.fresh (Nat.le_refl _), hacc, .nil, Nat.zero_le _, w0⟩
    rintro n s3 ⟨i, ys, its, k, H3, I3, st3, fr3, d3, e3, r3, z3, w3⟩
    have big : ∀ p ∈ [((s2.heap.objs.size : Addr), ({ cls := .type "list", data := .seq its.toArray k } : Obj))], s2.heap.objs.size ≤ p.1 := fun p hp => by
      have this := List.mem_singleton.mp hp
      subst this
      exact Nat.le_refl _
    rcases turn i n ys H3 w3 with ⟨stop, qn⟩ | ⟨go, R, hR, step⟩
    · -- the end
      have P3 : Inv (cxC X ls scope G2.objs.size s2 H2 fp) [(s2.heap.objs.size, { cls := .type "list", data := .seq its.toArray k })] (List.replicate ls.length none ++ σ) H3 s3 := I3.pins_of fun p hp => by
        have this := List.mem_singleton.mp hp
        subst this
        exact ⟨e3, d3, hDC, nofD, fun v z => by cases z⟩
      refine thx (T.done (cxC X ls scope G2.objs.size s2 H2 fp) rfl rfl rfl hcalm i _ s3 _ H3 (fun _ _ => False) P3 (fpY H3 _ fr3 big) st3 stop) fun r s4 ⟨hr, I4⟩ => ?_
      subst hr
      obtain ⟨m, hm, _⟩ := I4.loc
      have e4 := (I4.pin _ (List.mem_append_right _ (List.mem_singleton.mpr rfl))).1
      exact hQQ _ _ s4 _ ⟨m, hm⟩ (I2.fpOk hCle (by rw [upd_ne (Ne.symm hDC)]; exact I4.free)) (fun h' sb => inv_left I2 f2 I4 (Nat.le_refl _) hCle hDC sb d3 e4 r3 z3) (qn _ d3)
    · -- a turn
      have P3 : Inv (cxC X ls scope G2.objs.size s2 H2 fp) [(s2.heap.objs.size, { cls := .type "list", data := .seq its.toArray k })] (List.replicate ls.length none ++ σ) H3 s3 := I3.pins_of fun p hp => by
        have this := List.mem_singleton.mp hp
        subst this
        exact ⟨e3, d3, hDC, nofD, fun v z => by cases z⟩
      refine thx (T.item (cxC X ls scope G2.objs.size s2 H2 fp) rfl rfl rfl hcalm i _ s3 _ H3 (fun _ _ => False) P3 (fpY H3 _ fr3 big) st3 go) fun r s4 ⟨u, hr, h4⟩ => ?_
      subst hr
      refine thx h4 fun _ s5 ⟨x, H5, I5, r5, y5, st5, fr5⟩ => ?_
      have I5' := I5.pinned (fpY H5 _ fr5 big) (T.obj _ _ st5)
      refine thx (hg _ _ _ _ _ s5 _ H5 x u _ I5' r5 (step x H5 y5)) fun _ s6 ⟨σ6, H6, I6, q6⟩ => ?_
      obtain ⟨dr, ln, q6⟩ := q6
      -- behind the turn
      have back : ∀ {s7 : Shared} {H7 : Hp}, Inv (cxC X ls scope G2.objs.size s2 H2 fp) ([((s2.heap.objs.size : Addr), ({ cls := .type "list", data := .seq its.toArray k } : Obj))] ++ pinsAt fp s5.heap) σ6 H7 s7 →
          Inv (cxC X ls scope G2.objs.size s2 H2 fp) [] (List.replicate ls.length none ++ σ) H7 s7 ∧ tn (i + 1) s7.heap ∧ (∀ b ∈ fp, H7 b = none) ∧ H7 s2.heap.objs.size = none ∧ s7.heap.get? s2.heap.objs.size = some { cls := .type "list", data := .seq its.toArray k } := fun {s7 H7} I7 => by
        have pD := I7.pin _ (List.mem_append_right _ (List.mem_append_left _ (List.mem_singleton.mpr rfl)))
        have pF : ∀ b ∈ fp, ∀ o, s5.heap.get? b = some o → s7.heap.get? b = some o ∧ H7 b = none := fun b hb o e => by
          have q := I7.pin (b, o) (List.mem_append_right _ (List.mem_append_right _ (mem_pinsAt hb e)))
          exact ⟨q.1, q.2.1⟩
        refine ⟨(I7.pins_of (pins' := []) fun p hp => absurd hp (by simp)).weak ?_ ?_, T.keep _ _ _ st5 fun b hb o e => (pF b hb o e).1, fun b hb => ?_, pD.2.1, pD.1⟩
        · rw [ln, List.length_append, List.length_replicate]
        · intro j v ej
          by_cases hj : j < ls.length
          · rw [List.getElem?_append_left (by simpa using hj), List.getElem?_replicate, if_pos hj] at ej
            cases ej
          · rw [List.getElem?_append_right (by simpa using hj), List.length_replicate, ← dr, List.getElem?_drop] at ej
            rw [← ej]
            congr 1
            omega
        · obtain ⟨o, e, _⟩ := T.obj _ _ st5 b hb
          exact (pF b hb o e).2
      refine thx (ht _ _ _ _ _ s6 σ6 H6 _ I6 q6) fun b s7 ⟨H7, I7, q7⟩ => ?_
      cases b with
      | false =>
        rw [if_neg Bool.false_ne_true] at q7 ⊢
        obtain ⟨m', hm, w7⟩ := hR _ _ q7
        obtain ⟨a1, a2, a3, a4, a5⟩ := back I7
        exact ⟨m', hm, i + 1, ys, its, k, H7, a1, a2, a3, a4, a5, r3, z3, w7⟩
      | true =>
        rw [if_pos rfl] at q7 ⊢
        refine thx (he _ _ _ _ _ s7 σ6 H7 _ I7 q7) fun y s8 ⟨v, H8, I8, r8, z8, q8⟩ => ?_
        obtain ⟨m', hm, w8⟩ := hR _ _ q8
        obtain ⟨a1, a2, a3, a4, a5⟩ := back I8
        have pl : s8.heap.PlainList s2.heap.objs.size its.toArray := ⟨k, a5⟩
        refine wpAny_list_append_plain (hsz := by rw [List.size_toArray, ← r3.length]; exact z3) pl fun h9 hl9 hs9 => ?_
        obtain ⟨k9, e9⟩ := hl9
        have cellN : ∀ (y : Str) (c : Addr), (cxC X ls scope G2.objs.size s2 H2 fp).env.cells.lookup y = some c → c ≠ s2.heap.objs.size := fun y c e => by
          have e1 : X.env.cells.lookup y = some c := clo_fold X.env scope.names [] cf (fun y a e => by simp at e) y c e
          obtain ⟨v, o, ho, _⟩ := I2.cell y c e1
          exact Nat.ne_of_lt (Heap.lt_size ho)
        have I9 : Inv (cxC X ls scope G2.objs.size s2 H2 fp) [] (List.replicate ls.length none ++ σ) H8 { s8 with heap := h9 } :=
          a1.turned (t' := s8.toks) (fun b o hb e => hs9.extBut b o hb e) a4 hDC (.inr (Nat.le_refl _)) cellN (fun p hp => absurd (show p ∈ ([] : List (Addr × Obj)) from hp) (by simp))
        refine ⟨m', hm, i + 1, ys ++ [v], its ++ [y], k9, H8, I9, T.keep _ _ _ a2 fun b hb o e => hs9.extBut b o (Nat.ne_of_lt (ltf b hb)) e, a3, a4, ?_, r3.append (.cons r8 .nil), ?_, w8⟩
        · simpa using e9
        · rw [List.length_append, List.length_singleton]; exact z8
  exact codeAny_compStart_list (loop _ rfl) (T.self _ 0 _ _ _ st1 (loop _ rfl))

theorem pe_comp (hcalm : X.calm = true) (S : CScope X ls scope) (hi : PI X tg iter wi)
    (hg : ∀ C s2 H2 fp, PG (cxC X ls scope C s2 H2 fp) tg g) (ht : ∀ C s2 H2 fp, PIfs (cxC X ls scope C s2 H2 fp) ifs tt) (he : ∀ C s2 H2 fp, PE (cxC X ls scope C s2 H2 fp) elt te)
    (hs : ∀ x, foldedSetIterable iter X.env x = pure x := by intro _; rfl) : PE X (.ListComp elt [⟨tg, iter, ifs, 0⟩] scope pos) (tComp X.N ls wi g tt te) := by
  intro pins s σ H Q I h
  rw [eval_ListComp]
  refine comp_core (use := none) hcalm S hi hg ht he hs I h fun D C s' H' hm _ hI q => ?_
  obtain ⟨m, hm⟩ := hm
  exact ⟨m, hm, fun h' sb => ⟨.ref D, H', hI h' sb, rfl, q⟩⟩
/-- name = [e for ..] -/
theorem ps_setComp {i : Nat} {x : Str} {px spos : Pos} (hN : X.N.Nodup) (hx1 : X.N[i]? = some x) (hx : X.env.scope.names.lookup x = some .local) (hcalm : X.calm = true) (S : CScope X ls scope) (hi : PI X tg iter wi)
    (hg : ∀ C s2 H2 fp, PG (cxC X ls scope C s2 H2 fp) tg g) (ht : ∀ C s2 H2 fp, PIfs (cxC X ls scope C s2 H2 fp) ifs tt) (he : ∀ C s2 H2 fp, PE (cxC X ls scope C s2 H2 fp) elt te)
    (hsw : swapsWith (.ListComp elt [⟨tg, iter, ifs, 0⟩] scope pos) (some (.Name x px)) spos.line X.env = pure true := by rfl)
    (hs : ∀ x, foldedSetIterable iter X.env x = pure x := by intro _; rfl) : PS X (.Assign [.Name x px] (.ListComp elt [⟨tg, iter, ifs, 0⟩] scope pos) spos) (tAsg (tComp X.N ls wi g tt te) (gName i)) := by
  intro pins s σ H D I h
  rw [exec_Assign_Name_used _ _ _ _ hsw]
  refine wpAny_bind (wpAny_standAt (wpAny_bind ?_))
  show wpAny _ X.A (do let _ ← comprehension (.ListComp elt [⟨tg, iter, ifs, 0⟩] scope pos) scope X.env _ (newList []) false (eval iter X.env) (some (assign (.Name x px) X.env))) _ _ s
  refine wpAny_bind (wpAny_mono (comp_core (use := some (assign (.Name x px) X.env)) (QQ := fun _ s' => SP X pins D .next s') hcalm S hi hg ht he hs I h fun Dd C s' H' hm hf hI q => ?_) (fun _ s' hq => wpAny_pure (wpAny_pure hq)) fun _ _ e => e)
  obtain ⟨m, hm⟩ := hm
  have I1 : Inv X pins σ H' s' := hI s'.heap (.refl ..)
  show wpAny _ X.A (assign (.Name x px) X.env (.ref Dd)) _ _ _
  refine wpAny_assign_Name (store_ok2 (v := .ref Dd) I1 hN hx1 (.inl hx) rfl (fun s2 I2 ch => ?_) (.inr hx))
  obtain ⟨f0, f1, f2, f3, f4, f5⟩ := hf
  obtain ⟨a, sb, ha⟩ := ch
  have hne : C ≠ a := by
    rcases ha with ha | ha
    · rw [ha]; exact f1
    · exact Ne.symm (f4 _ _ ha)
  refine ⟨m, hm.sameBut sb hne, fun h' sb' => ?_⟩
  exact ⟨_, H', I2.turned (t' := s2.toks) (fun b o hb e => sb'.extBut b o hb e) f0 f1 f3 f4 f5, q⟩
end

/-! ### the forms one uses -/
end L2
/-! more operations by values -/
namespace L2
open PySem PySem.Spec PyProof.Rows

/-! ### a block's scope, decided -/
def cscopeB (ls : List Str) (sc outer : Scope) : Bool := (sc.kind == .function && ls.all fun y => (sc.names.lookup ⟨#[63] ++ y.cps⟩).isNone) && sc.names.all fun y => (y.2 != .cell) && (y.2 != .local || (sc.names.lookup y.1 == some .local && ls.contains y.1)) && (y.2 != .free || outer.names.lookup y.1 == some .cell || outer.names.lookup y.1 == some .free)
theorem CScope.of {X : Cx} {ls : List Str} {scope : Scope} (outer : Scope) (h : cscopeB ls scope outer = true := by decide +kernel) (ho : X.env.scope = outer := by rfl) : CScope X ls scope := by
  unfold cscopeB at h
  rw [Bool.and_eq_true, List.all_eq_true] at h
  obtain ⟨h0, h⟩ := h
  rw [Bool.and_eq_true, List.all_eq_true] at h0
  obtain ⟨h0, hq⟩ := h0
  refine ⟨by simpa using h0, fun y hy e => ?_, fun y hy e => ?_, fun y hy => ?_, fun y hy e => ?_, fun y hy k e => by have q := hq y hy; rw [e] at q; cases q⟩
  · have q := h y hy
    simp [e] at q
  · have q := h y hy
    simp [e] at q
    exact q.1
  · have q := h _ (PySem.mem_of_lookup hy)
    simp at q
    exact q.2
  · have q := h y hy
    simp [e] at q
    show X.env.scope.names.lookup y.1 = _ ∨ X.env.scope.names.lookup y.1 = _
    rw [ho]
    exact q

/-! ### products of great numbers -/
def CMulB (i j : Int) : Prop := i.natAbs < 2 ^ 65536 ∧ j.natAbs < 2 ^ 65536
theorem bits_le {i : Int} {n : Nat} (h : i.natAbs < 2 ^ n) : Builtin.Int.intBits i ≤ n := by
  unfold Builtin.Int.intBits
  split
  · exact Nat.zero_le _
  · rename_i hz
    have hz' : i.natAbs ≠ 0 := by
      intro e
      exact hz (by simp_all)
    have := (Nat.log2_lt hz').mpr h
    omega
theorem CMulB.ok {i j : Int} (h : CMulB i j) : IntMulOk i j := .of_bits (Nat.le_trans (bits_le h.1) (by decide)) (Nat.le_trans (bits_le h.2) (by decide))
section
variable {X : Cx}
/-! ### sum of a list of ints -/
/-! ### isinstance -/
theorem call_isinst : CallR X (.builtin "isinstance") (fun xs H Q => ∃ (x c : V) (cv t : Value) (b : Bool), xs = [x, c] ∧ RelV c cv ∧ TyOf X.K H x t ∧ PySem.W.kitOne X.K t cv = some b ∧ Q (.bl b) H) := by
  intro pins s σ H xs us Q I r h
  obtain ⟨x, c, cv, t, b, rfl, rc, ty, e, q⟩ := h
  obtain ⟨u, u', rfl, ru, ru'⟩ := vals2 r
  have : u' = cv := by
    cases c with
    | ref a => cases rc; cases ru'; rfl
    | ty n => cases rc; cases ru'; rfl
    | non => cases rc; cases ru'; rfl
    | bl _ => cases rc; cases ru'; rfl
    | int _ => obtain ⟨t1, rfl⟩ := rc; exact absurd e (by simp [PySem.W.kitOne, PySem.W.kitCls]; intro h; cases ty <;> cases h)
    | str _ => obtain ⟨t1, rfl⟩ := rc; exact absurd e (by simp [PySem.W.kitOne, PySem.W.kitCls]; intro h; cases ty <;> cases h)
    | byt _ => obtain ⟨t1, rfl⟩ := rc; exact absurd e (by simp [PySem.W.kitOne, PySem.W.kitCls]; intro h; cases ty <;> cases h)
    | flt _ => obtain ⟨t1, rfl⟩ := rc; exact absurd e (by simp [PySem.W.kitOne, PySem.W.kitCls]; intro h; cases ty <;> cases h)
  subst this
  exact isinst_ok I ru ty e fun tk => ⟨.bl b, H, I.tok tk, rfl, q⟩

/-! ### dict(d), d == e -/
/-! ### == of nested lists and tuples -/
mutual
inductive Den (K : PySem.W.Frag) (H : Hp) : V → PyData → Prop
  | non : Den K H .non .none
  | bl (b) : Den K H (.bl b) (.bool b)
  | int (i) : Den K H (.int i) (.int i)
  | str (x) : Den K H (.str x) (.str x)
  | lst {a xs ds} : SqL K H a xs → DenAll K H xs ds → Den K H (.ref a) (.list ds)
  | tup {a xs ds} : SqT K H a xs → DenAll K H xs ds → Den K H (.ref a) (.tuple ds)
inductive DenAll (K : PySem.W.Frag) (H : Hp) : List V → List PyData → Prop
  | nil : DenAll K H [] []
  | cons {x xs d ds} : Den K H x d → DenAll K H xs ds → DenAll K H (x :: xs) (d :: ds)
end
mutual
theorem den_reads {pins : List (Addr × Obj)} {σ : St} {H : Hp} {s : Shared} (I : Inv X pins σ H s) : ∀ {x : V} {d : PyData} {u : Value}, Den X.K H x d → RelV x u → ∃ as, Reads s.heap u d as
  | _, _, _, .non, r => by cases r; exact ⟨_, .none⟩
  | _, _, _, .bl b, r => by cases r; exact ⟨_, .bool b⟩
  | _, _, _, .int i, r => by obtain ⟨t, rfl⟩ := r; exact ⟨_, .int i t⟩
  | _, _, _, .str i, r => by obtain ⟨t, rfl⟩ := r; exact ⟨_, .str i t⟩
  | _, _, _, .lst hq ha, r => by
    cases r
    obtain ⟨its, rv, ⟨o, n, e1, e2, e3, e4⟩, hz⟩ := I.list hq
    obtain ⟨as, h⟩ := den_readsAll I ha rv
    exact ⟨_, .list e1 e2 e4 (by simpa using h)⟩
  | _, _, _, .tup hq ha, r => by
    cases r
    obtain ⟨its, rv, ⟨o, e1, e2, n, e3⟩, hz⟩ := I.tuple hq
    obtain ⟨as, h⟩ := den_readsAll I ha rv
    exact ⟨_, .tuple e1 e2 e3 (by simpa using h)⟩
theorem den_readsAll {pins : List (Addr × Obj)} {σ : St} {H : Hp} {s : Shared} (I : Inv X pins σ H s) : ∀ {xs : List V} {ds : List PyData} {us : List Value}, DenAll X.K H xs ds → Vals xs us → ∃ as, ReadsAll s.heap us ds as
  | _, _, _, .nil, .nil => ⟨_, .nil⟩
  | _, _, _, .cons h t, .cons r rs => by
    obtain ⟨as, h1⟩ := den_reads I h r
    obtain ⟨bs, h2⟩ := den_readsAll I t rs
    exact ⟨_, .cons h1 h2⟩
end
def rEqD (K : PySem.W.Frag) (A : Around) (neg : Bool) : R2 := fun x y H Q => ∃ d e, Den K H x d ∧ Den K H y e ∧ d.canLay0 = true ∧ e.canLay0 = true ∧ A.units + min d.depth e.depth < cLine ∧ Q (.bl (if neg then !PyData.eqv d e else PyData.eqv d e)) H
theorem op_eqD : OpR X (compareOp .Eq) (rEqD X.K X.A false) := by
  intro pins s σ H x y v u Q I rx ry h
  obtain ⟨d, e, hd, he, cd, ce, hu, q⟩ := h
  obtain ⟨as, ra⟩ := den_reads I hd rx
  obtain ⟨bs, rb⟩ := den_reads I he ry
  exact SeqAt.compareEq_reads ra rb cd ce hu ⟨.bl _, H, I, rfl, q⟩
theorem op_neD : OpR X (compareOp .NotEq) (rEqD X.K X.A true) := by
  intro pins s σ H x y v u Q I rx ry h
  obtain ⟨d, e, hd, he, cd, ce, hu, q⟩ := h
  obtain ⟨as, ra⟩ := den_reads I hd rx
  obtain ⟨bs, rb⟩ := den_reads I he ry
  exact SeqAt.compareNe_reads ra rb cd ce hu ⟨.bl _, H, I, rfl, q⟩
end
end L2
/-! exceptions of own classes: raised, passed on, caught -/
namespace L2
open PySem PySem.Spec PyProof.Rows

section
variable {X : Cx} {pins : List (Addr × Obj)} {σ : St} {H : Hp} {s : Shared}
end

section
variable {P : Program} {w : World} {K : PySem.W.Frag} {mg : Str → Option Value} {base : Heap} {N : List Str} {qual : Str} {scope : Scope} {f : Addr} {cd : Value} {A : Around} {outer : List Env} {s : Shared} {H : Hp} {E : XK}
end
end L2
/-! texts; raise; try -/
namespace L2
open PySem PySem.Spec PyProof.Rows

/-! ### a text, sign by sign -/
section
variable {X : Cx} {tg : Expr}
end
section
variable {X : Cx}
/-! ### all([..]) -/
/-! ### parts of a text -/
theorem sl_str : SlR X (fun x lo hi H Q => ∃ z, x = .str z ∧ z.length ≤ sizeLine ∧ Q (.str (StrLaws.sliceText z lo hi)) H) := by
  intro pins s σ H x v vl vu lo hi sl Q I rx hs pl pu h
  obtain ⟨z, rfl, hz, q⟩ := h
  obtain ⟨t, rfl⟩ := rx
  have part : ∀ {v : Value} {o : Option Int}, IsPart v o → ∃ p : Option (Int × Tok), v = partValue p ∧ p.map (·.1) = o := fun {v o} h => by
    cases h with
    | none => exact ⟨none, rfl, rfl⟩
    | int i t => exact ⟨some (i, t), rfl, rfl⟩
  obtain ⟨l, rfl, el⟩ := part pl
  obtain ⟨u, rfl, eu⟩ := part pu
  refine ⟨"str", _, slot_str_getitem.lookup, typeIs_str s z t, ?_⟩
  obtain ⟨o, h1, h2, h3⟩ := hs
  refine wpAny_getItem_str_slice (l := l) (u := u) (st := none) ⟨o, h1, h2, h3⟩ rfl ?_
  subst el eu
  unfold sliceMade slicePicked
  unfold StrLaws.sliceText at q
  simp only [Option.map_none, Option.getD_none]
  split
  · rename_i hc
    rw [if_pos hc] at q
    exact ⟨.str z, H, I, ⟨t, rfl⟩, q⟩
  · rename_i hc
    rw [if_neg hc] at q
    refine ⟨?_, .str _, H, I.tok _, ⟨_, rfl⟩, q⟩
    show ((_ : List Nat).toArray).size ≤ sizeLine
    rw [List.size_toArray]
    exact Nat.le_trans (List.length_filterMap_le _ _) (Nat.le_trans (sliceIndices_le _ _ _) hz)

/-! ### int(text), str(text) -/
theorem op_mul_str : OpR X (binaryOp .Mult) (fun x y H Q => ∃ (z : Str) (n : Int), x = .str z ∧ y = .int n ∧ MulOk z n ∧ Q (.str (Txt.mul z n)) H) := by
  intro pins s σ H x y v u Q I rx ry h
  obtain ⟨z, n, rfl, rfl, ho, q⟩ := h
  obtain ⟨t, rfl⟩ := rx
  obtain ⟨t', rfl⟩ := ry
  exact SB.mul ho fun t' k => ⟨.str _, H, I.tok k, ⟨_, rfl⟩, q⟩
end
/-! ### raise -/
section
variable {X : Cx} {C : Addr} {E : XK} {x : Str} {np cpos pos : Pos} {a : Expr} {es : List Expr} {t : TA}
end
end L2
/-! try .. except -/
namespace L2
open PySem PySem.Spec PyProof.Rows

/-- an exception's object, by its class -/
def excO (ea : Addr) (cls : Value) : HO := .ext fun h => ∃ o vs, h.get? ea = some o ∧ o.cls = cls ∧ o.data = .fields vs

section
variable {X : Cx} {pins : List (Addr × Obj)} {σ : St} {H : Hp} {s : Shared} {pn : List (Addr × Obj)} {xe : Value → Shared → Prop}
end

/-! f(..) within a try -/
section
variable {X : Cx} {CX : CXT} {k : Nat} {f C : Addr} {fd : FuncData} {ps : List Str} {sp : Sp} {dvs : List V} {ds : List Value} {Z : St → XK} {x m : Str} {p pos apos : Pos} {e o : Expr} {es : List Expr} {ta : TE} {t : TA}
end

section
variable {X : Cx} {x : Str} {C : Value} {body suite : List Stmt} {b0 : Stmt} {np hpos pos : Pos} {tb : (St → XK) → TS} {ts : TS}
end

/-! ### a def that may raise -/
section
variable {P : Program} {w : World} {K : PySem.W.Frag} {mg : Str → Option Value} {base : Heap}
end
end L2
/-! displays of written texts, ints -/
namespace L2
open PySem PySem.Spec PyProof.Rows
section
variable {X : Cx}
end
end L2
/-! more: lists against [], enumerate, join -/
namespace L2
open PySem PySem.Spec PyProof.Rows
section
variable {X : Cx}
end
/-! ### enumerate -/
section
variable {X : Cx}
end
end L2
set_option maxHeartbeats 1000000
/-! isinstance of exceptions; except .. as e -/
namespace L2
open PySem PySem.Spec PyProof.Rows PySem.W
section
variable {prog : Program} {w : World} {A : Around} {E : Value → Shared → Prop} {h : Heap} {g : Array GenState} {d : Drawn} {t : Nat} {os : OsState} {a C : Addr} {o : Obj} {K : PySem.W.Frag}
end
section
variable {X : Cx}
end
end L2
set_option maxHeartbeats 1000000
/-! except .. as e -/
namespace L2
open PySem PySem.Spec PyProof.Rows PySem.W
section
variable {X : Cx} {pins : List (Addr × Obj)} {σ : St} {H : Hp} {s : Shared}
end
section
variable {X : Cx} {x n : Str} {C : Value} {body suite : List Stmt} {b0 : Stmt} {np hpos pos : Pos} {tb : (St → XK) → TS} {ts : TS} {i : Nat}
end
end L2
set_option maxHeartbeats 1000000
/-! join; displays with texts told n times -/
namespace L2
open PySem PySem.Spec PyProof.Rows
section
variable {X : Cx}
end
/-! ### displays of texts, some of them told n times -/
section
variable {X : Cx}
end
end L2
/-! cuts: what holds between two statements -/
namespace L2
open PySem
end L2
set_option maxHeartbeats 1000000
/-! enumerate over a tuple; a text's find -/
namespace L2
open PySem PySem.Spec PyProof.Rows
open Sem (wp)
open Builtin
section
variable {prog : Program} {w : World} {A : Around} {E : Value → Shared → Prop} {s : Shared}
end
section
variable {prog : Program} {w : World} {A : Around} {E : Value → Shared → Prop} {s : Shared}
end
section
variable {X : Cx}
def rFind : V → List V → Hp → VK → Prop := fun x vs H Q => ∃ (a b : Str), x = .str a ∧ vs = [.str b] ∧ Q (.int (Txt.find a b)) H
theorem mt_find : MtM X "str.find" rFind := by
  intro pins s σ H x vs v us Q I rx rv h
  obtain ⟨a, b, rfl, rfl, q⟩ := h
  obtain ⟨t, rfl⟩ := rx
  obtain ⟨u, rfl, ru⟩ := rv.one
  obtain ⟨tb, rfl⟩ := ru
  exact call_gives F.slot_str_find (typeIs_str _ _ _) F.entry_str_find (F.args_str_find_2 _ _) (gives_str_find a b t tb) ⟨.int (Txt.find a b), H, I.tok _, ⟨_, rfl⟩, q⟩
end
end L2
set_option maxHeartbeats 2000000
/-! zip over lists and tuples -/
namespace L2
open PySem PySem.Spec PyProof.Rows
open Sem (wp)
open Builtin
def SeqAt (h : Heap) (T : String) (l : Addr) (its : Array Value) : Prop := (T = "list_iterator" ∧ h.IsList l its) ∨ (T = "tuple_iterator" ∧ h.IsTuple l its)
section
variable {prog : Program} {w : World} {A : Around} {E : Value → Shared → Prop} {s : Shared}
end
section
variable {prog : Program} {w : World} {A : Around} {E : Value → Shared → Prop} {s : Shared}
end
end L2
set_option maxHeartbeats 2000000
/-! for .. in zip(a, b) -/
namespace L2
open PySem PySem.Spec PyProof.Rows
section
variable {X : Cx} {pins : List (Addr × Obj)} {σ : St} {H : Hp} {s : Shared} {a : Addr} {xs ys : List V} {k : Bool}
end
section
variable {X : Cx}
end
end L2
set_option maxHeartbeats 2000000
/-! a tuple's index; () + t -/
namespace L2
open PySem PySem.Spec PyProof.Rows
open Builtin
section
variable {prog : Program} {w : World} {A : Around} {E : Value → Shared → Prop}
end
section
variable {X : Cx}
end
end L2
namespace L2
open PySem PySem.Spec PyProof.Rows
section
variable {X : Cx}
variable {o e : Expr} {es : List Expr} {to : TE} {t : TA} {name : Str} {apos cpos : Pos} {id : String} {r : V → List V → Hp → VK → Prop}
end
end L2
set_option maxHeartbeats 2000000
/-! insert -/
namespace L2
open PySem PySem.Spec PyProof.Rows
section
variable {X : Cx}
end
end L2
set_option maxHeartbeats 1000000
/-! THE MIRROR: values with tuples and unchanging lists as plain data, a heap of changing ones by places; what a body does as a function of these -/
namespace L2
open PySem PySem.Spec PyProof.Rows

inductive W where
  | ty (n : String) | exc (c : Str) | cls (c : Str) | non | bl (b : Bool) | int (i : Int) | str (x : Str)
  | tup (l : List W) | tl (l : List W) | cl (l : List W) | dv (ks : List Key) (ws : List W) | loc (k : Nat)
inductive Ob where
  | lst (l : List W) | dic (ks : List Key) (ws : List W) | ins (c : Str) (ns : List Str) (ws : List W) | gone
/-- a world: where each place stands, what is there, the heap -/
structure Wo where
  mu : Nat → Addr
  h : List Ob
  H : Hp
/-- a stands for a thing that may change -/
def Lv (o : Wo) (a : Addr) : Prop := ∃ k b, o.h[k]? = some b ∧ b ≠ .gone ∧ o.mu k = a
/-- a list of the module -/
def FrL (K : PySem.W.Frag) (a : Addr) (xs : List V) : Prop := ∃ (o : Obj) (its : Array Value) (n : Nat), K.lookup a = some o ∧ o.cls = .type "list" ∧ o.dict = none ∧ o.data = .seq its n ∧ its.size ≤ sizeLine ∧ Vals xs its.toList
mutual
def Rv (K : PySem.W.Frag) (o : Wo) : W → V → Prop
  | .ty n, v => v = .ty n
  | .exc c, v => ∃ a C, v = .ref a ∧ PySem.W.nsIn K mainGlobals c = some (some (.ref C)) ∧ o.H a = some (excO a (.ref C))
  | .cls c, v => ∃ C, v = .ref C ∧ PySem.W.nsIn K mainGlobals c = some (some (.ref C))
  | .non, v => v = .non
  | .bl b, v => v = .bl b
  | .int i, v => v = .int i
  | .str x, v => v = .str x
  | .tup l, v => ∃ a vs, v = .ref a ∧ SqT K o.H a vs ∧ Rvs K o l vs
  | .tl l, v => ∃ a vs, v = .ref a ∧ o.H a = some (.lst vs) ∧ ¬ Lv o a ∧ Rvs K o l vs
  | .cl l, v => ∃ a vs, v = .ref a ∧ ((Rd o.H a (.lst vs) ∧ ¬ Lv o a) ∨ FrL K a vs) ∧ Rvs K o l vs
  | .dv ks ws, v => ∃ a kvs, v = .ref a ∧ Rd o.H a (.dK kvs) ∧ ¬ Lv o a ∧ kvs.map (·.1) = ks ∧ Rvs K o ws (kvs.map (·.2))
  | .loc k, v => k < o.h.length ∧ v = .ref (o.mu k)
def Rvs (K : PySem.W.Frag) (o : Wo) : List W → List V → Prop
  | [], vs => vs = []
  | w :: l, vs => ∃ v r, vs = v :: r ∧ Rv K o w v ∧ Rvs K o l r
end
def Ro (K : PySem.W.Frag) (o : Wo) (a : Addr) : Ob → Prop
  | .lst l => ∃ vs, o.H a = some (.lst vs) ∧ Rvs K o l vs
  | .dic ks ws => ∃ kvs, o.H a = some (.dK kvs) ∧ kvs.map (·.1) = ks ∧ Rvs K o ws (kvs.map (·.2))
  | .ins c ns ws => ∃ C dx fs, PySem.W.nsIn K mainGlobals c = some (some (.ref C)) ∧ o.H a = some (.ins C dx fs) ∧ fs.map (·.1) = ns ∧ Rvs K o ws (fs.map (·.2))
  | .gone => True
structure Rel (K : PySem.W.Frag) (o : Wo) : Prop where
  ob : ∀ k b, o.h[k]? = some b → Ro K o (o.mu k) b
  inj : ∀ j k b c, o.h[j]? = some b → o.h[k]? = some c → b ≠ .gone → c ≠ .gone → o.mu j = o.mu k → j = k
/-- one world behind another -/
structure Ex (o p : Wo) : Prop where
  le : o.h.length ≤ p.h.length
  mu : ∀ k, k < o.h.length → p.mu k = o.mu k
  fr : ∀ a u, o.H a = some u → ¬ Lv o a → p.H a = some u ∧ ¬ Lv p a
theorem Ex.refl (o : Wo) : Ex o o := ⟨Nat.le_refl _, fun _ _ => rfl, fun _ _ h n => ⟨h, n⟩⟩
theorem Ex.trans {o p q : Wo} (a : Ex o p) (b : Ex p q) : Ex o q := ⟨Nat.le_trans a.le b.le, fun k h => (b.mu k (Nat.lt_of_lt_of_le h a.le)).trans (a.mu k h), fun c u h n => let ⟨h1, n1⟩ := a.fr c u h n; b.fr c u h1 n1⟩
section
variable {K : PySem.W.Frag} {o p : Wo}
theorem Lv.kind (R : Rel K o) {a : Addr} (h : Lv o a) : (∃ vs, o.H a = some (.lst vs)) ∨ (∃ kvs, o.H a = some (.dK kvs)) ∨ ∃ C dx fs, o.H a = some (.ins C dx fs) := by
  obtain ⟨k, b, hk, hb, rfl⟩ := h
  have q := R.ob k b hk
  cases b with
  | lst l => exact .inl (let ⟨vs, e, _⟩ := q; ⟨vs, e⟩)
  | dic ks ws => exact .inr (.inl (let ⟨vs, e, _⟩ := q; ⟨vs, e⟩))
  | ins c ns ws => exact .inr (.inr (let ⟨C, dx, fs, _, e, _⟩ := q; ⟨C, dx, fs, e⟩))
  | gone => exact absurd rfl hb
theorem Ex.keep (X : Ex o p) (R : Rel K o) {a : Addr} {u : HO} (h : o.H a = some u) (n1 : ∀ vs, u ≠ .lst vs) (n2 : ∀ kvs, u ≠ .dK kvs) (n3 : ∀ C dx fs, u ≠ .ins C dx fs) : p.H a = some u := by
  refine (X.fr a u h fun l => ?_).1
  rcases l.kind R with ⟨vs, e⟩ | ⟨vs, e⟩ | ⟨C, dx, fs, e⟩
  · rw [h] at e; exact n1 vs (Option.some.inj e)
  · rw [h] at e; exact n2 vs (Option.some.inj e)
  · rw [h] at e; exact n3 C dx fs (Option.some.inj e)
theorem Ex.rdT (X : Ex o p) (R : Rel K o) {a : Addr} {vs : List V} (h : SqT K o.H a vs) : SqT K p.H a vs := by
  rcases h with (h | ⟨ob, h⟩) | h
  · exact .inl (.inl (X.keep R h (fun _ z => nomatch z) (fun _ z => nomatch z) fun _ _ _ z => nomatch z))
  · exact .inl (.inr ⟨ob, X.keep R h (fun _ z => nomatch z) (fun _ z => nomatch z) fun _ _ _ z => nomatch z⟩)
  · exact .inr h
theorem Ex.rd (X : Ex o p) {a : Addr} {u : HO} (h : Rd o.H a u) (n : ¬ Lv o a) : Rd p.H a u ∧ ¬ Lv p a := by
  rcases h with h | ⟨ob, h⟩
  · exact ⟨.inl (X.fr a _ h n).1, (X.fr a _ h n).2⟩
  · exact ⟨.inr ⟨ob, (X.fr a _ h n).1⟩, (X.fr a _ h n).2⟩
mutual
theorem Rv.mono (R : Rel K o) (X : Ex o p) : ∀ (w : W) (v : V), Rv K o w v → Rv K p w v
  | .ty n, v, h => h
  | .exc c, v, h => by
    unfold Rv at h ⊢
    obtain ⟨a, C, e, h1, h2⟩ := h
    exact ⟨a, C, e, h1, X.keep R h2 (fun _ z => nomatch z) (fun _ z => nomatch z) fun _ _ _ z => nomatch z⟩
  | .cls c, v, h => by
    unfold Rv at h ⊢
    exact h
  | .non, v, h => h
  | .bl b, v, h => h
  | .int i, v, h => h
  | .str x, v, h => h
  | .tup l, v, h => by
    unfold Rv at h ⊢
    obtain ⟨a, vs, e, h1, h2⟩ := h
    exact ⟨a, vs, e, X.rdT R h1, Rvs.mono R X l vs h2⟩
  | .tl l, v, h => by
    unfold Rv at h ⊢
    obtain ⟨a, vs, e, h1, n, h2⟩ := h
    exact ⟨a, vs, e, (X.fr a _ h1 n).1, (X.fr a _ h1 n).2, Rvs.mono R X l vs h2⟩
  | .cl l, v, h => by
    unfold Rv at h ⊢
    obtain ⟨a, vs, e, h1, h2⟩ := h
    refine ⟨a, vs, e, ?_, Rvs.mono R X l vs h2⟩
    rcases h1 with ⟨h1, n⟩ | h1
    · exact .inl (X.rd h1 n)
    · exact .inr h1
  | .dv ks ws, v, h => by
    unfold Rv at h ⊢
    obtain ⟨a, vs, e, h1, n, h2, h3⟩ := h
    exact ⟨a, vs, e, (X.rd h1 n).1, (X.rd h1 n).2, h2, Rvs.mono R X ws _ h3⟩
  | .loc k, v, h => by
    unfold Rv at h ⊢
    exact ⟨Nat.lt_of_lt_of_le h.1 X.le, by rw [X.mu k h.1]; exact h.2⟩
theorem Rvs.mono (R : Rel K o) (X : Ex o p) : ∀ (l : List W) (vs : List V), Rvs K o l vs → Rvs K p l vs
  | [], vs, h => h
  | w :: l, vs, h => by
    unfold Rvs at h ⊢
    obtain ⟨v, r, e, h1, h2⟩ := h
    exact ⟨v, r, e, Rv.mono R X w v h1, Rvs.mono R X l r h2⟩
end
/-- the places stand as they stood -/
theorem Rel.keep (R : Rel K o) (X : Ex o p) (e1 : p.h = o.h) (e2 : p.mu = o.mu) (e3 : ∀ k b, o.h[k]? = some b → b ≠ .gone → p.H (o.mu k) = o.H (o.mu k)) : Rel K p := by
  refine ⟨fun k b hk => ?_, fun j k b c h1 h2 => ?_⟩
  · rw [e1] at hk
    rw [e2]
    have q := R.ob k b hk
    cases b with
    | lst l => obtain ⟨vs, h1, h2⟩ := q; exact ⟨vs, by rw [e3 k _ hk (by simp)]; exact h1, h2.mono R X⟩
    | dic ks ws => obtain ⟨vs, h1, h2, h3⟩ := q; exact ⟨vs, by rw [e3 k _ hk (by simp)]; exact h1, h2, h3.mono R X⟩
    | ins c ns ws => obtain ⟨C, dx, fs, h0, h1, h2, h3⟩ := q; exact ⟨C, dx, fs, h0, by rw [e3 k _ hk (by simp)]; exact h1, h2, h3.mono R X⟩
    | gone => trivial
  · rw [e1] at h1 h2
    rw [e2]
    exact R.inj j k b c h1 h2
theorem Lv.there (R : Rel K o) {a : Addr} (h : Lv o a) : o.H a ≠ none := by
  rcases h.kind R with ⟨vs, e⟩ | ⟨vs, e⟩ | ⟨C, dx, fs, e⟩ <;> (rw [e]; simp)
/-- a new thing that is no place -/
theorem Ex.new {q : Addr} {u : HO} (h : o.H q = none) : Ex o ⟨o.mu, o.h, upd o.H q u⟩ := by
  refine ⟨Nat.le_refl _, fun _ _ => rfl, fun a w e n => ⟨?_, n⟩⟩
  show upd o.H q u a = some w
  rw [upd_ne (ne_of_none e h)]; exact e
theorem Rel.new (R : Rel K o) {q : Addr} {u : HO} (h : o.H q = none) : Rel K ⟨o.mu, o.h, upd o.H q u⟩ := by
  refine R.keep (Ex.new h) rfl rfl fun k b hk hb => ?_
  have l : Lv o (o.mu k) := ⟨k, b, hk, hb, rfl⟩
  show upd o.H q u (o.mu k) = _
  rw [upd_ne fun z => l.there R (by rw [z]; exact h)]
/-- a new place -/
def Wo.add (o : Wo) (q : Addr) (b : Ob) (u : HO) : Wo := ⟨fun k => if k = o.h.length then q else o.mu k, o.h ++ [b], upd o.H q u⟩
theorem Ex.add {q : Addr} {b : Ob} {u : HO} (h : o.H q = none) : Ex o (o.add q b u) := by
  refine ⟨by show _ ≤ (o.h ++ [b]).length; simp, fun k hk => ?_, fun a w e n => ⟨?_, fun l => ?_⟩⟩
  · show (if k = o.h.length then q else o.mu k) = _
    rw [if_neg (by omega)]
  · show upd o.H q u a = some w
    rw [upd_ne (ne_of_none e h)]; exact e
  · obtain ⟨k, c, hk, hc, ha⟩ := l
    have ha : (if k = o.h.length then q else o.mu k) = a := ha
    have hk : (o.h ++ [b])[k]? = some c := hk
    by_cases z : k = o.h.length
    · rw [if_pos z] at ha
      exact absurd ha.symm (ne_of_none e h)
    · rw [if_neg z] at ha
      have hl : k < o.h.length := by
        have := (List.getElem?_eq_some_iff.mp hk).1
        rw [List.length_append, List.length_singleton] at this
        omega
      rw [List.getElem?_append_left hl] at hk
      exact n ⟨k, c, hk, hc, ha⟩
theorem Rel.add (R : Rel K o) {q : Addr} {b : Ob} {u : HO} (h : o.H q = none) (hb : Ro K (o.add q b u) q b) : Rel K (o.add q b u) := by
  have X : Ex o (o.add q b u) := Ex.add h
  have old : ∀ {k : Nat} {c : Ob}, (o.add q b u).h[k]? = some c → k ≠ o.h.length → o.h[k]? = some c ∧ (o.add q b u).mu k = o.mu k := fun {k c} hk z => by
    have hk : (o.h ++ [b])[k]? = some c := hk
    have hl : k < o.h.length := by
      have := (List.getElem?_eq_some_iff.mp hk).1
      rw [List.length_append, List.length_singleton] at this
      omega
    rw [List.getElem?_append_left hl] at hk
    exact ⟨hk, X.mu k hl⟩
  have new : ∀ {k : Nat} {c : Ob}, (o.add q b u).h[k]? = some c → k = o.h.length → c = b ∧ (o.add q b u).mu k = q := fun {k c} hk z => by
    subst z
    have hk : (o.h ++ [b])[o.h.length]? = some c := hk
    rw [List.getElem?_append_right (Nat.le_refl _), Nat.sub_self] at hk
    exact ⟨(Option.some.inj hk).symm, if_pos rfl⟩
  have ne : ∀ {k : Nat} {c : Ob}, o.h[k]? = some c → c ≠ .gone → o.mu k ≠ q := fun {k c} hk hc z => Lv.there R ⟨k, c, hk, hc, rfl⟩ (by rw [z]; exact h)
  refine ⟨fun k c hk => ?_, fun j k c d h1 h2 n1 n2 e => ?_⟩
  · by_cases z : k = o.h.length
    · obtain ⟨rfl, e⟩ := new hk z
      rw [e]; exact hb
    · obtain ⟨hk, e⟩ := old hk z
      rw [e]
      have r := R.ob k c hk
      have st : ∀ {w : HO}, c ≠ .gone → o.H (o.mu k) = some w → (o.add q b u).H (o.mu k) = some w := fun {w} hc e => by
        show upd o.H q u (o.mu k) = some w
        rw [upd_ne (ne hk hc)]; exact e
      cases c with
      | lst l => obtain ⟨vs, h1, h2⟩ := r; exact ⟨vs, st (by simp) h1, h2.mono R X⟩
      | dic ks ws => obtain ⟨vs, h1, h2, h3⟩ := r; exact ⟨vs, st (by simp) h1, h2, h3.mono R X⟩
      | ins c ns ws => obtain ⟨C, dx, fs, h0, h1, h2, h3⟩ := r; exact ⟨C, dx, fs, h0, st (by simp) h1, h2, h3.mono R X⟩
      | gone => trivial
  · by_cases z1 : j = o.h.length
    · by_cases z2 : k = o.h.length
      · omega
      · obtain ⟨_, e1⟩ := new h1 z1
        obtain ⟨hk, e2⟩ := old h2 z2
        rw [e1, e2] at e
        exact absurd e.symm (ne hk n2)
    · obtain ⟨hj, e1⟩ := old h1 z1
      by_cases z2 : k = o.h.length
      · obtain ⟨_, e2⟩ := new h2 z2
        rw [e1, e2] at e
        exact absurd e (ne hj n1)
      · obtain ⟨hk, e2⟩ := old h2 z2
        rw [e1, e2] at e
        exact R.inj j k c d hj hk n1 n2 e
theorem Rel.addL (R : Rel K o) {q : Addr} {l : List W} {vs : List V} (h : o.H q = none) (hl : Rvs K o l vs) : Rel K (o.add q (.lst l) (.lst vs)) := R.add h ⟨vs, upd_same, hl.mono R (Ex.add h)⟩
theorem Rel.addD (R : Rel K o) {q : Addr} {ks : List Key} {ws : List W} {kvs : List (Key × V)} (h : o.H q = none) (hk : kvs.map (·.1) = ks) (hl : Rvs K o ws (kvs.map (·.2))) : Rel K (o.add q (.dic ks ws) (.dK kvs)) := R.add h ⟨kvs, upd_same, hk, hl.mono R (Ex.add h)⟩
/-- what stands at a place is changed -/
def Wo.put (o : Wo) (k : Nat) (b : Ob) (u : HO) : Wo := ⟨o.mu, o.h.set k b, upd o.H (o.mu k) u⟩
theorem Lv.put {k : Nat} {b c : Ob} {u : HO} {a : Addr} (hk : o.h[k]? = some c) (hc : c ≠ .gone) (h : Lv (o.put k b u) a) : Lv o a := by
  obtain ⟨j, d, hj, hd, rfl⟩ := h
  have hj : (o.h.set k b)[j]? = some d := hj
  by_cases z : j = k
  · subst z; exact ⟨j, c, hk, hc, rfl⟩
  · rw [List.getElem?_set_ne (Ne.symm z)] at hj
    exact ⟨j, d, hj, hd, rfl⟩
theorem Ex.put {k : Nat} {b c : Ob} {u : HO} (hk : o.h[k]? = some c) (hc : c ≠ .gone) : Ex o (o.put k b u) := by
  refine ⟨by show _ ≤ (o.h.set k b).length; simp, fun _ _ => rfl, fun a w e n => ⟨?_, fun l => n (l.put hk hc)⟩⟩
  show upd o.H (o.mu k) u a = some w
  rw [upd_ne fun z => n ⟨k, c, hk, hc, z.symm⟩]; exact e
theorem Rel.put (R : Rel K o) {k : Nat} {b c : Ob} {u : HO} (hk : o.h[k]? = some c) (hc : c ≠ .gone) (hb : Ro K (o.put k b u) (o.mu k) b) : Rel K (o.put k b u) := by
  have X : Ex o (o.put k b u) := Ex.put hk hc
  have old : ∀ {j : Nat} {d : Ob}, (o.put k b u).h[j]? = some d → j ≠ k → o.h[j]? = some d := fun {j d} hj z => by
    have hj : (o.h.set k b)[j]? = some d := hj
    rw [List.getElem?_set_ne (Ne.symm z)] at hj
    exact hj
  refine ⟨fun j d hj => ?_, fun i j d e h1 h2 n1 n2 q => ?_⟩
  · by_cases z : j = k
    · subst z
      have hl := (List.getElem?_eq_some_iff.mp hk).1
      have hj : (o.h.set j b)[j]? = some d := hj
      rw [List.getElem?_set_self hl] at hj
      cases hj
      exact hb
    · have hj := old hj z
      have r := R.ob j d hj
      have st : ∀ {w : HO}, d ≠ .gone → o.H (o.mu j) = some w → (o.put k b u).H (o.mu j) = some w := fun {w} hd e => by
        show upd o.H (o.mu k) u (o.mu j) = some w
        rw [upd_ne fun q => z (R.inj j k d c hj hk hd hc q)]; exact e
      cases d with
      | lst l => obtain ⟨vs, h1, h2⟩ := r; exact ⟨vs, st (by simp) h1, h2.mono R X⟩
      | dic ks ws => obtain ⟨vs, h1, h2, h3⟩ := r; exact ⟨vs, st (by simp) h1, h2, h3.mono R X⟩
      | ins c ns ws => obtain ⟨C, dx, fs, h0, h1, h2, h3⟩ := r; exact ⟨C, dx, fs, h0, st (by simp) h1, h2, h3.mono R X⟩
      | gone => trivial
  · have ex : ∀ {j : Nat} {d : Ob}, (o.put k b u).h[j]? = some d → d ≠ .gone → ∃ d', o.h[j]? = some d' ∧ d' ≠ .gone := fun {j d} hj n => by
      by_cases z : j = k
      · subst z; exact ⟨c, hk, hc⟩
      · exact ⟨d, old hj z, n⟩
    obtain ⟨d', h1', n1'⟩ := ex h1 n1
    obtain ⟨e', h2', n2'⟩ := ex h2 n2
    exact R.inj i j d' e' h1' h2' n1' n2' q
theorem Rel.putL (R : Rel K o) {k : Nat} {c : Ob} {l : List W} {vs : List V} (hk : o.h[k]? = some c) (hc : c ≠ .gone) (hl : Rvs K o l vs) : Rel K (o.put k (.lst l) (.lst vs)) := R.put hk hc ⟨vs, upd_same, hl.mono R (Ex.put hk hc)⟩
theorem Rel.putD (R : Rel K o) {k : Nat} {c : Ob} {ks : List Key} {ws : List W} {kvs : List (Key × V)} (hk : o.h[k]? = some c) (hc : c ≠ .gone) (h1 : kvs.map (·.1) = ks) (hl : Rvs K o ws (kvs.map (·.2))) : Rel K (o.put k (.dic ks ws) (.dK kvs)) := R.put hk hc ⟨kvs, upd_same, h1, hl.mono R (Ex.put hk hc)⟩
/-- a place is given up: what stands there changes no more -/
def Wo.ice (o : Wo) (k : Nat) : Wo := ⟨o.mu, o.h.set k .gone, o.H⟩
theorem Lv.ice {k : Nat} {a : Addr} (h : Lv (o.ice k) a) : ∃ j b, j ≠ k ∧ o.h[j]? = some b ∧ b ≠ .gone ∧ o.mu j = a := by
  obtain ⟨j, d, hj, hd, e⟩ := h
  have hj : (o.h.set k .gone)[j]? = some d := hj
  by_cases z : j = k
  · subst z
    have hl := (List.getElem?_eq_some_iff.mp hj).1
    rw [List.length_set] at hl
    rw [List.getElem?_set_self hl] at hj
    cases hj
    exact absurd rfl hd
  · rw [List.getElem?_set_ne (Ne.symm z)] at hj
    exact ⟨j, d, z, hj, hd, e⟩
theorem Ex.ice {k : Nat} : Ex o (o.ice k) := by
  refine ⟨by show _ ≤ (o.h.set k .gone).length; simp, fun _ _ => rfl, fun a w e n => ⟨e, fun l => ?_⟩⟩
  obtain ⟨j, b, _, h1, h2, h3⟩ := l.ice
  exact n ⟨j, b, h1, h2, h3⟩
theorem Rel.ice (R : Rel K o) {k : Nat} : Rel K (o.ice k) := by
  have X : Ex o (o.ice k) := Ex.ice
  have old : ∀ {j : Nat} {d : Ob}, (o.ice k).h[j]? = some d → d ≠ .gone → o.h[j]? = some d := fun {j d} hj n => by
    have hj : (o.h.set k .gone)[j]? = some d := hj
    by_cases z : j = k
    · subst z
      have hl := (List.getElem?_eq_some_iff.mp hj).1
      rw [List.length_set] at hl
      rw [List.getElem?_set_self hl] at hj
      cases hj
      exact absurd rfl n
    · rw [List.getElem?_set_ne (Ne.symm z)] at hj
      exact hj
  refine ⟨fun j d hj => ?_, fun i j d e h1 h2 n1 n2 q => R.inj i j d e (old h1 n1) (old h2 n2) n1 n2 q⟩
  cases d with
  | lst l => obtain ⟨vs, h1, h2⟩ := R.ob j _ (old hj (by simp)); exact ⟨vs, h1, h2.mono R X⟩
  | dic ks ws => obtain ⟨vs, h1, h2, h3⟩ := R.ob j _ (old hj (by simp)); exact ⟨vs, h1, h2, h3.mono R X⟩
  | ins c ns ws => obtain ⟨C, dx, fs, h0, h1, h2, h3⟩ := R.ob j _ (old hj (by simp)); exact ⟨C, dx, fs, h0, h1, h2, h3.mono R X⟩
  | gone => trivial
theorem Rv.iceL (R : Rel K o) {k : Nat} {l : List W} (hk : o.h[k]? = some (.lst l)) : Rv K (o.ice k) (.tl l) (.ref (o.mu k)) := by
  obtain ⟨vs, h1, h2⟩ := R.ob k _ hk
  unfold Rv
  refine ⟨_, vs, rfl, h1, fun z => ?_, h2.mono R Ex.ice⟩
  obtain ⟨j, b, n, q1, q2, q3⟩ := z.ice
  exact n (R.inj j k b _ q1 hk q2 (by simp) q3)
theorem Rv.iceD (R : Rel K o) {k : Nat} {ks : List Key} {ws : List W} (hk : o.h[k]? = some (.dic ks ws)) : Rv K (o.ice k) (.dv ks ws) (.ref (o.mu k)) := by
  obtain ⟨vs, h1, h0, h2⟩ := R.ob k _ hk
  unfold Rv
  refine ⟨_, vs, rfl, .inl h1, fun z => ?_, h0, h2.mono R Ex.ice⟩
  obtain ⟨j, b, n, q1, q2, q3⟩ := z.ice
  exact n (R.inj j k b _ q1 hk q2 (by simp) q3)
/-! ### rows of values -/
theorem Rvs.len : ∀ {l : List W} {vs : List V}, Rvs K o l vs → vs.length = l.length
  | [], _, h => by unfold Rvs at h; rw [h]; rfl
  | w :: l, _, h => by unfold Rvs at h; obtain ⟨v, r, rfl, _, h2⟩ := h; rw [List.length_cons, List.length_cons, Rvs.len h2]
theorem Rvs.get : ∀ {l : List W} {vs : List V} {i : Nat} {w : W}, Rvs K o l vs → l[i]? = some w → ∃ v, vs[i]? = some v ∧ Rv K o w v
  | [], _, _, _, _, e => by simp at e
  | x :: l, _, 0, w, h, e => by unfold Rvs at h; obtain ⟨v, r, rfl, h1, h2⟩ := h; cases e; exact ⟨v, rfl, h1⟩
  | x :: l, _, i + 1, w, h, e => by unfold Rvs at h; obtain ⟨v, r, rfl, h1, h2⟩ := h; obtain ⟨u, q1, q2⟩ := Rvs.get (l := l) (i := i) (w := w) h2 (by simpa using e); exact ⟨u, by simpa using q1, q2⟩
theorem Rvs.nil : Rvs K o [] [] := by unfold Rvs; rfl
theorem Rvs.cons {w : W} {v : V} {l : List W} {vs : List V} (h : Rv K o w v) (t : Rvs K o l vs) : Rvs K o (w :: l) (v :: vs) := by unfold Rvs; exact ⟨v, vs, rfl, h, t⟩
theorem Rvs.app : ∀ {l m : List W} {vs us : List V}, Rvs K o l vs → Rvs K o m us → Rvs K o (l ++ m) (vs ++ us)
  | [], _, _, _, h, t => by unfold Rvs at h; rw [h]; exact t
  | w :: l, m, _, us, h, t => by unfold Rvs at h; obtain ⟨v, r, rfl, h1, h2⟩ := h; exact Rvs.cons h1 (Rvs.app h2 t)
theorem Rvs.take : ∀ {l : List W} {vs : List V} (n : Nat), Rvs K o l vs → Rvs K o (l.take n) (vs.take n)
  | [], _, n, h => by unfold Rvs at h; rw [h, List.take_nil, List.take_nil]; exact Rvs.nil
  | w :: l, _, 0, h => by rw [List.take_zero, List.take_zero]; exact Rvs.nil
  | w :: l, _, n + 1, h => by unfold Rvs at h; obtain ⟨v, r, rfl, h1, h2⟩ := h; exact Rvs.cons h1 (Rvs.take n h2)
theorem Rvs.drop : ∀ {l : List W} {vs : List V} (n : Nat), Rvs K o l vs → Rvs K o (l.drop n) (vs.drop n)
  | [], _, n, h => by unfold Rvs at h; rw [h, List.drop_nil, List.drop_nil]; exact Rvs.nil
  | w :: l, _, 0, h => h
  | w :: l, _, n + 1, h => by unfold Rvs at h; obtain ⟨v, r, rfl, h1, h2⟩ := h; exact Rvs.drop n h2
theorem Rvs.set {x : W} {y : V} (hx : Rv K o x y) : ∀ {l : List W} {vs : List V} (i : Nat), Rvs K o l vs → Rvs K o (l.set i x) (vs.set i y)
  | [], _, n, h => by unfold Rvs at h; rw [h]; exact Rvs.nil
  | w :: l, _, 0, h => by unfold Rvs at h; obtain ⟨v, r, rfl, h1, h2⟩ := h; exact Rvs.cons hx h2
  | w :: l, _, n + 1, h => by unfold Rvs at h; obtain ⟨v, r, rfl, h1, h2⟩ := h; exact Rvs.cons h1 (Rvs.set hx n h2)
/-! ### the frame's names -/
abbrev Env' := List (Option W)
def RvO (K : PySem.W.Frag) (o : Wo) : Option W → Option V → Prop
  | some w, s => ∃ v, s = some v ∧ Rv K o w v
  | none, s => s = none
def Re (K : PySem.W.Frag) (o : Wo) : Env' → St → Prop
  | [], s => s = []
  | w :: r, s => ∃ x t, s = x :: t ∧ RvO K o w x ∧ Re K o r t
theorem RvO.mono (R : Rel K o) (X : Ex o p) : ∀ {w : Option W} {s : Option V}, RvO K o w s → RvO K p w s
  | some w, _, ⟨v, e, h⟩ => ⟨v, e, h.mono R X⟩
  | none, _, h => h
theorem Re.mono (R : Rel K o) (X : Ex o p) : ∀ {r : Env'} {s : St}, Re K o r s → Re K p r s
  | [], _, h => h
  | w :: r, _, ⟨x, t, e, h1, h2⟩ => ⟨x, t, e, h1.mono R X, Re.mono R X h2⟩
theorem Re.get : ∀ {r : Env'} {s : St} {i : Nat} {w : W}, Re K o r s → r[i]? = some (some w) → ∃ v, s[i]? = some (some v) ∧ Rv K o w v
  | [], _, _, _, _, e => by simp at e
  | x :: r, _, 0, w, ⟨y, t, rfl, h1, h2⟩, e => by cases e; obtain ⟨v, rfl, q⟩ := h1; exact ⟨v, rfl, q⟩
  | x :: r, _, i + 1, w, ⟨y, t, rfl, h1, h2⟩, e => by obtain ⟨u, q1, q2⟩ := Re.get (r := r) (i := i) (w := w) h2 (by simpa using e); exact ⟨u, by simpa using q1, q2⟩
theorem Re.set {w : W} {v : V} (q : Rv K o w v) : ∀ {r : Env'} {s : St} (i : Nat), Re K o r s → Re K o (r.set i (some w)) (s.set i (some v))
  | [], _, _, h => by rw [show _ = [] from h]; rfl
  | x :: r, _, 0, ⟨y, t, rfl, h1, h2⟩ => ⟨_, _, rfl, ⟨v, rfl, q⟩, h2⟩
  | x :: r, _, i + 1, ⟨y, t, rfl, h1, h2⟩ => ⟨_, _, rfl, h1, Re.set q i h2⟩
theorem Re.front : ∀ {r : Env'} {s : St} (n : Nat), Re K o r s → Re K o (List.replicate n none ++ r) (List.replicate n none ++ s)
  | _, _, 0, h => h
  | _, _, n + 1, h => ⟨none, _, rfl, rfl, Re.front n h⟩
theorem Re.args : ∀ {ws : List W} {vs : List V} (n : Nat), Rvs K o ws vs → Re K o (ws.map some ++ List.replicate n none) (vs.map some ++ List.replicate n none)
  | [], _, n, h => by
    unfold Rvs at h; rw [h]
    induction n with
    | zero => rfl
    | succ n ih => exact ⟨none, _, rfl, rfl, ih⟩
  | w :: l, _, n, h => by unfold Rvs at h; obtain ⟨v, r, rfl, h1, h2⟩ := h; exact ⟨_, _, rfl, ⟨v, rfl, h1⟩, Re.args n h2⟩
end
/-! ### what a body does -/
inductive Rs (α : Type) where
  | ok (a : α) (h : List Ob) | ex (c : Str) (h : List Ob) | bad
abbrev M (α : Type) := List Ob → Rs α
def bd {α β : Type} (f : M α) (g : α → M β) : M β := fun h => match f h with
  | .ok a h' => g a h'
  | .ex c h' => .ex c h'
  | .bad => .bad
def pr {α : Type} (a : α) : M α := fun h => .ok a h
def no {α : Type} : M α := fun _ => .bad
def gd {α : Type} (p : Prop) [Decidable p] (m : M α) : M α := fun h => if p then m h else .bad
structure Cg where
  K : PySem.W.Frag
  mg : Str → Option Value
  E : XK
def Ps {α β : Type} (c : Cg) (r : Wo → α → β → Prop) (o : Wo) (R : Rs α) (Q : β → Hp → Prop) : Prop := match R with
  | .ok a h' => ∀ p b, p.h = h' → Ex o p → Rel c.K p → r p a b → Q b p.H
  | .ex x h' => ∃ u, c.mg x = some u ∧ ∀ p, p.h = h' → Ex o p → Rel c.K p → c.E u none p.H
  | .bad => False
def tG {α β : Type} (c : Cg) (r : Wo → α → β → Prop) (f : Env' → M α) (σ : St) (H : Hp) (Q : β → Hp → Prop) : Prop := ∃ o ρ, o.H = H ∧ Rel c.K o ∧ Re c.K o ρ σ ∧ Ps c r o (f ρ o.h) Q
abbrev tM (c : Cg) (f : Env' → M W) : TE := tG c (Rv c.K) f
abbrev tT (c : Cg) (f : Env' → M Bool) : TT := tG c (fun _ a b => a = b) f
abbrev tA (c : Cg) (f : Env' → M (List W)) : TA := tG c (Rvs c.K) f
section
variable {c : Cg} {o p : Wo} {α β γ δ : Type} {r : Wo → α → β → Prop} {r2 : Wo → γ → δ → Prop}
theorem Ps.after {R : Rs α} {Q : β → Hp → Prop} (X : Ex o p) (h : Ps c r o R Q) : Ps c r p R Q := by
  cases R with
  | ok a h' => exact fun q b e X2 Rq rq => h q b e (X.trans X2) Rq rq
  | ex x h' => obtain ⟨u, hu, h⟩ := h; exact ⟨u, hu, fun q e X2 Rq => h q e (X.trans X2) Rq⟩
  | bad => exact h
theorem Ps.bd {f : M α} {g : α → M γ} {Q : δ → Hp → Prop} {N : β → Hp → Prop} (h : Ps c r2 o (bd f g o.h) Q) (k : ∀ p a b, Ex o p → Rel c.K p → r p a b → Ps c r2 p (g a p.h) Q → N b p.H) : Ps c r o (f o.h) N := by
  unfold L2.bd at h
  cases e : f o.h with
  | ok a h' =>
    rw [e] at h
    intro p b hp X R rb
    subst hp
    exact k p a b X R rb (h.after X)
  | ex x h' =>
    rw [e] at h
    exact h
  | bad =>
    rw [e] at h
    exact h
theorem Ps.pr {a : α} {Q : β → Hp → Prop} {b : β} (h : Ps c r o (pr a o.h) Q) (R : Rel c.K o) (hb : r o a b) : Q b o.H := h o b rfl (Ex.refl _) R hb
/-- .. in a later world with the same places -/
theorem Ps.at {a : α} {h' : List Ob} {Q : β → Hp → Prop} {b : β} (h : Ps c r o (.ok a h') Q) (e : p.h = h') (X : Ex o p) (R : Rel c.K p) (hb : r p a b) : Q b p.H := h p b e X R hb
theorem Ps.gd {P : Prop} [Decidable P] {m : M α} {Q : β → Hp → Prop} (h : Ps c r o (gd P m o.h) Q) : P ∧ Ps c r o (m o.h) Q := by
  unfold L2.gd at h
  by_cases q : P
  · rw [if_pos q] at h; exact ⟨q, h⟩
  · rw [if_neg q] at h; exact h.elim
end
end L2
set_option maxHeartbeats 1000000
/-! the mirror: expressions -/
namespace L2
open PySem PySem.Spec PyProof.Rows
abbrev cg (X : Cx) (E : XK) : Cg := ⟨X.K, X.mg, E⟩
def tF (c : Cg) (f : Env' → M (List W)) : TE := fun σ H Q => tG c (Rvs c.K) f σ H fun vs H1 => ∀ q, H1 q = none → Q (.ref q) (upd H1 q (.lst vs))

structure JE (X : Cx) (E : XK) (e : Expr) (f : Env' → M W) : Prop where
  h : PE X e (tM (cg X E) f)
structure JT (X : Cx) (E : XK) (e : Expr) (f : Env' → M Bool) : Prop where
  h : PT X e (tT (cg X E) f)
structure JW (X : Cx) (E : XK) (e : Expr) (f : Env' → M Bool) : Prop where
  h : PW X e (tT (cg X E) f)
structure JA (X : Cx) (E : XK) (es : List Expr) (f : Env' → M (List W)) : Prop where
  h : PA X es (tA (cg X E) f)
structure JF (X : Cx) (E : XK) (e : Expr) (f : Env' → M (List W)) : Prop where
  h : PE X e (tF (cg X E) f)
theorem PE.imp {X : Cx} {E : XK} {e : Expr} {t : TE} {f : Env' → M W} (h : PE X e t) (k : ∀ σ H Q, tM (cg X E) f σ H Q → t σ H Q) : JE X E e f := ⟨fun pins s σ H Q I q => h pins s σ H Q I (k σ H Q q)⟩
theorem PE.impF {X : Cx} {E : XK} {e : Expr} {t : TE} {f : Env' → M (List W)} (h : PE X e t) (k : ∀ σ H Q, tF (cg X E) f σ H Q → t σ H Q) : JF X E e f := ⟨fun pins s σ H Q I q => h pins s σ H Q I (k σ H Q q)⟩
theorem PT.imp {X : Cx} {E : XK} {e : Expr} {t : TT} {f : Env' → M Bool} (h : PT X e t) (k : ∀ σ H Q, tT (cg X E) f σ H Q → t σ H Q) : JT X E e f := ⟨fun pins s σ H Q I q => h pins s σ H Q I (k σ H Q q)⟩
theorem PW.imp {X : Cx} {E : XK} {e : Expr} {t : TT} {f : Env' → M Bool} (h : PW X e t) (k : ∀ σ H Q, tT (cg X E) f σ H Q → t σ H Q) : JW X E e f := ⟨fun w pins s σ H Q I q => h w pins s σ H Q I (k σ H Q q)⟩
theorem PA.imp {X : Cx} {E : XK} {e : List Expr} {t : TA} {f : Env' → M (List W)} (h : PA X e t) (k : ∀ σ H Q, tA (cg X E) f σ H Q → t σ H Q) : JA X E e f := ⟨fun pos pins s σ H Q I q => h pos pins s σ H Q I (k σ H Q q)⟩
theorem jw_pt {X : Cx} {E : XK} {e : Expr} {f : Env' → M Bool} (q : JW X E e f) : JT X E e f := ⟨(q.h).pt⟩
section
variable {X : Cx} {E : XK}
/-! ### names, constants -/
def mVar (i : Nat) : Env' → M W := fun ρ => match ρ[i]? with
  | some (some w) => pr w
  | _ => no
def mC (w : W) : Env' → M W := fun _ => pr w
theorem tM_var {i : Nat} {σ : St} {H : Hp} {Q : VK} (h : tM (cg X E) (mVar i) σ H Q) : tVar i σ H Q := by
  obtain ⟨o, ρ, rfl, R, S, h⟩ := h
  unfold mVar at h
  cases e : ρ[i]? with
  | none => rw [e] at h; exact h.elim
  | some x =>
    cases x with
    | none => rw [e] at h; exact h.elim
    | some w =>
      rw [e] at h
      obtain ⟨v, e1, r⟩ := S.get e
      exact ⟨v, e1, h.pr R r⟩
theorem me_var (i : Nat) {x : Str} {pos : Pos} (hN : X.N[i]? = some x := by rfl) (hv : Vis X.env.scope x := by first | exact Or.inl rfl | exact Or.inr (Or.inl rfl) | exact Or.inr (Or.inr rfl)) (hd : (x == ("__debug__" : Str)) = false := by decide)
    (hcd : (x == ("__classdict__" : Str)) = false := by decide) : JE X E (.Name x pos) (mVar i) := (pv i hN hv hd hcd).imp fun _ _ _ h => tM_var h
theorem tM_c {w : W} {v : V} (hr : ∀ o, Rv X.K o w v) {σ : St} {H : Hp} {Q : VK} (h : tM (cg X E) (mC w) σ H Q) : tC v σ H Q := by
  obtain ⟨o, ρ, rfl, R, S, h⟩ := h
  exact Ps.pr (c := cg X E) h R (hr o)
theorem me_int {i j pos} : JE X E (.Constant (.int i) j pos) (mC (.int i)) := pe_int.imp fun _ _ _ h => tM_c (fun o => by unfold Rv; rfl) h
theorem me_bl {i j pos} : JE X E (.Constant (.bool i) j pos) (mC (.bl i)) := pe_bl.imp fun _ _ _ h => tM_c (fun o => by unfold Rv; rfl) h
theorem me_str {i j pos} : JE X E (.Constant (.str i) j pos) (mC (.str i)) := pe_str.imp fun _ _ _ h => tM_c (fun o => by unfold Rv; rfl) h
theorem me_non {j pos} : JE X E (.Constant .none j pos) (mC .non) := pe_non.imp fun _ _ _ h => tM_c (fun o => by unfold Rv; rfl) h
/-- a name of the module -/
theorem me_glob {x : Str} {w : W} {v : V} {u : Value} {pos : Pos} (hg : Gl X x) (hm : X.mg x = some u) (r : RelV v u) (hr : ∀ o, Rv X.K o w v) (hd : (x == ("__debug__" : Str)) = false := by decide) : JE X E (.Name x pos) (mC w) :=
  (pe_glob hg hm r hd).imp fun _ _ _ h => tM_c hr h
/-! ### two places -/
def m2 (f : W → W → M W) (fa fb : Env' → M W) : Env' → M W := fun ρ => bd (fa ρ) fun x => bd (fb ρ) fun y => f x y
def OpM (X : Cx) (E : XK) (r : R2) (f : W → W → M W) : Prop := ∀ (o : Wo) (x y : W) (vx vy : V) (Q : VK), Rel X.K o → Rv X.K o x vx → Rv X.K o y vy → Ps (cg X E) (Rv X.K) o (f x y o.h) Q → r vx vy o.H Q
theorem tM_2 {r : R2} {f : W → W → M W} (hf : OpM X E r f) {fa fb : Env' → M W} {σ : St} {H : Hp} {Q : VK} (h : tM (cg X E) (m2 f fa fb) σ H Q) : tOp r (tM (cg X E) fa) (tM (cg X E) fb) σ H Q := by
  obtain ⟨o, ρ, rfl, R, S, h⟩ := h
  exact ⟨o, ρ, rfl, R, S, Ps.bd h fun p x vx e1 R1 r1 h1 => ⟨p, ρ, rfl, R1, S.mono R e1, Ps.bd h1 fun q y vy e2 R2 r2 h2 => hf q x y vx vy Q R2 (r1.mono R1 e2) r2 h2⟩⟩
theorem me_op {a b : Expr} {pos : Pos} {op : Operator} {r : R2} {f : W → W → M W} {fa fb : Env' → M W} (ho : OpR X (binaryOp op) r) (hf : OpM X E r f) (ha : JE X E a fa) (hb : JE X E b fb) :
    JE X E (.BinOp a op b pos) (m2 f fa fb) := (pe_op ho ha.h hb.h).imp fun _ _ _ h => tM_2 hf h
theorem me_cmp {a b : Expr} {pos : Pos} {op : CmpOp} {r : R2} {f : W → W → M W} {fa fb : Env' → M W} (ho : OpR X (compareOp op) r) (hf : OpM X E r f) (ha : JE X E a fa) (hb : JE X E b fb) (hm : behindInMarks op b = false) :
    JE X E (.Compare a [op] [b] pos) (m2 f fa fb) := (pe_cmpR ho ha.h hb.h hm).imp fun _ _ _ h => tM_2 hf h
/-- a truth that a value is -/
def asB (w : W) : M Bool := match w with
  | .bl b => pr b
  | _ => no
def mB (f : Env' → M W) : Env' → M Bool := fun ρ => bd (f ρ) asB
theorem tM_b {f : Env' → M W} {σ : St} {H : Hp} {Q : Bool → Hp → Prop} (h : tT (cg X E) (mB f) σ H Q) : tM (cg X E) f σ H fun x H' => ∃ k, x = .bl k ∧ Q k H' := by
  obtain ⟨o, ρ, rfl, R, S, h⟩ := h
  refine ⟨o, ρ, rfl, R, S, Ps.bd h fun p x vx e1 R1 r1 h1 => ?_⟩
  unfold asB at h1
  split at h1
  · rename_i b
    unfold Rv at r1
    exact ⟨b, r1, h1.pr R1 rfl⟩
  · exact h1.elim
theorem mt_cmp {a b : Expr} {pos : Pos} {op : CmpOp} {r : R2} {f : W → W → M W} {fa fb : Env' → M W} (ho : OpR X (compareOp op) r) (hf : OpM X E r f) (ha : JE X E a fa) (hb : JE X E b fb) (hm : behindInMarks op b = false) :
    JT X E (.Compare a [op] [b] pos) (mB (m2 f fa fb)) := (pt_cmpR ho ha.h hb.h hm).imp fun _ _ _ h => tM_2 hf (tM_b h)
theorem mt_val {e : Expr} {f : Env' → M W} (h : JE X E e f) (he : ∀ whole, isTrue e X.env whole = (do let v ← whole; standAt e.pos; holding [v] (truthy v)) := by intro _; rfl) : JT X E e (mB f) :=
  (pt_val h.h he).imp fun _ _ _ h => tM_b h
/-! ### and, or, not -/
def mAnd (f g : Env' → M Bool) : Env' → M Bool := fun ρ => bd (f ρ) fun b => if b = true then g ρ else pr false
def mOr (f g : Env' → M Bool) : Env' → M Bool := fun ρ => bd (f ρ) fun b => if b = true then pr true else g ρ
def mNot (f : Env' → M Bool) : Env' → M Bool := fun ρ => bd (f ρ) fun b => pr (!b)
variable {a b : Expr} {rest : List Expr} {pos : Pos} {f g : Env' → M Bool}
theorem tT_and {σ : St} {H : Hp} {Q : Bool → Hp → Prop} (h : tT (cg X E) (mAnd f g) σ H Q) : tAnd (tT (cg X E) f) (tT (cg X E) g) σ H Q := by
  obtain ⟨o, ρ, rfl, R, S, h⟩ := h
  refine ⟨o, ρ, rfl, R, S, Ps.bd h fun p x vx e1 R1 r1 h1 => ?_⟩
  subst r1
  cases x with
  | true => exact iteT ⟨p, ρ, rfl, R1, S.mono R e1, h1⟩
  | false => exact iteF (h1.pr R1 rfl)
theorem tT_or {σ : St} {H : Hp} {Q : Bool → Hp → Prop} (h : tT (cg X E) (mOr f g) σ H Q) : tOr (tT (cg X E) f) (tT (cg X E) g) σ H Q := by
  obtain ⟨o, ρ, rfl, R, S, h⟩ := h
  refine ⟨o, ρ, rfl, R, S, Ps.bd h fun p x vx e1 R1 r1 h1 => ?_⟩
  subst r1
  cases x with
  | false => exact iteF ⟨p, ρ, rfl, R1, S.mono R e1, h1⟩
  | true => exact iteT (h1.pr R1 rfl)
theorem mt_not (ha : JT X E a f) : JT X E (.UnaryOp .Not a pos) (mNot f) := (pt_not ha.h).imp fun σ H Q h => by
  obtain ⟨o, ρ, rfl, R, S, h⟩ := h
  refine ⟨o, ρ, rfl, R, S, Ps.bd h fun p x vx e1 R1 r1 h1 => ?_⟩
  subst r1
  exact h1.pr R1 rfl
theorem mw_and1 (ha : JT X E a f) : JW X E (.BoolOp .And [a] pos) f := ⟨pw_and1 ha.h⟩
theorem mw_or1 (ha : JT X E a f) : JW X E (.BoolOp .Or [a] pos) f := ⟨pw_or1 ha.h⟩
theorem mw_and (ha : JT X E a f) (hb : JW X E (.BoolOp .And (b :: rest) pos) g) : JW X E (.BoolOp .And (a :: b :: rest) pos) (mAnd f g) := (pw_and ha.h hb.h).imp fun _ _ _ h => tT_and h
theorem mw_or (ha : JT X E a f) (hb : JW X E (.BoolOp .Or (b :: rest) pos) g) : JW X E (.BoolOp .Or (a :: b :: rest) pos) (mOr f g) := (pw_or ha.h hb.h).imp fun _ _ _ h => tT_or h
/-- .. as values (truths) -/
def mAndV (f g : Env' → M W) : Env' → M W := fun ρ => bd (f ρ) fun w => bd (asB w) fun b => if b = true then g ρ else pr (.bl false)
def mOrV (f g : Env' → M W) : Env' → M W := fun ρ => bd (f ρ) fun w => bd (asB w) fun b => if b = true then pr (.bl true) else g ρ
def mNotV (f : Env' → M W) : Env' → M W := fun ρ => bd (f ρ) fun w => bd (asB w) fun b => pr (.bl (!b))
theorem asB_ps {α β : Type} {r : Wo → α → β → Prop} {o : Wo} {w : W} {v : V} {k : Bool → M α} {Q : β → Hp → Prop} (hr : Rv X.K o w v) (h : Ps (cg X E) r o (bd (asB w) k o.h) Q) : ∃ b, w = .bl b ∧ v = .bl b ∧ Ps (cg X E) r o (k b o.h) Q := by
  cases w with
  | bl b => unfold Rv at hr; exact ⟨b, rfl, hr, h⟩
  | _ => exact h.elim
variable {u v : Env' → M W}
theorem me_one {op} (h : JE X E a u) : JE X E (.BoolOp op [a] pos) u := ⟨pe_one h.h⟩
theorem me_and (ha : JE X E a u) (hb : JE X E (.BoolOp .And (b :: rest) pos) v) : JE X E (.BoolOp .And (a :: b :: rest) pos) (mAndV u v) := (pe_and ha.h hb.h).imp fun σ H Q h => by
  obtain ⟨o, ρ, rfl, R, S, h⟩ := h
  refine ⟨o, ρ, rfl, R, S, Ps.bd h fun p x vx e1 R1 r1 h1 => ?_⟩
  obtain ⟨k, rfl, rfl, h2⟩ := asB_ps r1 h1
  refine ⟨k, rfl, ?_⟩
  cases k with
  | true => exact iteT ⟨p, ρ, rfl, R1, S.mono R e1, h2⟩
  | false => exact iteF (h2.pr R1 (by unfold Rv; rfl))
theorem me_not (ha : JE X E a u) : JE X E (.UnaryOp .Not a pos) (mNotV u) := (pe_not ha.h).imp fun σ H Q h => by
  obtain ⟨o, ρ, rfl, R, S, h⟩ := h
  refine ⟨o, ρ, rfl, R, S, Ps.bd h fun p x vx e1 R1 r1 h1 => ?_⟩
  obtain ⟨k, rfl, rfl, h2⟩ := asB_ps r1 h1
  exact ⟨k, rfl, h2.pr R1 (by unfold Rv; rfl)⟩
def mIf (f : Env' → M Bool) (u v : Env' → M W) : Env' → M W := fun ρ => bd (f ρ) fun b => if b = true then u ρ else v ρ
theorem me_ifExp {c : Expr} (hc : JT X E c f) (ha : JE X E a u) (hb : JE X E b v) : JE X E (.IfExp c a b pos) (mIf f u v) := (pe_ifExp hc.h ha.h hb.h).imp fun σ H Q h => by
  obtain ⟨o, ρ, rfl, R, S, h⟩ := h
  refine ⟨o, ρ, rfl, R, S, Ps.bd h fun p x vx e1 R1 r1 h1 => ?_⟩
  subst r1
  cases x with
  | true => exact iteT ⟨p, ρ, rfl, R1, S.mono R e1, h1⟩
  | false => exact iteF ⟨p, ρ, rfl, R1, S.mono R e1, h1⟩
/-! ### one place -/
def m1 (f : W → M W) (fa : Env' → M W) : Env' → M W := fun ρ => bd (fa ρ) f
def negW (w : W) : M W := match w with
  | .int i => pr (.int (-i))
  | _ => no
theorem me_neg (ha : JE X E a u) : JE X E (.UnaryOp .USub a pos) (m1 negW u) := (pe_un un_neg ha.h).imp fun σ H Q h => by
  obtain ⟨o, ρ, rfl, R, S, h⟩ := h
  refine ⟨o, ρ, rfl, R, S, Ps.bd h fun p x vx e1 R1 r1 h1 => ?_⟩
  unfold negW at h1
  split at h1
  · unfold Rv at r1
    exact ⟨_, r1, h1.pr R1 (by unfold Rv; rfl)⟩
  · exact h1.elim
/-! ### argument lists, tuples, lists -/
def mNil : Env' → M (List W) := fun _ => pr []
def mCons (fa : Env' → M W) (fr : Env' → M (List W)) : Env' → M (List W) := fun ρ => bd (fa ρ) fun x => bd (fr ρ) fun l => pr (x :: l)
variable {es : List Expr} {l : Env' → M (List W)} {e : Expr}
theorem ma_nil : JA X E [] mNil := pa_nil.imp fun σ H Q h => by
  obtain ⟨o, ρ, rfl, R, S, h⟩ := h
  exact h.pr R Rvs.nil
theorem ma_cons (ha : JE X E e u) (hr : JA X E es l) (hs : starEach (e :: es) X.env = (false, eval e X.env) :: starEach es X.env := by rfl) : JA X E (e :: es) (mCons u l) := (pa_cons ha.h hr.h hs).imp fun σ H Q h => by
  obtain ⟨o, ρ, rfl, R, S, h⟩ := h
  exact ⟨o, ρ, rfl, R, S, Ps.bd h fun p x vx e1 R1 r1 h1 => ⟨p, ρ, rfl, R1, S.mono R e1, Ps.bd h1 fun q y vy e2 R2 r2 h2 => h2.pr R2 (Rvs.cons (r1.mono R1 e2) r2)⟩⟩
def tupW (l : List W) : M W := gd (l.length ≤ sizeLine) (pr (.tup l))
def mTup (l : Env' → M (List W)) : Env' → M W := fun ρ => bd (l ρ) tupW
theorem Rv.newT {K : PySem.W.Frag} {o : Wo} (R : Rel K o) {q : Addr} {l : List W} {vs : List V} (h : o.H q = none) (hl : Rvs K o l vs) : Rv K ⟨o.mu, o.h, upd o.H q (.tup vs)⟩ (.tup l) (.ref q) := by
  unfold Rv; exact ⟨q, vs, rfl, .of upd_same, hl.mono R (Ex.new h)⟩
theorem Rv.newL {K : PySem.W.Frag} {o : Wo} (R : Rel K o) {q : Addr} {l : List W} {vs : List V} (h : o.H q = none) (hl : Rvs K o l vs) : Rv K ⟨o.mu, o.h, upd o.H q (.lst vs)⟩ (.tl l) (.ref q) := by
  unfold Rv
  exact ⟨q, vs, rfl, upd_same, fun z => Lv.there R (show Lv o q from z) h, hl.mono R (Ex.new h)⟩
theorem me_tup {x1} (h : JA X E es l) : JE X E (.Tuple es x1 pos) (mTup l) := (pe_tup h.h).imp fun σ H Q h => by
  obtain ⟨o, ρ, rfl, R, S, h⟩ := h
  refine ⟨o, ρ, rfl, R, S, Ps.bd h fun p x vx e1 R1 r1 h1 => ?_⟩
  obtain ⟨hz, h1⟩ := h1.gd
  exact ⟨by rw [r1.len]; exact hz, fun q hq => Ps.at (p := ⟨p.mu, p.h, upd p.H q (.tup vx)⟩) h1 rfl (Ex.new hq) (R1.new hq) (Rv.newT R1 hq r1)⟩
/-- an expression that makes a new list -/
def mTl (l : Env' → M (List W)) : Env' → M W := fun ρ => bd (l ρ) fun x => pr (.tl x)
def newW (x : List W) : M W := fun h => .ok (.loc h.length) (h ++ [.lst x])
def mNew (l : Env' → M (List W)) : Env' → M W := fun ρ => bd (l ρ) newW
/-- .. as a list that will not change -/
theorem me_tl (h : JF X E e l) : JE X E e (mTl l) := h.h.imp fun σ H Q h => by
  obtain ⟨o, ρ, rfl, R, S, h⟩ := h
  exact ⟨o, ρ, rfl, R, S, Ps.bd h fun p x vx e1 R1 r1 h1 => fun q hq => Ps.at (p := ⟨p.mu, p.h, upd p.H q (.lst vx)⟩) h1 rfl (Ex.new hq) (R1.new hq) (Rv.newL R1 hq r1)⟩
/-- .. as one that may -/
theorem me_new (h : JF X E e l) : JE X E e (mNew l) := h.h.imp fun σ H Q h => by
  obtain ⟨o, ρ, rfl, R, S, h⟩ := h
  refine ⟨o, ρ, rfl, R, S, Ps.bd h fun p x vx e1 R1 r1 h1 => fun q hq => ?_⟩
  refine Ps.at (p := p.add q (.lst x) (.lst vx)) h1 rfl (Ex.add hq) (R1.addL hq r1) ?_
  unfold Rv
  exact ⟨by show _ < (p.h ++ [_]).length; simp, by show V.ref q = V.ref (if p.h.length = p.h.length then q else _); rw [if_pos rfl]⟩
def lenG (l : Env' → M (List W)) : Env' → M (List W) := fun ρ => bd (l ρ) fun x => gd (x.length ≤ sizeLine) (pr x)
theorem mf_lst (h : JA X E es l) : JF X E (.List es pos) (lenG l) := (pe_lst h.h).impF fun σ H Q h => by
  obtain ⟨o, ρ, rfl, R, S, h⟩ := h
  refine ⟨o, ρ, rfl, R, S, Ps.bd h fun p x vx e1 R1 r1 h1 => ?_⟩
  obtain ⟨hz, h1⟩ := h1.gd
  exact ⟨by rw [r1.len]; exact hz, h1.pr R1 r1⟩
end
end L2
set_option maxHeartbeats 1000000
/-! the mirror: operations -/
namespace L2
open PySem PySem.Spec PyProof.Rows
section
variable {X : Cx} {E : XK}
/-! ### what a value is -/
theorem rv_int {K : PySem.W.Frag} {o : Wo} {i : Int} {v : V} : Rv K o (.int i) v ↔ v = .int i := by unfold Rv; exact Iff.rfl
theorem rv_str {K : PySem.W.Frag} {o : Wo} {i : Str} {v : V} : Rv K o (.str i) v ↔ v = .str i := by unfold Rv; exact Iff.rfl
theorem rv_bl {K : PySem.W.Frag} {o : Wo} {i : Bool} {v : V} : Rv K o (.bl i) v ↔ v = .bl i := by unfold Rv; exact Iff.rfl
theorem rv_non {K : PySem.W.Frag} {o : Wo} {v : V} : Rv K o .non v ↔ v = .non := by unfold Rv; exact Iff.rfl
theorem rv_ty {K : PySem.W.Frag} {o : Wo} {n : String} {v : V} : Rv K o (.ty n) v ↔ v = .ty n := by unfold Rv; exact Iff.rfl
/-- the items of a list (at a place, or one that does not change) -/
def lstOf (w : W) : M (List W) := match w with
  | .tl l => pr l
  | .cl l => pr l
  | .loc k => fun h => match h[k]? with
    | some (.lst l) => .ok l h
    | _ => .bad
  | _ => no
theorem lstOf_ps {α β : Type} {r : Wo → α → β → Prop} {o : Wo} {w : W} {v : V} {k : List W → M α} {Q : β → Hp → Prop} (R : Rel X.K o) (hr : Rv X.K o w v) (h : Ps (cg X E) r o (bd (lstOf w) k o.h) Q) :
    ∃ l a vs, v = .ref a ∧ SqL X.K o.H a vs ∧ Rvs X.K o l vs ∧ Ps (cg X E) r o (k l o.h) Q := by
  cases w with
  | tl l => unfold Rv at hr; obtain ⟨a, vs, e, h1, _, h2⟩ := hr; exact ⟨l, a, vs, e, .of h1, h2, h⟩
  | cl l =>
    unfold Rv at hr
    obtain ⟨a, vs, e, h1, h2⟩ := hr
    rcases h1 with ⟨h1, _⟩ | h1
    · exact ⟨l, a, vs, e, .inl h1, h2, h⟩
    · exact ⟨l, a, vs, e, .inr h1, h2, h⟩
  | loc j =>
    unfold Rv at hr
    unfold lstOf bd at h
    cases e : o.h[j]? with
    | none => simp only [e] at h; exact h.elim
    | some b =>
      cases b with
      | lst l =>
        simp only [e] at h
        obtain ⟨vs, h1, h2⟩ := R.ob j _ e
        exact ⟨l, _, vs, hr.2, .of h1, h2, h⟩
      | _ => simp only [e] at h; exact h.elim
  | _ => exact h.elim
/-- .. of one that is our own -/
def lstO (w : W) : M (List W) := match w with
  | .tl l => pr l
  | .loc k => fun h => match h[k]? with
    | some (.lst l) => .ok l h
    | _ => .bad
  | _ => no
theorem lstO_ps {α β : Type} {r : Wo → α → β → Prop} {o : Wo} {w : W} {v : V} {k : List W → M α} {Q : β → Hp → Prop} (R : Rel X.K o) (hr : Rv X.K o w v) (h : Ps (cg X E) r o (bd (lstO w) k o.h) Q) :
    ∃ l a vs, v = .ref a ∧ o.H a = some (.lst vs) ∧ Rvs X.K o l vs ∧ Ps (cg X E) r o (k l o.h) Q := by
  cases w with
  | tl l => unfold Rv at hr; obtain ⟨a, vs, e, h1, _, h2⟩ := hr; exact ⟨l, a, vs, e, h1, h2, h⟩
  | loc j =>
    unfold Rv at hr
    unfold lstO bd at h
    cases e : o.h[j]? with
    | none => simp only [e] at h; exact h.elim
    | some b =>
      cases b with
      | lst l =>
        simp only [e] at h
        obtain ⟨vs, h1, h2⟩ := R.ob j _ e
        exact ⟨l, _, vs, hr.2, h1, h2, h⟩
      | _ => simp only [e] at h; exact h.elim
  | _ => exact h.elim
theorem ps_newT {o : Wo} {q : Addr} {l : List W} {vs : List V} {Q : VK} (R : Rel X.K o) (hq : o.H q = none) (hl : Rvs X.K o l vs) (h : Ps (cg X E) (Rv X.K) o (pr (.tup l) o.h) Q) : Q (.ref q) (upd o.H q (.tup vs)) :=
  Ps.at (p := ⟨o.mu, o.h, upd o.H q (.tup vs)⟩) h rfl (Ex.new hq) (R.new hq) (Rv.newT R hq hl)
theorem ps_newL {o : Wo} {q : Addr} {l : List W} {vs : List V} {Q : VK} (R : Rel X.K o) (hq : o.H q = none) (hl : Rvs X.K o l vs) (h : Ps (cg X E) (Rv X.K) o (pr (.tl l) o.h) Q) : Q (.ref q) (upd o.H q (.lst vs)) :=
  Ps.at (p := ⟨o.mu, o.h, upd o.H q (.lst vs)⟩) h rfl (Ex.new hq) (R.new hq) (Rv.newL R hq hl)
/-! ### + -/
def addW (x y : W) : M W := match x, y with
  | .int i, .int j => pr (.int (i + j))
  | .str a, .str b => gd (a.length + b.length ≤ sizeLine) (pr (.str (a ++ b)))
  | .tup a, .tup b => gd (a.isEmpty = false ∧ a.length + b.length ≤ sizeLine) (pr (.tup (a ++ b)))
  | x, y => bd (lstO x) fun a => bd (lstO y) fun b => gd (a.length + b.length ≤ sizeLine) (pr (.tl (a ++ b)))
theorem opm_add : OpM X E (fun x y H Q => rI0 (fun i j => .int (i + j)) x y H Q ∨ (fun x y H Q => (fun x y H Q => ∃ i j, x = .str i ∧ y = .str j ∧ i.length + j.length ≤ sizeLine ∧ Q (.str (i ++ j)) H) x y H Q ∨ (fun x y H Q => rCatT X.K x y H Q ∨ rCat x y H Q) x y H Q) x y H Q) addW := by
  intro o x y vx vy Q R rx ry h
  unfold addW at h
  split at h
  · exact .inl ⟨_, _, rv_int.mp rx, rv_int.mp ry, h.pr R (rv_int.mpr rfl)⟩
  · obtain ⟨hz, h⟩ := h.gd
    exact .inr (.inl ⟨_, _, rv_str.mp rx, rv_str.mp ry, hz, h.pr R (rv_str.mpr rfl)⟩)
  · obtain ⟨hz, h⟩ := h.gd
    unfold Rv at rx ry
    obtain ⟨a, vs, e1, s1, r1⟩ := rx
    obtain ⟨b, us, e2, s2, r2⟩ := ry
    have n1 : vs ≠ [] := fun z => by
      have := r1.len
      rw [z] at this
      have q := hz.1
      rw [List.eq_nil_of_length_eq_zero this.symm] at q
      cases q
    refine .inr (.inr (.inl ⟨a, b, vs, us, e1, e2, s1, s2, n1, by rw [r1.len, r2.len]; exact hz.2, fun z => ?_, fun _ q hq => ps_newT R hq (r1.app r2) h⟩))
    refine h.pr R ?_
    unfold Rv
    exact ⟨a, vs, rfl, s1, by have := r1.app r2; rw [z, List.append_nil] at this; exact this⟩
  · obtain ⟨l, a, vs, e1, s1, r1, h⟩ := lstO_ps R rx h
    obtain ⟨m, b, us, e2, s2, r2, h⟩ := lstO_ps R ry h
    obtain ⟨hz, h⟩ := h.gd
    exact .inr (.inr (.inr ⟨a, b, vs, us, e1, e2, s1, s2, by rw [r1.len, r2.len]; exact hz, fun q hq => ps_newL R hq (r1.app r2) h⟩))
theorem me_add {a b : Expr} {pos : Pos} {fa fb : Env' → M W} (ha : JE X E a fa) (hb : JE X E b fb) : JE X E (.BinOp a .Add b pos) (m2 addW fa fb) :=
  me_op (op_add.or (op_add_str.or (op_catT.or op_cat))) opm_add ha hb
/-! ### ints -/
def iiW (C : Int → Int → Prop) [∀ i j, Decidable (C i j)] (g : Int → Int → W) (x y : W) : M W := match x, y with
  | .int i, .int j => gd (C i j) (pr (g i j))
  | _, _ => no
theorem opm_ii {C : Int → Int → Prop} [∀ i j, Decidable (C i j)] {g : Int → Int → W} {g' : Int → Int → V} (hg : ∀ o i j, Rv X.K o (g i j) (g' i j)) : OpM X E (rI C g') (iiW C g) := by
  intro o x y vx vy Q R rx ry h
  unfold iiW at h
  split at h
  · obtain ⟨hz, h⟩ := h.gd
    exact ⟨_, _, rv_int.mp rx, rv_int.mp ry, hz, h.pr R (hg _ _ _)⟩
  · exact h.elim
theorem opR0 {f : Value → Value → Sem Value} {g' : Int → Int → V} (h : OpR X f (rI0 g')) : OpR X f (rI (fun _ _ => True) g') := fun pins s σ H x y v u Q I rx ry q => h pins s σ H x y v u Q I rx ry (let ⟨i, j, e1, e2, _, q⟩ := q; ⟨i, j, e1, e2, q⟩)
abbrev CT : Int → Int → Prop := fun _ _ => True
def subW : W → W → M W := iiW CT fun i j => .int (i - j)
theorem me_sub {a b : Expr} {pos : Pos} {fa fb : Env' → M W} (ha : JE X E a fa) (hb : JE X E b fb) : JE X E (.BinOp a .Sub b pos) (m2 subW fa fb) :=
  me_op (opR0 op_sub) (opm_ii fun _ _ _ => rv_int.mpr rfl) ha hb
def CDivB (i j : Int) : Prop := 0 < j ∧ j < 2 ^ 200
instance (i j : Int) : Decidable (CDivB i j) := by unfold CDivB; infer_instance
theorem op_fdivB : OpR X (binaryOp .FloorDiv) (rI CDivB fun i j => .int (i / j)) := opI fun i j _ _ _ _ _ hc q => by
  have h1 : (0 : Int) < j := hc.1
  have h2 : j < 2 ^ 200 := hc.2
  refine floordiv_int (by omega) (by rw [Int.fdiv_eq_ediv_of_nonneg i (by omega)]; exact q) (.inl (PyProof.noPylong_of_log2 ?_))
  have h3 : j.natAbs < 2 ^ 200 := by omega
  exact Nat.lt_of_lt_of_le ((Nat.log2_lt (by omega)).mpr h3) (by decide)
def fdivW : W → W → M W := iiW CDivB fun i j => .int (i / j)
theorem me_fdiv {a b : Expr} {pos : Pos} {fa fb : Env' → M W} (ha : JE X E a fa) (hb : JE X E b fb) : JE X E (.BinOp a .FloorDiv b pos) (m2 fdivW fa fb) :=
  me_op op_fdivB (opm_ii fun _ _ _ => rv_int.mpr rfl) ha hb
abbrev CMod : Int → Int → Prop := fun _ j => 0 < j
def modW : W → W → M W := iiW CMod fun i j => .int (i % j)
theorem me_mod {a b : Expr} {pos : Pos} {fa fb : Env' → M W} (ha : JE X E a fa) (hb : JE X E b fb) : JE X E (.BinOp a .Mod b pos) (m2 modW fa fb) :=
  me_op op_mod (opm_ii fun _ _ _ => rv_int.mpr rfl) ha hb
instance (i j : Int) : Decidable (CPow i j) := by unfold CPow; infer_instance
def powW : W → W → M W := iiW CPow fun i j => .int (i ^ j.toNat)
theorem me_pow {a b : Expr} {pos : Pos} {fa fb : Env' → M W} (ha : JE X E a fa) (hb : JE X E b fb) : JE X E (.BinOp a .Pow b pos) (m2 powW fa fb) :=
  me_op op_pow (opm_ii fun _ _ _ => rv_int.mpr rfl) ha hb
/-! ### * -/
theorem mul_okW {z : Str} {n : Int} (h0 : 0 ≤ n) (h1 : n ≤ 10000) (h : z.length ≤ 30000) (hz : z.length * n.toNat ≤ 1000000) : MulOk z n := by
  refine ⟨?_, fun a b => ?_, fun a b => ?_⟩
  · rw [Bool.or_eq_false_iff, decide_eq_false_iff_not, decide_eq_false_iff_not]; omega
  · have : (100000000000000 : Int) ≤ (2 ^ 63 - 1) / n := Int.le_ediv_of_mul_le (by omega) (by omega)
    omega
  · unfold Builtin.Str.tooLong
    have : sizeLine = 16777216 := by decide
    exact decide_eq_false (by omega)
instance (i j : Int) : Decidable (CMul i j) := by unfold CMul; infer_instance
instance (i j : Int) : Decidable (CMulB i j) := by unfold CMulB; infer_instance
def CMulA (i j : Int) : Prop := CMul i j ∨ CMulB i j
instance (i j : Int) : Decidable (CMulA i j) := by unfold CMulA; infer_instance
theorem op_mulA : OpR X (binaryOp .Mult) (rI CMulA fun i j => .int (i * j)) := opI fun _ _ _ _ _ _ _ hc q => mul_int q (by rcases hc with h | h; exact h.ok; exact h.ok)
def mulW (x y : W) : M W := match x, y with
  | .int i, .int j => gd (CMulA i j) (pr (.int (i * j)))
  | .str z, .int n => gd (0 ≤ n ∧ n ≤ 10000 ∧ z.length ≤ 30000 ∧ z.length * n.toNat ≤ 1000000) (pr (.str (Txt.mul z n)))
  | x, .int n => bd (lstO x) fun l => gd (0 ≤ n ∧ n ≤ 1000000 ∧ l.length * n.toNat ≤ sizeLine) (pr (.tl (List.replicate n.toNat l).flatten))
  | _, _ => no
theorem Rvs.rep {K : PySem.W.Frag} {o : Wo} {l : List W} {vs : List V} (h : Rvs K o l vs) : ∀ n : Nat, Rvs K o (List.replicate n l).flatten (List.replicate n vs).flatten
  | 0 => Rvs.nil
  | n + 1 => by rw [List.replicate_succ, List.replicate_succ, List.flatten_cons, List.flatten_cons]; exact h.app (Rvs.rep h n)
theorem opm_mul : OpM X E (fun x y H Q => rI CMulA (fun i j => .int (i * j)) x y H Q ∨ (fun x y H Q => (fun x y H Q => ∃ (z : Str) (n : Int), x = .str z ∧ y = .int n ∧ MulOk z n ∧ Q (.str (Txt.mul z n)) H) x y H Q ∨ rRep x y H Q) x y H Q) mulW := by
  intro o x y vx vy Q R rx ry h
  unfold mulW at h
  split at h
  · obtain ⟨hz, h⟩ := h.gd
    exact .inl ⟨_, _, rv_int.mp rx, rv_int.mp ry, hz, h.pr R (rv_int.mpr rfl)⟩
  · obtain ⟨hz, h⟩ := h.gd
    exact .inr (.inl ⟨_, _, rv_str.mp rx, rv_int.mp ry, mul_okW hz.1 hz.2.1 hz.2.2.1 hz.2.2.2, h.pr R (rv_str.mpr rfl)⟩)
  · obtain ⟨l, a, vs, e1, s1, r1, h⟩ := lstO_ps R rx h
    obtain ⟨hz, h⟩ := h.gd
    exact .inr (.inr ⟨a, _, vs, e1, rv_int.mp ry, s1, by omega, by omega, by rw [r1.len]; exact hz.2.2, fun q hq => ps_newL R hq (r1.rep _) h⟩)
  · exact h.elim
theorem me_mul {a b : Expr} {pos : Pos} {fa fb : Env' → M W} (ha : JE X E a fa) (hb : JE X E b fb) : JE X E (.BinOp a .Mult b pos) (m2 mulW fa fb) :=
  me_op (op_mulA.or (op_mul_str.or op_rep)) opm_mul ha hb
/-! ### comparisons of ints -/
def ltW : W → W → M W := iiW CT fun i j => .bl (decide (i < j))
def leW : W → W → M W := iiW CT fun i j => .bl (decide (i ≤ j))
def gtW : W → W → M W := iiW CT fun i j => .bl (decide (j < i))
def geW : W → W → M W := iiW CT fun i j => .bl (decide (j ≤ i))
theorem opm_lt : OpM X E (rI CT fun i j => .bl (decide (i < j))) ltW := opm_ii fun _ _ _ => rv_bl.mpr rfl
theorem opm_gt : OpM X E (rI CT fun i j => .bl (decide (j < i))) gtW := opm_ii fun _ _ _ => rv_bl.mpr rfl
theorem opm_ge : OpM X E (rI CT fun i j => .bl (decide (j ≤ i))) geW := opm_ii fun _ _ _ => rv_bl.mpr rfl
theorem or_lt : OpR X (compareOp .Lt) (rI CT fun i j => .bl (decide (i < j))) := opR0 op_lt
theorem or_gt : OpR X (compareOp .Gt) (rI CT fun i j => .bl (decide (j < i))) := opR0 op_gt
theorem or_ge : OpR X (compareOp .GtE) (rI CT fun i j => .bl (decide (j ≤ i))) := opR0 op_ge
/-! ### is None -/
def isNon : W → Bool
  | .non => true
  | _ => false
def isNW (x y : W) : M W := match y with
  | .non => pr (.bl (isNon x))
  | _ => no
theorem isNon_v {K : PySem.W.Frag} {o : Wo} {x : W} {v : V} (h : Rv K o x v) : decide (v = .non) = isNon x := by
  cases x with
  | non => rw [rv_non.mp h]; rfl
  | bl _ => rw [rv_bl.mp h]; rfl
  | int _ => rw [rv_int.mp h]; rfl
  | str _ => rw [rv_str.mp h]; rfl
  | ty _ => rw [rv_ty.mp h]; rfl
  | exc _ => unfold Rv at h; obtain ⟨a, _, rfl, _⟩ := h; rfl
  | cls _ => unfold Rv at h; obtain ⟨a, rfl, _⟩ := h; rfl
  | tup _ => unfold Rv at h; obtain ⟨a, _, rfl, _⟩ := h; rfl
  | tl _ => unfold Rv at h; obtain ⟨a, _, rfl, _⟩ := h; rfl
  | cl _ => unfold Rv at h; obtain ⟨a, _, rfl, _⟩ := h; rfl
  | dv _ _ => unfold Rv at h; obtain ⟨a, _, rfl, _⟩ := h; rfl
  | loc _ => unfold Rv at h; obtain ⟨_, rfl⟩ := h; rfl
theorem opm_isN : OpM X E (fun x y H Q => y = .non ∧ Q (.bl (decide (x = .non))) H) isNW := by
  intro o x y vx vy Q R rx ry h
  unfold isNW at h
  split at h
  · exact ⟨rv_non.mp ry, by rw [isNon_v rx]; exact h.pr R (rv_bl.mpr rfl)⟩
  · exact h.elim
/-! ### plain values -/
def vOf : W → Option V
  | .non => some .non
  | .bl b => some (.bl b)
  | .int i => some (.int i)
  | .str x => some (.str x)
  | _ => none
theorem vOf_rv {K : PySem.W.Frag} {o : Wo} {x : W} {v u : V} (e : vOf x = some u) (h : Rv K o x v) : v = u := by
  cases x with
  | non => cases e; exact rv_non.mp h
  | bl _ => cases e; exact rv_bl.mp h
  | int _ => cases e; exact rv_int.mp h
  | str _ => cases e; exact rv_str.mp h
  | _ => cases e
theorem vOf_flat {x : W} {u : V} (e : vOf x = some u) : flatV u = true := by
  cases x <;> first | (cases e; done) | (cases e; rfl)
def vsOf : List W → Option (List V)
  | [] => some []
  | w :: l => match vOf w, vsOf l with
    | some v, some vs => some (v :: vs)
    | _, _ => none
theorem vsOf_rv {K : PySem.W.Frag} {o : Wo} : ∀ {l : List W} {vs us : List V}, vsOf l = some us → Rvs K o l vs → vs = us
  | [], vs, us, e, h => by unfold Rvs at h; cases e; exact h
  | w :: l, vs, us, e, h => by
    unfold Rvs at h
    obtain ⟨v, r, rfl, h1, h2⟩ := h
    unfold vsOf at e
    split at e
    · rename_i v' vs' e1 e2
      cases e
      rw [vOf_rv e1 h1, vsOf_rv e2 h2]
    · cases e
theorem vsOf_flat : ∀ {l : List W} {us : List V}, vsOf l = some us → us.all flatV = true
  | [], us, e => by cases e; rfl
  | w :: l, us, e => by
    unfold vsOf at e
    split at e
    · rename_i v' vs' e1 e2
      cases e
      rw [List.all_cons, vOf_flat e1, vsOf_flat e2]; rfl
    · cases e
end
end L2
set_option maxHeartbeats 1000000
/-! the mirror: ==, in, indexes, slices, calls -/
namespace L2
open PySem PySem.Spec PyProof.Rows
/-! ### == -/
def optL {α β : Type} (f : α → Option β) : List α → Option (List β)
  | [] => some []
  | a :: l => match f a, optL f l with
    | some b, some r => some (b :: r)
    | _, _ => none
def dataH (h : List Ob) : Nat → W → Option PyData
  | 0, _ => none
  | _ + 1, .non => some .none
  | _ + 1, .bl b => some (.bool b)
  | _ + 1, .int i => some (.int i)
  | _ + 1, .str x => some (.str x)
  | n + 1, .tup l => (optL (dataH h n) l).map .tuple
  | n + 1, .tl l => (optL (dataH h n) l).map .list
  | n + 1, .cl l => (optL (dataH h n) l).map .list
  | n + 1, .loc k => match h[k]? with
    | some (.lst l) => (optL (dataH h n) l).map .list
    | _ => none
  | _ + 1, _ => none
section
variable {K : PySem.W.Frag} {o : Wo}
theorem optL_den {n : Nat} (ih : ∀ w v d, dataH o.h n w = some d → Rv K o w v → Den K o.H v d ∧ d.depth ≤ n) : ∀ {l : List W} {vs : List V} {ds : List PyData}, optL (dataH o.h n) l = some ds → Rvs K o l vs → DenAll K o.H vs ds ∧ PyData.depthAll ds ≤ n
  | [], vs, ds, e, h => by unfold Rvs at h; cases e; rw [h]; exact ⟨.nil, by simp [PyData.depthAll]⟩
  | w :: l, vs, ds, e, h => by
    unfold Rvs at h
    obtain ⟨v, r, rfl, h1, h2⟩ := h
    unfold optL at e
    split at e
    · rename_i d ds' e1 e2
      cases e
      obtain ⟨a1, a2⟩ := ih w v d e1 h1
      obtain ⟨b1, b2⟩ := optL_den ih e2 h2
      exact ⟨.cons a1 b1, by rw [PyData.depthAll]; omega⟩
    · cases e
theorem dataH_den (R : Rel K o) : ∀ (n : Nat) (w : W) (v : V) (d : PyData), dataH o.h n w = some d → Rv K o w v → Den K o.H v d ∧ d.depth ≤ n
  | 0, _, _, _, e, _ => by cases e
  | n + 1, w, v, d, e, h => by
    have ih := dataH_den R n
    have seq : ∀ {l : List W} {a : Addr} {vs : List V} {ds : List PyData}, optL (dataH o.h n) l = some ds → SqL K o.H a vs → Rvs K o l vs → Den K o.H (.ref a) (.list ds) ∧ (PyData.list ds).depth ≤ n + 1 := fun {l a vs ds} e s r => by
      obtain ⟨b1, b2⟩ := optL_den ih e r
      refine ⟨.lst s b1, ?_⟩
      rw [PyData.depth]; omega
    cases w with
    | non => cases e; rw [rv_non.mp h]; exact ⟨.non, by simp [PyData.depth]⟩
    | bl b => cases e; rw [rv_bl.mp h]; exact ⟨.bl b, by simp [PyData.depth]⟩
    | int b => cases e; rw [rv_int.mp h]; exact ⟨.int b, by simp [PyData.depth]⟩
    | str b => cases e; rw [rv_str.mp h]; exact ⟨.str b, by simp [PyData.depth]⟩
    | ty b => cases e
    | exc b => cases e
    | cls b => cases e
    | dv a b => cases e
    | tup l =>
      unfold dataH at e
      obtain ⟨ds, e1, rfl⟩ := Option.map_eq_some_iff.mp e
      unfold Rv at h
      obtain ⟨a, vs, rfl, s, r⟩ := h
      obtain ⟨b1, b2⟩ := optL_den ih e1 r
      refine ⟨.tup s b1, ?_⟩
      rw [PyData.depth]; omega
    | tl l =>
      unfold dataH at e
      obtain ⟨ds, e1, rfl⟩ := Option.map_eq_some_iff.mp e
      unfold Rv at h
      obtain ⟨a, vs, rfl, s, _, r⟩ := h
      exact seq e1 (.of s) r
    | cl l =>
      unfold dataH at e
      obtain ⟨ds, e1, rfl⟩ := Option.map_eq_some_iff.mp e
      unfold Rv at h
      obtain ⟨a, vs, rfl, s, r⟩ := h
      refine seq e1 ?_ r
      rcases s with ⟨s, _⟩ | s
      · exact .inl s
      · exact .inr s
    | loc k =>
      unfold dataH at e
      split at e
      · rename_i l hk
        obtain ⟨ds, e1, rfl⟩ := Option.map_eq_some_iff.mp e
        unfold Rv at h
        obtain ⟨vs, h1, h2⟩ := R.ob k _ hk
        rw [h.2]
        exact seq e1 (.of h1) h2
      · cases e
end
def eqB (x y : W) (h : List Ob) : Option Bool := match vOf x, vOf y with
  | some a, some b => if scal a b = true then some (decide (a = b)) else match dataH h 50 x, dataH h 50 y with
    | some d, some e => if d.canLay0 = true ∧ e.canLay0 = true then some (PyData.eqv d e) else none
    | _, _ => none
  | _, _ => match dataH h 50 x, dataH h 50 y with
    | some d, some e => if d.canLay0 = true ∧ e.canLay0 = true then some (PyData.eqv d e) else none
    | _, _ => none
def eqW (x y : W) : M W := fun h => match eqB x y h with
  | some b => .ok (.bl b) h
  | none => .bad
def neW (x y : W) : M W := fun h => match eqB x y h with
  | some b => .ok (.bl (!b)) h
  | none => .bad
section
variable {X : Cx} {E : XK}
theorem eqB_of {o : Wo} {x y : W} {vx vy : V} {b : Bool} (hu : X.A.units + 64 < cLine) (R : Rel X.K o) (rx : Rv X.K o x vx) (ry : Rv X.K o y vy) (e : eqB x y o.h = some b) :
    (scal vx vy = true ∧ b = decide (vx = vy)) ∨ ∃ d e, Den X.K o.H vx d ∧ Den X.K o.H vy e ∧ d.canLay0 = true ∧ e.canLay0 = true ∧ X.A.units + min d.depth e.depth < cLine ∧ b = PyData.eqv d e := by
  have deep : (match dataH o.h 50 x, dataH o.h 50 y with
    | some d, some e => if d.canLay0 = true ∧ e.canLay0 = true then some (PyData.eqv d e) else none
    | _, _ => none) = some b → ∃ d e, Den X.K o.H vx d ∧ Den X.K o.H vy e ∧ d.canLay0 = true ∧ e.canLay0 = true ∧ X.A.units + min d.depth e.depth < cLine ∧ b = PyData.eqv d e := fun q => by
    split at q
    · rename_i d e' e1 e2
      split at q
      · rename_i hc
        obtain ⟨a1, a2⟩ := dataH_den R _ _ _ _ e1 rx
        obtain ⟨b1, b2⟩ := dataH_den R _ _ _ _ e2 ry
        exact ⟨d, e', a1, b1, hc.1, hc.2, by omega, (Option.some.inj q).symm⟩
      · cases q
    · cases q
  unfold eqB at e
  split at e
  · rename_i a c e1 e2
    split at e
    · rename_i hs
      rw [vOf_rv e1 rx, vOf_rv e2 ry]
      exact .inl ⟨hs, (Option.some.inj e).symm⟩
    · exact .inr (deep e)
  · exact .inr (deep e)
theorem opm_eq (hu : X.A.units + 64 < cLine) : OpM X E (fun x y H Q => rEq x y H Q ∨ rEqD X.K X.A false x y H Q) eqW := by
  intro o x y vx vy Q R rx ry h
  unfold eqW at h
  cases e : eqB x y o.h with
  | none => rw [e] at h; exact h.elim
  | some b =>
    rw [e] at h
    have q : Q (.bl b) o.H := Ps.pr (c := cg X E) (r := Rv X.K) (a := W.bl b) h R (rv_bl.mpr rfl)
    rcases eqB_of hu R rx ry e with ⟨s, rfl⟩ | ⟨d, e', a1, a2, a3, a4, a5, rfl⟩
    · exact .inl ⟨s, q⟩
    · exact .inr ⟨d, e', a1, a2, a3, a4, a5, by rw [if_neg Bool.false_ne_true]; exact q⟩
theorem opm_ne (hu : X.A.units + 64 < cLine) : OpM X E (fun x y H Q => rNe x y H Q ∨ rEqD X.K X.A true x y H Q) neW := by
  intro o x y vx vy Q R rx ry h
  unfold neW at h
  cases e : eqB x y o.h with
  | none => rw [e] at h; exact h.elim
  | some b =>
    rw [e] at h
    have q : Q (.bl (!b)) o.H := Ps.pr (c := cg X E) (r := Rv X.K) (a := W.bl (!b)) h R (rv_bl.mpr rfl)
    rcases eqB_of hu R rx ry e with ⟨s, rfl⟩ | ⟨d, e', a1, a2, a3, a4, a5, rfl⟩
    · exact .inl ⟨s, q⟩
    · exact .inr ⟨d, e', a1, a2, a3, a4, a5, by rw [if_pos rfl]; exact q⟩
theorem or_eq : OpR X (compareOp .Eq) (fun x y H Q => rEq x y H Q ∨ rEqD X.K X.A false x y H Q) := op_eq.or op_eqD
theorem or_ne : OpR X (compareOp .NotEq) (fun x y H Q => rNe x y H Q ∨ rEqD X.K X.A true x y H Q) := op_ne.or op_neD
/-! ### dicts: what stands at a key -/
def keyOf : W → Option Key
  | .int i => some (.inl i)
  | .str x => some (.inr x)
  | _ => none
theorem keyOf_rv {K : PySem.W.Frag} {o : Wo} {x : W} {v : V} {k : Key} (e : keyOf x = some k) (h : Rv K o x v) : v = kV k := by
  cases x with
  | int _ => cases e; exact rv_int.mp h
  | str _ => cases e; exact rv_str.mp h
  | _ => cases e
/-- the pairs of a dict -/
def dicOf (w : W) (h : List Ob) : Option (List Key × List W) := match w with
  | .dv ks ws => some (ks, ws)
  | .loc k => match h[k]? with
    | some (.dic ks ws) => some (ks, ws)
    | _ => none
  | _ => none
theorem dicOf_rv {o : Wo} {w : W} {v : V} {ks : List Key} {ws : List W} (R : Rel X.K o) (e : dicOf w o.h = some (ks, ws)) (h : Rv X.K o w v) : ∃ a kvs, v = .ref a ∧ Rd o.H a (.dK kvs) ∧ kvs.map (·.1) = ks ∧ Rvs X.K o ws (kvs.map (·.2)) := by
  cases w with
  | dv a b =>
    cases e
    unfold Rv at h
    obtain ⟨a, kvs, e, h1, _, h2, h3⟩ := h
    exact ⟨a, kvs, e, h1, h2, h3⟩
  | loc k =>
    unfold dicOf at e
    dsimp only at e
    split at e
    · rename_i a b hk
      cases e
      unfold Rv at h
      obtain ⟨kvs, h1, h2, h3⟩ := R.ob k _ hk
      exact ⟨_, kvs, h.2, .inl h1, h2, h3⟩
    · cases e
  | _ => cases e
/-- the value at a key -/
def atK : List Key → List W → Key → Option W
  | k :: ks, w :: ws, x => if k = x then some w else atK ks ws x
  | _, _, _ => none
theorem atK_val {K : PySem.W.Frag} {o : Wo} {x : Key} : ∀ {ks : List Key} {ws : List W} {kvs : List (Key × V)}, kvs.map (·.1) = ks → Rvs K o ws (kvs.map (·.2)) → match atK ks ws x with
    | some w => ∃ v, valV kvs x = some v ∧ Rv K o w v
    | none => valV kvs x = none
  | [], _, [], _, _ => rfl
  | _, _, (k, v) :: r, e, h => by
    subst e
    cases ‹List W› with
    | nil => unfold Rvs at h; cases h
    | cons w ws =>
      unfold Rvs at h
      obtain ⟨v', r', e', h1, h2⟩ := h
      cases e'
      have ih := atK_val (x := x) (ks := r.map (·.1)) (ws := ws) (kvs := r) rfl h2
      show match (if k = x then some w else atK (r.map (·.1)) ws x) with
        | some w => ∃ v', valV ((k, v) :: r) x = some v' ∧ Rv K o w v'
        | none => valV ((k, v) :: r) x = none
      by_cases z : k = x
      · rw [if_pos z]
        exact ⟨v, by unfold valV; rw [List.find?_cons_of_pos (by simpa using z)]; rfl, h1⟩
      · rw [if_neg z]
        have ev : valV ((k, v) :: r) x = valV r x := by unfold valV; rw [List.find?_cons_of_neg (by simpa using z)]
        rw [ev]
        exact ih
/-! ### in -/
def inB (x y : W) (h : List Ob) : Option Bool := match y with
  | .str b => match x with
    | .str a => some (!(Builtin.Str.occurrences b a 0 b.length 1).isEmpty)
    | _ => none
  | .tup l => match vOf x, vsOf l with
    | some v, some vs => some (inV v vs)
    | _, _ => none
  | y => match dicOf y h with
    | some (ks, ws) => match keyOf x with
      | some k => some (atK ks ws k).isSome
      | none => none
    | none => match lstOf y h with
      | .ok l _ => match vOf x, vsOf l with
        | some v, some vs => some (inV v vs)
        | _, _ => none
      | _ => none
def inW (x y : W) : M W := fun h => match inB x y h with
  | some b => .ok (.bl b) h
  | none => .bad
theorem lstOf_rv {o : Wo} {w : W} {v : V} {l : List W} {h' : List Ob} (R : Rel X.K o) (hr : Rv X.K o w v) (e : lstOf w o.h = .ok l h') : h' = o.h ∧ ∃ a vs, v = .ref a ∧ SqL X.K o.H a vs ∧ Rvs X.K o l vs := by
  have hh : h' = o.h := by
    cases w with
    | tl l' => cases e; rfl
    | cl l' => cases e; rfl
    | loc j =>
      unfold lstOf at e
      dsimp only at e
      split at e
      · cases e; rfl
      · cases e
    | _ => cases e
  subst hh
  have h : Ps (cg X (fun _ _ _ => False)) (fun (_ : Wo) (a : List W) (b : List W) => a = b) o (bd (lstOf w) (fun l => pr l) o.h) (fun b _ => b = l) := by
    unfold bd
    rw [e]
    intro p b _ _ _ q
    exact q.symm
  obtain ⟨m, a, vs, e1, e2, e3, h⟩ := lstOf_ps R hr h
  have : m = l := h.pr R rfl
  subst this
  exact ⟨rfl, a, vs, e1, e2, e3⟩
def rInD : R2 := fun x y H Q => ∃ a ov, y = .ref a ∧ DGet H a x ov ∧ Q (.bl ov.isSome) H
theorem op_inD (hu : X.A.units + 1 < cLine) : OpR X (compareOp .In) rInD := by
  intro pins s σ H x y v u Q I rx ry h
  obtain ⟨a, ov, rfl, g, q⟩ := h
  cases ry
  exact d_in hu I g rx fun s3 I3 => ⟨.bl ov.isSome, H, I3, rfl, q⟩
theorem inB_of {o : Wo} {x y : W} {vx vy : V} {b : Bool} (R : Rel X.K o) (rx : Rv X.K o x vx) (ry : Rv X.K o y vy) (e : inB x y o.h = some b) :
    (∃ i j, vx = .str i ∧ vy = .str j ∧ b = (!(Builtin.Str.occurrences j i 0 j.length 1).isEmpty)) ∨ (∃ p xs, vy = .ref p ∧ (SqL X.K o.H p xs ∨ SqT X.K o.H p xs) ∧ flatV vx = true ∧ xs.all flatV = true ∧ b = inV vx xs) ∨ ∃ a ov, vy = .ref a ∧ DGet o.H a vx ov ∧ b = ov.isSome := by
  have fl : ∀ {l : List W} {vs : List V}, Rvs X.K o l vs → (match vOf x, vsOf l with
        | some v, some vs => some (inV v vs)
        | _, _ => none) = some b → flatV vx = true ∧ vs.all flatV = true ∧ b = inV vx vs := fun {l vs} r q => by
    split at q
    · rename_i v us e1 e2
      rw [vOf_rv e1 rx, vsOf_rv e2 r]
      exact ⟨vOf_flat e1, vsOf_flat e2, (Option.some.inj q).symm⟩
    · cases q
  unfold inB at e
  split at e
  · split at e
    · exact .inl ⟨_, _, rv_str.mp rx, rv_str.mp ry, (Option.some.inj e).symm⟩
    · cases e
  · unfold Rv at ry
    obtain ⟨a, vs, rfl, s, r⟩ := ry
    obtain ⟨f1, f2, f3⟩ := fl r e
    exact .inr (.inl ⟨a, vs, rfl, .inr s, f1, f2, f3⟩)
  · split at e
    · rename_i ks ws hd
      split at e
      · rename_i k hk
        obtain ⟨a, kvs, rfl, h1, h2, h3⟩ := dicOf_rv R hd ry
        rw [keyOf_rv hk rx]
        refine .inr (.inr ⟨a, valV kvs k, rfl, .inl ⟨kvs, k, h1, rfl, rfl⟩, ?_⟩)
        rw [← Option.some.inj e]
        have := atK_val (x := k) h2 h3
        cases q : atK ks ws k with
        | none => rw [q] at this; rw [show valV kvs k = none from this]; rfl
        | some w => rw [q] at this; obtain ⟨v, hv, _⟩ := this; rw [hv]; rfl
      · cases e
    · split at e
      · rename_i l h' hl
        obtain ⟨rfl, a, vs, rfl, s, r⟩ := lstOf_rv R ry hl
        obtain ⟨f1, f2, f3⟩ := fl r e
        exact .inr (.inl ⟨a, vs, rfl, .inl s, f1, f2, f3⟩)
      · cases e
abbrev rInA (X : Cx) : R2 := fun x y H Q => (fun x y H Q => ∃ i j, x = .str i ∧ y = .str j ∧ Q (.bl (!(Builtin.Str.occurrences j i 0 j.length 1).isEmpty)) H) x y H Q ∨ (fun x y H Q => rIn X.K false x y H Q ∨ rInD x y H Q) x y H Q
theorem or_in (hu : X.A.units + 1 < cLine) : OpR X (compareOp .In) (rInA X) := op_in_str.or (op_in_seq.or (op_inD hu))
theorem opm_in : OpM X E (rInA X) inW := by
  intro o x y vx vy Q R rx ry h
  unfold inW at h
  cases e : inB x y o.h with
  | none => rw [e] at h; exact h.elim
  | some b =>
    rw [e] at h
    have q : Q (.bl b) o.H := Ps.pr (c := cg X E) (r := Rv X.K) (a := W.bl b) h R (rv_bl.mpr rfl)
    rcases inB_of R rx ry e with ⟨i, j, e1, e2, rfl⟩ | ⟨p, xs, e1, e2, e3, e4, rfl⟩ | ⟨a, ov, e1, e2, rfl⟩
    · exact .inl ⟨i, j, e1, e2, q⟩
    · exact .inr (.inl ⟨p, xs, e1, e2, e3, e4, by rw [if_neg Bool.false_ne_true]; exact q⟩)
    · exact .inr (.inr ⟨a, ov, e1, e2, q⟩)
/-! ### indexes -/
theorem Rvs.atI {K : PySem.W.Frag} {o : Wo} {l : List W} {vs : List V} {i : Int} {w : W} (h : Rvs K o l vs) (e : L2.atI l i = some w) : ∃ v, L2.atI vs i = some v ∧ Rv K o w v := by
  unfold L2.atI at e ⊢
  rw [h.len]
  cases q : ixN l.length i with
  | none => rw [q] at e; cases e
  | some j => rw [q] at e; exact h.get e
def ixO (x y : W) (h : List Ob) : Option W := match dicOf x h with
  | some (ks, ws) => match keyOf y with
    | some k => atK ks ws k
    | none => none
  | none => match y with
    | .int i => match x with
      | .str z => if z.length ≤ sizeLine then (atI z.cps.toList i).map fun c => .str ⟨#[c]⟩ else none
      | .tup l => atI l i
      | x => match lstOf x h with
        | .ok l _ => atI l i
        | _ => none
    | _ => none
def ixW (x y : W) : M W := fun h => match ixO x y h with
  | some w => .ok w h
  | none => .bad
def rIxD : R2 := fun x y H Q => ∃ a v, x = .ref a ∧ DGet H a y (some v) ∧ Q v H
theorem ix_dict (hu : X.A.units + 1 < cLine) : IxR X rIxD := by
  intro value slice pins s σ H x y v u Q I rx ry h hs
  obtain ⟨a, z, rfl, g, q⟩ := h
  cases rx
  exact tail_any (dict_typeIs I g) PySem.F.slot_dict_getitem.lookup (d_getItem hu I g ry fun w' s3 I3 rw' => ⟨z, H, I3, rw', q⟩) hs
theorem opm_ix : OpM X E (fun x y H Q => rIx X.K x y H Q ∨ rIxD x y H Q) ixW := by
  intro o x y vx vy Q R rx ry h
  unfold ixW at h
  cases e : ixO x y o.h with
  | none => rw [e] at h; exact h.elim
  | some w =>
    rw [e] at h
    have q : ∀ {v : V}, Rv X.K o w v → Q v o.H := fun {v} hv => Ps.pr (c := cg X E) (r := Rv X.K) (a := w) h R hv
    unfold ixO at e
    split at e
    · rename_i ks ws hd
      split at e
      · rename_i k hk
        obtain ⟨a, kvs, rfl, h1, h2, h3⟩ := dicOf_rv R hd rx
        have := atK_val (x := k) h2 h3
        rw [e] at this
        obtain ⟨v, hv, rv⟩ := this
        rw [keyOf_rv hk ry]
        exact .inr ⟨a, v, rfl, .inl ⟨kvs, k, h1, rfl, hv.symm⟩, q rv⟩
      · cases e
    · split at e
      · split at e
        · split at e
          · rename_i hz
            obtain ⟨c, hc, rfl⟩ := Option.map_eq_some_iff.mp e
            exact .inl (.inr (.inr ⟨_, _, c, rv_str.mp rx, rv_int.mp ry, hz, hc, q (rv_str.mpr rfl)⟩))
          · cases e
        · unfold Rv at rx
          obtain ⟨a, vs, rfl, s, r⟩ := rx
          obtain ⟨v, hv, rv⟩ := r.atI e
          exact .inl (.inr (.inl ⟨a, vs, _, v, rfl, rv_int.mp ry, s, hv, q rv⟩))
        · split at e
          · rename_i l h' hl
            obtain ⟨rfl, a, vs, rfl, s, r⟩ := lstOf_rv R rx hl
            obtain ⟨v, hv, rv⟩ := r.atI e
            exact .inl (.inl ⟨a, vs, _, v, rfl, rv_int.mp ry, s, hv, q rv⟩)
          · cases e
      · cases e
theorem me_ix {a b : Expr} {pos : Pos} {fa fb : Env' → M W} (hu : X.A.units + 1 < cLine) (ha : JE X E a fa) (hb : JE X E b fb) (hs : PlainIx b) : JE X E (.Subscript a b pos) (m2 ixW fa fb) :=
  (pe_ix (ix_seq.or (ix_dict hu)) ha.h hb.h hs).imp fun _ _ _ h => tM_2 opm_ix h
/-! ### slices -/
def cutW {α : Type} (xs : List α) (lo hi : Option Int) : List α := (xs.drop (HT.sIx xs.length 0 lo)).take (HT.sIx xs.length xs.length hi - HT.sIx xs.length 0 lo)
theorem Rvs.cut {K : PySem.W.Frag} {o : Wo} {l : List W} {vs : List V} (h : Rvs K o l vs) (lo hi : Option Int) : Rvs K o (cutW l lo hi) (cutV vs lo hi) := by
  unfold cutW cutV
  rw [h.len]
  exact (h.drop _).take _
def mNoPart : Env' → M (Option Int) := fun _ => pr none
def mPart (f : Env' → M W) : Env' → M (Option Int) := fun ρ => bd (f ρ) fun w => match w with
  | .int i => pr (some i)
  | _ => no
abbrev tP (c : Cg) (f : Env' → M (Option Int)) : TO := tG c (fun _ a b => a = b) f
structure JO (X : Cx) (E : XK) (e : Option Expr) (f : Env' → M (Option Int)) : Prop where
  h : PO X e (tP (cg X E) f)
theorem PO.imp {e : Option Expr} {t : TO} {f : Env' → M (Option Int)} (h : PO X e t) (k : ∀ σ H Q, tP (cg X E) f σ H Q → t σ H Q) : JO X E e f := ⟨fun pins s σ H Q I q => h pins s σ H Q I (k σ H Q q)⟩
theorem mo_none : JO X E none mNoPart := po_none.imp fun σ H Q h => by
  obtain ⟨o, ρ, rfl, R, S, h⟩ := h
  exact h.pr R rfl
theorem mo_some {e : Expr} {f : Env' → M W} (he : JE X E e f) : JO X E (some e) (mPart f) := (po_some he.h).imp fun σ H Q h => by
  obtain ⟨o, ρ, rfl, R, S, h⟩ := h
  refine ⟨o, ρ, rfl, R, S, Ps.bd h fun p x vx e1 R1 r1 h1 => ?_⟩
  cases x with
  | int i => exact ⟨i, rv_int.mp r1, h1.pr R1 rfl⟩
  | _ => exact h1.elim
def slW (x : W) (lo hi : Option Int) : M W := match x with
  | .str z => gd (z.length ≤ sizeLine) (pr (.str (StrLaws.sliceText z lo hi)))
  | .tup l => gd (¬ (HT.sIx l.length 0 lo = 0 ∧ HT.sIx l.length l.length hi = l.length)) (pr (.tup (cutW l lo hi)))
  | x => bd (lstOf x) fun l => pr (.tl (cutW l lo hi))
def m3 (f : W → Option Int → Option Int → M W) (fa : Env' → M W) (fl fh : Env' → M (Option Int)) : Env' → M W := fun ρ => bd (fa ρ) fun x => bd (fl ρ) fun a => bd (fh ρ) fun b => f x a b
theorem me_sl {e : Expr} {lo hi : Option Expr} {p2 pos : Pos} {fa : Env' → M W} {fl fh : Env' → M (Option Int)} (he : JE X E e fa) (hl : JO X E lo fl) (hh : JO X E hi fh) :
    JE X E (.Subscript e (.Slice lo hi none p2) pos) (m3 slW fa fl fh) := (pe_slice (sl_str.or (sl_tup.or sl_list)) he.h hl.h hh.h).imp fun σ H Q h => by
  obtain ⟨o, ρ, rfl, R, S, h⟩ := h
  refine ⟨o, ρ, rfl, R, S, Ps.bd h fun p x vx e1 R1 r1 h1 => ⟨p, ρ, rfl, R1, S.mono R e1, Ps.bd h1 fun q a va e2 R2 r2 h2 => ⟨q, ρ, rfl, R2, (S.mono R e1).mono R1 e2, Ps.bd h2 fun w b vb e3 R3 r3 h3 => ?_⟩⟩⟩
  subst r2 r3
  have rx := (r1.mono R1 e2).mono R2 e3
  unfold slW at h3
  split at h3
  · obtain ⟨hz, h3⟩ := h3.gd
    exact .inl ⟨_, rv_str.mp rx, hz, h3.pr R3 (rv_str.mpr rfl)⟩
  · obtain ⟨hz, h3⟩ := h3.gd
    unfold Rv at rx
    obtain ⟨a', vs, rfl, s, r⟩ := rx
    refine .inr (.inl ⟨a', vs, rfl, s, by rw [r.len]; exact hz, fun q' hq => ps_newT R3 hq (r.cut _ _) h3⟩)
  · obtain ⟨l, a', vs, rfl, s, r, h3⟩ := lstOf_ps R3 rx h3
    exact .inr (.inr ⟨a', vs, rfl, s, fun q' hq => ps_newL R3 hq (r.cut _ _) h3⟩)
/-! ### calls -/
def mCall (f : List W → M W) (l : Env' → M (List W)) : Env' → M W := fun ρ => bd (l ρ) f
def CallM (X : Cx) (E : XK) (r : List V → Hp → VK → Prop) (f : List W → M W) : Prop := ∀ (o : Wo) (ws : List W) (vs : List V) (Q : VK), Rel X.K o → Rvs X.K o ws vs → Ps (cg X E) (Rv X.K) o (f ws o.h) Q → r vs o.H Q
variable {x : Str} {p pos : Pos} {e : Expr} {es : List Expr} {l : Env' → M (List W)} {f : List W → M W} {r : List V → Hp → VK → Prop} {id T : String}
theorem tCB_m (hf : CallM X E r f) {σ : St} {H : Hp} {Q : VK} (h : tM (cg X E) (mCall f l) σ H Q) : tCB r (tA (cg X E) l) σ H Q := by
  obtain ⟨o, ρ, rfl, R, S, h⟩ := h
  exact ⟨o, ρ, rfl, R, S, Ps.bd h fun p x vx e1 R1 r1 h1 => hf p x vx Q R1 r1 h1⟩
theorem me_callB (hc : CallR X (.builtin id) r) (hf : CallM X E r f) (hg : Gl X x) (hm : X.mg x = none) (hv : bootBuiltins x = some (.builtin id)) (ha : JA X E (e :: es) l) (hn : x ≠ "__name__" := by decide) (hdb : (x == ("__debug__" : Str)) = false := by decide)
    (he : starEach (e :: es) X.env = (false, eval e X.env) :: starEach es X.env := by rfl) (hpl : (backTo pos (starEach es X.env)).any (·.1) = false := by rfl) : JE X E (.Call (.Name x p) (e :: es) [] pos) (mCall f l) :=
  (pe_callB hc hg hm hv ha.h hn hdb he hpl).imp fun _ _ _ h => tCB_m hf h
variable {CX : CXT} {k : Nat} {fA : Addr} {fd : FuncData} {ps : List Str}
end
end L2
set_option maxHeartbeats 1000000
/-! the mirror: statements, loops, defs -/
namespace L2
open PySem PySem.Spec PyProof.Rows
inductive Fl where
  | nx (r : Env') | bk (r : Env') | ct (r : Env') | rt (w : W)
inductive FlV where
  | nx (s : St) | bk (s : St) | ct (s : St) | rt (v : V)
def RFl (K : PySem.W.Frag) (o : Wo) : Fl → FlV → Prop
  | .nx r, f => ∃ s, f = .nx s ∧ Re K o r s
  | .bk r, f => ∃ s, f = .bk s ∧ Re K o r s
  | .ct r, f => ∃ s, f = .ct s ∧ Re K o r s
  | .rt w, f => ∃ v, f = .rt v ∧ Rv K o w v
def DQ (D : Ends) : FlV → Hp → Prop
  | .nx s, H => D.nx s H
  | .bk s, H => D.bk s H
  | .ct s, H => D.ct s H
  | .rt v, H => D.rt v H
def tS (c : Cg) (g : Env' → M Fl) : TS := fun D σ H => tG c (RFl c.K) g σ H (DQ D)
structure JS (X : Cx) (E : XK) (e : Stmt) (f : Env' → M Fl) : Prop where
  h : PS X e (tS (cg X E) f)
structure JSs (X : Cx) (E : XK) (e : List Stmt) (f : Env' → M Fl) : Prop where
  h : PSs X e (tS (cg X E) f)
theorem PSs.imp {X : Cx} {E : XK} {e : List Stmt} {t : TS} {f : Env' → M Fl} (h : PSs X e t) (k : ∀ D σ H, tS (cg X E) f D σ H → t D σ H) : JSs X E e f := ⟨fun pins s σ H D I q => h pins s σ H D I (k D σ H q)⟩
theorem PS.imp {X : Cx} {E : XK} {e : Stmt} {t : TS} {f : Env' → M Fl} (h : PS X e t) (k : ∀ D σ H, tS (cg X E) f D σ H → t D σ H) : JS X E e f := ⟨fun pins s σ H D I q => h pins s σ H D I (k D σ H q)⟩
theorem bd_assoc {α β γ : Type} (a : M α) (b : α → M β) (d : β → M γ) : bd (bd a b) d = bd a fun x => bd (b x) d := by
  funext h
  unfold bd
  cases a h <;> rfl
section
variable {X : Cx} {E : XK} {pos : Pos}
/-! ### rows of statements -/
def sNil : Env' → M Fl := fun ρ => pr (.nx ρ)
def sSeq (f g : Env' → M Fl) : Env' → M Fl := fun ρ => bd (f ρ) fun x => match x with
  | .nx r => g r
  | x => pr x
theorem mss_nil : JSs X E [] sNil := pss_nil.imp fun D σ H h => by
  obtain ⟨o, ρ, rfl, R, S, h⟩ := h
  exact h.pr R ⟨σ, rfl, S⟩
theorem tS_seq {f g : Env' → M Fl} {D : Ends} {σ : St} {H : Hp} (h : tS (cg X E) (sSeq f g) D σ H) : tSeq (tS (cg X E) f) (tS (cg X E) g) D σ H := by
  obtain ⟨o, ρ, rfl, R, S, h⟩ := h
  refine ⟨o, ρ, rfl, R, S, Ps.bd h fun p x b e1 R1 r1 h1 => ?_⟩
  cases x with
  | nx r => obtain ⟨s, rfl, re⟩ := r1; exact ⟨p, r, rfl, R1, re, h1⟩
  | bk r => have q := h1.pr R1 r1; obtain ⟨s, rfl, re⟩ := r1; exact q
  | ct r => have q := h1.pr R1 r1; obtain ⟨s, rfl, re⟩ := r1; exact q
  | rt r => have q := h1.pr R1 r1; obtain ⟨s, rfl, re⟩ := r1; exact q
theorem mss_cons {st : Stmt} {rest : List Stmt} {f g : Env' → M Fl} (h1 : JS X E st f) (h2 : JSs X E rest g) : JSs X E (st :: rest) (sSeq f g) := (pss_cons h1.h h2.h).imp fun D σ H h => tS_seq h
theorem mss_one {st : Stmt} {f : Env' → M Fl} (h1 : JS X E st f) : JSs X E [st] f := ⟨pss_one h1.h⟩
/-! ### plain statements -/
variable {e : Expr} {f : Env' → M W}
def sSet (i : Nat) (f : Env' → M W) : Env' → M Fl := fun ρ => bd (f ρ) fun w => pr (.nx (ρ.set i (some w)))
theorem ms_set {i : Nat} {x : Str} {pos' : Pos} (hN : X.N.Nodup) (hi : X.N[i]? = some x) (hx : Loc X.env.scope x) (he : JE X E e f) (hs : swapsWith e (some (.Name x pos')) pos.line X.env = pure false := by rfl) (hf : X.fn x = true ∨ X.env.scope.names.lookup x = some .local := by first | exact .inl rfl | exact .inr rfl | assumption) :
    JS X E (.Assign [.Name x pos'] e pos) (sSet i f) := (ps_set hN hi hx he.h hs hf).imp fun D σ H h => by
  obtain ⟨o, ρ, rfl, R, S, h⟩ := h
  exact ⟨o, ρ, rfl, R, S, Ps.bd h fun p x b e1 R1 r1 h1 => Ps.pr (b := FlV.nx (σ.set i (some b))) h1 R1 ⟨_, rfl, (S.mono R e1).set r1 i⟩⟩
def sRet (f : Env' → M W) : Env' → M Fl := fun ρ => bd (f ρ) fun w => pr (.rt w)
theorem ms_ret (he : JE X E e f) : JS X E (.Return (some e) pos) (sRet f) := (ps_ret he.h).imp fun D σ H h => by
  obtain ⟨o, ρ, rfl, R, S, h⟩ := h
  exact ⟨o, ρ, rfl, R, S, Ps.bd h fun p x b e1 R1 r1 h1 => Ps.pr (b := FlV.rt b) h1 R1 ⟨_, rfl, r1⟩⟩
def sEx (f : Env' → M W) : Env' → M Fl := fun ρ => bd (f ρ) fun _ => pr (.nx ρ)
theorem ms_expr (he : JE X E e f) (hs : swapsWith e none pos.line X.env = pure false := by rfl) : JS X E (.Expr e pos) (sEx f) := (ps_expr he.h hs).imp fun D σ H h => by
  obtain ⟨o, ρ, rfl, R, S, h⟩ := h
  exact ⟨o, ρ, rfl, R, S, Ps.bd h fun p x b e1 R1 r1 h1 => Ps.pr (b := FlV.nx σ) h1 R1 ⟨_, rfl, S.mono R e1⟩⟩
def sIf (t : Env' → M Bool) (f g : Env' → M Fl) : Env' → M Fl := fun ρ => bd (t ρ) fun b => if b = true then f ρ else g ρ
theorem ms_if {c : Expr} {a b : List Stmt} {t : Env' → M Bool} {f g : Env' → M Fl} (hc : JT X E c t) (ha : JSs X E a f) (hb : JSs X E b g) : JS X E (.If c a b pos) (sIf t f g) := (ps_if hc.h ha.h hb.h).imp fun D σ H h => by
  obtain ⟨o, ρ, rfl, R, S, h⟩ := h
  refine ⟨o, ρ, rfl, R, S, Ps.bd h fun p x vx e1 R1 r1 h1 => ?_⟩
  subst r1
  cases x with
  | true => exact iteT ⟨p, ρ, rfl, R1, S.mono R e1, h1⟩
  | false => exact iteF ⟨p, ρ, rfl, R1, S.mono R e1, h1⟩
def sPass : Env' → M Fl := fun ρ => pr (.nx ρ)
def sBreak : Env' → M Fl := fun ρ => pr (.bk ρ)
def sCont : Env' → M Fl := fun ρ => pr (.ct ρ)
/-! ### while -/
def whileM (t : Env' → M Bool) (g : Env' → M Fl) : Nat → Env' → M Fl
  | 0, _ => no
  | n + 1, ρ => bd (t ρ) fun b => if b = true then bd (g ρ) fun x => match x with
      | .nx r => whileM t g n r
      | .ct r => whileM t g n r
      | .bk r => pr (.nx r)
      | .rt w => pr (.rt w)
    else pr (.nx ρ)
theorem ms_while (n : Nat) {c : Expr} {body : List Stmt} {t : Env' → M Bool} {g : Env' → M Fl} (hp : PassesOwn (model X.prog X.w) X.A X.env X.xe) (hc : JT X E c t) (hb : JSs X E body g) :
    JS X E (.While c body [] pos) (whileM t g n) := (ps_while hp hc.h hb.h).imp fun D σ H h => by
  obtain ⟨o, ρ, rfl, R, S, h⟩ := h
  refine ⟨fun m σ H => ∃ o ρ, o.H = H ∧ Rel X.K o ∧ Re X.K o ρ σ ∧ Ps (cg X E) (RFl X.K) o (whileM t g m ρ o.h) (DQ D), ⟨n, o, ρ, rfl, R, S, h⟩, ?_⟩
  rintro m σ H ⟨o, ρ, rfl, R, S, h⟩
  cases m with
  | zero => exact h.elim
  | succ m =>
    refine ⟨o, ρ, rfl, R, S, Ps.bd h fun p x vx e1 R1 r1 h1 => ?_⟩
    subst r1
    cases x with
    | false => exact iteF (Ps.pr (b := FlV.nx σ) h1 R1 ⟨_, rfl, S.mono R e1⟩)
    | true =>
      refine iteT ⟨_, fun σ' H' w => ⟨m, Nat.lt_succ_self _, w⟩, p, ρ, rfl, R1, S.mono R e1, Ps.bd h1 fun q x b e2 R2 r2 h2 => ?_⟩
      cases x with
      | nx r => obtain ⟨s, rfl, re⟩ := r2; exact ⟨q, r, rfl, R2, re, h2⟩
      | ct r => obtain ⟨s, rfl, re⟩ := r2; exact ⟨q, r, rfl, R2, re, h2⟩
      | bk r => obtain ⟨s, rfl, re⟩ := r2; exact h2.pr R2 (b := .nx s) ⟨s, rfl, re⟩
      | rt w => obtain ⟨v, rfl, rv⟩ := r2; exact h2.pr R2 (b := .rt v) ⟨v, rfl, rv⟩
/-! ### targets: a name, a tuple of names -/
structure TgOk (K : PySem.W.Frag) (m : Nat) (g : TG) (t : W → Env' → Option Env') : Prop where
  ok : ∀ (o : Wo) (w : W) (v : V) (ρ ρ2 : Env') (σ : St), Rv K o w v → Re K o ρ σ → t w ρ = some ρ2 → ∃ σ2, (∀ Q : St → Hp → Prop, Q σ2 o.H → g v σ o.H Q) ∧ Re K o ρ2 σ2 ∧ σ2.drop m = σ.drop m ∧ σ2.length = σ.length
def tgN (i : Nat) : W → Env' → Option Env' := fun w ρ => some (ρ.set i (some w))
theorem tg_name {K : PySem.W.Frag} (m i : Nat) (h : i < m) : TgOk K m (gName i) (tgN i) := ⟨fun o w v ρ ρ2 σ rv re e => by
  cases e
  exact ⟨_, fun Q q => q, re.set rv i, by rw [List.drop_set_of_lt h], by rw [List.length_set]⟩⟩
def gNs : List Nat → TGs
  | [] => gNil
  | i :: r => gCons (gName i) (gNs r)
def setW : List Nat → List W → Env' → Option Env'
  | [], [], ρ => some ρ
  | i :: r, w :: l, ρ => setW r l (ρ.set i (some w))
  | _, _, _ => none
theorem tg_ns {K : PySem.W.Frag} {m : Nat} {o : Wo} : ∀ (is : List Nat) (l : List W) (vs : List V) (ρ ρ2 : Env') (σ : St), (∀ i ∈ is, i < m) → Rvs K o l vs → Re K o ρ σ → setW is l ρ = some ρ2 → ∃ σ2, (∀ Q : St → Hp → Prop, Q σ2 o.H → gNs is vs σ o.H Q) ∧ Re K o ρ2 σ2 ∧ σ2.drop m = σ.drop m ∧ σ2.length = σ.length
  | [], [], vs, ρ, ρ2, σ, _, rv, re, e => by
    unfold Rvs at rv
    cases e
    exact ⟨σ, fun Q q => ⟨rv, q⟩, re, rfl, rfl⟩
  | [], _ :: _, _, _, _, _, _, _, _, e => by cases e
  | _ :: _, [], _, _, _, _, _, _, _, e => by cases e
  | i :: is, w :: l, vs, ρ, ρ2, σ, hm, rv, re, e => by
    unfold Rvs at rv
    obtain ⟨v, r, rfl, h1, h2⟩ := rv
    obtain ⟨σ2, a, b, c, d⟩ := tg_ns is l r (ρ.set i (some w)) ρ2 (σ.set i (some v)) (fun j hj => hm j (List.mem_cons_of_mem _ hj)) h2 (re.set h1 i) e
    refine ⟨σ2, fun Q q => ⟨v, r, rfl, a Q q⟩, b, ?_, ?_⟩
    · rw [c, List.drop_set_of_lt (hm i List.mem_cons_self)]
    · rw [d, List.length_set]
def tgT (is : List Nat) : W → Env' → Option Env' := fun w ρ => match w with
  | .tup l => setW is l ρ
  | _ => none
theorem setW_len : ∀ {is : List Nat} {l : List W} {ρ ρ2 : Env'}, setW is l ρ = some ρ2 → l.length = is.length
  | [], [], _, _, _ => rfl
  | [], _ :: _, _, _, e => by cases e
  | _ :: _, [], _, _, e => by cases e
  | _ :: is, _ :: l, _, _, e => by rw [List.length_cons, List.length_cons, setW_len (is := is) (l := l) e]
theorem tg_tup {K : PySem.W.Frag} (m : Nat) (is : List Nat) (h : ∀ i ∈ is, i < m) : TgOk K m (gTup K is.length (gNs is)) (tgT is) := ⟨fun o w v ρ ρ2 σ rv re e => by
  cases w with
  | tup l =>
    unfold Rv at rv
    obtain ⟨a, vs, rfl, s, r⟩ := rv
    have e : setW is l ρ = some ρ2 := e
    obtain ⟨σ2, a1, a2, a3, a4⟩ := tg_ns is l vs ρ ρ2 σ h r re e
    exact ⟨σ2, fun Q q => ⟨a, vs, rfl, s, by rw [r.len, setW_len e], a1 Q q⟩, a2, a3, a4⟩
  | _ => cases e⟩
/-! ### sources -/
open Classical in
noncomputable def gdh {α : Type} (G : List Ob → Prop) (m : M α) : M α := fun h => if G h then m h else .bad
theorem gdh_pos {α : Type} {G : List Ob → Prop} {m : M α} {h : List Ob} (q : G h) : gdh G m h = m h := by unfold gdh; rw [if_pos q]
theorem Ps.gdh {α β : Type} {c : Cg} {r : Wo → α → β → Prop} {o : Wo} {G : List Ob → Prop} {m : M α} {Q : β → Hp → Prop} (h : Ps c r o (gdh G m o.h) Q) : G o.h ∧ Ps c r o (m o.h) Q := by
  unfold L2.gdh at h
  by_cases q : G o.h
  · rw [if_pos q] at h; exact ⟨q, h⟩
  · rw [if_neg q] at h; exact h.elim
structure Sr where
  l : List W
  G : List Ob → Prop
structure SrcOk (K : PySem.W.Frag) (o0 : Wo) (J : It) (s : Sr) : Prop where
  stop : ∀ o, Ex o0 o → Rel K o → s.G o.h → J.stop s.l.length o.H
  go : ∀ o i w, Ex o0 o → Rel K o → s.G o.h → s.l[i]? = some w → J.go i o.H ∧ ∀ x H', J.yld i o.H x H' → ∃ p, p.H = H' ∧ p.h = o.h ∧ Ex o p ∧ Rel K p ∧ Rv K p w x
def tI (c : Cg) (src : Env' → M Sr) : TI := fun σ H R => tG c (fun p s J => SrcOk c.K p J s) src σ H R
structure JI (X : Cx) (E : XK) (tg iter : Expr) (f : Env' → M Sr) : Prop where
  h : PI X tg iter (tI (cg X E) f)
theorem PI.imp {tg iter : Expr} {t : TI} {f : Env' → M Sr} (h : PI X tg iter t) (k : ∀ σ H R, tI (cg X E) f σ H R → t σ H R) : JI X E tg iter f := ⟨fun pins s σ H R I q => h pins s σ H R I (k σ H R q)⟩
def srcL (w : W) : M Sr := match w with
  | .tl l => pr ⟨l, fun _ => True⟩
  | .cl l => pr ⟨l, fun _ => True⟩
  | .loc k => fun h => match h[k]? with
    | some (.lst l) => .ok ⟨l, fun h => h[k]? = some (.lst l)⟩ h
    | _ => .bad
  | _ => no
def mSrc (f : Env' → M W) (g : W → M Sr) : Env' → M Sr := fun ρ => bd (f ρ) g
theorem src_list {K : PySem.W.Frag} {o0 : Wo} {a : Addr} {s : Sr} (h : ∀ o, Ex o0 o → Rel K o → s.G o.h → ∃ vs, SqL K o.H a vs ∧ Rvs K o s.l vs) : SrcOk K o0 (Itl K a) s := by
  refine ⟨fun o X R g => ?_, fun o i w X R g e => ?_⟩
  · obtain ⟨vs, s, r⟩ := h o X R g
    exact ⟨vs, s, Nat.le_of_eq r.len⟩
  · obtain ⟨vs, s, r⟩ := h o X R g
    obtain ⟨v, hv, rv⟩ := r.get e
    refine ⟨⟨vs, v, s, hv⟩, fun x H' y => ?_⟩
    obtain ⟨rfl, y⟩ := y
    have : x = v := by have := y vs s; rw [hv] at this; exact (Option.some.inj this).symm
    subst this
    exact ⟨o, rfl, rfl, Ex.refl _, R, rv⟩
theorem mi_list {tg l : Expr} {fl : Env' → M W} (hl : JE X E l fl) : JI X E tg l (mSrc fl srcL) := (pi_list hl.h).imp fun σ H Q h => by
  obtain ⟨o, ρ, rfl, R, S, h⟩ := h
  refine ⟨o, ρ, rfl, R, S, Ps.bd h fun p x vx e1 R1 r1 h1 => ?_⟩
  cases x with
  | tl l =>
    have r1' := r1
    unfold Rv at r1
    obtain ⟨a, vs, rfl, s, n, r⟩ := r1
    refine ⟨a, rfl, ⟨vs, .of s⟩, h1.pr R1 (src_list fun o X R g => ?_)⟩
    exact ⟨vs, .of (X.fr a _ s n).1, r.mono R1 X⟩
  | cl l =>
    unfold Rv at r1
    obtain ⟨a, vs, rfl, s, r⟩ := r1
    have sq : ∀ o, Ex p o → SqL X.K o.H a vs := fun o X => by
      rcases s with ⟨s, n⟩ | s
      · exact .inl (X.rd s n).1
      · exact .inr s
    exact ⟨a, rfl, ⟨vs, sq p (Ex.refl _)⟩, h1.pr R1 (src_list fun o X R g => ⟨vs, sq o X, r.mono R1 X⟩)⟩
  | loc k =>
    unfold Rv at r1
    obtain ⟨hk, rfl⟩ := r1
    unfold srcL at h1
    dsimp only at h1
    split at h1
    · rename_i l hl
      obtain ⟨vs, h3, h4⟩ := R1.ob k _ hl
      refine ⟨_, rfl, ⟨vs, .of h3⟩, Ps.at (p := p) h1 rfl (Ex.refl _) R1 (src_list fun o X R g => ?_)⟩
      obtain ⟨vs', h5, h6⟩ := R.ob k _ g
      rw [X.mu k hk] at h5
      exact ⟨vs', .of h5, h6⟩
    · exact h1.elim
  | _ => exact h1.elim
def srcT (w : W) : M Sr := match w with
  | .tup l => pr ⟨l, fun _ => True⟩
  | _ => no
def intsW (lo : Int) : Nat → List W
  | 0 => []
  | n + 1 => .int lo :: intsW (lo + 1) n
theorem ints_len : ∀ (n : Nat) (lo : Int), (intsW lo n).length = n
  | 0, _ => rfl
  | n + 1, lo => by rw [intsW, List.length_cons, ints_len n]
theorem ints_get : ∀ (n : Nat) (lo : Int) (i : Nat) (w : W), (intsW lo n)[i]? = some w → w = .int (lo + i) ∧ i < n
  | 0, _, _, _, h => by simp [intsW] at h
  | n + 1, lo, 0, w, h => by rw [intsW] at h; cases h; exact ⟨by simp, Nat.succ_pos _⟩
  | n + 1, lo, i + 1, w, h => by
    rw [intsW, List.getElem?_cons_succ] at h
    obtain ⟨e, l⟩ := ints_get n (lo + 1) i w h
    exact ⟨by rw [e]; congr 1; omega, by omega⟩
theorem src_range {K : PySem.W.Frag} {o0 : Wo} {lo : Int} {n : Nat} : SrcOk K o0 (Itr lo n) ⟨intsW lo n, fun _ => True⟩ := by
  refine ⟨fun o X R g => ?_, fun o i w X R g e => ?_⟩
  · show n ≤ (intsW lo n).length
    rw [ints_len]; exact Nat.le_refl _
  · obtain ⟨rfl, hi⟩ := ints_get n lo i w e
    refine ⟨hi, fun x H' y => ?_⟩
    obtain ⟨rfl, rfl⟩ := y
    exact ⟨o, rfl, rfl, Ex.refl _, R, rv_int.mpr rfl⟩
def rng1 (l : List W) : M Sr := match l with
  | [.int j] => gd (-(2 ^ 62) ≤ j ∧ j < 2 ^ 62) (pr ⟨intsW 0 j.toNat, fun _ => True⟩)
  | _ => no
def mSrcA (f : Env' → M (List W)) (g : List W → M Sr) : Env' → M Sr := fun ρ => bd (f ρ) g
theorem mi_range1 {tg a : Expr} {p pos : Pos} {fl : Env' → M (List W)} (hg : Gl X "range") (hm : X.mg "range" = none) (ha : JA X E [a] fl) (hs : starEach [a] X.env = [(false, eval a X.env)] := by rfl) : JI X E tg (.Call (.Name "range" p) [a] [] pos) (mSrcA fl rng1) :=
  (pi_range1 hg hm ha.h hs).imp fun σ H Q h => by
  obtain ⟨o, ρ, rfl, R, S, h⟩ := h
  refine ⟨o, ρ, rfl, R, S, Ps.bd h fun p x vx e1 R1 r1 h1 => ?_⟩
  unfold rng1 at h1
  split at h1
  · obtain ⟨hz, h1⟩ := h1.gd
    unfold Rvs Rvs at r1
    obtain ⟨v, r, rfl, a1, rfl⟩ := r1
    exact ⟨_, by rw [rv_int.mp a1], hz.1, hz.2, h1.pr R1 src_range⟩
  · exact h1.elim
/-! ### for -/
noncomputable def forM (G : List Ob → Prop) (t : W → Env' → Option Env') (g : Env' → M Fl) : List W → Env' → M Fl
  | [], ρ => gdh G (pr (.nx ρ))
  | w :: l, ρ => gdh G (match t w ρ with
    | none => no
    | some r => bd (g r) fun x => match x with
      | .nx r' => forM G t g l r'
      | .ct r' => forM G t g l r'
      | .bk r' => pr (.nx r')
      | .rt v => pr (.rt v))
noncomputable def sFor (src : Env' → M Sr) (t : W → Env' → Option Env') (g : Env' → M Fl) : Env' → M Fl := fun ρ => bd (src ρ) fun s => forM s.G t g s.l ρ
theorem ms_for {tg iter : Expr} {body : List Stmt} {src : Env' → M Sr} {t : W → Env' → Option Env'} {gT : TG} {g : Env' → M Fl} {m : Nat} (hp : PassesOwn (model X.prog X.w) X.A X.env X.xe) (hc : X.calm = true) (hi : JI X E tg iter src) (hg : PG X tg gT) (ht : TgOk X.K m gT t) (hb : JSs X E body g)
    (hs : ∀ x, foldedSetIterable iter X.env x = pure x := by intro _; rfl) : JS X E (.For tg iter body [] pos) (sFor src t g) := (ps_for hp hc hi.h hg hb.h hs).imp fun D σ H h => by
  obtain ⟨o, ρ, rfl, R, S, h⟩ := h
  refine ⟨o, ρ, rfl, R, S, Ps.bd h fun o1 s J e1 R1 sk h1 => ?_⟩
  refine ⟨fun i n σ H => n = s.l.length - i ∧ i ≤ s.l.length ∧ ∃ o ρ, o.H = H ∧ Ex o1 o ∧ Rel X.K o ∧ Re X.K o ρ σ ∧ Ps (cg X E) (RFl X.K) o (forM s.G t g (s.l.drop i) ρ o.h) (DQ D), ⟨_, rfl, Nat.zero_le _, o1, ρ, rfl, Ex.refl _, R1, S.mono R e1, h1⟩, ?_⟩
  rintro i n σ H ⟨rfl, hi, o, ρ, rfl, X1, R, S, h⟩
  by_cases hlt : i < s.l.length
  · obtain ⟨w, hw⟩ : ∃ w, s.l[i]? = some w := ⟨_, List.getElem?_eq_getElem hlt⟩
    have hd : s.l.drop i = w :: s.l.drop (i + 1) := by
      rw [List.drop_eq_getElem_cons hlt]
      rw [List.getElem?_eq_getElem hlt] at hw
      rw [Option.some.inj hw]
    rw [hd] at h
    unfold forM at h
    obtain ⟨hG, h⟩ := h.gdh
    obtain ⟨hgo, hy⟩ := sk.go o i w X1 R hG hw
    refine .inr ⟨hgo, fun σ' H' => ∃ o ρ, o.H = H' ∧ Ex o1 o ∧ Rel X.K o ∧ Re X.K o ρ σ' ∧ Ps (cg X E) (RFl X.K) o (forM s.G t g (s.l.drop (i + 1)) ρ o.h) (DQ D), fun σ' H' q => ⟨_, by omega, rfl, hlt, q⟩, fun x H' y => ?_⟩
    obtain ⟨p, rfl, eh, X2, R2, rv⟩ := hy x H' y
    cases et : t w ρ with
    | none => rw [et] at h; exact h.elim
    | some r =>
      rw [et] at h
      obtain ⟨σ2, k1, k2, _, _⟩ := ht.ok p w x ρ r σ rv (S.mono R X2) et
      refine k1 _ ?_
      have h2 : Ps (cg X E) (RFl X.K) p (bd (g r) (fun x => match x with
        | .nx r' => forM s.G t g (s.l.drop (i + 1)) r'
        | .ct r' => forM s.G t g (s.l.drop (i + 1)) r'
        | .bk r' => pr (.nx r')
        | .rt v => pr (.rt v)) p.h) (DQ D) := by rw [eh]; exact h.after X2
      refine ⟨p, r, rfl, R2, k2, Ps.bd h2 fun q x b e3 R3 r3 h3 => ?_⟩
      cases x with
      | nx r => obtain ⟨s', rfl, re⟩ := r3; exact ⟨q, r, rfl, (X1.trans X2).trans e3, R3, re, h3⟩
      | ct r => obtain ⟨s', rfl, re⟩ := r3; exact ⟨q, r, rfl, (X1.trans X2).trans e3, R3, re, h3⟩
      | bk r => obtain ⟨s', rfl, re⟩ := r3; exact h3.pr R3 (b := .nx s') ⟨s', rfl, re⟩
      | rt w => obtain ⟨v, rfl, rv⟩ := r3; exact h3.pr R3 (b := .rt v) ⟨v, rfl, rv⟩
  · have e : i = s.l.length := by omega
    subst e
    rw [List.drop_length] at h
    unfold forM at h
    obtain ⟨hG, h⟩ := h.gdh
    exact .inl ⟨sk.stop o X1 R hG, Ps.pr (b := FlV.nx σ) h R ⟨σ, rfl, S⟩⟩
end
end L2
set_option maxHeartbeats 1000000
/-! the mirror: comprehensions, more sources, defs -/
namespace L2
open PySem PySem.Spec PyProof.Rows
section
variable {X : Cx} {E : XK} {pos : Pos}
theorem tM_tl {l : Env' → M (List W)} {σ : St} {H : Hp} {Q : VK} (h : tM (cg X E) (mTl l) σ H Q) : tF (cg X E) l σ H Q := by
  obtain ⟨o, ρ, rfl, R, S, h⟩ := h
  exact ⟨o, ρ, rfl, R, S, Ps.bd h fun p x vx e1 R1 r1 h1 => fun q hq => Ps.at (p := ⟨p.mu, p.h, upd p.H q (.lst vx)⟩) h1 rfl (Ex.new hq) (R1.new hq) (Rv.newL R1 hq r1)⟩
theorem tS_set {i : Nat} {f : Env' → M W} {D : Ends} {σ : St} {H : Hp} (h : tS (cg X E) (sSet i f) D σ H) : tAsg (tM (cg X E) f) (gName i) D σ H := by
  obtain ⟨o, ρ, rfl, R, S, h⟩ := h
  exact ⟨o, ρ, rfl, R, S, Ps.bd h fun p x b e1 R1 r1 h1 => Ps.pr (b := FlV.nx (σ.set i (some b))) h1 R1 ⟨_, rfl, (S.mono R e1).set r1 i⟩⟩
/-! ### comprehensions -/
noncomputable def compM (G : List Ob → Prop) (t : W → Env' → Option Env') (f : Env' → M Bool) (e : Env' → M W) (n : Nat) : List W → Env' → M (List W)
  | [], ρ => gdh G (pr [])
  | w :: l, ρ => gdh G (match t w (List.replicate n none ++ ρ) with
    | none => no
    | some r => bd (f r) fun b => if b = true then bd (e r) fun x => bd (compM G t f e n l ρ) fun m => pr (x :: m) else compM G t f e n l ρ)
noncomputable def mComp (hs : List Nat) (src : Env' → M Sr) (t : W → Env' → Option Env') (f : Env' → M Bool) (e : Env' → M W) (n : Nat) : Env' → M (List W) := fun ρ =>
  gd ((hs.all fun i => (ρ[i]?.join).isNone) = true) (bd (src ρ) fun s => gd (s.l.length ≤ sizeLine) (compM s.G t f e n s.l ρ))
variable {elt iter tg : Expr} {ifs : List Expr} {scope : Scope} {ls : List Str} {gT : TG} {t : W → Env' → Option Env'} {f : Env' → M Bool} {e : Env' → M W} {src : Env' → M Sr} {hs : List Nat} {wh : Prop}
theorem tF_comp (ht : TgOk X.K ls.length gT t) {σ : St} {H : Hp} {Q : VK} (h : tF (cg X E) (mComp hs src t f e ls.length) σ H Q) : tComp X.N ls (tI (cg X E) src) gT (tT (cg X E) f) (tM (cg X E) e) σ H Q := by
  obtain ⟨o, ρ, rfl, R, S, h⟩ := h
  unfold mComp at h
  obtain ⟨h0, h⟩ := h.gd
  refine ⟨rfl, o, ρ, rfl, R, S, Ps.bd h fun o1 s J e1 R1 sk h1 => ?_⟩
  obtain ⟨hz, h1⟩ := h1.gd
  have S1 := S.mono R e1
  refine ⟨fun i n ys H => n = s.l.length - i ∧ i ≤ s.l.length ∧ ∃ o acc, o.H = H ∧ Ex o1 o ∧ Rel X.K o ∧ Rvs X.K o acc ys ∧ acc.length ≤ i ∧ Ps (cg X E) (Rvs X.K) o (bd (compM s.G t f e ls.length (s.l.drop i) ρ) (fun m => pr (acc ++ m)) o.h) (fun vs H1 => ∀ q, H1 q = none → Q (.ref q) (upd H1 q (.lst vs))),
    ⟨_, rfl, Nat.zero_le _, o1, [], rfl, Ex.refl _, R1, Rvs.nil, Nat.le_refl _, ?_⟩, ?_⟩
  · have : bd (compM s.G t f e ls.length (s.l.drop 0) ρ) (fun m => pr ([] ++ m)) = compM s.G t f e ls.length s.l ρ := by
      funext h
      rw [List.drop_zero]
      unfold bd
      cases compM s.G t f e ls.length s.l ρ h <;> rfl
    rw [this]; exact h1
  rintro i n ys H ⟨rfl, hi, o, acc, rfl, X1, R, A, ha, h⟩
  have S2 := S1.mono R1 X1
  have gs : ∀ {α β γ : Type} {r : Wo → β → γ → Prop} {m : M α} {k : α → M β} {Q' : γ → Hp → Prop}, Ps (cg X E) r o (bd (gdh s.G m) k o.h) Q' → s.G o.h ∧ Ps (cg X E) r o (bd m k o.h) Q' := fun {α β γ r m k Q'} q => by
    have : bd (gdh s.G m) k o.h = gdh s.G (bd m k) o.h := by
      unfold bd L2.gdh
      by_cases z : s.G o.h
      · simp only [if_pos z]
      · simp only [if_neg z]
    rw [this] at q
    exact q.gdh
  by_cases hlt : i < s.l.length
  · obtain ⟨w, hw⟩ : ∃ w, s.l[i]? = some w := ⟨_, List.getElem?_eq_getElem hlt⟩
    have hd : s.l.drop i = w :: s.l.drop (i + 1) := by
      rw [List.drop_eq_getElem_cons hlt]
      rw [List.getElem?_eq_getElem hlt] at hw
      rw [Option.some.inj hw]
    rw [hd] at h
    unfold compM at h
    obtain ⟨hG, h⟩ := gs h
    obtain ⟨hgo, hy⟩ := sk.go o i w X1 R hG hw
    refine .inr ⟨hgo, fun ys' H' => ∃ o acc, o.H = H' ∧ Ex o1 o ∧ Rel X.K o ∧ Rvs X.K o acc ys' ∧ acc.length ≤ i + 1 ∧ Ps (cg X E) (Rvs X.K) o (bd (compM s.G t f e ls.length (s.l.drop (i + 1)) ρ) (fun m => pr (acc ++ m)) o.h) (fun vs H1 => ∀ q, H1 q = none → Q (.ref q) (upd H1 q (.lst vs))), fun ys' H' q => ⟨_, by omega, rfl, hlt, q⟩, fun x H' y => ?_⟩
    obtain ⟨p, rfl, eh, X2, R2, rv⟩ := hy x H' y
    cases et : t w (List.replicate ls.length none ++ ρ) with
    | none => rw [et] at h; exact h.elim
    | some r =>
      rw [et] at h
      obtain ⟨σ2, k1, k2, k3, k4⟩ := ht.ok p w x _ r (List.replicate ls.length none ++ σ) rv ((S2.mono R X2).front _) et
      refine k1 _ ⟨?_, ?_, ?_⟩
      · rw [k3, List.drop_left' (by rw [List.length_replicate])]
      · rw [k4, List.length_append, List.length_replicate]
      have h2 : Ps (cg X E) (Rvs X.K) p (bd (f r) (fun b => bd (if b = true then bd (e r) fun x => bd (compM s.G t f e ls.length (s.l.drop (i + 1)) ρ) fun m => pr (x :: m) else compM s.G t f e ls.length (s.l.drop (i + 1)) ρ) fun m => pr (acc ++ m)) p.h) (fun vs H1 => ∀ q, H1 q = none → Q (.ref q) (upd H1 q (.lst vs))) := by
        rw [eh]
        rw [bd_assoc] at h
        exact h.after X2
      refine ⟨p, r, rfl, R2, k2, Ps.bd h2 fun q b vb e3 R3 r3 h3 => ?_⟩
      subst r3
      have A3 := (A.mono R X2).mono R2 e3
      cases b with
      | false =>
        exact iteF ⟨q, acc, rfl, (X1.trans X2).trans e3, R3, A3, by omega, h3⟩
      | true =>
        rw [if_pos rfl, bd_assoc] at h3
        refine iteT ⟨q, r, rfl, R3, k2.mono R2 e3, Ps.bd h3 fun q2 x vx e4 R4 r4 h4 => ⟨?_, q2, acc ++ [x], rfl, ((X1.trans X2).trans e3).trans e4, R4, (A3.mono R3 e4).app (Rvs.cons r4 Rvs.nil), ?_, ?_⟩⟩
        · rw [(A3.mono R3 e4).len]; omega
        · rw [List.length_append, List.length_singleton]; omega
        · rw [bd_assoc] at h4
          have ee : (fun m => bd (pr (x :: m)) fun m => pr (acc ++ m)) = (fun m : List W => (pr (acc ++ [x] ++ m) : M (List W))) := by
            funext m h
            show Rs.ok (acc ++ (x :: m)) h = Rs.ok (acc ++ [x] ++ m) h
            rw [List.append_assoc]; rfl
          rw [ee] at h4
          exact h4
  · have ei : i = s.l.length := by omega
    subst ei
    rw [List.drop_length] at h
    unfold compM at h
    obtain ⟨hG, h⟩ := gs h
    have h : Ps (cg X E) (Rvs X.K) o (pr (acc ++ []) o.h) (fun vs H1 => ∀ q, H1 q = none → Q (.ref q) (upd H1 q (.lst vs))) := h
    rw [List.append_nil] at h
    exact .inl ⟨sk.stop o X1 R hG, h.pr R A⟩
structure JQ (X : Cx) (E : XK) (ifs : List Expr) (f : Env' → M Bool) : Prop where
  h : PIfs X ifs (tT (cg X E) f)
def mYes : Env' → M Bool := fun _ => pr true
theorem mif_nil : JQ X E [] mYes := ⟨fun pins s σ H Q I h => pif_nil pins s σ H Q I (by
  obtain ⟨o, ρ, rfl, R, S, h⟩ := h
  exact Ps.pr (b := true) h R rfl)⟩
theorem mf_comp (hcalm : X.calm = true) (S : CScope X ls scope) (hi : JI X E tg iter src) (hg : ∀ C s2 H2 fp, PG (cxC X ls scope C s2 H2 fp) tg gT) (ht : TgOk X.K ls.length gT t)
    (hf : ∀ C s2 H2 fp, JQ (cxC X ls scope C s2 H2 fp) E ifs f) (he : ∀ C s2 H2 fp, JE (cxC X ls scope C s2 H2 fp) E elt e) (hh : wh)
    (hs' : ∀ x, foldedSetIterable iter X.env x = pure x := by intro _; rfl) : JF X E (.ListComp elt [⟨tg, iter, ifs, 0⟩] scope pos) (mComp hs src t f e ls.length) :=
  (pe_comp hcalm S hi.h hg (fun C s2 H2 fp => (hf C s2 H2 fp).h) (fun C s2 H2 fp => (he C s2 H2 fp).h) hs').impF fun σ H Q h => tF_comp ht h
theorem ms_setTl {i : Nat} {x : Str} {px spos : Pos} (hN : X.N.Nodup) (hx1 : X.N[i]? = some x) (hx : X.env.scope.names.lookup x = some .local) (hcalm : X.calm = true) (S : CScope X ls scope) (hi : JI X E tg iter src) (hg : ∀ C s2 H2 fp, PG (cxC X ls scope C s2 H2 fp) tg gT) (ht : TgOk X.K ls.length gT t)
    (hf : ∀ C s2 H2 fp, JQ (cxC X ls scope C s2 H2 fp) E ifs f) (he : ∀ C s2 H2 fp, JE (cxC X ls scope C s2 H2 fp) E elt e) (hh : wh)
    (hsw : swapsWith (.ListComp elt [⟨tg, iter, ifs, 0⟩] scope pos) (some (.Name x px)) spos.line X.env = pure true := by rfl)
    (hs' : ∀ x, foldedSetIterable iter X.env x = pure x := by intro _; rfl) : JS X E (.Assign [.Name x px] (.ListComp elt [⟨tg, iter, ifs, 0⟩] scope pos) spos) (sSet i (mTl (mComp hs src t f e ls.length))) :=
  (ps_setComp hN hx1 hx hcalm S hi.h hg (fun C s2 H2 fp => (hf C s2 H2 fp).h) (fun C s2 H2 fp => (he C s2 H2 fp).h) hsw hs').imp fun D σ H h => tF_comp ht (tM_tl (tS_set h))
end
end L2
set_option maxHeartbeats 1000000
/-! the mirror: Python's own functions and methods, stores, defs -/
namespace L2
open PySem PySem.Spec PyProof.Rows
section
variable {X : Cx} {E : XK} {pos p : Pos} {a b : Expr} {l : Env' → M (List W)}
theorem Rvs.one {K : PySem.W.Frag} {o : Wo} {w : W} {vs : List V} (h : Rvs K o [w] vs) : ∃ v, vs = [v] ∧ Rv K o w v := by
  unfold Rvs Rvs at h; obtain ⟨v, r, rfl, h1, rfl⟩ := h; exact ⟨v, rfl, h1⟩
theorem Rvs.two {K : PySem.W.Frag} {o : Wo} {w x : W} {vs : List V} (h : Rvs K o [w, x] vs) : ∃ v u, vs = [v, u] ∧ Rv K o w v ∧ Rv K o x u := by
  unfold Rvs Rvs Rvs at h; obtain ⟨v, r, rfl, h1, u, r2, rfl, h2, rfl⟩ := h; exact ⟨v, u, rfl, h1, h2⟩
/-! ### len -/
def lenW (ws : List W) : M W := match ws with
  | [.str z] => gd (z.length ≤ sizeLine) (pr (.int z.length))
  | [.tup l] => pr (.int l.length)
  | [w] => bd (lstOf w) fun l => pr (.int l.length)
  | _ => no
theorem cm_len : CallM X E (fun xs H Q => (fun xs H Q => ∃ z, xs = [.str z] ∧ z.length ≤ sizeLine ∧ Q (.int z.length) H) xs H Q ∨ (fun xs H Q => ∃ p ys, xs = [.ref p] ∧ (SqL X.K H p ys ∨ SqT X.K H p ys) ∧ Q (.int ys.length) H) xs H Q) lenW := by
  intro o ws vs Q R rv h
  unfold lenW at h
  split at h
  · obtain ⟨v, rfl, r⟩ := rv.one
    obtain ⟨hz, h⟩ := h.gd
    exact .inl ⟨_, by rw [rv_str.mp r], hz, h.pr R (rv_int.mpr rfl)⟩
  · obtain ⟨v, rfl, r⟩ := rv.one
    unfold Rv at r
    obtain ⟨a, us, rfl, s, r⟩ := r
    exact .inr ⟨a, us, rfl, .inr s, by rw [r.len]; exact h.pr R (rv_int.mpr rfl)⟩
  · obtain ⟨v, rfl, r⟩ := rv.one
    obtain ⟨l, a, us, rfl, s, r, h⟩ := lstOf_ps R r h
    exact .inr ⟨a, us, rfl, .inl s, by rw [r.len]; exact h.pr R (rv_int.mpr rfl)⟩
  · exact h.elim
theorem me_len (hm : X.mg "len" = none) (ha : JA X E [a] l) (hg : Gl X "len" := by rfl) (he : starEach [a] X.env = (false, eval a X.env) :: starEach [] X.env := by rfl) (hpl : (backTo pos (starEach [] X.env)).any (·.1) = false := by rfl) : JE X E (.Call (.Name "len" p) [a] [] pos) (mCall lenW l) :=
  me_callB (call_len_str.or call_len_seq) cm_len hg hm PySem.boot_len ha (he := he) (hpl := hpl)
/-! ### int, str -/
/-! ### abs, max, min of two -/
def absW (ws : List W) : M W := match ws with
  | [.int i] => pr (.int (if i < 0 then -i else i))
  | _ => no
theorem me_abs (hm : X.mg "abs" = none) (ha : JA X E [a] l) (hg : Gl X "abs" := by rfl) (he : starEach [a] X.env = (false, eval a X.env) :: starEach [] X.env := by rfl) (hpl : (backTo pos (starEach [] X.env)).any (·.1) = false := by rfl) : JE X E (.Call (.Name "abs" p) [a] [] pos) (mCall absW l) :=
  me_callB call_abs (fun o ws vs Q R rv h => by
    unfold absW at h
    split at h
    · obtain ⟨v, rfl, r⟩ := rv.one
      exact ⟨_, by rw [rv_int.mp r], h.pr R (rv_int.mpr rfl)⟩
    · exact h.elim) hg hm PyProof.Rows.boot_abs ha (he := he) (hpl := hpl)
def maxW (ws : List W) : M W := match ws with
  | [.int i, .int j] => pr (.int (if j > i then j else i))
  | _ => no
theorem me_max (hc : X.calm = true) (hm : X.mg "max" = none) (ha : JA X E [a, b] l) (hg : Gl X "max" := by rfl) (he : starEach [a, b] X.env = (false, eval a X.env) :: starEach [b] X.env := by rfl) (hpl : (backTo pos (starEach [b] X.env)).any (·.1) = false := by rfl) : JE X E (.Call (.Name "max" p) [a, b] [] pos) (mCall maxW l) :=
  me_callB (call_max2 hc) (fun o ws vs Q R rv h => by
    unfold maxW at h
    split at h
    · obtain ⟨v, u, rfl, r1, r2⟩ := rv.two
      exact ⟨_, _, by rw [rv_int.mp r1, rv_int.mp r2], h.pr R (rv_int.mpr rfl)⟩
    · exact h.elim) hg hm PyProof.Rows.boot_max ha (he := he) (hpl := hpl)
/-! ### sum, all -/
def iOf : W → Option Int
  | .int i => some i
  | _ => none
def sOf : W → Option Str
  | .str i => some i
  | _ => none
/-! ### tuple, list -/
def tupleW (ws : List W) : M W := match ws with
  | [.tup l] => pr (.tup l)
  | [w] => bd (lstOf w) fun l => pr (.tup l)
  | _ => no
def listL (l : Env' → M (List W)) : Env' → M (List W) := fun ρ => bd (l ρ) fun ws => match ws with
  | [.tup l] => pr l
  | [w] => lstOf w
  | _ => no
theorem lstOf_pr {o : Wo} {w : W} {v : V} {Q : List V → Hp → Prop} (R : Rel X.K o) (hr : Rv X.K o w v) (h : Ps (cg X E) (Rvs X.K) o (lstOf w o.h) Q) : ∃ l a vs, v = .ref a ∧ SqL X.K o.H a vs ∧ Rvs X.K o l vs ∧ Q vs o.H := by
  have e : lstOf w = bd (lstOf w) fun l => pr l := by
    funext h
    unfold bd
    cases lstOf w h <;> rfl
  rw [e] at h
  obtain ⟨l, a, vs, e1, e2, e3, h⟩ := lstOf_ps R hr h
  exact ⟨l, a, vs, e1, e2, e3, h.pr R e3⟩
theorem mf_list (hm : X.mg "list" = none) (ha : JA X E [a] l) (hg : Gl X "list" := by rfl) (he : starEach [a] X.env = (false, eval a X.env) :: starEach [] X.env := by rfl) (hpl : (backTo pos (starEach [] X.env)).any (·.1) = false := by rfl) : JF X E (.Call (.Name "list" p) [a] [] pos) (listL l) :=
  (pe_callTy call_list_of hg hm PyProof.Rows.boot_list ha.h (he := he) (hpl := hpl)).impF fun σ H Q h => by
    obtain ⟨o, ρ, rfl, R, S, h⟩ := h
    refine ⟨o, ρ, rfl, R, S, Ps.bd h fun p x vx e1 R1 r1 h1 => ?_⟩
    split at h1
    · obtain ⟨v, rfl, r⟩ := r1.one
      unfold Rv at r
      obtain ⟨a, us, rfl, s, r⟩ := r
      exact ⟨a, us, rfl, .inr s, h1.pr R1 r⟩
    · obtain ⟨v, rfl, r⟩ := r1.one
      obtain ⟨l, a, us, rfl, s, r, q⟩ := lstOf_pr R1 r h1
      exact ⟨a, us, rfl, .inl s, q⟩
    · exact h1.elim
/-! ### join -/
def isS (w : W) : M W := match w with
  | .str z => pr (.str z)
  | _ => no
def mMeth (chk : W → M W) (f : W → List W → M W) (fo : Env' → M W) (l : Env' → M (List W)) : Env' → M W := fun ρ => bd (fo ρ) fun x => bd (chk x) fun x => bd (l ρ) fun ws => f x ws
variable {o e : Expr} {es : List Expr} {apos cpos : Pos} {fo : Env' → M W}
/-! ### append, pop -/
def isL (w : W) : M W := match w with
  | .loc k => fun h => match h[k]? with
    | some (.lst _) => .ok (.loc k) h
    | _ => .bad
  | _ => no
theorem isL_ps {α β : Type} {r : Wo → α → β → Prop} {o : Wo} {w : W} {v : V} {k : W → M α} {Q : β → Hp → Prop} (R : Rel X.K o) (hr : Rv X.K o w v) (h : Ps (cg X E) r o (bd (isL w) k o.h) Q) :
    ∃ j l vs, w = .loc j ∧ o.h[j]? = some (.lst l) ∧ v = .ref (o.mu j) ∧ j < o.h.length ∧ o.H (o.mu j) = some (.lst vs) ∧ Rvs X.K o l vs ∧ Ps (cg X E) r o (k (.loc j) o.h) Q := by
  cases w with
  | loc j =>
    unfold Rv at hr
    unfold isL bd at h
    cases e : o.h[j]? with
    | none => simp only [e] at h; exact h.elim
    | some b =>
      cases b with
      | lst l =>
        simp only [e] at h
        obtain ⟨vs, h1, h2⟩ := R.ob j _ e
        exact ⟨j, l, vs, rfl, e, hr.2, hr.1, h1, h2, h⟩
      | _ => simp only [e] at h; exact h.elim
  | _ => exact h.elim
def appendW (x : W) (ws : List W) : M W := match x, ws with
  | .loc k, [w] => fun h => match h[k]? with
    | some (.lst l) => if l.length < sizeLine then .ok .non (h.set k (.lst (l ++ [w]))) else .bad
    | _ => .bad
  | _, _ => no
theorem me_append (ho : JE X E o fo) (ha : JA X E [e] l) (hbase : attributeBase o "append" X.env (eval o X.env) = eval o X.env := by rfl)
    (hfew : ((backTo cpos (starEach [e] X.env)).all (fun x => !x.1) && (backToKw cpos (keywordEach [] X.env)).all (fun x => x.1.isSome) && decide (([e] : List Expr).length + ([] : List Keyword).length + (if ([] : List Keyword).isEmpty then 0 else 1) < 30)) = true := by rfl)
    (hline : (apos.endLine == cpos.line) = true := by rfl) (hs : starEach [e] X.env = (false, eval e X.env) :: starEach [] X.env := by rfl) (hplain : (backTo cpos (starEach [] X.env)).any (·.1) = false := by rfl) :
    JE X E (.Call (.Attribute o "append" apos) [e] [] cpos) (mMeth isL appendW fo l) :=
  (pe_bm PySem.F.plainAttrs_list PySem.F.slot_list_append PySem.F.type_list_append mt_append ho.h ha.h hbase hfew hline hs hplain).imp fun σ H Q h => by
    obtain ⟨w, ρ, rfl, R, S, h⟩ := h
    refine ⟨w, ρ, rfl, R, S, Ps.bd h fun p x vx e1 R1 r1 h1 => ?_⟩
    obtain ⟨j, l0, vs0, rfl, hj, rfl, hlt, hH, hl0, h1⟩ := isL_ps R1 r1 h1
    refine ⟨.inl ⟨rfl, vs0, .of hH⟩, p, ρ, rfl, R1, S.mono R e1, Ps.bd h1 fun q ws vs e2 R2 r2 h2 => ?_⟩
    rcases ws with _ | ⟨w', _ | ⟨_, _⟩⟩
    · exact h2.elim
    · unfold appendW at h2
      cases e : q.h[j]? with
      | none => simp only [e] at h2; exact h2.elim
      | some b =>
        cases b with
        | lst l' =>
          simp only [e] at h2
          obtain ⟨v, rfl, r⟩ := r2.one
          obtain ⟨us, k1, k2⟩ := R2.ob j _ e
          by_cases z : l'.length < sizeLine
          · rw [if_pos z] at h2
            rw [e2.mu j hlt] at k1
            refine ⟨p.mu j, us, v, rfl, rfl, k1, by rw [k2.len]; exact z, ?_⟩
            have := Ps.at (p := q.put j (.lst (l' ++ [w'])) (.lst (us ++ [v]))) (b := V.non) h2 rfl (Ex.put e (by simp)) (R2.putL e (by simp) (k2.app (Rvs.cons r Rvs.nil))) (rv_non.mpr rfl)
            have em : q.mu j = p.mu j := e2.mu j hlt
            have ew : (q.put j (.lst (l' ++ [w'])) (.lst (us ++ [v]))).H = upd q.H (p.mu j) (.lst (us ++ [v])) := by
              show upd q.H (q.mu j) _ = _
              rw [em]
            rw [ew] at this
            exact this
          · rw [if_neg z] at h2; exact h2.elim
        | _ => simp only [e] at h2; exact h2.elim
    · exact h2.elim
/-! ### freezing: the list at a place is given up and stays as it is -/
def iceW (w : W) : M W := match w with
  | .loc k => fun h => match h[k]? with
    | some (.lst l) => .ok (.tl l) (h.set k .gone)
    | some (.dic ks ws) => .ok (.dv ks ws) (h.set k .gone)
    | _ => .bad
  | w => pr w
theorem tM_ice {f : Env' → M W} {σ : St} {H : Hp} {Q : VK} (h : tM (cg X E) (m1 iceW f) σ H Q) : tM (cg X E) f σ H Q := by
  obtain ⟨o, ρ, rfl, R, S, h⟩ := h
  refine ⟨o, ρ, rfl, R, S, Ps.bd h fun p x vx e1 R1 r1 h1 => ?_⟩
  cases x with
  | loc k =>
    unfold Rv at r1
    obtain ⟨_, rfl⟩ := r1
    unfold iceW at h1
    dsimp only at h1
    split at h1
    · rename_i l hl
      exact Ps.at (p := p.ice k) h1 rfl Ex.ice R1.ice (Rv.iceL R1 hl)
    · rename_i ks ws hl
      exact Ps.at (p := p.ice k) h1 rfl Ex.ice R1.ice (Rv.iceD R1 hl)
    · exact h1.elim
  | _ => exact Ps.pr (c := cg X E) h1 R1 r1
theorem me_ice {f : Env' → M W} {e : Expr} (h : JE X E e f) : JE X E e (m1 iceW f) := h.h.imp fun _ _ _ q => tM_ice q
/-! ### xs[i] = v, d[k] = v -/
def mapAt : List Key → List W → Key → W → List W
  | k :: ks, w :: ws, x, y => (if k = x then y else w) :: mapAt ks ws x y
  | _, _, _, _ => []
def putW (ks : List Key) (ws : List W) (x : Key) (y : W) : List Key × List W := if (ks.any fun k => decide (k = x)) = true then (ks, mapAt ks ws x y) else (ks ++ [x], ws ++ [y])
def storeW (x i v : W) : M Unit := match x with
  | .loc k => fun h => match h[k]? with
    | some (.lst l) => match i with
      | .int n => match ixN l.length n with
        | some j => .ok () (h.set k (.lst (l.set j v)))
        | none => .bad
      | _ => .bad
    | some (.dic ks ws) => match keyOf i with
      | some q => if ks.length < sizeLine then .ok () (h.set k (.dic (putW ks ws q v).1 (putW ks ws q v).2)) else .bad
      | none => .bad
    | _ => .bad
  | _ => no
def rSetD : TSet := fun o i v H Q => ∃ a H', o = .ref a ∧ DPut H a i v H' ∧ Q H'
theorem set_dict (hu : X.A.units + 1 < cLine) : PSet X rSetD := by
  intro pins s σ H o i v ov iv u Q I ro ri rv h
  obtain ⟨a, H', rfl, g, q⟩ := h
  cases ro
  exact d_setItem hu I g ri rv fun s4 I4 => ⟨H', I4, q⟩
theorem PSet.or {t t' : TSet} (h : PSet X t) (h' : PSet X t') : PSet X (fun o i v H Q => t o i v H Q ∨ t' o i v H Q) := by
  intro pins s σ H o i v ov iv u Q I ro ri rv q
  rcases q with q | q
  · exact h pins s σ H o i v ov iv u Q I ro ri rv q
  · exact h' pins s σ H o i v ov iv u Q I ro ri rv q
theorem mapAt_rv {K : PySem.W.Frag} {o : Wo} {x : Key} {y : W} {v : V} (hy : Rv K o y v) : ∀ {ks : List Key} {ws : List W} {kvs : List (Key × V)}, kvs.map (·.1) = ks → Rvs K o ws (kvs.map (·.2)) → Rvs K o (mapAt ks ws x y) ((kvs.map fun kv => if kv.1 = x then (kv.1, v) else kv).map (·.2))
  | _, ws, [], e, h => by subst e; unfold mapAt; exact Rvs.nil
  | _, ws, (k, u) :: r, e, h => by
    subst e
    cases ws with
    | nil => unfold Rvs at h; cases h
    | cons w ws =>
      unfold Rvs at h
      obtain ⟨u', r', e', h1, h2⟩ := h
      cases e'
      have ih := mapAt_rv (x := x) hy (ks := r.map (·.1)) (ws := ws) (kvs := r) rfl h2
      show Rvs K o ((if k = x then y else w) :: mapAt (r.map (·.1)) ws x y) ((if k = x then (k, v) else (k, u)).2 :: _)
      by_cases z : k = x
      · rw [if_pos z, if_pos z]; exact Rvs.cons hy ih
      · rw [if_neg z, if_neg z]; exact Rvs.cons h1 ih
theorem putW_rv {K : PySem.W.Frag} {o : Wo} {x : Key} {y : W} {v : V} {ks : List Key} {ws : List W} {kvs : List (Key × V)} (hy : Rv K o y v) (hk : kvs.map (·.1) = ks) (h : Rvs K o ws (kvs.map (·.2))) :
    (putK kvs x v).map (·.1) = (putW ks ws x y).1 ∧ Rvs K o (putW ks ws x y).2 ((putK kvs x v).map (·.2)) := by
  subst hk
  have ea : ((kvs.map (·.1)).any fun k => decide (k = x)) = (kvs.any fun kv => decide (kv.1 = x)) := by rw [List.any_map]; rfl
  unfold putK putW
  rw [ea]
  by_cases z : (kvs.any fun kv => decide (kv.1 = x)) = true
  · rw [if_pos z, if_pos z]
    refine ⟨?_, mapAt_rv hy rfl h⟩
    rw [List.map_map]
    refine List.map_congr_left fun kv _ => ?_
    show (if kv.1 = x then (kv.1, v) else kv).1 = kv.1
    split <;> rfl
  · rw [if_neg z, if_neg z]
    refine ⟨by simp, ?_⟩
    show Rvs K o (ws ++ [y]) ((kvs ++ [(x, v)]).map (·.2))
    rw [List.map_append]
    exact h.app (Rvs.cons hy Rvs.nil)
def sStore (fo fi fv : Env' → M W) : Env' → M Fl := fun ρ => bd (fv ρ) fun v => bd (fo ρ) fun x => bd (fi ρ) fun i => bd (storeW x i v) fun _ => pr (.nx ρ)
variable {i value : Expr} {tpos : Pos} {fi fv : Env' → M W}
theorem ms_store (hu : X.A.units + 1 < cLine) (ho : JE X E o fo) (hi : JE X E i fi) (hv : JE X E value fv)
    (ha : ∀ v, assign (.Subscript o i tpos) X.env v = (do
      let ov ← holding [v] (eval o X.env)
      let iv ← holding [v, ov] (eval i X.env)
      standAt tpos
      holding [v, ov, iv] (setItem ov iv v)
      release [v, ov, iv] []) := by intro _; rfl)
    (hs : swapsWithSole [.Subscript o i tpos] value pos.line X.env = pure false := by rfl) (hw : swappedStores [.Subscript o i tpos] value X.env = pure none := by rfl)
    (h1 : (assignEach [.Subscript o i tpos] X.env).map (·.2) = [assign (.Subscript o i tpos) X.env] := by rfl) : JS X E (.Assign [.Subscript o i tpos] value pos) (sStore fo fi fv) :=
  (ps_asg hv.h (pg_sub ho.h hi.h (set_list.or (set_dict hu)) ha) hs hw h1).imp fun D σ H h => by
    obtain ⟨w, ρ, rfl, R, S, h⟩ := h
    refine ⟨w, ρ, rfl, R, S, Ps.bd h fun p v vv e1 R1 r1 h1 => ⟨p, ρ, rfl, R1, S.mono R e1, Ps.bd h1 fun q x vx e2 R2 r2 h2 => ⟨q, ρ, rfl, R2, (S.mono R e1).mono R1 e2, Ps.bd h2 fun s i vi e3 R3 r3 h3 => ?_⟩⟩⟩
    have S3 := ((S.mono R e1).mono R1 e2).mono R2 e3
    have rv := (r1.mono R1 e2).mono R2 e3
    have rx := r2.mono R2 e3
    cases x with
    | loc k =>
      unfold Rv at rx
      obtain ⟨hk, rfl⟩ := rx
      unfold storeW bd at h3
      cases e : s.h[k]? with
      | none => simp only [e] at h3; exact h3.elim
      | some b =>
        cases b with
        | ins c ns ws => simp only [e] at h3; exact h3.elim
        | gone => simp only [e] at h3; exact h3.elim
        | lst l =>
          simp only [e] at h3
          cases i with
          | int n =>
            simp only at h3
            cases ej : ixN l.length n with
            | none => simp only [ej] at h3; exact h3.elim
            | some j =>
              simp only [ej] at h3
              obtain ⟨us, k1, k2⟩ := R3.ob k _ e
              refine .inl ⟨_, us, n, j, rfl, rv_int.mp r3, k1, by rw [k2.len]; exact ej, ?_⟩
              exact Ps.at (p := s.put k (.lst (l.set j v)) (.lst (us.set j vv))) (b := FlV.nx σ) h3 rfl (Ex.put e (by simp)) (R3.putL e (by simp) (k2.set rv j)) ⟨σ, rfl, S3.mono R3 (Ex.put e (by simp))⟩
          | _ => exact h3.elim
        | dic ks ws =>
          simp only [e] at h3
          cases ej : keyOf i with
          | none => simp only [ej] at h3; exact h3.elim
          | some x =>
            simp only [ej] at h3
            by_cases z : ks.length < sizeLine
            · simp only [if_pos z] at h3
              obtain ⟨kvs, k1, k2, k3⟩ := R3.ob k _ e
              rw [keyOf_rv ej r3]
              obtain ⟨b1, b2⟩ := putW_rv (x := x) rv k2 k3
              refine .inr ⟨_, _, rfl, .inl ⟨kvs, x, k1, rfl, by rw [← k2, List.length_map] at z; exact z, rfl⟩, ?_⟩
              exact Ps.at (p := s.put k (.dic (putW ks ws x v).1 (putW ks ws x v).2) (.dK (putK kvs x vv))) (b := FlV.nx σ) h3 rfl (Ex.put e (by simp)) (R3.putD e (by simp) b1 b2) ⟨σ, rfl, S3.mono R3 (Ex.put e (by simp))⟩
            · simp only [if_neg z] at h3; exact h3.elim
    | _ => exact h3.elim
end
end L2
set_option maxHeartbeats 1000000
/-! the mirror: defs, more sources, isinstance, dicts -/
namespace L2
open PySem PySem.Spec PyProof.Rows
/-! ### defs -/
def runF (n : Nat) (g : Env' → M Fl) (ws : List W) : M W := bd (g (ws.map some ++ List.replicate (n - ws.length) none)) fun x => match x with
  | .rt w => pr w
  | .nx _ => pr .non
  | _ => no
section
variable {P : Program} {w : World} {K : PySem.W.Frag} {mg : Str → Option Value} {base : Heap} {x qual : Str} {st : Stmt} {f : Addr} {fd : FuncData} {N ps : List Str} {k : Nat} {g : Env' → M Fl}
/-- a def's promise, no exception leaves it -/
def spM0 (K : PySem.W.Frag) (mg : Str → Option Value) (n : Nat) (f : List W → M W) : Sp := fun vs H Q _ => ∃ o ws, o.H = H ∧ ws.length = n ∧ Rel K o ∧ Rvs K o ws vs ∧ Ps ⟨K, mg, E0⟩ (Rv K) o (f ws o.h) Q
theorem def_m {n m : Nat} {fn : List W → M W} (F : Fun K x qual st f fd) (S : FnScope N ps (defScope st)) (hn : N.length = n) (hm : ps.length = m) (hf : fn = runF n g)
    (hb : ∀ (cdv : Value) (A : Around) (outer : List Env) (s : Shared) (H : Hp) (E : XK), Room k (A.deeper (envOfC qual (defScope st) s.heap.objs.size f cdv)) → JSs (cxOf CX0 P w K mg base N qual (defScope st) f cdv A outer s H E).nox E0 (defBody st) g) :
    FnOk P w K mg base CX0 (k + 1) f fd ps (spM0 K mg m fn) := by
  subst hn hm hf
  refine F.ok S (fun vs H Q E h => ?_) (fun cdv A outer s H vs Q E hr h => ?_)
  · obtain ⟨o, ws, _, hl, _, rv, _⟩ := h
    rw [rv.len, hl]
  · obtain ⟨o, ws, rfl, hl, R, rv, h⟩ := h
    refine ⟨_, (hb cdv A outer s o.H E hr).h, ?_⟩
    have e : start N vs = vs.map some ++ List.replicate (N.length - ws.length) none := by unfold start; rw [rv.len]
    rw [e]
    refine ⟨o, _, rfl, R, Re.args _ rv, Ps.bd h fun p x b e1 R1 r1 h1 => ?_⟩
    cases x with
    | rt w => obtain ⟨v, rfl, r⟩ := r1; exact h1.pr R1 r
    | nx r => obtain ⟨s, rfl, r⟩ := r1; exact h1.pr R1 (rv_non.mpr rfl)
    | bk r => exact h1.elim
    | ct r => exact h1.elim
/-- .. that is never asked -/
theorem def_no {m : Nat} {fn : List W → M W} (h : ∀ ws h, fn ws h = .bad) : FnOk P w K mg base CX0 k f fd ps (spM0 K mg m fn) := by
  have no : ∀ vs H Q E, ¬ spM0 K mg m fn vs H Q E := fun vs H Q E ⟨o, ws, _, _, _, _, q⟩ => by rw [h] at q; exact q
  exact ⟨fun vs H Q E h => absurd h (no vs H Q E), fun A outer s H args us vs Q E _ _ _ _ h => absurd h (no vs H Q E)⟩
/-- what a caller needs of a def -/
structure CG (P : Program) (w : World) (K : PySem.W.Frag) (mg : Str → Option Value) (base : Heap) (k : Nat) (x : Str) (f : Addr) (fd : FuncData) (ps : List Str) (m : Nat) (fn : List W → M W) : Prop where
  ok : FnOk P w K mg base CX0 k f fd ps (spM0 K mg m fn)
  bi : Binds K fd ps []
  kp : PySem.W.keepIn K (.ref f) = true
  mg : mg x = some (.ref f)
end
def arW (n : Nat) (f : List W → M W) (ws : List W) : M W := if ws.length = n then f ws else no
section
variable {X : Cx} {p pos : Pos} {e : Expr} {es : List Expr} {l : Env' → M (List W)} {f : List W → M W} {k : Nat} {fA : Addr} {fd : FuncData} {ps : List Str} {x : Str}
/-- f(e, ..), f an own def -/
theorem me_fn {m : Nat} (C : CG X.prog X.w X.K X.mg X.base k x fA fd ps m f) (hr : Room k X.A) (ha : JA X E0 (e :: es) l) (hg : Gl X x := by rfl)
    (hdb : (x == ("__debug__" : Str)) = false := by decide) (he : starEach (e :: es) X.env = (false, eval e X.env) :: starEach es X.env := by rfl) (hpl : (backTo pos (starEach es X.env)).any (·.1) = false := by rfl) :
    JE X E0 (.Call (.Name x p) (e :: es) [] pos) (mCall (arW m f) l) := (pe_call C.ok hr hg C.mg C.kp C.bi .nil pass0 ha.h hdb he hpl).imp fun σ H Q h => by
  obtain ⟨o, ρ, rfl, R, S, h⟩ := h
  refine ⟨o, ρ, rfl, R, S, Ps.bd h fun p x vx e1 R1 r1 h1 => ?_⟩
  unfold arW at h1
  by_cases z : x.length = m
  · rw [if_pos z] at h1
    exact ⟨p, x, rfl, z, R1, by rw [List.append_nil]; exact r1, h1⟩
  · rw [if_neg z] at h1
    exact h1.elim
end
section
variable {X : Cx} {E : XK} {p pos : Pos}
/-! ### walks over texts, enumerate -/
def chars (z : Str) : List W := z.cps.toList.map fun c => .str ⟨#[c]⟩
def srcS (w : W) : M Sr := match w with
  | .str z => pr ⟨chars z, fun _ => True⟩
  | _ => no
def numd (n : Int) : List W → List W
  | [] => []
  | w :: l => .tup [.int n, w] :: numd (n + 1) l
def enumL (ws : List W) : M Sr := match ws with
  | [w] => bd (srcL w) fun s => pr ⟨numd 0 s.l, s.G⟩
  | _ => no
/-! ### a, b = e -/
def sUnp (t : W → Env' → Option Env') (f : Env' → M W) : Env' → M Fl := fun ρ => bd (f ρ) fun w => match t w ρ with
  | some r => pr (.nx r)
  | none => no
/-! ### isinstance -/
def tyN (w : W) (h : List Ob) : Option String := match w with
  | .non => some "NoneType"
  | .bl _ => some "bool"
  | .int _ => some "int"
  | .str _ => some "str"
  | .tl _ => some "list"
  | .loc k => match h[k]? with
    | some (.lst _) => some "list"
    | some (.dic _ _) => some "dict"
    | _ => none
  | _ => none
def isT (t c : String) : Bool := t == c || (t == "bool" && c == "int")
def tys : List String := ["int", "str", "bool", "list", "tuple", "dict"]
def isiW (ws : List W) : M W := match ws with
  | [.tup _, .ty c] => gd (c ∈ tys) (pr (.bl (isT "tuple" c)))
  | [x, .ty c] => fun h => match tyN x h with
    | some t => if c ∈ tys then .ok (.bl (isT t c)) h else .bad
    | none => .bad
  | _ => no
theorem kit_is {K : PySem.W.Frag} {t c : String} (ht : t ∈ "NoneType" :: tys) (hc : c ∈ tys) : PySem.W.kitOne K (.type t) (.type c) = some (isT t c) := by
  simp only [tys, List.mem_cons, List.not_mem_nil, or_false] at ht hc
  rcases ht with rfl | rfl | rfl | rfl | rfl | rfl | rfl <;> rcases hc with rfl | rfl | rfl | rfl | rfl | rfl <;> kernel_rfl
end
end L2
set_option maxHeartbeats 1000000
/-! the mirror: isinstance, dicts -/
namespace L2
open PySem PySem.Spec PyProof.Rows
section
variable {X : Cx} {E : XK} {p pos : Pos} {a b : Expr} {l : Env' → M (List W)}
def rIsT (K : PySem.W.Frag) : List V → Hp → VK → Prop := fun xs H Q => ∃ (a : Addr) (ys : List V) (c : String) (k : Bool), xs = [.ref a, .ty c] ∧ SqT K H a ys ∧ PySem.W.kitOne K (.type "tuple") (.type c) = some k ∧ Q (.bl k) H
theorem call_isiT : CallR X (.builtin "isinstance") (rIsT X.K) := by
  intro pins s σ H xs us Q I r h
  obtain ⟨a, ys, c, k, rfl, hq, e, q⟩ := h
  obtain ⟨u, u', rfl, ru, ru'⟩ := vals2 r
  cases ru
  cases ru'
  obtain ⟨its, rv, ⟨o, e1, e2, n, e3⟩, hz⟩ := I.tuple hq
  exact PySem.W.kia_one PySem.W.kitx_tuple I.kIn ⟨o, e1, e2⟩ e (fun z => nomatch z) fun tk => ⟨.bl k, H, I.tok tk, rfl, q⟩
theorem tyN_ty {o : Wo} {w : W} {v : V} {t : String} (R : Rel X.K o) (h : Rv X.K o w v) (e : tyN w o.h = some t) : TyOf X.K o.H v (.type t) ∧ t ∈ "NoneType" :: tys := by
  cases w with
  | non => cases e; rw [rv_non.mp h]; exact ⟨.non, by decide⟩
  | bl _ => cases e; rw [rv_bl.mp h]; exact ⟨.bl _, by decide⟩
  | int _ => cases e; rw [rv_int.mp h]; exact ⟨.int _, by decide⟩
  | str _ => cases e; rw [rv_str.mp h]; exact ⟨.str _, by decide⟩
  | tl _ => cases e; unfold Rv at h; obtain ⟨a, vs, rfl, s, _⟩ := h; exact ⟨.lst s, by decide⟩
  | loc k =>
    unfold Rv at h
    obtain ⟨_, rfl⟩ := h
    unfold tyN at e
    dsimp only at e
    split at e
    · rename_i l hl
      cases e
      obtain ⟨vs, h1, _⟩ := R.ob k _ hl
      exact ⟨.lst h1, by decide⟩
    · rename_i ks ws hl
      cases e
      obtain ⟨vs, h1, _⟩ := R.ob k _ hl
      exact ⟨.dK h1, by decide⟩
    · cases e
  | _ => cases e
theorem me_isi (hm : X.mg "isinstance" = none) (ha : JA X E [a, b] l) (hg : Gl X "isinstance" := by rfl) (he : starEach [a, b] X.env = (false, eval a X.env) :: starEach [b] X.env := by rfl) (hpl : (backTo pos (starEach [b] X.env)).any (·.1) = false := by rfl) : JE X E (.Call (.Name "isinstance" p) [a, b] [] pos) (mCall isiW l) :=
  me_callB (call_isinst.or call_isiT) (fun o ws vs Q R rv h => by
    unfold isiW at h
    split at h
    · rename_i l c
      obtain ⟨v, u, rfl, r1, r2⟩ := rv.two
      obtain ⟨hc, h⟩ := h.gd
      unfold Rv at r1
      obtain ⟨a, us, rfl, s, r⟩ := r1
      rw [rv_ty.mp r2]
      exact .inr ⟨a, us, c, _, rfl, s, kit_is (by decide) hc, h.pr R (rv_bl.mpr rfl)⟩
    · rename_i x c _
      obtain ⟨v, u, rfl, r1, r2⟩ := rv.two
      dsimp only at h
      cases e : tyN x o.h with
      | none => rw [e] at h; exact h.elim
      | some t =>
        rw [e] at h
        by_cases hc : c ∈ tys
        · simp only [if_pos hc] at h
          obtain ⟨ty, hm⟩ := tyN_ty R r1 e
          rw [rv_ty.mp r2]
          exact .inl ⟨v, .ty c, .type c, .type t, _, rfl, rfl, ty, kit_is hm hc, Ps.pr (c := cg X E) (r := Rv X.K) (a := W.bl (isT t c)) h R (rv_bl.mpr rfl)⟩
        · simp only [if_neg hc] at h; exact h.elim
    · exact h.elim) hg hm PyProof.Rows.boot_isinstance ha (he := he) (hpl := hpl)
theorem me_ty {x : Str} {T : String} (hm : X.mg x = none) (hv : bootBuiltins x = some (.type T)) (hg : Gl X x := by rfl) (hn : x ≠ "__name__" := by decide) (hd : (x == ("__debug__" : Str)) = false := by decide) : JE X E (.Name x pos) (mC (.ty T)) :=
  (pe_bltn (v := .ty T) hg hm hv rfl hn hd).imp fun _ _ _ h => tM_c (fun o => rv_ty.mpr rfl) h
/-! ### dicts -/
def mDNew : Env' → M W := fun _ h => .ok (.loc h.length) (h ++ [.dic [] []])
theorem Rv.addLoc {K : PySem.W.Frag} {o : Wo} {q : Addr} {b : Ob} {u : HO} : Rv K (o.add q b u) (.loc o.h.length) (.ref q) := by
  unfold Rv
  exact ⟨by show _ < (o.h ++ [b]).length; simp, by show V.ref q = V.ref (if o.h.length = o.h.length then q else _); rw [if_pos rfl]⟩
theorem me_dnew : JE X E (.Dict [] [] pos) mDNew := pe_dnewK.imp fun σ H Q h => by
  obtain ⟨o, ρ, rfl, R, S, h⟩ := h
  intro q hq
  exact Ps.at (p := o.add q (.dic [] []) (.dK [])) h rfl (Ex.add hq) (R.addD hq rfl Rvs.nil) Rv.addLoc
end
end L2
set_option maxHeartbeats 1000000
/-! the mirror: chains, what is seen of the text, older promises -/
namespace L2
open PySem PySem.Spec PyProof.Rows
section
variable {X : Cx} {E : XK} {p pos : Pos} {a b c : Expr} {fa fb fc : Env' → M W}
/-! ### a < b < c -/
def mChain (f g : W → W → M W) (fa fb fc : Env' → M W) : Env' → M W := fun ρ => bd (fa ρ) fun x => bd (fb ρ) fun y => bd (f x y) fun z => bd (asB z) fun k => if k = true then bd (fc ρ) fun w => g y w else pr (.bl false)
end
/-! ### what is seen of an argument list -/
section
variable {es : List Expr} {env : Env} {pos : Pos}
theorem se_c {c k p} : starEach (.Constant c k p :: es) env = (false, eval (.Constant c k p) env) :: starEach es env := by rfl
theorem se_n {c p} : starEach (.Name c p :: es) env = (false, eval (.Name c p) env) :: starEach es env := by rfl
theorem se_b {a o b p} : starEach (.BinOp a o b p :: es) env = (false, eval (.BinOp a o b p) env) :: starEach es env := by rfl
theorem se_f {a o b p} : starEach (.Call a o b p :: es) env = (false, eval (.Call a o b p) env) :: starEach es env := by rfl
theorem se_s {a o p} : starEach (.Subscript a o p :: es) env = (false, eval (.Subscript a o p) env) :: starEach es env := by rfl
theorem se_t {a o p} : starEach (.Tuple a o p :: es) env = (false, eval (.Tuple a o p) env) :: starEach es env := by rfl
theorem se_l {a p} : starEach (.List a p :: es) env = (false, eval (.List a p) env) :: starEach es env := by rfl
theorem se_k {a g s p} : starEach (.ListComp a g s p :: es) env = (false, eval (.ListComp a g s p) env) :: starEach es env := by rfl
theorem ns_nil : (backTo pos (starEach [] env)).any (·.1) = false := by rfl
theorem ns_cons {e : Expr} (hs : starEach (e :: es) env = (false, eval e env) :: starEach es env) (h : (backTo pos (starEach es env)).any (·.1) = false) : (backTo pos (starEach (e :: es) env)).any (·.1) = false := by
  rw [hs]
  show ((false || (backTo pos (starEach es env)).any (·.1)) : Bool) = false
  rw [h]; rfl
end
/-! ### promises of the older kind -/
section
variable {P : Program} {w : World} {K : PySem.W.Frag} {mg : Str → Option Value} {base : Heap} {x : Str} {f : Addr} {fd : FuncData} {ps : List Str} {k : Nat} {sp : Sp} {fn : List W → M W}
end
end L2
set_option maxHeartbeats 1000000
/-! the mirror: refusals taken -/
namespace L2
open PySem PySem.Spec PyProof.Rows
section
variable {X : Cx} {E : XK} {p pos : Pos} {a b : Expr} {l : Env' → M (List W)} {CF : Addr} {raised : List Str}
/-! ### try: f(..) except .. as e: -/
variable {x n f : Str} {e b0 : Expr} {es : List Expr} {s0 : Stmt} {suite : List Stmt} {np hpos tpos epos : Pos} {fn : List W → M W} {g : Env' → M Fl} {k i m : Nat} {fA : Addr} {fd : FuncData} {ps : List Str}
/-! ### xs + ys, a list that may change -/
def catL (fa fb : Env' → M W) : Env' → M (List W) := fun ρ => bd (fa ρ) fun x => bd (fb ρ) fun y => bd (lstO x) fun a => bd (lstO y) fun b => gd (a.length + b.length ≤ sizeLine) (pr (a ++ b))
theorem mf_cat {fa fb : Env' → M W} (ha : JE X E a fa) (hb : JE X E b fb) : JF X E (.BinOp a .Add b pos) (catL fa fb) := (pe_op op_cat ha.h hb.h).impF fun σ H Q h => by
  obtain ⟨o, ρ, rfl, R, S, h⟩ := h
  refine ⟨o, ρ, rfl, R, S, Ps.bd h fun p x vx e1 R1 r1 h1 => ⟨p, ρ, rfl, R1, S.mono R e1, Ps.bd h1 fun q y vy e2 R2 r2 h2 => ?_⟩⟩
  obtain ⟨l, a, vs, rfl, s1, r3, h3⟩ := lstO_ps R2 (r1.mono R1 e2) h2
  obtain ⟨m, b, us, rfl, s2, r4, h4⟩ := lstO_ps R2 r2 h3
  obtain ⟨hz, h4⟩ := h4.gd
  exact ⟨a, b, vs, us, rfl, rfl, s1, s2, by rw [r3.len, r4.len]; exact hz, h4.pr R2 (r3.app r4)⟩
end
end L2
set_option maxHeartbeats 1000000
/-! running the mirror -/
namespace L2
open PySem
theorem bd_ok {α β : Type} {f : M α} {g : α → M β} {h h' : List Ob} {a : α} (e : f h = .ok a h') : bd f g h = g a h' := by unfold bd; rw [e]
@[simp] theorem bd_pr {α β : Type} (a : α) (g : α → M β) : bd (pr a) g = g a := rfl
@[simp] theorem bd_no {α β : Type} (g : α → M β) : bd (no : M α) g = no := rfl
theorem gd_pos {α : Type} {p : Prop} [Decidable p] {m : M α} (hp : p) : gd p m = m := by funext h; unfold gd; rw [if_pos hp]
@[simp] theorem addW_int (i j : Int) : addW (.int i) (.int j) = pr (.int (i + j)) := rfl
theorem addW_str {a b : Str} (h : a.length + b.length ≤ sizeLine) : addW (.str a) (.str b) = pr (.str (a ++ b)) := by unfold addW; exact gd_pos h
@[simp] theorem subW_int (i j : Int) : subW (.int i) (.int j) = pr (.int (i - j)) := gd_pos trivial
theorem mulW_int {i j : Int} (h : CMulA i j) : mulW (.int i) (.int j) = pr (.int (i * j)) := by unfold mulW; exact gd_pos h
theorem mulA_l {i j : Int} (h1 : -(2 ^ 64) < i) (h2 : i < 2 ^ 64) : CMulA i j := .inl (.inl ⟨h1, h2⟩)
theorem mulA_r {i j : Int} (h1 : -(2 ^ 64) < j) (h2 : j < 2 ^ 64) : CMulA i j := .inl (.inr ⟨h1, h2⟩)
theorem fdivW_int {i j : Int} (h1 : 0 < j) (h2 : j < 2 ^ 200) : fdivW (.int i) (.int j) = pr (.int (i / j)) := gd_pos ⟨h1, h2⟩
theorem modW_int {i j : Int} (h1 : 0 < j) : modW (.int i) (.int j) = pr (.int (i % j)) := gd_pos h1
theorem powW_int {i j : Int} (h : CPow i j) : powW (.int i) (.int j) = pr (.int (i ^ j.toNat)) := gd_pos h
@[simp] theorem ltW_int (i j : Int) : ltW (.int i) (.int j) = pr (.bl (decide (i < j))) := gd_pos trivial
@[simp] theorem leW_int (i j : Int) : leW (.int i) (.int j) = pr (.bl (decide (i ≤ j))) := gd_pos trivial
@[simp] theorem gtW_int (i j : Int) : gtW (.int i) (.int j) = pr (.bl (decide (j < i))) := gd_pos trivial
@[simp] theorem geW_int (i j : Int) : geW (.int i) (.int j) = pr (.bl (decide (j ≤ i))) := gd_pos trivial
@[simp] theorem asB_bl (b : Bool) : asB (.bl b) = pr b := rfl
@[simp] theorem eqW_int (i j : Int) : eqW (.int i) (.int j) = pr (.bl (decide (i = j))) := by
  funext h
  show Rs.ok (W.bl (decide (V.int i = V.int j))) h = Rs.ok (W.bl (decide (i = j))) h
  congr 2
  rw [decide_eq_decide]
  exact ⟨V.int.inj, congrArg _⟩
@[simp] theorem eqW_str (i j : Str) : eqW (.str i) (.str j) = pr (.bl (decide (i = j))) := by
  funext h
  show Rs.ok (W.bl (decide (V.str i = V.str j))) h = Rs.ok (W.bl (decide (i = j))) h
  congr 2
  rw [decide_eq_decide]
  exact ⟨V.str.inj, congrArg _⟩
@[simp] theorem neW_int (i j : Int) : neW (.int i) (.int j) = pr (.bl (!decide (i = j))) := by
  funext h
  show Rs.ok (W.bl (!decide (V.int i = V.int j))) h = Rs.ok (W.bl (!decide (i = j))) h
  congr 3
  rw [decide_eq_decide]
  exact ⟨V.int.inj, congrArg _⟩
@[simp] theorem neW_str (i j : Str) : neW (.str i) (.str j) = pr (.bl (!decide (i = j))) := by
  funext h
  show Rs.ok (W.bl (!decide (V.str i = V.str j))) h = Rs.ok (W.bl (!decide (i = j))) h
  congr 3
  rw [decide_eq_decide]
  exact ⟨V.str.inj, congrArg _⟩
@[simp] theorem neW_bl (i j : Bool) : neW (.bl i) (.bl j) = pr (.bl (!decide (i = j))) := by
  funext h
  show Rs.ok (W.bl (!decide (V.bl i = V.bl j))) h = Rs.ok (W.bl (!decide (i = j))) h
  congr 3
  rw [decide_eq_decide]
  exact ⟨V.bl.inj, congrArg _⟩
theorem ixW_tl {l : List W} {i : Int} {w : W} (h : atI l i = some w) : ixW (.tl l) (.int i) = pr w := by
  funext hh
  unfold ixW
  have : ixO (.tl l) (.int i) hh = some w := h
  rw [this]; rfl
theorem ixW_tup {l : List W} {i : Int} {w : W} (h : atI l i = some w) : ixW (.tup l) (.int i) = pr w := by
  funext hh
  unfold ixW
  have : ixO (.tup l) (.int i) hh = some w := h
  rw [this]; rfl
theorem ixW_str {z : Str} {i : Int} {c : Nat} (hz : z.length ≤ sizeLine) (h : atI z.cps.toList i = some c) : ixW (.str z) (.int i) = pr (.str ⟨#[c]⟩) := by
  funext hh
  unfold ixW
  have : ixO (.str z) (.int i) hh = some (.str ⟨#[c]⟩) := by
    show (if z.length ≤ sizeLine then (atI z.cps.toList i).map fun c => W.str ⟨#[c]⟩ else none) = _
    rw [if_pos hz, h]; rfl
  rw [this]; rfl
theorem slW_str {z : Str} {lo hi : Option Int} (hz : z.length ≤ sizeLine) : slW (.str z) lo hi = pr (.str (StrLaws.sliceText z lo hi)) := gd_pos hz
@[simp] theorem slW_tl (l : List W) (lo hi : Option Int) : slW (.tl l) lo hi = pr (.tl (cutW l lo hi)) := rfl
@[simp] theorem slW_cl (l : List W) (lo hi : Option Int) : slW (.cl l) lo hi = pr (.tl (cutW l lo hi)) := rfl
@[simp] theorem lenW_tl (l : List W) : lenW [.tl l] = pr (.int l.length) := rfl
@[simp] theorem lenW_tup (l : List W) : lenW [.tup l] = pr (.int l.length) := rfl
theorem lenW_str {z : Str} (hz : z.length ≤ sizeLine) : lenW [.str z] = pr (.int z.length) := gd_pos hz
theorem arW_eq {n : Nat} {f : List W → M W} {ws : List W} (h : ws.length = n) : arW n f ws = f ws := if_pos h
theorem menu_atW {α : Type} (f : α → W) (l : List α) (d : α) {i : Int} (h0 : 0 ≤ i) (h : i < l.length) : atI (l.map f) i = some (f (l.getD i.toNat d)) := by
  have hi : i.toNat < l.length := by omega
  have e : atI (l.map f) ((i.toNat : Nat) : Int) = some (f (l.getD i.toNat d)) := atI_nat (by rw [List.getElem?_map, List.getElem?_eq_getElem hi, List.getD_eq_getElem?_getD, List.getElem?_eq_getElem hi]; rfl)
  have e2 : ((i.toNat : Nat) : Int) = i := by omega
  rw [e2] at e; exact e
theorem atI_ofW {α : Type} {xs : List α} {i : Int} {v : α} (h0 : 0 ≤ i) (h : xs[i.toNat]? = some v) : atI xs i = some v := by
  have q := atI_nat h
  have e : ((i.toNat : Nat) : Int) = i := by omega
  rw [e] at q; exact q
theorem atI_exW {α : Type} {l : List α} {i : Int} (h0 : 0 ≤ i) (h : i < l.length) : ∃ c, c ∈ l ∧ atI l i = some c := ⟨l[i.toNat]'(by omega), List.getElem_mem _, atI_ofW h0 (by rw [List.getElem?_eq_getElem])⟩
def finF : Fl → M W := fun x => match x with
  | .rt w => pr w
  | .nx _ => pr .non
  | _ => no
theorem gdn0 {α : Type} (m : M α) : gd (0 ≤ sizeLine) m = m := gd_pos (by decide)
theorem gdn1 {α : Type} (m : M α) : gd (0 + 1 ≤ sizeLine) m = m := gd_pos (by decide)
theorem gdn2 {α : Type} (m : M α) : gd (0 + 1 + 1 ≤ sizeLine) m = m := gd_pos (by decide)
theorem gdn3 {α : Type} (m : M α) : gd (0 + 1 + 1 + 1 ≤ sizeLine) m = m := gd_pos (by decide)
theorem gdn4 {α : Type} (m : M α) : gd (0 + 1 + 1 + 1 + 1 ≤ sizeLine) m = m := gd_pos (by decide)
theorem gdn5 {α : Type} (m : M α) : gd (0 + 1 + 1 + 1 + 1 + 1 ≤ sizeLine) m = m := gd_pos (by decide)
theorem gdn6 {α : Type} (m : M α) : gd (0 + 1 + 1 + 1 + 1 + 1 + 1 ≤ sizeLine) m = m := gd_pos (by decide)
theorem gdn7 {α : Type} (m : M α) : gd (0 + 1 + 1 + 1 + 1 + 1 + 1 + 1 ≤ sizeLine) m = m := gd_pos (by decide)
theorem gdn8 {α : Type} (m : M α) : gd (0 + 1 + 1 + 1 + 1 + 1 + 1 + 1 + 1 ≤ sizeLine) m = m := gd_pos (by decide)
theorem gdn9 {α : Type} (m : M α) : gd (0 + 1 + 1 + 1 + 1 + 1 + 1 + 1 + 1 + 1 ≤ sizeLine) m = m := gd_pos (by decide)
theorem gdn10 {α : Type} (m : M α) : gd (0 + 1 + 1 + 1 + 1 + 1 + 1 + 1 + 1 + 1 + 1 ≤ sizeLine) m = m := gd_pos (by decide)
theorem gdn11 {α : Type} (m : M α) : gd (0 + 1 + 1 + 1 + 1 + 1 + 1 + 1 + 1 + 1 + 1 + 1 ≤ sizeLine) m = m := gd_pos (by decide)
theorem gdn12 {α : Type} (m : M α) : gd (0 + 1 + 1 + 1 + 1 + 1 + 1 + 1 + 1 + 1 + 1 + 1 + 1 ≤ sizeLine) m = m := gd_pos (by decide)
theorem gdn13 {α : Type} (m : M α) : gd (0 + 1 + 1 + 1 + 1 + 1 + 1 + 1 + 1 + 1 + 1 + 1 + 1 + 1 ≤ sizeLine) m = m := gd_pos (by decide)
theorem gdn14 {α : Type} (m : M α) : gd (0 + 1 + 1 + 1 + 1 + 1 + 1 + 1 + 1 + 1 + 1 + 1 + 1 + 1 + 1 ≤ sizeLine) m = m := gd_pos (by decide)
theorem gdn15 {α : Type} (m : M α) : gd (0 + 1 + 1 + 1 + 1 + 1 + 1 + 1 + 1 + 1 + 1 + 1 + 1 + 1 + 1 + 1 ≤ sizeLine) m = m := gd_pos (by decide)
theorem gdn16 {α : Type} (m : M α) : gd (0 + 1 + 1 + 1 + 1 + 1 + 1 + 1 + 1 + 1 + 1 + 1 + 1 + 1 + 1 + 1 + 1 ≤ sizeLine) m = m := gd_pos (by decide)
theorem gdn17 {α : Type} (m : M α) : gd (0 + 1 + 1 + 1 + 1 + 1 + 1 + 1 + 1 + 1 + 1 + 1 + 1 + 1 + 1 + 1 + 1 + 1 ≤ sizeLine) m = m := gd_pos (by decide)
theorem gdn18 {α : Type} (m : M α) : gd (0 + 1 + 1 + 1 + 1 + 1 + 1 + 1 + 1 + 1 + 1 + 1 + 1 + 1 + 1 + 1 + 1 + 1 + 1 ≤ sizeLine) m = m := gd_pos (by decide)
theorem gdn19 {α : Type} (m : M α) : gd (0 + 1 + 1 + 1 + 1 + 1 + 1 + 1 + 1 + 1 + 1 + 1 + 1 + 1 + 1 + 1 + 1 + 1 + 1 + 1 ≤ sizeLine) m = m := gd_pos (by decide)
theorem gdn20 {α : Type} (m : M α) : gd (0 + 1 + 1 + 1 + 1 + 1 + 1 + 1 + 1 + 1 + 1 + 1 + 1 + 1 + 1 + 1 + 1 + 1 + 1 + 1 + 1 ≤ sizeLine) m = m := gd_pos (by decide)
theorem gdn21 {α : Type} (m : M α) : gd (0 + 1 + 1 + 1 + 1 + 1 + 1 + 1 + 1 + 1 + 1 + 1 + 1 + 1 + 1 + 1 + 1 + 1 + 1 + 1 + 1 + 1 ≤ sizeLine) m = m := gd_pos (by decide)
theorem gdn22 {α : Type} (m : M α) : gd (0 + 1 + 1 + 1 + 1 + 1 + 1 + 1 + 1 + 1 + 1 + 1 + 1 + 1 + 1 + 1 + 1 + 1 + 1 + 1 + 1 + 1 + 1 ≤ sizeLine) m = m := gd_pos (by decide)
theorem gdn23 {α : Type} (m : M α) : gd (0 + 1 + 1 + 1 + 1 + 1 + 1 + 1 + 1 + 1 + 1 + 1 + 1 + 1 + 1 + 1 + 1 + 1 + 1 + 1 + 1 + 1 + 1 + 1 ≤ sizeLine) m = m := gd_pos (by decide)
theorem gdn24 {α : Type} (m : M α) : gd (0 + 1 + 1 + 1 + 1 + 1 + 1 + 1 + 1 + 1 + 1 + 1 + 1 + 1 + 1 + 1 + 1 + 1 + 1 + 1 + 1 + 1 + 1 + 1 + 1 ≤ sizeLine) m = m := gd_pos (by decide)
theorem gd_tt {α : Type} {m : M α} {inst : Decidable (true = true)} : @gd α (true = true) inst m = m := @gd_pos α (true = true) inst m rfl
theorem mComp_nil {src : Env' → M Sr} {t : W → Env' → Option Env'} {f : Env' → M Bool} {e : Env' → M W} {n : Nat} {ρ : Env'} : mComp [] src t f e n ρ = bd (src ρ) fun s => gd (s.l.length ≤ sizeLine) (compM s.G t f e n s.l ρ) := by unfold mComp; exact gd_pos rfl
end L2
set_option maxHeartbeats 1000000
/-! running the mirror: comprehensions, walks, comparisons -/
namespace L2
open PySem
theorem optL_map {α : Type} {f : W → Option α} {g : α → W} (hf : ∀ a, f (g a) = some a) : ∀ l : List α, optL f (l.map g) = some l
  | [] => rfl
  | a :: l => by
    show (match f (g a), optL f (l.map g) with
      | some b, some r => some (b :: r)
      | _, _ => none) = _
    rw [hf, optL_map hf l]
theorem optL_mapD {β : Type} {α : Type} {f : W → Option β} {g : α → W} {k : α → β} (hf : ∀ a, f (g a) = some (k a)) : ∀ l : List α, optL f (l.map g) = some (l.map k)
  | [] => rfl
  | a :: l => by
    show (match f (g a), optL f (l.map g) with
      | some b, some r => some (b :: r)
      | _, _ => none) = _
    rw [hf, optL_mapD hf l]; rfl
theorem vsOf_map {α : Type} {g : α → W} {k : α → V} (hf : ∀ a, vOf (g a) = some (k a)) : ∀ l : List α, vsOf (l.map g) = some (l.map k)
  | [] => rfl
  | a :: l => by
    show (match vOf (g a), vsOf (l.map g) with
      | some v, some vs => some (v :: vs)
      | _, _ => none) = _
    rw [hf, vsOf_map hf l]; rfl
/-! ### == of lists -/
theorem eqB_lists {l m : List W} {ds es : List PyData} {h : List Ob} (h1 : optL (dataH h 49) l = some ds) (h2 : optL (dataH h 49) m = some es) (c1 : PyData.canLayAll0 ds = true) (c2 : PyData.canLayAll0 es = true) : eqB (.tl l) (.tl m) h = some (PyData.eqvAll ds es) := by
  show (match (optL (dataH h 49) l).map PyData.list, (optL (dataH h 49) m).map PyData.list with
    | some d, some e => if d.canLay0 = true ∧ e.canLay0 = true then some (PyData.eqv d e) else none
    | _, _ => none) = _
  rw [h1, h2]
  show (if (PyData.list ds).canLay0 = true ∧ (PyData.list es).canLay0 = true then some (PyData.eqv (.list ds) (.list es)) else none) = _
  rw [if_pos ⟨by rw [PyData.canLay0]; exact c1, by rw [PyData.canLay0]; exact c2⟩, PyData.eqv]
theorem eqB_tups {l m : List W} {ds es : List PyData} {h : List Ob} (h1 : optL (dataH h 49) l = some ds) (h2 : optL (dataH h 49) m = some es) (c1 : PyData.canLayAll0 ds = true) (c2 : PyData.canLayAll0 es = true) : eqB (.tup l) (.tup m) h = some (PyData.eqvAll ds es) := by
  show (match (optL (dataH h 49) l).map PyData.tuple, (optL (dataH h 49) m).map PyData.tuple with
    | some d, some e => if d.canLay0 = true ∧ e.canLay0 = true then some (PyData.eqv d e) else none
    | _, _ => none) = _
  rw [h1, h2]
  show (if (PyData.tuple ds).canLay0 = true ∧ (PyData.tuple es).canLay0 = true then some (PyData.eqv (.tuple ds) (.tuple es)) else none) = _
  rw [if_pos ⟨by rw [PyData.canLay0]; exact c1, by rw [PyData.canLay0]; exact c2⟩, PyData.eqv]
theorem eqW_of {x y : W} {b : Bool} (h : ∀ h, eqB x y h = some b) : eqW x y = pr (.bl b) := by funext hh; unfold eqW; rw [h]; rfl
mutual
theorem eqv_refl : ∀ d : PyData, d.canLay0 = true → PyData.eqv d d = true
  | .none, _ => by rw [PyData.eqv]
  | .bool b, _ => by rw [PyData.eqv]; simp
  | .int b, _ => by rw [PyData.eqv]; simp
  | .str b, _ => by rw [PyData.eqv]; simp
  | .list l, h => by rw [PyData.eqv]; exact eqvAll_refl l (by rw [PyData.canLay0] at h; exact h)
  | .tuple l, h => by rw [PyData.eqv]; exact eqvAll_refl l (by rw [PyData.canLay0] at h; exact h)
  | .dict l, h => by rw [PyData.canLay0] at h; cases h
theorem eqvAll_refl : ∀ l : List PyData, PyData.canLayAll0 l = true → PyData.eqvAll l l = true
  | [], _ => by rw [PyData.eqvAll]
  | d :: l, h => by
    rw [PyData.canLayAll0, Bool.and_eq_true] at h
    rw [PyData.eqvAll, eqv_refl d h.1, eqvAll_refl l h.2]; rfl
end
theorem canAll {α : Type} {k : α → PyData} : ∀ (l : List α), (∀ a ∈ l, (k a).canLay0 = true) → PyData.canLayAll0 (l.map k) = true
  | [], _ => by rw [List.map_nil, PyData.canLayAll0]
  | a :: l, h => by rw [List.map_cons, PyData.canLayAll0, h a List.mem_cons_self, canAll l fun b hb => h b (List.mem_cons_of_mem _ hb)]; rfl
/-! ### texts -/
/-! ### walks that change nothing -/
end L2
set_option maxHeartbeats 1000000
/-! the mirror: enumerate over tuples, find -/
namespace L2
open PySem PySem.Spec PyProof.Rows
section
variable {X : Cx} {E : XK} {p pos : Pos}
def enumT (ws : List W) : M Sr := match ws with
  | [w] => bd (srcT w) fun s => pr ⟨numd 0 s.l, s.G⟩
  | _ => no
def findW (x : W) (ws : List W) : M W := match x, ws with
  | .str a, [.str b] => pr (.int (Txt.find a b))
  | _, _ => no
variable {o e : Expr} {apos cpos : Pos} {fo : Env' → M W} {l : Env' → M (List W)}
theorem me_find (ho : JE X E o fo) (ha : JA X E [e] l) (hbase : attributeBase o "find" X.env (eval o X.env) = eval o X.env := by rfl)
    (hfew : ((backTo cpos (starEach [e] X.env)).all (fun x => !x.1) && (backToKw cpos (keywordEach [] X.env)).all (fun x => x.1.isSome) && decide (([e] : List Expr).length + ([] : List Keyword).length + (if ([] : List Keyword).isEmpty then 0 else 1) < 30)) = true := by rfl)
    (hline : (apos.endLine == cpos.line) = true := by rfl) (hs : starEach [e] X.env = (false, eval e X.env) :: starEach [] X.env := by rfl) (hplain : (backTo cpos (starEach [] X.env)).any (·.1) = false := by rfl) :
    JE X E (.Call (.Attribute o "find" apos) [e] [] cpos) (mMeth isS findW fo l) :=
  (pe_bm PySem.F.plainAttrs_str PySem.F.slot_str_find PySem.F.type_str_find mt_find ho.h ha.h hbase hfew hline hs hplain).imp fun σ H Q h => by
    obtain ⟨w, ρ, rfl, R, S, h⟩ := h
    refine ⟨w, ρ, rfl, R, S, Ps.bd h fun p x vx e1 R1 r1 h1 => ?_⟩
    cases x with
    | str z =>
      have h1 : Ps (cg X E) (Rv X.K) p (bd (l ρ) (fun ws => findW (.str z) ws) p.h) Q := h1
      rw [rv_str.mp r1]
      refine ⟨rfl, p, ρ, rfl, R1, S.mono R e1, Ps.bd h1 fun q ws vs e2 R2 r2 h2 => ?_⟩
      rcases ws with _ | ⟨w', _ | ⟨_, _⟩⟩
      · exact h2.elim
      · obtain ⟨v, rfl, r⟩ := r2.one
        cases w' with
        | str y =>
          have h2 : Ps (cg X E) (Rv X.K) q (pr (.int (Txt.find z y)) q.h) Q := h2
          exact ⟨z, y, rfl, by rw [rv_str.mp r], h2.pr R2 (rv_int.mpr rfl)⟩
        | _ => exact h2.elim
      · cases w' <;> exact h2.elim
    | _ => exact h1.elim
end
end L2
set_option maxHeartbeats 1000000
/-! running the mirror: what holds behind -/
namespace L2
open PySem
/-- not by reflexivity, so that the kernel compares no runs -/
theorem bd_prN {α β : Type} (a : α) (g : α → M β) : bd (pr a) g = g a := funext fun h => bd_ok (f := pr a) (a := a) (h := h) (h' := h) rfl
def Ok {α : Type} (m : M α) (h : List Ob) (Q : α → List Ob → Prop) : Prop := ∃ a h', m h = .ok a h' ∧ Q a h'
section
variable {α β : Type} {m : M α} {k : α → M β} {h h' : List Ob} {a : α}
theorem Ok.imp {P Q : α → List Ob → Prop} (p : Ok m h P) (q : ∀ a h', P a h' → Q a h') : Ok m h Q := let ⟨a, h', e, r⟩ := p; ⟨a, h', e, q a h' r⟩
theorem ok_bd {P : α → List Ob → Prop} {Q : β → List Ob → Prop} (p : Ok m h P) (q : ∀ a h', P a h' → Ok (k a) h' Q) : Ok (bd m k) h Q := by
  obtain ⟨a, h', e, r⟩ := p
  obtain ⟨b, h2, e2, r2⟩ := q a h' r
  exact ⟨b, h2, (bd_ok e).trans e2, r2⟩
theorem ok_bdo {Q : β → List Ob → Prop} (e : m h = .ok a h') (q : Ok (k a) h' Q) : Ok (bd m k) h Q := by
  obtain ⟨b, h2, e2, r2⟩ := q
  exact ⟨b, h2, (bd_ok e).trans e2, r2⟩
theorem ok_pr {Q : α → List Ob → Prop} (q : Q a h) : Ok (pr a) h Q := ⟨a, h, rfl, q⟩
end
section
variable {β : Type} {h : List Ob} {Q : β → List Ob → Prop} {j : Nat} {l : List W}
theorem ok_ix {i : Int} {w : W} {k : W → M β} (e : h[j]? = some (.lst l)) (e2 : atI l i = some w) (q : Ok (k w) h Q) : Ok (bd (ixW (.loc j) (.int i)) k) h Q := by
  refine ok_bdo (a := w) (h' := h) ?_ q
  have d : dicOf (.loc j) h = none := by unfold dicOf; simp only [e]
  have lo : lstOf (.loc j) h = .ok l h := by unfold lstOf; simp only [e]
  have : ixO (.loc j) (.int i) h = some w := by
    unfold ixO
    simp only [d, lo, e2]
  unfold ixW
  rw [this]
theorem ok_st {n : Int} {i : Nat} {v : W} {k : Unit → M β} (e : h[j]? = some (.lst l)) (e2 : ixN l.length n = some i) (q : Ok (k ()) (h.set j (.lst (l.set i v))) Q) : Ok (bd (storeW (.loc j) (.int n) v) k) h Q := by
  refine ok_bdo (a := ()) (h' := h.set j (.lst (l.set i v))) ?_ q
  unfold storeW
  simp only [e, e2]
theorem ok_app {w : W} {k : W → M β} (e : h[j]? = some (.lst l)) (z : l.length < sizeLine) (q : Ok (k .non) (h.set j (.lst (l ++ [w]))) Q) : Ok (bd (appendW (.loc j) [w]) k) h Q := by
  refine ok_bdo (a := .non) (h' := h.set j (.lst (l ++ [w]))) ?_ q
  unfold appendW
  simp only [e, if_pos z]
theorem ok_isL {k : W → M β} (e : h[j]? = some (.lst l)) (q : Ok (k (.loc j)) h Q) : Ok (bd (isL (.loc j)) k) h Q := by
  refine ok_bdo (a := .loc j) (h' := h) ?_ q
  unfold isL
  simp only [e]
theorem ok_new {k : W → M β} (q : Ok (k (.loc h.length)) (h ++ [.lst l]) Q) : Ok (bd (newW l) k) h Q := ok_bdo (a := .loc h.length) (h' := h ++ [.lst l]) rfl q
theorem ok_ice {k : W → M β} (e : h[j]? = some (.lst l)) (q : Ok (k (.tl l)) (h.set j .gone) Q) : Ok (bd (iceW (.loc j)) k) h Q := by
  refine ok_bdo (a := .tl l) (h' := h.set j .gone) ?_ q
  unfold iceW
  simp only [e]
theorem ok_src {k : Sr → M β} (e : h[j]? = some (.lst l)) (q : Ok (k ⟨l, fun h => h[j]? = some (.lst l)⟩) h Q) : Ok (bd (srcL (.loc j)) k) h Q := by
  refine ok_bdo (a := ⟨l, fun h => h[j]? = some (.lst l)⟩) (h' := h) ?_ q
  unfold srcL
  simp only [e]
/-- a list, at a place or not -/
def Lw (h : List Ob) (x : W) (l : List W) : Prop := x = .tl l ∨ ∃ j, x = .loc j ∧ h[j]? = some (.lst l)
theorem Lw.of {x : W} (p : Lw h x l) : lstOf x h = .ok l h := by
  rcases p with rfl | ⟨j, rfl, e⟩
  · rfl
  · unfold lstOf; simp only [e]
theorem Lw.len {x : W} {k : W → M β} (p : Lw h x l) (q : Ok (k (.int l.length)) h Q) : Ok (bd (lenW [x]) k) h Q := by
  refine ok_bdo (a := .int l.length) (h' := h) ?_ q
  have e := p.of
  rcases p with rfl | ⟨j, rfl, _⟩
  · rfl
  · show bd (lstOf (.loc j)) (fun l => pr (W.int l.length)) h = _
    rw [bd_ok e]; rfl
theorem Lw.ix {x w : W} {i : Int} {k : W → M β} (p : Lw h x l) (e2 : atI l i = some w) (q : Ok (k w) h Q) : Ok (bd (ixW x (.int i)) k) h Q := by
  rcases p with rfl | ⟨j, rfl, e⟩
  · rw [ixW_tl e2, bd_pr]; exact q
  · exact ok_ix e e2 q
theorem Lw.isi {x : W} {c : String} {b : Bool} {k : W → M β} (p : Lw h x l) (hc : c ∈ tys) (hb : isT "list" c = b) (q : Ok (k (.bl b)) h Q) : Ok (bd (isiW [x, .ty c]) k) h Q := by
  refine ok_bdo (a := .bl b) (h' := h) ?_ q
  subst hb
  rcases p with rfl | ⟨j, rfl, e⟩
  · show (if c ∈ tys then Rs.ok (W.bl (isT "list" c)) h else .bad) = _
    rw [if_pos hc]
  · unfold isiW
    have : tyN (.loc j) h = some "list" := by unfold tyN; simp only [e]
    simp only [this, if_pos hc]
theorem isi_int {i : Int} {c : String} {b : Bool} (hc : c ∈ tys) (hb : isT "int" c = b) : isiW [.int i, .ty c] = pr (.bl b) := by
  funext h
  subst hb
  show (if c ∈ tys then Rs.ok (W.bl (isT "int" c)) h else .bad) = _
  rw [if_pos hc]; rfl
theorem isi_str {i : Str} {c : String} {b : Bool} (hc : c ∈ tys) (hb : isT "str" c = b) : isiW [.str i, .ty c] = pr (.bl b) := by
  funext h
  subst hb
  show (if c ∈ tys then Rs.ok (W.bl (isT "str" c)) h else .bad) = _
  rw [if_pos hc]; rfl
theorem isi_tup {i : List W} {c : String} {b : Bool} (hc : c ∈ tys) (hb : isT "tuple" c = b) : isiW [.tup i, .ty c] = pr (.bl b) := by
  subst hb
  show gd (c ∈ tys) (pr (W.bl (isT "tuple" c))) = _
  rw [gd_pos hc]
end
theorem inV_strs {x : Str} {ss : List Str} : inV (.str x) (ss.map V.str) = decide (x ∈ ss) := by
  unfold inV
  rw [Bool.eq_iff_iff, List.any_eq_true, decide_eq_true_eq]
  constructor
  · rintro ⟨v, hv, q⟩
    obtain ⟨y, hy, rfl⟩ := List.mem_map.mp hv
    have : y = x := by simpa [eqV] using q
    subst this; exact hy
  · intro q
    exact ⟨.str x, List.mem_map.mpr ⟨x, q, rfl⟩, by simp [eqV]⟩
theorem in_strs {x : Str} {ss : List Str} : inW (.str x) (.tl (ss.map W.str)) = pr (.bl (decide (x ∈ ss))) := by
  funext h
  unfold inW
  have e : inB (.str x) (.tl (ss.map W.str)) h = some (decide (x ∈ ss)) := by
    show (match vOf (.str x), vsOf (ss.map W.str) with
      | some v, some vs => some (inV v vs)
      | _, _ => none) = _
    rw [vsOf_map (k := V.str) (fun a => rfl)]
    show some (inV (.str x) (ss.map V.str)) = _
    rw [inV_strs]
  rw [e]; rfl
theorem ok_in {β : Type} {h : List Ob} {Q : β → List Ob → Prop} {j : Nat} {x : Str} {ss : List Str} {k : W → M β} (e : h[j]? = some (.lst (ss.map W.str))) (q : Ok (k (.bl (decide (x ∈ ss)))) h Q) : Ok (bd (inW (.str x) (.loc j)) k) h Q := by
  refine ok_bdo (a := .bl (decide (x ∈ ss))) (h' := h) ?_ q
  unfold inW
  have d : dicOf (.loc j) h = none := by unfold dicOf; simp only [e]
  have lo : lstOf (.loc j) h = .ok (ss.map W.str) h := by unfold lstOf; simp only [e]
  have e : inB (.str x) (.loc j) h = some (decide (x ∈ ss)) := by
    unfold inB
    simp only [d, lo, vsOf_map (g := W.str) (k := V.str) (fun a => rfl) ss]
    show some (inV (.str x) (ss.map V.str)) = _
    rw [inV_strs]
  rw [e]
theorem rng1_int {i : Int} (h0 : -(2 ^ 62) ≤ i) (h1 : i < 2 ^ 62) : rng1 [.int i] = pr ⟨intsW 0 i.toNat, fun _ => True⟩ := gd_pos ⟨h0, h1⟩
/-! ### for -/
theorem for_ok {G : List Ob → Prop} {t : W → Env' → Option Env'} {g : Env' → M Fl} (I : Nat → Env' → List Ob → Prop) (l : List W) (hG : ∀ i ρ h, I i ρ h → G h)
    (hs : ∀ i w ρ h, l[i]? = some w → I i ρ h → ∃ r, t w ρ = some r ∧ Ok (g r) h fun x h' => ∃ r', x = .nx r' ∧ I (i + 1) r' h') :
    ∀ (m : List W) (n : Nat) (ρ : Env') (h : List Ob), l.drop n = m → n ≤ l.length → I n ρ h → Ok (forM G t g m ρ) h fun x h' => ∃ r', x = .nx r' ∧ I l.length r' h'
  | [], n, ρ, h, e, hn, i => by
    have : l.length ≤ n := List.drop_eq_nil_iff.mp e
    have hn : n = l.length := by omega
    subst hn
    refine ⟨.nx ρ, h, ?_, ρ, rfl, i⟩
    unfold forM
    rw [gdh_pos (hG _ _ _ i)]; rfl
  | w :: m, n, ρ, h, e, hn, i => by
    have hw : l[n]? = some w := by
      have := congrArg List.head? e
      rw [List.head?_drop, List.head?_cons] at this
      exact this
    have hl : n < l.length := (List.getElem?_eq_some_iff.mp hw).1
    have em : l.drop (n + 1) = m := by rw [← List.tail_drop, e]; rfl
    obtain ⟨r, e1, x, h', e2, r', rfl, i'⟩ := hs n w ρ h hw i
    obtain ⟨y, h2, e3, q⟩ := for_ok I l hG hs m (n + 1) r' h' em hl i'
    refine ⟨y, h2, ?_, q⟩
    unfold forM
    rw [gdh_pos (hG _ _ _ i), e1]
    dsimp only
    rw [bd_ok e2]
    exact e3
theorem ok_for {β : Type} {G : List Ob → Prop} {t : W → Env' → Option Env'} {g : Env' → M Fl} {l : List W} {ρ : Env'} {h : List Ob} {k : Fl → M β} {Q : β → List Ob → Prop} (I : Nat → Env' → List Ob → Prop) (h0 : I 0 ρ h) (hG : ∀ i ρ h, I i ρ h → G h)
    (hs : ∀ i w ρ h, l[i]? = some w → I i ρ h → ∃ r, t w ρ = some r ∧ Ok (g r) h fun x h' => ∃ r', x = .nx r' ∧ I (i + 1) r' h') (hd : ∀ ρ h, I l.length ρ h → Ok (k (.nx ρ)) h Q) : Ok (bd (forM G t g l ρ) k) h Q :=
  ok_bd (for_ok I l hG hs l 0 ρ h rfl (Nat.zero_le _) h0) fun x h' ⟨r', e, i⟩ => by subst e; exact hd r' h' i
/-! ### comprehensions without a condition -/
theorem comp_ok {G : List Ob → Prop} {t : W → Env' → Option Env'} {f : Env' → M Bool} {g : Env' → M W} {c : Nat} {ρ : Env'} (I : Nat → List W → List Ob → Prop) (l : List W) (hf : ∀ r, f r = pr true) (hG : ∀ i a h, I i a h → G h)
    (hs : ∀ i w a h, l[i]? = some w → I i a h → ∃ r, t w (List.replicate c none ++ ρ) = some r ∧ Ok (g r) h fun v h' => I (i + 1) (a ++ [v]) h') :
    ∀ (m : List W) (n : Nat) (a : List W) (h : List Ob), l.drop n = m → n ≤ l.length → I n a h → Ok (compM G t f g c m ρ) h fun r h' => I l.length (a ++ r) h'
  | [], n, a, h, e, hn, i => by
    have : l.length ≤ n := List.drop_eq_nil_iff.mp e
    have hn : n = l.length := by omega
    subst hn
    refine ⟨[], h, ?_, by show I l.length (a ++ []) h; rw [List.append_nil]; exact i⟩
    unfold compM
    rw [gdh_pos (hG _ _ _ i)]; rfl
  | w :: m, n, a, h, e, hn, i => by
    have hw : l[n]? = some w := by
      have := congrArg List.head? e
      rw [List.head?_drop, List.head?_cons] at this
      exact this
    have hl : n < l.length := (List.getElem?_eq_some_iff.mp hw).1
    have em : l.drop (n + 1) = m := by rw [← List.tail_drop, e]; rfl
    obtain ⟨r, e1, v, h', e2, i'⟩ := hs n w a h hw i
    obtain ⟨y, h2, e3, q⟩ := comp_ok I l hf hG hs m (n + 1) (a ++ [v]) h' em hl i'
    refine ⟨v :: y, h2, ?_, by show I l.length (a ++ v :: y) h2; have q : I l.length (a ++ [v] ++ y) h2 := q; rw [List.append_assoc] at q; exact q⟩
    unfold compM
    rw [gdh_pos (hG _ _ _ i), e1]
    dsimp only
    rw [hf, bd_pr, if_pos rfl, bd_ok e2, bd_ok e3]; rfl
theorem ok_comp {β : Type} {G : List Ob → Prop} {t : W → Env' → Option Env'} {f : Env' → M Bool} {g : Env' → M W} {c : Nat} {ρ : Env'} {l : List W} {h : List Ob} {k : List W → M β} {Q : β → List Ob → Prop} (I : Nat → List W → List Ob → Prop) (h0 : I 0 [] h) (hf : ∀ r, f r = pr true) (hG : ∀ i a h, I i a h → G h)
    (hs : ∀ i w a h, l[i]? = some w → I i a h → ∃ r, t w (List.replicate c none ++ ρ) = some r ∧ Ok (g r) h fun v h' => I (i + 1) (a ++ [v]) h') (hd : ∀ a h, I l.length a h → Ok (k a) h Q) : Ok (bd (compM G t f g c l ρ) k) h Q :=
  ok_bd (comp_ok I l hf hG hs l 0 [] h rfl (Nat.zero_le _) h0) fun r h' i => hd r h' i
theorem yes_eq (r : Env') : mYes r = pr true := rfl
/-! ### places -/
/-- only the place j has changed -/
structure Fr (j : Nat) (h h' : List Ob) : Prop where
  len : h'.length = h.length
  eq : ∀ i, i ≠ j → h'[i]? = h[i]?
theorem Fr.trans {j : Nat} {a b c : List Ob} (x : Fr j a b) (y : Fr j b c) : Fr j a c := ⟨y.len.trans x.len, fun i hi => (y.eq i hi).trans (x.eq i hi)⟩
theorem Fr.set {j : Nat} {h : List Ob} {b : Ob} : Fr j h (h.set j b) := ⟨List.length_set .., fun i hi => by rw [List.getElem?_set_ne (Ne.symm hi)]⟩
theorem set_get {j : Nat} {h : List Ob} {a b : Ob} (e : h[j]? = some a) : (h.set j b)[j]? = some b := by
  rw [List.getElem?_set_self (List.getElem?_eq_some_iff.mp e).1]
theorem get_lt {j : Nat} {h : List Ob} {a : Ob} (e : h[j]? = some a) : j < h.length := (List.getElem?_eq_some_iff.mp e).1
theorem get_app {j : Nat} {h r : List Ob} {a : Ob} (e : h[j]? = some a) : (h ++ r)[j]? = some a := by
  rw [List.getElem?_append_left (get_lt e)]; exact e
theorem get_end {h : List Ob} {a : Ob} : (h ++ [a])[h.length]? = some a := by simp
/-! ### the least -/
theorem least {p : Nat → Prop} : ∀ {n : Nat}, (∃ r, r < n ∧ p r) → ∃ r, r < n ∧ p r ∧ ∀ j, j < r → ¬ p j
  | 0, ⟨_, h, _⟩ => absurd h (Nat.not_lt_zero _)
  | n + 1, ⟨r, h, q⟩ => by
    by_cases z : ∃ r, r < n ∧ p r
    · obtain ⟨r, h1, h2, h3⟩ := least z
      exact ⟨r, by omega, h2, h3⟩
    · have : r = n := by
        by_cases e : r < n
        · exact absurd ⟨r, e, q⟩ z
        · omega
      subst this
      exact ⟨r, h, q, fun j hj hp => z ⟨j, hj, hp⟩⟩
theorem nodup_len {α : Type} [DecidableEq α] : ∀ (a l : List α), a.Nodup → (∀ x ∈ a, x ∈ l) → a.length ≤ l.length
  | [], _, _, _ => Nat.zero_le _
  | x :: a, l, nd, h => by
    have hx := h x List.mem_cons_self
    have nd' := List.nodup_cons.mp nd
    have ih := nodup_len a (l.erase x) nd'.2 fun y hy => (List.mem_erase_of_ne (fun z : y = x => nd'.1 (by rw [← z]; exact hy))).mpr (h y (List.mem_cons_of_mem _ hy))
    rw [List.length_erase_of_mem hx] at ih
    have : 0 < l.length := List.length_pos_of_mem hx
    rw [List.length_cons]; omega
end L2
namespace L2
open PySem
theorem lstOf_tl (l : List W) : lstOf (.tl l) = pr l := rfl
theorem ix0 (a : W) (l : List W) : ixW (.tup (a :: l)) (.int 0) = pr a := ixW_tup (atI_ofW (by decide) rfl)
theorem ix1 (a b : W) (l : List W) : ixW (.tup (a :: b :: l)) (.int 1) = pr b := ixW_tup (atI_ofW (by decide) rfl)
theorem ix2 (a b c : W) (l : List W) : ixW (.tup (a :: b :: c :: l)) (.int 2) = pr c := ixW_tup (atI_ofW (by decide) rfl)
theorem ix3 (a b c d : W) (l : List W) : ixW (.tup (a :: b :: c :: d :: l)) (.int 3) = pr d := ixW_tup (atI_ofW (by decide) rfl)
theorem ix4 (a b c d e : W) (l : List W) : ixW (.tup (a :: b :: c :: d :: e :: l)) (.int 4) = pr e := ixW_tup (atI_ofW (by decide) rfl)
theorem ix5 (a b c d e f : W) (l : List W) : ixW (.tup (a :: b :: c :: d :: e :: f :: l)) (.int 5) = pr f := ixW_tup (atI_ofW (by decide) rfl)
theorem cut_map {α : Type} (f : α → W) (l : List α) (lo hi : Option Int) : cutW (l.map f) lo hi = (cutW l lo hi).map f := by
  unfold cutW
  rw [List.length_map, List.map_take, List.map_drop]
end L2
set_option maxHeartbeats 1000000
/-! the mirror: zip, extend, pop at a place, a tuple's index, t + u with t empty too, a tuple of the module -/
namespace L2
open PySem PySem.Spec PyProof.Rows
section
variable {X : Cx} {E : XK} {p pos : Pos}
/-! ### methods -/
variable {o e : Expr} {apos cpos : Pos} {fo : Env' → M W} {l : Env' → M (List W)}
/-! ### t + u -/
end
end L2
set_option maxHeartbeats 1000000
/-! the mirror: insert; walks that end early -/
namespace L2
open PySem PySem.Spec PyProof.Rows
section
variable {X : Cx} {E : XK} {o e e2 : Expr} {apos cpos : Pos} {fo : Env' → M W} {l : Env' → M (List W)}
end
theorem forR_ok {G : List Ob → Prop} {t : W → Env' → Option Env'} {g : Env' → M Fl} (I : Nat → Env' → List Ob → Prop) (J : W → List Ob → Prop) (l : List W) (hG : ∀ i ρ h, I i ρ h → G h)
    (hs : ∀ i w ρ h, l[i]? = some w → I i ρ h → ∃ r, t w ρ = some r ∧ Ok (g r) h fun x h' => (∃ r', x = .nx r' ∧ I (i + 1) r' h') ∨ ∃ v, x = .rt v ∧ J v h') :
    ∀ (m : List W) (n : Nat) (ρ : Env') (h : List Ob), l.drop n = m → n ≤ l.length → I n ρ h → Ok (forM G t g m ρ) h fun x h' => (∃ r', x = .nx r' ∧ I l.length r' h') ∨ ∃ v, x = .rt v ∧ J v h'
  | [], n, ρ, h, e, hn, i => by
    have : l.length ≤ n := List.drop_eq_nil_iff.mp e
    have hn : n = l.length := by omega
    subst hn
    refine ⟨.nx ρ, h, ?_, .inl ⟨ρ, rfl, i⟩⟩
    unfold forM
    rw [gdh_pos (hG _ _ _ i)]; rfl
  | w :: m, n, ρ, h, e, hn, i => by
    have hw : l[n]? = some w := by
      have := congrArg List.head? e
      rw [List.head?_drop, List.head?_cons] at this
      exact this
    have hl : n < l.length := (List.getElem?_eq_some_iff.mp hw).1
    have em : l.drop (n + 1) = m := by rw [← List.tail_drop, e]; rfl
    obtain ⟨r, e1, x, h', e2, ⟨r', rfl, i'⟩ | ⟨v, rfl, j'⟩⟩ := hs n w ρ h hw i
    · obtain ⟨y, h2, e3, q⟩ := forR_ok I J l hG hs m (n + 1) r' h' em hl i'
      refine ⟨y, h2, ?_, q⟩
      unfold forM
      rw [gdh_pos (hG _ _ _ i), e1]
      dsimp only
      rw [bd_ok e2]
      exact e3
    · refine ⟨.rt v, h', ?_, .inr ⟨v, rfl, j'⟩⟩
      unfold forM
      rw [gdh_pos (hG _ _ _ i), e1]
      dsimp only
      rw [bd_ok e2]; rfl
theorem ok_forR {β : Type} {G : List Ob → Prop} {t : W → Env' → Option Env'} {g : Env' → M Fl} {l : List W} {ρ : Env'} {h : List Ob} {k : Fl → M β} {Q : β → List Ob → Prop} (I : Nat → Env' → List Ob → Prop) (J : W → List Ob → Prop) (h0 : I 0 ρ h) (hG : ∀ i ρ h, I i ρ h → G h)
    (hs : ∀ i w ρ h, l[i]? = some w → I i ρ h → ∃ r, t w ρ = some r ∧ Ok (g r) h fun x h' => (∃ r', x = .nx r' ∧ I (i + 1) r' h') ∨ ∃ v, x = .rt v ∧ J v h') (hd : ∀ ρ h, I l.length ρ h → Ok (k (.nx ρ)) h Q) (hr : ∀ v h, J v h → Ok (k (.rt v)) h Q) : Ok (bd (forM G t g l ρ) k) h Q :=
  ok_bd (forR_ok I J l hG hs l 0 ρ h rfl (Nat.zero_le _) h0) fun x h' q => by
    rcases q with ⟨r', rfl, i⟩ | ⟨v, rfl, j⟩
    · exact hd r' h' i
    · exact hr v h' j
end L2
set_option maxHeartbeats 1000000
/-! list(range(a, b)) -/
namespace L2
open PySem PySem.Spec PyProof.Rows
section
variable {X : Cx} {E : XK} {a b : Expr} {p p2 pos pos2 : Pos}
end
end L2
set_option maxHeartbeats 1000000
/-! x is True; comprehensions with a condition -/
namespace L2
open PySem PySem.Spec PyProof.Rows
section
variable {X : Cx} {E : XK}
end
/-! ### a list at a place or not -/
section
variable {β : Type} {h : List Ob} {Q : β → List Ob → Prop} {x : W} {l : List W}
theorem Lw.src {k : Sr → M β} (p : Lw h x l) (q : ∀ G, (∀ h', Lw h' x l → G h') → Ok (k ⟨l, G⟩) h Q) : Ok (bd (srcL x) k) h Q := by
  rcases p with rfl | ⟨j, rfl, e⟩
  · show Ok (bd (pr ⟨l, fun _ => True⟩) k) h Q
    rw [bd_prN]; exact q _ fun _ _ => trivial
  · refine ok_src e (q _ fun h' r => ?_)
    rcases r with r | ⟨i, r, e'⟩
    · cases r
    · cases r; exact e'
theorem Lw.keep {h' : List Ob} (p : Lw h x l) (q : ∀ i, i < h.length → h'[i]? = h[i]?) : Lw h' x l := by
  rcases p with rfl | ⟨j, rfl, e⟩
  · exact .inl rfl
  · exact .inr ⟨j, rfl, (q j (get_lt e)).trans e⟩
end
theorem Lw.len_eq {β : Type} {h : List Ob} {Q : β → List Ob → Prop} {x : W} {l : List W} {k : W → M β} {N : Int} (p : Lw h x l) (hN : N = (l.length : Int)) (q : Ok (k (.int N)) h Q) : Ok (bd (lenW [x]) k) h Q := by
  subst hN; exact p.len q
end L2
set_option maxHeartbeats 1000000
/-! the mirror: objects of the program's classes -/
namespace L2
open PySem PySem.Spec PyProof.Rows
def lookF : List Str → List W → Str → Option W
  | n :: ns, w :: ws, f => if f = n then some w else lookF ns ws f
  | _, _, _ => none
def putN : List Str → List W → Str → W → List Str × List W
  | n :: ns, w :: ws, f, y => if n = f then (n :: ns, y :: ws) else (n :: (putN ns ws f y).1, w :: (putN ns ws f y).2)
  | _, _, f, y => ([f], [y])
section
variable {K : PySem.W.Frag} {o : Wo}
theorem lookF_ok {f : Str} {w : W} : ∀ {fs : List (Str × V)} {ns : List Str} {ws : List W}, fs.map (·.1) = ns → Rvs K o ws (fs.map (·.2)) → lookF ns ws f = some w → ∃ v, fs.lookup f = some v ∧ Rv K o w v
  | [], _, ws, e, _, h => by subst e; cases ws <;> cases h
  | (g, x) :: fs, _, [], e, r, h => by subst e; cases h
  | (g, x) :: fs, _, y :: ws, e, r, h => by
    subst e
    unfold Rvs at r
    obtain ⟨v, t, e2, r1, r2⟩ := r
    cases e2
    have h : (if f = g then some y else lookF (fs.map (·.1)) ws f) = some w := h
    by_cases z : f = g
    · rw [if_pos z] at h
      cases h
      exact ⟨x, by rw [List.lookup_cons, z]; simp, r1⟩
    · rw [if_neg z] at h
      obtain ⟨v, e3, r3⟩ := lookF_ok rfl r2 h
      refine ⟨v, ?_, r3⟩
      rw [List.lookup_cons, show (f == g) = false by simpa using z]
      exact e3
theorem lookF_no {f : Str} : ∀ {fs : List (Str × V)}, f ∉ fs.map (·.1) → fs.lookup f = none
  | [], _ => rfl
  | (g, x) :: fs, h => by
    rw [List.map_cons, List.mem_cons, not_or] at h
    rw [List.lookup_cons, show (f == g) = false by simpa using h.1]
    exact lookF_no h.2
theorem putN_ok {f : Str} {y : W} {v : V} (hy : Rv K o y v) : ∀ {fs : List (Str × V)} {ns : List Str} {ws : List W}, fs.map (·.1) = ns → Rvs K o ws (fs.map (·.2)) → (putF f v fs).map (·.1) = (putN ns ws f y).1 ∧ Rvs K o (putN ns ws f y).2 ((putF f v fs).map (·.2))
  | [], _, [], e, r => by subst e; exact ⟨rfl, Rvs.cons hy Rvs.nil⟩
  | [], _, w :: ws, e, r => by unfold Rvs at r; obtain ⟨_, _, e2, _⟩ := r; cases e2
  | (g, x) :: fs, _, [], e, r => by unfold Rvs at r; cases r
  | (g, x) :: fs, _, w :: ws, e, r => by
    subst e
    unfold Rvs at r
    obtain ⟨u, t, e2, r1, r2⟩ := r
    cases e2
    show (List.map (·.1) (if g = f then (g, v) :: fs else (g, x) :: putF f v fs)) = (if g = f then (g :: fs.map (·.1), y :: ws) else (g :: (putN (fs.map (·.1)) ws f y).1, w :: (putN (fs.map (·.1)) ws f y).2)).1 ∧ Rvs K o (if g = f then (g :: fs.map (·.1), y :: ws) else (g :: (putN (fs.map (·.1)) ws f y).1, w :: (putN (fs.map (·.1)) ws f y).2)).2 ((if g = f then (g, v) :: fs else (g, x) :: putF f v fs).map (·.2))
    by_cases z : g = f
    · rw [if_pos z, if_pos z]
      exact ⟨rfl, Rvs.cons hy r2⟩
    · rw [if_neg z, if_neg z]
      obtain ⟨a, b⟩ := putN_ok hy (fs := fs) rfl r2
      exact ⟨by rw [List.map_cons, a], Rvs.cons r1 b⟩
theorem Rel.putI (R : Rel K o) {k : Nat} {b : Ob} {c : Str} {C dx : Addr} {ns : List Str} {ws : List W} {fs : List (Str × V)} (hk : o.h[k]? = some b) (hb : b ≠ .gone) (hn : PySem.W.nsIn K mainGlobals c = some (some (.ref C))) (h1 : fs.map (·.1) = ns) (hl : Rvs K o ws (fs.map (·.2))) : Rel K (o.put k (.ins c ns ws) (.ins C dx fs)) :=
  R.put hk hb ⟨C, dx, fs, hn, upd_same, h1, hl.mono R (Ex.put hk hb)⟩
end
section
variable {X : Cx} {E : XK}
/-- an object of the class c -/
def insG (c : Str) (x : W) : M (Nat × List Str × List W) := match x with
  | .loc k => fun h => match h[k]? with
    | some (.ins c' ns ws) => if c' = c then .ok (k, ns, ws) h else .bad
    | _ => .bad
  | _ => no
theorem insG_ps {α β : Type} {r : Wo → α → β → Prop} {c : Str} {C : Addr} {o : Wo} {x : W} {v : V} {k : Nat × List Str × List W → M α} {Q : β → Hp → Prop} (hn : PySem.W.nsIn X.K mainGlobals c = some (some (.ref C))) (R : Rel X.K o) (hr : Rv X.K o x v) (h : Ps (cg X E) r o (bd (insG c x) k o.h) Q) :
    ∃ (j : Nat) (ns : List Str) (ws : List W) (dx : Addr) (fs : List (Str × V)), x = .loc j ∧ j < o.h.length ∧ o.h[j]? = some (.ins c ns ws) ∧ v = .ref (o.mu j) ∧ o.H (o.mu j) = some (.ins C dx fs) ∧ fs.map (·.1) = ns ∧ Rvs X.K o ws (fs.map (·.2)) ∧ Ps (cg X E) r o (k (j, ns, ws) o.h) Q := by
  cases x with
  | loc j =>
    unfold Rv at hr
    obtain ⟨hj, rfl⟩ := hr
    unfold insG bd at h
    cases e : o.h[j]? with
    | none => simp only [e] at h; exact h.elim
    | some b =>
      cases b with
      | ins c' ns ws =>
        simp only [e] at h
        by_cases z : c' = c
        · subst z
          rw [if_pos rfl] at h
          obtain ⟨C', dx, fs, q1, q2, q3, q4⟩ := R.ob j _ e
          rw [hn] at q1
          cases q1
          exact ⟨j, ns, ws, dx, fs, rfl, hj, e, rfl, q2, q3, q4, h⟩
        · rw [if_neg z] at h; exact h.elim
      | _ => simp only [e] at h; exact h.elim
  | _ => exact h.elim
/-! ### attributes -/
def fldG (c f : Str) (x : W) : M W := bd (insG c x) fun t => match lookF t.2.1 t.2.2 f with
  | some w => pr w
  | none => no
def putG (c f : Str) (x y : W) : M Unit := bd (insG c x) fun t => fun h => if t.2.1.length < 1000 then .ok () (h.set t.1 (.ins c (putN t.2.1 t.2.2 f y).1 (putN t.2.1 t.2.2 f y).2)) else .bad
variable {c f : Str} {C : Addr} {o : Expr} {fo : Env' → M W} {pos pos' : Pos}
theorem me_fld (hn : PySem.W.nsIn X.K mainGlobals c = some (some (.ref C))) (cl : Cls X.K C) (na : NoAttr X.K C f) (ho : JE X E o fo) (hb : attributeBase o f X.env (eval o X.env) = eval o X.env := by rfl) : JE X E (.Attribute o f pos) (m1 (fldG c f) fo) :=
  (pe_fld ho.h hb).imp fun σ H Q h => by
    obtain ⟨w, ρ, rfl, R, S, h⟩ := h
    refine ⟨w, ρ, rfl, R, S, Ps.bd h fun p x vx e1 R1 r1 h1 => ?_⟩
    obtain ⟨j, ns, ws, dx, fs, rfl, hj, e, rfl, q2, q3, q4, h1⟩ := insG_ps hn R1 r1 h1
    cases l : lookF ns ws f with
    | none => simp only [l] at h1; exact h1.elim
    | some y =>
      simp only [l] at h1
      obtain ⟨v, lv, rv⟩ := lookF_ok q3 q4 l
      exact ⟨_, C, dx, fs, v, rfl, q2, cl, na, lv, h1.pr R1 rv⟩
def sFldW (c f : Str) (fo fv : Env' → M W) : Env' → M Fl := fun ρ => bd (fv ρ) fun y => bd (fo ρ) fun x => bd (putG c f x y) fun _ => pr (.nx ρ)
theorem putG_ps {D : Ends} {p : Wo} {x y : W} {vx vy : V} {ρ : Env'} {σ : St} (hn : PySem.W.nsIn X.K mainGlobals c = some (some (.ref C))) (R : Rel X.K p) (S : Re X.K p ρ σ) (rx : Rv X.K p x vx) (ry : Rv X.K p y vy) (h : Ps (cg X E) (RFl X.K) p (bd (putG c f x y) (fun _ => pr (.nx ρ)) p.h) (DQ D)) :
    ∃ a dx fs, vx = .ref a ∧ p.H a = some (.ins C dx fs) ∧ fs.length < 1000 ∧ D.nx σ (upd p.H a (.ins C dx (putF f vy fs))) := by
  unfold putG at h
  rw [bd_assoc] at h
  obtain ⟨j, ns, ws, dx, fs, rfl, hj, e, rfl, q2, q3, q4, h⟩ := insG_ps hn R rx h
  have ln : fs.length = ns.length := by rw [← q3, List.length_map]
  by_cases z : ns.length < 1000
  · have h : Ps (cg X E) (RFl X.K) p (.ok (.nx ρ) (p.h.set j (.ins c (putN ns ws f y).1 (putN ns ws f y).2))) (DQ D) := by
      have e2 : (bd (fun h => if ns.length < 1000 then Rs.ok () (h.set j (.ins c (putN ns ws f y).1 (putN ns ws f y).2)) else .bad) (fun _ => pr (Fl.nx ρ)) p.h) = .ok (.nx ρ) (p.h.set j (.ins c (putN ns ws f y).1 (putN ns ws f y).2)) := by
        unfold bd
        simp only [if_pos z]; rfl
      rw [← e2]; exact h
    obtain ⟨a, b⟩ := putN_ok ry q3 q4
    refine ⟨p.mu j, dx, fs, rfl, q2, by omega, ?_⟩
    exact Ps.at (p := p.put j (.ins c (putN ns ws f y).1 (putN ns ws f y).2) (.ins C dx (putF f vy fs))) (b := FlV.nx σ) h rfl (Ex.put e (by simp)) (R.putI e (by simp) hn a b) ⟨σ, rfl, S.mono R (Ex.put e (by simp))⟩
  · have e2 : (bd (fun h => if ns.length < 1000 then Rs.ok () (h.set j (.ins c (putN ns ws f y).1 (putN ns ws f y).2)) else .bad) (fun _ => pr (Fl.nx ρ)) p.h) = .bad := by
      unfold bd
      simp only [if_neg z]
    have h : Ps (cg X E) (RFl X.K) p (bd (fun h => if ns.length < 1000 then Rs.ok () (h.set j (.ins c (putN ns ws f y).1 (putN ns ws f y).2)) else .bad) (fun _ => pr (Fl.nx ρ)) p.h) (DQ D) := h
    rw [e2] at h
    exact h.elim
variable {value : Expr} {fv : Env' → M W} {tpos : Pos}
theorem ms_fld (hn : PySem.W.nsIn X.K mainGlobals c = some (some (.ref C))) (cl : Cls X.K C) (na : NoAttr X.K C f) (ho : JE X E o fo) (hv : JE X E value fv) (hs : swapsWith value (some (.Attribute o f pos')) pos.line X.env = pure false := by rfl) : JS X E (.Assign [.Attribute o f pos'] value pos) (sFldW c f fo fv) :=
  (ps_fld ho.h hv.h hs).imp fun D σ H h => by
    obtain ⟨w, ρ, rfl, R, S, h⟩ := h
    refine ⟨w, ρ, rfl, R, S, Ps.bd h fun p y vy e1 R1 r1 h1 => ⟨p, ρ, rfl, R1, S.mono R e1, Ps.bd h1 fun q x vx e2 R2 r2 h2 => ?_⟩⟩
    obtain ⟨a, dx, fs, ex, q1, q2, q3⟩ := putG_ps hn R2 ((S.mono R e1).mono R1 e2) r2 (r1.mono R1 e2) h2
    exact ⟨a, C, dx, fs, ex, q1, cl, na, q2, q3⟩
/-- o.f += value, of whole numbers -/
def addI (x y : W) : M W := match x, y with
  | .int i, .int j => pr (.int (i + j))
  | _, _ => no
def sAugW (c f : Str) (fo fv : Env' → M W) : Env' → M Fl := fun ρ => bd (fo ρ) fun x => bd (fldG c f x) fun v => bd (fv ρ) fun y => bd (addI v y) fun z => bd (putG c f x z) fun _ => pr (.nx ρ)
theorem ms_fldaug (hn : PySem.W.nsIn X.K mainGlobals c = some (some (.ref C))) (cl : Cls X.K C) (na : NoAttr X.K C f) (ho : JE X E o fo) (hv : JE X E value fv) : JS X E (.AugAssign (.Attribute o f tpos) .Add value pos) (sAugW c f fo fv) :=
  (ps_fldaug ho.h hv.h in_add).imp fun D σ H h => by
    obtain ⟨w, ρ, rfl, R, S, h⟩ := h
    refine ⟨w, ρ, rfl, R, S, Ps.bd h fun p x vx e1 R1 r1 h1 => ?_⟩
    unfold fldG at h1
    rw [bd_assoc] at h1
    obtain ⟨j, ns, ws, dx, fs, rfl, hj, e, rfl, q2, q3, q4, h1⟩ := insG_ps hn R1 r1 h1
    cases l : lookF ns ws f with
    | none => simp only [l] at h1; exact h1.elim
    | some v =>
      simp only [l, bd_prN] at h1
      obtain ⟨vv, lv, rv⟩ := lookF_ok q3 q4 l
      refine ⟨_, C, dx, fs, vv, rfl, q2, cl, na, lv, p, ρ, rfl, R1, S.mono R e1, Ps.bd h1 fun q y vy e2 R2 r2 h2 => ?_⟩
      unfold addI at h2
      split at h2
      · rename_i a b
        rw [bd_prN] at h2
        refine ⟨a, b, rv_int.mp rv, rv_int.mp r2, ?_⟩
        have rl : Rv X.K q (.loc j) (.ref (p.mu j)) := by
          have := r1.mono R1 e2
          exact this
        obtain ⟨ad, dx', fs', ex, k1, k2, k3⟩ := putG_ps (vy := V.int (a + b)) hn R2 ((S.mono R e1).mono R1 e2) rl (rv_int.mpr rfl) h2
        cases ex
        exact ⟨dx', fs', k1, k2, k3⟩
      · exact h2.elim
/-! ### methods -/
structure CGm (P : Program) (w : World) (K : PySem.W.Frag) (mg : Str → Option Value) (base : Heap) (k : Nat) (C : Addr) (m : Str) (f : Addr) (fd : FuncData) (ps : List Str) (n : Nat) (fn : List W → M W) : Prop where
  ok : FnOk P w K mg base CX0 k f fd ps (spM0 K mg n fn)
  bi : Binds K fd ps []
  me : Meth K C m f
/-- the object, where it has no attribute of the method's name -/
def isI (c m : Str) (x : W) : M W := bd (insG c x) fun t => if m ∈ t.2.1 then no else pr x
def mMet (c m : Str) (n : Nat) (fn : List W → M W) (fo : Env' → M W) (l : Env' → M (List W)) : Env' → M W := fun ρ => bd (fo ρ) fun x => bd (isI c m x) fun x => bd (l ρ) fun ws => arW n fn (x :: ws)
theorem isI_ps {α β : Type} {r : Wo → α → β → Prop} {m : Str} {p : Wo} {x : W} {v : V} {k : W → M α} {Q : β → Hp → Prop} (hn : PySem.W.nsIn X.K mainGlobals c = some (some (.ref C))) (R : Rel X.K p) (hr : Rv X.K p x v) (h : Ps (cg X E) r p (bd (isI c m x) k p.h) Q) :
    ∃ a dx fs, v = .ref a ∧ p.H a = some (.ins C dx fs) ∧ fs.lookup m = none ∧ Ps (cg X E) r p (k x p.h) Q := by
  unfold isI at h
  rw [bd_assoc] at h
  obtain ⟨j, ns, ws, dx, fs, rfl, hj, e, rfl, q2, q3, q4, h⟩ := insG_ps hn R hr h
  by_cases z : m ∈ ns
  · simp only [if_pos z] at h
    exact h.elim
  · simp only [if_neg z, bd_prN] at h
    exact ⟨_, dx, fs, rfl, q2, lookF_no (by rw [q3]; exact z), h⟩
end
section
variable {X : Cx} {c m : Str} {C fA : Addr} {fd : FuncData} {ps : List Str} {k n : Nat} {fn : List W → M W} {o e : Expr} {es : List Expr} {fo : Env' → M W} {l : Env' → M (List W)} {pos apos p : Pos}
theorem me_met {pl : Sem Bool} (hn : PySem.W.nsIn X.K mainGlobals c = some (some (.ref C))) (cl : Cls X.K C) (F : CGm X.prog X.w X.K X.mg X.base k C m fA fd ps n fn) (hr : Room k X.A) (ho : JE X E0 o fo) (ha : JA X E0 (e :: es) l)
    (hst : starEach (e :: es) X.env = (false, eval e X.env) :: starEach es X.env := by rfl) (hpl : (backTo pos (starEach es X.env)).any (·.1) = false := by rfl)
    (ht : eval (.Call (.Attribute o m apos) (e :: es) [] pos) X.env = (do
      let ov ← eval o X.env
      standAt apos.atName
      let (f, first) ← holding [ov] (getMethod ov m pl)
      callWith pos f first (backTo pos (starEach (e :: es) X.env)) (backToKw pos (keywordEach [] X.env))) := by rfl) :
    JE X E0 (.Call (.Attribute o m apos) (e :: es) [] pos) (mMet c m n fn fo l) := (pe_meth ho.h cl F.me F.ok hr F.bi .nil pass0 ha.h hst hpl ht).imp fun σ H Q h => by
  obtain ⟨w, ρ, rfl, R, S, h⟩ := h
  refine ⟨w, ρ, rfl, R, S, Ps.bd h fun p x vx e1 R1 r1 h1 => ?_⟩
  obtain ⟨a, dx, fs, rfl, q1, q2, h1⟩ := isI_ps hn R1 r1 h1
  refine ⟨a, dx, fs, rfl, q1, q2, p, ρ, rfl, R1, S.mono R e1, Ps.bd h1 fun q ws vs e2 R2 r2 h2 => ?_⟩
  unfold arW at h2
  by_cases z : (x :: ws).length = n
  · rw [if_pos z] at h2
    exact ⟨q, x :: ws, rfl, z, R2, by rw [List.append_nil]; exact Rvs.cons (r1.mono R1 e2) r2, h2⟩
  · rw [if_neg z] at h2
    exact h2.elim
/-! ### a new object -/
def mMake (c : Str) (n : Nat) (fn : List W → M W) (l : Env' → M (List W)) : Env' → M W := fun ρ => bd (l ρ) fun ws => fun h => match arW n fn (.loc h.length :: ws) (h ++ [.ins c [] []]) with
  | .ok .non h' => .ok (.loc h.length) h'
  | _ => .bad
theorem Rv.addLocI {K : PySem.W.Frag} {o : Wo} {q : Addr} {b : Ob} {u : HO} : Rv K (o.add q b u) (.loc o.h.length) (.ref q) := by
  unfold Rv
  refine ⟨by show _ < (o.h ++ [b]).length; simp, ?_⟩
  show V.ref q = V.ref (if o.h.length = o.h.length then q else o.mu o.h.length)
  rw [if_pos rfl]
theorem me_make (M : Mk X.K C fA) (hn : PySem.W.nsIn X.K mainGlobals c = some (some (.ref C))) (F : FnOk X.prog X.w X.K X.mg X.base CX0 k fA fd ps (spM0 X.K X.mg n fn)) (hb : Binds X.K fd ps []) (hr : Room (k + 1) X.A) (hm : X.mg c = some (.ref C)) (ha : JA X E0 (e :: es) l) (hg : Gl X c := by rfl)
    (hdb : (c == ("__debug__" : Str)) = false := by decide) (he : starEach (e :: es) X.env = (false, eval e X.env) :: starEach es X.env := by rfl) (hpl : (backTo pos (starEach es X.env)).any (·.1) = false := by rfl) :
    JE X E0 (.Call (.Name c p) (e :: es) [] pos) (mMake c n fn l) := (pe_make M F hr hg hm hb .nil pass0 ha.h hdb he hpl).imp fun σ H Q h => by
  obtain ⟨w, ρ, rfl, R, S, h⟩ := h
  refine ⟨w, ρ, rfl, R, S, Ps.bd h fun p ws vs e1 R1 r1 h1 => ?_⟩
  intro x dx hx hdx hne
  have X1 : Ex p ⟨p.mu, p.h, upd p.H dx (.own x)⟩ := Ex.new hdx
  have N1 : Rel X.K ⟨p.mu, p.h, upd p.H dx (.own x)⟩ := R1.new hdx
  have hx1 : (⟨p.mu, p.h, upd p.H dx (.own x)⟩ : Wo).H x = none := by
    show upd p.H dx (.own x) x = none
    rw [upd_ne (Ne.symm hne)]; exact hx
  have X2 : Ex ⟨p.mu, p.h, upd p.H dx (.own x)⟩ (Wo.add ⟨p.mu, p.h, upd p.H dx (.own x)⟩ x (.ins c [] []) (.ins C dx [])) := Ex.add hx1
  have N2 : Rel X.K (Wo.add ⟨p.mu, p.h, upd p.H dx (.own x)⟩ x (.ins c [] []) (.ins C dx [])) := N1.add hx1 ⟨C, dx, [], hn, upd_same, rfl, Rvs.nil⟩
  have h1 : Ps (cg X E0) (Rv X.K) p (match arW n fn (.loc p.h.length :: ws) (p.h ++ [.ins c [] []]) with
    | .ok .non h' => .ok (.loc p.h.length) h'
    | _ => .bad) Q := h1
  by_cases z : (W.loc p.h.length :: ws).length = n
  · rw [arW_eq z] at h1
    refine ⟨Wo.add ⟨p.mu, p.h, upd p.H dx (.own x)⟩ x (.ins c [] []) (.ins C dx []), .loc p.h.length :: ws, rfl, z, N2, ?_, ?_⟩
    · rw [List.append_nil]
      exact Rvs.cons Rv.addLocI ((r1.mono R1 X1).mono N1 X2)
    · show Ps ⟨X.K, X.mg, E0⟩ (Rv X.K) _ (fn (.loc p.h.length :: ws) (p.h ++ [.ins c [] []])) _
      cases ef : fn (.loc p.h.length :: ws) (p.h ++ [.ins c [] []]) with
      | ok a h' =>
        rw [ef] at h1
        cases a with
        | non =>
          intro p' b hp X3 R3 rb
          refine ⟨rv_non.mp rb, Ps.at (p := p') h1 hp ((X1.trans X2).trans X3) R3 ?_⟩
          have lt : p.h.length < (Wo.add ⟨p.mu, p.h, upd p.H dx (.own x)⟩ x (.ins c [] []) (.ins C dx [])).h.length := by show _ < (p.h ++ [_]).length; simp
          unfold Rv
          refine ⟨Nat.lt_of_lt_of_le lt X3.le, ?_⟩
          rw [X3.mu _ lt]
          show V.ref x = V.ref (if p.h.length = p.h.length then x else p.mu p.h.length)
          rw [if_pos rfl]
        | _ => exact h1.elim
      | ex y h' => rw [ef] at h1; exact h1.elim
      | bad => rw [ef] at h1; exact h1.elim
  · have : arW n fn (.loc p.h.length :: ws) = no := if_neg z
    rw [this] at h1
    exact h1.elim
end
end L2
set_option maxHeartbeats 1000000
/-! dict of a list of pairs -/
namespace PySem
open Sem (wp)
theorem gq_miss_list {prog : Program} {w : World} {A : Around} {E : Value → Shared → Prop} {s : Shared} {a : Addr} {o : Obj} {xs : Array Value} {k : Nat} {name : Str} {Q : Option Value → Shared → Prop}
    (hx : s.heap.get? a = some o) (hc : o.cls = .type "list") (hdat : o.data = .seq xs k) (hd : o.dict = none) (hmiss : typeLookup (.type "list") name = pure none) (hname : (["__module__", "__name__", "__qualname__", "__doc__", "__annotations__"] : List Str).contains name = false) (hA : A.handled = none)
    (h : ∀ h' tk, (∀ b ob, s.heap.get? b = some ob → h'.get? b = some ob) → Q none { s with heap := h', toks := tk }) (hsz : name.length + 100 ≤ sizeLine := by size_fits) :
    wpAny (model prog w) A (getAttr? (.ref a) name) Q E s := by
  obtain ⟨c, dct, dat, sl⟩ := o
  simp only at hc hdat hd
  subst hc hdat hd
  obtain ⟨hp, g, d, tk, os⟩ := s
  have hT : ∀ tk', (⟨hp, g, d, tk', os⟩ : Shared).TypeIs (.ref a) "list" := fun _ => ⟨_, hx, rfl⟩
  have f1 := sub_AttributeError
  have f3 := F.slot_list_getattribute.lookup
  have f4 := F.slot_list_getattribute.bind (.ref a)
  have f5 := am_list_getattr_none
  unfold getAttr? getAttrBy? getAttrBy
  repeat (any_goals (first | assumption | exact hT _ | ((with_reducible show wpAny _ _ (call (Value.builtin "list.__getattribute__") _ _) _ _ _); refine call_meets F.slot_list_getattribute (hT _) am_entry_list_getattribute (F.args_list_getattribute_2 _ _) (meets_getattribute_miss_list a xs k sl name _ hmiss hname hsz) ⟨hx, hA, fun h' tk' e hx' => ?_⟩) | wp_step))
  obtain ⟨t', u', he⟩ := hx'.there
  show wpAny _ _ (getattributeRaised _ _ _ _ _ _ _) _ _ _
  unfold getattributeRaised
  repeat (any_goals (first | assumption | wp_step))
  exact h _ _ hx'.keeps
theorem F.entry_dul : entryFor table "dict.update.loop" = some Builtin.«dict.update.loop» := entryFor_of_tree (by kernel_rfl)
theorem F.plain_dul : plainId "dict.update.loop" = true := by decide +kernel
structure Pr17 (K : Type) where
  t : Addr
  k : K
  key : Value
  val : Value
section
variable {prog : Program} {w : World} {K : Type} [DecidableEq K] {knd : KeyKind prog w K} {A : Around} {R : Result → Shared → Prop}
theorem dul_loop (hh : A.in1.handled = none) (I ax D : Addr) (hI : ax ≠ I) (hD : D ≠ I) (hx : D ≠ ax) (ps : List (Pr17 K)) (res : Value) (hk : ∀ p ∈ ps, knd.is p.k p.key = true) (ht : ∀ p ∈ ps, p.t ≠ I ∧ p.t ≠ D) :
    ∀ (k i : Nat) (s : Shared) (kvs : List (K × Value)), ps.length - i = k → i ≤ ps.length → s.heap.IsListIter I ax i → s.heap.IsList ax (ps.map fun p => Value.ref p.t).toArray → s.heap.DictOf knd D kvs → (∀ p ∈ ps, ∃ o n, s.heap.get? p.t = some o ∧ o.cls = .type "tuple" ∧ o.data = .seq #[p.key, p.val] n) → kvs.length + (ps.length - i) ≤ sizeLine →
    (∀ h' tk, h'.DictOf knd D ((ps.drop i).foldl (fun acc p => stored acc p.k p.val) kvs) → (∀ b o, b ≠ I → b ≠ D → s.heap.get? b = some o → h'.get? b = some o) → R (.ok (.ret res)) { s with heap := h', toks := tk }) →
    codeAny (model prog w) A (.builtin "dict.update.loop" ⟨[.ref D, .ref I, rawInt (i : Int), res], []⟩) R s := by
  have W := Walks.list (prog := prog) (w := w) (A := A.in1) hh I ax hI (ps.map fun p => Value.ref p.t).toArray
  have hn : (ps.map fun p => Value.ref p.t).toArray.size = ps.length := by simp
  intro k
  induction k with
  | zero =>
    intro i s kvs hk' hi hit hl hd htp hz hR
    have hin : i = ps.length := by omega
    subst hin
    refine codeAny_builtin F.entry_dul ?_
    rw [Around.under_plainId F.plain_dul _]
    show wpAny _ A.in1 (pyNext (.ref I) >>= _) _ _ s
    refine wpAny_bind (W.done s _ _ ⟨by rw [hn]; exact hit, hl⟩ fun h' tk hm => ?_)
    show wpAny _ _ (Builtin.Dict.addKeywords D [] >>= _) _ _ _
    refine wpAny_bind (wpAny_pure (wpAny_pure (hR h' tk ?_ fun b o hb _ e => hm b o (by simpa using hb) e)))
    rw [List.drop_length]
    exact hd.extBut (fun b o hb e => hm b o (by simpa using hb) e) hD
  | succ k ih =>
    intro i s kvs hk' hi hit hl hd htp hz hR
    have hlt : i < ps.length := by omega
    refine codeAny_builtin F.entry_dul ?_
    rw [Around.under_plainId F.plain_dul _]
    show wpAny _ A.in1 (pyNext (.ref I) >>= _) _ _ s
    refine wpAny_bind (W.item i s _ _ (by rw [hn]; exact hlt) ⟨hit, hl⟩ fun v h' tk hP hst hm => ?_)
    obtain ⟨p, hp⟩ : ∃ p, ps[i]? = some p := ⟨_, List.getElem?_eq_getElem hlt⟩
    have hv : v = .ref p.t := by
      have : (ps.map fun p => Value.ref p.t)[i]? = some v := by simpa using hP
      rw [List.getElem?_map, hp] at this
      exact (Option.some.inj this).symm
    subst hv
    have pm : p ∈ ps := List.mem_of_getElem? hp
    obtain ⟨o, n, ho, hc, hdt⟩ := htp p pm
    have ho' : h'.get? p.t = some o := hm p.t o (by simpa using (ht p pm).1) ho
    have hT : (⟨h', s.gens, s.drawn, tk, s.os⟩ : Shared).TypeIs (.ref p.t) "tuple" := ⟨_, ho', hc⟩
    dsimp only
    refine wpAny_bind (wpAny_holding (wpAny_bind (wpAny_tryCatch ?_)))
    unfold Builtin.Dict.pairItems
    refine wpAny_bind (wpAny_typeOf hT ?_)
    rw [if_pos (by decide)]
    refine wpAny_bind (wpAny_seqItems ho' hdt (wpAny_pure ?_))
    show wpAny _ _ (holding [p.key, p.val] (dictSet D p.key p.val)) _ _ _
    have hd1 : h'.DictOf knd D kvs := hd.extBut (fun b o hb e => hm b o (by simpa using hb) e) hD
    refine wpAny_holding (wpAny_dictSet_pairs (s := ⟨h', s.gens, s.drawn, tk, s.os⟩) (hk p pm) hd1 (fun h2 hd2 hs2 => ?_) (by omega))
    have kp2 : ∀ b o, b ≠ D → h'.get? b = some o → h2.get? b = some o := fun b o hb e => (hs2.2 b hb).trans e
    have ei : ((i : Int) + 1) = ((i + 1 : Nat) : Int) := by omega
    rw [ei]
    refine wpAny_pure ⟨plainId_quiet F.plain_dul _, ih (i + 1) _ (stored kvs p.k p.val) (by omega) (by omega) (hst.1.at fun o e => kp2 I o (Ne.symm hD) e) (hst.2.at fun o e => kp2 ax o (Ne.symm hx) e) hd2 (fun q hq => ?_) ?_ fun h3 tk3 hd3 hk3 => ?_⟩
    · obtain ⟨o, n, e1, e2, e3⟩ := htp q hq
      exact ⟨o, n, kp2 _ _ (ht q hq).2 (hm _ _ (by simpa using (ht q hq).1) e1), e2, e3⟩
    · have : (stored kvs p.k p.val).length ≤ kvs.length + 1 := by
        unfold stored
        split
        · rw [List.length_map]; omega
        · rw [List.length_append]; simp
      omega
    · refine hR h3 tk3 ?_ fun b o hb hb2 e => hk3 b o hb hb2 (kp2 b o hb2 (hm b o (by simpa using hb) e))
      have ed : ps.drop i = p :: ps.drop (i + 1) := by
        rw [List.drop_eq_getElem_cons hlt]
        congr 1
        have := List.getElem?_eq_getElem hlt
        rw [hp] at this
        exact (Option.some.inj this).symm
      rw [ed, List.foldl_cons]
      exact hd3
theorem keys_miss : typeLookup (.type "list") "keys" = pure none := am_miss_of_fast (by decide +kernel)
theorem call_dict_prs {E : Value → Shared → Prop} {s : Shared} {a : Addr} {ps : List (Pr17 K)} {Q : Value → Shared → Prop} (hh : A.handled = none) (hl : PlainL s.heap a (ps.map fun p => Value.ref p.t).toArray) (hk : ∀ p ∈ ps, knd.is p.k p.key = true)
    (ht : ∀ p ∈ ps, ∃ o n, s.heap.get? p.t = some o ∧ o.cls = .type "tuple" ∧ o.data = .seq #[p.key, p.val] n) (hz : ps.length ≤ sizeLine)
    (h : ∀ h' tk, h'.DictOf knd s.heap.objs.size (ps.foldl (fun acc p => stored acc p.k p.val) []) → (∀ b o, s.heap.get? b = some o → h'.get? b = some o) → Q (.ref s.heap.objs.size) { s with heap := h', toks := tk }) :
    wpAny (model prog w) A (call (.type "dict") [.ref a]) Q E s := by
  refine callType_codes (Q₁ := fun obj s₁ => obj = .ref s.heap.objs.size ∧ s₁ = { s with heap := s.heap.push { cls := .type "dict", data := .dict #[] } }) F.kt_called_dict (F.kt_typeCall_dict_1 _) F.entry_dict_init (kt_code_dict_new _ ⟨rfl, rfl⟩) ?_
  rintro obj s₁ ⟨rfl, rfl⟩
  have hnew : (s.heap.push { cls := .type "dict", data := .dict #[] }).DictOf knd s.heap.objs.size [] := Heap.DictOf.new s.heap
  have kp1 : ∀ b o, s.heap.get? b = some o → (s.heap.push { cls := .type "dict", data := .dict #[] }).get? b = some o := fun b o e => Heap.get?_push_of_some _ e
  have hl1 := hl.keeps kp1
  have hT : ({ s with heap := s.heap.push { cls := .type "dict", data := .dict #[] } } : Shared).TypeIs (.ref a) "list" := let ⟨o, n, e, c, _, _⟩ := hl1; ⟨o, e, c⟩
  have al : a < s.heap.objs.size := let ⟨o, n, e, _⟩ := hl; Heap.lt_size e
  refine ⟨hnew.typeIs, F.args_dict_init_2 _ _, ?_⟩
  unfold Builtin.«dict.__init__»
  refine wpAny_bind ?_
  unfold Builtin.Dict.selfAndRest
  refine wpAny_bind (wpAny_notOrdered_dict hnew.typeIs ?_)
  show wpAny _ _ (pure (s.heap.objs.size, [Value.ref a])) _ _ _
  refine wpAny_pure ?_
  show wpAny _ _ (Builtin.Dict.updateFrom "dict.__init__" s.heap.objs.size (.ref a) [] .none) _ _ _
  unfold Builtin.Dict.updateFrom
  refine wpAny_bind (wpAny_typeOf hT ?_)
  rw [if_pos (by decide)]
  obtain ⟨o, n, e1, e2, e3, e4⟩ := hl1
  refine wpAny_bind (gq_miss_list e1 e2 e4 e3 keys_miss (by decide +kernel) hh (fun h2 tk2 kp2 => ?_) (by decide +kernel))
  rw [if_pos (show (none : Option Value).isNone = true from rfl)]
  refine wpAny_bind (wpAny_rule ?_)
  have hl2 : PlainL h2 a (ps.map fun p => Value.ref p.t).toArray := PlainL.keeps ⟨o, n, e1, e2, e3, e4⟩ kp2
  refine wpAny_bind (wpAny_pyIter_list (s := ⟨h2, s.gens, s.drawn, tk2, s.os⟩) hl2.isList ?_)
  have d2 : s.heap.objs.size < h2.objs.size := by
    obtain ⟨o', _, _, e', _⟩ := hnew
    exact Heap.lt_size (kp2 _ _ e')
  have kp3 : ∀ b o, s.heap.get? b = some o → (h2.push { cls := .type "list_iterator", data := .fields #[.ref a, .int 0 0] }).get? b = some o := fun b o e => Heap.get?_push_of_some _ (kp2 b o (kp1 b o e))
  have hnew3 : (h2.push { cls := .type "list_iterator", data := .fields #[.ref a, .int 0 0] }).DictOf knd s.heap.objs.size [] := by
    obtain ⟨o', es, ep, e', r⟩ := hnew
    exact ⟨o', es, ep, Heap.get?_push_of_some _ (kp2 _ _ e'), r⟩
  have tl : ∀ p ∈ ps, p.t < s.heap.objs.size := fun p hp => by
    obtain ⟨o, n, e, _⟩ := ht p hp
    exact Heap.lt_size e
  refine wpAny_pure ⟨plainId_quiet F.plain_dul _, dul_loop (A := A.in1) (knd := knd) hh h2.objs.size a s.heap.objs.size (Nat.ne_of_lt (Nat.lt_trans al d2)) (Nat.ne_of_lt d2) (Ne.symm (Nat.ne_of_lt al)) ps .none hk (fun p hp => ⟨Nat.ne_of_lt (Nat.lt_trans (tl p hp) d2), Nat.ne_of_lt (tl p hp)⟩) ps.length 0 _ [] rfl (Nat.zero_le _) ⟨_, Heap.get?_push_size _ rfl, rfl, rfl⟩ (PlainL.keeps hl2 fun b o e => Heap.get?_push_of_some _ e).isList hnew3 (fun p hp => ?_) (by show 0 + (ps.length - 0) ≤ sizeLine; omega) fun h4 tk4 hd4 hk4 => ?_⟩
  · obtain ⟨o, n, e, r⟩ := ht p hp
    exact ⟨o, n, kp3 _ _ e, r⟩
  · refine ⟨rfl, h h4 tk4 hd4 fun b o e => hk4 b o ?_ ?_ (kp3 b o e)⟩
    · exact Nat.ne_of_lt (Nat.lt_trans (Heap.lt_size e) d2)
    · exact Nat.ne_of_lt (Heap.lt_size e)
end
end PySem
namespace L2
open PySem PySem.Spec PyProof.Rows
/-- pairs of a key and a value, each at a tuple -/
inductive PrsAt (K : PySem.W.Frag) (H : Hp) : List V → List (Key × V) → Prop
  | nil : PrsAt K H [] []
  | cons {t : Addr} {k : Key} {v : V} {vs : List V} {ps : List (Key × V)} (e : SqT K H t [kV k, v]) (r : PrsAt K H vs ps) : PrsAt K H (.ref t :: vs) ((k, v) :: ps)
theorem mergeK_len : ∀ (ps kvs : List (Key × V)), (mergeK kvs ps).length ≤ kvs.length + ps.length
  | [], kvs => by simp [mergeK]
  | p :: ps, kvs => by
    have h1 := mergeK_len ps (putK kvs p.1 p.2)
    have h2 := length_putK kvs p.1 p.2
    show (mergeK (putK kvs p.1 p.2) ps).length ≤ _
    rw [List.length_cons]; omega
section
variable {X : Cx}
theorem prs_of {pins : List (Addr × Obj)} {σ : St} {H : Hp} {s : Shared} (I : Inv X pins σ H s) : ∀ {vs : List V} {kvs : List (Key × V)} {its : List Value}, PrsAt X.K H vs kvs → Vals vs its →
    ∃ ps : List (Pr17 Key), its = ps.map (fun p => Value.ref p.t) ∧ (∀ p ∈ ps, (mixKind X.prog X.w).is p.k p.key = true) ∧ (∀ p ∈ ps, ∃ o n, s.heap.get? p.t = some o ∧ o.cls = .type "tuple" ∧ o.data = .seq #[p.key, p.val] n) ∧
      ps.length = kvs.length ∧ ∀ (acc : List (Key × V)) (ac : List (Key × Value)), KV acc ac → KV (mergeK acc kvs) (ps.foldl (fun acc p => stored acc p.k p.val) ac)
  | _, _, _, .nil, .nil => ⟨[], rfl, fun p hp => absurd hp List.not_mem_nil, fun p hp => absurd hp List.not_mem_nil, rfl, fun _ _ h => h⟩
  | _, _, _, .cons (t := t) (k := k) (v := v) e r, .cons ru rr => by
    cases ru
    obtain ⟨ps, e1, h1, h2, h3, h4⟩ := prs_of I r rr
    obtain ⟨is, rv, tp, _⟩ := I.tuple e
    obtain ⟨u, w', rfl, rk, rw'⟩ := vals2 rv
    obtain ⟨o, ho, hc, n, hd⟩ := tp
    refine ⟨⟨t, k, u, w'⟩ :: ps, by rw [List.map_cons, e1], fun p hp => ?_, fun p hp => ?_, by rw [List.length_cons, List.length_cons, h3], fun acc ac q => ?_⟩
    · rcases List.mem_cons.mp hp with rfl | hp
      · exact kV_is rk
      · exact h1 p hp
    · rcases List.mem_cons.mp hp with rfl | hp
      · exact ⟨o, n, ho, hc, hd⟩
      · exact h2 p hp
    · rw [List.foldl_cons]
      exact h4 _ _ (q.put k rw')
theorem call_dictPrs (hc : X.calm = true) : CallR X (.type "dict") (fun xs H Q => ∃ (a : Addr) (vs : List V) (kvs : List (Key × V)), xs = [.ref a] ∧ SqL X.K H a vs ∧ PrsAt X.K H vs kvs ∧ ∀ p, H p = none → Q (.ref p) (upd H p (.dK (mergeK [] kvs)))) := by
  intro pins s σ H xs us Q I r h
  obtain ⟨a, vs, kvs, rfl, sq, pr', q⟩ := h
  obtain ⟨u, rfl, ru⟩ := vals1 r
  cases ru
  obtain ⟨its, rv, pl, hz⟩ := I.list sq
  obtain ⟨ps, rfl, h1, h2, h3, h4⟩ := prs_of I pr' rv
  have hl : vs.length = kvs.length := by rw [rv.length, List.length_map, h3]
  have ml := mergeK_len kvs []
  rw [List.length_nil] at ml
  refine call_dict_prs (knd := mixKind X.prog X.w) (I.ok.hd hc) pl h1 h2 (by omega) fun h' tk hd kp => ?_
  exact ⟨.ref s.heap.objs.size, _, I.laid (a := s.heap.objs.size) (o := .dK (mergeK [] kvs)) (t' := tk) kp (Nat.le_refl _) (dk_new (by omega) (beq_eq_false_iff_ne.mpr (Ne.symm (Nat.ne_of_lt I.big))) (h4 [] [] .nil) hd), rfl, q _ (I.hok.fresh (Nat.le_refl _))⟩
end
end L2
set_option maxHeartbeats 1000000
/-! the mirror: dict of a list of pairs -/
namespace L2
open PySem PySem.Spec PyProof.Rows
def prW : W → Option (Key × W)
  | .tup [k, v] => (keyOf k).map fun q => (q, v)
  | _ => none
def mergeW (ks : List Key) (ws : List W) : List (Key × W) → List Key × List W
  | [] => (ks, ws)
  | p :: ps => mergeW (putW ks ws p.1 p.2).1 (putW ks ws p.1 p.2).2 ps
section
variable {K : PySem.W.Frag} {o : Wo}
theorem prs_rv : ∀ {l : List W} {us : List V} {ps : List (Key × W)}, optL prW l = some ps → Rvs K o l us → ∃ kvs : List (Key × V), PrsAt K o.H us kvs ∧ ∀ (acc : List (Key × V)) (ks : List Key) (ws : List W), acc.map (·.1) = ks → Rvs K o ws (acc.map (·.2)) → (mergeK acc kvs).map (·.1) = (mergeW ks ws ps).1 ∧ Rvs K o (mergeW ks ws ps).2 ((mergeK acc kvs).map (·.2))
  | [], _, ps, e, r => by
    cases e
    unfold Rvs at r
    subst r
    exact ⟨[], .nil, fun acc ks ws h1 h2 => ⟨h1, h2⟩⟩
  | x :: l, _, ps, e, r => by
    unfold Rvs at r
    obtain ⟨v, t, rfl, r1, r2⟩ := r
    unfold optL at e
    cases ex : prW x with
    | none => simp only [ex] at e; cases e
    | some p =>
      cases el : optL prW l with
      | none => simp only [ex, el] at e; cases e
      | some qs =>
        simp only [ex, el] at e
        cases e
        obtain ⟨kvs, h1, h2⟩ := prs_rv el r2
        unfold prW at ex
        split at ex
        · rename_i kx vx
          cases ek : keyOf kx with
          | none => rw [ek] at ex; cases ex
          | some q =>
            rw [ek] at ex
            cases ex
            unfold Rv at r1
            obtain ⟨a, vs, rfl, sq, rr⟩ := r1
            obtain ⟨u, y, rfl, ru, ry⟩ := rr.two
            have := keyOf_rv ek ru
            subst this
            refine ⟨(q, y) :: kvs, .cons sq h1, fun acc ks ws g1 g2 => ?_⟩
            obtain ⟨b1, b2⟩ := putW_rv (x := q) ry g1 g2
            exact h2 _ _ _ b1 b2
        · cases ex
end
def dNewL (ws : List W) : M W := match ws with
  | [x] => bd (lstOf x) fun l => match optL prW l with
    | some ps => fun h => .ok (.loc h.length) (h ++ [.dic (mergeW [] [] ps).1 (mergeW [] [] ps).2])
    | none => no
  | _ => no
section
variable {X : Cx} {E : XK} {a : Expr} {p pos : Pos} {l : Env' → M (List W)}
theorem me_dictL (hc : X.calm = true) (hm : X.mg "dict" = none) (ha : JA X E [a] l) (hg : Gl X "dict" := by rfl) (he : starEach [a] X.env = (false, eval a X.env) :: starEach [] X.env := by rfl) (hpl : (backTo pos (starEach [] X.env)).any (·.1) = false := by rfl) : JE X E (.Call (.Name "dict" p) [a] [] pos) (mCall dNewL l) :=
  (pe_callTy (call_dictPrs hc) hg hm PyProof.Rows.boot_dict ha.h (he := he) (hpl := hpl)).imp fun σ H Q h => by
    obtain ⟨o, ρ, rfl, R, S, h⟩ := h
    refine ⟨o, ρ, rfl, R, S, Ps.bd h fun p x vx e1 R1 r1 h1 => ?_⟩
    unfold dNewL at h1
    split at h1
    · obtain ⟨v, rfl, r⟩ := r1.one
      obtain ⟨m, a', us, rfl, s, rr, h1⟩ := lstOf_ps R1 r h1
      cases el : optL prW m with
      | none => simp only [el] at h1; exact h1.elim
      | some ps =>
        simp only [el] at h1
        obtain ⟨kvs, k1, k2⟩ := prs_rv el rr
        obtain ⟨b1, b2⟩ := k2 [] [] [] rfl Rvs.nil
        refine ⟨a', us, kvs, rfl, s, k1, fun q hq => ?_⟩
        exact Ps.at (p := p.add q (.dic (mergeW [] [] ps).1 (mergeW [] [] ps).2) (.dK (mergeK [] kvs))) h1 rfl (Ex.add hq) (R1.addD hq b1 b2) Rv.addLoc
    · exact h1.elim
end
end L2
set_option maxHeartbeats 1000000
/-! the mirror: x += e, of whole numbers -/
namespace L2
open PySem PySem.Spec PyProof.Rows
section
variable {X : Cx} {E : XK} {e : Expr} {f : Env' → M W} {pos : Pos}
end
theorem se_a {es : List Expr} {env : Env} {a o p} : starEach (.Attribute a o p :: es) env = (false, eval (.Attribute a o p) env) :: starEach es env := by rfl
end L2
set_option maxHeartbeats 1000000
/-! running the mirror: objects, dicts, whiles -/
namespace L2
open PySem
section
variable {β : Type} {h : List Ob} {Q : β → List Ob → Prop} {j d : Nat}
theorem ok_ins0 {c : Str} {ns : List Str} {ws : List W} (e : h[d]? = some (.ins c ns ws)) : insG c (.loc d) h = .ok (d, ns, ws) h := by
  unfold insG
  simp only [e, if_true]
theorem ok_fld {c f : Str} {ns : List Str} {ws : List W} {w : W} {k : W → M β} (e : h[d]? = some (.ins c ns ws)) (e2 : lookF ns ws f = some w) (q : Ok (k w) h Q) : Ok (bd (fldG c f (.loc d)) k) h Q := by
  refine ok_bdo (a := w) (h' := h) ?_ q
  unfold fldG
  rw [bd_ok (ok_ins0 e)]
  simp only [e2]
  rfl
theorem ok_put {c f : Str} {ns ns' : List Str} {ws ws' : List W} {y : W} {k : Unit → M β} (e : h[d]? = some (.ins c ns ws)) (z : ns.length < 1000) (e2 : putN ns ws f y = (ns', ws')) (q : Ok (k ()) (h.set d (.ins c ns' ws')) Q) : Ok (bd (putG c f (.loc d) y) k) h Q := by
  refine ok_bdo (a := ()) (h' := h.set d (.ins c ns' ws')) ?_ q
  unfold putG
  rw [bd_ok (ok_ins0 e)]
  simp only [if_pos z, e2]
theorem ok_isI {c m : Str} {ns : List Str} {ws : List W} {k : W → M β} (e : h[d]? = some (.ins c ns ws)) (z : m ∉ ns) (q : Ok (k (.loc d)) h Q) : Ok (bd (isI c m (.loc d)) k) h Q := by
  refine ok_bdo (a := .loc d) (h' := h) ?_ q
  unfold isI
  rw [bd_ok (ok_ins0 e)]
  simp only [if_neg z]
  rfl
theorem ok_ixS {ks : List Key} {ws : List W} {z : Str} {v : W} {k : W → M β} (e : h[j]? = some (.dic ks ws)) (e2 : atK ks ws (.inr z) = some v) (q : Ok (k v) h Q) : Ok (bd (ixW (.loc j) (.str z)) k) h Q := by
  refine ok_bdo (a := v) (h' := h) ?_ q
  have d : dicOf (.loc j) h = some (ks, ws) := by unfold dicOf; simp only [e]
  have : ixO (.loc j) (.str z) h = some v := by
    unfold ixO
    simp only [d, keyOf, e2]
  unfold ixW
  rw [this]
theorem ok_stS {ks ks' : List Key} {ws ws' : List W} {z : Str} {v : W} {k : Unit → M β} (e : h[j]? = some (.dic ks ws)) (hz : ks.length < sizeLine) (e2 : putW ks ws (.inr z) v = (ks', ws')) (q : Ok (k ()) (h.set j (.dic ks' ws')) Q) : Ok (bd (storeW (.loc j) (.str z) v) k) h Q := by
  refine ok_bdo (a := ()) (h' := h.set j (.dic ks' ws')) ?_ q
  unfold storeW
  simp only [e, keyOf, if_pos hz, e2]
theorem ok_make {c : Str} {n : Nat} {fn : List W → M W} {ws : List W} {P : List Ob → Prop} {k : W → M β} (hn : ws.length + 1 = n) (p : Ok (fn (.loc h.length :: ws)) (h ++ [.ins c [] []]) fun w h' => w = .non ∧ P h') (q : ∀ h', P h' → Ok (k (.loc h.length)) h' Q) :
    Ok (bd (fun h => match arW n fn (.loc h.length :: ws) (h ++ [.ins c [] []]) with
  | .ok .non h' => .ok (.loc h.length) h'
  | _ => .bad) k) h Q := by
  obtain ⟨w, h', e, rfl, hp⟩ := p
  refine ok_bdo (a := .loc h.length) (h' := h') ?_ (q h' hp)
  have : arW n fn (.loc h.length :: ws) = fn (.loc h.length :: ws) := arW_eq hn
  simp only [this, e]
theorem ok_dL {x : W} {l : List W} {ps : List (Key × W)} {ks : List Key} {ws : List W} {k : W → M β} (L : Lw h x l) (e : optL prW l = some ps) (e2 : mergeW [] [] ps = (ks, ws)) (q : Ok (k (.loc h.length)) (h ++ [.dic ks ws]) Q) : Ok (bd (dNewL [x]) k) h Q := by
  refine ok_bdo (a := .loc h.length) (h' := h ++ [.dic ks ws]) ?_ q
  unfold dNewL
  dsimp only
  rw [bd_ok L.of]
  simp only [e, e2]
theorem ok_dnew {k : W → M β} {ρ : Env'} (q : Ok (k (.loc h.length)) (h ++ [.dic [] []]) Q) : Ok (bd (mDNew ρ) k) h Q := ok_bdo (a := .loc h.length) (h' := h ++ [.dic [] []]) rfl q
theorem ok_lstOf {x : W} {l : List W} {k : List W → M β} (L : Lw h x l) (q : Ok (k l) h Q) : Ok (bd (lstOf x) k) h Q := ok_bdo L.of q
end
/-- one round of a while -/
theorem wh_t {t : Env' → M Bool} {g : Env' → M Fl} {n : Nat} {ρ : Env'} {h : List Ob} {Q : Fl → List Ob → Prop} (c : Ok (t ρ) h fun b h' => b = true ∧ h' = h) (b : Ok (g ρ) h fun x h' => (∃ r, x = .nx r ∧ Ok (whileM t g n r) h' Q) ∨ ∃ w, x = .rt w ∧ Q (.rt w) h') : Ok (whileM t g (n + 1) ρ) h Q := by
  obtain ⟨b0, h0, e0, rfl, rfl⟩ := c
  obtain ⟨x, h1, e1, q⟩ := b
  rcases q with ⟨r, rfl, y, h2, e2, q⟩ | ⟨w, rfl, q⟩
  · refine ⟨y, h2, ?_, q⟩
    unfold whileM
    rw [bd_ok e0, if_pos rfl, bd_ok e1]
    exact e2
  · refine ⟨.rt w, h1, ?_, q⟩
    unfold whileM
    rw [bd_ok e0, if_pos rfl, bd_ok e1]
    rfl
theorem wh_f {t : Env' → M Bool} {g : Env' → M Fl} {n : Nat} {ρ : Env'} {h : List Ob} {Q : Fl → List Ob → Prop} (c : Ok (t ρ) h fun b h' => b = false ∧ h' = h) (q : Q (.nx ρ) h) : Ok (whileM t g (n + 1) ρ) h Q := by
  obtain ⟨b0, h0, e0, rfl, rfl⟩ := c
  refine ⟨.nx ρ, _, ?_, q⟩
  unfold whileM
  rw [bd_ok e0, if_neg Bool.false_ne_true]
  rfl
/-- a walk, item by item -/
theorem for_nil {G : List Ob → Prop} {t : W → Env' → Option Env'} {g : Env' → M Fl} {ρ : Env'} {h : List Ob} {Q : Fl → List Ob → Prop} (hG : G h) (q : Q (.nx ρ) h) : Ok (L2.forM G t g [] ρ) h Q := by
  refine ⟨.nx ρ, h, ?_, q⟩
  unfold L2.forM
  rw [gdh_pos hG]; rfl
theorem for_cons {G : List Ob → Prop} {t : W → Env' → Option Env'} {g : Env' → M Fl} {w : W} {l : List W} {ρ r : Env'} {h : List Ob} {Q : Fl → List Ob → Prop} (hG : G h) (ht : t w ρ = some r) (b : Ok (g r) h fun x h' => (∃ r', x = .nx r' ∧ Ok (L2.forM G t g l r') h' Q) ∨ ∃ v, x = .rt v ∧ Q (.rt v) h') : Ok (L2.forM G t g (w :: l) ρ) h Q := by
  obtain ⟨x, h1, e1, q⟩ := b
  rcases q with ⟨r', rfl, y, h2, e2, q⟩ | ⟨v, rfl, q⟩
  · refine ⟨y, h2, ?_, q⟩
    conv => lhs; unfold L2.forM
    rw [gdh_pos hG, ht]
    dsimp only
    rw [bd_ok e1]
    exact e2
  · refine ⟨.rt v, h1, ?_, q⟩
    conv => lhs; unfold L2.forM
    rw [gdh_pos hG, ht]
    dsimp only
    rw [bd_ok e1]; rfl
end L2
namespace Q
open PySem L2
def top (i : Nat) : Stmt := PySem.Challenge.pw_blockfall_k11_one_block.main.body.getD i (.Pass ⟨0, 0, 0, 0⟩)
abbrev s_worth : Stmt := top 1
abbrev s_Doing___init__ : Stmt := inClass (top 4) 0
abbrev s_Doing_lacks_number : Stmt := inClass (top 4) 1
abbrev s_Doing_do_statement : Stmt := inClass (top 4) 2
abbrev s_Doing_holds : Stmt := inClass (top 4) 3
abbrev s_Doing_chosen : Stmt := inClass (top 4) 4
abbrev s_sides_of : Stmt := top 9
abbrev s_side_taken : Stmt := top 8
abbrev s_do_statements : Stmt := top 7
abbrev s_run : Stmt := top 6
abbrev s_law_cell_at : Stmt := top 11
abbrev s_law_reel : Stmt := top 12
abbrev s_law_take : Stmt := top 13
abbrev s_law_names : Stmt := top 14
abbrev s_law_leaf : Stmt := top 15
abbrev s_law_tree : Stmt := top 16
abbrev s_law_worth : Stmt := top 17
abbrev s_law_statement : Stmt := top 18
abbrev s_law_number : Stmt := top 19
abbrev s_law_alike : Stmt := top 20
abbrev s_law_copied : Stmt := top 21
abbrev s_law_ran : Stmt := top 22
abbrev s_law : Stmt := top 23
noncomputable def g_worth (fr : List W → M W) : Env' → M Fl := (sSeq (sIf (mB (m2 eqW (m2 ixW (mVar 0) (mC (.int 0))) (mC (.str "number")))) (sRet (m2 ixW (mVar 0) (mC (.int 1)))) sNil) (sSeq (sIf (mB (m2 eqW (m2 ixW (mVar 0) (mC (.int 0))) (mC (.str "box")))) (sRet (m2 ixW (mVar 1) (m2 ixW (mVar 0) (mC (.int 1))))) sNil) (sSeq (sSet 2 (mCall (arW 2 fr) (mCons (m2 ixW (mVar 0) (mC (.int 1))) (mCons (mVar 1) mNil)))) (sSeq (sSet 3 (mCall (arW 2 fr) (mCons (m2 ixW (mVar 0) (mC (.int 2))) (mCons (mVar 1) mNil)))) (sSeq (sIf (mB (m2 eqW (m2 ixW (mVar 0) (mC (.int 0))) (mC (.str "+")))) (sRet (m2 addW (mVar 2) (mVar 3))) sNil) (sSeq (sIf (mB (m2 eqW (m2 ixW (mVar 0) (mC (.int 0))) (mC (.str "-")))) (sRet (m2 subW (mVar 2) (mVar 3))) sNil) (sRet (m2 mulW (mVar 2) (mVar 3)))))))))
noncomputable def f_worth : Nat → List W → M W
  | 0 => fun _ => no
  | n + 1 => runF 4 (g_worth (f_worth n))
noncomputable def g_Doing___init__ : Env' → M Fl := (sSeq (sFldW "Doing" "held" (mVar 0) (mCall dNewL (mCons (mVar 1) mNil))) (sSeq (sFldW "Doing" "numbers" (mVar 0) (mTl (listL (mCons (mVar 2) mNil)))) (sSeq (sFldW "Doing" "taken" (mVar 0) (mC (.int 0))) (sFldW "Doing" "said" (mVar 0) (mNew (lenG mNil))))))
noncomputable def f_Doing___init__ : List W → M W := runF 3 g_Doing___init__
noncomputable def g_Doing_lacks_number : Env' → M Fl := (sRet (mAndV (m2 eqW (m2 ixW (mVar 1) (mC (.int 0))) (mC (.str "ask"))) (m2 eqW (m1 (fldG "Doing" "taken") (mVar 0)) (mCall lenW (mCons (m1 (fldG "Doing" "numbers") (mVar 0)) mNil)))))
noncomputable def f_Doing_lacks_number : List W → M W := runF 2 g_Doing_lacks_number
noncomputable def g_Doing_do_statement : Env' → M Fl := (sIf (mB (m2 eqW (m2 ixW (mVar 1) (mC (.int 0))) (mC (.str "put")))) (sStore (m1 (fldG "Doing" "held") (mVar 0)) (m2 ixW (mVar 1) (mC (.int 1))) (m2 modW (mCall (arW 2 (f_worth 6)) (mCons (m2 ixW (mVar 1) (mC (.int 2))) (mCons (m1 (fldG "Doing" "held") (mVar 0)) mNil))) (mC (.int 1000000)))) (sIf (mB (m2 eqW (m2 ixW (mVar 1) (mC (.int 0))) (mC (.str "say")))) (sEx (mMeth isL appendW (m1 (fldG "Doing" "said") (mVar 0)) (mCons (mCall (arW 2 (f_worth 6)) (mCons (m2 ixW (mVar 1) (mC (.int 1))) (mCons (m1 (fldG "Doing" "held") (mVar 0)) mNil))) mNil))) (sSeq (sStore (m1 (fldG "Doing" "held") (mVar 0)) (m2 ixW (mVar 1) (mC (.int 1))) (m2 modW (m2 ixW (m1 (fldG "Doing" "numbers") (mVar 0)) (m1 (fldG "Doing" "taken") (mVar 0))) (mC (.int 1000000)))) (sAugW "Doing" "taken" (mVar 0) (mC (.int 1))))))
noncomputable def f_Doing_do_statement : List W → M W := runF 2 g_Doing_do_statement
noncomputable def g_Doing_holds : Env' → M Fl := (sSeq (sIf (mB (m2 eqW (mVar 1) (mC (.str "<")))) (sRet (m2 ltW (mCall (arW 2 (f_worth 6)) (mCons (mVar 2) (mCons (m1 (fldG "Doing" "held") (mVar 0)) mNil))) (mCall (arW 2 (f_worth 6)) (mCons (mVar 3) (mCons (m1 (fldG "Doing" "held") (mVar 0)) mNil))))) sNil) (sRet (m2 eqW (mCall (arW 2 (f_worth 6)) (mCons (mVar 2) (mCons (m1 (fldG "Doing" "held") (mVar 0)) mNil))) (mCall (arW 2 (f_worth 6)) (mCons (mVar 3) (mCons (m1 (fldG "Doing" "held") (mVar 0)) mNil))))))
noncomputable def f_Doing_holds : List W → M W := runF 4 g_Doing_holds
noncomputable def g_Doing_chosen : Env' → M Fl := (sRet (m2 modW (mCall (arW 2 (f_worth 6)) (mCons (mVar 1) (mCons (m1 (fldG "Doing" "held") (mVar 0)) mNil))) (mVar 2)))
noncomputable def f_Doing_chosen : List W → M W := runF 3 g_Doing_chosen
noncomputable def g_sides_of : Env' → M Fl := (sSeq (sIf (mB (m2 eqW (m2 ixW (mVar 0) (mC (.int 0))) (mC (.str "go")))) (sRet (mTup (mCons (m2 ixW (mVar 0) (mC (.int 1))) mNil))) sNil) (sSeq (sIf (mB (m2 eqW (m2 ixW (mVar 0) (mC (.int 0))) (mC (.str "if")))) (sRet (mTup (mCons (m2 ixW (mVar 0) (mC (.int 4))) (mCons (m2 ixW (mVar 0) (mC (.int 5))) mNil)))) sNil) (sSeq (sIf (mB (m2 eqW (m2 ixW (mVar 0) (mC (.int 0))) (mC (.str "table")))) (sRet (m2 ixW (mVar 0) (mC (.int 2)))) sNil) (sRet (mTup mNil)))))
noncomputable def f_sides_of : List W → M W := runF 1 g_sides_of
noncomputable def g_side_taken : Env' → M Fl := (sSeq (sIf (mB (m2 eqW (m2 ixW (mVar 1) (mC (.int 0))) (mC (.str "if")))) (sRet (mIf (mB (mMet "Doing" "holds" 4 f_Doing_holds (mVar 0) (mCons (m2 ixW (mVar 1) (mC (.int 1))) (mCons (m2 ixW (mVar 1) (mC (.int 2))) (mCons (m2 ixW (mVar 1) (mC (.int 3))) mNil))))) (mC (.int 0)) (mC (.int 1)))) sNil) (sSeq (sIf (mB (m2 eqW (m2 ixW (mVar 1) (mC (.int 0))) (mC (.str "table")))) (sRet (mMet "Doing" "chosen" 3 f_Doing_chosen (mVar 0) (mCons (m2 ixW (mVar 1) (mC (.int 1))) (mCons (mCall lenW (mCons (m2 ixW (mVar 1) (mC (.int 2))) mNil)) mNil)))) sNil) (sRet (mC (.int 0)))))
noncomputable def f_side_taken : List W → M W := runF 2 g_side_taken
noncomputable def g_do_statements : Env' → M Fl := (sSeq (sFor (mSrc (mVar 1) srcL) (tgN 2) (sSeq (sIf (mB (mMet "Doing" "lacks_number" 2 f_Doing_lacks_number (mVar 0) (mCons (mVar 2) mNil))) (sRet (mC (.bl false))) sNil) (sEx (mMet "Doing" "do_statement" 2 f_Doing_do_statement (mVar 0) (mCons (mVar 2) mNil))))) (sRet (mC (.bl true))))
noncomputable def f_do_statements : List W → M W := runF 3 g_do_statements
noncomputable def g_run : Env' → M Fl := (sSeq (sSet 3 (mMake "Doing" 3 f_Doing___init__ (mCons (m2 ixW (mVar 0) (mC (.int 0))) (mCons (mVar 1) mNil)))) (sSeq (sSet 4 (mNew (lenG mNil))) (sSeq (sSet 5 (mC (.int 0))) (sSeq (whileM (mB (m2 ltW (mCall lenW (mCons (mVar 4) mNil)) (mVar 2))) (sSeq (sSet 6 (m2 ixW (m2 ixW (mVar 0) (mC (.int 1))) (mVar 5))) (sSeq (sIf (mNot (mB (mCall (arW 2 f_do_statements) (mCons (mVar 3) (mCons (m2 ixW (mVar 6) (mC (.int 1))) mNil))))) (sRet (mTup (mCons (m1 (fldG "Doing" "said") (mVar 3)) (mCons (mTup (mCons (mC (.str "out")) mNil)) (mCons (mVar 4) mNil))))) sNil) (sSeq (sSet 7 (m2 ixW (mVar 6) (mC (.int 2)))) (sSeq (sIf (mB (m2 eqW (m2 ixW (mVar 7) (mC (.int 0))) (mC (.str "stop")))) (sRet (mTup (mCons (m1 (fldG "Doing" "said") (mVar 3)) (mCons (mTup (mCons (mC (.str "stop")) mNil)) (mCons (mVar 4) mNil))))) sNil) (sSeq (sSet 8 (mCall (arW 2 f_side_taken) (mCons (mVar 3) (mCons (mVar 7) mNil)))) (sSeq (sSet 9 (m2 ixW (mCall (arW 1 f_sides_of) (mCons (mVar 7) mNil)) (mVar 8))) (sSeq (sEx (mMeth isL appendW (mVar 4) (mCons (mTup (mCons (mVar 5) (mCons (mVar 8) (mCons (mVar 9) mNil)))) mNil))) (sSet 5 (mVar 9))))))))) 42) (sRet (mTup (mCons (m1 (fldG "Doing" "said") (mVar 3)) (mCons (mTup (mCons (mC (.str "on")) mNil)) (mCons (mVar 4) mNil)))))))))
noncomputable def f_run : List W → M W := runF 10 g_run
noncomputable def g_law_cell_at : Env' → M Fl := (sSeq (sIf (mB (m2 ltW (mVar 1) (mCall lenW (mCons (mVar 0) mNil)))) (sRet (m2 ixW (mVar 0) (mVar 1))) sNil) (sRet (mC (.int 0))))
noncomputable def f_law_cell_at : List W → M W := runF 2 g_law_cell_at
noncomputable def g_law_reel : Env' → M Fl := (sRet (mNew (lenG (mCons (mCall absW (mCons (mVar 0) mNil)) (mCons (m2 modW (m2 mulW (m2 addW (m2 modW (mVar 0) (mC (.int 2147483647))) (mC (.int 1))) (mC (.int 742938285))) (mC (.int 2147483647))) mNil)))))
noncomputable def f_law_reel : List W → M W := runF 1 g_law_reel
noncomputable def g_law_take : Env' → M Fl := (sSeq (sIf (mB (m2 geW (m2 ixW (mVar 0) (mC (.int 0))) (m2 powW (mC (.int 10)) (mC (.int 18))))) (sSeq (sSet 2 (m2 modW (m2 ixW (mVar 0) (mC (.int 0))) (mVar 1))) (sSeq (sStore (mVar 0) (mC (.int 0)) (m2 fdivW (m2 ixW (mVar 0) (mC (.int 0))) (mVar 1))) (sRet (mVar 2)))) sNil) (sSeq (sStore (mVar 0) (mC (.int 1)) (m2 modW (m2 addW (m2 mulW (m2 ixW (mVar 0) (mC (.int 1))) (mC (.int 48271))) (mC (.int 11))) (mC (.int 2147483647)))) (sSeq (sSet 3 (m2 modW (m2 mulW (m2 ixW (mVar 0) (mC (.int 1))) (m2 ixW (mVar 0) (mC (.int 1)))) (mC (.int 2147483629)))) (sRet (m2 modW (m2 fdivW (m2 modW (m2 mulW (mVar 3) (mC (.int 69621))) (mC (.int 2147483587))) (mC (.int 8))) (mVar 1))))))
noncomputable def f_law_take : List W → M W := runF 4 g_law_take
noncomputable def g_law_names : Env' → M Fl := (sSeq (sSet 2 (mC (.str "abcdefghijklmnopqrstuvwxyz"))) (sSeq (sSet 3 (mTl (lenG (mCons (mC (.str "box")) (mCons (mC (.str "block")) (mCons (mC (.str "put")) (mCons (mC (.str "say")) (mCons (mC (.str "ask")) (mCons (mC (.str "go")) (mCons (mC (.str "if")) (mCons (mC (.str "else")) (mCons (mC (.str "table")) (mCons (mC (.str "stop")) mNil))))))))))))) (sSeq (sSet 4 (mNew (lenG mNil))) (sSeq (sFor (mSrcA (mCons (mVar 1) mNil) rng1) (tgN 5) (sSeq (sSet 6 (m2 ixW (mTl (catL (mTl (lenG (mCons (mC (.str "")) (mCons (mC (.str "")) (mCons (mC (.str "zz")) (mCons (mC (.str "qrst")) mNil)))))) (mVar 3))) (mCall (arW 2 f_law_take) (mCons (mVar 0) (mCons (mC (.int 14)) mNil))))) (sSeq (sFor (mSrcA (mCons (m2 addW (mC (.int 1)) (mCall (arW 2 f_law_take) (mCons (mVar 0) (mCons (m2 subW (mC (.int 8)) (mCall maxW (mCons (mC (.int 4)) (mCons (mCall lenW (mCons (mVar 6) mNil)) mNil)))) mNil)))) mNil) rng1) (tgN 7) (sSet 6 (m2 addW (mVar 6) (m2 ixW (mVar 2) (mCall (arW 2 f_law_take) (mCons (mVar 0) (mCons (mC (.int 26)) mNil))))))) (sSeq (whileM (mOr (mB (m2 inW (mVar 6) (mVar 4))) (mB (m2 inW (mVar 6) (mVar 3)))) (sSet 6 (m2 addW (m3 slW (mVar 6) mNoPart (mPart (m1 negW (mC (.int 1))))) (m2 ixW (mVar 2) (m2 modW (m2 addW (mMeth isS findW (mVar 2) (mCons (m2 ixW (mVar 6) (m1 negW (mC (.int 1)))) mNil)) (mC (.int 1))) (mC (.int 26)))))) 30) (sEx (mMeth isL appendW (mVar 4) (mCons (mVar 6) mNil))))))) (sRet (m1 iceW (mVar 4)))))))
noncomputable def f_law_names : List W → M W := runF 8 g_law_names
noncomputable def g_law_leaf : Env' → M Fl := (sSeq (sIf (mAnd (mB (m2 neW (mVar 1) (mTl (lenG mNil)))) (mB (m2 gtW (mCall (arW 2 f_law_take) (mCons (mVar 0) (mCons (mC (.int 3)) mNil))) (mC (.int 0))))) (sRet (mTup (mCons (mC (.str "box")) (mCons (m2 ixW (m2 ixW (mVar 1) (mCall (arW 2 f_law_take) (mCons (mVar 0) (mCons (mCall lenW (mCons (mVar 1) mNil)) mNil)))) (mC (.int 0))) mNil)))) sNil) (sSeq (sSet 2 (m2 ixW (mTl (lenG (mCons (mC (.int 3)) (mCons (mC (.int 10)) (mCons (mC (.int 1000)) mNil))))) (mCall (arW 2 f_law_take) (mCons (mVar 0) (mCons (mC (.int 3)) mNil))))) (sRet (mTup (mCons (mC (.str "number")) (mCons (mCall (arW 2 f_law_take) (mCons (mVar 0) (mCons (mVar 2) mNil))) mNil))))))
noncomputable def f_law_leaf : List W → M W := runF 3 g_law_leaf
noncomputable def g_law_tree (fr : List W → M W) : Env' → M Fl := (sSeq (sIf (mB (m2 ltW (mVar 2) (mC (.int 2)))) (sRet (mCall (arW 2 f_law_leaf) (mCons (mVar 0) (mCons (mVar 1) mNil)))) sNil) (sSeq (sSet 3 (m2 addW (mC (.int 1)) (mCall (arW 2 f_law_take) (mCons (mVar 0) (mCons (m2 subW (mVar 2) (mC (.int 1))) mNil))))) (sSeq (sSet 4 (m2 ixW (mC (.str "+-*")) (mCall (arW 2 f_law_take) (mCons (mVar 0) (mCons (mC (.int 3)) mNil))))) (sSeq (sSet 5 (mCall (arW 3 fr) (mCons (mVar 0) (mCons (mVar 1) (mCons (mVar 3) mNil))))) (sSeq (sSet 6 (mCall (arW 3 fr) (mCons (mVar 0) (mCons (mVar 1) (mCons (m2 subW (mVar 2) (mVar 3)) mNil))))) (sRet (mTup (mCons (mVar 4) (mCons (mVar 5) (mCons (mVar 6) mNil))))))))))
noncomputable def f_law_tree : Nat → List W → M W
  | 0 => fun _ => no
  | n + 1 => runF 7 (g_law_tree (f_law_tree n))
noncomputable def g_law_worth (fr : List W → M W) : Env' → M Fl := (sSeq (sIf (mB (m2 eqW (m2 ixW (mVar 0) (mC (.int 0))) (mC (.str "number")))) (sRet (m2 ixW (mVar 0) (mC (.int 1)))) sNil) (sSeq (sIf (mB (m2 eqW (m2 ixW (mVar 0) (mC (.int 0))) (mC (.str "box")))) (sRet (m2 ixW (mVar 1) (m2 ixW (mVar 0) (mC (.int 1))))) sNil) (sSeq (sSet 2 (mCall (arW 2 fr) (mCons (m2 ixW (mVar 0) (mC (.int 1))) (mCons (mVar 1) mNil)))) (sSeq (sSet 3 (mCall (arW 2 fr) (mCons (m2 ixW (mVar 0) (mC (.int 2))) (mCons (mVar 1) mNil)))) (sSeq (sIf (mB (m2 eqW (m2 ixW (mVar 0) (mC (.int 0))) (mC (.str "+")))) (sRet (m2 addW (mVar 2) (mVar 3))) sNil) (sSeq (sIf (mB (m2 eqW (m2 ixW (mVar 0) (mC (.int 0))) (mC (.str "-")))) (sRet (m2 subW (mVar 2) (mVar 3))) sNil) (sRet (m2 mulW (mVar 2) (mVar 3)))))))))
noncomputable def f_law_worth : Nat → List W → M W
  | 0 => fun _ => no
  | n + 1 => runF 4 (g_law_worth (f_law_worth n))
noncomputable def g_law_statement : Env' → M Fl := (sSeq (sSet 2 (mCall (arW 2 f_law_take) (mCons (mVar 0) (mCons (mC (.int 8)) mNil)))) (sSeq (sIf (mOr (mB (m2 eqW (mVar 1) (mTl (lenG mNil)))) (mB (m2 ltW (mVar 2) (mC (.int 3))))) (sRet (mTup (mCons (mC (.str "say")) (mCons (mCall (arW 3 (f_law_tree 6)) (mCons (mVar 0) (mCons (mVar 1) (mCons (m2 addW (mC (.int 1)) (mCall (arW 2 f_law_take) (mCons (mVar 0) (mCons (mC (.int 5)) mNil)))) mNil)))) mNil)))) sNil) (sSeq (sSet 3 (m2 ixW (m2 ixW (mVar 1) (mCall (arW 2 f_law_take) (mCons (mVar 0) (mCons (mCall lenW (mCons (mVar 1) mNil)) mNil)))) (mC (.int 0)))) (sSeq (sIf (mB (m2 ltW (mVar 2) (mC (.int 5)))) (sRet (mTup (mCons (mC (.str "ask")) (mCons (mVar 3) mNil)))) sNil) (sSeq (sSet 4 (mTup (mCons (mC (.str "box")) (mCons (m2 ixW (m2 ixW (mVar 1) (mCall (arW 2 f_law_take) (mCons (mVar 0) (mCons (mCall lenW (mCons (mVar 1) mNil)) mNil)))) (mC (.int 0))) mNil)))) (sSeq (sIf (mB (m2 eqW (mVar 2) (mC (.int 5)))) (sRet (mTup (mCons (mC (.str "put")) (mCons (mVar 3) (mCons (mTup (mCons (m2 ixW (mC (.str "+-")) (mCall (arW 2 f_law_take) (mCons (mVar 0) (mCons (mC (.int 2)) mNil)))) (mCons (mVar 4) (mCons (mTup (mCons (mC (.str "number")) (mCons (mCall (arW 2 f_law_take) (mCons (mVar 0) (mCons (mC (.int 3)) mNil))) mNil))) mNil)))) mNil))))) sNil) (sRet (mTup (mCons (mC (.str "put")) (mCons (mVar 3) (mCons (mCall (arW 3 (f_law_tree 6)) (mCons (mVar 0) (mCons (mVar 1) (mCons (m2 addW (mC (.int 1)) (mCall (arW 2 f_law_take) (mCons (mVar 0) (mCons (mC (.int 5)) mNil)))) mNil)))) mNil)))))))))))
noncomputable def f_law_statement : List W → M W := runF 5 g_law_statement
noncomputable def g_law_number : Env' → M Fl := (sSeq (sSet 1 (mCall (arW 2 f_law_take) (mCons (mVar 0) (mCons (mC (.int 8)) mNil)))) (sSeq (sIf (mB (m2 eqW (mVar 1) (mC (.int 0)))) (sRet (mCall (arW 2 f_law_take) (mCons (mVar 0) (mCons (m2 powW (mC (.int 10)) (mC (.int 30))) mNil)))) sNil) (sSeq (sIf (mB (m2 eqW (mVar 1) (mC (.int 1)))) (sRet (m1 negW (mCall (arW 2 f_law_take) (mCons (mVar 0) (mCons (m2 powW (mC (.int 10)) (mC (.int 30))) mNil))))) sNil) (sSeq (sIf (mB (m2 eqW (mVar 1) (mC (.int 2)))) (sRet (m2 addW (mC (.int 999998)) (mCall (arW 2 f_law_take) (mCons (mVar 0) (mCons (mC (.int 5)) mNil))))) sNil) (sRet (m2 subW (mCall (arW 2 f_law_take) (mCons (mVar 0) (mCons (mC (.int 12)) mNil))) (mC (.int 3))))))))
noncomputable def f_law_number : List W → M W := runF 2 g_law_number
noncomputable def g_law_alike (fr : List W → M W) : Env' → M Fl := (sSeq (sIf (mB (m2 isNW (mVar 1) (mC .non))) (sRet (m2 isNW (mVar 0) (mC .non))) sNil) (sSeq (sIf (mB (mCall isiW (mCons (mVar 1) (mCons (mC (.ty "bool")) mNil)))) (sRet (mAndV (mCall isiW (mCons (mVar 0) (mCons (mC (.ty "bool")) mNil))) (m2 eqW (mVar 0) (mVar 1)))) sNil) (sSeq (sIf (mB (mCall isiW (mCons (mVar 1) (mCons (mC (.ty "int")) mNil)))) (sRet (mAndV (mCall isiW (mCons (mVar 0) (mCons (mC (.ty "int")) mNil))) (mAndV (mNotV (mCall isiW (mCons (mVar 0) (mCons (mC (.ty "bool")) mNil)))) (m2 eqW (mVar 0) (mVar 1))))) sNil) (sSeq (sIf (mB (mCall isiW (mCons (mVar 1) (mCons (mC (.ty "str")) mNil)))) (sRet (mAndV (mCall isiW (mCons (mVar 0) (mCons (mC (.ty "str")) mNil))) (m2 eqW (mVar 0) (mVar 1)))) sNil) (sSeq (sIf (mB (mCall isiW (mCons (mVar 1) (mCons (mC (.ty "tuple")) mNil)))) (sIf (mNot (mB (mCall isiW (mCons (mVar 0) (mCons (mC (.ty "tuple")) mNil))))) (sRet (mC (.bl false))) sNil) (sIf (mNot (mB (mCall isiW (mCons (mVar 0) (mCons (mC (.ty "list")) mNil))))) (sRet (mC (.bl false))) sNil)) (sSeq (sIf (mB (m2 neW (mCall lenW (mCons (mVar 0) mNil)) (mCall lenW (mCons (mVar 1) mNil)))) (sRet (mC (.bl false))) sNil) (sSeq (sFor (mSrcA (mCons (mCall lenW (mCons (mVar 1) mNil)) mNil) rng1) (tgN 2) (sIf (mNot (mB (mCall (arW 2 fr) (mCons (m2 ixW (mVar 0) (mVar 2)) (mCons (m2 ixW (mVar 1) (mVar 2)) mNil))))) (sRet (mC (.bl false))) sNil)) (sRet (mC (.bl true))))))))))
noncomputable def f_law_alike : Nat → List W → M W
  | 0 => fun _ => no
  | n + 1 => runF 3 (g_law_alike (f_law_alike n))
noncomputable def g_law_copied : Env' → M Fl := (sRet (mTup (mCons (mTl (listL (mCons (m2 ixW (mVar 0) (mC (.int 0))) mNil))) (mCons (mTl (mComp [] (mSrc (m2 ixW (mVar 0) (mC (.int 1))) srcL) (tgT [0, 1, 2]) mYes (mTup (mCons (mVar 0) (mCons (mTl (listL (mCons (mVar 1) mNil))) (mCons (mVar 2) mNil)))) 4)) mNil))))
noncomputable def f_law_copied : List W → M W := runF 1 g_law_copied
noncomputable def g_law_ran : Env' → M Fl := (sSeq (sSet 3 mDNew) (sSeq (sFor (mSrc (m2 ixW (mVar 0) (mC (.int 0))) srcL) (tgT [4, 5]) (sStore (mVar 3) (mVar 4) (mVar 5))) (sSeq (sSet 6 (mNew (lenG mNil))) (sSeq (sSet 7 (mC (.int 0))) (sSeq (sSet 8 (mNew (lenG mNil))) (sSeq (sFor (mSrcA (mCons (mVar 2) mNil) rng1) (tgN 9) (sSeq (sFor (mSrc (m2 ixW (m2 ixW (m2 ixW (mVar 0) (mC (.int 1))) (mC (.int 0))) (mC (.int 1))) srcL) (tgN 10) (sSeq (sIf (mB (m2 eqW (m2 ixW (mVar 10) (mC (.int 0))) (mC (.str "say")))) (sEx (mMeth isL appendW (mVar 6) (mCons (mCall (arW 2 (f_law_worth 6)) (mCons (m2 ixW (mVar 10) (mC (.int 1))) (mCons (mVar 3) mNil))) mNil))) sNil) (sSeq (sIf (mB (m2 eqW (m2 ixW (mVar 10) (mC (.int 0))) (mC (.str "put")))) (sStore (mVar 3) (m2 ixW (mVar 10) (mC (.int 1))) (m2 modW (mCall (arW 2 (f_law_worth 6)) (mCons (m2 ixW (mVar 10) (mC (.int 2))) (mCons (mVar 3) mNil))) (mC (.int 1000000)))) sNil) (sSeq (sIf (mAnd (mB (m2 eqW (m2 ixW (mVar 10) (mC (.int 0))) (mC (.str "ask")))) (mB (m2 eqW (mVar 7) (mCall lenW (mCons (mVar 1) mNil))))) (sRet (mTup (mCons (m1 iceW (mVar 6)) (mCons (mTup (mCons (mC (.str "out")) mNil)) (mCons (m1 iceW (mVar 8)) mNil))))) sNil) (sIf (mB (m2 eqW (m2 ixW (mVar 10) (mC (.int 0))) (mC (.str "ask")))) (sSeq (sStore (mVar 3) (m2 ixW (mVar 10) (mC (.int 1))) (m2 modW (m2 ixW (mVar 1) (mVar 7)) (mC (.int 1000000)))) (sSet 7 (m2 addW (mVar 7) (mC (.int 1))))) sNil))))) (sSeq (sIf (mB (m2 eqW (m2 ixW (m2 ixW (m2 ixW (mVar 0) (mC (.int 1))) (mC (.int 0))) (mC (.int 2))) (mTup (mCons (mC (.str "stop")) mNil)))) (sRet (mTup (mCons (m1 iceW (mVar 6)) (mCons (mTup (mCons (mC (.str "stop")) mNil)) (mCons (m1 iceW (mVar 8)) mNil))))) sNil) (sEx (mMeth isL appendW (mVar 8) (mCons (mTup (mCons (mC (.int 0)) (mCons (mC (.int 0)) (mCons (mC (.int 0)) mNil)))) mNil)))))) (sRet (mTup (mCons (m1 iceW (mVar 6)) (mCons (mTup (mCons (mC (.str "on")) mNil)) (mCons (m1 iceW (mVar 8)) mNil)))))))))))
noncomputable def f_law_ran : List W → M W := runF 11 g_law_ran
noncomputable def g_law : Env' → M Fl := (sSeq (sSet 1 (mCall (arW 2 f_law_names) (mCons (mCall (arW 1 f_law_reel) (mCons (mCall (arW 2 f_law_cell_at) (mCons (mVar 0) (mCons (mC (.int 0)) mNil))) mNil)) (mCons (mC (.int 5)) mNil)))) (sSeq (sSet 2 (mCall (arW 1 f_law_reel) (mCons (mCall (arW 2 f_law_cell_at) (mCons (mVar 0) (mCons (mC (.int 1)) mNil))) mNil))) (sSeq (sSet 3 (mNew (lenG mNil))) (sSeq (sFor (mSrcA (mCons (mCall (arW 2 f_law_take) (mCons (mVar 2) (mCons (mC (.int 5)) mNil))) mNil) rng1) (tgN 4) (sEx (mMeth isL appendW (mVar 3) (mCons (mTup (mCons (m2 ixW (mVar 1) (mVar 4)) (mCons (mCall (arW 2 f_law_take) (mCons (mVar 2) (mCons (m2 ixW (mTl (lenG (mCons (mC (.int 4)) (mCons (mC (.int 1000)) mNil)))) (mCall (arW 2 f_law_take) (mCons (mVar 2) (mCons (mC (.int 2)) mNil)))) mNil))) mNil))) mNil)))) (sSeq (sSet 5 (m2 ixW (mTl (lenG (mCons (mTup (mCons (mC (.str "stop")) mNil)) (mCons (mTup (mCons (mC (.str "go")) (mCons (mC (.int 0)) mNil))) mNil)))) (mCall (arW 2 f_law_take) (mCons (mVar 2) (mCons (mC (.int 2)) mNil))))) (sSeq (sSet 6 (mTl (mComp [] (mSrc (m3 slW (mVar 0) (mPart (mC (.int 2))) (mPart (mC (.int 10)))) srcL) (tgN 0) mYes (mCall (arW 2 f_law_statement) (mCons (mCall (arW 1 f_law_reel) (mCons (mVar 0) mNil)) (mCons (mVar 5) mNil))) 2))) (sSeq (sSet 7 (mTup (mCons (mVar 3) (mCons (mTl (lenG (mCons (mTup (mCons (m2 ixW (mVar 1) (mCall (arW 2 f_law_take) (mCons (mVar 2) (mCons (mC (.int 5)) mNil)))) (mCons (mVar 6) (mCons (mVar 5) mNil)))) mNil))) mNil)))) (sSeq (sSet 8 (mTl (mComp [] (mSrc (m3 slW (mVar 0) (mPart (mC (.int 10))) (mPart (mC (.int 63)))) srcL) (tgN 0) mYes (mCall (arW 1 f_law_number) (mCons (mCall (arW 1 f_law_reel) (mCons (mVar 0) mNil)) mNil)) 2))) (sSeq (sSet 8 (m2 addW (mVar 8) (mTl (mComp [] (mSrcA (mCons (mCall (arW 2 f_law_take) (mCons (mVar 2) (mCons (mC (.int 6)) mNil))) mNil) rng1) (tgN 0) mYes (mCall (arW 1 f_law_number) (mCons (mVar 4) mNil)) 2)))) (sSeq (sSet 9 (m2 addW (mC (.int 1)) (mCall (arW 2 f_law_take) (mCons (mVar 2) (mCons (mC (.int 9)) mNil))))) (sSeq (sSet 10 (mCall (arW 3 f_law_ran) (mCons (mVar 7) (mCons (mVar 8) (mCons (mVar 9) mNil))))) (sSeq (sSet 11 (mCall (arW 1 f_law_copied) (mCons (mVar 7) mNil))) (sSeq (sSet 12 (mTl (listL (mCons (mVar 8) mNil)))) (sSeq (sSet 13 (mCall (arW 3 f_run) (mCons (mVar 11) (mCons (mVar 12) (mCons (mVar 9) mNil))))) (sSeq (sIf (mOr (mNot (mB (mCall (arW 2 (f_law_alike 16)) (mCons (mVar 13) (mCons (mVar 10) mNil))))) (mNot (mB (mCall (arW 2 (f_law_alike 16)) (mCons (mVar 12) (mCons (mVar 8) mNil)))))) (sRet (mC (.bl false))) sNil) (sSeq (sEx (mMeth isL appendW (m2 ixW (mVar 13) (mC (.int 0))) (mCons (mC (.int 0)) mNil))) (sSeq (sEx (mMeth isL appendW (m2 ixW (mVar 13) (mC (.int 2))) (mCons (mTup (mCons (mC (.int 0)) (mCons (mC (.int 0)) (mCons (mC (.int 0)) mNil)))) mNil))) (sRet (mAndV (mCall (arW 2 (f_law_alike 16)) (mCons (mCall (arW 3 f_run) (mCons (mVar 11) (mCons (mVar 12) (mCons (mVar 9) mNil)))) (mCons (mVar 10) mNil))) (mCall (arW 2 (f_law_alike 16)) (mCons (mVar 11) (mCons (mVar 7) mNil))))))))))))))))))))))
noncomputable def f_law : List W → M W := runF 14 g_law
section
variable {P : Program} {w : World} {K : PySem.W.Frag} {mg : Str → Option Value} {base : Heap} {f : Addr} {fd : FuncData}
theorem sc_worth : FnScope ["e", "values", "left", "right"] ["e", "values"] (defScope s_worth) := ⟨rfl, rfl, rfl, by decide +kernel, rfl, by decide +kernel, by decide +kernel⟩
theorem ok_worth   (F : Fun K "worth" "worth" s_worth f fd) (B : Binds K fd ["e", "values"] []) (Mf : mg "worth" = some (.ref f)) : ∀ n : Nat, CG P w K mg base (1 + n) "worth" f fd ["e", "values"] 2 (f_worth n)
  | 0 => ⟨def_no fun _ _ => rfl, B, F.kp, Mf⟩
  | n + 1 => by
    have C_worth := ok_worth  F B Mf n
    refine ⟨def_m (g := g_worth (f_worth n)) F sc_worth rfl rfl rfl fun cdv A outer s H E hr => ?_, B, F.kp, Mf⟩
    have hr : Room (1 + n) _ := hr
    have hu := hu_of hr
    have hu6 := hr.units
    exact (mss_cons (ms_if (mt_cmp or_eq (opm_eq hu6) (me_ix hu (me_var 0) me_int (fun _ _ => rfl)) me_str (nomark _)) (mss_one (ms_ret (me_ix hu (me_var 0) me_int (fun _ _ => rfl)))) mss_nil)
      (mss_cons (ms_if (mt_cmp or_eq (opm_eq hu6) (me_ix hu (me_var 0) me_int (fun _ _ => rfl)) me_str (nomark _)) (mss_one (ms_ret (me_ix hu (me_var 1) (me_ix hu (me_var 0) me_int (fun _ _ => rfl)) (fun _ _ => rfl)))) mss_nil)
      (mss_cons (ms_set (i := 2) sc_worth.nd rfl (Or.inl rfl) (me_fn (ps := ["e", "values"]) C_worth (hr.mono (by omega)) (ma_cons (me_ix hu (me_var 0) me_int (fun _ _ => rfl)) (ma_cons (me_var 1) ma_nil se_n) se_s) (he := se_s) (hpl := (ns_cons se_n ns_nil))))
      (mss_cons (ms_set (i := 3) sc_worth.nd rfl (Or.inl rfl) (me_fn (ps := ["e", "values"]) C_worth (hr.mono (by omega)) (ma_cons (me_ix hu (me_var 0) me_int (fun _ _ => rfl)) (ma_cons (me_var 1) ma_nil se_n) se_s) (he := se_s) (hpl := (ns_cons se_n ns_nil))))
      (mss_cons (ms_if (mt_cmp or_eq (opm_eq hu6) (me_ix hu (me_var 0) me_int (fun _ _ => rfl)) me_str (nomark _)) (mss_one (ms_ret (me_add (me_var 2) (me_var 3)))) mss_nil)
      (mss_cons (ms_if (mt_cmp or_eq (opm_eq hu6) (me_ix hu (me_var 0) me_int (fun _ _ => rfl)) me_str (nomark _)) (mss_one (ms_ret (me_sub (me_var 2) (me_var 3)))) mss_nil)
      (mss_one (ms_ret (me_mul (me_var 2) (me_var 3))))))))))
theorem sc_Doing___init__ : FnScope ["self", "boxes", "numbers"] ["self", "boxes", "numbers"] (defScope s_Doing___init__) := ⟨rfl, rfl, rfl, by decide +kernel, rfl, by decide +kernel, by decide +kernel⟩
theorem ok_Doing___init__  {c_Doing : Addr} (y_dict : mg "dict" = none) (y_list : mg "list" = none) (n_Doing : PySem.W.nsIn K mainGlobals "Doing" = some (some (.ref c_Doing))) (cl_Doing : Cls K c_Doing) (na_Doing_held : NoAttr K c_Doing "held") (na_Doing_numbers : NoAttr K c_Doing "numbers") (na_Doing_said : NoAttr K c_Doing "said") (na_Doing_taken : NoAttr K c_Doing "taken") (F : Fun K "__init__" "Doing.__init__" s_Doing___init__ f fd) (B : Binds K fd ["self", "boxes", "numbers"] []) (Me : Meth K c_Doing "__init__" f) : CGm P w K mg base 1 c_Doing "__init__" f fd ["self", "boxes", "numbers"] 3 f_Doing___init__ := by
  refine ⟨def_m (g := g_Doing___init__) F sc_Doing___init__ rfl rfl rfl fun cdv A outer s H E hr => ?_, B, Me⟩
  have hu := hu_of hr
  have hu6 := hr.units
  exact (mss_cons (ms_fld n_Doing cl_Doing na_Doing_held (me_var 0) (me_dictL rfl y_dict (ma_cons (me_var 1) ma_nil se_n)))
    (mss_cons (ms_fld n_Doing cl_Doing na_Doing_numbers (me_var 0) (me_tl (mf_list y_list (ma_cons (me_var 2) ma_nil se_n) (he := se_n) (hpl := ns_nil))))
    (mss_cons (ms_fld n_Doing cl_Doing na_Doing_taken (me_var 0) me_int)
    (mss_one (ms_fld n_Doing cl_Doing na_Doing_said (me_var 0) (me_new (mf_lst ma_nil)))))))
theorem sc_Doing_lacks_number : FnScope ["self", "row"] ["self", "row"] (defScope s_Doing_lacks_number) := ⟨rfl, rfl, rfl, by decide +kernel, rfl, by decide +kernel, by decide +kernel⟩
theorem ok_Doing_lacks_number  {c_Doing : Addr} (y_len : mg "len" = none) (n_Doing : PySem.W.nsIn K mainGlobals "Doing" = some (some (.ref c_Doing))) (cl_Doing : Cls K c_Doing) (na_Doing_numbers : NoAttr K c_Doing "numbers") (na_Doing_taken : NoAttr K c_Doing "taken") (F : Fun K "lacks_number" "Doing.lacks_number" s_Doing_lacks_number f fd) (B : Binds K fd ["self", "row"] []) (Me : Meth K c_Doing "lacks_number" f) : CGm P w K mg base 1 c_Doing "lacks_number" f fd ["self", "row"] 2 f_Doing_lacks_number := by
  refine ⟨def_m (g := g_Doing_lacks_number) F sc_Doing_lacks_number rfl rfl rfl fun cdv A outer s H E hr => ?_, B, Me⟩
  have hu := hu_of hr
  have hu6 := hr.units
  exact (mss_one (ms_ret (me_and (me_cmp or_eq (opm_eq hu6) (me_ix hu (me_var 1) me_int (fun _ _ => rfl)) me_str (nomark _)) (me_one (me_cmp or_eq (opm_eq hu6) (me_fld n_Doing cl_Doing na_Doing_taken (me_var 0)) (me_len y_len (ma_cons (me_fld n_Doing cl_Doing na_Doing_numbers (me_var 0)) ma_nil se_a) (he := se_a) (hpl := ns_nil)) (nomark _))))))
theorem sc_Doing_do_statement : FnScope ["self", "statement"] ["self", "statement"] (defScope s_Doing_do_statement) := ⟨rfl, rfl, rfl, by decide +kernel, rfl, by decide +kernel, by decide +kernel⟩
theorem ok_Doing_do_statement {a_worth : Addr} {d_worth : FuncData} {c_Doing : Addr} {t_BOX_RANGE : Tok} (c_BOX_RANGE : mg "BOX_RANGE" = some (.int 1000000 t_BOX_RANGE)) (n_Doing : PySem.W.nsIn K mainGlobals "Doing" = some (some (.ref c_Doing))) (cl_Doing : Cls K c_Doing) (na_Doing_held : NoAttr K c_Doing "held") (na_Doing_numbers : NoAttr K c_Doing "numbers") (na_Doing_said : NoAttr K c_Doing "said") (na_Doing_taken : NoAttr K c_Doing "taken") (C_worth : CG P w K mg base 7 "worth" a_worth d_worth ["e", "values"] 2 (f_worth 6)) (F : Fun K "do_statement" "Doing.do_statement" s_Doing_do_statement f fd) (B : Binds K fd ["self", "statement"] []) (Me : Meth K c_Doing "do_statement" f) : CGm P w K mg base 8 c_Doing "do_statement" f fd ["self", "statement"] 2 f_Doing_do_statement := by
  refine ⟨def_m (g := g_Doing_do_statement) F sc_Doing_do_statement rfl rfl rfl fun cdv A outer s H E hr => ?_, B, Me⟩
  have hu := hu_of hr
  have hu6 := hr.units
  exact (mss_one (ms_if (mt_cmp or_eq (opm_eq hu6) (me_ix hu (me_var 1) me_int (fun _ _ => rfl)) me_str (nomark _)) (mss_one (ms_store hu (me_fld n_Doing cl_Doing na_Doing_held (me_var 0)) (me_ix hu (me_var 1) me_int (fun _ _ => rfl)) (me_mod (me_fn (ps := ["e", "values"]) C_worth (hr.mono (by omega)) (ma_cons (me_ix hu (me_var 1) me_int (fun _ _ => rfl)) (ma_cons (me_fld n_Doing cl_Doing na_Doing_held (me_var 0)) ma_nil se_a) se_s) (he := se_s) (hpl := (ns_cons se_a ns_nil))) (me_glob (w := .int 1000000) (v := .int 1000000) rfl c_BOX_RANGE ⟨_, rfl⟩ (fun o => rv_int.mpr rfl))))) (mss_one (ms_if (mt_cmp or_eq (opm_eq hu6) (me_ix hu (me_var 1) me_int (fun _ _ => rfl)) me_str (nomark _)) (mss_one (ms_expr (me_append (me_fld n_Doing cl_Doing na_Doing_said (me_var 0)) (ma_cons (me_fn (ps := ["e", "values"]) C_worth (hr.mono (by omega)) (ma_cons (me_ix hu (me_var 1) me_int (fun _ _ => rfl)) (ma_cons (me_fld n_Doing cl_Doing na_Doing_held (me_var 0)) ma_nil se_a) se_s) (he := se_s) (hpl := (ns_cons se_a ns_nil))) ma_nil se_f)))) (mss_cons (ms_store hu (me_fld n_Doing cl_Doing na_Doing_held (me_var 0)) (me_ix hu (me_var 1) me_int (fun _ _ => rfl)) (me_mod (me_ix hu (me_fld n_Doing cl_Doing na_Doing_numbers (me_var 0)) (me_fld n_Doing cl_Doing na_Doing_taken (me_var 0)) (fun _ _ => rfl)) (me_glob (w := .int 1000000) (v := .int 1000000) rfl c_BOX_RANGE ⟨_, rfl⟩ (fun o => rv_int.mpr rfl))))
    (mss_one (ms_fldaug n_Doing cl_Doing na_Doing_taken (me_var 0) me_int)))))))
theorem sc_Doing_holds : FnScope ["self", "sign", "left", "right"] ["self", "sign", "left", "right"] (defScope s_Doing_holds) := ⟨rfl, rfl, rfl, by decide +kernel, rfl, by decide +kernel, by decide +kernel⟩
theorem ok_Doing_holds {a_worth : Addr} {d_worth : FuncData} {c_Doing : Addr} (n_Doing : PySem.W.nsIn K mainGlobals "Doing" = some (some (.ref c_Doing))) (cl_Doing : Cls K c_Doing) (na_Doing_held : NoAttr K c_Doing "held") (C_worth : CG P w K mg base 7 "worth" a_worth d_worth ["e", "values"] 2 (f_worth 6)) (F : Fun K "holds" "Doing.holds" s_Doing_holds f fd) (B : Binds K fd ["self", "sign", "left", "right"] []) (Me : Meth K c_Doing "holds" f) : CGm P w K mg base 8 c_Doing "holds" f fd ["self", "sign", "left", "right"] 4 f_Doing_holds := by
  refine ⟨def_m (g := g_Doing_holds) F sc_Doing_holds rfl rfl rfl fun cdv A outer s H E hr => ?_, B, Me⟩
  have hu := hu_of hr
  have hu6 := hr.units
  exact (mss_cons (ms_if (mt_cmp or_eq (opm_eq hu6) (me_var 1) me_str (nomark _)) (mss_one (ms_ret (me_cmp or_lt opm_lt (me_fn (ps := ["e", "values"]) C_worth (hr.mono (by omega)) (ma_cons (me_var 2) (ma_cons (me_fld n_Doing cl_Doing na_Doing_held (me_var 0)) ma_nil se_a) se_n) (he := se_n) (hpl := (ns_cons se_a ns_nil))) (me_fn (ps := ["e", "values"]) C_worth (hr.mono (by omega)) (ma_cons (me_var 3) (ma_cons (me_fld n_Doing cl_Doing na_Doing_held (me_var 0)) ma_nil se_a) se_n) (he := se_n) (hpl := (ns_cons se_a ns_nil))) (nomark _)))) mss_nil)
    (mss_one (ms_ret (me_cmp or_eq (opm_eq hu6) (me_fn (ps := ["e", "values"]) C_worth (hr.mono (by omega)) (ma_cons (me_var 2) (ma_cons (me_fld n_Doing cl_Doing na_Doing_held (me_var 0)) ma_nil se_a) se_n) (he := se_n) (hpl := (ns_cons se_a ns_nil))) (me_fn (ps := ["e", "values"]) C_worth (hr.mono (by omega)) (ma_cons (me_var 3) (ma_cons (me_fld n_Doing cl_Doing na_Doing_held (me_var 0)) ma_nil se_a) se_n) (he := se_n) (hpl := (ns_cons se_a ns_nil))) (nomark _)))))
theorem sc_Doing_chosen : FnScope ["self", "e", "many"] ["self", "e", "many"] (defScope s_Doing_chosen) := ⟨rfl, rfl, rfl, by decide +kernel, rfl, by decide +kernel, by decide +kernel⟩
theorem ok_Doing_chosen {a_worth : Addr} {d_worth : FuncData} {c_Doing : Addr} (n_Doing : PySem.W.nsIn K mainGlobals "Doing" = some (some (.ref c_Doing))) (cl_Doing : Cls K c_Doing) (na_Doing_held : NoAttr K c_Doing "held") (C_worth : CG P w K mg base 7 "worth" a_worth d_worth ["e", "values"] 2 (f_worth 6)) (F : Fun K "chosen" "Doing.chosen" s_Doing_chosen f fd) (B : Binds K fd ["self", "e", "many"] []) (Me : Meth K c_Doing "chosen" f) : CGm P w K mg base 8 c_Doing "chosen" f fd ["self", "e", "many"] 3 f_Doing_chosen := by
  refine ⟨def_m (g := g_Doing_chosen) F sc_Doing_chosen rfl rfl rfl fun cdv A outer s H E hr => ?_, B, Me⟩
  have hu := hu_of hr
  have hu6 := hr.units
  exact (mss_one (ms_ret (me_mod (me_fn (ps := ["e", "values"]) C_worth (hr.mono (by omega)) (ma_cons (me_var 1) (ma_cons (me_fld n_Doing cl_Doing na_Doing_held (me_var 0)) ma_nil se_a) se_n) (he := se_n) (hpl := (ns_cons se_a ns_nil))) (me_var 2))))
theorem sc_sides_of : FnScope ["end"] ["end"] (defScope s_sides_of) := ⟨rfl, rfl, rfl, by decide +kernel, rfl, by decide +kernel, by decide +kernel⟩
theorem ok_sides_of   (F : Fun K "sides_of" "sides_of" s_sides_of f fd) (B : Binds K fd ["end"] []) (Mf : mg "sides_of" = some (.ref f)) : CG P w K mg base 1 "sides_of" f fd ["end"] 1 f_sides_of := by
  refine ⟨def_m (g := g_sides_of) F sc_sides_of rfl rfl rfl fun cdv A outer s H E hr => ?_, B, F.kp, Mf⟩
  have hu := hu_of hr
  have hu6 := hr.units
  exact (mss_cons (ms_if (mt_cmp or_eq (opm_eq hu6) (me_ix hu (me_var 0) me_int (fun _ _ => rfl)) me_str (nomark _)) (mss_one (ms_ret (me_tup (ma_cons (me_ix hu (me_var 0) me_int (fun _ _ => rfl)) ma_nil se_s)))) mss_nil)
    (mss_cons (ms_if (mt_cmp or_eq (opm_eq hu6) (me_ix hu (me_var 0) me_int (fun _ _ => rfl)) me_str (nomark _)) (mss_one (ms_ret (me_tup (ma_cons (me_ix hu (me_var 0) me_int (fun _ _ => rfl)) (ma_cons (me_ix hu (me_var 0) me_int (fun _ _ => rfl)) ma_nil se_s) se_s)))) mss_nil)
    (mss_cons (ms_if (mt_cmp or_eq (opm_eq hu6) (me_ix hu (me_var 0) me_int (fun _ _ => rfl)) me_str (nomark _)) (mss_one (ms_ret (me_ix hu (me_var 0) me_int (fun _ _ => rfl)))) mss_nil)
    (mss_one (ms_ret (me_tup ma_nil))))))
theorem sc_side_taken : FnScope ["doing", "end"] ["doing", "end"] (defScope s_side_taken) := ⟨rfl, rfl, rfl, by decide +kernel, rfl, by decide +kernel, by decide +kernel⟩
theorem ok_side_taken {a_Doing_holds : Addr} {d_Doing_holds : FuncData} {a_Doing_chosen : Addr} {d_Doing_chosen : FuncData} {c_Doing : Addr} (y_len : mg "len" = none) (n_Doing : PySem.W.nsIn K mainGlobals "Doing" = some (some (.ref c_Doing))) (cl_Doing : Cls K c_Doing) (C_Doing_holds : CGm P w K mg base 8 c_Doing "holds" a_Doing_holds d_Doing_holds ["self", "sign", "left", "right"] 4 f_Doing_holds) (C_Doing_chosen : CGm P w K mg base 8 c_Doing "chosen" a_Doing_chosen d_Doing_chosen ["self", "e", "many"] 3 f_Doing_chosen) (F : Fun K "side_taken" "side_taken" s_side_taken f fd) (B : Binds K fd ["doing", "end"] []) (Mf : mg "side_taken" = some (.ref f)) : CG P w K mg base 9 "side_taken" f fd ["doing", "end"] 2 f_side_taken := by
  refine ⟨def_m (g := g_side_taken) F sc_side_taken rfl rfl rfl fun cdv A outer s H E hr => ?_, B, F.kp, Mf⟩
  have hu := hu_of hr
  have hu6 := hr.units
  exact (mss_cons (ms_if (mt_cmp or_eq (opm_eq hu6) (me_ix hu (me_var 1) me_int (fun _ _ => rfl)) me_str (nomark _)) (mss_one (ms_ret (me_ifExp (mt_val (me_met (ps := ["self", "sign", "left", "right"]) n_Doing cl_Doing C_Doing_holds (hr.mono (by omega)) (me_var 0) (ma_cons (me_ix hu (me_var 1) me_int (fun _ _ => rfl)) (ma_cons (me_ix hu (me_var 1) me_int (fun _ _ => rfl)) (ma_cons (me_ix hu (me_var 1) me_int (fun _ _ => rfl)) ma_nil se_s) se_s) se_s))) me_int me_int))) mss_nil)
    (mss_cons (ms_if (mt_cmp or_eq (opm_eq hu6) (me_ix hu (me_var 1) me_int (fun _ _ => rfl)) me_str (nomark _)) (mss_one (ms_ret (me_met (ps := ["self", "e", "many"]) n_Doing cl_Doing C_Doing_chosen (hr.mono (by omega)) (me_var 0) (ma_cons (me_ix hu (me_var 1) me_int (fun _ _ => rfl)) (ma_cons (me_len y_len (ma_cons (me_ix hu (me_var 1) me_int (fun _ _ => rfl)) ma_nil se_s) (he := se_s) (hpl := ns_nil)) ma_nil se_f) se_s)))) mss_nil)
    (mss_one (ms_ret me_int))))
theorem sc_do_statements : FnScope ["doing", "statements", "statement"] ["doing", "statements"] (defScope s_do_statements) := ⟨rfl, rfl, rfl, by decide +kernel, rfl, by decide +kernel, by decide +kernel⟩
theorem ok_do_statements {a_Doing_lacks_number : Addr} {d_Doing_lacks_number : FuncData} {a_Doing_do_statement : Addr} {d_Doing_do_statement : FuncData} {c_Doing : Addr} (n_Doing : PySem.W.nsIn K mainGlobals "Doing" = some (some (.ref c_Doing))) (cl_Doing : Cls K c_Doing) (C_Doing_lacks_number : CGm P w K mg base 1 c_Doing "lacks_number" a_Doing_lacks_number d_Doing_lacks_number ["self", "row"] 2 f_Doing_lacks_number) (C_Doing_do_statement : CGm P w K mg base 8 c_Doing "do_statement" a_Doing_do_statement d_Doing_do_statement ["self", "statement"] 2 f_Doing_do_statement) (F : Fun K "do_statements" "do_statements" s_do_statements f fd) (B : Binds K fd ["doing", "statements"] []) (Mf : mg "do_statements" = some (.ref f)) : CG P w K mg base 9 "do_statements" f fd ["doing", "statements"] 2 f_do_statements := by
  refine ⟨def_m (g := g_do_statements) F sc_do_statements rfl rfl rfl fun cdv A outer s H E hr => ?_, B, F.kp, Mf⟩
  have hu := hu_of hr
  have hu6 := hr.units
  exact (mss_cons (ms_for PassesOwn.never rfl (mi_list (me_var 1)) (pg_name (i := 2) sc_do_statements.nd rfl (Or.inl rfl)) (tg_name 3 2 (by decide)) (mss_cons (ms_if (mt_val (me_met (ps := ["self", "row"]) n_Doing cl_Doing C_Doing_lacks_number (hr.mono (by omega)) (me_var 0) (ma_cons (me_var 2) ma_nil se_n))) (mss_one (ms_ret me_bl)) mss_nil)
    (mss_one (ms_expr (me_met (ps := ["self", "statement"]) n_Doing cl_Doing C_Doing_do_statement (hr.mono (by omega)) (me_var 0) (ma_cons (me_var 2) ma_nil se_n))))))
    (mss_one (ms_ret me_bl)))
theorem sc_run : FnScope ["program", "numbers", "bound", "doing", "went", "place", "block", "end", "side", "behind"] ["program", "numbers", "bound"] (defScope s_run) := ⟨rfl, rfl, rfl, by decide +kernel, rfl, by decide +kernel, by decide +kernel⟩
theorem ok_run {a_Doing___init__ : Addr} {d_Doing___init__ : FuncData} {a_do_statements : Addr} {d_do_statements : FuncData} {a_side_taken : Addr} {d_side_taken : FuncData} {a_sides_of : Addr} {d_sides_of : FuncData} {c_Doing : Addr} (y_len : mg "len" = none) (n_Doing : PySem.W.nsIn K mainGlobals "Doing" = some (some (.ref c_Doing))) (cl_Doing : Cls K c_Doing) (na_Doing_said : NoAttr K c_Doing "said") (m_Doing : mg "Doing" = some (.ref c_Doing)) (M_Doing : Mk K c_Doing a_Doing___init__) (C_Doing___init__ : CGm P w K mg base 1 c_Doing "__init__" a_Doing___init__ d_Doing___init__ ["self", "boxes", "numbers"] 3 f_Doing___init__) (C_do_statements : CG P w K mg base 9 "do_statements" a_do_statements d_do_statements ["doing", "statements"] 2 f_do_statements) (C_side_taken : CG P w K mg base 9 "side_taken" a_side_taken d_side_taken ["doing", "end"] 2 f_side_taken) (C_sides_of : CG P w K mg base 1 "sides_of" a_sides_of d_sides_of ["end"] 1 f_sides_of) (F : Fun K "run" "run" s_run f fd) (B : Binds K fd ["program", "numbers", "bound"] []) (Mf : mg "run" = some (.ref f)) : CG P w K mg base 10 "run" f fd ["program", "numbers", "bound"] 3 f_run := by
  refine ⟨def_m (g := g_run) F sc_run rfl rfl rfl fun cdv A outer s H E hr => ?_, B, F.kp, Mf⟩
  have hu := hu_of hr
  have hu6 := hr.units
  exact (mss_cons (ms_set (i := 3) sc_run.nd rfl (Or.inl rfl) (me_make (ps := ["self", "boxes", "numbers"]) M_Doing n_Doing C_Doing___init__.ok C_Doing___init__.bi (hr.mono (by omega)) m_Doing (ma_cons (me_ix hu (me_var 0) me_int (fun _ _ => rfl)) (ma_cons (me_var 1) ma_nil se_n) se_s)))
    (mss_cons (ms_set (i := 4) sc_run.nd rfl (Or.inl rfl) (me_new (mf_lst ma_nil)))
    (mss_cons (ms_set (i := 5) sc_run.nd rfl (Or.inl rfl) me_int)
    (mss_cons (ms_while 42 PassesOwn.never (mt_cmp or_lt opm_lt (me_len y_len (ma_cons (me_var 4) ma_nil se_n) (he := se_n) (hpl := ns_nil)) (me_var 2) (nomark _)) (mss_cons (ms_set (i := 6) sc_run.nd rfl (Or.inl rfl) (me_ix hu (me_ix hu (me_var 0) me_int (fun _ _ => rfl)) (me_var 5) (fun _ _ => rfl)))
    (mss_cons (ms_if (mt_not (mt_val (me_fn (ps := ["doing", "statements"]) C_do_statements (hr.mono (by omega)) (ma_cons (me_var 3) (ma_cons (me_ix hu (me_var 6) me_int (fun _ _ => rfl)) ma_nil se_s) se_n) (he := se_n) (hpl := (ns_cons se_s ns_nil))))) (mss_one (ms_ret (me_tup (ma_cons (me_fld n_Doing cl_Doing na_Doing_said (me_var 3)) (ma_cons (me_tup (ma_cons me_str ma_nil se_c)) (ma_cons (me_var 4) ma_nil se_n) se_t) se_a)))) mss_nil)
    (mss_cons (ms_set (i := 7) sc_run.nd rfl (Or.inl rfl) (me_ix hu (me_var 6) me_int (fun _ _ => rfl)))
    (mss_cons (ms_if (mt_cmp or_eq (opm_eq hu6) (me_ix hu (me_var 7) me_int (fun _ _ => rfl)) me_str (nomark _)) (mss_one (ms_ret (me_tup (ma_cons (me_fld n_Doing cl_Doing na_Doing_said (me_var 3)) (ma_cons (me_tup (ma_cons me_str ma_nil se_c)) (ma_cons (me_var 4) ma_nil se_n) se_t) se_a)))) mss_nil)
    (mss_cons (ms_set (i := 8) sc_run.nd rfl (Or.inl rfl) (me_fn (ps := ["doing", "end"]) C_side_taken (hr.mono (by omega)) (ma_cons (me_var 3) (ma_cons (me_var 7) ma_nil se_n) se_n) (he := se_n) (hpl := (ns_cons se_n ns_nil))))
    (mss_cons (ms_set (i := 9) sc_run.nd rfl (Or.inl rfl) (me_ix hu (me_fn (ps := ["end"]) C_sides_of (hr.mono (by omega)) (ma_cons (me_var 7) ma_nil se_n) (he := se_n) (hpl := ns_nil)) (me_var 8) (fun _ _ => rfl)))
    (mss_cons (ms_expr (me_append (me_var 4) (ma_cons (me_tup (ma_cons (me_var 5) (ma_cons (me_var 8) (ma_cons (me_var 9) ma_nil se_n) se_n) se_n)) ma_nil se_t)))
    (mss_one (ms_set (i := 5) sc_run.nd rfl (Or.inl rfl) (me_var 9)))))))))))
    (mss_one (ms_ret (me_tup (ma_cons (me_fld n_Doing cl_Doing na_Doing_said (me_var 3)) (ma_cons (me_tup (ma_cons me_str ma_nil se_c)) (ma_cons (me_var 4) ma_nil se_n) se_t) se_a))))))))
theorem sc_law_cell_at : FnScope ["script", "k"] ["script", "k"] (defScope s_law_cell_at) := ⟨rfl, rfl, rfl, by decide +kernel, rfl, by decide +kernel, by decide +kernel⟩
theorem ok_law_cell_at  (y_len : mg "len" = none) (F : Fun K "_law_cell_at" "_law_cell_at" s_law_cell_at f fd) (B : Binds K fd ["script", "k"] []) (Mf : mg "_law_cell_at" = some (.ref f)) : CG P w K mg base 1 "_law_cell_at" f fd ["script", "k"] 2 f_law_cell_at := by
  refine ⟨def_m (g := g_law_cell_at) F sc_law_cell_at rfl rfl rfl fun cdv A outer s H E hr => ?_, B, F.kp, Mf⟩
  have hu := hu_of hr
  have hu6 := hr.units
  exact (mss_cons (ms_if (mt_cmp or_lt opm_lt (me_var 1) (me_len y_len (ma_cons (me_var 0) ma_nil se_n) (he := se_n) (hpl := ns_nil)) (nomark _)) (mss_one (ms_ret (me_ix hu (me_var 0) (me_var 1) (fun _ _ => rfl)))) mss_nil)
    (mss_one (ms_ret me_int)))
theorem sc_law_reel : FnScope ["cell"] ["cell"] (defScope s_law_reel) := ⟨rfl, rfl, rfl, by decide +kernel, rfl, by decide +kernel, by decide +kernel⟩
theorem ok_law_reel  (y_abs : mg "abs" = none) (F : Fun K "_law_reel" "_law_reel" s_law_reel f fd) (B : Binds K fd ["cell"] []) (Mf : mg "_law_reel" = some (.ref f)) : CG P w K mg base 1 "_law_reel" f fd ["cell"] 1 f_law_reel := by
  refine ⟨def_m (g := g_law_reel) F sc_law_reel rfl rfl rfl fun cdv A outer s H E hr => ?_, B, F.kp, Mf⟩
  have hu := hu_of hr
  have hu6 := hr.units
  exact (mss_one (ms_ret (me_new (mf_lst (ma_cons (me_abs y_abs (ma_cons (me_var 0) ma_nil se_n) (he := se_n) (hpl := ns_nil)) (ma_cons (me_mod (me_mul (me_add (me_mod (me_var 0) me_int) me_int) me_int) me_int) ma_nil se_b) se_f)))))
theorem sc_law_take : FnScope ["reel", "many", "found", "stir"] ["reel", "many"] (defScope s_law_take) := ⟨rfl, rfl, rfl, by decide +kernel, rfl, by decide +kernel, by decide +kernel⟩
theorem ok_law_take   (F : Fun K "_law_take" "_law_take" s_law_take f fd) (B : Binds K fd ["reel", "many"] []) (Mf : mg "_law_take" = some (.ref f)) : CG P w K mg base 1 "_law_take" f fd ["reel", "many"] 2 f_law_take := by
  refine ⟨def_m (g := g_law_take) F sc_law_take rfl rfl rfl fun cdv A outer s H E hr => ?_, B, F.kp, Mf⟩
  have hu := hu_of hr
  have hu6 := hr.units
  exact (mss_cons (ms_if (mt_cmp or_ge opm_ge (me_ix hu (me_var 0) me_int (fun _ _ => rfl)) (me_pow me_int me_int) (nomark _)) (mss_cons (ms_set (i := 2) sc_law_take.nd rfl (Or.inl rfl) (me_mod (me_ix hu (me_var 0) me_int (fun _ _ => rfl)) (me_var 1)))
    (mss_cons (ms_store hu (me_var 0) me_int (me_fdiv (me_ix hu (me_var 0) me_int (fun _ _ => rfl)) (me_var 1)))
    (mss_one (ms_ret (me_var 2))))) mss_nil)
    (mss_cons (ms_store hu (me_var 0) me_int (me_mod (me_add (me_mul (me_ix hu (me_var 0) me_int (fun _ _ => rfl)) me_int) me_int) me_int))
    (mss_cons (ms_set (i := 3) sc_law_take.nd rfl (Or.inl rfl) (me_mod (me_mul (me_ix hu (me_var 0) me_int (fun _ _ => rfl)) (me_ix hu (me_var 0) me_int (fun _ _ => rfl))) me_int))
    (mss_one (ms_ret (me_mod (me_fdiv (me_mod (me_mul (me_var 3) me_int) me_int) me_int) (me_var 1)))))))
theorem sc_law_names : FnScope ["reel", "many", "letters", "words", "names", "k", "name", "j"] ["reel", "many"] (defScope s_law_names) := ⟨rfl, rfl, rfl, by decide +kernel, rfl, by decide +kernel, by decide +kernel⟩
theorem ok_law_names {a_law_take : Addr} {d_law_take : FuncData} (y_len : mg "len" = none) (y_max : mg "max" = none) (y_range : mg "range" = none) (C_law_take : CG P w K mg base 1 "_law_take" a_law_take d_law_take ["reel", "many"] 2 f_law_take) (F : Fun K "_law_names" "_law_names" s_law_names f fd) (B : Binds K fd ["reel", "many"] []) (Mf : mg "_law_names" = some (.ref f)) : CG P w K mg base 2 "_law_names" f fd ["reel", "many"] 2 f_law_names := by
  refine ⟨def_m (g := g_law_names) F sc_law_names rfl rfl rfl fun cdv A outer s H E hr => ?_, B, F.kp, Mf⟩
  have hu := hu_of hr
  have hu6 := hr.units
  exact (mss_cons (ms_set (i := 2) sc_law_names.nd rfl (Or.inl rfl) me_str)
    (mss_cons (ms_set (i := 3) sc_law_names.nd rfl (Or.inl rfl) (me_tl (mf_lst (ma_cons me_str (ma_cons me_str (ma_cons me_str (ma_cons me_str (ma_cons me_str (ma_cons me_str (ma_cons me_str (ma_cons me_str (ma_cons me_str (ma_cons me_str ma_nil se_c) se_c) se_c) se_c) se_c) se_c) se_c) se_c) se_c) se_c))))
    (mss_cons (ms_set (i := 4) sc_law_names.nd rfl (Or.inl rfl) (me_new (mf_lst ma_nil)))
    (mss_cons (ms_for PassesOwn.never rfl (mi_range1 rfl y_range (ma_cons (me_var 1) ma_nil se_n)) (pg_name (i := 5) sc_law_names.nd rfl (Or.inl rfl)) (tg_name 8 5 (by decide)) (mss_cons (ms_set (i := 6) sc_law_names.nd rfl (Or.inl rfl) (me_ix hu (me_tl (mf_cat (me_tl (mf_lst (ma_cons me_str (ma_cons me_str (ma_cons me_str (ma_cons me_str ma_nil se_c) se_c) se_c) se_c))) (me_var 3))) (me_fn (ps := ["reel", "many"]) C_law_take (hr.mono (by omega)) (ma_cons (me_var 0) (ma_cons me_int ma_nil se_c) se_n) (he := se_n) (hpl := (ns_cons se_c ns_nil))) (fun _ _ => rfl)))
    (mss_cons (ms_for PassesOwn.never rfl (mi_range1 rfl y_range (ma_cons (me_add me_int (me_fn (ps := ["reel", "many"]) C_law_take (hr.mono (by omega)) (ma_cons (me_var 0) (ma_cons (me_sub me_int (me_max rfl y_max (ma_cons me_int (ma_cons (me_len y_len (ma_cons (me_var 6) ma_nil se_n) (he := se_n) (hpl := ns_nil)) ma_nil se_f) se_c) (he := se_c) (hpl := (ns_cons se_f ns_nil)))) ma_nil se_b) se_n) (he := se_n) (hpl := (ns_cons se_b ns_nil)))) ma_nil se_b)) (pg_name (i := 7) sc_law_names.nd rfl (Or.inl rfl)) (tg_name 8 7 (by decide)) (mss_one (ms_set (i := 6) sc_law_names.nd rfl (Or.inl rfl) (me_add (me_var 6) (me_ix hu (me_var 2) (me_fn (ps := ["reel", "many"]) C_law_take (hr.mono (by omega)) (ma_cons (me_var 0) (ma_cons me_int ma_nil se_c) se_n) (he := se_n) (hpl := (ns_cons se_c ns_nil))) (fun _ _ => rfl))))))
    (mss_cons (ms_while 30 PassesOwn.never (jw_pt (mw_or (mt_cmp (or_in hu) opm_in (me_var 6) (me_var 4) (by with_unfolding_all rfl)) (mw_or1 (mt_cmp (or_in hu) opm_in (me_var 6) (me_var 3) (by with_unfolding_all rfl))))) (mss_one (ms_set (i := 6) sc_law_names.nd rfl (Or.inl rfl) (me_add (me_sl (me_var 6) mo_none (mo_some (me_neg me_int))) (me_ix hu (me_var 2) (me_mod (me_add (me_find (me_var 2) (ma_cons (me_ix hu (me_var 6) (me_neg me_int) (fun _ _ => rfl)) ma_nil se_s)) me_int) me_int) (fun _ _ => rfl))))))
    (mss_one (ms_expr (me_append (me_var 4) (ma_cons (me_var 6) ma_nil se_n))))))))
    (mss_one (ms_ret (me_ice (me_var 4))))))))
theorem sc_law_leaf : FnScope ["reel", "boxes", "most"] ["reel", "boxes"] (defScope s_law_leaf) := ⟨rfl, rfl, rfl, by decide +kernel, rfl, by decide +kernel, by decide +kernel⟩
theorem ok_law_leaf {a_law_take : Addr} {d_law_take : FuncData} (y_len : mg "len" = none) (C_law_take : CG P w K mg base 1 "_law_take" a_law_take d_law_take ["reel", "many"] 2 f_law_take) (F : Fun K "_law_leaf" "_law_leaf" s_law_leaf f fd) (B : Binds K fd ["reel", "boxes"] []) (Mf : mg "_law_leaf" = some (.ref f)) : CG P w K mg base 2 "_law_leaf" f fd ["reel", "boxes"] 2 f_law_leaf := by
  refine ⟨def_m (g := g_law_leaf) F sc_law_leaf rfl rfl rfl fun cdv A outer s H E hr => ?_, B, F.kp, Mf⟩
  have hu := hu_of hr
  have hu6 := hr.units
  exact (mss_cons (ms_if (jw_pt (mw_and (mt_cmp or_ne (opm_ne hu6) (me_var 1) (me_tl (mf_lst ma_nil)) (nomark _)) (mw_and1 (mt_cmp or_gt opm_gt (me_fn (ps := ["reel", "many"]) C_law_take (hr.mono (by omega)) (ma_cons (me_var 0) (ma_cons me_int ma_nil se_c) se_n) (he := se_n) (hpl := (ns_cons se_c ns_nil))) me_int (nomark _))))) (mss_one (ms_ret (me_tup (ma_cons me_str (ma_cons (me_ix hu (me_ix hu (me_var 1) (me_fn (ps := ["reel", "many"]) C_law_take (hr.mono (by omega)) (ma_cons (me_var 0) (ma_cons (me_len y_len (ma_cons (me_var 1) ma_nil se_n) (he := se_n) (hpl := ns_nil)) ma_nil se_f) se_n) (he := se_n) (hpl := (ns_cons se_f ns_nil))) (fun _ _ => rfl)) me_int (fun _ _ => rfl)) ma_nil se_s) se_c)))) mss_nil)
    (mss_cons (ms_set (i := 2) sc_law_leaf.nd rfl (Or.inl rfl) (me_ix hu (me_tl (mf_lst (ma_cons me_int (ma_cons me_int (ma_cons me_int ma_nil se_c) se_c) se_c))) (me_fn (ps := ["reel", "many"]) C_law_take (hr.mono (by omega)) (ma_cons (me_var 0) (ma_cons me_int ma_nil se_c) se_n) (he := se_n) (hpl := (ns_cons se_c ns_nil))) (fun _ _ => rfl)))
    (mss_one (ms_ret (me_tup (ma_cons me_str (ma_cons (me_fn (ps := ["reel", "many"]) C_law_take (hr.mono (by omega)) (ma_cons (me_var 0) (ma_cons (me_var 2) ma_nil se_n) se_n) (he := se_n) (hpl := (ns_cons se_n ns_nil))) ma_nil se_f) se_c))))))
theorem sc_law_tree : FnScope ["reel", "boxes", "leaves", "left", "sign", "one", "other"] ["reel", "boxes", "leaves"] (defScope s_law_tree) := ⟨rfl, rfl, rfl, by decide +kernel, rfl, by decide +kernel, by decide +kernel⟩
theorem ok_law_tree {a_law_leaf : Addr} {d_law_leaf : FuncData} {a_law_take : Addr} {d_law_take : FuncData} (C_law_leaf : CG P w K mg base 2 "_law_leaf" a_law_leaf d_law_leaf ["reel", "boxes"] 2 f_law_leaf) (C_law_take : CG P w K mg base 1 "_law_take" a_law_take d_law_take ["reel", "many"] 2 f_law_take) (F : Fun K "_law_tree" "_law_tree" s_law_tree f fd) (B : Binds K fd ["reel", "boxes", "leaves"] []) (Mf : mg "_law_tree" = some (.ref f)) : ∀ n : Nat, CG P w K mg base (3 + n) "_law_tree" f fd ["reel", "boxes", "leaves"] 3 (f_law_tree n)
  | 0 => ⟨def_no fun _ _ => rfl, B, F.kp, Mf⟩
  | n + 1 => by
    have C_law_tree := ok_law_tree C_law_leaf C_law_take F B Mf n
    refine ⟨def_m (g := g_law_tree (f_law_tree n)) F sc_law_tree rfl rfl rfl fun cdv A outer s H E hr => ?_, B, F.kp, Mf⟩
    have hr : Room (3 + n) _ := hr
    have hu := hu_of hr
    have hu6 := hr.units
    exact (mss_cons (ms_if (mt_cmp or_lt opm_lt (me_var 2) me_int (nomark _)) (mss_one (ms_ret (me_fn (ps := ["reel", "boxes"]) C_law_leaf (hr.mono (by omega)) (ma_cons (me_var 0) (ma_cons (me_var 1) ma_nil se_n) se_n) (he := se_n) (hpl := (ns_cons se_n ns_nil))))) mss_nil)
      (mss_cons (ms_set (i := 3) sc_law_tree.nd rfl (Or.inl rfl) (me_add me_int (me_fn (ps := ["reel", "many"]) C_law_take (hr.mono (by omega)) (ma_cons (me_var 0) (ma_cons (me_sub (me_var 2) me_int) ma_nil se_b) se_n) (he := se_n) (hpl := (ns_cons se_b ns_nil)))))
      (mss_cons (ms_set (i := 4) sc_law_tree.nd rfl (Or.inl rfl) (me_ix hu me_str (me_fn (ps := ["reel", "many"]) C_law_take (hr.mono (by omega)) (ma_cons (me_var 0) (ma_cons me_int ma_nil se_c) se_n) (he := se_n) (hpl := (ns_cons se_c ns_nil))) (fun _ _ => rfl)))
      (mss_cons (ms_set (i := 5) sc_law_tree.nd rfl (Or.inl rfl) (me_fn (ps := ["reel", "boxes", "leaves"]) C_law_tree (hr.mono (by omega)) (ma_cons (me_var 0) (ma_cons (me_var 1) (ma_cons (me_var 3) ma_nil se_n) se_n) se_n) (he := se_n) (hpl := (ns_cons se_n (ns_cons se_n ns_nil)))))
      (mss_cons (ms_set (i := 6) sc_law_tree.nd rfl (Or.inl rfl) (me_fn (ps := ["reel", "boxes", "leaves"]) C_law_tree (hr.mono (by omega)) (ma_cons (me_var 0) (ma_cons (me_var 1) (ma_cons (me_sub (me_var 2) (me_var 3)) ma_nil se_b) se_n) se_n) (he := se_n) (hpl := (ns_cons se_n (ns_cons se_b ns_nil)))))
      (mss_one (ms_ret (me_tup (ma_cons (me_var 4) (ma_cons (me_var 5) (ma_cons (me_var 6) ma_nil se_n) se_n) se_n)))))))))
theorem sc_law_worth : FnScope ["e", "values", "one", "other"] ["e", "values"] (defScope s_law_worth) := ⟨rfl, rfl, rfl, by decide +kernel, rfl, by decide +kernel, by decide +kernel⟩
theorem ok_law_worth   (F : Fun K "_law_worth" "_law_worth" s_law_worth f fd) (B : Binds K fd ["e", "values"] []) (Mf : mg "_law_worth" = some (.ref f)) : ∀ n : Nat, CG P w K mg base (1 + n) "_law_worth" f fd ["e", "values"] 2 (f_law_worth n)
  | 0 => ⟨def_no fun _ _ => rfl, B, F.kp, Mf⟩
  | n + 1 => by
    have C_law_worth := ok_law_worth  F B Mf n
    refine ⟨def_m (g := g_law_worth (f_law_worth n)) F sc_law_worth rfl rfl rfl fun cdv A outer s H E hr => ?_, B, F.kp, Mf⟩
    have hr : Room (1 + n) _ := hr
    have hu := hu_of hr
    have hu6 := hr.units
    exact (mss_cons (ms_if (mt_cmp or_eq (opm_eq hu6) (me_ix hu (me_var 0) me_int (fun _ _ => rfl)) me_str (nomark _)) (mss_one (ms_ret (me_ix hu (me_var 0) me_int (fun _ _ => rfl)))) mss_nil)
      (mss_cons (ms_if (mt_cmp or_eq (opm_eq hu6) (me_ix hu (me_var 0) me_int (fun _ _ => rfl)) me_str (nomark _)) (mss_one (ms_ret (me_ix hu (me_var 1) (me_ix hu (me_var 0) me_int (fun _ _ => rfl)) (fun _ _ => rfl)))) mss_nil)
      (mss_cons (ms_set (i := 2) sc_law_worth.nd rfl (Or.inl rfl) (me_fn (ps := ["e", "values"]) C_law_worth (hr.mono (by omega)) (ma_cons (me_ix hu (me_var 0) me_int (fun _ _ => rfl)) (ma_cons (me_var 1) ma_nil se_n) se_s) (he := se_s) (hpl := (ns_cons se_n ns_nil))))
      (mss_cons (ms_set (i := 3) sc_law_worth.nd rfl (Or.inl rfl) (me_fn (ps := ["e", "values"]) C_law_worth (hr.mono (by omega)) (ma_cons (me_ix hu (me_var 0) me_int (fun _ _ => rfl)) (ma_cons (me_var 1) ma_nil se_n) se_s) (he := se_s) (hpl := (ns_cons se_n ns_nil))))
      (mss_cons (ms_if (mt_cmp or_eq (opm_eq hu6) (me_ix hu (me_var 0) me_int (fun _ _ => rfl)) me_str (nomark _)) (mss_one (ms_ret (me_add (me_var 2) (me_var 3)))) mss_nil)
      (mss_cons (ms_if (mt_cmp or_eq (opm_eq hu6) (me_ix hu (me_var 0) me_int (fun _ _ => rfl)) me_str (nomark _)) (mss_one (ms_ret (me_sub (me_var 2) (me_var 3)))) mss_nil)
      (mss_one (ms_ret (me_mul (me_var 2) (me_var 3))))))))))
theorem sc_law_statement : FnScope ["reel", "boxes", "way", "name", "one"] ["reel", "boxes"] (defScope s_law_statement) := ⟨rfl, rfl, rfl, by decide +kernel, rfl, by decide +kernel, by decide +kernel⟩
theorem ok_law_statement {a_law_take : Addr} {d_law_take : FuncData} {a_law_tree : Addr} {d_law_tree : FuncData} (y_len : mg "len" = none) (C_law_take : CG P w K mg base 1 "_law_take" a_law_take d_law_take ["reel", "many"] 2 f_law_take) (C_law_tree : CG P w K mg base 9 "_law_tree" a_law_tree d_law_tree ["reel", "boxes", "leaves"] 3 (f_law_tree 6)) (F : Fun K "_law_statement" "_law_statement" s_law_statement f fd) (B : Binds K fd ["reel", "boxes"] []) (Mf : mg "_law_statement" = some (.ref f)) : CG P w K mg base 10 "_law_statement" f fd ["reel", "boxes"] 2 f_law_statement := by
  refine ⟨def_m (g := g_law_statement) F sc_law_statement rfl rfl rfl fun cdv A outer s H E hr => ?_, B, F.kp, Mf⟩
  have hu := hu_of hr
  have hu6 := hr.units
  exact (mss_cons (ms_set (i := 2) sc_law_statement.nd rfl (Or.inl rfl) (me_fn (ps := ["reel", "many"]) C_law_take (hr.mono (by omega)) (ma_cons (me_var 0) (ma_cons me_int ma_nil se_c) se_n) (he := se_n) (hpl := (ns_cons se_c ns_nil))))
    (mss_cons (ms_if (jw_pt (mw_or (mt_cmp or_eq (opm_eq hu6) (me_var 1) (me_tl (mf_lst ma_nil)) (nomark _)) (mw_or1 (mt_cmp or_lt opm_lt (me_var 2) me_int (nomark _))))) (mss_one (ms_ret (me_tup (ma_cons me_str (ma_cons (me_fn (ps := ["reel", "boxes", "leaves"]) C_law_tree (hr.mono (by omega)) (ma_cons (me_var 0) (ma_cons (me_var 1) (ma_cons (me_add me_int (me_fn (ps := ["reel", "many"]) C_law_take (hr.mono (by omega)) (ma_cons (me_var 0) (ma_cons me_int ma_nil se_c) se_n) (he := se_n) (hpl := (ns_cons se_c ns_nil)))) ma_nil se_b) se_n) se_n) (he := se_n) (hpl := (ns_cons se_n (ns_cons se_b ns_nil)))) ma_nil se_f) se_c)))) mss_nil)
    (mss_cons (ms_set (i := 3) sc_law_statement.nd rfl (Or.inl rfl) (me_ix hu (me_ix hu (me_var 1) (me_fn (ps := ["reel", "many"]) C_law_take (hr.mono (by omega)) (ma_cons (me_var 0) (ma_cons (me_len y_len (ma_cons (me_var 1) ma_nil se_n) (he := se_n) (hpl := ns_nil)) ma_nil se_f) se_n) (he := se_n) (hpl := (ns_cons se_f ns_nil))) (fun _ _ => rfl)) me_int (fun _ _ => rfl)))
    (mss_cons (ms_if (mt_cmp or_lt opm_lt (me_var 2) me_int (nomark _)) (mss_one (ms_ret (me_tup (ma_cons me_str (ma_cons (me_var 3) ma_nil se_n) se_c)))) mss_nil)
    (mss_cons (ms_set (i := 4) sc_law_statement.nd rfl (Or.inl rfl) (me_tup (ma_cons me_str (ma_cons (me_ix hu (me_ix hu (me_var 1) (me_fn (ps := ["reel", "many"]) C_law_take (hr.mono (by omega)) (ma_cons (me_var 0) (ma_cons (me_len y_len (ma_cons (me_var 1) ma_nil se_n) (he := se_n) (hpl := ns_nil)) ma_nil se_f) se_n) (he := se_n) (hpl := (ns_cons se_f ns_nil))) (fun _ _ => rfl)) me_int (fun _ _ => rfl)) ma_nil se_s) se_c)))
    (mss_cons (ms_if (mt_cmp or_eq (opm_eq hu6) (me_var 2) me_int (nomark _)) (mss_one (ms_ret (me_tup (ma_cons me_str (ma_cons (me_var 3) (ma_cons (me_tup (ma_cons (me_ix hu me_str (me_fn (ps := ["reel", "many"]) C_law_take (hr.mono (by omega)) (ma_cons (me_var 0) (ma_cons me_int ma_nil se_c) se_n) (he := se_n) (hpl := (ns_cons se_c ns_nil))) (fun _ _ => rfl)) (ma_cons (me_var 4) (ma_cons (me_tup (ma_cons me_str (ma_cons (me_fn (ps := ["reel", "many"]) C_law_take (hr.mono (by omega)) (ma_cons (me_var 0) (ma_cons me_int ma_nil se_c) se_n) (he := se_n) (hpl := (ns_cons se_c ns_nil))) ma_nil se_f) se_c)) ma_nil se_t) se_n) se_s)) ma_nil se_t) se_n) se_c)))) mss_nil)
    (mss_one (ms_ret (me_tup (ma_cons me_str (ma_cons (me_var 3) (ma_cons (me_fn (ps := ["reel", "boxes", "leaves"]) C_law_tree (hr.mono (by omega)) (ma_cons (me_var 0) (ma_cons (me_var 1) (ma_cons (me_add me_int (me_fn (ps := ["reel", "many"]) C_law_take (hr.mono (by omega)) (ma_cons (me_var 0) (ma_cons me_int ma_nil se_c) se_n) (he := se_n) (hpl := (ns_cons se_c ns_nil)))) ma_nil se_b) se_n) se_n) (he := se_n) (hpl := (ns_cons se_n (ns_cons se_b ns_nil)))) ma_nil se_f) se_n) se_c))))))))))
theorem sc_law_number : FnScope ["reel", "way"] ["reel"] (defScope s_law_number) := ⟨rfl, rfl, rfl, by decide +kernel, rfl, by decide +kernel, by decide +kernel⟩
theorem ok_law_number {a_law_take : Addr} {d_law_take : FuncData} (C_law_take : CG P w K mg base 1 "_law_take" a_law_take d_law_take ["reel", "many"] 2 f_law_take) (F : Fun K "_law_number" "_law_number" s_law_number f fd) (B : Binds K fd ["reel"] []) (Mf : mg "_law_number" = some (.ref f)) : CG P w K mg base 2 "_law_number" f fd ["reel"] 1 f_law_number := by
  refine ⟨def_m (g := g_law_number) F sc_law_number rfl rfl rfl fun cdv A outer s H E hr => ?_, B, F.kp, Mf⟩
  have hu := hu_of hr
  have hu6 := hr.units
  exact (mss_cons (ms_set (i := 1) sc_law_number.nd rfl (Or.inl rfl) (me_fn (ps := ["reel", "many"]) C_law_take (hr.mono (by omega)) (ma_cons (me_var 0) (ma_cons me_int ma_nil se_c) se_n) (he := se_n) (hpl := (ns_cons se_c ns_nil))))
    (mss_cons (ms_if (mt_cmp or_eq (opm_eq hu6) (me_var 1) me_int (nomark _)) (mss_one (ms_ret (me_fn (ps := ["reel", "many"]) C_law_take (hr.mono (by omega)) (ma_cons (me_var 0) (ma_cons (me_pow me_int me_int) ma_nil se_b) se_n) (he := se_n) (hpl := (ns_cons se_b ns_nil))))) mss_nil)
    (mss_cons (ms_if (mt_cmp or_eq (opm_eq hu6) (me_var 1) me_int (nomark _)) (mss_one (ms_ret (me_neg (me_fn (ps := ["reel", "many"]) C_law_take (hr.mono (by omega)) (ma_cons (me_var 0) (ma_cons (me_pow me_int me_int) ma_nil se_b) se_n) (he := se_n) (hpl := (ns_cons se_b ns_nil)))))) mss_nil)
    (mss_cons (ms_if (mt_cmp or_eq (opm_eq hu6) (me_var 1) me_int (nomark _)) (mss_one (ms_ret (me_add me_int (me_fn (ps := ["reel", "many"]) C_law_take (hr.mono (by omega)) (ma_cons (me_var 0) (ma_cons me_int ma_nil se_c) se_n) (he := se_n) (hpl := (ns_cons se_c ns_nil)))))) mss_nil)
    (mss_one (ms_ret (me_sub (me_fn (ps := ["reel", "many"]) C_law_take (hr.mono (by omega)) (ma_cons (me_var 0) (ma_cons me_int ma_nil se_c) se_n) (he := se_n) (hpl := (ns_cons se_c ns_nil))) me_int)))))))
theorem sc_law_alike : FnScope ["found", "due", "k"] ["found", "due"] (defScope s_law_alike) := ⟨rfl, rfl, rfl, by decide +kernel, rfl, by decide +kernel, by decide +kernel⟩
theorem ok_law_alike  (y_bool : mg "bool" = none) (y_int : mg "int" = none) (y_isinstance : mg "isinstance" = none) (y_len : mg "len" = none) (y_list : mg "list" = none) (y_range : mg "range" = none) (y_str : mg "str" = none) (y_tuple : mg "tuple" = none) (F : Fun K "_law_alike" "_law_alike" s_law_alike f fd) (B : Binds K fd ["found", "due"] []) (Mf : mg "_law_alike" = some (.ref f)) : ∀ n : Nat, CG P w K mg base (1 + n) "_law_alike" f fd ["found", "due"] 2 (f_law_alike n)
  | 0 => ⟨def_no fun _ _ => rfl, B, F.kp, Mf⟩
  | n + 1 => by
    have C_law_alike := ok_law_alike y_bool y_int y_isinstance y_len y_list y_range y_str y_tuple F B Mf n
    refine ⟨def_m (g := g_law_alike (f_law_alike n)) F sc_law_alike rfl rfl rfl fun cdv A outer s H E hr => ?_, B, F.kp, Mf⟩
    have hr : Room (1 + n) _ := hr
    have hu := hu_of hr
    have hu6 := hr.units
    exact (mss_cons (ms_if (mt_cmp op_isN opm_isN (me_var 1) me_non (nomark _)) (mss_one (ms_ret (me_cmp op_isN opm_isN (me_var 0) me_non (nomark _)))) mss_nil)
      (mss_cons (ms_if (mt_val (me_isi y_isinstance (ma_cons (me_var 1) (ma_cons (me_ty y_bool PyProof.Rows.boot_bool) ma_nil se_n) se_n) (he := se_n) (hpl := (ns_cons se_n ns_nil)))) (mss_one (ms_ret (me_and (me_isi y_isinstance (ma_cons (me_var 0) (ma_cons (me_ty y_bool PyProof.Rows.boot_bool) ma_nil se_n) se_n) (he := se_n) (hpl := (ns_cons se_n ns_nil))) (me_one (me_cmp or_eq (opm_eq hu6) (me_var 0) (me_var 1) (nomark _)))))) mss_nil)
      (mss_cons (ms_if (mt_val (me_isi y_isinstance (ma_cons (me_var 1) (ma_cons (me_ty y_int PyProof.Rows.boot_int) ma_nil se_n) se_n) (he := se_n) (hpl := (ns_cons se_n ns_nil)))) (mss_one (ms_ret (me_and (me_isi y_isinstance (ma_cons (me_var 0) (ma_cons (me_ty y_int PyProof.Rows.boot_int) ma_nil se_n) se_n) (he := se_n) (hpl := (ns_cons se_n ns_nil))) (me_and (me_not (me_isi y_isinstance (ma_cons (me_var 0) (ma_cons (me_ty y_bool PyProof.Rows.boot_bool) ma_nil se_n) se_n) (he := se_n) (hpl := (ns_cons se_n ns_nil)))) (me_one (me_cmp or_eq (opm_eq hu6) (me_var 0) (me_var 1) (nomark _))))))) mss_nil)
      (mss_cons (ms_if (mt_val (me_isi y_isinstance (ma_cons (me_var 1) (ma_cons (me_ty y_str PyProof.Rows.boot_str) ma_nil se_n) se_n) (he := se_n) (hpl := (ns_cons se_n ns_nil)))) (mss_one (ms_ret (me_and (me_isi y_isinstance (ma_cons (me_var 0) (ma_cons (me_ty y_str PyProof.Rows.boot_str) ma_nil se_n) se_n) (he := se_n) (hpl := (ns_cons se_n ns_nil))) (me_one (me_cmp or_eq (opm_eq hu6) (me_var 0) (me_var 1) (nomark _)))))) mss_nil)
      (mss_cons (ms_if (mt_val (me_isi y_isinstance (ma_cons (me_var 1) (ma_cons (me_ty y_tuple PyProof.Rows.boot_tuple) ma_nil se_n) se_n) (he := se_n) (hpl := (ns_cons se_n ns_nil)))) (mss_one (ms_if (mt_not (mt_val (me_isi y_isinstance (ma_cons (me_var 0) (ma_cons (me_ty y_tuple PyProof.Rows.boot_tuple) ma_nil se_n) se_n) (he := se_n) (hpl := (ns_cons se_n ns_nil))))) (mss_one (ms_ret me_bl)) mss_nil)) (mss_one (ms_if (mt_not (mt_val (me_isi y_isinstance (ma_cons (me_var 0) (ma_cons (me_ty y_list PyProof.Rows.boot_list) ma_nil se_n) se_n) (he := se_n) (hpl := (ns_cons se_n ns_nil))))) (mss_one (ms_ret me_bl)) mss_nil)))
      (mss_cons (ms_if (mt_cmp or_ne (opm_ne hu6) (me_len y_len (ma_cons (me_var 0) ma_nil se_n) (he := se_n) (hpl := ns_nil)) (me_len y_len (ma_cons (me_var 1) ma_nil se_n) (he := se_n) (hpl := ns_nil)) (nomark _)) (mss_one (ms_ret me_bl)) mss_nil)
      (mss_cons (ms_for PassesOwn.never rfl (mi_range1 rfl y_range (ma_cons (me_len y_len (ma_cons (me_var 1) ma_nil se_n) (he := se_n) (hpl := ns_nil)) ma_nil se_f)) (pg_name (i := 2) sc_law_alike.nd rfl (Or.inl rfl)) (tg_name 3 2 (by decide)) (mss_one (ms_if (mt_not (mt_val (me_fn (ps := ["found", "due"]) C_law_alike (hr.mono (by omega)) (ma_cons (me_ix hu (me_var 0) (me_var 2) (fun _ _ => rfl)) (ma_cons (me_ix hu (me_var 1) (me_var 2) (fun _ _ => rfl)) ma_nil se_s) se_s) (he := se_s) (hpl := (ns_cons se_s ns_nil))))) (mss_one (ms_ret me_bl)) mss_nil)))
      (mss_one (ms_ret me_bl)))))))))
theorem sc_law_copied : FnScope ["program"] ["program"] (defScope s_law_copied) := ⟨rfl, rfl, rfl, by decide +kernel, rfl, by decide +kernel, by decide +kernel⟩
theorem nd_law_copied_0 : ((["name", "statements", "end", ".0"] : List Str) ++ (["program"] : List Str).map (hid ["name", "statements", "end", ".0"])).Nodup := by decide +kernel
theorem ok_law_copied  (y_list : mg "list" = none) (F : Fun K "_law_copied" "_law_copied" s_law_copied f fd) (B : Binds K fd ["program"] []) (Mf : mg "_law_copied" = some (.ref f)) : CG P w K mg base 1 "_law_copied" f fd ["program"] 1 f_law_copied := by
  refine ⟨def_m (g := g_law_copied) F sc_law_copied rfl rfl rfl fun cdv A outer s H E hr => ?_, B, F.kp, Mf⟩
  have hu := hu_of hr
  have hu6 := hr.units
  exact (mss_one (ms_ret (me_tup (ma_cons (me_tl (mf_list y_list (ma_cons (me_ix hu (me_var 0) me_int (fun _ _ => rfl)) ma_nil se_s) (he := se_s) (hpl := ns_nil))) (ma_cons (me_tl (mf_comp rfl (ls := ["name", "statements", "end", ".0"]) (.of (defScope s_law_copied)) (mi_list (me_ix hu (me_var 0) me_int (fun _ _ => rfl))) (fun _ _ _ _ => (pg_tup rfl (pgs_cons (pg_name (i := 0) nd_law_copied_0 rfl (Or.inl rfl) (.inr rfl)) (pgs_cons (pg_name (i := 1) nd_law_copied_0 rfl (Or.inl rfl) (.inr rfl)) (pgs_cons (pg_name (i := 2) nd_law_copied_0 rfl (Or.inl rfl) (.inr rfl)) pgs_nil))))) (tg_tup 4 [0, 1, 2] (by decide)) (fun _ _ _ _ => mif_nil) (fun _ _ _ _ => (me_tup (ma_cons (me_var 0) (ma_cons (me_tl (mf_list y_list (ma_cons (me_var 1) ma_nil se_n) (he := se_n) (hpl := ns_nil))) (ma_cons (me_var 2) ma_nil se_n) se_f) se_n))) trivial)) ma_nil se_k) se_f))))
theorem sc_law_ran : FnScope ["program", "numbers", "bound", "values", "name", "first", "said", "taken", "went", "k", "statement"] ["program", "numbers", "bound"] (defScope s_law_ran) := ⟨rfl, rfl, rfl, by decide +kernel, rfl, by decide +kernel, by decide +kernel⟩
theorem ok_law_ran {a_law_worth : Addr} {d_law_worth : FuncData} (y_len : mg "len" = none) (y_range : mg "range" = none) (C_law_worth : CG P w K mg base 7 "_law_worth" a_law_worth d_law_worth ["e", "values"] 2 (f_law_worth 6)) (F : Fun K "_law_ran" "_law_ran" s_law_ran f fd) (B : Binds K fd ["program", "numbers", "bound"] []) (Mf : mg "_law_ran" = some (.ref f)) : CG P w K mg base 8 "_law_ran" f fd ["program", "numbers", "bound"] 3 f_law_ran := by
  refine ⟨def_m (g := g_law_ran) F sc_law_ran rfl rfl rfl fun cdv A outer s H E hr => ?_, B, F.kp, Mf⟩
  have hu := hu_of hr
  have hu6 := hr.units
  exact (mss_cons (ms_set (i := 3) sc_law_ran.nd rfl (Or.inl rfl) me_dnew)
    (mss_cons (ms_for PassesOwn.never rfl (mi_list (me_ix hu (me_var 0) me_int (fun _ _ => rfl))) (pg_tup rfl (pgs_cons (pg_name (i := 4) sc_law_ran.nd rfl (Or.inl rfl)) (pgs_cons (pg_name (i := 5) sc_law_ran.nd rfl (Or.inl rfl)) pgs_nil))) (tg_tup 11 [4, 5] (by decide)) (mss_one (ms_store hu (me_var 3) (me_var 4) (me_var 5))))
    (mss_cons (ms_set (i := 6) sc_law_ran.nd rfl (Or.inl rfl) (me_new (mf_lst ma_nil)))
    (mss_cons (ms_set (i := 7) sc_law_ran.nd rfl (Or.inl rfl) me_int)
    (mss_cons (ms_set (i := 8) sc_law_ran.nd rfl (Or.inl rfl) (me_new (mf_lst ma_nil)))
    (mss_cons (ms_for PassesOwn.never rfl (mi_range1 rfl y_range (ma_cons (me_var 2) ma_nil se_n)) (pg_name (i := 9) sc_law_ran.nd rfl (Or.inl rfl)) (tg_name 11 9 (by decide)) (mss_cons (ms_for PassesOwn.never rfl (mi_list (me_ix hu (me_ix hu (me_ix hu (me_var 0) me_int (fun _ _ => rfl)) me_int (fun _ _ => rfl)) me_int (fun _ _ => rfl))) (pg_name (i := 10) sc_law_ran.nd rfl (Or.inl rfl)) (tg_name 11 10 (by decide)) (mss_cons (ms_if (mt_cmp or_eq (opm_eq hu6) (me_ix hu (me_var 10) me_int (fun _ _ => rfl)) me_str (nomark _)) (mss_one (ms_expr (me_append (me_var 6) (ma_cons (me_fn (ps := ["e", "values"]) C_law_worth (hr.mono (by omega)) (ma_cons (me_ix hu (me_var 10) me_int (fun _ _ => rfl)) (ma_cons (me_var 3) ma_nil se_n) se_s) (he := se_s) (hpl := (ns_cons se_n ns_nil))) ma_nil se_f)))) mss_nil)
    (mss_cons (ms_if (mt_cmp or_eq (opm_eq hu6) (me_ix hu (me_var 10) me_int (fun _ _ => rfl)) me_str (nomark _)) (mss_one (ms_store hu (me_var 3) (me_ix hu (me_var 10) me_int (fun _ _ => rfl)) (me_mod (me_fn (ps := ["e", "values"]) C_law_worth (hr.mono (by omega)) (ma_cons (me_ix hu (me_var 10) me_int (fun _ _ => rfl)) (ma_cons (me_var 3) ma_nil se_n) se_s) (he := se_s) (hpl := (ns_cons se_n ns_nil))) me_int))) mss_nil)
    (mss_cons (ms_if (jw_pt (mw_and (mt_cmp or_eq (opm_eq hu6) (me_ix hu (me_var 10) me_int (fun _ _ => rfl)) me_str (nomark _)) (mw_and1 (mt_cmp or_eq (opm_eq hu6) (me_var 7) (me_len y_len (ma_cons (me_var 1) ma_nil se_n) (he := se_n) (hpl := ns_nil)) (nomark _))))) (mss_one (ms_ret (me_tup (ma_cons (me_ice (me_var 6)) (ma_cons (me_tup (ma_cons me_str ma_nil se_c)) (ma_cons (me_ice (me_var 8)) ma_nil se_n) se_t) se_n)))) mss_nil)
    (mss_one (ms_if (mt_cmp or_eq (opm_eq hu6) (me_ix hu (me_var 10) me_int (fun _ _ => rfl)) me_str (nomark _)) (mss_cons (ms_store hu (me_var 3) (me_ix hu (me_var 10) me_int (fun _ _ => rfl)) (me_mod (me_ix hu (me_var 1) (me_var 7) (fun _ _ => rfl)) me_int))
    (mss_one (ms_set (i := 7) sc_law_ran.nd rfl (Or.inl rfl) (me_add (me_var 7) me_int)))) mss_nil))))))
    (mss_cons (ms_if (mt_cmp or_eq (opm_eq hu6) (me_ix hu (me_ix hu (me_ix hu (me_var 0) me_int (fun _ _ => rfl)) me_int (fun _ _ => rfl)) me_int (fun _ _ => rfl)) (me_tup (ma_cons me_str ma_nil se_c)) (nomark _)) (mss_one (ms_ret (me_tup (ma_cons (me_ice (me_var 6)) (ma_cons (me_tup (ma_cons me_str ma_nil se_c)) (ma_cons (me_ice (me_var 8)) ma_nil se_n) se_t) se_n)))) mss_nil)
    (mss_one (ms_expr (me_append (me_var 8) (ma_cons (me_tup (ma_cons me_int (ma_cons me_int (ma_cons me_int ma_nil se_c) se_c) se_c)) ma_nil se_t)))))))
    (mss_one (ms_ret (me_tup (ma_cons (me_ice (me_var 6)) (ma_cons (me_tup (ma_cons me_str ma_nil se_c)) (ma_cons (me_ice (me_var 8)) ma_nil se_n) se_t) se_n))))))))))
theorem sc_law : FnScope ["script", "names", "reel", "boxes", "k", "end", "statements", "program", "numbers", "bound", "due", "handed", "given", "found"] ["script"] (defScope s_law) := ⟨rfl, rfl, rfl, by decide +kernel, rfl, by decide +kernel, by decide +kernel⟩
theorem nd_law_0 : ((["cell", ".0"] : List Str) ++ (["script", "names", "reel", "boxes", "k", "end", "statements", "program", "numbers", "bound", "due", "handed", "given", "found"] : List Str).map (hid ["cell", ".0"])).Nodup := by decide +kernel
theorem nd_law_1 : ((["cell", ".0"] : List Str) ++ (["script", "names", "reel", "boxes", "k", "end", "statements", "program", "numbers", "bound", "due", "handed", "given", "found"] : List Str).map (hid ["cell", ".0"])).Nodup := by decide +kernel
theorem nd_law_2 : ((["k", ".0"] : List Str) ++ (["script", "names", "reel", "boxes", "k", "end", "statements", "program", "numbers", "bound", "due", "handed", "given", "found"] : List Str).map (hid ["k", ".0"])).Nodup := by decide +kernel
theorem ok_law {a_law_names : Addr} {d_law_names : FuncData} {a_law_reel : Addr} {d_law_reel : FuncData} {a_law_cell_at : Addr} {d_law_cell_at : FuncData} {a_law_take : Addr} {d_law_take : FuncData} {a_law_statement : Addr} {d_law_statement : FuncData} {a_law_number : Addr} {d_law_number : FuncData} {a_law_ran : Addr} {d_law_ran : FuncData} {a_law_copied : Addr} {d_law_copied : FuncData} {a_run : Addr} {d_run : FuncData} {a_law_alike : Addr} {d_law_alike : FuncData} (y_list : mg "list" = none) (y_range : mg "range" = none) (C_law_names : CG P w K mg base 2 "_law_names" a_law_names d_law_names ["reel", "many"] 2 f_law_names) (C_law_reel : CG P w K mg base 1 "_law_reel" a_law_reel d_law_reel ["cell"] 1 f_law_reel) (C_law_cell_at : CG P w K mg base 1 "_law_cell_at" a_law_cell_at d_law_cell_at ["script", "k"] 2 f_law_cell_at) (C_law_take : CG P w K mg base 1 "_law_take" a_law_take d_law_take ["reel", "many"] 2 f_law_take) (C_law_statement : CG P w K mg base 10 "_law_statement" a_law_statement d_law_statement ["reel", "boxes"] 2 f_law_statement) (C_law_number : CG P w K mg base 2 "_law_number" a_law_number d_law_number ["reel"] 1 f_law_number) (C_law_ran : CG P w K mg base 8 "_law_ran" a_law_ran d_law_ran ["program", "numbers", "bound"] 3 f_law_ran) (C_law_copied : CG P w K mg base 1 "_law_copied" a_law_copied d_law_copied ["program"] 1 f_law_copied) (C_run : CG P w K mg base 10 "run" a_run d_run ["program", "numbers", "bound"] 3 f_run) (C_law_alike : CG P w K mg base 17 "_law_alike" a_law_alike d_law_alike ["found", "due"] 2 (f_law_alike 16)) (F : Fun K "law" "law" s_law f fd) (B : Binds K fd ["script"] []) (Mf : mg "law" = some (.ref f)) : CG P w K mg base 18 "law" f fd ["script"] 1 f_law := by
  refine ⟨def_m (g := g_law) F sc_law rfl rfl rfl fun cdv A outer s H E hr => ?_, B, F.kp, Mf⟩
  have hu := hu_of hr
  have hu6 := hr.units
  exact (mss_cons (ms_set (i := 1) sc_law.nd rfl (Or.inl rfl) (me_fn (ps := ["reel", "many"]) C_law_names (hr.mono (by omega)) (ma_cons (me_fn (ps := ["cell"]) C_law_reel (hr.mono (by omega)) (ma_cons (me_fn (ps := ["script", "k"]) C_law_cell_at (hr.mono (by omega)) (ma_cons (me_var 0) (ma_cons me_int ma_nil se_c) se_n) (he := se_n) (hpl := (ns_cons se_c ns_nil))) ma_nil se_f) (he := se_f) (hpl := ns_nil)) (ma_cons me_int ma_nil se_c) se_f) (he := se_f) (hpl := (ns_cons se_c ns_nil))))
    (mss_cons (ms_set (i := 2) sc_law.nd rfl (Or.inr rfl) (me_fn (ps := ["cell"]) C_law_reel (hr.mono (by omega)) (ma_cons (me_fn (ps := ["script", "k"]) C_law_cell_at (hr.mono (by omega)) (ma_cons (me_var 0) (ma_cons me_int ma_nil se_c) se_n) (he := se_n) (hpl := (ns_cons se_c ns_nil))) ma_nil se_f) (he := se_f) (hpl := ns_nil)))
    (mss_cons (ms_set (i := 3) sc_law.nd rfl (Or.inr rfl) (me_new (mf_lst ma_nil)))
    (mss_cons (ms_for PassesOwn.never rfl (mi_range1 rfl y_range (ma_cons (me_fn (ps := ["reel", "many"]) C_law_take (hr.mono (by omega)) (ma_cons (me_var 2) (ma_cons me_int ma_nil se_c) se_n) (he := se_n) (hpl := (ns_cons se_c ns_nil))) ma_nil se_f)) (pg_name (i := 4) sc_law.nd rfl (Or.inl rfl)) (tg_name 14 4 (by decide)) (mss_one (ms_expr (me_append (me_var 3) (ma_cons (me_tup (ma_cons (me_ix hu (me_var 1) (me_var 4) (fun _ _ => rfl)) (ma_cons (me_fn (ps := ["reel", "many"]) C_law_take (hr.mono (by omega)) (ma_cons (me_var 2) (ma_cons (me_ix hu (me_tl (mf_lst (ma_cons me_int (ma_cons me_int ma_nil se_c) se_c))) (me_fn (ps := ["reel", "many"]) C_law_take (hr.mono (by omega)) (ma_cons (me_var 2) (ma_cons me_int ma_nil se_c) se_n) (he := se_n) (hpl := (ns_cons se_c ns_nil))) (fun _ _ => rfl)) ma_nil se_s) se_n) (he := se_n) (hpl := (ns_cons se_s ns_nil))) ma_nil se_f) se_s)) ma_nil se_t)))))
    (mss_cons (ms_set (i := 5) sc_law.nd rfl (Or.inl rfl) (me_ix hu (me_tl (mf_lst (ma_cons (me_tup (ma_cons me_str ma_nil se_c)) (ma_cons (me_tup (ma_cons me_str (ma_cons me_int ma_nil se_c) se_c)) ma_nil se_t) se_t))) (me_fn (ps := ["reel", "many"]) C_law_take (hr.mono (by omega)) (ma_cons (me_var 2) (ma_cons me_int ma_nil se_c) se_n) (he := se_n) (hpl := (ns_cons se_c ns_nil))) (fun _ _ => rfl)))
    (mss_cons (ms_setTl (i := 6) sc_law.nd rfl rfl rfl (ls := ["cell", ".0"]) (.of (defScope s_law)) (mi_list (me_sl (me_var 0) (mo_some me_int) (mo_some me_int))) (fun _ _ _ _ => (pg_name (i := 0) nd_law_0 rfl (Or.inl rfl) (.inr rfl))) (tg_name 2 0 (by decide)) (fun _ _ _ _ => mif_nil) (fun _ _ _ _ => (me_fn (ps := ["reel", "boxes"]) C_law_statement (hr.mono (by omega)) (ma_cons (me_fn (ps := ["cell"]) C_law_reel (hr.mono (by omega)) (ma_cons (me_var 0) ma_nil se_n) (he := se_n) (hpl := ns_nil)) (ma_cons (me_var 5) ma_nil se_n) se_f) (he := se_f) (hpl := (ns_cons se_n ns_nil)))) trivial)
    (mss_cons (ms_set (i := 7) sc_law.nd rfl (Or.inl rfl) (me_tup (ma_cons (me_var 3) (ma_cons (me_tl (mf_lst (ma_cons (me_tup (ma_cons (me_ix hu (me_var 1) (me_fn (ps := ["reel", "many"]) C_law_take (hr.mono (by omega)) (ma_cons (me_var 2) (ma_cons me_int ma_nil se_c) se_n) (he := se_n) (hpl := (ns_cons se_c ns_nil))) (fun _ _ => rfl)) (ma_cons (me_var 6) (ma_cons (me_var 5) ma_nil se_n) se_n) se_s)) ma_nil se_t))) ma_nil se_l) se_n)))
    (mss_cons (ms_setTl (i := 8) sc_law.nd rfl rfl rfl (ls := ["cell", ".0"]) (.of (defScope s_law)) (mi_list (me_sl (me_var 0) (mo_some me_int) (mo_some me_int))) (fun _ _ _ _ => (pg_name (i := 0) nd_law_1 rfl (Or.inl rfl) (.inr rfl))) (tg_name 2 0 (by decide)) (fun _ _ _ _ => mif_nil) (fun _ _ _ _ => (me_fn (ps := ["reel"]) C_law_number (hr.mono (by omega)) (ma_cons (me_fn (ps := ["cell"]) C_law_reel (hr.mono (by omega)) (ma_cons (me_var 0) ma_nil se_n) (he := se_n) (hpl := ns_nil)) ma_nil se_f) (he := se_f) (hpl := ns_nil))) trivial)
    (mss_cons (ms_set (i := 8) sc_law.nd rfl (Or.inl rfl) (me_add (me_var 8) (me_tl (mf_comp rfl (ls := ["k", ".0"]) (.of (defScope s_law)) (mi_range1 rfl y_range (ma_cons (me_fn (ps := ["reel", "many"]) C_law_take (hr.mono (by omega)) (ma_cons (me_var 2) (ma_cons me_int ma_nil se_c) se_n) (he := se_n) (hpl := (ns_cons se_c ns_nil))) ma_nil se_f)) (fun _ _ _ _ => (pg_name (i := 0) nd_law_2 rfl (Or.inl rfl) (.inr rfl))) (tg_name 2 0 (by decide)) (fun _ _ _ _ => mif_nil) (fun _ _ _ _ => (me_fn (ps := ["reel"]) C_law_number (hr.mono (by omega)) (ma_cons (me_var 4) ma_nil se_n) (he := se_n) (hpl := ns_nil))) trivial))))
    (mss_cons (ms_set (i := 9) sc_law.nd rfl (Or.inl rfl) (me_add me_int (me_fn (ps := ["reel", "many"]) C_law_take (hr.mono (by omega)) (ma_cons (me_var 2) (ma_cons me_int ma_nil se_c) se_n) (he := se_n) (hpl := (ns_cons se_c ns_nil)))))
    (mss_cons (ms_set (i := 10) sc_law.nd rfl (Or.inl rfl) (me_fn (ps := ["program", "numbers", "bound"]) C_law_ran (hr.mono (by omega)) (ma_cons (me_var 7) (ma_cons (me_var 8) (ma_cons (me_var 9) ma_nil se_n) se_n) se_n) (he := se_n) (hpl := (ns_cons se_n (ns_cons se_n ns_nil)))))
    (mss_cons (ms_set (i := 11) sc_law.nd rfl (Or.inl rfl) (me_fn (ps := ["program"]) C_law_copied (hr.mono (by omega)) (ma_cons (me_var 7) ma_nil se_n) (he := se_n) (hpl := ns_nil)))
    (mss_cons (ms_set (i := 12) sc_law.nd rfl (Or.inl rfl) (me_tl (mf_list y_list (ma_cons (me_var 8) ma_nil se_n) (he := se_n) (hpl := ns_nil))))
    (mss_cons (ms_set (i := 13) sc_law.nd rfl (Or.inl rfl) (me_fn (ps := ["program", "numbers", "bound"]) C_run (hr.mono (by omega)) (ma_cons (me_var 11) (ma_cons (me_var 12) (ma_cons (me_var 9) ma_nil se_n) se_n) se_n) (he := se_n) (hpl := (ns_cons se_n (ns_cons se_n ns_nil)))))
    (mss_cons (ms_if (jw_pt (mw_or (mt_not (mt_val (me_fn (ps := ["found", "due"]) C_law_alike (hr.mono (by omega)) (ma_cons (me_var 13) (ma_cons (me_var 10) ma_nil se_n) se_n) (he := se_n) (hpl := (ns_cons se_n ns_nil))))) (mw_or1 (mt_not (mt_val (me_fn (ps := ["found", "due"]) C_law_alike (hr.mono (by omega)) (ma_cons (me_var 12) (ma_cons (me_var 8) ma_nil se_n) se_n) (he := se_n) (hpl := (ns_cons se_n ns_nil)))))))) (mss_one (ms_ret me_bl)) mss_nil)
    (mss_cons (ms_expr (me_append (me_ix hu (me_var 13) me_int (fun _ _ => rfl)) (ma_cons me_int ma_nil se_c)))
    (mss_cons (ms_expr (me_append (me_ix hu (me_var 13) me_int (fun _ _ => rfl)) (ma_cons (me_tup (ma_cons me_int (ma_cons me_int (ma_cons me_int ma_nil se_c) se_c) se_c)) ma_nil se_t)))
    (mss_one (ms_ret (me_and (me_fn (ps := ["found", "due"]) C_law_alike (hr.mono (by omega)) (ma_cons (me_fn (ps := ["program", "numbers", "bound"]) C_run (hr.mono (by omega)) (ma_cons (me_var 11) (ma_cons (me_var 12) (ma_cons (me_var 9) ma_nil se_n) se_n) se_n) (he := se_n) (hpl := (ns_cons se_n (ns_cons se_n ns_nil)))) (ma_cons (me_var 10) ma_nil se_n) se_f) (he := se_f) (hpl := (ns_cons se_n ns_nil))) (me_one (me_fn (ps := ["found", "due"]) C_law_alike (hr.mono (by omega)) (ma_cons (me_var 11) (ma_cons (me_var 7) ma_nil se_n) se_n) (he := se_n) (hpl := (ns_cons se_n ns_nil))))))))))))))))))))))))
end
end Q
set_option maxHeartbeats 1000000
namespace Q
open PySem L2
local macro_rules | `(tactic| simp! only [$xs,*]) => `(tactic| try simp only [finF, sSeq, sIf, sRet, sSet, sNil, sEx, sPass, sBreak, sCont, sUnp, sStore, mB, L2.m2, L2.m1, L2.m3, mVar, mC, mCall, mCons, mNil, mTup, mTl, mNew, lenG, listL, mPart, mNoPart, mAnd, mOr, mNot, mAndV, mOrV, mNotV, mIf, mChain, mMeth, isS, mSrc, mSrcA, srcL, srcT, srcS, tgN, tgT, setW, mYes, bd_prN, bd_no, asB_bl, addW_int, subW_int, ltW_int, leW_int, gtW_int, geW_int, eqW_int, eqW_str, neW_int, neW_str, neW_bl, slW_tl, slW_cl, lenW_tl, lenW_tup, negW, List.set_cons_zero, List.set_cons_succ, List.getElem?_cons_zero, List.getElem?_cons_succ, List.length_cons, List.length_nil, arW, if_true, if_false, Bool.false_eq_true, ite_true, ite_false, reduceIte, decide_true, decide_false, Bool.not_true, Bool.not_false, gd_tt, gdn0, gdn1, gdn2, gdn3, gdn4, gdn5, gdn6, gdn7, gdn8, gdn9, gdn10, gdn11, gdn12, gdn13, gdn14, gdn15, gdn16, gdn17, gdn18, gdn19, gdn20, gdn21, gdn22, gdn23, gdn24, $xs,*])
def Reel (h : List Ob) (j : Nat) : Prop := ∃ a b : Int, h[j]? = some (.lst [.int a, .int b])
/-- drawn from the reel at j -/
structure Kp (j : Nat) (h h' : List Ob) : Prop where
  fr : Fr j h h'
  re : Reel h' j
theorem Kp.trans {j : Nat} {a b c : List Ob} (x : Kp j a b) (y : Kp j b c) : Kp j a c := ⟨x.fr.trans y.fr, y.re⟩
theorem cp10 : CPow 10 18 := ⟨by decide, by decide, by decide⟩
theorem take_ok {h : List Ob} {j : Nat} {m : Int} (R : Reel h j) (hm : 0 < m) (hz : m < 2 ^ 200) : Ok (f_law_take [.loc j, .int m]) h fun w h' => ∃ v : Int, w = .int v ∧ 0 ≤ v ∧ v < m ∧ Kp j h h' := by
  obtain ⟨a, b, e⟩ := R
  have e0 : f_law_take [.loc j, .int m] = bd (g_law_take [some (.loc j), some (.int m), none, none]) finF := rfl
  rw [e0]
  unfold g_law_take
  try simp! only [bd_assoc, powW_int cp10]
  refine ok_ix e (w := .int a) rfl ?_
  by_cases hc : 10 ^ (18 : Int).toNat ≤ a
  · try simp! only [bd_assoc, decide_eq_true hc]
    refine ok_ix e (w := .int a) rfl ?_
    try simp! only [bd_assoc, modW_int hm]
    refine ok_ix e (w := .int a) rfl ?_
    try simp! only [bd_assoc, fdivW_int hm hz]
    refine ok_st e (i := 0) rfl ?_
    try simp! only [bd_assoc]
    exact ok_pr ⟨a % m, rfl, Int.emod_nonneg _ (by omega), Int.emod_lt_of_pos _ hm, Fr.set, _, _, set_get e⟩
  · try simp! only [bd_assoc, decide_eq_false hc]
    refine ok_ix e (w := .int b) rfl ?_
    try simp! only [bd_assoc, mulW_int (mulA_r (i := b) (j := 48271) (by decide) (by decide)), modW_int (show (0 : Int) < 2147483647 by decide)]
    generalize hx : (b * 48271 + 11) % 2147483647 = x
    have b0 : 0 ≤ x := by rw [← hx]; exact Int.emod_nonneg _ (by decide)
    have b1 : x < 2147483647 := by rw [← hx]; exact Int.emod_lt_of_pos _ (by decide)
    refine ok_st e (i := 1) rfl ?_
    have e' : (h.set j (.lst ([.int a, .int b].set 1 (.int x))))[j]? = some (.lst [.int a, .int x]) := set_get e
    try simp! only [bd_assoc]
    refine ok_ix e' (w := .int x) rfl ?_
    try simp! only [bd_assoc]
    refine ok_ix e' (w := .int x) rfl ?_
    try simp! only [bd_assoc, mulW_int (mulA_l (i := x) (j := x) (by omega) (by omega)), modW_int (show (0 : Int) < 2147483629 by decide), mulW_int (mulA_r (i := x * x % 2147483629) (j := 69621) (by decide) (by decide)), modW_int (show (0 : Int) < 2147483587 by decide), fdivW_int (show (0 : Int) < 8 by decide) (by decide), modW_int hm]
    exact ok_pr ⟨_, rfl, Int.emod_nonneg _ (by omega), Int.emod_lt_of_pos _ hm, Fr.set, _, _, e'⟩
section
variable {β : Type} {h : List Ob} {k : W → M β} {Q : β → List Ob → Prop} {j : Nat} {m : Int}
theorem k_take (R : Reel h j) (hm : 0 < m) (hz : m < 2 ^ 200) (q : ∀ v h', 0 ≤ v → v < m → Kp j h h' → Ok (k (.int v)) h' Q) : Ok (bd (f_law_take [.loc j, .int m]) k) h Q :=
  ok_bd (take_ok R hm hz) fun w h' ⟨v, e, a, b, K⟩ => by subst e; exact q v h' a b K
theorem absW_int (i : Int) : absW [.int i] = pr (.int (if i < 0 then -i else i)) := rfl
theorem k_reel {c : Int} (q : ∀ a b : Int, Ok (k (.loc h.length)) (h ++ [.lst [.int a, .int b]]) Q) : Ok (bd (f_law_reel [.int c]) k) h Q := by
  have e0 : f_law_reel [.int c] = bd (g_law_reel [some (.int c)]) finF := rfl
  rw [e0]
  unfold g_law_reel
  try simp! only [bd_assoc, absW_int, modW_int (show (0 : Int) < 2147483647 by decide), mulW_int (mulA_r (i := c % 2147483647 + 1) (j := 742938285) (by decide) (by decide))]
  refine ok_new ?_
  try simp! only [bd_assoc]
  exact q _ _
end
theorem ixW_cl {l : List W} {i : Int} {w : W} (h : atI l i = some w) : ixW (.cl l) (.int i) = pr w := by
  funext hh
  unfold ixW
  have : ixO (.cl l) (.int i) hh = some w := h
  rw [this]; rfl
theorem lenW_cl (l : List W) : lenW [.cl l] = pr (.int l.length) := rfl
theorem cell_eq (ns : List Int) (i : Int) (h0 : 0 ≤ i) : ∃ c : Int, f_law_cell_at [.cl (ns.map W.int), .int i] = pr (.int c) := by
  have e0 : f_law_cell_at [.cl (ns.map W.int), .int i] = bd (g_law_cell_at [some (.cl (ns.map W.int)), some (.int i)]) finF := rfl
  rw [e0]
  unfold g_law_cell_at
  by_cases hc : i < ((ns.map W.int).length : Int)
  · have q := menu_atW W.int ns 0 h0 (by rw [List.length_map] at hc; exact hc)
    refine ⟨ns.getD i.toNat 0, ?_⟩
    try simp! only [bd_assoc, lenW_cl, decide_eq_true hc, ixW_cl q]
  · refine ⟨0, ?_⟩
    try simp! only [bd_assoc, lenW_cl, decide_eq_false hc]
/-! ### alike -/
def Pd : Nat → W → Prop
  | 0, _ => False
  | n + 1, w => (∃ i, w = .int i) ∨ (∃ z, w = .str z) ∨ ∃ l, (w = .tup l ∨ w = .tl l) ∧ l.length ≤ 1000 ∧ ∀ x ∈ l, Pd n x
def Al (h : List Ob) : Nat → W → W → Prop
  | 0, _, _ => False
  | n + 1, x, y => (∃ i, x = .int i ∧ y = .int i) ∨ (∃ z, x = .str z ∧ y = .str z) ∨ ∃ l m : List W, ((x = .tup l ∧ y = .tup m) ∨ (Lw h x l ∧ Lw h y m)) ∧ l.length = m.length ∧ m.length ≤ 1000 ∧ ∀ (i : Nat) (a b : W), l[i]? = some a → m[i]? = some b → Al h n a b
theorem Pd.mono : ∀ {n : Nat} {w : W}, Pd n w → Pd (n + 1) w
  | n + 1, w, p => by
    rcases p with p | p | ⟨l, e, z, p⟩
    · exact .inl p
    · exact .inr (.inl p)
    · exact .inr (.inr ⟨l, e, z, fun x hx => (p x hx).mono⟩)
theorem Pd.up {n m : Nat} {w : W} (p : Pd n w) (h : n ≤ m) : Pd m w := by
  induction m with
  | zero =>
    have : n = 0 := by omega
    subst this; exact p
  | succ m ih =>
    by_cases e : n = m + 1
    · subst e; exact p
    · exact (ih (by omega)).mono
theorem Pd.al {h : List Ob} : ∀ {n : Nat} {w : W}, Pd n w → Al h n w w
  | n + 1, w, p => by
    rcases p with ⟨i, e⟩ | ⟨z, e⟩ | ⟨l, e, z, p⟩
    · exact .inl ⟨i, e, e⟩
    · exact .inr (.inl ⟨z, e, e⟩)
    · refine .inr (.inr ⟨l, l, e.imp (fun e => ⟨e, e⟩) (fun e => ⟨.inl e, .inl e⟩), rfl, z, fun i a b ha hb => ?_⟩)
      rw [ha] at hb
      cases hb
      exact (p a (List.mem_of_getElem? ha)).al
theorem Pd.int {n : Nat} {i : Int} : Pd (n + 1) (.int i) := .inl ⟨i, rfl⟩
theorem Pd.str {n : Nat} {i : Str} : Pd (n + 1) (.str i) := .inr (.inl ⟨i, rfl⟩)
theorem Pd.tup {n : Nat} {l : List W} (z : l.length ≤ 1000) (p : ∀ x ∈ l, Pd n x) : Pd (n + 1) (.tup l) := .inr (.inr ⟨l, .inl rfl, z, p⟩)
theorem al_int {n : Nat} {h : List Ob} {i : Int} : Ok (f_law_alike (n + 1) [.int i, .int i]) h fun w h' => w = .bl true ∧ h' = h := by
  have e0 : f_law_alike (n + 1) [.int i, .int i] = bd (g_law_alike (f_law_alike n) [some (.int i), some (.int i), none]) finF := rfl
  rw [e0]
  unfold g_law_alike
  try simp! only [bd_assoc, isNW, isNon, isi_int (c := "bool") (b := false) (by decide) (by decide), isi_int (c := "int") (b := true) (by decide) (by decide), eq_self, decide_true]
  exact ok_pr ⟨rfl, rfl⟩
theorem al_str {n : Nat} {h : List Ob} {z : Str} : Ok (f_law_alike (n + 1) [.str z, .str z]) h fun w h' => w = .bl true ∧ h' = h := by
  have e0 : f_law_alike (n + 1) [.str z, .str z] = bd (g_law_alike (f_law_alike n) [some (.str z), some (.str z), none]) finF := rfl
  rw [e0]
  unfold g_law_alike
  try simp! only [bd_assoc, isNW, isNon, isi_str (c := "bool") (b := false) (by decide) (by decide), isi_str (c := "int") (b := false) (by decide) (by decide), isi_str (c := "str") (b := true) (by decide) (by decide), eq_self, decide_true]
  exact ok_pr ⟨rfl, rfl⟩
/-- a tuple -/
def Tw (x : W) (l : List W) : Prop := x = .tup l
section
variable {β : Type} {h : List Ob} {Q : β → List Ob → Prop} {x w : W} {l : List W} {k : W → M β}
theorem Tw.isi {c : String} {b : Bool} (p : Tw x l) (hc : c ∈ tys) (hb : isT "tuple" c = b) (q : Ok (k (.bl b)) h Q) : Ok (bd (isiW [x, .ty c]) k) h Q := by
  unfold Tw at p; subst p
  rw [isi_tup hc hb, bd_pr]; exact q
theorem Tw.len (p : Tw x l) (q : Ok (k (.int l.length)) h Q) : Ok (bd (lenW [x]) k) h Q := by
  unfold Tw at p; subst p
  exact ok_bdo (a := .int l.length) (h' := h) rfl q
theorem Tw.ix {i : Int} (p : Tw x l) (e2 : atI l i = some w) (q : Ok (k w) h Q) : Ok (bd (ixW x (.int i)) k) h Q := by
  unfold Tw at p; subst p
  rw [ixW_tup e2, bd_pr]; exact q
end
theorem al_tup {n : Nat} {h : List Ob} {x y : W} {l m : List W} (ih : ∀ {h : List Ob} {x y : W}, Al h n x y → Ok (f_law_alike n [x, y]) h fun w h' => w = .bl true ∧ h' = h) (X : Tw x l) (Y : Tw y m) (el : l.length = m.length) (ez : m.length ≤ 1000) (A : ∀ (i : Nat) (a b : W), l[i]? = some a → m[i]? = some b → Al h n a b) : Ok (f_law_alike (n + 1) [x, y]) h fun w h' => w = .bl true ∧ h' = h := by
  have e0 : f_law_alike (n + 1) [x, y] = bd (g_law_alike (f_law_alike n) [some x, some y, none]) finF := rfl
  rw [e0]
  unfold g_law_alike
  have nx : isNon x = false := by rw [X]; rfl
  have ny : isNon y = false := by rw [Y]; rfl
  try simp! only [sFor, bd_assoc, isNW, nx, ny]
  refine Y.isi (b := false) (by decide) (by decide) ?_
  try simp! only [bd_assoc]
  refine Y.isi (b := false) (by decide) (by decide) ?_
  try simp! only [bd_assoc]
  refine Y.isi (b := false) (by decide) (by decide) ?_
  try simp! only [bd_assoc]
  refine Y.isi (b := true) (by decide) (by decide) ?_
  try simp! only [bd_assoc]
  refine X.isi (b := true) (by decide) (by decide) ?_
  try simp! only [bd_assoc]
  refine X.len ?_
  try simp! only [bd_assoc]
  refine Y.len ?_
  try simp! only [bd_assoc, el, eq_self, decide_true]
  refine Y.len ?_
  try simp! only [bd_assoc, rng1_int (i := (m.length : Int)) (by omega) (by omega)]
  refine ok_for (I := fun _ ρ h' => (∃ a, ρ = [some x, some y, a]) ∧ h' = h) ⟨⟨_, rfl⟩, rfl⟩ (fun _ _ _ _ => trivial) (fun i w ρ h' hw I => ?_) fun ρ h' I => ?_
  · obtain ⟨⟨a, rfl⟩, rfl⟩ := I
    obtain ⟨rfl, hi⟩ := ints_get _ _ _ _ hw
    have hm : i < m.length := by simpa using hi
    obtain ⟨b, eb⟩ : ∃ b, m[i]? = some b := ⟨_, List.getElem?_eq_getElem hm⟩
    obtain ⟨a, ea⟩ : ∃ a, l[i]? = some a := ⟨_, List.getElem?_eq_getElem (by omega)⟩
    have z : (0 : Int) + (i : Int) = (i : Int) := by omega
    refine ⟨_, rfl, ?_⟩
    rw [z]
    try simp! only [bd_assoc]
    refine X.ix (atI_nat ea) ?_
    try simp! only [bd_assoc]
    refine Y.ix (atI_nat eb) ?_
    try simp! only [bd_assoc]
    refine ok_bd (ih (A i a b ea eb)) fun w h2 ⟨e1, e2⟩ => ?_
    subst e1 e2
    try simp! only [bd_assoc]
    exact ok_pr ⟨_, rfl, ⟨_, rfl⟩, rfl⟩
  · obtain ⟨⟨a, rfl⟩, rfl⟩ := I
    try simp! only [bd_assoc]
    exact ok_pr ⟨rfl, rfl⟩
theorem al_lst {n : Nat} {h : List Ob} {x y : W} {l m : List W} (ih : ∀ {h : List Ob} {x y : W}, Al h n x y → Ok (f_law_alike n [x, y]) h fun w h' => w = .bl true ∧ h' = h) (X : Lw h x l) (Y : Lw h y m) (el : l.length = m.length) (ez : m.length ≤ 1000) (A : ∀ (i : Nat) (a b : W), l[i]? = some a → m[i]? = some b → Al h n a b) : Ok (f_law_alike (n + 1) [x, y]) h fun w h' => w = .bl true ∧ h' = h := by
  have e0 : f_law_alike (n + 1) [x, y] = bd (g_law_alike (f_law_alike n) [some x, some y, none]) finF := rfl
  rw [e0]
  unfold g_law_alike
  have nx : isNon x = false := by rcases X with rfl | ⟨_, rfl, _⟩ <;> rfl
  have ny : isNon y = false := by rcases Y with rfl | ⟨_, rfl, _⟩ <;> rfl
  try simp! only [sFor, bd_assoc, isNW, nx, ny]
  refine Y.isi (b := false) (by decide) (by decide) ?_
  try simp! only [bd_assoc]
  refine Y.isi (b := false) (by decide) (by decide) ?_
  try simp! only [bd_assoc]
  refine Y.isi (b := false) (by decide) (by decide) ?_
  try simp! only [bd_assoc]
  refine Y.isi (b := false) (by decide) (by decide) ?_
  try simp! only [bd_assoc]
  refine X.isi (b := true) (by decide) (by decide) ?_
  try simp! only [bd_assoc]
  refine X.len ?_
  try simp! only [bd_assoc]
  refine Y.len ?_
  try simp! only [bd_assoc, el, eq_self, decide_true]
  refine Y.len ?_
  try simp! only [bd_assoc, rng1_int (i := (m.length : Int)) (by omega) (by omega)]
  refine ok_for (I := fun _ ρ h' => (∃ a, ρ = [some x, some y, a]) ∧ h' = h) ⟨⟨_, rfl⟩, rfl⟩ (fun _ _ _ _ => trivial) (fun i w ρ h' hw I => ?_) fun ρ h' I => ?_
  · obtain ⟨⟨a, rfl⟩, rfl⟩ := I
    obtain ⟨rfl, hi⟩ := ints_get _ _ _ _ hw
    have hm : i < m.length := by simpa using hi
    obtain ⟨b, eb⟩ : ∃ b, m[i]? = some b := ⟨_, List.getElem?_eq_getElem hm⟩
    obtain ⟨a, ea⟩ : ∃ a, l[i]? = some a := ⟨_, List.getElem?_eq_getElem (by omega)⟩
    have z : (0 : Int) + (i : Int) = (i : Int) := by omega
    refine ⟨_, rfl, ?_⟩
    rw [z]
    try simp! only [bd_assoc]
    refine X.ix (atI_nat ea) ?_
    try simp! only [bd_assoc]
    refine Y.ix (atI_nat eb) ?_
    try simp! only [bd_assoc]
    refine ok_bd (ih (A i a b ea eb)) fun w h2 ⟨e1, e2⟩ => ?_
    subst e1 e2
    try simp! only [bd_assoc]
    exact ok_pr ⟨_, rfl, ⟨_, rfl⟩, rfl⟩
  · obtain ⟨⟨a, rfl⟩, rfl⟩ := I
    try simp! only [bd_assoc]
    exact ok_pr ⟨rfl, rfl⟩
theorem al_ok (n : Nat) : ∀ {h : List Ob} {x y : W}, Al h n x y → Ok (f_law_alike n [x, y]) h fun w h' => w = .bl true ∧ h' = h := by
  induction n with
  | zero => intro h x y A; exact A.elim
  | succ n ih =>
    intro h x y A
    rcases A with ⟨i, rfl, rfl⟩ | ⟨z, rfl, rfl⟩ | ⟨l, m, ⟨rfl, rfl⟩ | ⟨X, Y⟩, el, ez, A⟩
    · exact al_int
    · exact al_str
    · exact al_tup ih rfl rfl el ez A
    · exact al_lst ih X Y el ez A
theorem k_alike {β : Type} {h : List Ob} {k : W → M β} {Q : β → List Ob → Prop} {n : Nat} {x y : W} (A : Al h n x y) (q : Ok (k (.bl true)) h Q) : Ok (bd (f_law_alike n [x, y]) k) h Q :=
  ok_bd (al_ok n A) fun w h' ⟨e1, e2⟩ => by subst e1 e2; exact q
end Q
set_option maxHeartbeats 1000000
namespace Q
open PySem L2
local macro_rules | `(tactic| simp! only [$xs,*]) => `(tactic| try simp only [finF, sSeq, sIf, sRet, sSet, sNil, sEx, sPass, sBreak, sCont, sUnp, sStore, mB, L2.m2, L2.m1, L2.m3, mVar, mC, mCall, mCons, mNil, mTup, mTl, mNew, lenG, listL, mPart, mNoPart, mAnd, mOr, mNot, mAndV, mOrV, mNotV, mIf, mChain, mMeth, isS, mSrc, mSrcA, srcL, srcT, srcS, tgN, tgT, setW, mYes, bd_prN, bd_no, asB_bl, addW_int, subW_int, ltW_int, leW_int, gtW_int, geW_int, eqW_int, eqW_str, neW_int, neW_str, neW_bl, slW_tl, slW_cl, lenW_tl, lenW_tup, negW, List.set_cons_zero, List.set_cons_succ, List.getElem?_cons_zero, List.getElem?_cons_succ, List.length_cons, List.length_nil, arW, if_true, if_false, Bool.false_eq_true, ite_true, ite_false, reduceIte, decide_true, decide_false, Bool.not_true, Bool.not_false, gd_tt, gdn0, gdn1, gdn2, gdn3, gdn4, gdn5, gdn6, gdn7, gdn8, gdn9, gdn10, gdn11, gdn12, gdn13, gdn14, gdn15, gdn16, gdn17, gdn18, gdn19, gdn20, gdn21, gdn22, gdn23, gdn24, $xs,*])
def LT : Str := "abcdefghijklmnopqrstuvwxyz"
def wds : List Str := ["box", "block", "put", "say", "ask", "go", "if", "else", "table", "stop"]
def menu : List Str := ["", "", "zz", "qrst", "box", "block", "put", "say", "ask", "go", "if", "else", "table", "stop"]
def mkS (l : List Nat) : Str := ⟨l.toArray⟩
theorem mkS_cps (l : List Nat) : (mkS l).cps.toList = l := by simp [mkS]
theorem mkS_len (l : List Nat) : (mkS l).length = l.length := by show l.toArray.size = _; simp
theorem mkS_of (z : Str) : mkS z.cps.toList = z := by cases z; simp [mkS]
theorem mkS_app (a b : List Nat) : mkS a ++ mkS b = mkS (a ++ b) := by
  show (⟨a.toArray ++ b.toArray⟩ : Str) = ⟨(a ++ b).toArray⟩
  rw [List.append_toArray]
theorem mkS_inj {a b : List Nat} (h : mkS a = mkS b) : a = b := by rw [← mkS_cps a, h, mkS_cps]
structure Nm (z : Str) : Prop where
  len : z.length ≤ 20
  sm : ∀ c ∈ z.cps.toList, c < 128
theorem menu_ok : ∀ z ∈ menu, z.length ≤ 5 ∧ ∀ c ∈ z.cps.toList, c < 128 := by decide +kernel
theorem find_let : ∀ i : Fin 26, Txt.find LT ⟨#[97 + i.val]⟩ = (i.val : Int) := by decide +kernel
theorem lt_list : LT.cps.toList = List.range' 97 26 := by decide +kernel
theorem lt_len : LT.length = 26 := by decide +kernel
theorem lt_at {i : Int} (h0 : 0 ≤ i) (h1 : i < 26) : atI LT.cps.toList i = some (97 + i.toNat) := by
  refine atI_ofW h0 ?_
  rw [lt_list, List.getElem?_range' (by omega)]
  simp
theorem sz {n : Nat} (h : n ≤ 100000) : n ≤ sizeLine := Nat.le_trans h (by decide)
theorem maxW_int (i j : Int) : maxW [.int i, .int j] = pr (.int (if j > i then j else i)) := rfl
theorem lstO_tl (l : List W) : lstO (.tl l) = pr l := rfl
theorem gdw {α : Type} (m : M α) : gd (0 + 1 + 1 + 1 + 1 + (wds.map W.str).length ≤ sizeLine) m = m := gd_pos (by decide)
def envN (j kn : Nat) (a b c : Option W) : Env' := [some (.loc j), some (.int 5), some (.str LT), some (.tl (wds.map W.str)), some (.loc kn), a, b, c]
def nmS (p : List Nat) (q : Nat) : Str := mkS (p ++ [97 + q % 26])
def badN (p : List Nat) (zs : List Str) (q : Nat) : Prop := nmS p q ∈ zs ∨ nmS p q ∈ wds
noncomputable def tN : Env' → M Bool := (mOr (mB (L2.m2 inW (mVar 6) (mVar 4))) (mB (L2.m2 inW (mVar 6) (mVar 3))))
noncomputable def bN : Env' → M Fl := (sSet 6 (L2.m2 addW (m3 slW (mVar 6) mNoPart (mPart (m1 negW (mC (.int 1))))) (L2.m2 ixW (mVar 2) (L2.m2 modW (L2.m2 addW (mMeth isS findW (mVar 2) (mCons (L2.m2 ixW (mVar 6) (m1 negW (mC (.int 1)))) mNil)) (mC (.int 1))) (mC (.int 26))))))
theorem tN_ok {h : List Ob} {j kn : Nat} {a c : Option W} {zs : List Str} {z : Str} (e : h[kn]? = some (.lst (zs.map W.str))) : Ok (tN (envN j kn a (some (.str z)) c)) h fun b h' => (b = true ↔ (z ∈ zs ∨ z ∈ wds)) ∧ h' = h := by
  unfold tN
  try simp! only [envN, bd_assoc]
  refine ok_in e ?_
  by_cases m1 : z ∈ zs
  · try simp! only [bd_assoc, decide_eq_true m1]
    exact ok_pr ⟨⟨fun _ => .inl m1, fun _ => rfl⟩, rfl⟩
  · try simp! only [bd_assoc, decide_eq_false m1, in_strs]
    refine ok_pr ⟨⟨fun q => .inr (of_decide_eq_true q), fun q => decide_eq_true (q.resolve_left m1)⟩, rfl⟩
theorem bN_ok {h : List Ob} {j kn : Nat} {a c : Option W} {p : List Nat} {q : Nat} (hp : p.length ≤ 30) : Ok (bN (envN j kn a (some (.str (nmS p q))) c)) h fun x h' => x = .nx (envN j kn a (some (.str (nmS p (q + 1)))) c) ∧ h' = h := by
  have hl : (nmS p q).length = p.length + 1 := by unfold nmS; rw [mkS_len]; simp
  have hz : (nmS p q).length ≤ sizeLine := sz (by omega)
  have sl : StrLaws.sliceText (nmS p q) none (some (-1)) = mkS p := by
    rw [StrLaws.sliceText_to_neg (by decide) (by omega), hl]
    unfold nmS
    rw [mkS_cps, List.drop_zero, show (-1 + ((p.length + 1 : Nat) : Int) - 0).toNat = p.length by omega, List.take_left' rfl]
    rfl
  have ixl : atI (nmS p q).cps.toList (-1) = some (97 + q % 26) := by unfold nmS; rw [mkS_cps]; exact atI_last _ _
  have fd : findW (.str LT) [.str ⟨#[97 + q % 26]⟩] = pr (.int ((q % 26 : Nat) : Int)) := by
    show pr (W.int (Txt.find LT ⟨#[97 + q % 26]⟩)) = _
    rw [find_let ⟨q % 26, Nat.mod_lt _ (by decide)⟩]
  have at1 : atI LT.cps.toList ((((q % 26 : Nat) : Int) + 1) % 26) = some (97 + (q + 1) % 26) := by
    rw [lt_at (by omega) (by omega)]
    congr 2
    omega
  have ad : mkS p ++ (⟨#[97 + (q + 1) % 26]⟩ : Str) = nmS p (q + 1) := mkS_app p [97 + (q + 1) % 26]
  have as : addW (.str (mkS p)) (.str ⟨#[97 + (q + 1) % 26]⟩) = pr (.str (nmS p (q + 1))) := by
    rw [addW_str (by rw [mkS_len]; show p.length + 1 ≤ _; exact sz (by omega)), ad]
  unfold bN
  try simp! only [envN, bd_assoc, slW_str hz, sl, ixW_str hz ixl, fd, modW_int (show (0 : Int) < 26 by decide), ixW_str (sz (Nat.le_trans (Nat.le_of_eq lt_len) (by decide))) at1, as]
  exact ok_pr ⟨rfl, rfl⟩
theorem while_ok {h : List Ob} {j kn : Nat} {a c : Option W} {zs : List Str} {p : List Nat} (e : h[kn]? = some (.lst (zs.map W.str))) (hp : p.length ≤ 30) : ∀ (r n q : Nat), r < n → (∀ i, i < r → badN p zs (q + i)) → ¬ badN p zs (q + r) →
    Ok (whileM tN bN n (envN j kn a (some (.str (nmS p q))) c)) h fun x h' => x = .nx (envN j kn a (some (.str (nmS p (q + r)))) c) ∧ h' = h
  | 0, n + 1, q, _, _, g => by
    unfold whileM
    refine ok_bd (tN_ok e) fun b h' ⟨hb, e2⟩ => ?_
    subst e2
    have : b = false := by
      cases b with
      | false => rfl
      | true => exact absurd (hb.mp rfl) g
    subst this
    exact ok_pr ⟨rfl, rfl⟩
  | r + 1, n + 1, q, hr, b, g => by
    unfold whileM
    refine ok_bd (tN_ok e) fun t h' ⟨hb, e2⟩ => ?_
    subst e2
    have : t = true := hb.mpr (b 0 (by omega))
    subst this
    rw [if_pos rfl]
    refine ok_bd (bN_ok hp) fun x h2 ⟨e3, e4⟩ => ?_
    subst e3 e4
    have := while_ok (j := j) (a := a) (c := c) e hp r n (q + 1) (by omega) (fun i hi => by have := b (i + 1) (by omega); rwa [show q + 1 + i = q + (i + 1) by omega]) (by rwa [show q + 1 + r = q + (r + 1) by omega])
    rw [show q + 1 + r = q + (r + 1) by omega] at this
    exact this
theorem good_ex (p : List Nat) (zs : List Str) (q : Nat) (hz : zs.length ≤ 13) : ∃ r, r < 26 ∧ ¬ badN p zs (q + r) := by
  by_cases H : ∃ r, r < 26 ∧ ¬ badN p zs (q + r)
  · exact H
  · exfalso
    have all : ∀ r, r < 26 → badN p zs (q + r) := fun r hr => Classical.byContradiction fun n => H ⟨r, hr, n⟩
    have nd : ((List.range 26).map fun r => nmS p (q + r)).Nodup := by
      show List.Pairwise (· ≠ ·) _
      rw [List.pairwise_map]
      refine List.Pairwise.imp_of_mem (R := (· ≠ ·)) (fun {a b} ha hb hn he => hn ?_) List.nodup_range
      have ha := List.mem_range.mp ha
      have hb := List.mem_range.mp hb
      have h1 := mkS_inj he
      have h2 := List.append_cancel_left h1
      have h3 := (List.cons.inj h2).1
      omega
    have := nodup_len _ (zs ++ wds) nd fun x hx => by
      obtain ⟨r, hr, rfl⟩ := List.mem_map.mp hx
      exact List.mem_append.mpr (all r (List.mem_range.mp hr))
    rw [List.length_map, List.length_range, List.length_append] at this
    have hw : wds.length = 10 := rfl
    omega
theorem Nm.nmS {p : List Nat} {q : Nat} (hp : p.length ≤ 19) (h : ∀ c ∈ p, c < 128) : Nm (nmS p q) := ⟨by unfold Q.nmS; rw [mkS_len]; simp; omega, fun c hc => by
  unfold Q.nmS at hc
  rw [mkS_cps, List.mem_append] at hc
  rcases hc with hc | hc
  · exact h c hc
  · have : c = 97 + q % 26 := by simpa using hc
    omega⟩
theorem names_ok {h : List Ob} {j : Nat} (R : Reel h j) : Ok (f_law_names [.loc j, .int 5]) h fun w _ => ∃ zs : List Str, w = .tl (zs.map W.str) ∧ zs.length = 5 ∧ ∀ z ∈ zs, Nm z := by
  have e0 : f_law_names [.loc j, .int 5] = bd (g_law_names [some (.loc j), some (.int 5), none, none, none, none, none, none]) finF := rfl
  have hj : j ≠ h.length := by obtain ⟨_, _, e⟩ := R; exact Nat.ne_of_lt (get_lt e)
  rw [e0]
  unfold g_law_names
  try simp! only [bd_assoc]
  refine ok_new ?_
  try simp! only [sFor, bd_assoc, rng1_int (show (-(2 ^ 62) : Int) ≤ 5 by decide) (show (5 : Int) < 2 ^ 62 by decide)]
  refine ok_for (I := fun i ρ h' => ∃ a b c zs, ρ = envN j h.length a b c ∧ Reel h' j ∧ h'[h.length]? = some (.lst (zs.map W.str)) ∧ zs.length = i ∧ ∀ z ∈ zs, Nm z) ⟨none, none, none, [], rfl, ⟨_, _, get_app R.choose_spec.choose_spec⟩, get_end, rfl, by simp⟩ (fun _ _ _ _ => trivial) (fun i w ρ h1 hw I => ?_) fun ρ h1 I => ?_
  · obtain ⟨a, b, c, zs, rfl, R1, ez, el, hzs⟩ := I
    obtain ⟨rfl, hi⟩ := ints_get _ _ _ _ hw
    have hi : i < 5 := hi
    refine ⟨_, rfl, ?_⟩
    try simp! only [envN, bd_assoc, catL, lstO_tl, gdw]
    refine k_take R1 (by decide) (by decide) fun v h2 v0 v1 K2 => ?_
    obtain ⟨z, hz, e1⟩ : ∃ z ∈ menu, atI ([W.str "", W.str "", W.str "zz", W.str "qrst"] ++ wds.map W.str) v = some (.str z) := by
      obtain ⟨y, hy, e⟩ := atI_exW (l := menu.map W.str) v0 v1
      obtain ⟨z, hz, rfl⟩ := List.mem_map.mp hy
      exact ⟨z, hz, e⟩
    obtain ⟨zl, zc⟩ := menu_ok z hz
    try simp! only [sFor, bd_assoc, ixW_tl e1, lenW_str (sz (Nat.le_trans zl (by decide))), maxW_int]
    obtain ⟨mx, hmx⟩ : ∃ mx : Int, (if (z.length : Int) > 4 then (z.length : Int) else 4) = mx := ⟨_, rfl⟩
    have m0 : 4 ≤ mx ∧ mx ≤ 5 := by rw [← hmx]; split <;> omega
    rw [hmx]
    try simp! only [bd_assoc]
    refine k_take K2.re (by omega) (Int.lt_of_le_of_lt (show 8 - mx ≤ 4 by omega) (by decide)) fun v2 h3 v20 v21 K3 => ?_
    try simp! only [sFor, bd_assoc, rng1_int (show (-(2 ^ 62) : Int) ≤ 1 + v2 by omega) (show (1 + v2 : Int) < 2 ^ 62 by omega)]
    have K13 : Kp j h1 h3 := K2.trans K3
    refine ok_for (I := fun n ρ h' => ∃ l c, ρ = envN j h.length (some (.int (0 + (i : Int)))) (some (.str (mkS l))) c ∧ Kp j h1 h' ∧ l.length ≤ 5 + n ∧ (∀ c ∈ l, c < 128) ∧ (0 < n → ∃ p q, l = p ++ [97 + q] ∧ q < 26)) ⟨z.cps.toList, c, by rw [mkS_of]; rfl, K13, by rw [show z.cps.toList.length = z.length by simp [Str.length]]; exact zl, zc, fun n => absurd n (Nat.lt_irrefl _)⟩ (fun _ _ _ _ => trivial) (fun n w ρ h4 hw I => ?_) fun ρ h4 I => ?_
    · obtain ⟨l, c, rfl, K4, ll, lc, _⟩ := I
      obtain ⟨rfl, hn⟩ := ints_get _ _ _ _ hw
      refine ⟨_, rfl, ?_⟩
      try simp! only [envN, bd_assoc]
      refine k_take K4.re (by decide) (by decide) fun v5 h5 v50 v51 K5 => ?_
      have as : addW (.str (mkS l)) (.str ⟨#[97 + v5.toNat]⟩) = pr (.str (mkS (l ++ [97 + v5.toNat]))) := by
        rw [addW_str (by rw [mkS_len]; show l.length + 1 ≤ _; exact sz (by omega))]
        exact congrArg (fun x => pr (W.str x)) (mkS_app l [97 + v5.toNat])
      try simp! only [bd_assoc, ixW_str (sz (Nat.le_trans (Nat.le_of_eq lt_len) (by decide))) (lt_at v50 v51), as]
      refine ok_pr ⟨_, rfl, l ++ [97 + v5.toNat], _, rfl, K4.trans K5, by rw [List.length_append]; show l.length + 1 ≤ _; omega, fun c hc => ?_, fun _ => ⟨l, v5.toNat, rfl, by omega⟩⟩
      rcases List.mem_append.mp hc with hc | hc
      · exact lc c hc
      · have : c = 97 + v5.toNat := by simpa using hc
        omega
    · obtain ⟨l, c, rfl, K4, ll, lc, lq⟩ := I
      rw [ints_len] at ll lq
      obtain ⟨p, q, rfl, hq⟩ := lq (by omega)
      have hp : p.length ≤ 19 := by
        rw [List.length_append] at ll
        have : [97 + q].length = 1 := rfl
        omega
      have ez4 : h4[h.length]? = some (.lst (zs.map W.str)) := (K4.fr.eq _ (Ne.symm hj)).trans ez
      obtain ⟨r, hr, hg, hb⟩ := least (good_ex p zs q (by omega))
      have ee : mkS (p ++ [97 + q]) = nmS p q := by unfold nmS; rw [Nat.mod_eq_of_lt hq]
      rw [ee]
      try simp! only [bd_assoc]
      refine ok_bd (while_ok (a := some (.int (0 + (i : Int)))) (c := c) ez4 (by omega) r 30 q (by omega) (fun i hi => Classical.byContradiction (hb i hi)) hg) fun x h5 ⟨e3, e4⟩ => ?_
      subst e3 e4
      try simp! only [envN, bd_assoc]
      refine ok_isL ez4 ?_
      try simp! only [bd_assoc]
      refine ok_app ez4 (by rw [List.length_map]; exact Nat.lt_of_le_of_lt (show zs.length ≤ 5 by omega) (by decide)) ?_
      try simp! only [bd_assoc]
      have hK := K4.re
      obtain ⟨a', b', e5⟩ := hK
      refine ok_pr ⟨_, rfl, _, _, _, zs ++ [nmS p (q + r)], rfl, ⟨a', b', by rw [List.getElem?_set_ne (Ne.symm hj)]; exact e5⟩, ?_, by rw [List.length_append, el]; rfl, fun y hy => ?_⟩
      · rw [set_get ez4, List.map_append]; rfl
      · rcases List.mem_append.mp hy with hy | hy
        · exact hzs y hy
        · have : y = nmS p (q + r) := by simpa using hy
          rw [this]
          exact Nm.nmS hp fun c hc => lc c (List.mem_append.mpr (.inl hc))
  · obtain ⟨a, b, c, zs, rfl, R1, ez, el, hzs⟩ := I
    try simp! only [envN, bd_assoc]
    refine ok_ice ez ?_
    try simp! only [bd_assoc]
    exact ok_pr ⟨zs, rfl, by rw [el, ints_len]; rfl, hzs⟩
end Q
set_option maxHeartbeats 1000000
namespace Q
open PySem L2
local macro_rules | `(tactic| simp! only [$xs,*]) => `(tactic| try simp only [finF, sSeq, sIf, sRet, sSet, sNil, sEx, sPass, sBreak, sCont, sUnp, sStore, mB, L2.m2, L2.m1, L2.m3, mVar, mC, mCall, mCons, mNil, mTup, mTl, mNew, lenG, listL, mPart, mNoPart, mAnd, mOr, mNot, mAndV, mOrV, mNotV, mIf, mChain, mMeth, isS, mSrc, mSrcA, srcL, srcT, srcS, tgN, tgT, setW, mYes, bd_prN, bd_no, asB_bl, addW_int, subW_int, ltW_int, leW_int, gtW_int, geW_int, eqW_int, eqW_str, neW_int, neW_str, neW_bl, slW_tl, slW_cl, lenW_tl, lenW_tup, negW, List.set_cons_zero, List.set_cons_succ, List.getElem?_cons_zero, List.getElem?_cons_succ, List.length_cons, List.length_nil, arW, if_true, if_false, Bool.false_eq_true, ite_true, ite_false, reduceIte, decide_true, decide_false, Bool.not_true, Bool.not_false, gd_tt, gdn0, gdn1, gdn2, gdn3, gdn4, gdn5, gdn6, gdn7, gdn8, gdn9, gdn10, gdn11, gdn12, gdn13, gdn14, gdn15, gdn16, gdn17, gdn18, gdn19, gdn20, gdn21, gdn22, gdn23, gdn24, $xs,*])
def bxW (p : Str × Int) : W := .tup [.str p.1, .int p.2]
structure Bx (ps : List (Str × Int)) : Prop where
  len : ps.length ≤ 4
  nm : ∀ p ∈ ps, Nm p.1
theorem canS {z : Str} (h : ∀ c ∈ z.cps.toList, c < 128) : PyData.canLay0 (.str z) = true := by
  rw [PyData.canLay0]
  show z.cps.all (fun x => decide (x < 0x110000)) = true
  rw [← Array.all_toList, List.all_eq_true]
  intro c hc
  have := h c hc
  exact decide_eq_true (by omega)
theorem eq_bx0 {ps : List (Str × Int)} (B : Bx ps) (h : List Ob) : eqB (.tl (ps.map bxW)) (.tl []) h = some ps.isEmpty := by
  rw [eqB_lists (ds := ps.map fun p => PyData.tuple [.str p.1, .int p.2]) (es := []) (optL_mapD (f := dataH h 49) (g := bxW) (k := fun p => PyData.tuple [.str p.1, .int p.2]) (fun a => rfl) ps) rfl (canAll ps fun p hp => ?_) (by rw [PyData.canLayAll0])]
  · cases ps with
    | nil => rw [List.map_nil, PyData.eqvAll]; rfl
    | cons a b => rw [List.map_cons, PyData.eqvAll]; rfl
  · rw [PyData.canLay0, PyData.canLayAll0, canS (B.nm p hp).sm, PyData.canLayAll0, PyData.canLay0, PyData.canLayAll0]; rfl
theorem bx0 (p : Str × Int) : ixW (bxW p) (.int 0) = pr (.str p.1) := ixW_tup (l := [.str p.1, .int p.2]) rfl
theorem pd2 {a b : Str} {n : Nat} : Pd (n + 2) (.tup [.str a, .str b]) := .tup (by simp) fun x hx => by
  rcases List.mem_cons.mp hx with rfl | hx
  · exact .str
  · rw [List.mem_singleton.mp hx]; exact .str
theorem pd2i {a : Str} {i : Int} {n : Nat} : Pd (n + 2) (.tup [.str a, .int i]) := .tup (by simp) fun x hx => by
  rcases List.mem_cons.mp hx with rfl | hx
  · exact .str
  · rw [List.mem_singleton.mp hx]; exact .int
theorem pdT {l : List W} {n : Nat} (z : l.length ≤ 1000) (h : ∀ x ∈ l, Pd n x) : Pd (n + 1) (.tup l) := .tup z h
theorem pd_cons {n : Nat} {w : W} {l : List W} (h : Pd n w) (r : ∀ x ∈ l, Pd n x) : ∀ x ∈ w :: l, Pd n x := fun x hx => by
  rcases List.mem_cons.mp hx with rfl | hx
  · exact h
  · exact r x hx
theorem pd_nil {n : Nat} : ∀ x ∈ ([] : List W), Pd n x := fun x hx => absurd hx List.not_mem_nil
/-- the boxes: as they are handed on, or a place beside the reel -/
def Lb (h : List Ob) (j : Nat) (x : W) (ps : List (Str × Int)) : Prop := x = .tl (ps.map bxW) ∨ ∃ k, x = .loc k ∧ k ≠ j ∧ h[k]? = some (.lst (ps.map bxW))
section
variable {h h' : List Ob} {j : Nat} {x : W} {ps : List (Str × Int)}
theorem Lb.lw (L : Lb h j x ps) : Lw h x (ps.map bxW) := by
  rcases L with e | ⟨k, e, _, q⟩
  · exact .inl e
  · exact .inr ⟨k, e, q⟩
theorem Lb.kp (L : Lb h j x ps) (K : Kp j h h') : Lb h' j x ps := by
  rcases L with e | ⟨k, e, n, q⟩
  · exact .inl e
  · exact .inr ⟨k, e, n, (K.fr.eq k n).trans q⟩
theorem eq_bx (B : Bx ps) (L : Lb h j x ps) : eqB x (.tl []) h = some ps.isEmpty := by
  rcases L with rfl | ⟨i, rfl, _, e⟩
  · exact eq_bx0 B h
  · have o1 : optL (dataH h 49) (ps.map bxW) = some (ps.map fun p => PyData.tuple [.str p.1, .int p.2]) := optL_mapD (f := dataH h 49) (g := bxW) (k := fun p => PyData.tuple [.str p.1, .int p.2]) (fun a => rfl) ps
    have x1 : dataH h 50 (.loc i) = some (.list (ps.map fun p => PyData.tuple [.str p.1, .int p.2])) := by
      show (match h[i]? with
        | some (.lst l) => (optL (dataH h 49) l).map PyData.list
        | _ => none) = _
      simp only [e, o1]; rfl
    have ca : PyData.canLayAll0 (ps.map fun p => PyData.tuple [.str p.1, .int p.2]) = true := canAll ps fun p hp => by
      rw [PyData.canLay0, PyData.canLayAll0, canS (B.nm p hp).sm, PyData.canLayAll0, PyData.canLay0, PyData.canLayAll0]; rfl
    show (match dataH h 50 (.loc i), dataH h 50 (.tl []) with
      | some d, some e => if d.canLay0 = true ∧ e.canLay0 = true then some (PyData.eqv d e) else none
      | _, _ => none) = _
    rw [x1, show dataH h 50 (.tl []) = some (.list []) from rfl]
    show (if (PyData.list (ps.map fun p => PyData.tuple [.str p.1, .int p.2])).canLay0 = true ∧ (PyData.list []).canLay0 = true then some (PyData.eqv (.list (ps.map fun p => PyData.tuple [.str p.1, .int p.2])) (.list [])) else none) = _
    rw [if_pos ⟨by rw [PyData.canLay0]; exact ca, by rw [PyData.canLay0, PyData.canLayAll0]⟩, PyData.eqv]
    cases ps with
    | nil => rw [List.map_nil, PyData.eqvAll]; rfl
    | cons a b => rw [List.map_cons, PyData.eqvAll]; rfl
variable {β : Type} {k : W → M β} {Q : β → List Ob → Prop}
theorem ok_neB (B : Bx ps) (L : Lb h j x ps) (q : Ok (k (.bl (!ps.isEmpty))) h Q) : Ok (bd (neW x (.tl [])) k) h Q := by
  refine ok_bdo (a := .bl (!ps.isEmpty)) (h' := h) ?_ q
  unfold neW
  rw [eq_bx B L]
theorem ok_eqB (B : Bx ps) (L : Lb h j x ps) (q : Ok (k (.bl ps.isEmpty)) h Q) : Ok (bd (eqW x (.tl [])) k) h Q := by
  refine ok_bdo (a := .bl ps.isEmpty) (h' := h) ?_ q
  unfold eqW
  rw [eq_bx B L]
theorem ok_ixB {v : Int} (L : Lb h j x ps) (h0 : 0 ≤ v) (h1 : v < (ps.length : Int)) (q : ∀ p ∈ ps, Ok (k (bxW p)) h Q) : Ok (bd (ixW x (.int v)) k) h Q := by
  obtain ⟨y, hy, e⟩ := atI_exW (l := ps.map bxW) h0 (by rw [List.length_map]; exact h1)
  obtain ⟨p, hp, rfl⟩ := List.mem_map.mp hy
  exact L.lw.ix e (q p hp)
theorem ok_lenB (L : Lb h j x ps) (q : Ok (k (.int ps.length)) h Q) : Ok (bd (lenW [x]) k) h Q := L.lw.len (by rw [List.length_map]; exact q)
end
/-- expressions -/
inductive Xe
  | num (i : Int)
  | box (z : Str)
  | op (c : Str) (a b : Xe)
def Xe.w : Xe → W
  | .num i => .tup [.str "number", .int i]
  | .box z => .tup [.str "box", .str z]
  | .op c a b => .tup [.str c, a.w, b.w]
/-- over the boxes ns, at most n deep -/
def Xe.G (ns : List Str) : Nat → Xe → Prop
  | 0, _ => False
  | _ + 1, .num i => 0 ≤ i ∧ i < 1000
  | _ + 1, .box z => z ∈ ns
  | n + 1, .op c a b => (c = "+" ∨ c = "-" ∨ c = "*") ∧ a.G ns n ∧ b.G ns n
theorem Xe.G.mono {ns : List Str} : ∀ {n : Nat} {e : Xe}, e.G ns n → e.G ns (n + 1)
  | n + 1, .num i, p => p
  | n + 1, .box z, p => p
  | n + 1, .op c a b, p => ⟨p.1, p.2.1.mono, p.2.2.mono⟩
theorem Xe.G.up {ns : List Str} {n m : Nat} {e : Xe} (p : e.G ns n) (h : n ≤ m) : e.G ns m := by
  induction m with
  | zero =>
    have : n = 0 := by omega
    subst this; exact p
  | succ m ih =>
    by_cases z : n = m + 1
    · subst z; exact p
    · exact (ih (by omega)).mono
theorem Xe.G.pd {ns : List Str} : ∀ {n : Nat} {e : Xe}, e.G ns n → Pd (n + 1) e.w
  | n + 1, .num i, p => pd2i
  | n + 1, .box z, p => pd2
  | n + 1, .op c a b, p => pdT (n := n + 1) (by simp) (pd_cons .str (pd_cons p.2.1.pd (pd_cons p.2.2.pd pd_nil)))
theorem sg3 {v : Int} (h0 : 0 ≤ v) (h1 : v < 3) : ∃ s : Str, ixW (.str "+-*") (.int v) = pr (.str s) ∧ (s = "+" ∨ s = "-" ∨ s = "*") := by
  have : v = 0 ∨ v = 1 ∨ v = 2 := by omega
  rcases this with rfl | rfl | rfl
  · exact ⟨"+", ixW_str (sz (by decide +kernel)) (c := 43) (by decide +kernel), .inl rfl⟩
  · exact ⟨"-", ixW_str (sz (by decide +kernel)) (c := 45) (by decide +kernel), .inr (.inl rfl)⟩
  · exact ⟨"*", ixW_str (sz (by decide +kernel)) (c := 42) (by decide +kernel), .inr (.inr rfl)⟩
theorem sg2 {v : Int} (h0 : 0 ≤ v) (h1 : v < 2) : ∃ s : Str, ixW (.str "+-") (.int v) = pr (.str s) ∧ (s = "+" ∨ s = "-" ∨ s = "*") := by
  have : v = 0 ∨ v = 1 := by omega
  rcases this with rfl | rfl
  · exact ⟨"+", ixW_str (sz (by decide +kernel)) (c := 43) (by decide +kernel), .inl rfl⟩
  · exact ⟨"-", ixW_str (sz (by decide +kernel)) (c := 45) (by decide +kernel), .inr (.inl rfl)⟩
/-- statements -/
inductive Sm
  | say (e : Xe)
  | ask (z : Str)
  | put (z : Str) (e : Xe)
def Sm.w : Sm → W
  | .say e => .tup [.str "say", e.w]
  | .ask z => .tup [.str "ask", .str z]
  | .put z e => .tup [.str "put", .str z, e.w]
def Sm.G (ns : List Str) : Sm → Prop
  | .say e => e.G ns 6
  | .ask z => z ∈ ns
  | .put z e => z ∈ ns ∧ e.G ns 6
theorem Sm.G.pd {ns : List Str} : ∀ {s : Sm}, s.G ns → Pd 9 s.w
  | .say e, p => (pdT (n := 7) (by simp) (pd_cons .str (pd_cons (Xe.G.pd p) pd_nil))).up (by decide)
  | .ask z, _ => pd2
  | .put z e, p => (pdT (n := 7) (by simp) (pd_cons .str (pd_cons .str (pd_cons p.2.pd pd_nil)))).up (by decide)
section
variable {ps : List (Str × Int)} (B : Bx ps)
include B
theorem leaf_ok {h : List Ob} {j : Nat} {x : W} (R : Reel h j) (L : Lb h j x ps) : Ok (f_law_leaf [.loc j, x]) h fun w h' => (∃ e : Xe, w = e.w ∧ e.G (ps.map (·.1)) 1) ∧ Kp j h h' := by
  have e0 : f_law_leaf [.loc j, x] = bd (g_law_leaf [some (.loc j), some x, none]) finF := rfl
  rw [e0]
  unfold g_law_leaf
  have num : ∀ {v8 : Int}, 0 ≤ v8 → v8 < 3 → ∃ m : Int, 0 < m ∧ m ≤ 1000 ∧ atI [W.int 3, W.int 10, W.int 1000] v8 = some (.int m) := fun {v8} v80 v81 => by
    obtain ⟨y, hy, e⟩ := atI_exW (l := ([3, 10, 1000] : List Int).map W.int) v80 v81
    obtain ⟨m, hm, rfl⟩ := List.mem_map.mp hy
    have a : ∀ m ∈ ([3, 10, 1000] : List Int), 0 < m ∧ m ≤ 1000 := by decide
    exact ⟨m, (a m hm).1, (a m hm).2, e⟩
  try simp! only [bd_assoc]
  refine ok_neB B L ?_
  cases hp : ps.isEmpty with
  | true =>
    try simp! only [bd_assoc]
    refine k_take R (by decide) (by decide) fun v8 h8 v80 v81 K8 => ?_
    obtain ⟨m, m0, m1, em⟩ := num v80 v81
    try simp! only [bd_assoc, ixW_tl em]
    refine k_take K8.re m0 (Int.lt_of_le_of_lt m1 (by decide)) fun v9 h9 v90 v91 K9 => ?_
    try simp! only [bd_assoc]
    exact ok_pr ⟨⟨.num v9, rfl, v90, by omega⟩, K8.trans K9⟩
  | false =>
    try simp! only [bd_assoc]
    refine k_take R (by decide) (by decide) fun v1 h1 v10 v11 K1 => ?_
    by_cases hv : 0 < v1
    · have hl : 0 < ps.length := List.length_pos_iff.mpr fun z => by rw [z] at hp; cases hp
      have b4 := B.len
      try simp! only [bd_assoc, decide_eq_true hv]
      refine ok_lenB (L.kp K1) ?_
      try simp! only [bd_assoc]
      refine k_take K1.re (by omega) (Int.lt_of_le_of_lt (show (ps.length : Int) ≤ 4 by omega) (by decide)) fun v2 h2 v20 v21 K2 => ?_
      refine ok_ixB ((L.kp K1).kp K2) v20 v21 fun p hp => ?_
      try simp! only [bd_assoc, bx0]
      exact ok_pr ⟨⟨.box p.1, rfl, List.mem_map.mpr ⟨p, hp, rfl⟩⟩, K1.trans K2⟩
    · try simp! only [bd_assoc, decide_eq_false hv]
      refine k_take K1.re (by decide) (by decide) fun v8 h8 v80 v81 K8 => ?_
      obtain ⟨m, m0, m1, em⟩ := num v80 v81
      try simp! only [bd_assoc, ixW_tl em]
      refine k_take K8.re m0 (Int.lt_of_le_of_lt m1 (by decide)) fun v9 h9 v90 v91 K9 => ?_
      try simp! only [bd_assoc]
      exact ok_pr ⟨⟨.num v9, rfl, v90, by omega⟩, K1.trans (K8.trans K9)⟩
theorem tree_ok (n : Nat) : ∀ {h : List Ob} {j : Nat} {x : W} {m : Int}, n ≤ 6 → 1 ≤ m → m ≤ n → Reel h j → Lb h j x ps → Ok (f_law_tree n [.loc j, x, .int m]) h fun w h' => (∃ e : Xe, w = e.w ∧ e.G (ps.map (·.1)) m.toNat) ∧ Kp j h h' := by
  induction n with
  | zero => intro h j x m z a b R L; omega
  | succ n ih =>
    intro h j x m z a b R L
    have e0 : f_law_tree (n + 1) [.loc j, x, .int m] = bd (g_law_tree (f_law_tree n) [some (.loc j), some x, some (.int m), none, none, none, none]) finF := rfl
    rw [e0]
    unfold g_law_tree
    by_cases hm : m < 2
    · try simp! only [bd_assoc, decide_eq_true hm]
      refine ok_bd (leaf_ok B R L) fun w h1 ⟨⟨e, ew, p⟩, K⟩ => ?_
      subst ew
      try simp! only [bd_assoc]
      exact ok_pr ⟨⟨e, rfl, p.up (by omega)⟩, K⟩
    · try simp! only [bd_assoc, decide_eq_false hm]
      refine k_take R (by omega) (Int.lt_of_le_of_lt (show m - 1 ≤ 6 by omega) (by decide)) fun v1 h1 v10 v11 K1 => ?_
      try simp! only [bd_assoc]
      refine k_take K1.re (by decide) (by decide) fun v2 h2 v20 v21 K2 => ?_
      obtain ⟨c, ec, hc⟩ := sg3 v20 v21
      have Lk2 := (L.kp K1).kp K2
      try simp! only [bd_assoc, ec]
      refine ok_bd (ih (m := 1 + v1) (by omega) (by omega) (by omega) K2.re Lk2) fun w1 h3 ⟨⟨e1, q1, p1⟩, K3⟩ => ?_
      subst q1
      try simp! only [bd_assoc]
      refine ok_bd (ih (m := m - (1 + v1)) (by omega) (by omega) (by omega) K3.re (Lk2.kp K3)) fun w2 h4 ⟨⟨e2, q2, p2⟩, K4⟩ => ?_
      subst q2
      try simp! only [bd_assoc]
      exact ok_pr ⟨⟨.op c e1 e2, rfl, by obtain ⟨q, hq⟩ : ∃ q, m.toNat = q + 1 := ⟨m.toNat - 1, by omega⟩; rw [hq]; exact ⟨hc, p1.up (by omega), p2.up (by omega)⟩⟩, K1.trans (K2.trans (K3.trans K4))⟩
theorem k_tree {β : Type} {h : List Ob} {k : W → M β} {Q : β → List Ob → Prop} {j : Nat} {x : W} {m : Int} (R : Reel h j) (L : Lb h j x ps) (a : 1 ≤ m) (b : m ≤ 6) (q : ∀ (e : Xe) h', e.G (ps.map (·.1)) m.toNat → Kp j h h' → Ok (k e.w) h' Q) : Ok (bd (f_law_tree 6 [.loc j, x, .int m]) k) h Q :=
  ok_bd (tree_ok B 6 (Nat.le_refl _) a b R L) fun w h' ⟨⟨e, ew, p⟩, K⟩ => by subst ew; exact q e h' p K
theorem stm_ok {h : List Ob} {j : Nat} {x : W} (R : Reel h j) (L : Lb h j x ps) : Ok (f_law_statement [.loc j, x]) h fun w h' => (∃ s : Sm, w = s.w ∧ s.G (ps.map (·.1))) ∧ Kp j h h' := by
  have e0 : f_law_statement [.loc j, x] = bd (g_law_statement [some (.loc j), some x, none, none, none]) finF := rfl
  rw [e0]
  unfold g_law_statement
  try simp! only [bd_assoc]
  refine k_take R (by decide) (by decide) fun v1 h1 v10 v11 K1 => ?_
  have L1 := L.kp K1
  refine ok_eqB B L1 ?_
  cases hp : ps.isEmpty with
  | true =>
    try simp! only [bd_assoc]
    refine k_take K1.re (by decide) (by decide) fun v8 h8 v80 v81 K8 => ?_
    try simp! only [bd_assoc]
    refine k_tree B K8.re (L1.kp K8) (by omega) (by omega) fun w9 h9 p9 K9 => ?_
    try simp! only [bd_assoc]
    exact ok_pr ⟨⟨.say w9, rfl, Xe.G.up p9 (by omega)⟩, K1.trans (K8.trans K9)⟩
  | false =>
    have hl : 0 < ps.length := List.length_pos_iff.mpr fun z => by rw [z] at hp; cases hp
    have b4 := B.len
    by_cases h3 : v1 < 3
    · try simp! only [bd_assoc, decide_eq_true h3]
      refine k_take K1.re (by decide) (by decide) fun v8 h8 v80 v81 K8 => ?_
      try simp! only [bd_assoc]
      refine k_tree B K8.re (L1.kp K8) (by omega) (by omega) fun w9 h9 p9 K9 => ?_
      try simp! only [bd_assoc]
      exact ok_pr ⟨⟨.say w9, rfl, Xe.G.up p9 (by omega)⟩, K1.trans (K8.trans K9)⟩
    · try simp! only [bd_assoc, decide_eq_false h3]
      refine ok_lenB L1 ?_
      try simp! only [bd_assoc]
      refine k_take K1.re (by omega) (Int.lt_of_le_of_lt (show (ps.length : Int) ≤ 4 by omega) (by decide)) fun v2 h2 v20 v21 K2 => ?_
      have Lk2 := L1.kp K2
      refine ok_ixB Lk2 v20 v21 fun p hp => ?_
      by_cases h5 : v1 < 5
      · try simp! only [bd_assoc, bx0, decide_eq_true h5]
        exact ok_pr ⟨⟨.ask p.1, rfl, List.mem_map.mpr ⟨p, hp, rfl⟩⟩, K1.trans K2⟩
      · try simp! only [bd_assoc, bx0, decide_eq_false h5]
        refine ok_lenB Lk2 ?_
        try simp! only [bd_assoc]
        refine k_take K2.re (by omega) (Int.lt_of_le_of_lt (show (ps.length : Int) ≤ 4 by omega) (by decide)) fun v3 h4 v30 v31 K3 => ?_
        have L3 := Lk2.kp K3
        refine ok_ixB L3 v30 v31 fun p2 hp2 => ?_
        by_cases h6 : v1 = 5
        · try simp! only [bd_assoc, bx0, decide_eq_true h6]
          refine k_take K3.re (by decide) (by decide) fun v4 h5 v40 v41 K4 => ?_
          obtain ⟨c, ec, hc⟩ := sg2 v40 v41
          try simp! only [bd_assoc, ec]
          refine k_take K4.re (by decide) (by decide) fun v5 h6 v50 v51 K5 => ?_
          try simp! only [bd_assoc]
          exact ok_pr ⟨⟨.put p.1 (.op c (.box p2.1) (.num v5)), rfl, List.mem_map.mpr ⟨p, hp, rfl⟩, Xe.G.up (n := 2) ⟨hc, List.mem_map.mpr ⟨p2, hp2, rfl⟩, v50, by omega⟩ (by decide)⟩, K1.trans (K2.trans (K3.trans (K4.trans K5)))⟩
        · try simp! only [bd_assoc, bx0, decide_eq_false h6]
          refine k_take K3.re (by decide) (by decide) fun v8 h8 v80 v81 K8 => ?_
          try simp! only [bd_assoc]
          refine k_tree B K8.re (L3.kp K8) (by omega) (by omega) fun w9 h9 p9 K9 => ?_
          try simp! only [bd_assoc]
          exact ok_pr ⟨⟨.put p.1 w9, rfl, List.mem_map.mpr ⟨p, hp, rfl⟩, p9.up (by omega)⟩, K1.trans (K2.trans (K3.trans (K8.trans K9)))⟩
end
end Q
set_option maxHeartbeats 1000000
namespace Q
open PySem L2
local macro_rules | `(tactic| simp! only [$xs,*]) => `(tactic| try simp only [finF, sSeq, sIf, sRet, sSet, sNil, sEx, sPass, sBreak, sCont, sUnp, sStore, mB, L2.m2, L2.m1, L2.m3, mVar, mC, mCall, mCons, mNil, mTup, mTl, mNew, lenG, listL, mPart, mNoPart, mAnd, mOr, mNot, mAndV, mOrV, mNotV, mIf, mChain, mMeth, isS, mSrc, mSrcA, srcL, srcT, srcS, tgN, tgT, setW, mYes, bd_prN, bd_no, asB_bl, addW_int, subW_int, ltW_int, leW_int, gtW_int, geW_int, eqW_int, eqW_str, neW_int, neW_str, neW_bl, slW_tl, slW_cl, lenW_tl, lenW_tup, negW, List.set_cons_zero, List.set_cons_succ, List.getElem?_cons_zero, List.getElem?_cons_succ, List.length_cons, List.length_nil, arW, if_true, if_false, Bool.false_eq_true, ite_true, ite_false, reduceIte, decide_true, decide_false, Bool.not_true, Bool.not_false, gd_tt, gdn0, gdn1, gdn2, gdn3, gdn4, gdn5, gdn6, gdn7, gdn8, gdn9, gdn10, gdn11, gdn12, gdn13, gdn14, gdn15, gdn16, gdn17, gdn18, gdn19, gdn20, gdn21, gdn22, gdn23, gdn24, $xs,*])
/-- ends -/
inductive En
  | go (t : Nat)
  | iff (s : Str) (a b : Xe) (x y : Nat)
  | tab (e : Xe) (ts : List Nat)
  | stop
def nI (n : Nat) : W := .int n
def En.w : En → W
  | .go t => .tup [.str "go", nI t]
  | .iff s a b x y => .tup [.str "if", .str s, a.w, b.w, nI x, nI y]
  | .tab e ts => .tup [.str "table", e.w, .tup (ts.map nI)]
  | .stop => .tup [.str "stop"]
def En.G (ns : List Str) (m : Nat) : En → Prop
  | .go t => t < m
  | .iff s a b x y => (s = "<" ∨ s = "=") ∧ a.G ns 6 ∧ b.G ns 6 ∧ x < m ∧ y < m
  | .tab e ts => e.G ns 6 ∧ 1 ≤ ts.length ∧ ts.length ≤ 6 ∧ ∀ t ∈ ts, t < m
  | .stop => True
theorem En.G.pd {ns : List Str} {m : Nat} : ∀ {e : En}, e.G ns m → Pd 9 e.w
  | .go t, _ => pd2i
  | .iff s a b x y, p => pdT (n := 8) (by simp) (pd_cons .str (pd_cons .str (pd_cons (p.2.1.pd.up (by decide)) (pd_cons (p.2.2.1.pd.up (by decide)) (pd_cons .int (pd_cons .int pd_nil))))))
  | .tab e ts, p => pdT (n := 8) (by simp) (pd_cons .str (pd_cons (p.1.pd.up (by decide)) (pd_cons (pdT (n := 7) (by have := p.2.2.1; rw [List.length_map]; omega) fun x hx => by
      obtain ⟨i, _, rfl⟩ := List.mem_map.mp hx
      exact .int) pd_nil)))
  | .stop, _ => pdT (n := 8) (by simp) (pd_cons .str pd_nil)
end Q
set_option maxHeartbeats 1000000
namespace Q
open PySem L2
local macro_rules | `(tactic| simp! only [$xs,*]) => `(tactic| try simp only [finF, sSeq, sIf, sRet, sSet, sNil, sEx, sPass, sBreak, sCont, sUnp, sStore, mB, L2.m2, L2.m1, L2.m3, mVar, mC, mCall, mCons, mNil, mTup, mTl, mNew, lenG, listL, mPart, mNoPart, mAnd, mOr, mNot, mAndV, mOrV, mNotV, mIf, mChain, mMeth, isS, mSrc, mSrcA, srcL, srcT, srcS, tgN, tgT, setW, mYes, bd_prN, bd_no, asB_bl, addW_int, subW_int, ltW_int, leW_int, gtW_int, geW_int, eqW_int, eqW_str, neW_int, neW_str, neW_bl, slW_tl, slW_cl, lenW_tl, lenW_tup, negW, List.set_cons_zero, List.set_cons_succ, List.getElem?_cons_zero, List.getElem?_cons_succ, List.length_cons, List.length_nil, arW, if_true, if_false, Bool.false_eq_true, ite_true, ite_false, reduceIte, decide_true, decide_false, Bool.not_true, Bool.not_false, gd_tt, gdn0, gdn1, gdn2, gdn3, gdn4, gdn5, gdn6, gdn7, gdn8, gdn9, gdn10, gdn11, gdn12, gdn13, gdn14, gdn15, gdn16, gdn17, gdn18, gdn19, gdn20, gdn21, gdn22, gdn23, gdn24, $xs,*])
/-! the boxes' values -/
abbrev Sto := List (Str × Int)
def kz (σ : Sto) : List Key := σ.map fun p => .inr p.1
def vz (σ : Sto) : List W := σ.map fun p => .int p.2
def rd : Sto → Str → Option Int
  | [], _ => none
  | p :: σ, z => if p.1 = z then some p.2 else rd σ z
def wr (σ : Sto) (z : Str) (v : Int) : Sto := if (σ.any fun p => decide (p.1 = z)) = true then σ.map (fun p => if p.1 = z then (p.1, v) else p) else σ ++ [(z, v)]
theorem atK_rd (z : Str) : ∀ σ : Sto, atK (kz σ) (vz σ) (.inr z) = (rd σ z).map W.int
  | [] => rfl
  | p :: σ => by
    show (if (Sum.inr p.1 : Key) = .inr z then some (W.int p.2) else atK (kz σ) (vz σ) (.inr z)) = ((if p.1 = z then some p.2 else rd σ z).map W.int)
    by_cases h : p.1 = z
    · rw [if_pos h, if_pos (by rw [h])]; rfl
    · rw [if_neg h, if_neg (fun q => h (by cases q; rfl)), atK_rd z σ]
theorem mapAt_wr (z : Str) (v : Int) : ∀ σ : Sto, mapAt (kz σ) (vz σ) (.inr z) (.int v) = vz (σ.map fun p => if p.1 = z then (p.1, v) else p)
  | [] => rfl
  | p :: σ => by
    show (if (Sum.inr p.1 : Key) = .inr z then W.int v else .int p.2) :: mapAt (kz σ) (vz σ) (.inr z) (.int v) = W.int (if p.1 = z then (p.1, v) else p).2 :: vz (σ.map fun p => if p.1 = z then (p.1, v) else p)
    rw [mapAt_wr z v σ]
    by_cases h : p.1 = z
    · rw [if_pos h, if_pos (by rw [h])]
    · rw [if_neg h, if_neg (fun q => h (by cases q; rfl))]
theorem any_kz (z : Str) (σ : Sto) : ((kz σ).any fun k => decide (k = (.inr z : Key))) = σ.any fun p => decide (p.1 = z) := by
  unfold kz
  rw [List.any_map]
  congr 1
  funext p
  show decide ((Sum.inr p.1 : Key) = .inr z) = _
  by_cases h : p.1 = z
  · rw [decide_eq_true h, decide_eq_true (by rw [h])]
  · rw [decide_eq_false h, decide_eq_false (fun q => h (by cases q; rfl))]
theorem putW_wr (σ : Sto) (z : Str) (v : Int) : putW (kz σ) (vz σ) (.inr z) (.int v) = (kz (wr σ z v), vz (wr σ z v)) := by
  unfold putW wr
  rw [any_kz]
  by_cases h : (σ.any fun p => decide (p.1 = z)) = true
  · rw [if_pos h, if_pos h, mapAt_wr]
    congr 1
    unfold kz
    rw [List.map_map]
    refine List.map_congr_left fun p _ => ?_
    show _ = (Sum.inr (if p.1 = z then (p.1, v) else p).1 : Key)
    by_cases q : p.1 = z
    · rw [if_pos q]
    · rw [if_neg q]
  · rw [if_neg h, if_neg h]
    unfold kz vz
    rw [List.map_append, List.map_append]; rfl
theorem rd_app (y z : Str) (v : Int) : ∀ σ : Sto, rd (σ ++ [(z, v)]) y = (match rd σ y with
    | some u => some u
    | none => if z = y then some v else none)
  | [] => rfl
  | p :: σ => by
    show (if p.1 = y then some p.2 else rd (σ ++ [(z, v)]) y) = _
    rw [rd_app y z v σ]
    show _ = (match (if p.1 = y then some p.2 else rd σ y) with
      | some u => some u
      | none => if z = y then some v else none)
    by_cases h : p.1 = y
    · rw [if_pos h, if_pos h]
    · rw [if_neg h, if_neg h]
theorem rd_map (y z : Str) (v : Int) : ∀ σ : Sto, rd (σ.map fun p => if p.1 = z then (p.1, v) else p) y = if z = y then (rd σ y).map (fun _ => v) else rd σ y
  | [] => by rw [List.map_nil]; show none = if z = y then none else none; rw [ite_self]
  | p :: σ => by
    show (if (if p.1 = z then (p.1, v) else p).1 = y then some (if p.1 = z then (p.1, v) else p).2 else rd (σ.map fun p => if p.1 = z then (p.1, v) else p) y) = if z = y then (if p.1 = y then some p.2 else rd σ y).map (fun _ => v) else if p.1 = y then some p.2 else rd σ y
    rw [rd_map y z v σ]
    by_cases h : p.1 = z
    · subst h
      by_cases q : p.1 = y <;> simp [q]
    · rw [if_neg h]
      by_cases q : z = y
      · rw [if_pos q, if_pos q, if_neg (by rw [← q]; exact h), if_neg (by rw [← q]; exact h)]
      · rw [if_neg q, if_neg q]
theorem rd_none (z : Str) : ∀ σ : Sto, ¬ (σ.any fun p => decide (p.1 = z)) = true → rd σ z = none
  | [], _ => rfl
  | p :: σ, h => by
    rw [List.any_cons, Bool.or_eq_true, not_or, decide_eq_true_eq] at h
    show (if p.1 = z then some p.2 else rd σ z) = none
    rw [if_neg h.1, rd_none z σ h.2]
theorem rd_some (z : Str) : ∀ σ : Sto, (σ.any fun p => decide (p.1 = z)) = true → ∃ v, rd σ z = some v
  | [], h => by cases h
  | p :: σ, h => by
    show ∃ v, (if p.1 = z then some p.2 else rd σ z) = some v
    by_cases q : p.1 = z
    · exact ⟨p.2, if_pos q⟩
    · rw [if_neg q]
      refine rd_some z σ ?_
      rw [List.any_cons, decide_eq_false q, Bool.false_or] at h
      exact h
theorem rd_wr (σ : Sto) (y z : Str) (v : Int) : rd (wr σ z v) y = if z = y then some v else rd σ y := by
  unfold wr
  by_cases h : (σ.any fun p => decide (p.1 = z)) = true
  · rw [if_pos h, rd_map]
    by_cases q : z = y
    · obtain ⟨u, e⟩ := rd_some z σ h
      rw [if_pos q, if_pos q, ← q, e]; rfl
    · rw [if_neg q, if_neg q]
  · rw [if_neg h, rd_app]
    by_cases q : z = y
    · subst q; simp [rd_none z σ h]
    · rw [if_neg q]; cases rd σ y <;> simp [q]
theorem wr_len (σ : Sto) (z : Str) (v : Int) : (wr σ z v).length ≤ σ.length + 1 := by
  unfold wr
  split
  · rw [List.length_map]; omega
  · rw [List.length_append]; exact Nat.le_refl _
theorem wr_len' {σ : Sto} {z : Str} {u : Int} (v : Int) (e : rd σ z = some u) : (wr σ z v).length = σ.length := by
  unfold wr
  split
  · rw [List.length_map]
  · rename_i h
    rw [rd_none z σ h] at e; cases e
/-- whole numbers below a million for the boxes -/
structure Has (ns : List Str) (σ : Sto) : Prop where
  has : ∀ z ∈ ns, ∃ v : Int, rd σ z = some v ∧ 0 ≤ v ∧ v < 1000000
  sz : σ.length ≤ 10
theorem Has.wr {ns : List Str} {σ : Sto} {z : Str} (H : Has ns σ) (hz : z ∈ ns) (v : Int) : Has ns (wr σ z (v % 1000000)) := by
  obtain ⟨u, e, _⟩ := H.has z hz
  refine ⟨fun y hy => ?_, by rw [wr_len' _ e]; exact H.sz⟩
  rw [rd_wr]
  by_cases q : z = y
  · rw [if_pos q]; exact ⟨_, rfl, Int.emod_nonneg _ (by decide), Int.emod_lt_of_pos _ (by decide)⟩
  · rw [if_neg q]; exact H.has y hy
/-- the first values -/
def sto0 (ps : List (Str × Int)) : Sto := ps.foldl (fun σ p => wr σ p.1 p.2) []
theorem sto_len : ∀ (ps : List (Str × Int)) (σ : Sto), (ps.foldl (fun σ p => wr σ p.1 p.2) σ).length ≤ σ.length + ps.length
  | [], σ => by simp
  | p :: ps, σ => by
    have := sto_len ps (wr σ p.1 p.2)
    have := wr_len σ p.1 p.2
    rw [List.foldl_cons, List.length_cons]; omega
theorem sto_has (P : Int → Prop) : ∀ (ps : List (Str × Int)) (σ : Sto) (z : Str), (∀ p ∈ ps, P p.2) → (∀ v, rd σ z = some v → P v) → (z ∈ ps.map (·.1) ∨ ∃ v, rd σ z = some v) → ∃ v, rd (ps.foldl (fun σ p => wr σ p.1 p.2) σ) z = some v ∧ P v
  | [], σ, z, _, h, q => by
    rcases q with q | ⟨v, q⟩
    · cases q
    · exact ⟨v, q, h v q⟩
  | p :: ps, σ, z, hp, h, q => by
    rw [List.foldl_cons]
    refine sto_has P ps _ z (fun x hx => hp x (List.mem_cons_of_mem _ hx)) (fun v e => ?_) ?_
    · rw [rd_wr] at e
      by_cases y : p.1 = z
      · rw [if_pos y] at e; cases e; exact hp p List.mem_cons_self
      · rw [if_neg y] at e; exact h v e
    · by_cases y : p.1 = z
      · exact .inr ⟨p.2, by rw [rd_wr, if_pos y]⟩
      · rcases q with q | ⟨v, q⟩
        · rw [List.map_cons] at q
          rcases List.mem_cons.mp q with q | q
          · exact absurd q.symm y
          · exact .inl q
        · exact .inr ⟨v, by rw [rd_wr, if_neg y]; exact q⟩
theorem Has.first {ps : List (Str × Int)} (l : ps.length ≤ 4) (h : ∀ p ∈ ps, 0 ≤ p.2 ∧ p.2 < 1000) : Has (ps.map (·.1)) (sto0 ps) := by
  refine ⟨fun z hz => ?_, by have := sto_len ps []; unfold sto0; rw [List.length_nil] at this; omega⟩
  obtain ⟨v, e, a, b⟩ := sto_has (fun v => 0 ≤ v ∧ v < 1000) ps [] z h (fun v e => by cases e) (.inl hz)
  exact ⟨v, e, a, by omega⟩
/-- what an expression is worth -/
def Xe.val (σ : Sto) : Xe → Int
  | .num i => i
  | .box z => (rd σ z).getD 0
  | .op c a b => if c = "+" then a.val σ + b.val σ else if c = "-" then a.val σ - b.val σ else a.val σ * b.val σ
theorem s_bn : decide (("box" : Str) = "number") = false := by decide +kernel
theorem s_pn : decide (("+" : Str) = "number") = false := by decide +kernel
theorem s_pb : decide (("+" : Str) = "box") = false := by decide +kernel
theorem s_mn : decide (("-" : Str) = "number") = false := by decide +kernel
theorem s_mb : decide (("-" : Str) = "box") = false := by decide +kernel
theorem s_mp : decide (("-" : Str) = "+") = false := by decide +kernel
theorem s_tn : decide (("*" : Str) = "number") = false := by decide +kernel
theorem s_tb : decide (("*" : Str) = "box") = false := by decide +kernel
theorem s_tp : decide (("*" : Str) = "+") = false := by decide +kernel
theorem s_tm : decide (("*" : Str) = "-") = false := by decide +kernel
def big (n : Nat) : Nat := 2 ^ (20 * 2 ^ n)
theorem big0 : 1000000 ≤ big 0 := by decide
theorem big_pos (n : Nat) : 2 ≤ big n := by
  unfold big
  have h1 : 1 ≤ 20 * 2 ^ n := by have : 1 ≤ 2 ^ n := Nat.one_le_two_pow; omega
  exact Nat.le_trans (by decide : 2 ≤ 2 ^ 1) (Nat.pow_le_pow_right (by decide) h1)
theorem big_succ (n : Nat) : big (n + 1) = big n * big n := by
  unfold big
  rw [← Nat.pow_add]
  congr 1
  rw [Nat.pow_succ]; omega
theorem big_add (n : Nat) : big n + big n ≤ big (n + 1) := by
  rw [big_succ]
  have h := big_pos n
  have : 2 * big n ≤ big n * big n := Nat.mul_le_mul_right _ h
  omega
theorem big_le (n : Nat) : 1000000 ≤ big n := by
  induction n with
  | zero => exact big0
  | succ n ih => have := big_add n; omega
theorem big6 (n : Nat) (h : n ≤ 6) : big n ≤ 2 ^ 65536 := by
  unfold big
  refine Nat.pow_le_pow_right (by decide) ?_
  have : 2 ^ n ≤ 2 ^ 6 := Nat.pow_le_pow_right (by decide) h
  have : (2 : Nat) ^ 6 = 64 := by decide
  omega
theorem worth_ok {ns : List Str} {σ : Sto} (D : Has ns σ) (n : Nat) : ∀ {w : Xe}, n ≤ 6 → w.G ns n → (w.val σ).natAbs < big n ∧ ∀ {h : List Ob} {k : Nat}, h[k]? = some (.dic (kz σ) (vz σ)) → Ok (f_worth n [w.w, .loc k]) h fun r h' => r = .int (w.val σ) ∧ h' = h := by
  induction n with
  | zero => intro w _ p; exact p.elim
  | succ n ih =>
    intro w hn p
    have e0 : ∀ k : Nat, f_worth (n + 1) [w.w, .loc k] = bd (g_worth (f_worth n) [some w.w, some (.loc k), none, none]) finF := fun k => rfl
    have b1 := big_le (n + 1)
    have b2 := big_add n
    cases w with
    | num i =>
      obtain ⟨i0, i1⟩ := p
      refine ⟨by unfold Xe.val; omega, fun {h k} e => ?_⟩
      rw [e0]
      unfold g_worth Xe.w Xe.val
      try simp! only [bd_assoc, ix0, ix1, eq_self, decide_true]
      exact ok_pr ⟨rfl, rfl⟩
    | box z =>
      obtain ⟨v, ev, v0, v1⟩ := D.has z p
      have vv : Xe.val σ (.box z) = v := by unfold Xe.val; rw [ev]; rfl
      refine ⟨by rw [vv]; omega, fun {h k} e => ?_⟩
      rw [e0, vv]
      unfold g_worth Xe.w
      try simp! only [bd_assoc, ix0, ix1, eq_self, decide_true, s_bn]
      refine ok_ixS (v := .int v) e (by rw [atK_rd, ev]; rfl) ?_
      try simp! only [bd_assoc]
      exact ok_pr ⟨rfl, rfl⟩
    | op c a b =>
      obtain ⟨hc, pa, pb⟩ := p
      obtain ⟨bx, hx⟩ := ih (by omega) pa
      obtain ⟨by', hy⟩ := ih (by omega) pb
      have b6 := big6 n (by omega)
      have cm : CMulA (a.val σ) (b.val σ) := .inr ⟨Nat.lt_of_lt_of_le bx b6, Nat.lt_of_lt_of_le by' b6⟩
      have mb : (a.val σ * b.val σ).natAbs < big (n + 1) := by
        rw [Int.natAbs_mul, big_succ]
        exact Nat.mul_lt_mul'' bx by'
      unfold Xe.w at e0 ⊢
      generalize hX : a.val σ = x at *
      generalize hY : b.val σ = y at *
      generalize a.w = aw at *
      generalize b.w = bw at *
      rcases hc with rfl | rfl | rfl
      · have vv : Xe.val σ (.op "+" a b) = x + y := by unfold Xe.val; rw [if_pos rfl, hX, hY]
        refine ⟨by rw [vv]; omega, fun {h k} e => ?_⟩
        rw [e0, vv]
        unfold g_worth
        try simp! only [bd_assoc, ix0, ix1, ix2, s_pn, s_pb]
        refine ok_bd (hx e) fun r h1 ⟨er, eh⟩ => ?_
        subst er eh
        try simp! only [bd_assoc, ix0, ix1, ix2]
        refine ok_bd (hy e) fun r h2 ⟨er, eh⟩ => ?_
        subst er eh
        try simp! only [bd_assoc, ix0, eq_self, decide_true]
        exact ok_pr ⟨rfl, rfl⟩
      · have vv : Xe.val σ (.op "-" a b) = x - y := by unfold Xe.val; rw [if_neg (by decide +kernel), if_pos rfl, hX, hY]
        refine ⟨by rw [vv]; omega, fun {h k} e => ?_⟩
        rw [e0, vv]
        unfold g_worth
        try simp! only [bd_assoc, ix0, ix1, ix2, s_mn, s_mb]
        refine ok_bd (hx e) fun r h1 ⟨er, eh⟩ => ?_
        subst er eh
        try simp! only [bd_assoc, ix0, ix1, ix2]
        refine ok_bd (hy e) fun r h2 ⟨er, eh⟩ => ?_
        subst er eh
        try simp! only [bd_assoc, ix0, eq_self, decide_true, s_mp]
        exact ok_pr ⟨rfl, rfl⟩
      · have vv : Xe.val σ (.op "*" a b) = x * y := by unfold Xe.val; rw [if_neg (by decide +kernel), if_neg (by decide +kernel), hX, hY]
        refine ⟨by rw [vv]; exact mb, fun {h k} e => ?_⟩
        rw [e0, vv]
        unfold g_worth
        try simp! only [bd_assoc, ix0, ix1, ix2, s_tn, s_tb]
        refine ok_bd (hx e) fun r h1 ⟨er, eh⟩ => ?_
        subst er eh
        try simp! only [bd_assoc, ix0, ix1, ix2]
        refine ok_bd (hy e) fun r h2 ⟨er, eh⟩ => ?_
        subst er eh
        try simp! only [bd_assoc, ix0, s_tp, s_tm, mulW_int cm]
        exact ok_pr ⟨rfl, rfl⟩
theorem k_worth {β : Type} {ns : List Str} {σ : Sto} {w : Xe} {h : List Ob} {k : Nat} {c : W → M β} {Q : β → List Ob → Prop} (D : Has ns σ) (g : w.G ns 6) (e : h[k]? = some (.dic (kz σ) (vz σ))) (q : Ok (c (.int (w.val σ))) h Q) : Ok (bd (f_worth 6 [w.w, .loc k]) c) h Q :=
  ok_bd ((worth_ok D 6 (Nat.le_refl _) g).2 e) fun r h' ⟨e1, e2⟩ => by subst e1 e2; exact q
end Q
set_option maxHeartbeats 1000000
namespace Q
open PySem L2
local macro_rules | `(tactic| simp! only [$xs,*]) => `(tactic| try simp only [finF, sSeq, sIf, sRet, sSet, sNil, sEx, sPass, sBreak, sCont, sUnp, sStore, mB, L2.m2, L2.m1, L2.m3, mVar, mC, mCall, mCons, mNil, mTup, mTl, mNew, lenG, listL, mPart, mNoPart, mAnd, mOr, mNot, mAndV, mOrV, mNotV, mIf, mChain, mMeth, isS, mSrc, mSrcA, srcL, srcT, srcS, tgN, tgT, setW, mYes, bd_prN, bd_no, asB_bl, addW_int, subW_int, ltW_int, leW_int, gtW_int, geW_int, eqW_int, eqW_str, neW_int, neW_str, neW_bl, slW_tl, slW_cl, lenW_tl, lenW_tup, negW, List.set_cons_zero, List.set_cons_succ, List.getElem?_cons_zero, List.getElem?_cons_succ, List.length_cons, List.length_nil, arW, if_true, if_false, Bool.false_eq_true, ite_true, ite_false, reduceIte, decide_true, decide_false, Bool.not_true, Bool.not_false, gd_tt, gdn0, gdn1, gdn2, gdn3, gdn4, gdn5, gdn6, gdn7, gdn8, gdn9, gdn10, gdn11, gdn12, gdn13, gdn14, gdn15, gdn16, gdn17, gdn18, gdn19, gdn20, gdn21, gdn22, gdn23, gdn24, $xs,*])
/-! what a run does -/
structure Sta where
  σ : Sto
  taken : Nat
  said : List Int
def Sm.asks : Sm → Bool
  | .ask _ => true
  | _ => false
def lacks (nums : List Int) (s : Sta) (st : Sm) : Bool := st.asks && decide (s.taken = nums.length)
def doS (nums : List Int) (s : Sta) : Sm → Sta
  | .put z e => ⟨wr s.σ z (e.val s.σ % 1000000), s.taken, s.said⟩
  | .say e => ⟨s.σ, s.taken, s.said ++ [e.val s.σ]⟩
  | .ask z => ⟨wr s.σ z (nums.getD s.taken 0 % 1000000), s.taken + 1, s.said⟩
def nsD : List Str := ["held", "numbers", "taken", "said"]
structure DoAt (h : List Ob) (d kh kS : Nat) (nums : List Int) (s : Sta) : Prop where
  ob : h[d]? = some (.ins "Doing" nsD [.loc kh, .tl (nums.map W.int), .int s.taken, .loc kS])
  held : h[kh]? = some (.dic (kz s.σ) (vz s.σ))
  said : h[kS]? = some (.lst (s.said.map W.int))
  tk : s.taken ≤ nums.length
theorem DoAt.n1 {h : List Ob} {d kh kS : Nat} {nums : List Int} {s : Sta} (D : DoAt h d kh kS nums s) : d ≠ kh := fun z => by have := D.ob; rw [z, D.held] at this; cases this
theorem DoAt.n2 {h : List Ob} {d kh kS : Nat} {nums : List Int} {s : Sta} (D : DoAt h d kh kS nums s) : d ≠ kS := fun z => by have := D.ob; rw [z, D.said] at this; cases this
theorem DoAt.n3 {h : List Ob} {d kh kS : Nat} {nums : List Int} {s : Sta} (D : DoAt h d kh kS nums s) : kh ≠ kS := fun z => by have := D.held; rw [z, D.said] at this; cases this
theorem DoAt.keep {h h' : List Ob} {d kh kS : Nat} {nums : List Int} {s : Sta} (D : DoAt h d kh kS nums s) (f : ∀ i, i = d ∨ i = kh ∨ i = kS → h'[i]? = h[i]?) : DoAt h' d kh kS nums s := ⟨(f _ (.inl rfl)).trans D.ob, (f _ (.inr (.inl rfl))).trans D.held, (f _ (.inr (.inr rfl))).trans D.said, D.tk⟩
/-- only these three places have changed -/
structure On3 (d kh kS : Nat) (h h' : List Ob) : Prop where
  len : h'.length = h.length
  eq : ∀ i, i ≠ d → i ≠ kh → i ≠ kS → h'[i]? = h[i]?
theorem On3.refl {d kh kS : Nat} {h : List Ob} : On3 d kh kS h h := ⟨rfl, fun _ _ _ _ => rfl⟩
theorem On3.trans {d kh kS : Nat} {a b c : List Ob} (x : On3 d kh kS a b) (y : On3 d kh kS b c) : On3 d kh kS a c := ⟨y.len.trans x.len, fun i h1 h2 h3 => (y.eq i h1 h2 h3).trans (x.eq i h1 h2 h3)⟩
theorem lk_held (a b c d : W) : lookF nsD [a, b, c, d] "held" = some a := by unfold nsD; rfl
theorem lk_numbers (a b c d : W) : lookF nsD [a, b, c, d] "numbers" = some b := by unfold nsD; rfl
theorem lk_taken (a b c d : W) : lookF nsD [a, b, c, d] "taken" = some c := by unfold nsD; rfl
theorem lk_said (a b c d : W) : lookF nsD [a, b, c, d] "said" = some d := by unfold nsD; rfl
theorem pt_taken (a b c d y : W) : putN nsD [a, b, c, d] "taken" y = (nsD, [a, b, y, d]) := by unfold nsD; rfl
theorem addI_int (i j : Int) : addI (.int i) (.int j) = pr (.int (i + j)) := rfl
section
variable {ns : List Str} {h : List Ob} {d kh kS : Nat} {nums : List Int} {s : Sta} {β : Type} {k : W → M β} {Q : β → List Ob → Prop}
theorem lacks_ok {c : Str} {l : List W} (D : DoAt h d kh kS nums s) : Ok (f_Doing_lacks_number [.loc d, .tup (.str c :: l)]) h fun w h' => w = .bl (decide (c = "ask") && decide (s.taken = nums.length)) ∧ h' = h := by
  have e0 : f_Doing_lacks_number [.loc d, .tup (.str c :: l)] = bd (g_Doing_lacks_number [some (.loc d), some (.tup (.str c :: l))]) finF := rfl
  rw [e0]
  unfold g_Doing_lacks_number
  by_cases hc : c = "ask"
  · try simp! only [bd_assoc, ix0, decide_eq_true hc]
    refine ok_fld D.ob (lk_taken ..) ?_
    try simp! only [bd_assoc]
    refine ok_fld D.ob (lk_numbers ..) ?_
    try simp! only [bd_assoc, List.length_map]
    refine ok_pr ⟨?_, rfl⟩
    rw [Bool.true_and]
    congr 1
    by_cases e : s.taken = nums.length
    · rw [decide_eq_true e, decide_eq_true (by rw [e])]
    · rw [decide_eq_false e, decide_eq_false (by omega)]
  · try simp! only [bd_assoc, ix0, decide_eq_false hc, Bool.false_and]
    exact ok_pr ⟨rfl, rfl⟩
theorem k_lacks {c : Str} {l : List W} (D : DoAt h d kh kS nums s) (q : Ok (k (.bl (decide (c = "ask") && decide (s.taken = nums.length)))) h Q) : Ok (bd (f_Doing_lacks_number [.loc d, .tup (.str c :: l)]) k) h Q :=
  ok_bd (lacks_ok D) fun w h' ⟨e1, e2⟩ => by subst e1 e2; exact q
theorem s_sp : decide (("say" : Str) = "put") = false := by decide +kernel
theorem s_ap : decide (("ask" : Str) = "put") = false := by decide +kernel
theorem s_as : decide (("ask" : Str) = "say") = false := by decide +kernel
theorem s_ps : decide (("put" : Str) = "say") = false := by decide +kernel
theorem s_sa : decide (("say" : Str) = "ask") = false := by decide +kernel
theorem s_pa : decide (("put" : Str) = "ask") = false := by decide +kernel
theorem do_ok {st : Sm} (D : DoAt h d kh kS nums s) (H : Has ns s.σ) (g : st.G ns) (nl : lacks nums s st = false) (z : s.said.length < 100000) : Ok (f_Doing_do_statement [.loc d, st.w]) h fun w h' => w = .non ∧ DoAt h' d kh kS nums (doS nums s st) ∧ Has ns (doS nums s st).σ ∧ On3 d kh kS h h' := by
  have e0 : f_Doing_do_statement [.loc d, st.w] = bd (g_Doing_do_statement [some (.loc d), some st.w]) finF := rfl
  rw [e0]
  unfold g_Doing_do_statement
  cases st with
  | put y e =>
    obtain ⟨gy, ge⟩ := g
    unfold Sm.w doS
    try simp! only [bd_assoc, ix0, ix1, ix2, eq_self, decide_true]
    refine ok_fld D.ob (lk_held ..) ?_
    refine k_worth H ge D.held ?_
    try simp! only [bd_assoc, ix0, ix1, ix2, modW_int (show (0 : Int) < 1000000 by decide)]
    refine ok_fld D.ob (lk_held ..) ?_
    try simp! only [bd_assoc, ix0, ix1, ix2]
    refine ok_stS D.held (by unfold kz; rw [List.length_map]; exact Nat.lt_of_le_of_lt H.sz (by decide)) (putW_wr ..) ?_
    try simp! only [bd_assoc]
    refine ok_pr ⟨rfl, ⟨?_, set_get D.held, ?_, D.tk⟩, H.wr gy _, List.length_set .., fun i _ h2 _ => List.getElem?_set_ne (Ne.symm h2)⟩
    · rw [List.getElem?_set_ne (Ne.symm D.n1)]; exact D.ob
    · rw [List.getElem?_set_ne D.n3]; exact D.said
  | say e =>
    unfold Sm.w doS
    try simp! only [bd_assoc, ix0, ix1, ix2, s_sp, eq_self, decide_true]
    refine ok_fld D.ob (lk_said ..) ?_
    refine ok_isL D.said ?_
    try simp! only [bd_assoc, ix0, ix1, ix2]
    refine ok_fld D.ob (lk_held ..) ?_
    try simp! only [bd_assoc, ix0, ix1, ix2]
    refine k_worth H g D.held ?_
    try simp! only [bd_assoc]
    refine ok_app D.said (by rw [List.length_map]; exact Nat.lt_of_lt_of_le z (by decide)) ?_
    try simp! only [bd_assoc]
    refine ok_pr ⟨rfl, ⟨?_, ?_, ?_, D.tk⟩, H, List.length_set .., fun i _ _ h3 => List.getElem?_set_ne (Ne.symm h3)⟩
    · rw [List.getElem?_set_ne (Ne.symm D.n2)]; exact D.ob
    · rw [List.getElem?_set_ne (Ne.symm D.n3)]; exact D.held
    · rw [set_get D.said, List.map_append]; rfl
  | ask y =>
    have ht : s.taken < nums.length := by
      have t := D.tk
      have : ¬ s.taken = nums.length := fun q => by
        unfold lacks Sm.asks at nl
        rw [decide_eq_true q] at nl; cases nl
      omega
    unfold Sm.w doS
    try simp! only [bd_assoc, ix0, ix1, ix2, s_ap, s_as]
    refine ok_fld D.ob (lk_numbers ..) ?_
    try simp! only [bd_assoc]
    refine ok_fld D.ob (lk_taken ..) ?_
    try simp! only [bd_assoc, ixW_tl (menu_atW W.int nums 0 (i := (s.taken : Int)) (by omega) (by omega)), modW_int (show (0 : Int) < 1000000 by decide), Int.toNat_natCast]
    refine ok_fld D.ob (lk_held ..) ?_
    try simp! only [bd_assoc, ix0, ix1, ix2]
    refine ok_stS D.held (by unfold kz; rw [List.length_map]; exact Nat.lt_of_le_of_lt H.sz (by decide)) (putW_wr ..) ?_
    try simp! only [sAugW, bd_assoc]
    have o1 : (h.set kh (.dic (kz (wr s.σ y (nums.getD s.taken 0 % 1000000))) (vz (wr s.σ y (nums.getD s.taken 0 % 1000000)))))[d]? = some (.ins "Doing" nsD [.loc kh, .tl (nums.map W.int), .int s.taken, .loc kS]) := by
      rw [List.getElem?_set_ne (Ne.symm D.n1)]; exact D.ob
    refine ok_fld o1 (lk_taken ..) ?_
    try simp! only [bd_assoc, addI_int]
    refine ok_put o1 (by unfold nsD; decide) (pt_taken ..) ?_
    try simp! only [bd_assoc]
    refine ok_pr ⟨rfl, ⟨set_get o1, ?_, ?_, ht⟩, H.wr g _, by rw [List.length_set, List.length_set], fun i h1 h2 _ => by rw [List.getElem?_set_ne (Ne.symm h1), List.getElem?_set_ne (Ne.symm h2)]⟩
    · rw [List.getElem?_set_ne D.n1]; exact set_get D.held
    · rw [List.getElem?_set_ne D.n2, List.getElem?_set_ne D.n3]; exact D.said
/-- a condition -/
def cond (σ : Sto) (c : Str) (a b : Xe) : Bool := if c = "<" then decide (a.val σ < b.val σ) else decide (a.val σ = b.val σ)
theorem holds_ok {c : Str} {a b : Xe} (D : DoAt h d kh kS nums s) (H : Has ns s.σ) (ga : a.G ns 6) (gb : b.G ns 6) : Ok (f_Doing_holds [.loc d, .str c, a.w, b.w]) h fun w h' => w = .bl (cond s.σ c a b) ∧ h' = h := by
  have e0 : f_Doing_holds [.loc d, .str c, a.w, b.w] = bd (g_Doing_holds [some (.loc d), some (.str c), some a.w, some b.w]) finF := rfl
  rw [e0]
  unfold g_Doing_holds cond
  by_cases hc : c = "<"
  · rw [if_pos hc]
    try simp! only [bd_assoc, decide_eq_true hc]
    refine ok_fld D.ob (lk_held ..) ?_
    refine k_worth H ga D.held ?_
    refine ok_fld D.ob (lk_held ..) ?_
    refine k_worth H gb D.held ?_
    try simp! only [bd_assoc]
    exact ok_pr ⟨rfl, rfl⟩
  · rw [if_neg hc]
    try simp! only [bd_assoc, decide_eq_false hc]
    refine ok_fld D.ob (lk_held ..) ?_
    refine k_worth H ga D.held ?_
    refine ok_fld D.ob (lk_held ..) ?_
    refine k_worth H gb D.held ?_
    try simp! only [bd_assoc]
    exact ok_pr ⟨rfl, rfl⟩
theorem k_holds {c : Str} {a b : Xe} (D : DoAt h d kh kS nums s) (H : Has ns s.σ) (ga : a.G ns 6) (gb : b.G ns 6) (q : Ok (k (.bl (cond s.σ c a b))) h Q) : Ok (bd (f_Doing_holds [.loc d, .str c, a.w, b.w]) k) h Q :=
  ok_bd (holds_ok D H ga gb) fun w h' ⟨e1, e2⟩ => by subst e1 e2; exact q
theorem k_chosen {e : Xe} {m : Int} (D : DoAt h d kh kS nums s) (H : Has ns s.σ) (g : e.G ns 6) (hm : 0 < m) (q : Ok (k (.int (e.val s.σ % m))) h Q) : Ok (bd (f_Doing_chosen [.loc d, e.w, .int m]) k) h Q := by
  refine ok_bd (P := fun w h' => w = .int (e.val s.σ % m) ∧ h' = h) ?_ fun w h' ⟨e1, e2⟩ => by subst e1 e2; exact q
  have e0 : f_Doing_chosen [.loc d, e.w, .int m] = bd (g_Doing_chosen [some (.loc d), some e.w, some (.int m)]) finF := rfl
  rw [e0]
  unfold g_Doing_chosen
  try simp! only [bd_assoc]
  refine ok_fld D.ob (lk_held ..) ?_
  refine k_worth H g D.held ?_
  try simp! only [bd_assoc, modW_int hm]
  exact ok_pr ⟨rfl, rfl⟩
end
/-! a new one -/
theorem prs_bx (ps : List (Str × Int)) : optL prW (ps.map bxW) = some (ps.map fun p => ((.inr p.1 : Key), W.int p.2)) := optL_mapD (f := prW) (g := bxW) (k := fun p => ((.inr p.1 : Key), W.int p.2)) (fun a => rfl) ps
theorem merge_bx : ∀ (ps : List (Str × Int)) (σ : Sto), mergeW (kz σ) (vz σ) (ps.map fun p => ((.inr p.1 : Key), W.int p.2)) = (kz (ps.foldl (fun σ p => wr σ p.1 p.2) σ), vz (ps.foldl (fun σ p => wr σ p.1 p.2) σ))
  | [], σ => rfl
  | p :: ps, σ => by
    rw [List.map_cons, List.foldl_cons]
    unfold mergeW
    rw [putW_wr]
    exact merge_bx ps _
def sta0 (ps : List (Str × Int)) : Sta := ⟨sto0 ps, 0, []⟩
theorem init_ok {h : List Ob} {bx nm : W} {ps : List (Str × Int)} {nums : List Int} (LB : Lw h bx (ps.map bxW)) (LN : Lw h nm (nums.map W.int)) : Ok (f_Doing___init__ [.loc h.length, bx, nm]) (h ++ [.ins "Doing" [] []]) fun w h' => w = .non ∧ DoAt h' h.length (h.length + 1) (h.length + 2) nums (sta0 ps) ∧ h'.length = h.length + 3 ∧ ∀ i, i < h.length → h'[i]? = h[i]? := by
  have e0 : f_Doing___init__ [.loc h.length, bx, nm] = bd (g_Doing___init__ [some (.loc h.length), some bx, some nm]) finF := rfl
  rw [e0]
  unfold g_Doing___init__
  obtain ⟨h0, hh0⟩ : ∃ h0, h0 = h ++ [Ob.ins "Doing" [] []] := ⟨_, rfl⟩
  have l0 : h0.length = h.length + 1 := by rw [hh0]; simp
  have f0 : ∀ i, i < h.length → h0[i]? = h[i]? := fun i hi => by rw [hh0, List.getElem?_append_left hi]
  have b0 : h0[h.length]? = some (.ins "Doing" [] []) := by rw [hh0]; exact get_end
  rw [← hh0]
  have LB0 : Lw h0 bx (ps.map bxW) := LB.keep f0
  have LN0 : Lw h0 nm (nums.map W.int) := LN.keep f0
  clear hh0
  try simp! only [sFldW, bd_assoc]
  refine ok_dL LB0 (prs_bx ps) (merge_bx ps []) ?_
  rw [l0]
  have b1 : ∀ x : Ob, (h0 ++ [x])[h.length]? = some (.ins "Doing" [] []) := fun x => get_app b0
  try simp! only [bd_assoc]
  refine ok_put (b1 _) (by decide) (ns' := ["held"]) (ws' := [.loc (h.length + 1)]) rfl ?_
  obtain ⟨h1, hh1⟩ : ∃ h1, h1 = (h0 ++ [Ob.dic (kz (ps.foldl (fun σ p => wr σ p.1 p.2) [])) (vz (ps.foldl (fun σ p => wr σ p.1 p.2) []))]).set h.length (.ins "Doing" ["held"] [.loc (h.length + 1)]) := ⟨_, rfl⟩
  have l1 : h1.length = h.length + 2 := by rw [hh1, List.length_set, List.length_append, l0]; rfl
  have f1 : ∀ i, i < h.length → h1[i]? = h0[i]? := fun i hi => by rw [hh1, List.getElem?_set_ne (by omega), List.getElem?_append_left (by omega)]
  have c1 : h1[h.length]? = some (.ins "Doing" ["held"] [.loc (h.length + 1)]) := by rw [hh1]; exact set_get (b1 _)
  have d1 : h1[h.length + 1]? = some (.dic (kz (sto0 ps)) (vz (sto0 ps))) := by rw [hh1, List.getElem?_set_ne (by omega), ← l0]; exact get_end
  rw [show (h0 ++ [Ob.dic (kz (ps.foldl (fun σ p => wr σ p.1 p.2) [])) (vz (ps.foldl (fun σ p => wr σ p.1 p.2) []))]).set h.length (.ins "Doing" ["held"] [.loc (h.length + 1)]) = h1 from hh1.symm]
  clear hh1
  have LN1 : Lw h1 nm (nums.map W.int) := by
    rcases LN with rfl | ⟨j, rfl, e⟩
    · exact .inl rfl
    · exact .inr ⟨j, rfl, by rw [f1 j (get_lt e), f0 j (get_lt e)]; exact e⟩
  rcases LN with e | ⟨j, e, _⟩ <;> subst e
  all_goals
    try simp! only [sFldW, bd_assoc]
    refine ok_lstOf LN1 ?_
    try simp! only [sFldW, bd_assoc]
    refine ok_put c1 (by decide) (ns' := ["held", "numbers"]) (ws' := [.loc (h.length + 1), .tl (nums.map W.int)]) rfl ?_
    have c2 := set_get (b := Ob.ins "Doing" ["held", "numbers"] [.loc (h.length + 1), .tl (nums.map W.int)]) c1
    try simp! only [bd_assoc]
    refine ok_put c2 (by decide) (ns' := ["held", "numbers", "taken"]) (ws' := [.loc (h.length + 1), .tl (nums.map W.int), .int 0]) rfl ?_
    have c3 := set_get (b := Ob.ins "Doing" ["held", "numbers", "taken"] [.loc (h.length + 1), .tl (nums.map W.int), .int 0]) c2
    try simp! only [bd_assoc]
    refine ok_new ?_
    try simp! only [bd_assoc]
    refine ok_put (get_app c3) (by decide) (ns' := nsD) (ws' := [.loc (h.length + 1), .tl (nums.map W.int), .int 0, .loc (h.length + 2)]) (by unfold nsD; rw [List.length_set, List.length_set, l1]; rfl) ?_
    have l3 : ((h1.set h.length (.ins "Doing" ["held", "numbers"] [.loc (h.length + 1), .tl (nums.map W.int)])).set h.length (.ins "Doing" ["held", "numbers", "taken"] [.loc (h.length + 1), .tl (nums.map W.int), .int 0])).length = h.length + 2 := by rw [List.length_set, List.length_set, l1]
    try simp! only [bd_assoc]
    refine ok_pr ⟨rfl, ⟨set_get (get_app c3), ?_, ?_, Nat.zero_le _⟩, ?_, fun i hi => ?_⟩
    · rw [List.getElem?_set_ne (by omega), List.getElem?_append_left (by omega), List.getElem?_set_ne (by omega), List.getElem?_set_ne (by omega)]; exact d1
    · rw [List.getElem?_set_ne (by omega), ← l3]; exact get_end
    · rw [List.length_set, List.length_append, l3]; rfl
    · rw [List.getElem?_set_ne (by omega), List.getElem?_append_left (by omega), List.getElem?_set_ne (by omega), List.getElem?_set_ne (by omega), f1 i hi, f0 i hi]
theorem k_make {β : Type} {h : List Ob} {bx nm : W} {ps : List (Str × Int)} {nums : List Int} {k : W → M β} {Q : β → List Ob → Prop} {l : Env' → M (List W)} {ρ : Env'} (e : l ρ = pr [bx, nm]) (LB : Lw h bx (ps.map bxW)) (LN : Lw h nm (nums.map W.int)) (q : ∀ h', DoAt h' h.length (h.length + 1) (h.length + 2) nums (sta0 ps) → h'.length = h.length + 3 → (∀ i, i < h.length → h'[i]? = h[i]?) → Ok (k (.loc h.length)) h' Q) : Ok (bd (mMake "Doing" 3 f_Doing___init__ l ρ) k) h Q := by
  unfold mMake
  rw [e, bd_prN]
  exact ok_make rfl (init_ok LB LN) fun h' ⟨D, l1, f⟩ => q h' D l1 f
end Q
set_option maxHeartbeats 1000000
namespace Q
open PySem L2
local macro_rules | `(tactic| simp! only [$xs,*]) => `(tactic| try simp only [finF, sSeq, sIf, sRet, sSet, sNil, sEx, sPass, sBreak, sCont, sUnp, sStore, mB, L2.m2, L2.m1, L2.m3, mVar, mC, mCall, mCons, mNil, mTup, mTl, mNew, lenG, listL, mPart, mNoPart, mAnd, mOr, mNot, mAndV, mOrV, mNotV, mIf, mChain, mMeth, isS, mSrc, mSrcA, srcL, srcT, srcS, tgN, tgT, setW, mYes, bd_prN, bd_no, asB_bl, addW_int, subW_int, ltW_int, leW_int, gtW_int, geW_int, eqW_int, eqW_str, neW_int, neW_str, neW_bl, slW_tl, slW_cl, lenW_tl, lenW_tup, negW, List.set_cons_zero, List.set_cons_succ, List.getElem?_cons_zero, List.getElem?_cons_succ, List.length_cons, List.length_nil, arW, if_true, if_false, Bool.false_eq_true, ite_true, ite_false, reduceIte, decide_true, decide_false, Bool.not_true, Bool.not_false, gd_tt, gdn0, gdn1, gdn2, gdn3, gdn4, gdn5, gdn6, gdn7, gdn8, gdn9, gdn10, gdn11, gdn12, gdn13, gdn14, gdn15, gdn16, gdn17, gdn18, gdn19, gdn20, gdn21, gdn22, gdn23, gdn24, $xs,*])
/-! runs of blocks -/
structure Bl where
  nm : Str
  sts : List Sm
  en : En
def Bl.G (ns : List Str) (m : Nat) (b : Bl) : Prop := b.sts.length ≤ 8 ∧ (∀ s ∈ b.sts, s.G ns) ∧ b.en.G ns m
/-- a program's value: its lists at places or not -/
def PgAt (h : List Ob) (x : W) (ps : List (Str × Int)) (bs : List Bl) : Prop := ∃ (bx bl : W) (ls : List W), x = .tup [bx, bl] ∧ Lw h bx (ps.map bxW) ∧ Lw h bl ls ∧ ls.length = bs.length ∧ ∀ (i : Nat) (b : Bl), bs[i]? = some b → ∃ y, ls[i]? = some (.tup [.str b.nm, y, b.en.w]) ∧ Lw h y (b.sts.map Sm.w)
theorem PgAt.keep {h h' : List Ob} {x : W} {ps : List (Str × Int)} {bs : List Bl} (P : PgAt h x ps bs) (f : ∀ i, i < h.length → h'[i]? = h[i]?) : PgAt h' x ps bs := by
  obtain ⟨bx, bl, ls, e, L1, L2, ll, q⟩ := P
  refine ⟨bx, bl, ls, e, L1.keep f, L2.keep f, ll, fun i b hb => ?_⟩
  obtain ⟨y, e1, L3⟩ := q i b hb
  exact ⟨y, e1, L3.keep f⟩
structure PgG (ps : List (Str × Int)) (bs : List Bl) : Prop where
  bx : Bx ps
  bv : ∀ p ∈ ps, 0 ≤ p.2 ∧ p.2 < 1000
  l1 : 1 ≤ bs.length
  l2 : bs.length ≤ 10
  g : ∀ b ∈ bs, b.G (ps.map (·.1)) bs.length
/-- statements: what they leave, and whether all were done -/
def doL (nums : List Int) : Sta → List Sm → Sta × Bool
  | s, [] => (s, true)
  | s, st :: r => if lacks nums s st = true then (s, false) else doL nums (doS nums s st) r
def side (σ : Sto) : En → Nat
  | .iff c a b _ _ => if cond σ c a b = true then 0 else 1
  | .tab e ts => (e.val σ % ts.length).toNat
  | _ => 0
def sides : En → List Nat
  | .go t => [t]
  | .iff _ _ _ x y => [x, y]
  | .tab _ ts => ts
  | .stop => []
def to (σ : Sto) (e : En) : Nat := (sides e).getD (side σ e) 0
structure OutB where
  said : List Int
  en : Str
  went : List (Nat × Nat × Nat)
def wayW (w : Nat × Nat × Nat) : W := .tup [nI w.1, nI w.2.1, nI w.2.2]
def En.stops : En → Bool
  | .stop => true
  | _ => false
def runB (nums : List Int) (bs : List Bl) : Nat → Nat → Sta → OutB
  | 0, _, s => ⟨s.said, "on", []⟩
  | n + 1, p, s => match bs[p]? with
    | none => ⟨s.said, "", []⟩
    | some b =>
      if (doL nums s b.sts).2 = false then ⟨(doL nums s b.sts).1.said, "out", []⟩
      else if b.en.stops = true then ⟨(doL nums s b.sts).1.said, "stop", []⟩
      else ⟨(runB nums bs n (to (doL nums s b.sts).1.σ b.en) (doL nums s b.sts).1).said, (runB nums bs n (to (doL nums s b.sts).1.σ b.en) (doL nums s b.sts).1).en, (p, side (doL nums s b.sts).1.σ b.en, to (doL nums s b.sts).1.σ b.en) :: (runB nums bs n (to (doL nums s b.sts).1.σ b.en) (doL nums s b.sts).1).went⟩
theorem doS_len (nums : List Int) (s : Sta) (st : Sm) : (doS nums s st).said.length ≤ s.said.length + 1 := by
  cases st with
  | put z e => exact Nat.le_succ _
  | ask z => exact Nat.le_succ _
  | say e => unfold doS; rw [List.length_append]; exact Nat.le_refl _
theorem doL_len (nums : List Int) : ∀ (l : List Sm) (s : Sta), (doL nums s l).1.said.length ≤ s.said.length + l.length
  | [], s => Nat.le_refl _
  | st :: r, s => by
    unfold doL
    split
    · exact Nat.le_add_right _ _
    · have := doL_len nums r (doS nums s st)
      have := doS_len nums s st
      rw [List.length_cons]; omega
theorem stm_head {ns : List Str} {st : Sm} (g : st.G ns) : ∃ c l, st.w = .tup (.str c :: l) ∧ decide (c = "ask") = st.asks := by
  cases st with
  | put y e => exact ⟨_, _, rfl, s_pa⟩
  | say e => exact ⟨_, _, rfl, s_sa⟩
  | ask y => exact ⟨_, _, rfl, decide_eq_true rfl⟩
noncomputable def bD : Env' → M Fl := (sSeq (sIf (mB (mMet "Doing" "lacks_number" 2 f_Doing_lacks_number (mVar 0) (mCons (mVar 2) mNil))) (sRet (mC (.bl false))) sNil) (sEx (mMet "Doing" "do_statement" 2 f_Doing_do_statement (mVar 0) (mCons (mVar 2) mNil))))
theorem parts_do_statements : g_do_statements = (sSeq (sFor (mSrc (mVar 1) srcL) (tgN 2) bD) (sRet (mC (.bl true)))) := rfl
section
variable {ns : List Str} {d kh kS : Nat} {nums : List Int}
theorem dos_for {x : W} {G : List Ob → Prop} {h0 : List Ob} (hG : ∀ h, (∀ i, i < h0.length → h[i]? = h0[i]?) → G h) (hd : h0.length ≤ d ∧ h0.length ≤ kh ∧ h0.length ≤ kS) : ∀ (l : List Sm) (s : Sta) (h : List Ob) (a : Option W), (∀ st ∈ l, st.G ns) → DoAt h d kh kS nums s → Has ns s.σ → s.said.length + l.length ≤ 100000 → (∀ i, i < h0.length → h[i]? = h0[i]?) → Ok (L2.forM G (tgN 2) bD (l.map Sm.w) [some (.loc d), some x, a]) h fun r h' => DoAt h' d kh kS nums (doL nums s l).1 ∧ Has ns (doL nums s l).1.σ ∧ On3 d kh kS h h' ∧ (((doL nums s l).2 = true ∧ ∃ a', r = .nx [some (.loc d), some x, a']) ∨ ((doL nums s l).2 = false ∧ r = .rt (.bl false)))
  | [], s, h, a, _, D, H, _, f => by
    refine ⟨.nx [some (.loc d), some x, a], h, ?_, D, H, On3.refl, .inl ⟨rfl, a, rfl⟩⟩
    show L2.forM G (tgN 2) bD [] _ h = _
    unfold L2.forM
    rw [gdh_pos (hG h f)]; rfl
  | st :: l, s, h, a, g, D, H, z, f => by
    have gst := g st List.mem_cons_self
    obtain ⟨c, m, ew, ha⟩ := stm_head gst
    have step : Ok (bD [some (.loc d), some x, some st.w]) h fun r h' => (lacks nums s st = true ∧ r = .rt (.bl false) ∧ h' = h) ∨ (lacks nums s st = false ∧ r = .nx [some (.loc d), some x, some st.w] ∧ DoAt h' d kh kS nums (doS nums s st) ∧ Has ns (doS nums s st).σ ∧ On3 d kh kS h h') := by
      rw [ew]
      try simp! only [bD, mMet, bd_assoc]
      refine ok_isI D.ob (by unfold nsD; decide +kernel) ?_
      try simp! only [bd_assoc]
      refine k_lacks D ?_
      cases hl : lacks nums s st with
      | true =>
        have hl' : (decide (c = "ask") && decide (s.taken = nums.length)) = true := by rw [ha]; exact hl
        try simp! only [bd_assoc, hl']
        exact ok_pr (.inl ⟨by first | rfl | trivial, rfl, rfl⟩)
      | false =>
        have hl' : (decide (c = "ask") && decide (s.taken = nums.length)) = false := by rw [ha]; exact hl
        try simp! only [bd_assoc, hl']
        refine ok_isI D.ob (by unfold nsD; decide +kernel) ?_
        try simp! only [bd_assoc]
        rw [← ew]
        refine ok_bd (do_ok D H gst hl (by rw [List.length_cons] at z; omega)) fun w h1 ⟨ew1, D1, H1, O1⟩ => ?_
        subst ew1
        try simp! only [bd_assoc]
        exact ok_pr (.inr ⟨by first | rfl | trivial, rfl, D1, H1, O1⟩)
    obtain ⟨r, h1, e1, q⟩ := step
    have fe : L2.forM G (tgN 2) bD ((st :: l).map Sm.w) [some (.loc d), some x, a] h = (match bD [some (.loc d), some x, some st.w] h with
      | .ok (.nx r) h' => L2.forM G (tgN 2) bD (l.map Sm.w) r h'
      | .ok (.ct r) h' => L2.forM G (tgN 2) bD (l.map Sm.w) r h'
      | .ok (.bk r) h' => .ok (.nx r) h'
      | .ok (.rt w) h' => .ok (.rt w) h'
      | .ex c h' => .ex c h'
      | .bad => .bad) := by
      rw [List.map_cons]
      conv => lhs; unfold L2.forM
      rw [gdh_pos (hG h f)]
      show (bd (bD [some (.loc d), some x, some st.w]) _) h = _
      unfold bd
      cases bD [some (.loc d), some x, some st.w] h with
      | ok a h' => cases a <;> rfl
      | ex c h' => rfl
      | bad => rfl
    rcases q with ⟨hl, rfl, rfl⟩ | ⟨hl, rfl, D1, H1, O1⟩
    · have ed : doL nums s (st :: l) = (s, false) := by unfold doL; rw [if_pos hl]
      rw [ed]
      refine ⟨.rt (.bl false), _, ?_, D, H, On3.refl, .inr ⟨rfl, rfl⟩⟩
      rw [fe, e1]
    · have ed : doL nums s (st :: l) = doL nums (doS nums s st) l := by
        conv => lhs; unfold doL
        rw [hl, if_neg Bool.false_ne_true]
      rw [ed]
      have f1 : ∀ i, i < h0.length → h1[i]? = h0[i]? := fun i hi => (O1.eq i (by omega) (by omega) (by omega)).trans (f i hi)
      obtain ⟨r2, h2, e2, D2, H2, O2, q2⟩ := dos_for hG hd l (doS nums s st) h1 (some st.w) (fun y hy => g y (List.mem_cons_of_mem _ hy)) D1 H1 (by have := doS_len nums s st; rw [List.length_cons] at z; omega) f1
      refine ⟨r2, h2, ?_, D2, H2, O1.trans O2, q2⟩
      rw [fe, e1]; exact e2
theorem dos_ok {h h0 : List Ob} {s : Sta} {y : W} {l : List Sm} (L : Lw h0 y (l.map Sm.w)) (f : ∀ i, i < h0.length → h[i]? = h0[i]?) (hd : h0.length ≤ d ∧ h0.length ≤ kh ∧ h0.length ≤ kS) (g : ∀ st ∈ l, st.G ns) (D : DoAt h d kh kS nums s) (H : Has ns s.σ) (z : s.said.length + l.length ≤ 100000) : Ok (f_do_statements [.loc d, y]) h fun r h' => r = .bl (doL nums s l).2 ∧ DoAt h' d kh kS nums (doL nums s l).1 ∧ Has ns (doL nums s l).1.σ ∧ On3 d kh kS h h' := by
  have e0 : f_do_statements [.loc d, y] = bd (g_do_statements [some (.loc d), some y, none]) finF := rfl
  rw [e0, parts_do_statements]
  try simp! only [sFor, bd_assoc]
  refine (L.keep f).src fun G hG => ?_
  refine ok_bd (dos_for (h0 := h0) (fun h' f' => hG h' (L.keep f')) hd l s h none g D H z f) fun r h' ⟨D1, H1, O1, q⟩ => ?_
  rcases q with ⟨q, a, rfl⟩ | ⟨q, rfl⟩
  · try simp! only [bd_assoc]
    exact ok_pr ⟨by rw [q], D1, H1, O1⟩
  · try simp! only [bd_assoc]
    exact ok_pr ⟨by rw [q], D1, H1, O1⟩
theorem c_gi : decide (("go" : Str) = "if") = false := by decide +kernel
theorem c_gt : decide (("go" : Str) = "table") = false := by decide +kernel
theorem c_gs : decide (("go" : Str) = "stop") = false := by decide +kernel
theorem c_ig : decide (("if" : Str) = "go") = false := by decide +kernel
theorem c_is : decide (("if" : Str) = "stop") = false := by decide +kernel
theorem c_tg : decide (("table" : Str) = "go") = false := by decide +kernel
theorem c_ti : decide (("table" : Str) = "if") = false := by decide +kernel
theorem c_ts : decide (("table" : Str) = "stop") = false := by decide +kernel
theorem sides_eq {m : Nat} {e : En} (g : e.G ns m) (n : e.stops = false) : f_sides_of [e.w] = pr (.tup ((sides e).map nI)) := by
  have e0 : f_sides_of [e.w] = bd (g_sides_of [some e.w]) finF := rfl
  rw [e0]
  unfold g_sides_of
  cases e with
  | stop => cases n
  | go t =>
    unfold En.w sides
    try simp! only [bd_assoc, ix0, ix1, eq_self, decide_true, tupW]
    rfl
  | iff s a b x y =>
    unfold En.w sides
    try simp! only [bd_assoc, ix0, ix1, ix4, ix5, eq_self, decide_true, c_ig, tupW]
    rfl
  | tab e ts =>
    unfold En.w sides
    try simp! only [bd_assoc, ix0, ix1, ix2, eq_self, decide_true, c_tg, c_ti]
theorem k_side {β : Type} {h : List Ob} {s : Sta} {m : Nat} {e : En} {k : W → M β} {Q : β → List Ob → Prop} (D : DoAt h d kh kS nums s) (H : Has ns s.σ) (g : e.G ns m) (n : e.stops = false) (q : Ok (k (nI (side s.σ e))) h Q) : Ok (bd (f_side_taken [.loc d, e.w]) k) h Q := by
  refine ok_bd (P := fun w h' => w = nI (side s.σ e) ∧ h' = h) ?_ fun w h' ⟨e1, e2⟩ => by subst e1 e2; exact q
  have e0 : f_side_taken [.loc d, e.w] = bd (g_side_taken [some (.loc d), some e.w]) finF := rfl
  rw [e0]
  unfold g_side_taken
  cases e with
  | stop => cases n
  | go t =>
    unfold En.w side
    try simp! only [bd_assoc, ix0, ix1, c_gi, c_gt]
    exact ok_pr ⟨rfl, rfl⟩
  | iff c a b x y =>
    obtain ⟨_, ga, gb, _⟩ := g
    unfold En.w side
    try simp! only [mMet, bd_assoc, ix0, ix1, ix2, ix3, eq_self, decide_true]
    refine ok_isI D.ob (by unfold nsD; decide +kernel) ?_
    try simp! only [bd_assoc, ix0, ix1, ix2, ix3]
    refine k_holds D H ga gb ?_
    cases hq : cond s.σ c a b <;> (try simp! only [bd_assoc]) <;> exact ok_pr ⟨rfl, rfl⟩
  | tab e ts =>
    obtain ⟨ge, l1, _, _⟩ := g
    have em : e.val s.σ % (ts.length : Int) = (((e.val s.σ % (ts.length : Int)).toNat : Nat) : Int) := (Int.toNat_of_nonneg (Int.emod_nonneg _ (by omega))).symm
    unfold En.w side
    try simp! only [mMet, bd_assoc, ix0, ix1, ix2, eq_self, decide_true, c_ti]
    refine ok_isI D.ob (by unfold nsD; decide +kernel) ?_
    try simp! only [bd_assoc, ix0, ix1, ix2, List.length_map]
    refine k_chosen D H ge (by omega) ?_
    try simp! only [bd_assoc]
    exact ok_pr ⟨by rw [em]; rfl, rfl⟩
theorem side_lt {m : Nat} {e : En} (σ : Sto) (g : e.G ns m) (n : e.stops = false) : side σ e < (sides e).length := by
  cases e with
  | stop => cases n
  | go t => exact Nat.zero_lt_one
  | iff c a b x y => show (if cond σ c a b = true then 0 else 1) < 2; split <;> decide
  | tab e ts =>
    obtain ⟨_, l1, _, _⟩ := g
    have q1 : 0 ≤ e.val σ % (ts.length : Int) := Int.emod_nonneg _ (by omega)
    have q2 : e.val σ % (ts.length : Int) < ts.length := Int.emod_lt_of_pos _ (by omega)
    show (e.val σ % ts.length).toNat < ts.length
    omega
theorem sides_lt {m : Nat} {e : En} (g : e.G ns m) : ∀ t ∈ sides e, t < m := by
  cases e with
  | stop => intro t ht; cases ht
  | go t => intro u hu; rw [List.mem_singleton.mp hu]; exact g
  | iff c a b x y =>
    intro u hu
    obtain ⟨_, _, _, gx, gy⟩ := g
    rcases List.mem_cons.mp hu with rfl | hu
    · exact gx
    · rw [List.mem_singleton.mp hu]; exact gy
  | tab e ts => exact g.2.2.2
theorem to_lt {m : Nat} {e : En} (σ : Sto) (g : e.G ns m) (n : e.stops = false) : to σ e < m := by
  have h := side_lt σ g n
  unfold to
  rw [List.getD_eq_getElem?_getD, List.getElem?_eq_getElem h, Option.getD_some]
  exact sides_lt g _ (List.getElem_mem _)
theorem end_head {m : Nat} {e : En} (g : e.G ns m) : ∃ c l, e.w = .tup (.str c :: l) ∧ decide (c = "stop") = e.stops := by
  cases e with
  | stop => exact ⟨_, _, rfl, decide_eq_true rfl⟩
  | go t => exact ⟨_, _, rfl, c_gs⟩
  | iff c a b x y => exact ⟨_, _, rfl, c_is⟩
  | tab e ts => exact ⟨_, _, rfl, c_ts⟩
end
noncomputable def tB : Env' → M Bool := (mB (m2 ltW (mCall lenW (mCons (mVar 4) mNil)) (mVar 2)))
noncomputable def bB : Env' → M Fl := (sSeq (sSet 6 (m2 ixW (m2 ixW (mVar 0) (mC (.int 1))) (mVar 5))) (sSeq (sIf (mNot (mB (mCall (arW 2 f_do_statements) (mCons (mVar 3) (mCons (m2 ixW (mVar 6) (mC (.int 1))) mNil))))) (sRet (mTup (mCons (m1 (fldG "Doing" "said") (mVar 3)) (mCons (mTup (mCons (mC (.str "out")) mNil)) (mCons (mVar 4) mNil))))) sNil) (sSeq (sSet 7 (m2 ixW (mVar 6) (mC (.int 2)))) (sSeq (sIf (mB (m2 eqW (m2 ixW (mVar 7) (mC (.int 0))) (mC (.str "stop")))) (sRet (mTup (mCons (m1 (fldG "Doing" "said") (mVar 3)) (mCons (mTup (mCons (mC (.str "stop")) mNil)) (mCons (mVar 4) mNil))))) sNil) (sSeq (sSet 8 (mCall (arW 2 f_side_taken) (mCons (mVar 3) (mCons (mVar 7) mNil)))) (sSeq (sSet 9 (m2 ixW (mCall (arW 1 f_sides_of) (mCons (mVar 7) mNil)) (mVar 8))) (sSeq (sEx (mMeth isL appendW (mVar 4) (mCons (mTup (mCons (mVar 5) (mCons (mVar 8) (mCons (mVar 9) mNil)))) mNil))) (sSet 5 (mVar 9)))))))))
theorem parts_run : g_run = (sSeq (sSet 3 (mMake "Doing" 3 f_Doing___init__ (mCons (m2 ixW (mVar 0) (mC (.int 0))) (mCons (mVar 1) mNil)))) (sSeq (sSet 4 (mNew (lenG mNil))) (sSeq (sSet 5 (mC (.int 0))) (sSeq (whileM tB bB 42) (sRet (mTup (mCons (m1 (fldG "Doing" "said") (mVar 3)) (mCons (mTup (mCons (mC (.str "on")) mNil)) (mCons (mVar 4) mNil))))))))) := rfl
def envB (x nm : W) (bound : Int) (d kw : Nat) (place : Nat) (a6 a7 a8 a9 : Option W) : Env' := [some x, some nm, some (.int bound), some (.loc d), some (.loc kw), some (nI place), a6, a7, a8, a9]
section
variable {d kh kS kw : Nat} {nums : List Int} {ps : List (Str × Int)} {bs : List Bl} {x nm : W} {bound : Int} {h0 : List Ob}
theorem loopB_ok (PG : PgG ps bs) (PA : PgAt h0 x ps bs) (d0 : h0.length ≤ d) (d1 : h0.length ≤ kh) (d2 : h0.length ≤ kS) (d3 : h0.length ≤ kw) (w1 : kw ≠ d) (w2 : kw ≠ kh) (w3 : kw ≠ kS) : ∀ (n m : Nat) (p : Nat) (s : Sta) (went : List (Nat × Nat × Nat)) (h : List Ob) (a6 a7 a8 a9 : Option W), n < m → (went.length : Int) + n = bound → DoAt h d kh kS nums s → Has (ps.map (·.1)) s.σ → p < bs.length → s.said.length + 8 * n ≤ 100000 → went.length + n ≤ 10000 → h[kw]? = some (.lst (went.map wayW)) → (∀ i, i < h0.length → h[i]? = h0[i]?) → Ok (whileM tB bB m (envB x nm bound d kw p a6 a7 a8 a9)) h fun r h' => (∀ i, i < h0.length → h'[i]? = h0[i]?) ∧ h'[kS]? = some (.lst ((runB nums bs n p s).said.map W.int)) ∧ h'[kw]? = some (.lst ((went ++ (runB nums bs n p s).went).map wayW)) ∧ (r = .rt (.tup [.loc kS, .tup [.str (runB nums bs n p s).en], .loc kw]) ∨ ∃ (p' : Nat) (s' : Sta) (b6 b7 b8 b9 : Option W), r = .nx (envB x nm bound d kw p' b6 b7 b8 b9) ∧ (runB nums bs n p s).en = "on" ∧ DoAt h' d kh kS nums s')
  | 0, m + 1, p, s, went, h, a6, a7, a8, a9, hm, hb, D, H, hp, hz, hw, ew, f => by
    refine wh_f ?_ ⟨f, D.said, by show _ = some (Ob.lst ((went ++ []).map wayW)); rw [List.append_nil]; exact ew, .inr ⟨p, s, a6, a7, a8, a9, rfl, rfl, D⟩⟩
    obtain ⟨N, hN⟩ : ∃ N : Int, N = ((went.map wayW).length : Int) := ⟨_, rfl⟩
    have hN' : N = (went.length : Int) := by rw [hN, List.length_map]
    have hc : ¬ N < bound := by omega
    have LW : Lw h (.loc kw) (went.map wayW) := .inr ⟨kw, rfl, ew⟩
    try simp! only [tB, envB, bd_assoc]
    refine LW.len_eq hN ?_
    try simp! only [bd_assoc, decide_eq_false hc]
    exact ok_pr ⟨rfl, rfl⟩
  | n + 1, m + 1, p, s, went, h, a6, a7, a8, a9, hm, hb, D, H, hp, hz, hw, ew, f => by
    refine wh_t ?_ ?_
    · obtain ⟨N, hN⟩ : ∃ N : Int, N = ((went.map wayW).length : Int) := ⟨_, rfl⟩
      have hN' : N = (went.length : Int) := by rw [hN, List.length_map]
      have hc : N < bound := by omega
      have LW : Lw h (.loc kw) (went.map wayW) := .inr ⟨kw, rfl, ew⟩
      try simp! only [tB, envB, bd_assoc]
      refine LW.len_eq hN ?_
      try simp! only [bd_assoc, decide_eq_true hc]
      exact ok_pr ⟨rfl, rfl⟩
    obtain ⟨b, eb⟩ : ∃ b, bs[p]? = some b := ⟨_, List.getElem?_eq_getElem hp⟩
    obtain ⟨g1, g2, g3⟩ := PG.g b (List.mem_of_getElem? eb)
    obtain ⟨bx, bl, ls, ex, LB, LL, ll, q⟩ := PA
    obtain ⟨y, ey, LY⟩ := q p b eb
    obtain ⟨c, l, ec, hc⟩ := end_head g3
    have PA' : PgAt h0 x ps bs := ⟨bx, bl, ls, ex, LB, LL, ll, q⟩
    have x1 : ixW x (.int 1) = pr bl := by rw [ex]; exact ix1 _ _ _
    try simp! only [bB, envB, bd_assoc, x1]
    refine (LL.keep f).ix (atI_nat ey) ?_
    try simp! only [bd_assoc, ix1]
    refine ok_bd (dos_ok LY f ⟨d0, d1, d2⟩ g2 D H (by omega)) fun r h1 ⟨er, D1, H1, O1⟩ => ?_
    subst er
    have f1 : ∀ i, i < h0.length → h1[i]? = h0[i]? := fun i hi => (O1.eq i (by omega) (by omega) (by omega)).trans (f i hi)
    have ew1 : h1[kw]? = some (.lst (went.map wayW)) := (O1.eq kw w1 w2 w3).trans ew
    cases hd : (doL nums s b.sts).2 with
    | false =>
      have er : runB nums bs (n + 1) p s = ⟨(doL nums s b.sts).1.said, "out", []⟩ := by
        conv => lhs; unfold runB
        rw [eb]; dsimp only; rw [if_pos hd]
      rw [er]
      try simp! only [bd_assoc]
      refine ok_fld D1.ob (lk_said ..) ?_
      try simp! only [bd_assoc, tupW]
      exact ok_pr (.inr ⟨_, rfl, f1, D1.said, by rw [List.append_nil]; exact ew1, .inl rfl⟩)
    | true =>
      try simp! only [bd_assoc, ix2]
      cases hs : b.en.stops with
      | true =>
        have er : runB nums bs (n + 1) p s = ⟨(doL nums s b.sts).1.said, "stop", []⟩ := by
          conv => lhs; unfold runB
          rw [eb]; dsimp only; rw [hd, if_neg (by simp), hs, if_pos rfl]
        rw [er]
        rw [hs] at hc
        try simp! only [bd_assoc, ec, ix0, hc]
        refine ok_fld D1.ob (lk_said ..) ?_
        try simp! only [bd_assoc, tupW]
        exact ok_pr (.inr ⟨_, rfl, f1, D1.said, by rw [List.append_nil]; exact ew1, .inl rfl⟩)
      | false =>
        have er : runB nums bs (n + 1) p s = ⟨(runB nums bs n (to (doL nums s b.sts).1.σ b.en) (doL nums s b.sts).1).said, (runB nums bs n (to (doL nums s b.sts).1.σ b.en) (doL nums s b.sts).1).en, (p, side (doL nums s b.sts).1.σ b.en, to (doL nums s b.sts).1.σ b.en) :: (runB nums bs n (to (doL nums s b.sts).1.σ b.en) (doL nums s b.sts).1).went⟩ := by
          conv => lhs; unfold runB
          rw [eb]; dsimp only; rw [hd, if_neg (by simp), hs, if_neg (by simp)]
        rw [er]
        rw [hs] at hc
        have sd := side_lt (doL nums s b.sts).1.σ g3 hs
        have tl := to_lt (doL nums s b.sts).1.σ g3 hs
        have dl := doL_len nums b.sts s
        have at0 : atI ((sides b.en).map nI) ((side (doL nums s b.sts).1.σ b.en : Nat) : Int) = some (nI (to (doL nums s b.sts).1.σ b.en)) := by
          refine atI_nat ?_
          unfold to
          rw [List.getElem?_map, List.getD_eq_getElem?_getD, List.getElem?_eq_getElem sd, Option.getD_some]; rfl
        have e1 : ixW (.tup ((sides b.en).map nI)) (nI (side (doL nums s b.sts).1.σ b.en)) = pr (nI (to (doL nums s b.sts).1.σ b.en)) := ixW_tup at0
        rw [ec]
        try simp! only [bd_assoc, ix0, hc]
        rw [← ec]
        refine k_side D1 H1 g3 hs ?_
        try simp! only [bd_assoc, sides_eq g3 hs, e1]
        refine ok_isL ew1 ?_
        try simp! only [bd_assoc, tupW]
        refine ok_app ew1 (by rw [List.length_map]; exact Nat.lt_of_le_of_lt (show went.length ≤ 10000 by omega) (by decide)) ?_
        try simp! only [bd_assoc]
        have D2 : DoAt (h1.set kw (.lst (went.map wayW ++ [.tup [nI p, nI (side (doL nums s b.sts).1.σ b.en), nI (to (doL nums s b.sts).1.σ b.en)]]))) d kh kS nums (doL nums s b.sts).1 := D1.keep fun i hi => by
          rw [List.getElem?_set_ne]
          rcases hi with rfl | rfl | rfl
          · exact w1
          · exact w2
          · exact w3
        have ih := loopB_ok PG PA' d0 d1 d2 d3 w1 w2 w3 n m (to (doL nums s b.sts).1.σ b.en) (doL nums s b.sts).1 (went ++ [(p, side (doL nums s b.sts).1.σ b.en, to (doL nums s b.sts).1.σ b.en)]) (h1.set kw (.lst (went.map wayW ++ [.tup [nI p, nI (side (doL nums s b.sts).1.σ b.en), nI (to (doL nums s b.sts).1.σ b.en)]]))) (some (.tup [.str b.nm, y, b.en.w])) (some b.en.w) (some (nI (side (doL nums s b.sts).1.σ b.en))) (some (nI (to (doL nums s b.sts).1.σ b.en))) (by omega) (by rw [List.length_append]; show ((went.length + 1 : Nat) : Int) + n = bound; omega) D2 H1 tl (by omega) (by rw [List.length_append]; show went.length + 1 + n ≤ 10000; omega) (by rw [set_get ew1, List.map_append]; rfl) fun i hi => by rw [List.getElem?_set_ne (by omega)]; exact f1 i hi
        refine ok_pr (.inl ⟨_, rfl, Ok.imp ih fun r h' ⟨q1, q2, q3, q4⟩ => ⟨q1, q2, by rw [List.append_assoc] at q3; exact q3, q4⟩⟩)
theorem run_ok {h : List Ob} {bound : Nat} (PG : PgG ps bs) (PA : PgAt h x ps bs) (LN : Lw h nm (nums.map W.int)) (hb : bound < 42) : Ok (f_run [x, nm, nI bound]) h fun w h' => (∀ i, i < h.length → h'[i]? = h[i]?) ∧ ∃ k k', h.length ≤ k ∧ h.length ≤ k' ∧ k ≠ k' ∧ w = .tup [.loc k, .tup [.str (runB nums bs bound 0 (sta0 ps)).en], .loc k'] ∧ h'[k]? = some (.lst ((runB nums bs bound 0 (sta0 ps)).said.map W.int)) ∧ h'[k']? = some (.lst ((runB nums bs bound 0 (sta0 ps)).went.map wayW)) := by
  have e0 : f_run [x, nm, nI bound] = bd (g_run [some x, some nm, some (nI bound), none, none, none, none, none, none, none]) finF := rfl
  rw [e0, parts_run]
  obtain ⟨bx, bl, ls, ex, LB, LL, ll, q⟩ := PA
  have PA' : PgAt h x ps bs := ⟨bx, bl, ls, ex, LB, LL, ll, q⟩
  try simp! only [bd_assoc]
  refine k_make (bx := bx) (by rw [ex]; try simp! only [bd_assoc, ix0]) LB LN fun h1 D l1 f1 => ?_
  try simp! only [bd_assoc]
  refine ok_new ?_
  try simp! only [bd_assoc]
  rw [l1]
  have D' : DoAt (h1 ++ [Ob.lst []]) h.length (h.length + 1) (h.length + 2) nums (sta0 ps) := D.keep fun i hi => List.getElem?_append_left (by omega)
  have lp := loopB_ok (nm := nm) (bound := (bound : Int)) (kw := h.length + 3) PG PA' (Nat.le_refl _) (Nat.le_succ _) (Nat.le_add_right _ _) (Nat.le_add_right _ _) (by omega) (by omega) (by omega) bound 42 0 (sta0 ps) [] (h1 ++ [Ob.lst []]) none none none none hb (by show (((([] : List (Nat × Nat × Nat)).length : Nat) : Int)) + bound = bound; simp) D' (Has.first PG.bx.len PG.bv) PG.l1 (by show 0 + 8 * bound ≤ 100000; omega) (by show 0 + bound ≤ 10000; omega) (by rw [← l1]; exact get_end) fun i hi => by rw [List.getElem?_append_left (by omega)]; exact f1 i hi
  refine ok_bd lp fun r h2 ⟨q1, q2, q3, q4⟩ => ?_
  rcases q4 with rfl | ⟨p', s', b6, b7, b8, b9, rfl, q5, q6⟩
  · try simp! only [bd_assoc]
    exact ok_pr ⟨q1, _, _, Nat.le_add_right _ _, Nat.le_add_right _ _, by omega, rfl, q2, q3⟩
  · try simp! only [envB, bd_assoc]
    refine ok_fld q6.ob (lk_said ..) ?_
    try simp! only [bd_assoc, tupW]
    exact ok_pr ⟨q1, _, _, Nat.le_add_right _ _, Nat.le_add_right _ _, by omega, by rw [q5], q2, q3⟩
end
end Q
set_option maxHeartbeats 1000000
namespace Q
open PySem L2
local macro_rules | `(tactic| simp! only [$xs,*]) => `(tactic| try simp only [finF, sSeq, sIf, sRet, sSet, sNil, sEx, sPass, sBreak, sCont, sUnp, sStore, mB, L2.m2, L2.m1, L2.m3, mVar, mC, mCall, mCons, mNil, mTup, mTl, mNew, lenG, listL, mPart, mNoPart, mAnd, mOr, mNot, mAndV, mOrV, mNotV, mIf, mChain, mMeth, isS, mSrc, mSrcA, srcL, srcT, srcS, tgN, tgT, setW, mYes, bd_prN, bd_no, asB_bl, addW_int, subW_int, ltW_int, leW_int, gtW_int, geW_int, eqW_int, eqW_str, neW_int, neW_str, neW_bl, slW_tl, slW_cl, lenW_tl, lenW_tup, negW, List.set_cons_zero, List.set_cons_succ, List.getElem?_cons_zero, List.getElem?_cons_succ, List.length_cons, List.length_nil, arW, if_true, if_false, Bool.false_eq_true, ite_true, ite_false, reduceIte, decide_true, decide_false, Bool.not_true, Bool.not_false, gd_tt, gdn0, gdn1, gdn2, gdn3, gdn4, gdn5, gdn6, gdn7, gdn8, gdn9, gdn10, gdn11, gdn12, gdn13, gdn14, gdn15, gdn16, gdn17, gdn18, gdn19, gdn20, gdn21, gdn22, gdn23, gdn24, $xs,*])
def T30 : Int := 10 ^ (30 : Int).toNat
theorem t30a : 0 < T30 := by decide +kernel
theorem t30b : T30 < 2 ^ 200 := by decide +kernel
theorem pw30 : powW (.int 10) (.int 30) = pr (.int T30) := powW_int (i := 10) (j := 30) ⟨by decide, by decide, by decide⟩
theorem number_ok {h : List Ob} {j : Nat} (R : Reel h j) : Ok (f_law_number [.loc j]) h fun w h' => (∃ v : Int, w = .int v) ∧ Kp j h h' := by
  have e0 : f_law_number [.loc j] = bd (g_law_number [some (.loc j), none]) finF := rfl
  rw [e0]
  unfold g_law_number
  try simp! only [bd_assoc]
  refine k_take R (by decide) (by decide) fun v h1 v0 v1 K1 => ?_
  by_cases c0 : v = 0
  · try simp! only [bd_assoc, decide_eq_true c0, pw30]
    refine k_take K1.re t30a t30b fun u h2 u0 u1 K2 => ?_
    try simp! only [bd_assoc]
    exact ok_pr ⟨⟨_, rfl⟩, K1.trans K2⟩
  by_cases c1 : v = 1
  · try simp! only [bd_assoc, decide_eq_false c0, decide_eq_true c1, pw30]
    refine k_take K1.re t30a t30b fun u h2 u0 u1 K2 => ?_
    try simp! only [bd_assoc]
    exact ok_pr ⟨⟨_, rfl⟩, K1.trans K2⟩
  by_cases c2 : v = 2
  · try simp! only [bd_assoc, decide_eq_false c0, decide_eq_false c1, decide_eq_true c2]
    refine k_take K1.re (by decide) (by decide) fun u h2 u0 u1 K2 => ?_
    try simp! only [bd_assoc]
    exact ok_pr ⟨⟨_, rfl⟩, K1.trans K2⟩
  · try simp! only [bd_assoc, decide_eq_false c0, decide_eq_false c1, decide_eq_false c2]
    refine k_take K1.re (by decide) (by decide) fun u h2 u0 u1 K2 => ?_
    try simp! only [bd_assoc]
    exact ok_pr ⟨⟨_, rfl⟩, K1.trans K2⟩
theorem srcL_tl (l : List W) : srcL (.tl l) = pr ⟨l, fun _ => True⟩ := rfl
theorem addW_tl (a b : List W) (h : a.length + b.length ≤ sizeLine) : addW (.tl a) (.tl b) = pr (.tl (a ++ b)) := by
  show gd (a.length + b.length ≤ sizeLine) (pr (W.tl (a ++ b))) = _
  exact gd_pos h
theorem cut_len {α : Type} (ns : List α) (a b : Nat) : (cutW ns (some (a : Int)) (some (b : Int))).length ≤ b - a := by
  unfold cutW
  rw [List.length_take]
  refine Nat.le_trans (Nat.min_le_left _ _) ?_
  show (if (b : Int) < 0 then ((b : Int) + (ns.length : Int)).toNat else min (b : Int).toNat ns.length) - (if (a : Int) < 0 then ((a : Int) + (ns.length : Int)).toNat else min (a : Int).toNat ns.length) ≤ b - a
  rw [if_neg (by omega), if_neg (by omega)]
  omega
end Q
set_option maxHeartbeats 1000000
namespace Q
open PySem L2
local macro_rules | `(tactic| simp! only [$xs,*]) => `(tactic| try simp only [finF, sSeq, sIf, sRet, sSet, sNil, sEx, sPass, sBreak, sCont, sUnp, sStore, mB, L2.m2, L2.m1, L2.m3, mVar, mC, mCall, mCons, mNil, mTup, mTl, mNew, lenG, listL, mPart, mNoPart, mAnd, mOr, mNot, mAndV, mOrV, mNotV, mIf, mChain, mMeth, isS, mSrc, mSrcA, srcL, srcT, srcS, tgN, tgT, setW, mYes, bd_prN, bd_no, asB_bl, addW_int, subW_int, ltW_int, leW_int, gtW_int, geW_int, eqW_int, eqW_str, neW_int, neW_str, neW_bl, slW_tl, slW_cl, lenW_tl, lenW_tup, negW, List.set_cons_zero, List.set_cons_succ, List.getElem?_cons_zero, List.getElem?_cons_succ, List.length_cons, List.length_nil, arW, if_true, if_false, Bool.false_eq_true, ite_true, ite_false, reduceIte, decide_true, decide_false, Bool.not_true, Bool.not_false, gd_tt, gdn0, gdn1, gdn2, gdn3, gdn4, gdn5, gdn6, gdn7, gdn8, gdn9, gdn10, gdn11, gdn12, gdn13, gdn14, gdn15, gdn16, gdn17, gdn18, gdn19, gdn20, gdn21, gdn22, gdn23, gdn24, $xs,*])
theorem runB_len (nums : List Int) {ps : List (Str × Int)} {bs : List Bl} (G : PgG ps bs) : ∀ (n p : Nat) (s : Sta), (runB nums bs n p s).said.length ≤ s.said.length + 8 * n ∧ (runB nums bs n p s).went.length ≤ n
  | 0, p, s => ⟨Nat.le_refl _, Nat.le_refl _⟩
  | n + 1, p, s => by
    unfold runB
    split
    · exact ⟨Nat.le_add_right _ _, Nat.zero_le _⟩
    · rename_i b hb
      have dl := doL_len nums b.sts s
      have := (G.g b (List.mem_of_getElem? hb)).1
      split
      · exact ⟨by show (doL nums s b.sts).1.said.length ≤ _; omega, Nat.zero_le _⟩
      · split
        · exact ⟨by show (doL nums s b.sts).1.said.length ≤ _; omega, Nat.zero_le _⟩
        · obtain ⟨q1, q2⟩ := runB_len nums G n (to (doL nums s b.sts).1.σ b.en) (doL nums s b.sts).1
          exact ⟨by show (runB nums bs n (to (doL nums s b.sts).1.σ b.en) (doL nums s b.sts).1).said.length ≤ _; omega, by show (runB nums bs n (to (doL nums s b.sts).1.σ b.en) (doL nums s b.sts).1).went.length + 1 ≤ n + 1; omega⟩
theorem alI {h : List Ob} {x y : W} {l : List Int} {n : Nat} (e : Lw h x (l.map W.int)) (e2 : Lw h y (l.map W.int)) (hl : l.length ≤ 1000) : Al h (n + 2) x y := .inr (.inr ⟨_, _, .inr ⟨e, e2⟩, rfl, by rw [List.length_map]; exact hl, fun i a b ha hb => by
  rw [ha] at hb
  cases hb
  rw [List.getElem?_map] at ha
  obtain ⟨v, _, rfl⟩ := Option.map_eq_some_iff.mp ha
  exact .inl ⟨v, rfl, rfl⟩⟩)
theorem pd_way {n : Nat} (w : Nat × Nat × Nat) : Pd (n + 2) (wayW w) := pdT (by simp) (pd_cons .int (pd_cons .int (pd_cons .int pd_nil)))
theorem alW {h : List Ob} {x y : W} {l : List (Nat × Nat × Nat)} {n : Nat} (e : Lw h x (l.map wayW)) (e2 : Lw h y (l.map wayW)) (hl : l.length ≤ 1000) : Al h (n + 3) x y := .inr (.inr ⟨_, _, .inr ⟨e, e2⟩, rfl, by rw [List.length_map]; exact hl, fun i a b ha hb => by
  rw [ha] at hb
  cases hb
  rw [List.getElem?_map] at ha
  obtain ⟨v, _, rfl⟩ := Option.map_eq_some_iff.mp ha
  exact (pd_way v).al⟩)
/-- two told runs -/
theorem alO {h : List Ob} {o : OutB} {a b c d : W} (h1 : Lw h a (o.said.map W.int)) (h2 : Lw h b (o.said.map W.int)) (h3 : Lw h c (o.went.map wayW)) (h4 : Lw h d (o.went.map wayW)) (l1 : o.said.length ≤ 1000) (l2 : o.went.length ≤ 1000) : Al h 16 (.tup [a, .tup [.str o.en], c]) (.tup [b, .tup [.str o.en], d]) := .inr (.inr ⟨_, _, .inl ⟨rfl, rfl⟩, rfl, by simp, fun i x y ha hb => by
  match i, ha, hb with
  | 0, ha, hb => cases ha; cases hb; exact alI h1 h2 l1
  | 1, ha, hb => cases ha; cases hb; exact (pdT (n := 14) (by simp) (pd_cons .str pd_nil)).al
  | 2, ha, hb => cases ha; cases hb; exact alW h3 h4 l2
  | n + 3, ha, hb => simp at ha⟩)
end Q
set_option maxHeartbeats 1000000
namespace Q
open PySem L2
local macro_rules | `(tactic| simp! only [$xs,*]) => `(tactic| try simp only [finF, sSeq, sIf, sRet, sSet, sNil, sEx, sPass, sBreak, sCont, sUnp, sStore, mB, L2.m2, L2.m1, L2.m3, mVar, mC, mCall, mCons, mNil, mTup, mTl, mNew, lenG, listL, mPart, mNoPart, mAnd, mOr, mNot, mAndV, mOrV, mNotV, mIf, mChain, mMeth, isS, mSrc, mSrcA, srcL, srcT, srcS, tgN, tgT, setW, mYes, bd_prN, bd_no, asB_bl, addW_int, subW_int, ltW_int, leW_int, gtW_int, geW_int, eqW_int, eqW_str, neW_int, neW_str, neW_bl, slW_tl, slW_cl, lenW_tl, lenW_tup, negW, List.set_cons_zero, List.set_cons_succ, List.getElem?_cons_zero, List.getElem?_cons_succ, List.length_cons, List.length_nil, arW, if_true, if_false, Bool.false_eq_true, ite_true, ite_false, reduceIte, decide_true, decide_false, Bool.not_true, Bool.not_false, gd_tt, gdn0, gdn1, gdn2, gdn3, gdn4, gdn5, gdn6, gdn7, gdn8, gdn9, gdn10, gdn11, gdn12, gdn13, gdn14, gdn15, gdn16, gdn17, gdn18, gdn19, gdn20, gdn21, gdn22, gdn23, gdn24, $xs,*])
/-! a program copied -/
def Bl.w (b : Bl) : W := .tup [.str b.nm, .tl (b.sts.map Sm.w), b.en.w]
def pgW (ps : List (Str × Int)) (bs : List Bl) : W := .tup [.tl (ps.map bxW), .tl (bs.map Bl.w)]
theorem pgW_at (h : List Ob) (ps : List (Str × Int)) (bs : List Bl) : PgAt h (pgW ps bs) ps bs := ⟨_, _, _, rfl, .inl rfl, .inl rfl, List.length_map .., fun i b hb => ⟨_, by rw [List.getElem?_map, hb]; rfl, .inl rfl⟩⟩
theorem copied_ok {h : List Ob} {x : W} {ps : List (Str × Int)} {bs : List Bl} (P : PgAt h x ps bs) (l2 : bs.length ≤ 10) : Ok (f_law_copied [x]) h fun w h' => w = pgW ps bs ∧ h' = h := by
  obtain ⟨bx, bl, ls, rfl, LB, LL, ll, q⟩ := P
  have e0 : f_law_copied [.tup [bx, bl]] = bd (g_law_copied [some (.tup [bx, bl])]) finF := rfl
  rw [e0]
  unfold g_law_copied
  have gl : ∀ {α : Type} (q : M α), gd (ls.length ≤ sizeLine) q = q := fun q => gd_pos (sz (by omega))
  have fin : Ok (bd (bd (srcL bl) fun s => gd (s.l.length ≤ sizeLine) (compM s.G (tgT [0, 1, 2]) mYes (mTup (mCons (mVar 0) (mCons (mTl (listL (mCons (mVar 1) mNil))) (mCons (mVar 2) mNil)))) 4 s.l [some (.tup [bx, bl])])) fun l => pr l) h fun l h' => l = bs.map Bl.w ∧ h' = h := by
    try simp only [bd_assoc]
    refine LL.src fun G hG => ?_
    try simp only [gl]
    refine ok_comp (I := fun i a h' => h' = h ∧ a = (bs.take i).map Bl.w) ⟨rfl, rfl⟩ yes_eq (fun i a h' I => by rw [I.1]; exact hG h LL) (fun i w a h' hw I => ?_) fun a h' I => ?_
    · obtain ⟨rfl, rfl⟩ := I
      obtain ⟨b, hb⟩ : ∃ b, bs[i]? = some b := ⟨_, List.getElem?_eq_getElem (by have := (List.getElem?_eq_some_iff.mp hw).1; omega)⟩
      obtain ⟨y, ey, LY⟩ := q i b hb
      rw [hw] at ey
      cases ey
      refine ⟨_, rfl, ?_⟩
      have tk : bs.take (i + 1) = bs.take i ++ [b] := by rw [List.take_add_one, hb]; rfl
      rcases LY with rfl | ⟨j, rfl, ej⟩
      · try simp! only [List.replicate, List.cons_append, List.nil_append, bd_assoc, lstOf_tl, tupW]
        exact ok_pr ⟨rfl, by rw [tk, List.map_append]; rfl⟩
      · try simp! only [List.replicate, List.cons_append, List.nil_append, bd_assoc]
        refine ok_lstOf (.inr ⟨j, rfl, ej⟩) ?_
        try simp! only [bd_assoc, tupW]
        exact ok_pr ⟨rfl, by rw [tk, List.map_append]; rfl⟩
    · obtain ⟨rfl, rfl⟩ := I
      exact ok_pr ⟨by rw [ll, List.take_length], rfl⟩
  obtain ⟨l, h', e, rfl, rfl⟩ := fin
  have e' : (bd (srcL bl) fun s => gd (s.l.length ≤ sizeLine) (compM s.G (tgT [0, 1, 2]) mYes (mTup (mCons (mVar 0) (mCons (mTl (listL (mCons (mVar 1) mNil))) (mCons (mVar 2) mNil)))) 4 s.l [some (.tup [bx, bl])])) h' = .ok (bs.map Bl.w) h' := by
    rw [← e]
    unfold bd
    cases srcL bl h' with
    | ok a h2 => dsimp only; cases (gd (a.l.length ≤ sizeLine) (compM a.G (tgT [0, 1, 2]) mYes (mTup (mCons (mVar 0) (mCons (mTl (listL (mCons (mVar 1) mNil))) (mCons (mVar 2) mNil)))) 4 a.l [some (.tup [bx, bl])])) h2 <;> rfl
    | ex c h2 => rfl
    | bad => rfl
  rcases LB with rfl | ⟨j, rfl, ej⟩
  · try simp! only [bd_assoc, ix0, ix1, lstOf_tl, mComp_nil]
    rw [← bd_assoc]
    refine ok_bdo e' ?_
    try simp! only [bd_assoc, tupW]
    exact ok_pr ⟨rfl, rfl⟩
  · try simp! only [bd_assoc, ix0, ix1]
    refine ok_lstOf (.inr ⟨j, rfl, ej⟩) ?_
    try simp! only [bd_assoc, ix0, ix1, mComp_nil]
    rw [← bd_assoc]
    refine ok_bdo e' ?_
    try simp! only [bd_assoc, tupW]
    exact ok_pr ⟨rfl, rfl⟩
theorem k_copied {β : Type} {h : List Ob} {k : W → M β} {Q : β → List Ob → Prop} {x : W} {ps : List (Str × Int)} {bs : List Bl} (P : PgAt h x ps bs) (l2 : bs.length ≤ 10) (q : Ok (k (pgW ps bs)) h Q) : Ok (bd (f_law_copied [x]) k) h Q :=
  ok_bd (copied_ok P l2) fun w h' ⟨e1, e2⟩ => by subst e1 e2; exact q
theorem al_pg {h : List Ob} {x : W} {ps : List (Str × Int)} {bs : List Bl} (P : PgAt h x ps bs) (G : PgG ps bs) : Al h 16 (pgW ps bs) x := by
  obtain ⟨bx, bl, ls, rfl, LB, LL, ll, q⟩ := P
  have b4 := G.bx.len
  have l2 := G.l2
  refine .inr (.inr ⟨_, _, .inl ⟨rfl, rfl⟩, rfl, by simp, fun i x y ha hb => ?_⟩)
  match i, ha, hb with
  | 0, ha, hb =>
    cases ha; cases hb
    refine .inr (.inr ⟨_, _, .inr ⟨.inl rfl, LB⟩, rfl, by rw [List.length_map]; omega, fun i a b ha hb => ?_⟩)
    rw [ha] at hb
    cases hb
    rw [List.getElem?_map] at ha
    obtain ⟨p, _, rfl⟩ := Option.map_eq_some_iff.mp ha
    exact (Pd.up (n := 2) pd2i (by decide)).al
  | 1, ha, hb =>
    cases ha; cases hb
    refine .inr (.inr ⟨_, _, .inr ⟨.inl rfl, LL⟩, by rw [List.length_map]; exact ll.symm, by omega, fun i a c ha hc => ?_⟩)
    rw [List.getElem?_map] at ha
    obtain ⟨b, hb, rfl⟩ := Option.map_eq_some_iff.mp ha
    obtain ⟨y, ey, LY⟩ := q i b hb
    rw [ey] at hc
    cases hc
    obtain ⟨g1, g2, g3⟩ := G.g b (List.mem_of_getElem? hb)
    refine .inr (.inr ⟨_, _, .inl ⟨rfl, rfl⟩, rfl, by simp, fun i x y ha hb => ?_⟩)
    match i, ha, hb with
    | 0, ha, hb => cases ha; cases hb; exact .inr (.inl ⟨_, rfl, rfl⟩)
    | 1, ha, hb =>
      cases ha; cases hb
      refine .inr (.inr ⟨_, _, .inr ⟨.inl rfl, LY⟩, rfl, by rw [List.length_map]; omega, fun i a b ha hb => ?_⟩)
      rw [ha] at hb
      cases hb
      rw [List.getElem?_map] at ha
      obtain ⟨s, hs, rfl⟩ := Option.map_eq_some_iff.mp ha
      exact ((g2 s (List.mem_of_getElem? hs)).pd.up (by decide)).al
    | 2, ha, hb => cases ha; cases hb; exact (g3.pd.up (by decide)).al
    | n + 3, ha, hb => simp at ha
  | n + 2, ha, hb => simp at ha
end Q
set_option maxHeartbeats 1000000
namespace Q
open PySem L2
local macro_rules | `(tactic| simp! only [$xs,*]) => `(tactic| try simp only [finF, sSeq, sIf, sRet, sSet, sNil, sEx, sPass, sBreak, sCont, sUnp, sStore, mB, L2.m2, L2.m1, L2.m3, mVar, mC, mCall, mCons, mNil, mTup, mTl, mNew, lenG, listL, mPart, mNoPart, mAnd, mOr, mNot, mAndV, mOrV, mNotV, mIf, mChain, mMeth, isS, mSrc, mSrcA, srcL, srcT, srcS, tgN, tgT, setW, mYes, bd_prN, bd_no, asB_bl, addW_int, subW_int, ltW_int, leW_int, gtW_int, geW_int, eqW_int, eqW_str, neW_int, neW_str, neW_bl, slW_tl, slW_cl, lenW_tl, lenW_tup, negW, List.set_cons_zero, List.set_cons_succ, List.getElem?_cons_zero, List.getElem?_cons_succ, List.length_cons, List.length_nil, arW, if_true, if_false, Bool.false_eq_true, ite_true, ite_false, reduceIte, decide_true, decide_false, Bool.not_true, Bool.not_false, gd_tt, gdn0, gdn1, gdn2, gdn3, gdn4, gdn5, gdn6, gdn7, gdn8, gdn9, gdn10, gdn11, gdn12, gdn13, gdn14, gdn15, gdn16, gdn17, gdn18, gdn19, gdn20, gdn21, gdn22, gdn23, gdn24, $xs,*])
theorem lworth_ok {ns : List Str} {σ : Sto} (D : Has ns σ) (n : Nat) : ∀ {w : Xe}, n ≤ 6 → w.G ns n → (w.val σ).natAbs < big n ∧ ∀ {h : List Ob} {k : Nat}, h[k]? = some (.dic (kz σ) (vz σ)) → Ok (f_law_worth n [w.w, .loc k]) h fun r h' => r = .int (w.val σ) ∧ h' = h := by
  induction n with
  | zero => intro w _ p; exact p.elim
  | succ n ih =>
    intro w hn p
    have e0 : ∀ k : Nat, f_law_worth (n + 1) [w.w, .loc k] = bd (g_law_worth (f_law_worth n) [some w.w, some (.loc k), none, none]) finF := fun k => rfl
    have b1 := big_le (n + 1)
    have b2 := big_add n
    cases w with
    | num i =>
      obtain ⟨i0, i1⟩ := p
      refine ⟨by unfold Xe.val; omega, fun {h k} e => ?_⟩
      rw [e0]
      unfold g_law_worth Xe.w Xe.val
      try simp! only [bd_assoc, ix0, ix1, eq_self, decide_true]
      exact ok_pr ⟨rfl, rfl⟩
    | box z =>
      obtain ⟨v, ev, v0, v1⟩ := D.has z p
      have vv : Xe.val σ (.box z) = v := by unfold Xe.val; rw [ev]; rfl
      refine ⟨by rw [vv]; omega, fun {h k} e => ?_⟩
      rw [e0, vv]
      unfold g_law_worth Xe.w
      try simp! only [bd_assoc, ix0, ix1, eq_self, decide_true, s_bn]
      refine ok_ixS (v := .int v) e (by rw [atK_rd, ev]; rfl) ?_
      try simp! only [bd_assoc]
      exact ok_pr ⟨rfl, rfl⟩
    | op c a b =>
      obtain ⟨hc, pa, pb⟩ := p
      obtain ⟨bx, hx⟩ := ih (by omega) pa
      obtain ⟨by', hy⟩ := ih (by omega) pb
      have b6 := big6 n (by omega)
      have cm : CMulA (a.val σ) (b.val σ) := .inr ⟨Nat.lt_of_lt_of_le bx b6, Nat.lt_of_lt_of_le by' b6⟩
      have mb : (a.val σ * b.val σ).natAbs < big (n + 1) := by
        rw [Int.natAbs_mul, big_succ]
        exact Nat.mul_lt_mul'' bx by'
      unfold Xe.w at e0 ⊢
      generalize hX : a.val σ = x at *
      generalize hY : b.val σ = y at *
      generalize a.w = aw at *
      generalize b.w = bw at *
      rcases hc with rfl | rfl | rfl
      · have vv : Xe.val σ (.op "+" a b) = x + y := by unfold Xe.val; rw [if_pos rfl, hX, hY]
        refine ⟨by rw [vv]; omega, fun {h k} e => ?_⟩
        rw [e0, vv]
        unfold g_law_worth
        try simp! only [bd_assoc, ix0, ix1, ix2, s_pn, s_pb]
        refine ok_bd (hx e) fun r h1 ⟨er, eh⟩ => ?_
        subst er eh
        try simp! only [bd_assoc, ix0, ix1, ix2]
        refine ok_bd (hy e) fun r h2 ⟨er, eh⟩ => ?_
        subst er eh
        try simp! only [bd_assoc, ix0, eq_self, decide_true]
        exact ok_pr ⟨rfl, rfl⟩
      · have vv : Xe.val σ (.op "-" a b) = x - y := by unfold Xe.val; rw [if_neg (by decide +kernel), if_pos rfl, hX, hY]
        refine ⟨by rw [vv]; omega, fun {h k} e => ?_⟩
        rw [e0, vv]
        unfold g_law_worth
        try simp! only [bd_assoc, ix0, ix1, ix2, s_mn, s_mb]
        refine ok_bd (hx e) fun r h1 ⟨er, eh⟩ => ?_
        subst er eh
        try simp! only [bd_assoc, ix0, ix1, ix2]
        refine ok_bd (hy e) fun r h2 ⟨er, eh⟩ => ?_
        subst er eh
        try simp! only [bd_assoc, ix0, eq_self, decide_true, s_mp]
        exact ok_pr ⟨rfl, rfl⟩
      · have vv : Xe.val σ (.op "*" a b) = x * y := by unfold Xe.val; rw [if_neg (by decide +kernel), if_neg (by decide +kernel), hX, hY]
        refine ⟨by rw [vv]; exact mb, fun {h k} e => ?_⟩
        rw [e0, vv]
        unfold g_law_worth
        try simp! only [bd_assoc, ix0, ix1, ix2, s_tn, s_tb]
        refine ok_bd (hx e) fun r h1 ⟨er, eh⟩ => ?_
        subst er eh
        try simp! only [bd_assoc, ix0, ix1, ix2]
        refine ok_bd (hy e) fun r h2 ⟨er, eh⟩ => ?_
        subst er eh
        try simp! only [bd_assoc, ix0, s_tp, s_tm, mulW_int cm]
        exact ok_pr ⟨rfl, rfl⟩
theorem k_lworth {β : Type} {ns : List Str} {σ : Sto} {w : Xe} {h : List Ob} {k : Nat} {c : W → M β} {Q : β → List Ob → Prop} (D : Has ns σ) (g : w.G ns 6) (e : h[k]? = some (.dic (kz σ) (vz σ))) (q : Ok (c (.int (w.val σ))) h Q) : Ok (bd (f_law_worth 6 [w.w, .loc k]) c) h Q :=
  ok_bd ((lworth_ok D 6 (Nat.le_refl _) g).2 e) fun r h' ⟨e1, e2⟩ => by subst e1 e2; exact q
end Q
set_option maxHeartbeats 1000000
namespace Q
open PySem L2
local macro_rules | `(tactic| simp! only [$xs,*]) => `(tactic| try simp only [finF, sSeq, sIf, sRet, sSet, sNil, sEx, sPass, sBreak, sCont, sUnp, sStore, mB, L2.m2, L2.m1, L2.m3, mVar, mC, mCall, mCons, mNil, mTup, mTl, mNew, lenG, listL, mPart, mNoPart, mAnd, mOr, mNot, mAndV, mOrV, mNotV, mIf, mChain, mMeth, isS, mSrc, mSrcA, srcL, srcT, srcS, tgN, tgT, setW, mYes, bd_prN, bd_no, asB_bl, addW_int, subW_int, ltW_int, leW_int, gtW_int, geW_int, eqW_int, eqW_str, neW_int, neW_str, neW_bl, slW_tl, slW_cl, lenW_tl, lenW_tup, negW, List.set_cons_zero, List.set_cons_succ, List.getElem?_cons_zero, List.getElem?_cons_succ, List.length_cons, List.length_nil, arW, if_true, if_false, Bool.false_eq_true, ite_true, ite_false, reduceIte, decide_true, decide_false, Bool.not_true, Bool.not_false, gd_tt, gdn0, gdn1, gdn2, gdn3, gdn4, gdn5, gdn6, gdn7, gdn8, gdn9, gdn10, gdn11, gdn12, gdn13, gdn14, gdn15, gdn16, gdn17, gdn18, gdn19, gdn20, gdn21, gdn22, gdn23, gdn24, $xs,*])
noncomputable def bI : Env' → M Fl := (sStore (mVar 3) (mVar 4) (mVar 5))
noncomputable def bK : Env' → M Fl := (sSeq (sIf (mB (m2 eqW (m2 ixW (mVar 10) (mC (.int 0))) (mC (.str "say")))) (sEx (mMeth isL appendW (mVar 6) (mCons (mCall (arW 2 (f_law_worth 6)) (mCons (m2 ixW (mVar 10) (mC (.int 1))) (mCons (mVar 3) mNil))) mNil))) sNil) (sSeq (sIf (mB (m2 eqW (m2 ixW (mVar 10) (mC (.int 0))) (mC (.str "put")))) (sStore (mVar 3) (m2 ixW (mVar 10) (mC (.int 1))) (m2 modW (mCall (arW 2 (f_law_worth 6)) (mCons (m2 ixW (mVar 10) (mC (.int 2))) (mCons (mVar 3) mNil))) (mC (.int 1000000)))) sNil) (sSeq (sIf (mAnd (mB (m2 eqW (m2 ixW (mVar 10) (mC (.int 0))) (mC (.str "ask")))) (mB (m2 eqW (mVar 7) (mCall lenW (mCons (mVar 1) mNil))))) (sRet (mTup (mCons (m1 iceW (mVar 6)) (mCons (mTup (mCons (mC (.str "out")) mNil)) (mCons (m1 iceW (mVar 8)) mNil))))) sNil) (sIf (mB (m2 eqW (m2 ixW (mVar 10) (mC (.int 0))) (mC (.str "ask")))) (sSeq (sStore (mVar 3) (m2 ixW (mVar 10) (mC (.int 1))) (m2 modW (m2 ixW (mVar 1) (mVar 7)) (mC (.int 1000000)))) (sSet 7 (m2 addW (mVar 7) (mC (.int 1))))) sNil))))
noncomputable def bO : Env' → M Fl := (sSeq (sFor (mSrc (m2 ixW (m2 ixW (m2 ixW (mVar 0) (mC (.int 1))) (mC (.int 0))) (mC (.int 1))) srcL) (tgN 10) bK) (sSeq (sIf (mB (m2 eqW (m2 ixW (m2 ixW (m2 ixW (mVar 0) (mC (.int 1))) (mC (.int 0))) (mC (.int 2))) (mTup (mCons (mC (.str "stop")) mNil)))) (sRet (mTup (mCons (m1 iceW (mVar 6)) (mCons (mTup (mCons (mC (.str "stop")) mNil)) (mCons (m1 iceW (mVar 8)) mNil))))) sNil) (sEx (mMeth isL appendW (mVar 8) (mCons (mTup (mCons (mC (.int 0)) (mCons (mC (.int 0)) (mCons (mC (.int 0)) mNil)))) mNil)))))
theorem parts_law_ran : g_law_ran = (sSeq (sSet 3 mDNew) (sSeq (sFor (mSrc (m2 ixW (mVar 0) (mC (.int 0))) srcL) (tgT [4, 5]) bI) (sSeq (sSet 6 (mNew (lenG mNil))) (sSeq (sSet 7 (mC (.int 0))) (sSeq (sSet 8 (mNew (lenG mNil))) (sSeq (sFor (mSrcA (mCons (mVar 2) mNil) rng1) (tgN 9) bO) (sRet (mTup (mCons (m1 iceW (mVar 6)) (mCons (mTup (mCons (mC (.str "on")) mNil)) (mCons (m1 iceW (mVar 8)) mNil))))))))))) := rfl
/-- only these two places have changed -/
structure On2 (a b : Nat) (h h' : List Ob) : Prop where
  len : h'.length = h.length
  eq : ∀ i, i ≠ a → i ≠ b → h'[i]? = h[i]?
section
variable {ns : List Str} {kv kS kw : Nat} {nums : List Int} {x : W} {bound : Nat} {a4 a5 a9 : Option W} {went : List (Nat × Nat × Nat)} {G : List Ob → Prop} {h0 : List Ob}
def envK (x : W) (nums : List Int) (bound : Nat) (kv : Nat) (a4 a5 : Option W) (kS t kw : Nat) (a9 a : Option W) : Env' := [some x, some (.tl (nums.map W.int)), some (nI bound), some (.loc kv), a4, a5, some (.loc kS), some (nI t), some (.loc kw), a9, a]
theorem blk_for (hG : ∀ h, (∀ i, i < h0.length → h[i]? = h0[i]?) → G h) (d1 : h0.length ≤ kv) (d2 : h0.length ≤ kS) (ne : kv ≠ kS) (d3 : h0.length ≤ kw) (w1 : kw ≠ kv) (w2 : kw ≠ kS) : ∀ (l : List Sm) (s : Sta) (h : List Ob) (a : Option W), (∀ st ∈ l, st.G ns) → h[kw]? = some (.lst (went.map wayW)) → s.taken ≤ nums.length → h[kv]? = some (.dic (kz s.σ) (vz s.σ)) → h[kS]? = some (.lst (s.said.map W.int)) → Has ns s.σ → s.said.length + l.length ≤ 100000 → (∀ i, i < h0.length → h[i]? = h0[i]?) → Ok (L2.forM G (tgN 10) bK (l.map Sm.w) (envK x nums bound kv a4 a5 kS s.taken kw a9 a)) h fun r h' => Has ns (doL nums s l).1.σ ∧ (∀ i, i < h0.length → h'[i]? = h0[i]?) ∧ (doL nums s l).1.taken ≤ nums.length ∧ (((doL nums s l).2 = true ∧ h'[kv]? = some (.dic (kz (doL nums s l).1.σ) (vz (doL nums s l).1.σ)) ∧ h'[kS]? = some (.lst ((doL nums s l).1.said.map W.int)) ∧ h'[kw]? = some (.lst (went.map wayW)) ∧ ∃ a', r = .nx (envK x nums bound kv a4 a5 kS (doL nums s l).1.taken kw a9 a')) ∨ ((doL nums s l).2 = false ∧ r = .rt (.tup [.tl ((doL nums s l).1.said.map W.int), .tup [.str "out"], .tl (went.map wayW)])))
  | [], s, h, a, _, ew, tk, ed, es, H, _, f => for_nil (hG h f) ⟨H, f, tk, .inl ⟨rfl, ed, es, ew, a, rfl⟩⟩
  | st :: l, s, h, a, g, ew, tk, ed, es, H, z, f => by
    have gst := g st List.mem_cons_self
    rw [List.length_cons] at z
    have go : ∀ (h1 : List Ob), lacks nums s st = false → (doS nums s st).taken ≤ nums.length → h1[kv]? = some (.dic (kz (doS nums s st).σ) (vz (doS nums s st).σ)) → h1[kS]? = some (.lst ((doS nums s st).said.map W.int)) → Has ns (doS nums s st).σ → On2 kv kS h h1 → Ok (L2.forM G (tgN 10) bK (l.map Sm.w) (envK x nums bound kv a4 a5 kS (doS nums s st).taken kw a9 (some st.w))) h1 fun r h' => Has ns (doL nums s (st :: l)).1.σ ∧ (∀ i, i < h0.length → h'[i]? = h0[i]?) ∧ (doL nums s (st :: l)).1.taken ≤ nums.length ∧ (((doL nums s (st :: l)).2 = true ∧ h'[kv]? = some (.dic (kz (doL nums s (st :: l)).1.σ) (vz (doL nums s (st :: l)).1.σ)) ∧ h'[kS]? = some (.lst ((doL nums s (st :: l)).1.said.map W.int)) ∧ h'[kw]? = some (.lst (went.map wayW)) ∧ ∃ a', r = .nx (envK x nums bound kv a4 a5 kS (doL nums s (st :: l)).1.taken kw a9 a')) ∨ ((doL nums s (st :: l)).2 = false ∧ r = .rt (.tup [.tl ((doL nums s (st :: l)).1.said.map W.int), .tup [.str "out"], .tl (went.map wayW)]))) := fun h1 hl q2 q3 q4 q5 q6 => by
      have ee : doL nums s (st :: l) = doL nums (doS nums s st) l := by
        conv => lhs; unfold doL
        rw [hl, if_neg Bool.false_ne_true]
      rw [ee]
      exact blk_for hG d1 d2 ne d3 w1 w2 l (doS nums s st) h1 (some st.w) (fun x hx => g x (List.mem_cons_of_mem _ hx)) ((q6.eq kw w1 w2).trans ew) q2 q3 q4 q5 (by have := doS_len nums s st; omega) fun i hi => (q6.eq i (by omega) (by omega)).trans (f i hi)
    refine for_cons (r := envK x nums bound kv a4 a5 kS s.taken kw a9 (some st.w)) (hG h f) rfl ?_
    cases st with
    | say e =>
      have gst : e.G ns 6 := gst
      try simp! only [bK, envK, Sm.w, bd_assoc, ix0, ix1, eq_self, decide_true]
      refine ok_isL es ?_
      try simp! only [bd_assoc, ix0, ix1]
      refine k_lworth H gst ed ?_
      try simp! only [bd_assoc]
      refine ok_app es (by rw [List.length_map]; exact Nat.lt_of_le_of_lt (show s.said.length ≤ 100000 by omega) (by decide)) ?_
      try simp! only [bd_assoc, ix0, s_sp, s_sa]
      refine ok_pr (.inl ⟨_, rfl, go _ rfl tk ?_ ?_ H ⟨List.length_set .., fun i _ h2 => List.getElem?_set_ne (Ne.symm h2)⟩⟩)
      · rw [List.getElem?_set_ne (Ne.symm ne)]; exact ed
      · rw [set_get es]; show _ = some (Ob.lst ((s.said ++ [e.val s.σ]).map W.int)); rw [List.map_append]; rfl
    | put z e =>
      try simp! only [bK, envK, Sm.w, bd_assoc, ix0, ix1, ix2, s_ps, eq_self, decide_true]
      refine k_lworth H gst.2 ed ?_
      try simp! only [bd_assoc, ix0, ix1, modW_int (show (0 : Int) < 1000000 by decide)]
      refine ok_stS ed (by unfold kz; rw [List.length_map]; exact Nat.lt_of_le_of_lt H.sz (by decide)) (putW_wr ..) ?_
      try simp! only [bd_assoc, ix0, s_pa]
      refine ok_pr (.inl ⟨_, rfl, go _ rfl tk (set_get ed) ?_ (H.wr gst.1 _) ⟨List.length_set .., fun i h1 _ => List.getElem?_set_ne (Ne.symm h1)⟩⟩)
      rw [List.getElem?_set_ne ne]; exact es
    | ask z =>
      have gst : z ∈ ns := gst
      try simp! only [bK, envK, Sm.w, bd_assoc, ix0, ix1, ix2, s_as, s_ap, eq_self, decide_true, List.length_map]
      by_cases ht : s.taken = nums.length
      · have ht' : (s.taken : Int) = (nums.length : Int) := by omega
        have hl : lacks nums s (.ask z) = true := by unfold lacks Sm.asks; rw [decide_eq_true ht]; rfl
        have ee : doL nums s (.ask z :: l) = (s, false) := by unfold doL; rw [if_pos hl]
        try simp! only [bd_assoc, nI, decide_eq_true ht']
        rw [ee]
        refine ok_ice es ?_
        try simp! only [bd_assoc, tupW]
        refine ok_ice (l := went.map wayW) (by rw [List.getElem?_set_ne (Ne.symm w2)]; exact ew) ?_
        try simp! only [bd_assoc, tupW]
        exact ok_pr (.inr ⟨_, rfl, H, fun i hi => by rw [List.getElem?_set_ne (by omega), List.getElem?_set_ne (by omega)]; exact f i hi, tk, .inr ⟨by first | rfl | trivial, rfl⟩⟩)
      · have ht' : ¬ (s.taken : Int) = (nums.length : Int) := by omega
        try simp! only [bd_assoc, nI, decide_eq_false ht', ix0, eq_self, decide_true, ixW_tl (menu_atW W.int nums 0 (i := (s.taken : Int)) (by omega) (by omega)), modW_int (show (0 : Int) < 1000000 by decide), Int.toNat_natCast, ix1]
        refine ok_stS ed (by unfold kz; rw [List.length_map]; exact Nat.lt_of_le_of_lt H.sz (by decide)) (putW_wr ..) ?_
        try simp! only [bd_assoc]
        refine ok_pr (.inl ⟨_, rfl, go _ (by unfold lacks Sm.asks; rw [decide_eq_false ht]; rfl) (by show s.taken + 1 ≤ _; omega) (set_get ed) ?_ (H.wr gst _) ⟨List.length_set .., fun i h1 _ => List.getElem?_set_ne (Ne.symm h1)⟩⟩)
        rw [List.getElem?_set_ne ne]; exact es
end
theorem can_stop : PyData.canLayAll0 [.str "stop"] = true := by
  rw [PyData.canLayAll0, PyData.canLay0, PyData.canLayAll0]; decide +kernel
theorem can_go : PyData.canLayAll0 [.str "go", .int 0] = true := by
  rw [PyData.canLayAll0, PyData.canLay0, PyData.canLayAll0, PyData.canLay0, PyData.canLayAll0]; decide +kernel
theorem eqv_go : PyData.eqvAll [.str "go", .int 0] [.str "stop"] = false := by
  rw [PyData.eqvAll, PyData.eqv]; decide +kernel
theorem ran_ok {h : List Ob} {x : W} {ps : List (Str × Int)} {b : Bl} {nums : List Int} {bound : Nat} (PG : PgG ps [b]) (PA : PgAt h x ps [b]) (hbe : b.en = .stop ∨ b.en = .go 0) (hb : bound ≤ 1000) (nl : nums.length ≤ 1000) :
    Ok (f_law_ran [x, .tl (nums.map W.int), nI bound]) h fun w h' => (∀ i, i < h.length → h'[i]? = h[i]?) ∧ w = .tup [.tl ((runB nums [b] bound 0 (sta0 ps)).said.map W.int), .tup [.str (runB nums [b] bound 0 (sta0 ps)).en], .tl ((runB nums [b] bound 0 (sta0 ps)).went.map wayW)] := by
  have e0 : f_law_ran [x, .tl (nums.map W.int), nI bound] = bd (g_law_ran [some x, some (.tl (nums.map W.int)), some (nI bound), none, none, none, none, none, none, none, none]) finF := rfl
  rw [e0, parts_law_ran]
  obtain ⟨bx, bl, ls, ex, LB, LL, ll, pq⟩ := PA
  have x0 : ixW x (.int 0) = pr bx := by rw [ex]; exact ix0 _ _
  have x1 : ixW x (.int 1) = pr bl := by rw [ex]; exact ix1 _ _ _
  have b4 := PG.bx.len
  try simp! only [bd_assoc]
  refine ok_dnew ?_
  have LB1 : Lw (h ++ [.dic [] []]) bx (ps.map bxW) := LB.keep fun i hi => List.getElem?_append_left hi
  try simp! only [sFor, bd_assoc, x0]
  refine LB1.src fun G hG => ?_
  refine ok_for (I := fun i ρ h' => (∃ a5 a6, ρ = [some x, some (.tl (nums.map W.int)), some (nI bound), some (.loc h.length), a5, a6, none, none, none, none, none]) ∧ h'[h.length]? = some (.dic (kz ((ps.take i).foldl (fun σ p => wr σ p.1 p.2) [])) (vz ((ps.take i).foldl (fun σ p => wr σ p.1 p.2) []))) ∧ h'.length = h.length + 1 ∧ ∀ i, i < h.length → h'[i]? = h[i]?) ⟨⟨_, _, rfl⟩, get_end, by simp, fun i hi => List.getElem?_append_left hi⟩ (fun i ρ h' I => hG h' (LB.keep I.2.2.2)) (fun i w ρ h' hw I => ?_) fun ρ h' I => ?_
  · obtain ⟨⟨a5, a6, rfl⟩, e1, l1, f1⟩ := I
    rw [List.getElem?_map] at hw
    obtain ⟨p, hp, rfl⟩ := Option.map_eq_some_iff.mp hw
    refine ⟨_, rfl, ?_⟩
    try simp! only [bI, bd_assoc]
    have tl : ((ps.take i).foldl (fun σ p => wr σ p.1 p.2) []).length ≤ 10 := by
      have := sto_len (ps.take i) []
      rw [List.length_take, List.length_nil] at this
      omega
    refine ok_stS e1 (by unfold kz; rw [List.length_map]; exact Nat.lt_of_le_of_lt tl (by decide)) (putW_wr ..) ?_
    try simp! only [bd_assoc]
    refine ok_pr ⟨_, rfl, ⟨_, _, rfl⟩, ?_, by rw [List.length_set]; exact l1, fun j hj => by rw [List.getElem?_set_ne (by omega)]; exact f1 j hj⟩
    have tk : ps.take (i + 1) = ps.take i ++ [p] := by rw [List.take_add_one, hp]; rfl
    rw [set_get e1, tk, List.foldl_append]; rfl
  obtain ⟨⟨a5, a6, rfl⟩, e1, l1, f1⟩ := I
  rw [List.length_map, List.take_length] at e1
  try simp! only [bd_assoc]
  refine ok_new ?_
  try simp! only [bd_assoc]
  refine ok_new ?_
  have e2 : (h' ++ [Ob.lst []] ++ [Ob.lst []])[h.length]? = some (.dic (kz (sto0 ps)) (vz (sto0 ps))) := get_app (get_app e1)
  have f2 : ∀ i, i < h.length → (h' ++ [Ob.lst []] ++ [Ob.lst []])[i]? = h[i]? := fun i hi => by rw [List.getElem?_append_left (by simp; omega), List.getElem?_append_left (by omega)]; exact f1 i hi
  have s2 : (h' ++ [Ob.lst []] ++ [Ob.lst []])[h.length + 1]? = some (.lst []) := by rw [← l1]; exact get_app get_end
  have w2 : (h' ++ [Ob.lst []] ++ [Ob.lst []])[h.length + 2]? = some (.lst []) := by rw [show h.length + 2 = (h' ++ [Ob.lst []]).length by simp [l1]]; exact get_end
  rw [show (h' ++ [Ob.lst []]).length = h.length + 2 by simp [l1], l1]
  generalize h' ++ [Ob.lst []] ++ [Ob.lst []] = h2 at *
  clear e1 f1 l1 h'
  try simp! only [bd_assoc, nI, rng1_int (show (-(2 ^ 62) : Int) ≤ (bound : Int) by omega) (show (bound : Int) < 2 ^ 62 by omega)]
  obtain ⟨g1, g2, g3⟩ := PG.g b List.mem_cons_self
  obtain ⟨y, ey, LY⟩ := pq 0 b rfl
  refine ok_forR (I := fun k ρ h' => ∃ s went a4 a5 a9 a10, ρ = envK x nums bound h.length a4 a5 (h.length + 1) s.taken (h.length + 2) a9 a10 ∧ h'[h.length]? = some (.dic (kz s.σ) (vz s.σ)) ∧ h'[h.length + 1]? = some (.lst (s.said.map W.int)) ∧ h'[h.length + 2]? = some (.lst (went.map wayW)) ∧ (∀ i, i < h.length → h'[i]? = h[i]?) ∧ Has (ps.map (·.1)) s.σ ∧ s.taken ≤ nums.length ∧ s.said.length ≤ 8 * k ∧ went.length = k ∧ runB nums [b] bound 0 (sta0 ps) = ⟨(runB nums [b] (bound - k) 0 s).said, (runB nums [b] (bound - k) 0 s).en, went ++ (runB nums [b] (bound - k) 0 s).went⟩)
    (J := fun v h' => (∀ i, i < h.length → h'[i]? = h[i]?) ∧ v = .tup [.tl ((runB nums [b] bound 0 (sta0 ps)).said.map W.int), .tup [.str (runB nums [b] bound 0 (sta0 ps)).en], .tl ((runB nums [b] bound 0 (sta0 ps)).went.map wayW)])
    ⟨sta0 ps, [], _, _, _, _, rfl, e2, s2, w2, f2, Has.first b4 PG.bv, Nat.zero_le _, Nat.zero_le _, rfl, rfl⟩ (fun _ _ _ _ => trivial) (fun k w ρ h' hw I => ?_) (fun ρ h' I => ?_) fun v h' I => ?_
  · obtain ⟨s, went, a4, a5, a9, a10, rfl, ed, es, eww, f, H, tk, sl', wl, hrun⟩ := I
    obtain ⟨rfl, hi⟩ := ints_get _ _ _ _ hw
    have hkb : k < bound := by simpa using hi
    obtain ⟨n, hn⟩ : ∃ n, bound - k = n + 1 := ⟨bound - k - 1, by omega⟩
    have hn' : bound - (k + 1) = n := by omega
    rw [hn] at hrun
    have eb : [b][0]? = some b := rfl
    refine ⟨envK x nums bound h.length a4 a5 (h.length + 1) s.taken (h.length + 2) (some (.int (0 + (k : Int)))) a10, rfl, ?_⟩
    have dl := doL_len nums b.sts s
    try simp! only [bO, envK, sFor, bd_assoc, x1]
    refine (LL.keep f).ix (atI_nat ey) ?_
    try simp! only [bd_assoc, ix1]
    refine (LY.keep f).src fun G hG => ?_
    refine ok_bd (blk_for (x := x) (bound := bound) (a4 := a4) (a5 := a5) (a9 := some (.int (0 + (k : Int)))) (h0 := h) (fun h' f' => hG h' (LY.keep f')) (Nat.le_refl _) (Nat.le_succ _) (by omega) (Nat.le_add_right _ _) (by omega) (by omega) b.sts s h' a10 g2 eww tk ed es H (by omega) f) fun r h1 ⟨q3, f1, q5, q6⟩ => ?_
    rcases q6 with ⟨hd, q1, q2, w1, a', rfl⟩ | ⟨hd, rfl⟩
    · try simp! only [envK, bd_assoc, x1]
      refine (LL.keep f1).ix (atI_nat ey) ?_
      try simp! only [bd_assoc, ix2, tupW]
      rcases hbe with hbe | hbe
      · have er : runB nums [b] (n + 1) 0 s = ⟨(doL nums s b.sts).1.said, "stop", []⟩ := by
          conv => lhs; unfold runB
          rw [eb]; dsimp only; rw [hd, if_neg (by simp), hbe]; rfl
        rw [er] at hrun
        have eqs : eqW b.en.w (.tup [.str "stop"]) = pr (.bl true) := by rw [hbe]; exact eqW_of fun h => by show eqB (.tup [.str "stop"]) (.tup [.str "stop"]) h = _; rw [eqB_tups (ds := [.str "stop"]) (es := [.str "stop"]) rfl rfl can_stop can_stop, eqvAll_refl _ can_stop]
        try simp! only [bd_assoc, eqs]
        refine ok_ice q2 ?_
        try simp! only [bd_assoc, tupW]
        refine ok_ice (l := went.map wayW) (by rw [List.getElem?_set_ne (by omega)]; exact w1) ?_
        try simp! only [bd_assoc, tupW]
        refine ok_pr (.inr ⟨_, rfl, fun i hi => ?_, ?_⟩)
        · rw [List.getElem?_set_ne (by omega), List.getElem?_set_ne (by omega)]; exact f1 i hi
        · rw [hrun]; show _ = W.tup [_, _, .tl ((went ++ []).map wayW)]; rw [List.append_nil]
      · have er : runB nums [b] (n + 1) 0 s = ⟨(runB nums [b] n 0 (doL nums s b.sts).1).said, (runB nums [b] n 0 (doL nums s b.sts).1).en, (0, 0, 0) :: (runB nums [b] n 0 (doL nums s b.sts).1).went⟩ := by
          conv => lhs; unfold runB
          rw [eb]; dsimp only; rw [hd, if_neg (by simp), hbe]; rfl
        rw [er] at hrun
        have eqs : eqW b.en.w (.tup [.str "stop"]) = pr (.bl false) := by rw [hbe]; exact eqW_of fun h => by show eqB (.tup [.str "go", .int 0]) (.tup [.str "stop"]) h = _; rw [eqB_tups (ds := [.str "go", .int 0]) (es := [.str "stop"]) rfl rfl can_go can_stop, eqv_go]
        try simp! only [bd_assoc, eqs]
        refine ok_isL w1 ?_
        try simp! only [bd_assoc, tupW]
        refine ok_app w1 (by rw [List.length_map]; exact Nat.lt_of_le_of_lt (show went.length ≤ 1000 by omega) (by decide)) ?_
        try simp! only [bd_assoc]
        refine ok_pr (.inl ⟨_, rfl, (doL nums s b.sts).1, went ++ [(0, 0, 0)], _, _, _, _, rfl, ?_, ?_, ?_, fun i hi => ?_, q3, q5, by omega, by rw [List.length_append, wl]; rfl, ?_⟩)
        · rw [List.getElem?_set_ne (by omega)]; exact q1
        · rw [List.getElem?_set_ne (by omega)]; exact q2
        · rw [set_get w1, List.map_append]; rfl
        · rw [List.getElem?_set_ne (by omega)]; exact f1 i hi
        · rw [hn', hrun, List.append_assoc]; rfl
    · have er : runB nums [b] (n + 1) 0 s = ⟨(doL nums s b.sts).1.said, "out", []⟩ := by
        conv => lhs; unfold runB
        rw [eb]; dsimp only; rw [if_pos hd]
      rw [er] at hrun
      try simp! only [bd_assoc]
      refine ok_pr (.inr ⟨_, rfl, f1, ?_⟩)
      rw [hrun]; show _ = W.tup [_, _, .tl ((went ++ []).map wayW)]; rw [List.append_nil]
  · rw [ints_len] at I
    obtain ⟨s, went, a4, a5, a9, a10, rfl, ed, es, eww, f, H, tk, sl', wl, hrun⟩ := I
    have hrun : runB nums [b] bound 0 (sta0 ps) = ⟨s.said, "on", went⟩ := by
      rw [hrun, show bound - ((bound : Int)).toNat = 0 by omega]
      show (⟨s.said, "on", went ++ []⟩ : OutB) = _
      rw [List.append_nil]
    try simp! only [envK, bd_assoc]
    refine ok_ice es ?_
    try simp! only [bd_assoc, tupW]
    refine ok_ice (l := went.map wayW) (by rw [List.getElem?_set_ne (by omega)]; exact eww) ?_
    try simp! only [bd_assoc, tupW]
    refine ok_pr ⟨fun i hi => ?_, ?_⟩
    · rw [List.getElem?_set_ne (by omega), List.getElem?_set_ne (by omega)]; exact f i hi
    · rw [hrun]
  · obtain ⟨f, rfl⟩ := I
    try simp! only [bd_assoc]
    exact ok_pr ⟨f, rfl⟩
end Q
set_option maxHeartbeats 1000000
namespace Q
open PySem L2
local macro_rules | `(tactic| simp! only [$xs,*]) => `(tactic| try simp only [finF, sSeq, sIf, sRet, sSet, sNil, sEx, sPass, sBreak, sCont, sUnp, sStore, mB, L2.m2, L2.m1, L2.m3, mVar, mC, mCall, mCons, mNil, mTup, mTl, mNew, lenG, listL, mPart, mNoPart, mAnd, mOr, mNot, mAndV, mOrV, mNotV, mIf, mChain, mMeth, isS, mSrc, mSrcA, srcL, srcT, srcS, tgN, tgT, setW, mYes, bd_prN, bd_no, asB_bl, addW_int, subW_int, ltW_int, leW_int, gtW_int, geW_int, eqW_int, eqW_str, neW_int, neW_str, neW_bl, slW_tl, slW_cl, lenW_tl, lenW_tup, negW, List.set_cons_zero, List.set_cons_succ, List.getElem?_cons_zero, List.getElem?_cons_succ, List.length_cons, List.length_nil, arW, if_true, if_false, Bool.false_eq_true, ite_true, ite_false, reduceIte, decide_true, decide_false, Bool.not_true, Bool.not_false, gd_tt, gdn0, gdn1, gdn2, gdn3, gdn4, gdn5, gdn6, gdn7, gdn8, gdn9, gdn10, gdn11, gdn12, gdn13, gdn14, gdn15, gdn16, gdn17, gdn18, gdn19, gdn20, gdn21, gdn22, gdn23, gdn24, $xs,*])
theorem law_run (ns : List Int) (hh : List Ob) : Ok (f_law [.cl (ns.map W.int)]) hh fun w _ => w = .bl true := by
  have e0 : f_law [.cl (ns.map W.int)] = bd (g_law [some (.cl (ns.map W.int)), none, none, none, none, none, none, none, none, none, none, none, none, none]) finF := rfl
  rw [e0]
  unfold g_law
  obtain ⟨c0, ec0⟩ := cell_eq ns 0 (by decide)
  obtain ⟨c1, ec1⟩ := cell_eq ns 1 (by decide)
  try simp! only [bd_assoc, ec0, ec1]
  refine k_reel fun a b => ?_
  try simp! only [bd_assoc]
  refine ok_bd (names_ok (j := hh.length) ⟨a, b, get_end⟩) fun w h1 ⟨zs, e, lz, nz⟩ => ?_
  subst e
  try simp! only [bd_assoc]
  refine k_reel fun a b => ?_
  try simp! only [bd_assoc]
  refine ok_new ?_
  have ex0 : (h1 ++ [Ob.lst [.int a, .int b]] ++ [Ob.lst []])[h1.length + 1]? = some (.lst []) := by
    rw [show h1.length + 1 = (h1 ++ [Ob.lst [.int a, .int b]]).length by simp]; exact get_end
  have er0 : Reel (h1 ++ [Ob.lst [.int a, .int b]] ++ [Ob.lst []]) h1.length := ⟨a, b, get_app get_end⟩
  have el0 : (h1 ++ [Ob.lst [.int a, .int b]]).length = h1.length + 1 := by simp
  rw [el0]
  generalize h1 ++ [Ob.lst [.int a, .int b]] ++ [Ob.lst []] = h2 at *
  generalize h1.length = jr at *
  try simp! only [sFor, bd_assoc]
  refine k_take er0 (by decide) (by decide) fun v h3 v0 v1 K3 => ?_
  try simp! only [bd_assoc, rng1_int (show (-(2 ^ 62) : Int) ≤ v by omega) (show (v : Int) < 2 ^ 62 by omega)]
  refine ok_for (I := fun i ρ h' => ∃ a4 ps, ρ = [some (.cl (ns.map W.int)), some (.tl (zs.map W.str)), some (.loc jr), some (.loc (jr + 1)), a4, none, none, none, none, none, none, none, none, none] ∧ Reel h' jr ∧ h'[jr + 1]? = some (.lst (ps.map bxW)) ∧ ps.length = i ∧ ∀ p ∈ ps, Nm p.1 ∧ 0 ≤ p.2 ∧ p.2 < 1000) ⟨_, [], rfl, K3.re, (K3.fr.eq _ (by omega)).trans ex0, rfl, fun p hp => absurd hp List.not_mem_nil⟩ (fun _ _ _ _ => trivial) (fun i w ρ h4 hw I => ?_) fun ρ h4 I => ?_
  · obtain ⟨a4, ps, rfl, R4, e4, ll, np⟩ := I
    obtain ⟨rfl, hi⟩ := ints_get _ _ _ _ hw
    have hi : (i : Int) < 5 := by omega
    obtain ⟨z, hz, ez⟩ : ∃ z ∈ zs, ixW (.tl (zs.map W.str)) (.int (0 + (i : Int))) = pr (.str z) := by
      obtain ⟨y, hy, e⟩ := atI_exW (l := zs.map W.str) (i := 0 + (i : Int)) (by omega) (by rw [List.length_map]; omega)
      obtain ⟨z, hz, rfl⟩ := List.mem_map.mp hy
      exact ⟨z, hz, ixW_tl e⟩
    refine ⟨_, rfl, ?_⟩
    try simp! only [bd_assoc]
    refine ok_isL e4 ?_
    try simp! only [bd_assoc, ez]
    refine k_take R4 (by decide) (by decide) fun x h5 x0 x1 K5 => ?_
    obtain ⟨m, m0, m1, em⟩ : ∃ m : Int, 0 < m ∧ m ≤ 1000 ∧ atI [W.int 4, W.int 1000] x = some (.int m) := by
      obtain ⟨y, hy, e⟩ := atI_exW (l := ([4, 1000] : List Int).map W.int) x0 x1
      obtain ⟨m, hm, rfl⟩ := List.mem_map.mp hy
      have a : ∀ m ∈ ([4, 1000] : List Int), 0 < m ∧ m ≤ 1000 := by decide
      exact ⟨m, (a m hm).1, (a m hm).2, e⟩
    try simp! only [bd_assoc, ixW_tl em]
    refine k_take K5.re m0 (Int.lt_of_le_of_lt m1 (by decide)) fun y h6 y0 y1 K6 => ?_
    have K56 := K5.trans K6
    have e6 : h6[jr + 1]? = some (.lst (ps.map bxW)) := (K56.fr.eq _ (by omega)).trans e4
    try simp! only [bd_assoc, tupW]
    refine ok_app e6 (by rw [List.length_map]; exact Nat.lt_of_le_of_lt (show ps.length ≤ 5 by omega) (by decide)) ?_
    try simp! only [bd_assoc]
    refine ok_pr ⟨_, rfl, _, ps ++ [(z, y)], rfl, ?_, ?_, by rw [List.length_append, ll]; rfl, fun p hp => ?_⟩
    · obtain ⟨a', b', e'⟩ := K6.re
      exact ⟨a', b', by rw [List.getElem?_set_ne (by omega)]; exact e'⟩
    · rw [set_get e6, List.map_append]; rfl
    · rcases List.mem_append.mp hp with hp | hp
      · exact np p hp
      · rw [List.mem_singleton.mp hp]; exact ⟨nz z hz, y0, by show y < 1000; omega⟩
  obtain ⟨a4, ps, rfl, R4, e4, ll, np⟩ := I
  rw [ints_len] at ll
  have B : Bx ps := ⟨by omega, fun p hp => (np p hp).1⟩
  have bv : ∀ p ∈ ps, 0 ≤ p.2 ∧ p.2 < 1000 := fun p hp => (np p hp).2
  have b4 : ps.length ≤ 4 := B.len
  clear np ll ex0 er0 el0 K3
  have b41 := get_lt e4
  -- statements
  have c1 : (cutW ns (some 2) (some 10)).length ≤ 8 := cut_len ns 2 10
  have c2 : (cutW ns (some 10) (some 63)).length ≤ 53 := cut_len ns 10 63
  obtain ⟨cs, hcs⟩ : ∃ cs, cutW ns (some 2) (some 10) = cs := ⟨_, rfl⟩
  obtain ⟨ds, hds⟩ : ∃ ds, cutW ns (some 10) (some 63) = ds := ⟨_, rfl⟩
  have ce : cutW (ns.map W.int) (some 2) (some 10) = cs.map W.int := by rw [cut_map, hcs]
  have de : cutW (ns.map W.int) (some 10) (some 63) = ds.map W.int := by rw [cut_map, hds]
  rw [hcs] at c1
  rw [hds] at c2
  have gl : ∀ {α : Type} (q : M α) (l : List Int), l.length ≤ 100 → gd ((l.map W.int).length ≤ sizeLine) q = q := fun q l hl => gd_pos (by rw [List.length_map]; exact sz (by omega))
  try simp! only [bd_assoc, tupW]
  refine k_take R4 (by decide) (by decide) fun u h4' u0 u1 K4 => ?_
  obtain ⟨en, el, hl⟩ : ∃ en : En, atI [W.tup [.str "stop"], .tup [.str "go", .int 0]] u = some en.w ∧ (en = .stop ∨ en = .go 0) := by
    have : u = 0 ∨ u = 1 := by omega
    rcases this with rfl | rfl
    · exact ⟨.stop, rfl, .inl rfl⟩
    · exact ⟨.go 0, rfl, .inr rfl⟩
  have R4 := K4.re
  have e4 : h4'[jr + 1]? = some (.lst (ps.map bxW)) := (K4.fr.eq _ (by omega)).trans e4
  have b41 := get_lt e4
  try simp! only [bd_assoc, ixW_tl el, ce, srcL_tl, mComp_nil]
  rw [gl _ cs (by omega)]
  refine ok_comp (I := fun n l h' => (∃ sts : List Sm, l = sts.map Sm.w ∧ sts.length = n ∧ ∀ s ∈ sts, s.G (ps.map (·.1))) ∧ (∀ i, i < h4'.length → h'[i]? = h4'[i]?) ∧ h4'.length ≤ h'.length) ⟨⟨[], rfl, rfl, fun x hx => absurd hx List.not_mem_nil⟩, fun _ _ => rfl, Nat.le_refl _⟩ yes_eq (fun _ _ _ _ => trivial) (fun n w l h5 hw J => ?_) fun l h5 J => ?_
  · obtain ⟨⟨sts, rfl, ls, gs⟩, f5, l5⟩ := J
    rw [List.getElem?_map] at hw
    obtain ⟨x, _, rfl⟩ := Option.map_eq_some_iff.mp hw
    refine ⟨_, rfl, ?_⟩
    try simp! only [List.replicate, List.cons_append, List.nil_append, bd_assoc]
    refine k_reel fun a b => ?_
    try simp! only [bd_assoc]
    have L : Lb (h5 ++ [.lst [.int a, .int b]]) h5.length (.loc (jr + 1)) ps := .inr ⟨jr + 1, rfl, by omega, get_app ((f5 _ b41).trans e4)⟩
    refine Ok.imp (stm_ok B (j := h5.length) ⟨a, b, get_end⟩ L) fun w h6 ⟨⟨s, ew, g⟩, K6⟩ => ?_
    subst ew
    refine ⟨⟨sts ++ [s], by rw [List.map_append]; rfl, by rw [List.length_append, ls]; rfl, fun x hx => ?_⟩, fun i hi => ?_, ?_⟩
    · rcases List.mem_append.mp hx with hx | hx
      · exact gs x hx
      · rw [List.mem_singleton.mp hx]; exact g
    · rw [K6.fr.eq i (by omega), List.getElem?_append_left (by omega)]; exact f5 i hi
    · rw [K6.fr.len, List.length_append]; omega
  obtain ⟨⟨sts, rfl, ls, gs⟩, f5, l5⟩ := J
  rw [List.length_map] at ls
  have R5 : Reel h5 jr := by
    obtain ⟨a, b, e⟩ := R4
    exact ⟨a, b, (f5 _ (get_lt e)).trans e⟩
  have e5 : h5[jr + 1]? = some (.lst (ps.map bxW)) := (f5 _ b41).trans e4
  clear f5 e4 R4
  have b5 := get_lt e5
  -- the program
  try simp! only [bd_assoc]
  refine k_take R5 (by decide) (by decide) fun y h6 y0 y1 K6 => ?_
  obtain ⟨nm, en2⟩ : ∃ nm : Str, ixW (.tl (zs.map W.str)) (.int y) = pr (.str nm) := by
    obtain ⟨w, hw, e⟩ := atI_exW (l := zs.map W.str) (i := y) y0 (by rw [List.length_map]; omega)
    obtain ⟨z, hz, rfl⟩ := List.mem_map.mp hw
    exact ⟨z, ixW_tl e⟩
  have e6 := (K6.fr.eq _ (show jr + 1 ≠ jr by omega)).trans e5
  have R7 := K6.re
  have b71 := get_lt e6
  try simp! only [bd_assoc, en2, tupW, de, srcL_tl, mComp_nil]
  first
    | rw [gl _ ds (by omega)]
    | rw [gd_pos (p := (cutW (ns.map W.int) (some 10) (some 63)).length ≤ sizeLine) (by rw [de, List.length_map]; exact sz (by omega))]
  refine ok_comp (I := fun n l h' => (∃ us : List Int, l = us.map W.int ∧ us.length = n) ∧ (∀ i, i < h6.length → h'[i]? = h6[i]?) ∧ h6.length ≤ h'.length) ⟨⟨[], rfl, rfl⟩, fun _ _ => rfl, Nat.le_refl _⟩ yes_eq (fun _ _ _ _ => trivial) (fun n w l h8 hw J => ?_) fun l h8 J => ?_
  · obtain ⟨⟨us, rfl, lu⟩, f8, l8⟩ := J
    rw [List.getElem?_map] at hw
    obtain ⟨x, _, rfl⟩ := Option.map_eq_some_iff.mp hw
    refine ⟨_, rfl, ?_⟩
    try simp! only [List.replicate, List.cons_append, List.nil_append, bd_assoc]
    refine k_reel fun a b => ?_
    try simp! only [bd_assoc]
    refine Ok.imp (number_ok (j := h8.length) ⟨a, b, get_end⟩) fun w h9 ⟨⟨y, ew⟩, K9⟩ => ?_
    subst ew
    refine ⟨⟨us ++ [y], by rw [List.map_append]; rfl, by rw [List.length_append, lu]; rfl⟩, fun i hi => ?_, ?_⟩
    · rw [K9.fr.eq i (by omega), List.getElem?_append_left (by omega)]; exact f8 i hi
    · rw [K9.fr.len, List.length_append]; omega
  obtain ⟨⟨us, rfl, lu⟩, f8, l8⟩ := J
  rw [List.length_map] at lu
  have R8 : Reel h8 jr := by
    obtain ⟨a, b, e⟩ := R7
    exact ⟨a, b, (f8 _ (get_lt e)).trans e⟩
  have eb8 := (f8 _ b71).trans e6
  clear f8 R7 e6
  try simp! only [bd_assoc, mComp_nil]
  refine k_take R8 (by decide) (by decide) fun v h9 v0 v1 K9 => ?_
  have gi : ∀ {α : Type} (q : M α), gd ((intsW 0 v.toNat).length ≤ sizeLine) q = q := fun q => gd_pos (by rw [ints_len]; exact sz (by omega))
  try simp! only [bd_assoc, rng1_int (show (-(2 ^ 62) : Int) ≤ v by omega) (show (v : Int) < 2 ^ 62 by omega), gi]
  refine ok_comp (I := fun n l h' => (∃ us : List Int, l = us.map W.int ∧ us.length = n) ∧ Kp jr h8 h') ⟨⟨[], rfl, rfl⟩, K9⟩ yes_eq (fun _ _ _ _ => trivial) (fun n w l hA hw J => ?_) fun l hA J => ?_
  · obtain ⟨⟨vs, rfl, lv⟩, KA⟩ := J
    refine ⟨_, rfl, ?_⟩
    try simp! only [List.replicate, List.cons_append, List.nil_append, bd_assoc]
    refine Ok.imp (number_ok KA.re) fun w hB ⟨⟨y, ew⟩, KB⟩ => ?_
    subst ew
    exact ⟨⟨vs ++ [y], by rw [List.map_append]; rfl, by rw [List.length_append, lv]; rfl⟩, KA.trans KB⟩
  obtain ⟨⟨vs, rfl, lv⟩, KA⟩ := J
  rw [ints_len] at lv
  have ad : addW (.tl (us.map W.int)) (.tl (vs.map W.int)) = pr (.tl ((us ++ vs).map W.int)) := by
    rw [addW_tl _ _ (sz (by rw [List.length_map, List.length_map]; omega)), List.map_append]
  have nl : (us ++ vs).length ≤ 1000 := by rw [List.length_append]; omega
  try simp! only [bd_assoc, ad]
  generalize us ++ vs = nums at *
  refine k_take KA.re (by decide) (by decide) fun x hB x0 x1 KB => ?_
  have KAB := KA.trans KB
  have eb := (KAB.fr.eq _ (show jr + 1 ≠ jr by omega)).trans eb8
  clear KAB KB KA K9 eb8 R8 ad lv lu l8
  obtain ⟨bound, hb⟩ : ∃ bound : Nat, 1 + x = (bound : Int) := ⟨(1 + x).toNat, by omega⟩
  have bb : bound ≤ 10 := by omega
  obtain ⟨b, hbl⟩ : ∃ b : Bl, b = ⟨nm, sts, en⟩ := ⟨_, rfl⟩
  have hbe : b.en = .stop ∨ b.en = .go 0 := by rw [hbl]; exact hl
  have PG : PgG ps [b] := ⟨B, bv, Nat.le_refl _, by show 1 ≤ 10; decide, fun c hc => by
    rw [List.mem_singleton.mp hc, hbl]
    refine ⟨by show sts.length ≤ 8; omega, gs, ?_⟩
    show en.G _ 1
    rcases hl with e | e <;> rw [e]
    · trivial
    · exact Nat.zero_lt_one⟩
  have PA : PgAt hB (.tup [.loc (jr + 1), .tl [.tup [.str nm, .tl (sts.map Sm.w), en.w]]]) ps [b] := ⟨_, _, _, rfl, .inr ⟨_, rfl, eb⟩, .inl rfl, rfl, fun i c hc => by
    cases i with
    | zero => cases hc; exact ⟨_, by rw [hbl]; rfl, by rw [hbl]; exact .inl rfl⟩
    | succ i => simp at hc⟩
  try simp! only [bd_assoc, hb]
  generalize W.tup [.loc (jr + 1), .tl [.tup [.str nm, .tl (sts.map Sm.w), en.w]]] = X at *
  refine ok_bd (ran_ok (bound := bound) PG PA hbe (by omega) (by omega)) fun w h4 ⟨f4, ew⟩ => ?_
  subst ew
  have PA4 := PA.keep f4
  clear f4 PA
  have run0 := fun (h : List Ob) => run_ok (nums := nums) (h := h) (x := pgW ps [b]) (nm := .tl (nums.map W.int)) (bound := bound) PG (pgW_at h ps [b]) (.inl rfl) (by omega)
  obtain ⟨l1, l2⟩ := runB_len nums PG bound 0 (sta0 ps)
  have l1 : (runB nums [b] bound 0 (sta0 ps)).said.length ≤ 1000 := by have : (sta0 ps).said.length = 0 := rfl; omega
  have l2 : (runB nums [b] bound 0 (sta0 ps)).went.length ≤ 1000 := by omega
  generalize runB nums [b] bound 0 (sta0 ps) = o at *
  try simp! only [bd_assoc]
  refine k_copied PA4 PG.l2 ?_
  try simp! only [bd_assoc, lstOf_tl]
  refine ok_bd (run0 h4) fun w h5 ⟨f5, k, k', hk, hk', kk, ew, e1, e2⟩ => ?_
  subst ew
  have PA5 := PA4.keep f5
  try simp! only [bd_assoc]
  refine k_alike (alO (.inr ⟨_, rfl, e1⟩) (.inl rfl) (.inr ⟨_, rfl, e2⟩) (.inl rfl) l1 l2) ?_
  try simp! only [bd_assoc, ix0]
  refine k_alike (alI (n := 14) (.inl rfl) (.inl rfl) nl) ?_
  try simp! only [bd_assoc, ix0]
  refine ok_isL e1 ?_
  try simp! only [bd_assoc]
  refine ok_app e1 (by rw [List.length_map]; exact Nat.lt_of_le_of_lt l1 (by decide)) ?_
  have e2' : (h5.set k (.lst (o.said.map W.int ++ [.int 0])))[k']? = some (.lst (o.went.map wayW)) := by rw [List.getElem?_set_ne kk]; exact e2
  try simp! only [bd_assoc, ix2]
  refine ok_isL e2' ?_
  try simp! only [bd_assoc, tupW]
  refine ok_app e2' (by rw [List.length_map]; exact Nat.lt_of_le_of_lt l2 (by decide)) ?_
  have PA6 : PgAt ((h5.set k (.lst (o.said.map W.int ++ [.int 0]))).set k' (.lst (o.went.map wayW ++ [.tup [.int 0, .int 0, .int 0]]))) X ps [b] := PA4.keep fun i hi => by
    rw [List.getElem?_set_ne (by omega), List.getElem?_set_ne (by omega)]; exact f5 i hi
  generalize (h5.set k (.lst (o.said.map W.int ++ [.int 0]))).set k' (.lst (o.went.map wayW ++ [.tup [.int 0, .int 0, .int 0]])) = h6 at *
  try simp! only [bd_assoc]
  refine ok_bd (run0 h6) fun w h7 ⟨f7, k2, k2', _, _, _, ew, e3, e4⟩ => ?_
  subst ew
  have PA7 := PA6.keep f7
  try simp! only [bd_assoc]
  refine k_alike (alO (.inr ⟨_, rfl, e3⟩) (.inl rfl) (.inr ⟨_, rfl, e4⟩) (.inl rfl) l1 l2) ?_
  try simp! only [bd_assoc]
  refine k_alike (al_pg PA7 PG) ?_
  try simp! only [bd_assoc]
  exact ok_pr rfl
theorem law_true (ns : List Int) (hh : List Ob) : ∃ h', f_law [.cl (ns.map W.int)] hh = .ok (.bl true) h' := by
  obtain ⟨w, h', e, rfl⟩ := law_run ns hh
  exact ⟨h', e⟩
end Q
namespace Q
open PySem L2
def spLaw (K : PySem.W.Frag) : Sp := fun vs H Q _ => ∃ (a : Addr) (ns : List Int), vs = [.ref a] ∧ SqL K H a (ns.map V.int) ∧ ns.length ≤ 63 ∧ ∀ H', Q (.bl true) H'
theorem rvs_ints {K : PySem.W.Frag} {o : Wo} : ∀ ns : List Int, Rvs K o (ns.map W.int) (ns.map V.int)
  | [] => Rvs.nil
  | n :: r => Rvs.cons (rv_int.mpr rfl) (rvs_ints r)
theorem law_ok {P : Program} {w : World} {K : PySem.W.Frag} {mg : Str → Option Value} {base : Heap} {f : Addr} {fd : FuncData} (C : CG P w K mg base 18 "law" f fd ["script"] 1 f_law) : FnOk P w K mg base CX0 18 f fd ["script"] (spLaw K) :=
  C.ok.imp fun vs H Q E h => by
    obtain ⟨a, ns, rfl, sq, hn, q⟩ := h
    have nl : ¬ Lv ⟨fun _ => 0, [], H⟩ a := fun ⟨k, b, hk, _⟩ => by simp at hk
    refine ⟨⟨fun _ => 0, [], H⟩, [.cl (ns.map W.int)], rfl, rfl, ⟨fun k b hk => by simp at hk, fun j k b c hj => by simp at hj⟩, Rvs.cons ?_ Rvs.nil, ?_⟩
    · unfold Rv
      exact ⟨a, _, rfl, sq.imp (fun r => ⟨r, nl⟩) id, rvs_ints ns⟩
    · obtain ⟨h', e⟩ := law_true ns []
      show Ps _ _ _ (f_law [.cl (ns.map W.int)] []) Q
      rw [e]
      intro p b _ _ _ rb
      rw [rv_bl.mp rb]
      exact q _
theorem all_mk {l : PySem.W.OpenLaw} {w : World} {K : PySem.W.Frag} {h : Heap} {mg : Str → Option Value} {fa f1 f2 f3 f4 f5 f6 f7 f8 f9 f10 f11 f12 f13 f14 f15 f16 f17 f18 f19 f20 f21 f22 f23 c_Doing : Addr} (X : K.In h) (G : h.Ns mainGlobals mg) (hfa : mg "law" = some (.ref fa))
    {od1 an1 od2 an2 od3 an3 od4 an4 od5 an5 od6 an6 od7 an7 od8 an8 od9 an9 od10 an10 od11 an11 od12 an12 od13 an13 od14 an14 od15 an15 od16 an16 od17 an17 od18 an18 od19 an19 od20 an20 od21 an21 od22 an22 od23 an23 : Option Addr} {sl1 sl2 sl3 sl4 sl5 sl6 sl7 sl8 sl9 sl10 sl11 sl12 sl13 sl14 sl15 sl16 sl17 sl18 sl19 sl20 sl21 sl22 sl23 : Array (Option Value)} {oc1 kV1 dc1 pm1 cd1 ct1 oc2 kV2 dc2 pm2 cd2 ct2 oc3 kV3 dc3 pm3 cd3 ct3 oc4 kV4 dc4 pm4 cd4 ct4 oc5 kV5 dc5 pm5 cd5 ct5 oc6 kV6 dc6 pm6 cd6 ct6 oc7 kV7 dc7 pm7 cd7 ct7 oc8 kV8 dc8 pm8 cd8 ct8 oc9 kV9 dc9 pm9 cd9 ct9 oc10 kV10 dc10 pm10 cd10 ct10 oc11 kV11 dc11 pm11 cd11 ct11 oc12 kV12 dc12 pm12 cd12 ct12 oc13 kV13 dc13 pm13 cd13 ct13 oc14 kV14 dc14 pm14 cd14 ct14 oc15 kV15 dc15 pm15 cd15 ct15 oc16 kV16 dc16 pm16 cd16 ct16 oc17 kV17 dc17 pm17 cd17 ct17 oc18 kV18 dc18 pm18 cd18 ct18 oc19 kV19 dc19 pm19 cd19 ct19 oc20 kV20 dc20 pm20 cd20 ct20 oc21 kV21 dc21 pm21 cd21 ct21 oc22 kV22 dc22 pm22 cd22 ct22 oc23 kV23 dc23 pm23 cd23 ct23 : Value}
    {t_BOX_RANGE : Tok}
    (n_Doing : PySem.W.nsIn K mainGlobals "Doing" = some (some (.ref c_Doing)))
    (a1 : PySem.W.nsIn K mainGlobals "worth" = some (some (.ref f1)))
    (l1 : K.lookup f1 = some ⟨oc1, od1, .func (PySem.W.fnOf "worth" "worth" (defArgs s_worth) (defBody s_worth) (defScope s_worth) .none kV1 dc1 pm1 an1 cd1 ct1), sl1⟩)
    (c1 : PySem.W.codeIn K cd1 "worth" = true)
    (k1 : PySem.W.keepIn K (.ref f1) = true)
    (a2 : PySem.W.findIn K (.ref c_Doing) "__init__" = some (some (.ref f2)))
    (i2 : PySem.W.isFn K (.ref f2) = true)
    (l2 : K.lookup f2 = some ⟨oc2, od2, .func (PySem.W.fnOf "__init__" "Doing.__init__" (defArgs s_Doing___init__) (defBody s_Doing___init__) (defScope s_Doing___init__) .none kV2 dc2 pm2 an2 cd2 ct2), sl2⟩)
    (c2 : PySem.W.codeIn K cd2 "Doing.__init__" = true)
    (k2 : PySem.W.keepIn K (.ref f2) = true)
    (a3 : PySem.W.findIn K (.ref c_Doing) "lacks_number" = some (some (.ref f3)))
    (i3 : PySem.W.isFn K (.ref f3) = true)
    (l3 : K.lookup f3 = some ⟨oc3, od3, .func (PySem.W.fnOf "lacks_number" "Doing.lacks_number" (defArgs s_Doing_lacks_number) (defBody s_Doing_lacks_number) (defScope s_Doing_lacks_number) .none kV3 dc3 pm3 an3 cd3 ct3), sl3⟩)
    (c3 : PySem.W.codeIn K cd3 "Doing.lacks_number" = true)
    (k3 : PySem.W.keepIn K (.ref f3) = true)
    (a4 : PySem.W.findIn K (.ref c_Doing) "do_statement" = some (some (.ref f4)))
    (i4 : PySem.W.isFn K (.ref f4) = true)
    (l4 : K.lookup f4 = some ⟨oc4, od4, .func (PySem.W.fnOf "do_statement" "Doing.do_statement" (defArgs s_Doing_do_statement) (defBody s_Doing_do_statement) (defScope s_Doing_do_statement) .none kV4 dc4 pm4 an4 cd4 ct4), sl4⟩)
    (c4 : PySem.W.codeIn K cd4 "Doing.do_statement" = true)
    (k4 : PySem.W.keepIn K (.ref f4) = true)
    (a5 : PySem.W.findIn K (.ref c_Doing) "holds" = some (some (.ref f5)))
    (i5 : PySem.W.isFn K (.ref f5) = true)
    (l5 : K.lookup f5 = some ⟨oc5, od5, .func (PySem.W.fnOf "holds" "Doing.holds" (defArgs s_Doing_holds) (defBody s_Doing_holds) (defScope s_Doing_holds) .none kV5 dc5 pm5 an5 cd5 ct5), sl5⟩)
    (c5 : PySem.W.codeIn K cd5 "Doing.holds" = true)
    (k5 : PySem.W.keepIn K (.ref f5) = true)
    (a6 : PySem.W.findIn K (.ref c_Doing) "chosen" = some (some (.ref f6)))
    (i6 : PySem.W.isFn K (.ref f6) = true)
    (l6 : K.lookup f6 = some ⟨oc6, od6, .func (PySem.W.fnOf "chosen" "Doing.chosen" (defArgs s_Doing_chosen) (defBody s_Doing_chosen) (defScope s_Doing_chosen) .none kV6 dc6 pm6 an6 cd6 ct6), sl6⟩)
    (c6 : PySem.W.codeIn K cd6 "Doing.chosen" = true)
    (k6 : PySem.W.keepIn K (.ref f6) = true)
    (a7 : PySem.W.nsIn K mainGlobals "sides_of" = some (some (.ref f7)))
    (l7 : K.lookup f7 = some ⟨oc7, od7, .func (PySem.W.fnOf "sides_of" "sides_of" (defArgs s_sides_of) (defBody s_sides_of) (defScope s_sides_of) .none kV7 dc7 pm7 an7 cd7 ct7), sl7⟩)
    (c7 : PySem.W.codeIn K cd7 "sides_of" = true)
    (k7 : PySem.W.keepIn K (.ref f7) = true)
    (a8 : PySem.W.nsIn K mainGlobals "side_taken" = some (some (.ref f8)))
    (l8 : K.lookup f8 = some ⟨oc8, od8, .func (PySem.W.fnOf "side_taken" "side_taken" (defArgs s_side_taken) (defBody s_side_taken) (defScope s_side_taken) .none kV8 dc8 pm8 an8 cd8 ct8), sl8⟩)
    (c8 : PySem.W.codeIn K cd8 "side_taken" = true)
    (k8 : PySem.W.keepIn K (.ref f8) = true)
    (a9 : PySem.W.nsIn K mainGlobals "do_statements" = some (some (.ref f9)))
    (l9 : K.lookup f9 = some ⟨oc9, od9, .func (PySem.W.fnOf "do_statements" "do_statements" (defArgs s_do_statements) (defBody s_do_statements) (defScope s_do_statements) .none kV9 dc9 pm9 an9 cd9 ct9), sl9⟩)
    (c9 : PySem.W.codeIn K cd9 "do_statements" = true)
    (k9 : PySem.W.keepIn K (.ref f9) = true)
    (a10 : PySem.W.nsIn K mainGlobals "run" = some (some (.ref f10)))
    (l10 : K.lookup f10 = some ⟨oc10, od10, .func (PySem.W.fnOf "run" "run" (defArgs s_run) (defBody s_run) (defScope s_run) .none kV10 dc10 pm10 an10 cd10 ct10), sl10⟩)
    (c10 : PySem.W.codeIn K cd10 "run" = true)
    (k10 : PySem.W.keepIn K (.ref f10) = true)
    (a11 : PySem.W.nsIn K mainGlobals "_law_cell_at" = some (some (.ref f11)))
    (l11 : K.lookup f11 = some ⟨oc11, od11, .func (PySem.W.fnOf "_law_cell_at" "_law_cell_at" (defArgs s_law_cell_at) (defBody s_law_cell_at) (defScope s_law_cell_at) .none kV11 dc11 pm11 an11 cd11 ct11), sl11⟩)
    (c11 : PySem.W.codeIn K cd11 "_law_cell_at" = true)
    (k11 : PySem.W.keepIn K (.ref f11) = true)
    (a12 : PySem.W.nsIn K mainGlobals "_law_reel" = some (some (.ref f12)))
    (l12 : K.lookup f12 = some ⟨oc12, od12, .func (PySem.W.fnOf "_law_reel" "_law_reel" (defArgs s_law_reel) (defBody s_law_reel) (defScope s_law_reel) .none kV12 dc12 pm12 an12 cd12 ct12), sl12⟩)
    (c12 : PySem.W.codeIn K cd12 "_law_reel" = true)
    (k12 : PySem.W.keepIn K (.ref f12) = true)
    (a13 : PySem.W.nsIn K mainGlobals "_law_take" = some (some (.ref f13)))
    (l13 : K.lookup f13 = some ⟨oc13, od13, .func (PySem.W.fnOf "_law_take" "_law_take" (defArgs s_law_take) (defBody s_law_take) (defScope s_law_take) .none kV13 dc13 pm13 an13 cd13 ct13), sl13⟩)
    (c13 : PySem.W.codeIn K cd13 "_law_take" = true)
    (k13 : PySem.W.keepIn K (.ref f13) = true)
    (a14 : PySem.W.nsIn K mainGlobals "_law_names" = some (some (.ref f14)))
    (l14 : K.lookup f14 = some ⟨oc14, od14, .func (PySem.W.fnOf "_law_names" "_law_names" (defArgs s_law_names) (defBody s_law_names) (defScope s_law_names) .none kV14 dc14 pm14 an14 cd14 ct14), sl14⟩)
    (c14 : PySem.W.codeIn K cd14 "_law_names" = true)
    (k14 : PySem.W.keepIn K (.ref f14) = true)
    (a15 : PySem.W.nsIn K mainGlobals "_law_leaf" = some (some (.ref f15)))
    (l15 : K.lookup f15 = some ⟨oc15, od15, .func (PySem.W.fnOf "_law_leaf" "_law_leaf" (defArgs s_law_leaf) (defBody s_law_leaf) (defScope s_law_leaf) .none kV15 dc15 pm15 an15 cd15 ct15), sl15⟩)
    (c15 : PySem.W.codeIn K cd15 "_law_leaf" = true)
    (k15 : PySem.W.keepIn K (.ref f15) = true)
    (a16 : PySem.W.nsIn K mainGlobals "_law_tree" = some (some (.ref f16)))
    (l16 : K.lookup f16 = some ⟨oc16, od16, .func (PySem.W.fnOf "_law_tree" "_law_tree" (defArgs s_law_tree) (defBody s_law_tree) (defScope s_law_tree) .none kV16 dc16 pm16 an16 cd16 ct16), sl16⟩)
    (c16 : PySem.W.codeIn K cd16 "_law_tree" = true)
    (k16 : PySem.W.keepIn K (.ref f16) = true)
    (a17 : PySem.W.nsIn K mainGlobals "_law_worth" = some (some (.ref f17)))
    (l17 : K.lookup f17 = some ⟨oc17, od17, .func (PySem.W.fnOf "_law_worth" "_law_worth" (defArgs s_law_worth) (defBody s_law_worth) (defScope s_law_worth) .none kV17 dc17 pm17 an17 cd17 ct17), sl17⟩)
    (c17 : PySem.W.codeIn K cd17 "_law_worth" = true)
    (k17 : PySem.W.keepIn K (.ref f17) = true)
    (a18 : PySem.W.nsIn K mainGlobals "_law_statement" = some (some (.ref f18)))
    (l18 : K.lookup f18 = some ⟨oc18, od18, .func (PySem.W.fnOf "_law_statement" "_law_statement" (defArgs s_law_statement) (defBody s_law_statement) (defScope s_law_statement) .none kV18 dc18 pm18 an18 cd18 ct18), sl18⟩)
    (c18 : PySem.W.codeIn K cd18 "_law_statement" = true)
    (k18 : PySem.W.keepIn K (.ref f18) = true)
    (a19 : PySem.W.nsIn K mainGlobals "_law_number" = some (some (.ref f19)))
    (l19 : K.lookup f19 = some ⟨oc19, od19, .func (PySem.W.fnOf "_law_number" "_law_number" (defArgs s_law_number) (defBody s_law_number) (defScope s_law_number) .none kV19 dc19 pm19 an19 cd19 ct19), sl19⟩)
    (c19 : PySem.W.codeIn K cd19 "_law_number" = true)
    (k19 : PySem.W.keepIn K (.ref f19) = true)
    (a20 : PySem.W.nsIn K mainGlobals "_law_alike" = some (some (.ref f20)))
    (l20 : K.lookup f20 = some ⟨oc20, od20, .func (PySem.W.fnOf "_law_alike" "_law_alike" (defArgs s_law_alike) (defBody s_law_alike) (defScope s_law_alike) .none kV20 dc20 pm20 an20 cd20 ct20), sl20⟩)
    (c20 : PySem.W.codeIn K cd20 "_law_alike" = true)
    (k20 : PySem.W.keepIn K (.ref f20) = true)
    (a21 : PySem.W.nsIn K mainGlobals "_law_copied" = some (some (.ref f21)))
    (l21 : K.lookup f21 = some ⟨oc21, od21, .func (PySem.W.fnOf "_law_copied" "_law_copied" (defArgs s_law_copied) (defBody s_law_copied) (defScope s_law_copied) .none kV21 dc21 pm21 an21 cd21 ct21), sl21⟩)
    (c21 : PySem.W.codeIn K cd21 "_law_copied" = true)
    (k21 : PySem.W.keepIn K (.ref f21) = true)
    (a22 : PySem.W.nsIn K mainGlobals "_law_ran" = some (some (.ref f22)))
    (l22 : K.lookup f22 = some ⟨oc22, od22, .func (PySem.W.fnOf "_law_ran" "_law_ran" (defArgs s_law_ran) (defBody s_law_ran) (defScope s_law_ran) .none kV22 dc22 pm22 an22 cd22 ct22), sl22⟩)
    (c22 : PySem.W.codeIn K cd22 "_law_ran" = true)
    (k22 : PySem.W.keepIn K (.ref f22) = true)
    (a23 : PySem.W.nsIn K mainGlobals "law" = some (some (.ref f23)))
    (l23 : K.lookup f23 = some ⟨oc23, od23, .func (PySem.W.fnOf "law" "law" (defArgs s_law) (defBody s_law) (defScope s_law) .none kV23 dc23 pm23 an23 cd23 ct23), sl23⟩)
    (c23 : PySem.W.codeIn K cd23 "law" = true)
    (k23 : PySem.W.keepIn K (.ref f23) = true)
    (pg_Doing : PySem.W.plainGet K c_Doing Str.empty = true)
    (hd_Doing : PySem.W.hasDictIn K c_Doing = true)
    (po_Doing : PySem.W.plainOver K c_Doing = true)
    (sa_Doing : PySem.W.findIn K (.ref c_Doing) "__setattr__" = some (some (.builtin "object.__setattr__")))
    (mk_Doing : PySem.W.makesIn K c_Doing = true)
    (kc_Doing : PySem.W.keepIn K (.ref c_Doing) = true)
    (na_Doing_held : PySem.W.findIn K (.ref c_Doing) "held" = some none)
    (na_Doing_numbers : PySem.W.findIn K (.ref c_Doing) "numbers" = some none)
    (na_Doing_said : PySem.W.findIn K (.ref c_Doing) "said" = some none)
    (na_Doing_taken : PySem.W.findIn K (.ref c_Doing) "taken" = some none)
    (h_BOX_RANGE : PySem.W.nsIn K mainGlobals "BOX_RANGE" = some (some (.int 1000000 t_BOX_RANGE)))
    (z_abs : PySem.W.nsIn K mainGlobals "abs" = some none)
    (z_bool : PySem.W.nsIn K mainGlobals "bool" = some none)
    (z_dict : PySem.W.nsIn K mainGlobals "dict" = some none)
    (z_int : PySem.W.nsIn K mainGlobals "int" = some none)
    (z_isinstance : PySem.W.nsIn K mainGlobals "isinstance" = some none)
    (z_len : PySem.W.nsIn K mainGlobals "len" = some none)
    (z_list : PySem.W.nsIn K mainGlobals "list" = some none)
    (z_max : PySem.W.nsIn K mainGlobals "max" = some none)
    (z_range : PySem.W.nsIn K mainGlobals "range" = some none)
    (z_str : PySem.W.nsIn K mainGlobals "str" = some none)
    (z_tuple : PySem.W.nsIn K mainGlobals "tuple" = some none) :
    ∃ fd : FuncData, (∀ (s : Shared) (v : Value), BindsTo s fd ⟨[v], []⟩ [("script", v)]) ∧ ∀ base : Heap, K.In base → base.Ns mainGlobals mg → FnOk l.prog w K mg base CX0 18 fa fd ["script"] (spLaw K) := by
  have e := hfa.symm.trans (PySem.W.mg_of X G a23)
  cases e
  have y_abs := PySem.W.mg_none_of X G z_abs
  have y_bool := PySem.W.mg_none_of X G z_bool
  have y_dict := PySem.W.mg_none_of X G z_dict
  have y_int := PySem.W.mg_none_of X G z_int
  have y_isinstance := PySem.W.mg_none_of X G z_isinstance
  have y_len := PySem.W.mg_none_of X G z_len
  have y_list := PySem.W.mg_none_of X G z_list
  have y_max := PySem.W.mg_none_of X G z_max
  have y_range := PySem.W.mg_none_of X G z_range
  have y_str := PySem.W.mg_none_of X G z_str
  have y_tuple := PySem.W.mg_none_of X G z_tuple
  have cl_Doing : Cls K c_Doing := ⟨pg_Doing, hd_Doing, po_Doing, sa_Doing⟩
  have m_Doing := PySem.W.mg_of X G n_Doing
  have c_BOX_RANGE := PySem.W.mg_of X G h_BOX_RANGE
  have F1 := fun_mk (st := s_worth) l1 c1 k1
  have b1 := F1.binds (ps := ["e", "values"]) fun _ _ _ _ _ _ us hl => match us, hl with | [_, _], _ => rfl
  have m1 := PySem.W.mg_of X G a1
  have F2 := fun_mk (st := s_Doing___init__) l2 c2 k2
  have b2 := F2.binds (ps := ["self", "boxes", "numbers"]) fun _ _ _ _ _ _ us hl => match us, hl with | [_, _, _], _ => rfl
  have F3 := fun_mk (st := s_Doing_lacks_number) l3 c3 k3
  have b3 := F3.binds (ps := ["self", "row"]) fun _ _ _ _ _ _ us hl => match us, hl with | [_, _], _ => rfl
  have F4 := fun_mk (st := s_Doing_do_statement) l4 c4 k4
  have b4 := F4.binds (ps := ["self", "statement"]) fun _ _ _ _ _ _ us hl => match us, hl with | [_, _], _ => rfl
  have F5 := fun_mk (st := s_Doing_holds) l5 c5 k5
  have b5 := F5.binds (ps := ["self", "sign", "left", "right"]) fun _ _ _ _ _ _ us hl => match us, hl with | [_, _, _, _], _ => rfl
  have F6 := fun_mk (st := s_Doing_chosen) l6 c6 k6
  have b6 := F6.binds (ps := ["self", "e", "many"]) fun _ _ _ _ _ _ us hl => match us, hl with | [_, _, _], _ => rfl
  have F7 := fun_mk (st := s_sides_of) l7 c7 k7
  have b7 := F7.binds (ps := ["end"]) fun _ _ _ _ _ _ us hl => match us, hl with | [_], _ => rfl
  have m7 := PySem.W.mg_of X G a7
  have F8 := fun_mk (st := s_side_taken) l8 c8 k8
  have b8 := F8.binds (ps := ["doing", "end"]) fun _ _ _ _ _ _ us hl => match us, hl with | [_, _], _ => rfl
  have m8 := PySem.W.mg_of X G a8
  have F9 := fun_mk (st := s_do_statements) l9 c9 k9
  have b9 := F9.binds (ps := ["doing", "statements"]) fun _ _ _ _ _ _ us hl => match us, hl with | [_, _], _ => rfl
  have m9 := PySem.W.mg_of X G a9
  have F10 := fun_mk (st := s_run) l10 c10 k10
  have b10 := F10.binds (ps := ["program", "numbers", "bound"]) fun _ _ _ _ _ _ us hl => match us, hl with | [_, _, _], _ => rfl
  have m10 := PySem.W.mg_of X G a10
  have F11 := fun_mk (st := s_law_cell_at) l11 c11 k11
  have b11 := F11.binds (ps := ["script", "k"]) fun _ _ _ _ _ _ us hl => match us, hl with | [_, _], _ => rfl
  have m11 := PySem.W.mg_of X G a11
  have F12 := fun_mk (st := s_law_reel) l12 c12 k12
  have b12 := F12.binds (ps := ["cell"]) fun _ _ _ _ _ _ us hl => match us, hl with | [_], _ => rfl
  have m12 := PySem.W.mg_of X G a12
  have F13 := fun_mk (st := s_law_take) l13 c13 k13
  have b13 := F13.binds (ps := ["reel", "many"]) fun _ _ _ _ _ _ us hl => match us, hl with | [_, _], _ => rfl
  have m13 := PySem.W.mg_of X G a13
  have F14 := fun_mk (st := s_law_names) l14 c14 k14
  have b14 := F14.binds (ps := ["reel", "many"]) fun _ _ _ _ _ _ us hl => match us, hl with | [_, _], _ => rfl
  have m14 := PySem.W.mg_of X G a14
  have F15 := fun_mk (st := s_law_leaf) l15 c15 k15
  have b15 := F15.binds (ps := ["reel", "boxes"]) fun _ _ _ _ _ _ us hl => match us, hl with | [_, _], _ => rfl
  have m15 := PySem.W.mg_of X G a15
  have F16 := fun_mk (st := s_law_tree) l16 c16 k16
  have b16 := F16.binds (ps := ["reel", "boxes", "leaves"]) fun _ _ _ _ _ _ us hl => match us, hl with | [_, _, _], _ => rfl
  have m16 := PySem.W.mg_of X G a16
  have F17 := fun_mk (st := s_law_worth) l17 c17 k17
  have b17 := F17.binds (ps := ["e", "values"]) fun _ _ _ _ _ _ us hl => match us, hl with | [_, _], _ => rfl
  have m17 := PySem.W.mg_of X G a17
  have F18 := fun_mk (st := s_law_statement) l18 c18 k18
  have b18 := F18.binds (ps := ["reel", "boxes"]) fun _ _ _ _ _ _ us hl => match us, hl with | [_, _], _ => rfl
  have m18 := PySem.W.mg_of X G a18
  have F19 := fun_mk (st := s_law_number) l19 c19 k19
  have b19 := F19.binds (ps := ["reel"]) fun _ _ _ _ _ _ us hl => match us, hl with | [_], _ => rfl
  have m19 := PySem.W.mg_of X G a19
  have F20 := fun_mk (st := s_law_alike) l20 c20 k20
  have b20 := F20.binds (ps := ["found", "due"]) fun _ _ _ _ _ _ us hl => match us, hl with | [_, _], _ => rfl
  have m20 := PySem.W.mg_of X G a20
  have F21 := fun_mk (st := s_law_copied) l21 c21 k21
  have b21 := F21.binds (ps := ["program"]) fun _ _ _ _ _ _ us hl => match us, hl with | [_], _ => rfl
  have m21 := PySem.W.mg_of X G a21
  have F22 := fun_mk (st := s_law_ran) l22 c22 k22
  have b22 := F22.binds (ps := ["program", "numbers", "bound"]) fun _ _ _ _ _ _ us hl => match us, hl with | [_, _, _], _ => rfl
  have m22 := PySem.W.mg_of X G a22
  have F23 := fun_mk (st := s_law) l23 c23 k23
  have b23 := F23.binds (ps := ["script"]) fun _ _ _ _ _ _ us hl => match us, hl with | [_], _ => rfl
  have m23 := PySem.W.mg_of X G a23
  refine ⟨PySem.W.fnOf "law" "law" (defArgs s_law) (defBody s_law) (defScope s_law) .none kV23 dc23 pm23 an23 cd23 ct23, fun s v => .of_eq rfl, fun base _ _ => ?_⟩
  have M_Doing : Mk K c_Doing f2 := ⟨mk_Doing, a2, i2, kc_Doing⟩
  have C_worth := ok_worth (P := l.prog) (w := w) (K := K) (mg := mg) (base := base)  F1 b1 m1 6
  have C_Doing___init__ := ok_Doing___init__ (P := l.prog) (w := w) (K := K) (mg := mg) (base := base) y_dict y_list n_Doing cl_Doing na_Doing_held na_Doing_numbers na_Doing_said na_Doing_taken F2 b2 ⟨a2, i2, k2⟩
  have C_Doing_lacks_number := ok_Doing_lacks_number (P := l.prog) (w := w) (K := K) (mg := mg) (base := base) y_len n_Doing cl_Doing na_Doing_numbers na_Doing_taken F3 b3 ⟨a3, i3, k3⟩
  have C_Doing_do_statement := ok_Doing_do_statement (P := l.prog) (w := w) (K := K) (mg := mg) (base := base) c_BOX_RANGE n_Doing cl_Doing na_Doing_held na_Doing_numbers na_Doing_said na_Doing_taken C_worth F4 b4 ⟨a4, i4, k4⟩
  have C_Doing_holds := ok_Doing_holds (P := l.prog) (w := w) (K := K) (mg := mg) (base := base) n_Doing cl_Doing na_Doing_held C_worth F5 b5 ⟨a5, i5, k5⟩
  have C_Doing_chosen := ok_Doing_chosen (P := l.prog) (w := w) (K := K) (mg := mg) (base := base) n_Doing cl_Doing na_Doing_held C_worth F6 b6 ⟨a6, i6, k6⟩
  have C_sides_of := ok_sides_of (P := l.prog) (w := w) (K := K) (mg := mg) (base := base)  F7 b7 m7
  have C_side_taken := ok_side_taken (P := l.prog) (w := w) (K := K) (mg := mg) (base := base) y_len n_Doing cl_Doing C_Doing_holds C_Doing_chosen F8 b8 m8
  have C_do_statements := ok_do_statements (P := l.prog) (w := w) (K := K) (mg := mg) (base := base) n_Doing cl_Doing C_Doing_lacks_number C_Doing_do_statement F9 b9 m9
  have C_run := ok_run (P := l.prog) (w := w) (K := K) (mg := mg) (base := base) y_len n_Doing cl_Doing na_Doing_said m_Doing M_Doing C_Doing___init__ C_do_statements C_side_taken C_sides_of F10 b10 m10
  have C_law_cell_at := ok_law_cell_at (P := l.prog) (w := w) (K := K) (mg := mg) (base := base) y_len F11 b11 m11
  have C_law_reel := ok_law_reel (P := l.prog) (w := w) (K := K) (mg := mg) (base := base) y_abs F12 b12 m12
  have C_law_take := ok_law_take (P := l.prog) (w := w) (K := K) (mg := mg) (base := base)  F13 b13 m13
  have C_law_names := ok_law_names (P := l.prog) (w := w) (K := K) (mg := mg) (base := base) y_len y_max y_range C_law_take F14 b14 m14
  have C_law_leaf := ok_law_leaf (P := l.prog) (w := w) (K := K) (mg := mg) (base := base) y_len C_law_take F15 b15 m15
  have C_law_tree := ok_law_tree (P := l.prog) (w := w) (K := K) (mg := mg) (base := base) C_law_leaf C_law_take F16 b16 m16 6
  have C_law_worth := ok_law_worth (P := l.prog) (w := w) (K := K) (mg := mg) (base := base)  F17 b17 m17 6
  have C_law_statement := ok_law_statement (P := l.prog) (w := w) (K := K) (mg := mg) (base := base) y_len C_law_take C_law_tree F18 b18 m18
  have C_law_number := ok_law_number (P := l.prog) (w := w) (K := K) (mg := mg) (base := base) C_law_take F19 b19 m19
  have C_law_alike := ok_law_alike (P := l.prog) (w := w) (K := K) (mg := mg) (base := base) y_bool y_int y_isinstance y_len y_list y_range y_str y_tuple F20 b20 m20 16
  have C_law_copied := ok_law_copied (P := l.prog) (w := w) (K := K) (mg := mg) (base := base) y_list F21 b21 m21
  have C_law_ran := ok_law_ran (P := l.prog) (w := w) (K := K) (mg := mg) (base := base) y_len y_range C_law_worth F22 b22 m22
  have C_law := ok_law (P := l.prog) (w := w) (K := K) (mg := mg) (base := base) y_list y_range C_law_names C_law_reel C_law_cell_at C_law_take C_law_statement C_law_number C_law_ran C_law_copied C_run C_law_alike F23 b23 m23
  exact law_ok C_law
theorem walk {l : PySem.W.OpenLaw} {q : Program} {loose : List Str} {XP : (Str → Option Value) → Heap → Prop} {YP : World → Heap → Prop} {d : DefRec} {K : Params → PySem.W.Frag} (hn : l.most = some 63) (hdf : d.params.defaults = [])
    (hY : ∀ (w : World) (h : Heap), YP w h → (K w.params).In h)
    (F : ∀ (w : World) (mg : Str → Option Value) (fa : Addr) (h : Heap), (K w.params).In h → h.Ns mainGlobals mg → mg d.name = some (.ref fa) →
      ∃ fd : FuncData, (∀ (s : Shared) (u : Value), BindsTo s fd ⟨[u], []⟩ [("script", u)]) ∧ ∀ base : Heap, (K w.params).In base → base.Ns mainGlobals mg → FnOk l.prog w (K w.params) mg base CX0 18 fa fd ["script"] (spLaw (K w.params))) :
    PySem.W.WalkO q loose XP YP l.row.toRowW d [] (fun f vs => PySem.call f vs) :=
  L2.walk_of (n := 63) (k := 18) (x := "script") (CX := fun _ => CX0) (sp := fun w => spLaw (K w.params)) hn (by decide) hdf ⟨rfl, by decide, by decide⟩ hY F (fun _ _ a ns hl _ hS => ⟨a, ns, rfl, hS, hl, fun _ => rfl⟩) fun _ _ _ _ _ z => z
end Q
open PySem PySem.W PyProof.Rows
set_option maxRecDepth 100000 in
set_option maxHeartbeats 0 in
theorem PySem.Challenge.cw_blockfall_k11_one_block_holds : PySem.Challenge.rw_blockfall_k11_one_block.Holds := by
  w_on; o_law; k_head; (case hw => w_witness2)
  k_fill
  refine Q.walk (l := PySem.Challenge.rw_blockfall_k11_one_block) rfl rfl (fun w h Y => PySem.W.kIn_of Y) ?F
  case F =>
    intro w mg fa h KX G hmg
    refine' Q.all_mk KX G hmg ?n_Doing ?a1 ?l1 ?c1 ?k1 ?a2 ?i2 ?l2 ?c2 ?k2 ?a3 ?i3 ?l3 ?c3 ?k3 ?a4 ?i4 ?l4 ?c4 ?k4 ?a5 ?i5 ?l5 ?c5 ?k5 ?a6 ?i6 ?l6 ?c6 ?k6 ?a7 ?l7 ?c7 ?k7 ?a8 ?l8 ?c8 ?k8 ?a9 ?l9 ?c9 ?k9 ?a10 ?l10 ?c10 ?k10 ?a11 ?l11 ?c11 ?k11 ?a12 ?l12 ?c12 ?k12 ?a13 ?l13 ?c13 ?k13 ?a14 ?l14 ?c14 ?k14 ?a15 ?l15 ?c15 ?k15 ?a16 ?l16 ?c16 ?k16 ?a17 ?l17 ?c17 ?k17 ?a18 ?l18 ?c18 ?k18 ?a19 ?l19 ?c19 ?k19 ?a20 ?l20 ?c20 ?k20 ?a21 ?l21 ?c21 ?k21 ?a22 ?l22 ?c22 ?k22 ?a23 ?l23 ?c23 ?k23 ?pg_Doing ?hd_Doing ?po_Doing ?sa_Doing ?mk_Doing ?kc_Doing ?na_Doing_held ?na_Doing_numbers ?na_Doing_said ?na_Doing_taken ?h_BOX_RANGE ?z_abs ?z_bool ?z_dict ?z_int ?z_isinstance ?z_len ?z_list ?z_max ?z_range ?z_str ?z_tuple
    (case n_Doing => k_is)
    (case a1 => k_is)
    (case l1 => k_is)
    (case c1 => k_is)
    (case k1 => k_is)
    (case a2 => k_is)
    (case i2 => k_is)
    (case l2 => k_is)
    (case c2 => k_is)
    (case k2 => k_is)
    (case a3 => k_is)
    (case i3 => k_is)
    (case l3 => k_is)
    (case c3 => k_is)
    (case k3 => k_is)
    (case a4 => k_is)
    (case i4 => k_is)
    (case l4 => k_is)
    (case c4 => k_is)
    (case k4 => k_is)
    (case a5 => k_is)
    (case i5 => k_is)
    (case l5 => k_is)
    (case c5 => k_is)
    (case k5 => k_is)
    (case a6 => k_is)
    (case i6 => k_is)
    (case l6 => k_is)
    (case c6 => k_is)
    (case k6 => k_is)
    (case a7 => k_is)
    (case l7 => k_is)
    (case c7 => k_is)
    (case k7 => k_is)
    (case a8 => k_is)
    (case l8 => k_is)
    (case c8 => k_is)
    (case k8 => k_is)
    (case a9 => k_is)
    (case l9 => k_is)
    (case c9 => k_is)
    (case k9 => k_is)
    (case a10 => k_is)
    (case l10 => k_is)
    (case c10 => k_is)
    (case k10 => k_is)
    (case a11 => k_is)
    (case l11 => k_is)
    (case c11 => k_is)
    (case k11 => k_is)
    (case a12 => k_is)
    (case l12 => k_is)
    (case c12 => k_is)
    (case k12 => k_is)
    (case a13 => k_is)
    (case l13 => k_is)
    (case c13 => k_is)
    (case k13 => k_is)
    (case a14 => k_is)
    (case l14 => k_is)
    (case c14 => k_is)
    (case k14 => k_is)
    (case a15 => k_is)
    (case l15 => k_is)
    (case c15 => k_is)
    (case k15 => k_is)
    (case a16 => k_is)
    (case l16 => k_is)
    (case c16 => k_is)
    (case k16 => k_is)
    (case a17 => k_is)
    (case l17 => k_is)
    (case c17 => k_is)
    (case k17 => k_is)
    (case a18 => k_is)
    (case l18 => k_is)
    (case c18 => k_is)
    (case k18 => k_is)
    (case a19 => k_is)
    (case l19 => k_is)
    (case c19 => k_is)
    (case k19 => k_is)
    (case a20 => k_is)
    (case l20 => k_is)
    (case c20 => k_is)
    (case k20 => k_is)
    (case a21 => k_is)
    (case l21 => k_is)
    (case c21 => k_is)
    (case k21 => k_is)
    (case a22 => k_is)
    (case l22 => k_is)
    (case c22 => k_is)
    (case k22 => k_is)
    (case a23 => k_is)
    (case l23 => k_is)
    (case c23 => k_is)
    (case k23 => k_is)
    (case pg_Doing => k_is)
    (case hd_Doing => k_is)
    (case po_Doing => k_is)
    (case sa_Doing => k_is)
    (case mk_Doing => k_is)
    (case kc_Doing => k_is)
    (case na_Doing_held => k_is)
    (case na_Doing_numbers => k_is)
    (case na_Doing_said => k_is)
    (case na_Doing_taken => k_is)
    (case h_BOX_RANGE => k_is)
    (case z_abs => k_is)
    (case z_bool => k_is)
    (case z_dict => k_is)
    (case z_int => k_is)
    (case z_isinstance => k_is)
    (case z_len => k_is)
    (case z_list => k_is)
    (case z_max => k_is)
    (case z_range => k_is)
    (case z_str => k_is)
    (case z_tuple => k_is)
#print axioms PySem.Challenge.cw_blockfall_k11_one_block_holds
