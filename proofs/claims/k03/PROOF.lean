import PyProof.Rows.All
import Wide.All
import OpenK.AllK
import Wide.FinOn
import Lean
import PyProof.EqAt
import PyProof.EqKinds
import PyProof.TupleCall
import PySem.Challenge.RW_bitbus_k03_bad_bits
set_option Elab.async false
set_option linter.all false
set_option maxRecDepth 100000
/-! THE HAND LAYER, for ints, bools, texts, own classes, LISTS and tuples (index, slices, in, append, pop ..), calls, loops. Paste it whole ahead of your own text; what your proof does not reach may be deleted. -/
namespace L2
open PySem PySem.Spec PyProof.Rows

/-- a key: an int or a str -/
abbrev Key := Sum Int Str
def keyIs : Key → Value → Bool
  | .inl k, v => Value.isInt k v
  | .inr x, v => Value.isStrOf x v
def keyH (w : World) : Key → Int
  | .inl k => hashInt k
  | .inr x => hashStr w x
theorem keyIs_shape : ∀ {k : Key} {v : Value}, keyIs k v = true → (∃ i t, k = Sum.inl i ∧ v = Value.int i t) ∨ (∃ x t, k = Sum.inr x ∧ v = Value.str x t)
  | .inl i, v, h => by
    obtain ⟨t, e⟩ := Value.isInt_shape (k := i) (v := v) h
    exact .inl ⟨i, t, rfl, e⟩
  | .inr x, v, h => by
    obtain ⟨t, e⟩ := Value.isStrOf_shape (x := x) (v := v) h
    exact .inr ⟨x, t, rfl, e⟩
theorem key_ll (a b : Int) : decide ((Sum.inl a : Key) = Sum.inl b) = (a == b) := by
  by_cases e : a = b
  · subst e; simp
  · have h : ¬ (Sum.inl a : Key) = Sum.inl b := fun q => e (Sum.inl.inj q)
    rw [decide_eq_false h]
    exact (beq_eq_false_iff_ne.mpr e).symm
theorem key_rr (a b : Str) : decide ((Sum.inr a : Key) = Sum.inr b) = decide (a = b) := by
  by_cases e : a = b
  · subst e; simp
  · have h : ¬ (Sum.inr a : Key) = Sum.inr b := fun q => e (Sum.inr.inj q)
    rw [decide_eq_false h, decide_eq_false e]
theorem key_lr (a : Int) (b : Str) : decide ((Sum.inl a : Key) = Sum.inr b) = false := decide_eq_false (fun q => nomatch q)
theorem key_rl (a : Str) (b : Int) : decide ((Sum.inr a : Key) = Sum.inl b) = false := decide_eq_false (fun q => nomatch q)

def mixKind (prog : Program) (w : World) : PySem.KeyKind prog w Key where
  is := keyIs
  hash := keyH w
  inj := fun v a b ha hb => by
    rcases keyIs_shape ha with ⟨i, t, rfl, rfl⟩ | ⟨x, t, rfl, rfl⟩
    · rcases keyIs_shape hb with ⟨j, u, rfl, e⟩ | ⟨y, u, rfl, e⟩
      · injection e with e1 _; rw [e1]
      · exact nomatch e
    · rcases keyIs_shape hb with ⟨j, u, rfl, e⟩ | ⟨y, u, rfl, e⟩
      · exact nomatch e
      · injection e with e1 _; rw [e1]
  byValue := fun k v h => by
    rcases keyIs_shape h with ⟨i, t, rfl, rfl⟩ | ⟨x, t, rfl, rfl⟩ <;> rfl
  pyHash := fun hv h => by
    rcases keyIs_shape hv with ⟨i, t, rfl, rfl⟩ | ⟨x, t, rfl, rfl⟩
    · exact wpAny_pyHash_int h
    · exact wpAny_pyHash_str h
  eqBool := fun hu hv h => by
    rcases keyIs_shape hu with ⟨i, t, rfl, rfl⟩ | ⟨x, t, rfl, rfl⟩
    · rcases keyIs_shape hv with ⟨j, u, rfl, rfl⟩ | ⟨y, u, rfl, rfl⟩
      · rw [key_ll] at h; exact wpAny_eqBool_int h
      · rw [key_lr] at h; exact SeqAt.EqAt.int_str i t y u _ _ _ _ h
    · rcases keyIs_shape hv with ⟨j, u, rfl, rfl⟩ | ⟨y, u, rfl, rfl⟩
      · rw [key_rl] at h; exact SeqAt.EqAt.str_int x t j u _ _ _ _ h
      · rw [key_rr] at h; exact wpAny_eqBool_str h
  «strs» := fun k x t v h => by
    rcases keyIs_shape h with ⟨i, u, rfl, e⟩ | ⟨y, u, rfl, e⟩
    · exact nomatch e
    · injection e with e1 _
      subst e1
      cases v <;> rfl

end L2

namespace L2
open PySem PySem.Spec PyProof.Rows

/-- a value, without the heap -/
inductive V where
  | non | bl (b : Bool) | int (i : Int) | str (x : Str) | byt (b : Array UInt8) | flt (b : UInt64) | ref (a : Addr) | ty (n : String)
  deriving DecidableEq

def RelV : V → Value → Prop
  | .non, u => u = Value.none
  | .bl b, u => u = Value.bool b
  | .int i, u => ∃ t, u = Value.int i t
  | .str x, u => ∃ t, u = Value.str x t
  | .byt b, u => ∃ t, u = Value.bytes b t
  | .flt b, u => ∃ t, u = Value.float b t
  | .ref a, u => u = Value.ref a
  | .ty n, u => u = Value.type n

abbrev Vals : List V → List Value → Prop := Paired RelV
theorem Vals.length {xs : List V} {us : List Value} (r : Vals xs us) : xs.length = us.length := Paired.length r
theorem Vals.get : ∀ {xs : List V} {us : List Value} {i : Nat} {x : V}, Vals xs us → xs[i]? = some x → ∃ u, us[i]? = some u ∧ RelV x u
  | _, _, _, _, .nil, e => by simp at e
  | _, _, 0, _, .cons r _, e => by simp at e; subst e; exact ⟨_, rfl, r⟩
  | _, _, i + 1, x, .cons _ t, e => by
    obtain ⟨u, h1, h2⟩ := Vals.get (i := i) (x := x) t (by simpa using e)
    exact ⟨u, by simpa using h1, h2⟩
theorem Vals.set {x : V} {u : Value} (r : RelV x u) : ∀ {xs : List V} {us : List Value} (i : Nat), Vals xs us → Vals (xs.set i x) (us.set i u)
  | _, _, _, .nil => .nil
  | _, _, 0, .cons _ t => .cons r t
  | _, _, i + 1, .cons q t => .cons q (Vals.set r i t)
theorem Vals.append : ∀ {xs ys : List V} {us ws : List Value}, Vals xs us → Vals ys ws → Vals (xs ++ ys) (us ++ ws)
  | _, _, _, _, .nil, s => s
  | _, _, _, _, .cons r t, s => .cons r (Vals.append t s)
theorem Vals.take : ∀ {xs : List V} {us : List Value} (n : Nat), Vals xs us → Vals (xs.take n) (us.take n)
  | _, _, 0, _ => .nil
  | _, _, _ + 1, .nil => .nil
  | _, _, n + 1, .cons r t => .cons r (Vals.take n t)
theorem Vals.drop : ∀ {xs : List V} {us : List Value} (n : Nat), Vals xs us → Vals (xs.drop n) (us.drop n)
  | _, _, 0, r => r
  | _, _, _ + 1, .nil => .nil
  | _, _, n + 1, .cons _ t => Vals.drop n t

def RelO : Option V → Option Value → Prop
  | some v, some u => RelV v u
  | none, none => True
  | _, _ => False
def KV {κ : Type} : List (κ × V) → List (κ × Value) → Prop := Paired fun (p : κ × V) (q : κ × Value) => p.1 = q.1 ∧ RelV p.2 q.2

/-- a key of a dict (00_mix): an int or a text -/
def kV : Key → V
  | .inl i => .int i
  | .inr x => .str x

/-- what stands at a tracked address -/
inductive HO where
  /-- a list -/
  | lst (xs : List V)
  /-- a tuple (never changes) -/
  | tup (xs : List V)
  /-- a dict whose keys are ints and texts; one whose keys are tuples of ints and texts (the empty one is both) -/
  | dK (kvs : List (Key × V)) | dT (kvs : List (List Key × V))
  /-- a set of ints: its members, its size -/
  | set (S : Int → Bool) (n : Nat)
  /-- an instance of the class at C, its dict at dx, its attributes -/
  | ins (C dx : Addr) (fs : List (Str × V))
  /-- the dict of the instance at x -/
  | own (x : Addr)
  /-- the dict of an exception -/
  | xd (fs : List (Str × V))
  /-- a bound method, f of x -/
  | met (f x : Addr)
  /-- a range object lo, lo + 1, .. below hi -/
  | rng (lo hi : Int)
  /-- a thing that is known to the object (the script; a dict while a loop walks it): read, never written while it is so -/
  | frz (o : Obj) (u : HO)
  /-- a code object's table -/
  | tbl (ps : Array Value)
  /-- any other thing, by what is true of its one object (a def of one's own: SetO a S n := HO.ext fun h => ..) -/
  | ext (φ : Heap → Prop)

abbrev Hp := Addr → Option HO
def upd (H : Hp) (a : Addr) (o : HO) : Hp := fun b => if b = a then some o else H b
theorem upd_same {H : Hp} {a : Addr} {o : HO} : upd H a o a = some o := by unfold upd; rw [if_pos rfl]
theorem upd_ne {H : Hp} {a b : Addr} {o : HO} (h : b ≠ a) : upd H a o b = H b := by unfold upd; rw [if_neg h]
/-- two objects of different content stand apart -/
theorem ne_of {H : Hp} {a b : Addr} {o u : HO} (h : H a = some o) (h' : H b = some u) (d : o ≠ u) : a ≠ b := by
  intro e; subst e; rw [h] at h'; exact d (Option.some.inj h')
theorem ne_of_none {H : Hp} {a b : Addr} {o : HO} (h : H a = some o) (h' : H b = none) : a ≠ b := by
  intro e; subst e; rw [h] at h'; cases h'

section
variable (P : Program) (w : World)
def ObjOk (H : Hp) (h : Heap) (a : Addr) : HO → Prop
  | .lst xs => xs.length ≤ sizeLine ∧ ∃ (its : List Value) (n : Nat), Vals xs its ∧ h.get? a = some { cls := .type "list", data := .seq its.toArray n }
  | .tup xs => xs.length ≤ sizeLine ∧ ∃ its : List Value, Vals xs its ∧ IsTup h a its.toArray
  | .dK kvs => kvs.length ≤ sizeLine ∧ (a == sysModules) = false ∧ ∃ vs, KV kvs vs ∧ h.DictOf (mixKind P w) a vs
  | .dT kvs => kvs.length ≤ sizeLine ∧ (a == sysModules) = false ∧ ∃ xs : List (List Key × Addr × Value),
      Paired (fun (p : List Key × V) (q : List Key × Addr × Value) => p.1 = q.1 ∧ H q.2.1 = some (.tup (p.1.map kV)) ∧ RelV p.2 q.2.2) kvs xs ∧
      ∃ o es ep, h.get? a = some o ∧ o.ExactDict ∧ o.data = .dict es ep ∧ es.toList = xs.map (entryOfKey (tupleKind (mixKind P w))) ∧ (xs.map (·.1)).Nodup
  | .set S n => h.SetOf (intKind P w) a S n
  | .ins C dx fs => H dx = some (.own a) ∧ fs.length ≤ 1000 ∧ dx ≠ a ∧ h.get? a = some (PySem.W.instObj C dx) ∧
      ∃ mA, h.Ns1 dx mA ∧ (∀ f, RelO (fs.lookup f) (mA f)) ∧ PySem.Within mA (fs.map (·.1))
  | .own _ => ∃ o, h.get? a = some o
  | .xd fs => ∃ mA, h.Ns1 a mA ∧ ∀ f, RelO (fs.lookup f) (mA f)
  | .rng lo hi => ∃ t u v, h.get? a = some { cls := .type "range", data := .fields #[.int lo t, .int hi u, .int 1 v] }
  | .frz o u => h.get? a = some o ∧ ObjOk H h a u
  | .tbl ps => h.get? a = some { cls := .none, data := .fields ps }
  | .met f x => h.get? a = some (PySem.W.methodObj (.ref f) (.ref x))
  | .ext φ => φ h ∧ (∃ o, h.get? a = some o) ∧ ∀ h1 h2 : Heap, φ h1 → (∀ o, h1.get? a = some o → h2.get? a = some o) → φ h2
/-- the abstract heap is held -/
def HOk (H : Hp) (h : Heap) : Prop := ∀ a o, H a = some o → ObjOk P w H h a o
end

section
variable {P : Program} {w : World} {H H' : Hp} {h h' : Heap} {a : Addr} {o : HO}
theorem ObjOk.lt (x : ObjOk P w H h a o) : a < h.objs.size := by
  cases o with
  | lst xs => obtain ⟨_, _, _, _, e⟩ := x; exact Heap.lt_size e
  | tup xs => obtain ⟨_, _, _, p⟩ := x; exact p.lt
  | dK kvs => obtain ⟨_, _, _, _, o, _, _, e, _⟩ := x; exact Heap.lt_size e
  | dT kvs => obtain ⟨_, _, _, _, o, _, _, e, _⟩ := x; exact Heap.lt_size e
  | set S n => obtain ⟨o, _, _, _, e, _⟩ := x; exact Heap.lt_size e
  | ins C dx fs => obtain ⟨_, _, _, e, _⟩ := x; exact Heap.lt_size e
  | own y => obtain ⟨_, e⟩ := x; exact Heap.lt_size e
  | xd fs => obtain ⟨_, ⟨_, _, _, e, _⟩, _⟩ := x; exact Heap.lt_size e
  | rng lo hi => obtain ⟨_, _, _, e⟩ := x; exact Heap.lt_size e
  | frz ob u => obtain ⟨e, _⟩ := x; exact Heap.lt_size e
  | tbl ps => exact Heap.lt_size (show h.get? a = some _ from x)
  | met f y => exact Heap.lt_size (show h.get? a = some _ from x)
  | ext φ => obtain ⟨_, ⟨_, e⟩, _⟩ := x; exact Heap.lt_size e
theorem Paired.mapP {α β : Type} {F G : α → β → Prop} : ∀ {l₁ : List α} {l₂ : List β}, Paired F l₁ l₂ → (∀ a b, F a b → G a b) → Paired G l₁ l₂
  | _, _, .nil, _ => .nil
  | _, _, .cons r t, f => .cons (f _ _ r) (Paired.mapP t f)
/-- what an object's description leans on: its own object, its own dict, the tuples -/
theorem ObjOk.stay (x : ObjOk P w H h a o) (k : ∀ b u, (b = a ∨ H b = some (.own a)) → h.get? b = some u → h'.get? b = some u)
    (ho : ∀ b, H b = some (.own a) → H' b = some (.own a)) (ht : ∀ b xs, H b = some (.tup xs) → H' b = some (.tup xs)) : ObjOk P w H' h' a o := by
  induction o with
  | lst xs => obtain ⟨z, its, n, r, e⟩ := x; exact ⟨z, its, n, r, k _ _ (.inl rfl) e⟩
  | tup xs => obtain ⟨z, its, r, ob, e, c⟩ := x; exact ⟨z, its, r, ob, k _ _ (.inl rfl) e, c⟩
  | dK kvs => obtain ⟨z, y, vs, r, ob, es, ep, e, c⟩ := x; exact ⟨z, y, vs, r, ob, es, ep, k _ _ (.inl rfl) e, c⟩
  | dT kvs =>
    obtain ⟨z, y, xs, r, ob, es, ep, e, c⟩ := x
    exact ⟨z, y, xs, Paired.mapP r fun p q z => ⟨z.1, ht _ _ z.2.1, z.2.2⟩, ob, es, ep, k _ _ (.inl rfl) e, c⟩
  | set S n => obtain ⟨ob, es, ep, t, e, c⟩ := x; exact ⟨ob, es, ep, t, k _ _ (.inl rfl) e, c⟩
  | ins C dx fs =>
    obtain ⟨d, z, ne, e, mA, ⟨od, es, ep, e2, c⟩, r⟩ := x
    exact ⟨ho _ d, z, ne, k _ _ (.inl rfl) e, mA, ⟨od, es, ep, k _ _ (.inr d) e2, c⟩, r⟩
  | own y => obtain ⟨ob, e⟩ := x; exact ⟨ob, k _ _ (.inl rfl) e⟩
  | xd fs => obtain ⟨mA, ⟨od, es, ep, e, c⟩, r⟩ := x; exact ⟨mA, ⟨od, es, ep, k _ _ (.inl rfl) e, c⟩, r⟩
  | rng lo hi => obtain ⟨t, u, v, e⟩ := x; exact ⟨t, u, v, k _ _ (.inl rfl) e⟩
  | frz ob u ih => obtain ⟨e, q⟩ := x; exact ⟨k _ _ (.inl rfl) e, ih q⟩
  | tbl ps =>
    have e : h.get? a = some { cls := .none, data := .fields ps } := x
    show h'.get? a = some { cls := .none, data := .fields ps }
    exact k a _ (.inl rfl) e
  | met f y =>
    have e : h.get? a = some (PySem.W.methodObj (.ref f) (.ref y)) := x
    show h'.get? a = some (PySem.W.methodObj (.ref f) (.ref y))
    exact k a _ (.inl rfl) e
  | ext φ => obtain ⟨p, ⟨o, e⟩, st⟩ := x; exact ⟨st _ _ p fun o q => k _ _ (.inl rfl) q, ⟨o, k _ _ (.inl rfl) e⟩, st⟩
theorem HOk.lt (x : HOk P w H h) (e : H a = some o) : a < h.objs.size := (x a o e).lt
theorem HOk.fresh (x : HOk P w H h) (e : h.objs.size ≤ a) : H a = none := by
  cases q : H a with
  | none => rfl
  | some u => exact absurd (Nat.lt_of_lt_of_le (x.lt q) e) (Nat.lt_irrefl _)
/-- every object of the heap is kept -/
theorem HOk.kept (x : HOk P w H h) (k : ∀ b u, h.get? b = some u → h'.get? b = some u) : HOk P w H h' := fun a o e =>
  (x a o e).stay (fun b u _ q => k b u q) (fun _ q => q) fun _ _ q => q
/-- a new object is laid and tracked -/
theorem HOk.laid (x : HOk P w H h) (k : ∀ b u, h.get? b = some u → h'.get? b = some u) (hp : h.objs.size ≤ a) (new : ObjOk P w (upd H a o) h' a o) : HOk P w (upd H a o) h' := fun b u e => by
  have hn := x.fresh hp
  by_cases hb : b = a
  · subst hb; rw [upd_same] at e; cases e; exact new
  · rw [upd_ne hb] at e
    exact (x b u e).stay (fun c v _ q => k c v q) (fun c q => by rw [upd_ne (ne_of_none q hn)]; exact q) fun c xs q => by rw [upd_ne (ne_of_none q hn)]; exact q
end

/-- what may be read as u: it is u, or a known u -/
def Rd (H : Hp) (a : Addr) (u : HO) : Prop := H a = some u ∨ ∃ o, H a = some (.frz o u)
theorem Rd.ok {P : Program} {w : World} {H : Hp} {h : Heap} {a : Addr} {u : HO} (r : Rd H a u) (x : HOk P w H h) : ObjOk P w H h a u := by
  rcases r with r | ⟨o, r⟩
  · exact x a u r
  · obtain ⟨_, q⟩ := x a _ r
    exact q
/-- what may be written -/
def Mut : Option HO → Prop
  | some (.lst _) => True
  | some (.dK _) => True
  | some (.dT _) => True
  | some (.set _ _) => True
  | some (.ins _ _ _) => True
  | some (.ext _) => True
  | _ => False
section
variable {P : Program} {w : World} {H : Hp} {h h' : Heap} {x e : Addr} {o' : HO}
/-- the object at e is changed: x itself, or the dict of the instance x -/
theorem HOk.write (ok : HOk P w H h) (mu : Mut (H x)) (he : e = x ∨ H e = some (.own x)) (k : ∀ b u, b ≠ e → h.get? b = some u → h'.get? b = some u) (heo : ∃ u, h'.get? e = some u)
    (new : ObjOk P w (upd H x o') h' x o') : HOk P w (upd H x o') h' := fun b u q => by
  have nown : ∀ c y, H c = some (.own y) → c ≠ x := fun c y r z => by subst z; rw [r] at mu; exact mu
  have ntup : ∀ c xs, H c = some (.tup xs) → c ≠ x := fun c xs r z => by subst z; rw [r] at mu; exact mu
  by_cases hb : b = x
  · subst hb; rw [upd_same] at q; cases q; exact new
  · rw [upd_ne hb] at q
    by_cases hbe : b = e
    · have q' : H b = some (.own x) := by
        rcases he with z | z
        · exact absurd (hbe.trans z) hb
        · rw [hbe]; exact z
      rw [q] at q'; cases q'
      obtain ⟨v, hv⟩ := heo
      exact ⟨v, by rw [hbe]; exact hv⟩
    · refine (ok b u q).stay (fun c v hc r => k c v ?_ r) (fun c r => by rw [upd_ne (nown c b r)]; exact r) fun c xs r => by rw [upd_ne (ntup c xs r)]; exact r
      rcases hc with rfl | hc
      · exact hbe
      · rintro rfl
        rcases he with z | z
        · exact nown c b hc z
        · rw [hc] at z; cases z; exact hb rfl
end

/-! ### kept unless tracked; of the frames at fs (the callers') the slots may change (an exception that passes writes there); of the records at ex (iterators) nothing is said -/
structure Un (fs ex : List Addr) (H H' : Hp) (h h' : Heap) : Prop where
  keep : ∀ b o, h.get? b = some o → H b = none → b ∉ fs → b ∉ ex → h'.get? b = some o
  slot : ∀ b o, h.get? b = some o → H b = none → b ∈ fs → b ∉ ex → ∃ sl, h'.get? b = some { o with slots := sl }
  free : ∀ b o, h.get? b = some o → H b = none → b ∉ ex → H' b = none
  there : ∀ b o, h.get? b = some o → b ∉ ex → ∃ o', h'.get? b = some o'
  tups : ∀ b xs, H b = some (.tup xs) → H' b = some (.tup xs)
  frzs : ∀ b o u, H b = some (.frz o u) → H' b = some (.frz o u)
  tbls : ∀ b ps, H b = some (.tbl ps) → ∃ more, H' b = some (.tbl (ps ++ more))
section
variable {fs fs' ex ex' : List Addr} {H H1 H2 : Hp} {h h1 h2 h' : Heap} {a x e : Addr} {o : HO}
theorem Un.any (u : Un fs ex H H1 h h1) {b : Addr} {ob : Obj} (q : h.get? b = some ob) (n : H b = none) (hx : b ∉ ex) : ∃ sl, h1.get? b = some { ob with slots := sl } := by
  by_cases hb : b ∈ fs
  · exact u.slot b ob q n hb hx
  · exact ⟨ob.slots, u.keep b ob q n hb hx⟩
theorem Un.kept (k : ∀ b u, h.get? b = some u → h'.get? b = some u) : Un fs ex H H h h' :=
  ⟨fun b ob q _ _ _ => k b ob q, fun b ob q _ _ _ => ⟨ob.slots, k b ob q⟩, fun _ _ _ n _ => n, fun b ob q _ => ⟨ob, k b ob q⟩, fun _ _ q => q, fun _ _ _ q => q, fun _ ps q => ⟨#[], by rw [q]; simp⟩⟩
theorem Un.refl : Un fs ex H H h h := Un.kept fun _ _ q => q
theorem Un.laid (k : ∀ b u, h.get? b = some u → h'.get? b = some u) (hp : h.objs.size ≤ a) (hn : H a = none) : Un fs ex H (upd H a o) h h' where
  keep := fun b u q _ _ _ => k b u q
  slot := fun b u q _ _ _ => ⟨u.slots, k b u q⟩
  free := fun b u q n _ => by rw [upd_ne (Nat.ne_of_lt (Nat.lt_of_lt_of_le (Heap.lt_size q) hp))]; exact n
  there := fun b u q _ => ⟨u, k b u q⟩
  tups := fun b xs q => by rw [upd_ne (ne_of_none q hn)]; exact q
  frzs := fun b u xs q => by rw [upd_ne (ne_of_none q hn)]; exact q
  tbls := fun b ps q => ⟨#[], by rw [upd_ne (ne_of_none q hn), q]; simp⟩
theorem Un.write (mu : Mut (H x)) (he : e = x ∨ H e = some (.own x)) (k : ∀ b u, b ≠ e → h.get? b = some u → h'.get? b = some u) (heo : ∃ u, h'.get? e = some u) : Un fs ex H (upd H x o) h h' := by
  have hx : ∀ b, H b = none → b ≠ x := fun b n z => by subst z; rw [n] at mu; exact mu
  have hb : ∀ b, H b = none → b ≠ e := fun b n z => by
    subst z
    rcases he with r | r
    · exact hx b n r
    · rw [n] at r; cases r
  have hm : ∀ b u, H b = some u → ¬ Mut (some u) → b ≠ x := fun b u q nm z => by subst z; rw [q] at mu; exact nm mu
  refine ⟨fun b u q n _ _ => k b u (hb b n) q, fun b u q n _ _ => ⟨u.slots, k b u (hb b n) q⟩, fun b u q n _ => by rw [upd_ne (hx b n)]; exact n, fun b u q _ => ?_,
    fun b xs q => by rw [upd_ne (hm b _ q fun z => z)]; exact q, fun b u xs q => by rw [upd_ne (hm b _ q fun z => z)]; exact q, fun b ps q => ⟨#[], by rw [upd_ne (hm b _ q fun z => z), q]; simp⟩⟩
  by_cases hbe : b = e
  · subst hbe; exact heo
  · exact ⟨u, k b u hbe q⟩
end

/-! ### the heap without what is tracked -/
def trk (h : Heap) (H : Hp) : List Addr := (List.range h.objs.size).filter fun a => (H a).isSome
def hidT (h : Heap) (H : Hp) : Heap := PySem.W.hideAll h (trk h H)
theorem hidT_size (h : Heap) (H : Hp) : (hidT h H).objs.size = h.objs.size := PySem.W.hideAll_size _ _
theorem hidT_get {h : Heap} {H : Hp} {b : Addr} {o : Obj} (e : h.get? b = some o) (n : H b = none) : (hidT h H).get? b = some o :=
  PySem.W.hideAll_get _ e fun hm => by
    have q : (H b).isSome = true := (List.mem_filter.mp hm).2
    rw [n] at q; simp at q
theorem of_hidT {h : Heap} {H : Hp} {b : Addr} {o : Obj} (e : (hidT h H).get? b = some o) : h.get? b = some o ∧ H b = none := by
  have e' : h.get? b = some o := PySem.W.of_hideAll (trk h H) e
  refine ⟨e', ?_⟩
  cases q : H b with
  | none => rfl
  | some x =>
    have hm : b ∈ trk h H := List.mem_filter.mpr ⟨List.mem_range.mpr (Heap.lt_size e'), by simp [q]⟩
    have z : (hidT h H).get? b = none := PySem.W.hideAll_none (trk h H) hm
    rw [z] at e; cases e

/-! ### OpenK's ledger, filled with every new object but one -/
def allNews (g h : Heap) (L : Addr) : List (Addr × Obj) := (List.range h.objs.size).filterMap fun a => if a = L ∨ (g.get? a).isSome = true then none else (h.get? a).map fun o => (a, o)
def rest (g h : Heap) (L d : Addr) : List (Addr × Obj) := (allNews g h L).filter fun p => decide (p.1 ≠ d)
end L2

namespace L2
open PySem PySem.Spec PyProof.Rows

/-- the module's facts, over the base: the heap at the law's entry without what is tracked there -/
structure Mod (K : PySem.W.Frag) (mg : Str → Option Value) (base : Heap) : Prop where
  kin : K.In base
  glob : base.Ns mainGlobals mg
  blt : ∃ mb, base.Ns builtinsNs mb ∧ ∀ x : Str, x ≠ "__name__" → mb x = bootBuiltins x
  nolimit : base.NoLimit

/-- the context: a def's body (or a comprehension's block) running. base: fixed through the whole law; s₀, H₀: the entry; outer: the frames whose slots others may change (a def's callers); stack: all frames that run;
   ex: iterators that were made ahead of the entry and are walked here (a comprehension's); fn: the names whose cells were made at the entry (a def: all; a comprehension's block: its own); calm: not within an except suite; pn: pins that every state bears; xe: what is wanted of an exception that leaves the code -/
structure Cx where
  prog : Program
  w : World
  K : PySem.W.Frag
  mg : Str → Option Value
  base : Heap
  A : Around
  N : List Str
  s₀ : Shared
  H₀ : Hp
  env : Env
  outer : List Env
  stack : List Env
  ex : List Addr
  fn : Str → Bool
  calm : Bool
  pn : List (Addr × Obj)
  xe : Value → Shared → Prop
/-- the callers' frames -/
def frs (l : List Env) : List Addr := l.filterMap (·.frame)
abbrev Cx.fs (X : Cx) : List Addr := frs X.outer

def Vis (sc : Scope) (x : Str) : Prop := sc.names.lookup x = some .local ∨ sc.names.lookup x = some .cell ∨ sc.names.lookup x = some .free
def Loc (sc : Scope) (x : Str) : Prop := sc.names.lookup x = some .local ∨ sc.names.lookup x = some .cell
def Look (env : Env) (h : Heap) (m : Str → Option Value) (x : Str) (u : Value) : Prop :=
  (env.kindOf x = some .local ∧ m x = some u) ∨ ((env.kindOf x = some .cell ∨ env.kindOf x = some .free) ∧ ∃ c, env.cells.lookup x = some c ∧ h.IsCell c (some u))

structure Cx.Ok (X : Cx) : Prop where
  mod : Mod X.K X.mg X.base
  kind : X.env.scope.kind = .function
  glob : X.env.globals = mainGlobals
  blt : X.env.builtins = builtinsNs
  above : X.s₀.heap.objs.size ≤ X.env.locals
  inj : ∀ x y c, X.env.cells.lookup x = some c → X.env.cells.lookup y = some c → x = y
  has : ∀ x, (X.env.kindOf x = some .cell ∨ X.env.kindOf x = some .free) → ∃ c, X.env.cells.lookup x = some c
  cab : ∀ x c, X.fn x = true → X.env.cells.lookup x = some c → X.s₀.heap.objs.size ≤ c
  hd : X.calm = true → X.A.handled = none
  frames : X.A.frames = some X.stack
  stk : X.stack = X.outer ∨ (X.stack = X.env :: X.outer ∧ X.env.frame = some X.env.locals)
  exf : ∀ b ∈ X.ex, b ≠ X.env.locals ∧ ∀ x c, X.env.cells.lookup x = some c → c ≠ b
  bs : ∀ b o, X.base.get? b = some o → X.s₀.heap.get? b = some o ∧ X.H₀ b = none
  bsz : X.base.objs.size ≤ X.s₀.heap.objs.size
  noex : ∀ b o, X.base.get? b = some o → b ∉ X.ex
  exfs : ∀ b ∈ X.ex, b ∉ X.fs
  funs : X.s₀.heap.FunFrames X.base X.outer
  frf : ∀ b ∈ X.fs, X.H₀ b = none

structure Inv (X : Cx) (pins : List (Addr × Obj)) (σ : List (Option V)) (H : Hp) (s : Shared) : Prop where
  ok : X.Ok
  os : s.os = X.s₀.os
  bare : AllBare s.gens
  base : Un X.fs X.ex X.H₀ H X.s₀.heap s.heap
  loc : ∃ m, s.heap.Ns X.env.locals m ∧ ∀ (i : Nat) (x : Str) (v : V), X.N[i]? = some x → σ[i]? = some (some v) → Vis X.env.scope x → ∃ u, RelV v u ∧ Look X.env s.heap m x u
  cell : ∀ x c, X.env.cells.lookup x = some c → ∃ v, s.heap.IsCell c v
  free : H X.env.locals = none
  freeC : ∀ x c, X.env.cells.lookup x = some c → H c = none
  pin : ∀ p ∈ X.pn ++ pins, s.heap.get? p.1 = some p.2 ∧ H p.1 = none ∧ p.1 ≠ X.env.locals ∧ p.1 ∉ X.fs ∧ ∀ v, p.2.data ≠ .cell v
  hok : HOk X.prog X.w H s.heap
  len : σ.length = X.N.length

section
variable {X : Cx} {pins : List (Addr × Obj)} {σ : List (Option V)} {H H' : Hp} {s : Shared} {h' : Heap}

theorem Cx.Ok.nofr (ok : X.Ok) {b : Addr} {o : Obj} (e : X.base.get? b = some o) : b ∉ X.fs := fun hb => by
  have := (ok.funs.mem hb).1
  rw [e] at this; cases this
theorem Inv.bs (I : Inv X pins σ H s) : ∀ b o, X.base.get? b = some o → s.heap.get? b = some o ∧ H b = none := fun b o e =>
  ⟨I.base.keep b o (I.ok.bs b o e).1 (I.ok.bs b o e).2 (I.ok.nofr e) (I.ok.noex b o e), I.base.free b o (I.ok.bs b o e).1 (I.ok.bs b o e).2 (I.ok.noex b o e)⟩
theorem Inv.bk (I : Inv X pins σ H s) : ∀ b o, X.base.get? b = some o → s.heap.get? b = some o := fun b o e => (I.bs b o e).1
theorem Inv.mod (I : Inv X pins σ H s) : Mod X.K X.mg X.base := I.ok.mod
theorem Inv.kIn (I : Inv X pins σ H s) : X.K.In s.heap := I.ok.mod.kin.keeps I.bk
theorem Inv.lt (I : Inv X pins σ H s) : X.env.locals < s.heap.objs.size := let ⟨_, hn, _⟩ := I.loc; hn.lt
theorem Inv.sz (I : Inv X pins σ H s) : X.s₀.heap.objs.size ≤ s.heap.objs.size := Nat.le_trans I.ok.above (Nat.le_of_lt I.lt)
theorem Inv.nofs (I : Inv X pins σ H s) {a : Addr} (h : s.heap.objs.size ≤ a) : a ∉ X.fs := fun hb => by
  obtain ⟨_, o, ho, _⟩ := I.ok.funs.mem hb
  exact absurd (Nat.lt_of_lt_of_le (Heap.lt_size ho) (Nat.le_trans I.sz h)) (Nat.lt_irrefl _)
theorem Inv.cne (I : Inv X pins σ H s) : ∀ x c, X.env.cells.lookup x = some c → c ≠ X.env.locals := fun x c e z => by
  obtain ⟨v, o, ho, hd⟩ := I.cell x c e
  obtain ⟨m, ⟨o', es, ep, ho', hd', _⟩, _⟩ := I.loc
  rw [z, ho'] at ho; cases ho; rw [hd'] at hd; cases hd
theorem Inv.funs (I : Inv X pins σ H s) : s.heap.FunFrames X.base X.outer := by
  have all : ∀ (l : List Env), (∀ b ∈ frs l, b ∈ X.fs) → X.s₀.heap.FunFrames X.base l → s.heap.FunFrames X.base l := by
    intro l
    induction l with
    | nil => intro _ _; trivial
    | cons env r ih =>
      intro hs hl
      obtain ⟨hk, ⟨L, o, hf, hn, ho, hd⟩, hr⟩ := hl
      have hL : L ∈ X.fs := hs L (by unfold frs; rw [List.filterMap_cons, hf]; exact List.mem_cons_self)
      obtain ⟨sl, e⟩ := I.base.slot L o ho (I.ok.frf L hL) hL fun z => I.ok.exfs L z hL
      exact ⟨hk, ⟨L, _, hf, hn, e, hd⟩, ih (fun b hb => hs b (by unfold frs; rw [List.filterMap_cons, hf]; exact List.mem_cons_of_mem _ hb)) hr⟩
  exact all X.outer (fun _ hb => hb) I.ok.funs

/-- the frames that run, for a call -/
theorem Inv.stack (I : Inv X pins σ H s) : s.heap.FunFrames X.base X.stack := by
  rcases I.ok.stk with e | ⟨e, hf⟩
  · rw [e]; exact I.funs
  · rw [e]
    obtain ⟨m, hn, _⟩ := I.loc
    refine .cons (by rw [I.ok.kind]; decide) hf hn ?_ I.funs
    exact Heap.get?_none_of_le (Nat.le_trans I.ok.bsz I.ok.above)
theorem Inv.stkSub (I : Inv X pins σ H s) : ∀ b ∈ frs X.stack, b ∈ X.env.locals :: X.fs := fun b hb => by
  rcases I.ok.stk with e | ⟨e, hf⟩
  · rw [e] at hb; exact List.mem_cons_of_mem _ hb
  · rw [e] at hb
    unfold frs at hb
    rw [List.filterMap_cons, hf] at hb
    exact hb
theorem Inv.stkFree (I : Inv X pins σ H s) : ∀ b ∈ frs X.stack, H b = none := fun b hb => by
  rcases List.mem_cons.mp (I.stkSub b hb) with e | hb
  · rw [e]; exact I.free
  · obtain ⟨_, o, ho, _⟩ := I.ok.funs.mem hb
    exact I.base.free b o ho (I.ok.frf b hb) fun z => I.ok.exfs b z hb

/-- THE STEP: the untracked objects but the frame and the records at ch are kept (the callers' frames up to slots), the frame's map is kept, the new abstract heap is held -/
theorem Inv.step {g' : Array GenState} {t' : Nat} {d' : Drawn} {ch : List Addr} (I : Inv X pins σ H s)
    (hch : ∀ b ∈ ch, (b ∈ X.ex ∨ X.s₀.heap.objs.size ≤ b) ∧ b ≠ X.env.locals ∧ (∀ x c, X.env.cells.lookup x = some c → c ≠ b) ∧ ∀ p ∈ X.pn ++ pins, p.1 ≠ b)
    (keep : ∀ b o, b ≠ X.env.locals → b ∉ X.fs → b ∉ ch → s.heap.get? b = some o → H b = none → h'.get? b = some o)
    (slot : ∀ b o, b ≠ X.env.locals → b ∈ X.fs → b ∉ ch → s.heap.get? b = some o → H b = none → ∃ sl, h'.get? b = some { o with slots := sl }) (free : ∀ b o, b ∉ ch → s.heap.get? b = some o → H b = none → H' b = none)
    (there : ∀ b o, b ∉ ch → s.heap.get? b = some o → ∃ o', h'.get? b = some o')
    (tups : ∀ b xs, H b = some (.tup xs) → H' b = some (.tup xs)) (frzs : ∀ b o u, H b = some (.frz o u) → H' b = some (.frz o u)) (tbls : ∀ b ps, H b = some (.tbl ps) → ∃ more, H' b = some (.tbl (ps ++ more)))
    (ns : ∀ m, s.heap.Ns X.env.locals m → h'.Ns X.env.locals m) (hok : HOk X.prog X.w H' h') (hg : AllBare g') :
    Inv X pins σ H' { s with heap := h', gens := g', drawn := d', toks := t' } := by
  have neL : ∀ b o, X.s₀.heap.get? b = some o → b ≠ X.env.locals := fun b o e => Nat.ne_of_lt (Nat.lt_of_lt_of_le (Heap.lt_size e) I.ok.above)
  have neC : ∀ b o, X.s₀.heap.get? b = some o → b ∉ X.ex → b ∉ ch := fun b o e hx hb => by
    rcases (hch b hb).1 with z | z
    · exact hx z
    · exact absurd (Nat.lt_of_lt_of_le (Heap.lt_size e) z) (Nat.lt_irrefl _)
  have cellK : ∀ x c, X.env.cells.lookup x = some c → ∀ v, s.heap.IsCell c v → h'.IsCell c v := fun x c e v ⟨o, ho, hd⟩ => by
    have nch : c ∉ ch := fun z => (hch c z).2.2.1 x c e rfl
    by_cases hc : c ∈ X.fs
    · obtain ⟨sl, q⟩ := slot c o (I.cne x c e) hc nch ho (I.freeC x c e)
      exact ⟨_, q, hd⟩
    · exact ⟨o, keep c o (I.cne x c e) hc nch ho (I.freeC x c e), hd⟩
  refine ⟨I.ok, I.os, hg, ⟨fun b o e n hb hx => ?_, fun b o e n hb hx => ?_, fun b o e n hx => ?_, fun b o e hx => ?_, fun b xs e => tups b xs (I.base.tups b xs e), fun b o xs e => frzs b o xs (I.base.frzs b o xs e), fun b ps e => ?_⟩, ?_, fun x c e => ?_, ?_, fun x c e => ?_, fun p hp => ?_, hok, I.len⟩
  · exact keep b o (neL b o e) hb (neC b o e hx) (I.base.keep b o e n hb hx) (I.base.free b o e n hx)
  · obtain ⟨sl, e1⟩ := I.base.slot b o e n hb hx
    obtain ⟨sl', e2⟩ := slot b _ (neL b o e) hb (neC b o e hx) e1 (I.base.free b o e n hx)
    exact ⟨sl', e2⟩
  · obtain ⟨o', e1⟩ := I.base.there b o e hx
    exact free b o' (neC b o e hx) e1 (I.base.free b o e n hx)
  · obtain ⟨o', e1⟩ := I.base.there b o e hx
    exact there b o' (neC b o e hx) e1
  · obtain ⟨m1, e1⟩ := I.base.tbls b ps e
    obtain ⟨m2, e2⟩ := tbls b _ e1
    exact ⟨m1 ++ m2, by rw [e2, Array.append_assoc]⟩
  · obtain ⟨m, hn, hl⟩ := I.loc
    refine ⟨m, ns m hn, fun i x v e1 e2 e3 => ?_⟩
    obtain ⟨u, r, l⟩ := hl i x v e1 e2 e3
    refine ⟨u, r, ?_⟩
    rcases l with l | ⟨k, c, e, z⟩
    · exact .inl l
    · exact .inr ⟨k, c, e, cellK x c e _ z⟩
  · obtain ⟨v, z⟩ := I.cell x c e
    exact ⟨v, cellK x c e v z⟩
  · obtain ⟨m, ⟨o, _, _, ho, _⟩, _⟩ := I.loc
    exact free _ o (fun z => (hch _ z).2.1 rfl) ho I.free
  · obtain ⟨v, o, ho, hd⟩ := I.cell x c e
    exact free c o (fun z => (hch c z).2.2.1 x c e rfl) ho (I.freeC x c e)
  · obtain ⟨e, n, ne, nf, d⟩ := I.pin p hp
    have nch : p.1 ∉ ch := fun z => (hch p.1 z).2.2.2 p hp rfl
    exact ⟨keep p.1 p.2 ne nf nch e n, free p.1 p.2 nch e n, ne, nf, d⟩
/-- .. where the frame's own object is kept too -/
theorem Inv.un {t' : Nat} (I : Inv X pins σ H s) (u : Un X.fs [] H H' s.heap h') (hok : HOk X.prog X.w H' h') : Inv X pins σ H' { s with heap := h', toks := t' } := by
  obtain ⟨m, ⟨o, es, ep, ho, r⟩, _⟩ := id I.loc
  obtain ⟨sl, hL⟩ := u.any ho I.free (by simp)
  exact I.step (g' := s.gens) (d' := s.drawn) (ch := []) (fun _ z => nomatch z) (fun b o _ hb _ e n => u.keep b o e n hb (by simp)) (fun b o _ hb _ e n => u.slot b o e n hb (by simp)) (fun b o _ e n => u.free b o e n (by simp)) (fun b o _ e => u.there b o e (by simp)) u.tups u.frzs u.tbls (fun m' hm => by
    obtain ⟨o', es', ep', ho', r'⟩ := hm
    rw [ho] at ho'; cases ho'
    exact ⟨_, es', ep', hL, r'⟩) hok I.bare
/-- behind a call (or a comprehension's block): the slots of this frame may have changed too, the records at ch may have turned -/
theorem Inv.call {g' : Array GenState} {t' : Nat} {d' : Drawn} {ch : List Addr} (I : Inv X pins σ H s) (u : Un (frs X.stack) ch H H' s.heap h') (hok : HOk X.prog X.w H' h') (hg : AllBare g')
    (hch : ∀ b ∈ ch, (b ∈ X.ex ∨ X.s₀.heap.objs.size ≤ b) ∧ b ≠ X.env.locals ∧ (∀ x c, X.env.cells.lookup x = some c → c ≠ b) ∧ ∀ p ∈ X.pn ++ pins, p.1 ≠ b) :
    Inv X pins σ H' { s with heap := h', gens := g', drawn := d', toks := t' } := by
  obtain ⟨m, ⟨o, es, ep, ho, r⟩, _⟩ := id I.loc
  obtain ⟨sl, hL⟩ := u.any ho I.free fun z => (hch _ z).2.1 rfl
  exact I.step (ch := ch) hch (fun b o hL hb hc e n => u.keep b o e n (fun z => (List.mem_cons.mp (I.stkSub b z)).elim hL hb) hc) (fun b o _ _ hc e n => u.any e n hc) (fun b o hc e n => u.free b o e n hc) (fun b o hc e => u.there b o e hc) u.tups u.frzs u.tbls (fun m' hm => by
    obtain ⟨o', es', ep', ho', r'⟩ := hm
    rw [ho] at ho'; cases ho'
    exact ⟨_, es', ep', hL, r'⟩) hok hg
/-- an untracked record of ours (an iterator) has turned -/
theorem Inv.turned {t' : Nat} {it : Addr} (I : Inv X pins σ H s) (k : ∀ b o, b ≠ it → s.heap.get? b = some o → h'.get? b = some o) (hn : H it = none) (hL : it ≠ X.env.locals)
    (h1 : it ∈ X.ex ∨ X.s₀.heap.objs.size ≤ it) (h2 : ∀ x c, X.env.cells.lookup x = some c → c ≠ it) (h3 : ∀ p ∈ X.pn ++ pins, p.1 ≠ it) : Inv X pins σ H { s with heap := h', toks := t' } := by
  have nit : ∀ b u, H b = some u → b ≠ it := fun b u e z => by rw [z, hn] at e; cases e
  refine I.step (g' := s.gens) (d' := s.drawn) (ch := [it]) (fun b hb => ?_) (fun b o _ _ hc e _ => k b o (fun z => hc (by simp [z])) e) (fun b o _ _ hc e _ => ⟨o.slots, k b o (fun z => hc (by simp [z])) e⟩) (fun _ _ _ _ n => n)
    (fun b o hc e => ⟨o, k b o (fun z => hc (by simp [z])) e⟩) (fun _ _ e => e) (fun _ _ _ e => e) (fun b ps e => ⟨#[], by rw [e]; simp⟩) (fun m hm => ?_) (fun b u e => ?_) I.bare
  · have e : b = it := by simpa using hb
    subst e
    exact ⟨h1, hL, h2, h3⟩
  · obtain ⟨o, es, ep, ho, r⟩ := hm
    exact ⟨o, es, ep, k _ o (Ne.symm hL) ho, r⟩
  · refine (I.hok b u e).stay (fun c v hc q => k c v ?_ q) (fun _ q => q) fun _ _ q => q
    rcases hc with z | z
    · rw [z]; exact nit b u e
    · exact nit c _ z
theorem Inv.tok (I : Inv X pins σ H s) (t : Nat) : Inv X pins σ H { s with toks := t } := I.un (h' := s.heap) (t' := t) Un.refl I.hok
/-- all objects kept -/
theorem Inv.kept {t' : Nat} (I : Inv X pins σ H s) (k : ∀ b u, s.heap.get? b = some u → h'.get? b = some u) : Inv X pins σ H { s with heap := h', toks := t' } := I.un (Un.kept k) (I.hok.kept k)
/-- a new object laid and tracked -/
theorem Inv.laid {a : Addr} {o : HO} {t' : Nat} (I : Inv X pins σ H s) (k : ∀ b u, s.heap.get? b = some u → h'.get? b = some u) (hp : s.heap.objs.size ≤ a) (new : ObjOk X.prog X.w (upd H a o) h' a o) :
    Inv X pins σ (upd H a o) { s with heap := h', toks := t' } := I.un (Un.laid k hp (I.hok.fresh hp)) (I.hok.laid k hp new)
/-- an object written -/
theorem Inv.write {x e : Addr} {o : HO} {t' : Nat} (I : Inv X pins σ H s) (mu : Mut (H x)) (he : e = x ∨ H e = some (.own x)) (k : ∀ b u, b ≠ e → s.heap.get? b = some u → h'.get? b = some u) (heo : ∃ u, h'.get? e = some u)
    (new : ObjOk X.prog X.w (upd H x o) h' x o) : Inv X pins σ (upd H x o) { s with heap := h', toks := t' } := I.un (Un.write mu he k heo) (I.hok.write mu he k heo new)
theorem Inv.pins_of {pins' : List (Addr × Obj)} (I : Inv X pins σ H s) (h : ∀ p ∈ pins', s.heap.get? p.1 = some p.2 ∧ H p.1 = none ∧ p.1 ≠ X.env.locals ∧ p.1 ∉ X.fs ∧ ∀ v, p.2.data ≠ .cell v) : Inv X pins' σ H s :=
  ⟨I.ok, I.os, I.bare, I.base, I.loc, I.cell, I.free, I.freeC, fun p hp => (List.mem_append.mp hp).elim (fun z => I.pin p (List.mem_append_left _ z)) (h p), I.hok, I.len⟩

theorem nodup_ix {N : List Str} (hN : N.Nodup) {i j : Nat} {x : Str} (a : N[i]? = some x) (b : N[j]? = some x) : i = j := by
  obtain ⟨h1, e1⟩ := List.getElem?_eq_some_iff.mp a
  obtain ⟨h2, e2⟩ := List.getElem?_eq_some_iff.mp b
  exact (List.getElem_inj hN).mp (e1.trans e2.symm)

/-- a name is stored; what changed -/
theorem store_ok2 {M : Model} {A : Around} {E : Value → Shared → Prop} {i : Nat} {x : Str} {v : V} {u : Value} {Q : Unit → Shared → Prop} (I : Inv X pins σ H s) (hN : X.N.Nodup) (hi : X.N[i]? = some x) (hx : Loc X.env.scope x) (r : RelV v u)
    (h : ∀ s', Inv X pins (σ.set i (some v)) H s' → (∃ a, Heap.SameBut a s.heap s'.heap ∧ (a = X.env.locals ∨ X.env.cells.lookup x = some a)) → Q () s') (hf : X.fn x = true ∨ X.env.scope.names.lookup x = some .local := by first | exact .inl rfl | exact .inr rfl | assumption) : wpAny M A (storeName X.env x u) Q E s := by
  obtain ⟨m, hn, hl⟩ := id I.loc
  have hcls : (X.env.scope.kind == .class || (X.env.scope.kind == .module && X.env.locals != X.env.globals)) = false := by rw [I.ok.kind]; rfl
  have hiσ : i < σ.length := by rw [I.len]; exact (List.getElem?_eq_some_iff.mp hi).1
  have cne := I.cne
  have tracked : ∀ {a : Addr} {h' : Heap}, (∃ o, s.heap.get? a = some o ∧ H a = none) → Heap.SameBut a s.heap h' → HOk X.prog X.w H h' := fun {a h'} ha hs b ob e => by
    obtain ⟨_, _, hfree⟩ := ha
    refine (I.hok b ob e).stay (fun c w' hc q => (hs.2 c ?_).trans q) (fun _ q => q) fun _ _ q => q
    rintro rfl
    rcases hc with rfl | hc
    · rw [hfree] at e; cases e
    · rw [hfree] at hc; cases hc
  rcases hx with hk | hk
  · refine wpAny_storeName_local hk hn (fun h' hn' hs => ?_) hcls
    obtain ⟨oL, _, _, hoL, _⟩ := id hn
    refine h _ ⟨I.ok, I.os, I.bare, ⟨fun b o e n hb hx => ?_, fun b o e n hb hx => ?_, I.base.free, fun b o e hx => ?_, I.base.tups, I.base.frzs, I.base.tbls⟩, ⟨_, hn', fun j y v' e1 e2 e3 => ?_⟩, fun y c e => ?_, I.free, I.freeC, fun p hp => ?_, tracked ⟨oL, hoL, I.free⟩ hs, by simpa using I.len⟩ ⟨_, hs, .inl rfl⟩
    · exact (hs.2 b (Nat.ne_of_lt (Nat.lt_of_lt_of_le (Heap.lt_size e) I.ok.above))).trans (I.base.keep b o e n hb hx)
    · obtain ⟨sl, e1⟩ := I.base.slot b o e n hb hx
      exact ⟨sl, (hs.2 b (Nat.ne_of_lt (Nat.lt_of_lt_of_le (Heap.lt_size e) I.ok.above))).trans e1⟩
    · obtain ⟨o', e1⟩ := I.base.there b o e hx
      exact ⟨o', (hs.2 b (Nat.ne_of_lt (Nat.lt_of_lt_of_le (Heap.lt_size e) I.ok.above))).trans e1⟩
    · by_cases hj : j = i
      · subst hj
        rw [hi] at e1; cases e1
        rw [List.getElem?_set_self hiσ] at e2
        cases e2
        exact ⟨u, r, .inl ⟨hk, by simp⟩⟩
      · rw [List.getElem?_set_ne (Ne.symm hj)] at e2
        obtain ⟨u', r', q⟩ := hl j y v' e1 e2 e3
        refine ⟨u', r', ?_⟩
        rcases q with ⟨k, e⟩ | ⟨k, c, e, z⟩
        · refine .inl ⟨k, ?_⟩
          have : y ≠ x := fun e => hj (nodup_ix hN e1 (e ▸ hi))
          simp [this, e]
        · exact .inr ⟨k, c, e, z.sameBut hs (cne y c e)⟩
    · obtain ⟨w', z⟩ := I.cell y c e
      exact ⟨w', z.sameBut hs (cne y c e)⟩
    · obtain ⟨e, n, ne, nf, d⟩ := I.pin p hp
      exact ⟨(hs.2 p.1 ne).trans e, n, ne, nf, d⟩
  · have hfn : X.fn x = true := by
      rcases hf with z | z
      · exact z
      · rw [z] at hk; cases hk
    obtain ⟨c, hc⟩ := I.ok.has x (.inl hk)
    obtain ⟨w', z⟩ := I.cell x c hc
    refine wpAny_storeName_cell I.ok.kind hk hc z (fun h' hc' hs => ?_)
    obtain ⟨oc, hoc, hocd⟩ := id z
    refine h { s with heap := h' } ⟨I.ok, I.os, I.bare, ⟨fun b o e n hb hx => ?_, fun b o e n hb hx => ?_, I.base.free, fun b o e hx => ?_, I.base.tups, I.base.frzs, I.base.tbls⟩, ⟨m, hn.sameBut hs (Ne.symm (cne x c hc)), fun j y v' e1 e2 e3 => ?_⟩, fun y c' e => ?_, I.free, I.freeC, fun p hp => ?_, tracked ⟨oc, hoc, I.freeC x c hc⟩ hs, by simpa using I.len⟩ ⟨c, hs, .inr hc⟩
    · exact (hs.2 b (Nat.ne_of_lt (Nat.lt_of_lt_of_le (Heap.lt_size e) (I.ok.cab x c hfn hc)))).trans (I.base.keep b o e n hb hx)
    · obtain ⟨sl, e1⟩ := I.base.slot b o e n hb hx
      exact ⟨sl, (hs.2 b (Nat.ne_of_lt (Nat.lt_of_lt_of_le (Heap.lt_size e) (I.ok.cab x c hfn hc)))).trans e1⟩
    · obtain ⟨o', e1⟩ := I.base.there b o e hx
      exact ⟨o', (hs.2 b (Nat.ne_of_lt (Nat.lt_of_lt_of_le (Heap.lt_size e) (I.ok.cab x c hfn hc)))).trans e1⟩
    · by_cases hj : j = i
      · subst hj
        rw [hi] at e1; cases e1
        rw [List.getElem?_set_self hiσ] at e2
        cases e2
        exact ⟨u, r, .inr ⟨.inl hk, c, hc, hc'⟩⟩
      · rw [List.getElem?_set_ne (Ne.symm hj)] at e2
        obtain ⟨u', r', q⟩ := hl j y v' e1 e2 e3
        refine ⟨u', r', ?_⟩
        rcases q with q | ⟨k, c', e, z'⟩
        · exact .inl q
        · refine .inr ⟨k, c', e, z'.sameBut hs ?_⟩
          rintro rfl
          exact hj (nodup_ix hN e1 (I.ok.inj _ _ _ e hc ▸ hi))
    · by_cases hcc : c' = c
      · subst hcc; exact ⟨_, hc'⟩
      · obtain ⟨w2, z2⟩ := I.cell y c' e
        exact ⟨w2, z2.sameBut hs hcc⟩
    · obtain ⟨e, n, ne, nf, d⟩ := I.pin p hp
      refine ⟨(hs.2 p.1 ?_).trans e, n, ne, nf, d⟩
      intro q
      rw [q, hoc] at e
      have q' : oc = p.2 := Option.some.inj e
      exact d w' (by rw [← q']; exact hocd)
theorem store_ok {M : Model} {A : Around} {E : Value → Shared → Prop} {i : Nat} {x : Str} {v : V} {u : Value} {Q : Unit → Shared → Prop} (I : Inv X pins σ H s) (hN : X.N.Nodup) (hi : X.N[i]? = some x) (hx : Loc X.env.scope x) (r : RelV v u)
    (h : ∀ s', Inv X pins (σ.set i (some v)) H s' → Q () s') (hf : X.fn x = true ∨ X.env.scope.names.lookup x = some .local := by first | exact .inl rfl | exact .inr rfl | assumption) : wpAny M A (storeName X.env x u) Q E s :=
  store_ok2 I hN hi hx r (fun s' I' _ => h s' I') hf
/-- behind a call or a block, the state as it is -/
theorem Inv.call' {s' : Shared} {ch : List Addr} (I : Inv X pins σ H s) (ho : s'.os = s.os) (u : Un (frs X.stack) ch H H' s.heap s'.heap) (hok : HOk X.prog X.w H' s'.heap) (hg : AllBare s'.gens)
    (hch : ∀ b ∈ ch, (b ∈ X.ex ∨ X.s₀.heap.objs.size ≤ b) ∧ b ≠ X.env.locals ∧ (∀ x c, X.env.cells.lookup x = some c → c ≠ b) ∧ ∀ p ∈ X.pn ++ pins, p.1 ≠ b) : Inv X pins σ H' s' := by
  obtain ⟨h', g', d', t', o'⟩ := s'
  have e : o' = s.os := ho
  subst e
  exact I.call (g' := g') (t' := t') (d' := d') u hok hg hch
end

/-! ### the judgements -/
/-- an exception: its class, its own dict's address (where it has one), the abstract heap behind it -/
abbrev XK := Value → Option Addr → Hp → Prop
abbrev St := List (Option V)
abbrev VK := V → Hp → Prop
/-- an expression's reading; a test's; an argument list's -/
abbrev TE := St → Hp → VK → Prop
abbrev TT := St → Hp → (Bool → Hp → Prop) → Prop
abbrev TA := St → Hp → (List V → Hp → Prop) → Prop
/-- what is wanted behind a statement -/
structure Ends where
  nx : St → Hp → Prop
  rt : VK
  bk : St → Hp → Prop := fun _ _ => False
  ct : St → Hp → Prop := fun _ _ => False
abbrev TS := Ends → St → Hp → Prop

def EP (X : Cx) (pins : List (Addr × Obj)) (σ : St) (Q : VK) (u : Value) (s' : Shared) : Prop := ∃ v H', Inv X pins σ H' s' ∧ RelV v u ∧ Q v H'
def TP (X : Cx) (pins : List (Addr × Obj)) (σ : St) (Q : Bool → Hp → Prop) (b : Bool) (s' : Shared) : Prop := ∃ H', Inv X pins σ H' s' ∧ Q b H'
def AP (X : Cx) (pins : List (Addr × Obj)) (σ : St) (Q : List V → Hp → Prop) (us : List Value) (s' : Shared) : Prop := ∃ vs H', Inv X pins σ H' s' ∧ Vals vs us ∧ Q vs H'
def SP (X : Cx) (pins : List (Addr × Obj)) (D : Ends) (f : Flow) (s' : Shared) : Prop :=
  match f with
  | .next => ∃ σ' H', Inv X pins σ' H' s' ∧ D.nx σ' H'
  | .brk => ∃ σ' H', Inv X pins σ' H' s' ∧ D.bk σ' H'
  | .cont => ∃ σ' H', Inv X pins σ' H' s' ∧ D.ct σ' H'
  | .ret u => ∃ v σ' H', Inv X pins σ' H' s' ∧ RelV v u ∧ D.rt v H'

def PE (X : Cx) (e : Expr) (t : TE) : Prop :=
  ∀ (pins : List (Addr × Obj)) (s : Shared) (σ : St) (H : Hp) (Q : VK), Inv X pins σ H s → t σ H Q → wpAny (model X.prog X.w) X.A (eval e X.env) (EP X pins σ Q) X.xe s
def PT (X : Cx) (e : Expr) (t : TT) : Prop :=
  ∀ (pins : List (Addr × Obj)) (s : Shared) (σ : St) (H : Hp) (Q : Bool → Hp → Prop), Inv X pins σ H s → t σ H Q → wpAny (model X.prog X.w) X.A (isTrue e X.env (eval e X.env)) (TP X pins σ Q) X.xe s
/-- a test whatever its 'whole' is (and, or) -/
def PW (X : Cx) (e : Expr) (t : TT) : Prop :=
  ∀ (whole : Sem Value) (pins : List (Addr × Obj)) (s : Shared) (σ : St) (H : Hp) (Q : Bool → Hp → Prop), Inv X pins σ H s → t σ H Q → wpAny (model X.prog X.w) X.A (isTrue e X.env whole) (TP X pins σ Q) X.xe s
theorem PW.pt {X : Cx} {e : Expr} {t : TT} (h : PW X e t) : PT X e t := h _
/-- an argument list (no star), from the left -/
def PA (X : Cx) (es : List Expr) (t : TA) : Prop :=
  ∀ (pos : Pos) (pins : List (Addr × Obj)) (s : Shared) (σ : St) (H : Hp) (Q : List V → Hp → Prop), Inv X pins σ H s → t σ H Q → wpAny (model X.prog X.w) X.A (spliced (backTo pos (starEach es X.env))) (AP X pins σ Q) X.xe s
def PS (X : Cx) (st : Stmt) (t : TS) : Prop :=
  ∀ (pins : List (Addr × Obj)) (s : Shared) (σ : St) (H : Hp) (D : Ends), Inv X pins σ H s → t D σ H → wpAny (model X.prog X.w) X.A (exec st X.env) (SP X pins D) X.xe s
def PSs (X : Cx) (st : List Stmt) (t : TS) : Prop :=
  ∀ (pins : List (Addr × Obj)) (s : Shared) (σ : St) (H : Hp) (D : Ends), Inv X pins σ H s → t D σ H → wpAny (model X.prog X.w) X.A (execs st X.env) (SP X pins D) X.xe s
/-- weaken the end -/
theorem thn {α : Type} {t : Sem α} {Q Q' : α → Shared → Prop} {M : Model} {A : Around} {E : Value → Shared → Prop} {s : Shared} (h : wpAny M A t Q E s) (hQ : ∀ a s, Q a s → Q' a s) : wpAny M A t Q' E s := wpAny_mono h hQ fun _ _ x => x
end L2

namespace L2
open PySem PySem.Spec PyProof.Rows
section
variable {X : Cx}


/-! ### names and constants -/
def tVar (i : Nat) : TE := fun σ H Q => ∃ v, σ[i]? = some (some v) ∧ Q v H
def tC (v : V) : TE := fun _ H Q => Q v H
theorem pe_var {i : Nat} {x : Str} {pos : Pos} (hN : X.N[i]? = some x) (hv : Vis X.env.scope x) (hd : (x == ("__debug__" : Str)) = false := by decide) (hcd : (x == ("__classdict__" : Str)) = false := by decide) : PE X (.Name x pos) (tVar i) := by
  intro pins s σ H Q I h
  obtain ⟨v, e, h⟩ := h
  obtain ⟨m, hn, hl⟩ := I.loc
  obtain ⟨u, r, l⟩ := hl i x v hN e hv
  have fin : EP X pins σ Q u s := ⟨v, H, I, r, h⟩
  rcases l with ⟨hk, hm⟩ | ⟨hk, c, hc, hcell⟩
  · exact wpAny_Name (wpAny_loadName_local I.ok.kind hk hn hm fin) hd
  · rcases hk with hk | hk
    · exact wpAny_Name (wpAny_loadName_cell I.ok.kind hk hc hcell fin) hd
    · exact wpAny_Name (wpAny_loadName_free I.ok.kind hk hc hcell fin hcd) hd
theorem pe_int {i j pos} : PE X (.Constant (.int i) j pos) (tC (.int i)) := fun _ _ _ H _ I h => wpAny_Constant_int ⟨.int i, H, I.tok _, ⟨_, rfl⟩, h⟩
theorem pe_bl {b j pos} : PE X (.Constant (.bool b) j pos) (tC (.bl b)) := fun _ _ _ H _ I h => Constant_bool ⟨.bl b, H, I, rfl, h⟩
theorem pe_non {j pos} : PE X (.Constant .none j pos) (tC .non) := fun _ _ _ H _ I h => Constant_none ⟨.non, H, I, rfl, h⟩

/-- a global name of the def -/
def Gl (X : Cx) (x : Str) : Prop := X.env.kindOf x = some .globalImplicit
theorem ld_glob {E : Value → Shared → Prop} {pins : List (Addr × Obj)} {s : Shared} {σ : St} {H : Hp} {x : Str} {u : Value} {pos : Pos} {Q : Value → Shared → Prop} (I : Inv X pins σ H s) (hg : Gl X x) (hm : X.mg x = some u) (h : Q u s)
    (hd : (x == ("__debug__" : Str)) = false := by decide) : wpAny (model X.prog X.w) X.A (eval (.Name x pos) X.env) Q E s :=
  Calls.Name_function_global I.ok.kind hg (Calls.loadGlobal_global (by rw [I.ok.glob]; exact I.mod.glob.keeps I.bk) hm h) hd
theorem ld_blt {E : Value → Shared → Prop} {pins : List (Addr × Obj)} {s : Shared} {σ : St} {H : Hp} {x : Str} {u : Value} {pos : Pos} {Q : Value → Shared → Prop} (I : Inv X pins σ H s) (hg : Gl X x) (hm : X.mg x = none) (hv : bootBuiltins x = some u) (h : Q u s)
    (hn : x ≠ "__name__" := by decide) (hd : (x == ("__debug__" : Str)) = false := by decide) : wpAny (model X.prog X.w) X.A (eval (.Name x pos) X.env) Q E s := by
  obtain ⟨mb, h1, h2⟩ := I.mod.blt
  exact Calls.Name_function_global I.ok.kind hg (Calls.loadGlobal_builtin (by rw [I.ok.glob]; exact I.mod.glob.keeps I.bk) hm (by rw [I.ok.blt]; exact h1.keeps I.bk) ((h2 x hn).trans hv) h) hd
/-- a module's constant, a class, a function, as a value -/
theorem pe_glob {x : Str} {v : V} {u : Value} {pos : Pos} (hg : Gl X x) (hm : X.mg x = some u) (r : RelV v u) (hd : (x == ("__debug__" : Str)) = false := by decide) : PE X (.Name x pos) (tC v) :=
  fun _ _ _ H _ I h => ld_glob I hg hm ⟨v, H, I, r, h⟩ hd
theorem pe_bltn {x : Str} {v : V} {u : Value} {pos : Pos} (hg : Gl X x) (hm : X.mg x = none) (hv : bootBuiltins x = some u) (r : RelV v u) (hn : x ≠ "__name__" := by decide) (hd : (x == ("__debug__" : Str)) = false := by decide) : PE X (.Name x pos) (tC v) :=
  fun _ _ _ H _ I h => ld_blt I hg hm hv ⟨v, H, I, r, h⟩ hn hd

/-! ### arithmetic -/
/-- two ints -/
def t2I (ta tb : TE) (k : Int → Int → Hp → Prop) : St → Hp → Prop := fun σ H => ta σ H fun x H1 => tb σ H1 fun y H2 => ∃ i j, x = .int i ∧ y = .int j ∧ k i j H2
def tAdd (ta tb : TE) : TE := fun σ H Q => t2I ta tb (fun i j H2 => Q (.int (i + j)) H2) σ H
def tSub (ta tb : TE) : TE := fun σ H Q => t2I ta tb (fun i j H2 => Q (.int (i - j)) H2) σ H
/-- the left factor below 2^64 -/
def tMul (ta tb : TE) : TE := fun σ H Q => t2I ta tb (fun i j H2 => (-(2 ^ 64) < i ∧ i < 2 ^ 64) ∧ Q (.int (i * j)) H2) σ H
variable {a b : Expr} {ta tb : TE} {pos : Pos}

/-! ### comparisons -/
def PC (X : Cx) (op : CmpOp) (a b : Expr) (t : TE) : Prop :=
  ∀ (pins : List (Addr × Obj)) (s : Shared) (σ : St) (H : Hp) (Q : VK), Inv X pins σ H s → t σ H Q →
    wpAny (model X.prog X.w) X.A (eval a X.env) (fun v s₁ => wpAny (model X.prog X.w) X.A (eval b X.env) (fun u s₂ => wpAny (model X.prog X.w) X.A (compareOp op v u) (EP X pins σ Q) X.xe s₂) X.xe s₁) X.xe s
def tCmp (p : Int → Int → Bool) (ta tb : TE) : TE := fun σ H Q => t2I ta tb (fun i j H2 => Q (.bl (p i j)) H2) σ H
abbrev tLt : TE → TE → TE := tCmp fun i j => decide (i < j)
abbrev tLe : TE → TE → TE := tCmp fun i j => decide (i ≤ j)
abbrev tGt : TE → TE → TE := tCmp fun i j => decide (j < i)
abbrev tGe : TE → TE → TE := tCmp fun i j => decide (j ≤ i)
abbrev tEqI : TE → TE → TE := tCmp fun i j => decide (i = j)
abbrev tNeI : TE → TE → TE := tCmp fun i j => !decide (i = j)
/-- is None -/
def tIsN (ta : TE) : TE := fun σ H Q => ta σ H fun x H1 => Q (.bl (decide (x = .non))) H1
def tNotN (ta : TE) : TE := fun σ H Q => ta σ H fun x H1 => Q (.bl (!decide (x = .non))) H1
/-- a comparison as a value, as a test -/
def tB (t : TE) : TT := fun σ H Q => t σ H fun x H1 => ∃ c, x = .bl c ∧ Q c H1
/-- an expression whose value is a bool, as a test -/
theorem pt_val {e : Expr} {t : TE} (h : PE X e t) (he : ∀ whole, isTrue e X.env whole = (do let v ← whole; standAt e.pos; holding [v] (truthy v)) := by intro _; rfl) : PT X e (tB t) := by
  intro pins s σ H Q I hw
  refine isTrue_plain (thn (h pins s σ H _ I hw) fun v s1 ⟨x, H1, I1, r1, q1⟩ => ?_) (he _)
  obtain ⟨d, rfl, q⟩ := q1
  cases r1
  exact wpAny_truthy_bool ⟨H1, I1, q⟩

/-! ### and, or, not -/
variable {tA tB' : TT} {rest : List Expr}
def tAnd (t u : TT) : TT := fun σ H Q => t σ H fun c H1 => if c = true then u σ H1 Q else Q false H1
def tOr (t u : TT) : TT := fun σ H Q => t σ H fun c H1 => if c = true then Q true H1 else u σ H1 Q
def tNot (t : TT) : TT := fun σ H Q => t σ H fun c H1 => Q (!c) H1
theorem pw_and1 (ha : PT X a tA) : PW X (.BoolOp .And [a] pos) tA := by
  intro wh pins s σ H Q I h
  refine isTrue_and (thn (ha pins s σ H Q I h) fun c s1 e => ?_)
  cases c with
  | true => exact isTrue_and_nil e
  | false => exact e
theorem pw_or1 (ha : PT X a tA) : PW X (.BoolOp .Or [a] pos) tA := by
  intro wh pins s σ H Q I h
  refine isTrue_or (thn (ha pins s σ H Q I h) fun c s1 e => ?_)
  cases c with
  | false => exact isTrue_or_nil e
  | true => exact e
theorem pw_and (ha : PT X a tA) (hb : PW X (.BoolOp .And (b :: rest) pos) tB') : PW X (.BoolOp .And (a :: b :: rest) pos) (tAnd tA tB') := by
  intro wh pins s σ H Q I h
  refine isTrue_and (thn (ha pins s σ H _ I h) fun c s1 ⟨H1, I1, q1⟩ => ?_)
  cases c with
  | true => exact hb wh pins s1 σ H1 Q I1 q1
  | false => exact ⟨H1, I1, q1⟩
theorem pw_or (ha : PT X a tA) (hb : PW X (.BoolOp .Or (b :: rest) pos) tB') : PW X (.BoolOp .Or (a :: b :: rest) pos) (tOr tA tB') := by
  intro wh pins s σ H Q I h
  refine isTrue_or (thn (ha pins s σ H _ I h) fun c s1 ⟨H1, I1, q1⟩ => ?_)
  cases c with
  | true => exact ⟨H1, I1, q1⟩
  | false => exact hb wh pins s1 σ H1 Q I1 q1
theorem pt_not (ha : PT X a tA) : PT X (.UnaryOp .Not a pos) (tNot tA) := by
  intro pins s σ H Q I h
  exact isTrue_not (ha pins s σ H (fun c H1 => Q (!c) H1) I h)
/-- .. as values (bools) -/
def tAndV (ta tb : TE) : TE := fun σ H Q => ta σ H fun x H1 => ∃ c, x = .bl c ∧ if c = true then tb σ H1 Q else Q (.bl false) H1
def tOrV (ta tb : TE) : TE := fun σ H Q => ta σ H fun x H1 => ∃ c, x = .bl c ∧ if c = true then Q (.bl true) H1 else tb σ H1 Q
def tNotV (ta : TE) : TE := fun σ H Q => ta σ H fun x H1 => ∃ c, x = .bl c ∧ Q (.bl (!c)) H1
theorem pe_one {op} {t : TE} (h : PE X a t) : PE X (.BoolOp op [a] pos) t := fun pins s σ H Q I hw => BoolOp_one (h pins s σ H Q I hw)
theorem pe_and (ha : PE X a ta) (hb : PE X (.BoolOp .And (b :: rest) pos) tb) : PE X (.BoolOp .And (a :: b :: rest) pos) (tAndV ta tb) := by
  intro pins s σ H Q I h
  refine BoolOp_and (thn (ha pins s σ H _ I h) fun v s1 ⟨x, H1, I1, r1, q1⟩ => ?_)
  obtain ⟨c, rfl, q1⟩ := q1
  cases r1
  refine wpAny_truthy_bool ?_
  cases c with
  | true => exact hb pins s1 σ H1 Q I1 q1
  | false => exact ⟨.bl false, H1, I1, rfl, q1⟩
theorem pe_not (ha : PE X a ta) : PE X (.UnaryOp .Not a pos) (tNotV ta) := by
  intro pins s σ H Q I h
  refine UnaryOp_ (thn (ha pins s σ H _ I h) fun v s1 ⟨x, H1, I1, r1, q1⟩ => ?_)
  obtain ⟨c, rfl, q1⟩ := q1
  cases r1
  exact not_of (wpAny_truthy_bool ⟨.bl (!c), H1, I1, rfl, q1⟩)
/-- a if t else b -/
def tIf (t : TT) (ta tb : TE) : TE := fun σ H Q => t σ H fun c H1 => if c = true then ta σ H1 Q else tb σ H1 Q
theorem pe_ifExp {c : Expr} (hc : PT X c tA) (ha : PE X a ta) (hb : PE X b tb) : PE X (.IfExp c a b pos) (tIf tA ta tb) := by
  intro pins s σ H Q I h
  refine wpAny_IfExp (thn (hc pins s σ H _ I h) fun d s1 ⟨H1, I1, q1⟩ => ?_)
  cases d with
  | true => exact ha pins s1 σ H1 Q I1 q1
  | false => exact hb pins s1 σ H1 Q I1 q1
end
end L2

namespace L2
open PySem PySem.Spec PyProof.Rows

/-! ### a list, a tuple that is read: tracked, frozen, or an object of the module -/
def SqL (K : PySem.W.Frag) (H : Hp) (a : Addr) (xs : List V) : Prop :=
  Rd H a (.lst xs) ∨
    ∃ (o : Obj) (its : Array Value) (n : Nat), K.lookup a = some o ∧ o.cls = .type "list" ∧ o.dict = none ∧ o.data = .seq its n ∧ its.size ≤ sizeLine ∧ Vals xs its.toList
def SqT (K : PySem.W.Frag) (H : Hp) (a : Addr) (xs : List V) : Prop :=
  Rd H a (.tup xs) ∨
    ∃ (o : Obj) (its : Array Value) (n : Nat), K.lookup a = some o ∧ o.cls = .type "tuple" ∧ o.data = .seq its n ∧ its.size ≤ sizeLine ∧ Vals xs its.toList
def absV : Value → Option V
  | .none => some .non
  | .bool b => some (.bl b)
  | .int i _ => some (.int i)
  | .str x _ => some (.str x)
  | .bytes b _ => some (.byt b)
  | .float b _ => some (.flt b)
  | .ref a => some (.ref a)
  | .type n => some (.ty n)
  | _ => none
theorem RelV.abs {x : V} {u : Value} (r : RelV x u) : absV u = some x := by
  cases x with
  | non => cases r; rfl
  | bl _ => cases r; rfl
  | int _ => obtain ⟨t, rfl⟩ := r; rfl
  | str _ => obtain ⟨t, rfl⟩ := r; rfl
  | byt _ => obtain ⟨t, rfl⟩ := r; rfl
  | flt _ => obtain ⟨t, rfl⟩ := r; rfl
  | ref _ => cases r; rfl
  | ty _ => cases r; rfl
theorem RelV.inj {x y : V} {u : Value} (r : RelV x u) (q : RelV y u) : x = y := Option.some.inj (r.abs.symm.trans q.abs)
theorem Vals.inj : ∀ {xs ys : List V} {us : List Value}, Vals xs us → Vals ys us → xs = ys
  | _, _, _, .nil, .nil => rfl
  | _, _, _, .cons r t, .cons r' t' => by rw [r.inj r', Vals.inj t t']
section
variable {X : Cx} {pins : List (Addr × Obj)} {σ : St} {H : Hp} {s : Shared} {a : Addr} {xs ys : List V}
theorem SqL.of {K : PySem.W.Frag} (h : H a = some (.lst xs)) : SqL K H a xs := .inl (.inl h)
theorem SqT.of {K : PySem.W.Frag} (h : H a = some (.tup xs)) : SqT K H a xs := .inl (.inl h)
theorem Inv.list (I : Inv X pins σ H s) (h : SqL X.K H a xs) : ∃ its : List Value, Vals xs its ∧ PlainL s.heap a its.toArray ∧ xs.length ≤ sizeLine := by
  rcases h with h | ⟨o, its, n, hk, hc, hd, hs, hz, r⟩
  · obtain ⟨z, its, n, r, e⟩ := h.ok I.hok
    exact ⟨its, r, ⟨_, n, e, rfl, rfl, rfl⟩, z⟩
  · refine ⟨its.toList, r, ⟨o, n, I.kIn a o hk, hc, hd, by simpa using hs⟩, ?_⟩
    have e := r.length
    simp only [Array.length_toList] at e
    omega
theorem Inv.tuple (I : Inv X pins σ H s) (h : SqT X.K H a xs) : ∃ its : List Value, Vals xs its ∧ IsTup s.heap a its.toArray ∧ xs.length ≤ sizeLine := by
  rcases h with h | ⟨o, its, n, hk, hc, hs, hz, r⟩
  · obtain ⟨z, its, r, p⟩ := h.ok I.hok
    exact ⟨its, r, p, z⟩
  · refine ⟨its.toList, r, ⟨o, I.kIn a o hk, hc, n, by simpa using hs⟩, ?_⟩
    have e := r.length
    simp only [Array.length_toList] at e
    omega
theorem Inv.list_inj (I : Inv X pins σ H s) (h : SqL X.K H a xs) (h' : SqL X.K H a ys) : xs = ys := by
  obtain ⟨its, r, ⟨o, n, e, _, _, d⟩, _⟩ := I.list h
  obtain ⟨its', r', ⟨o', n', e', _, _, d'⟩, _⟩ := I.list h'
  rw [e] at e'; cases e'
  rw [d] at d'
  injection d' with d1 _
  have : its = its' := by simpa using congrArg Array.toList d1
  subst this
  exact r.inj r'
end

/-! ### another wish about exceptions -/
abbrev Cx.wish (X : Cx) (E : Value → Shared → Prop) : Cx := { X with xe := E }
/-- no exception leaves -/
abbrev Cx.nox (X : Cx) : Cx := X.wish fun _ _ => False
theorem Cx.Ok.wish {X : Cx} (ok : X.Ok) (E : Value → Shared → Prop) : (X.wish E).Ok :=
  ⟨ok.mod, ok.kind, ok.glob, ok.blt, ok.above, ok.inj, ok.has, ok.cab, ok.hd, ok.frames, ok.stk, ok.exf, ok.bs, ok.bsz, ok.noex, ok.exfs, ok.funs, ok.frf⟩
theorem Cx.Ok.unwish {X : Cx} {E : Value → Shared → Prop} (ok : (X.wish E).Ok) : X.Ok :=
  ⟨ok.mod, ok.kind, ok.glob, ok.blt, ok.above, ok.inj, ok.has, ok.cab, ok.hd, ok.frames, ok.stk, ok.exf, ok.bs, ok.bsz, ok.noex, ok.exfs, ok.funs, ok.frf⟩
section
variable {X : Cx} {pins : List (Addr × Obj)} {σ : St} {H : Hp} {s : Shared} {E : Value → Shared → Prop}
theorem Inv.wish (I : Inv X pins σ H s) (E : Value → Shared → Prop) : Inv (X.wish E) pins σ H s := ⟨I.ok.wish E, I.os, I.bare, I.base, I.loc, I.cell, I.free, I.freeC, I.pin, I.hok, I.len⟩
theorem Inv.unwish (I : Inv (X.wish E) pins σ H s) : Inv X pins σ H s := ⟨I.ok.unwish, I.os, I.bare, I.base, I.loc, I.cell, I.free, I.freeC, I.pin, I.hok, I.len⟩
theorem SP.unwish {D : Ends} {f : Flow} {s' : Shared} (h : SP (X.wish E) pins D f s') : SP X pins D f s' := by
  cases f with
  | next => obtain ⟨σ', H', I, q⟩ := h; exact ⟨σ', H', I.unwish, q⟩
  | brk => obtain ⟨σ', H', I, q⟩ := h; exact ⟨σ', H', I.unwish, q⟩
  | cont => obtain ⟨σ', H', I, q⟩ := h; exact ⟨σ', H', I.unwish, q⟩
  | ret u => obtain ⟨v, σ', H', I, r, q⟩ := h; exact ⟨v, σ', H', I.unwish, r, q⟩
theorem PSs.nox {st : List Stmt} {t : TS} (h : PSs X.nox st t) : PSs X st t := fun pins s σ H D I hw =>
  wpAny_mono (h pins s σ H D (I.wish _) hw) (fun _ _ q => q.unwish) fun _ _ z => False.elim z
end

/-! ### blocks and small statements -/
section
variable {X : Cx} {st : Stmt} {rest : List Stmt} {t u : TS} {e : Expr} {te : TE} {pos : Pos}
def tNext : TS := fun D σ H => D.nx σ H
def tSeq (t u : TS) : TS := fun D σ H => t { D with nx := u D } σ H
theorem pss_nil : PSs X [] tNext := fun _ _ σ H _ I h => wpAny_execs_nil ⟨σ, H, I, h⟩
theorem pss_cons (h1 : PS X st t) (h2 : PSs X rest u) : PSs X (st :: rest) (tSeq t u) := by
  intro pins s σ H D I h
  refine wpAny_execs_cons (thn (h1 pins s σ H { D with nx := u D } I h) fun f s1 q => ?_)
  cases f with
  | next =>
    obtain ⟨σ', H', I', q⟩ := q
    exact h2 pins s1 σ' H' D I' q
  | ret v => exact q
  | brk => exact q
  | cont => exact q
theorem pss_one (h1 : PS X st t) : PSs X [st] t := by
  intro pins s σ H D I h
  refine wpAny_execs_cons (thn (h1 pins s σ H D I h) fun f s1 q => ?_)
  cases f with
  | next => exact wpAny_execs_nil q
  | ret v => exact q
  | brk => exact q
  | cont => exact q
def tBreak : TS := fun D σ H => D.bk σ H
def tCont : TS := fun D σ H => D.ct σ H
/-- in a def's body nothing is shown -/
theorem Inv.quiet {pins : List (Addr × Obj)} {σ : St} {H : Hp} {s : Shared} (I : Inv X pins σ H s) : interactive X.env = false := by simp [interactive, I.ok.kind]
/-- an expression whose value is dropped -/
def tDrop (te : TE) : TS := fun D σ H => te σ H fun _ H1 => D.nx σ H1
theorem ps_expr (he : PE X e te) (hs : swapsWith e none pos.line X.env = pure false := by rfl) : PS X (.Expr e pos) (tDrop te) := by
  intro pins s σ H D I h
  exact wpAny_Expr_any (thn (he pins s σ H _ I h) fun v s1 ⟨x, H1, I1, r1, q1⟩ => ⟨σ, H1, I1, q1⟩) I.quiet hs
def tRet (te : TE) : TS := fun D σ H => te σ H D.rt
theorem ps_ret (he : PE X e te) : PS X (.Return (some e) pos) (tRet te) := by
  intro pins s σ H D I h
  exact wpAny_Return_some (thn (he pins s σ H _ I h) fun v s1 ⟨x, H1, I1, r1, q1⟩ => ⟨x, σ, H1, I1, r1, q1⟩)
def tRetN : TS := fun D _ H => D.rt .non H
def tIfS (c : TT) (t u : TS) : TS := fun D σ H => c σ H fun b H1 => if b = true then t D σ H1 else u D σ H1
theorem ps_if {c : Expr} {a b : List Stmt} {tc : TT} (hc : PT X c tc) (ha : PSs X a t) (hb : PSs X b u) : PS X (.If c a b pos) (tIfS tc t u) := by
  intro pins s σ H D I h
  refine wpAny_If (thn (hc pins s σ H _ I h) fun d s1 ⟨H1, I1, q1⟩ => ?_)
  cases d with
  | true => exact ha pins s1 σ H1 D I1 q1
  | false => exact hb pins s1 σ H1 D I1 q1
/-- code that the proof never comes to -/
def tNever : TS := fun _ _ _ => False
end

/-! ### targets -/
abbrev TG := V → St → Hp → (St → Hp → Prop) → Prop
abbrev TGs := List V → St → Hp → (St → Hp → Prop) → Prop
def PG (X : Cx) (target : Expr) (t : TG) : Prop :=
  ∀ (pins : List (Addr × Obj)) (s : Shared) (σ : St) (H : Hp) (v : V) (u : Value) (Q : St → Hp → Prop), Inv X pins σ H s → RelV v u → t v σ H Q →
    wpAny (model X.prog X.w) X.A (assign target X.env u) (fun _ s' => ∃ σ' H', Inv X pins σ' H' s' ∧ Q σ' H') X.xe s
/-- several targets, one after another -/
def PGs (X : Cx) (ts : List Expr) (t : TGs) : Prop :=
  ∀ (pins : List (Addr × Obj)) (s : Shared) (σ : St) (H : Hp) (vs : List V) (us : List Value) (Q : St → Hp → Prop), Inv X pins σ H s → Vals vs us → t vs σ H Q →
    wpAny (model X.prog X.w) X.A (assignInOrder ((assignEach ts X.env).map (·.2)) us) (fun _ s' => ∃ σ' H', Inv X pins σ' H' s' ∧ Q σ' H') X.xe s
/-- o[i] = v, by values -/
abbrev TSet := V → V → V → Hp → (Hp → Prop) → Prop
def PSet (X : Cx) (t : TSet) : Prop :=
  ∀ (pins : List (Addr × Obj)) (s : Shared) (σ : St) (H : Hp) (o i v : V) (ov iv u : Value) (Q : Hp → Prop), Inv X pins σ H s → RelV o ov → RelV i iv → RelV v u → t o i v H Q →
    wpAny (model X.prog X.w) X.A (setItem ov iv u) (fun _ s' => ∃ H', Inv X pins σ H' s' ∧ Q H') X.xe s
/-- a op= b, by values -/
abbrev TIp := V → V → Hp → VK → Prop
def PIp (X : Cx) (op : Operator) (t : TIp) : Prop :=
  ∀ (pins : List (Addr × Obj)) (s : Shared) (σ : St) (H : Hp) (x y : V) (v u : Value) (Q : VK), Inv X pins σ H s → RelV x v → RelV y u → t x y H Q →
    wpAny (model X.prog X.w) X.A (inplaceOp op v u) (EP X pins σ Q) X.xe s
section
variable {X : Cx} {pos : Pos}
def gName (i : Nat) : TG := fun v σ H Q => Q (σ.set i (some v)) H
theorem pg_name {i : Nat} {x : Str} (hN : X.N.Nodup) (hi : X.N[i]? = some x) (hx : Loc X.env.scope x) (hf : X.fn x = true ∨ X.env.scope.names.lookup x = some .local := by first | exact .inl rfl | exact .inr rfl | assumption) : PG X (.Name x pos) (gName i) := by
  intro pins s σ H v u Q I r h
  exact wpAny_assign_Name (store_ok I hN hi hx r (fun s' I' => ⟨_, H, I', h⟩) hf)
def gNil : TGs := fun vs σ H Q => vs = [] ∧ Q σ H
def gCons (t : TG) (u : TGs) : TGs := fun vs σ H Q => ∃ v r, vs = v :: r ∧ t v σ H fun σ' H' => u r σ' H' Q
theorem pgs_nil : PGs X [] gNil := by
  intro pins s σ H vs us Q I r h
  obtain ⟨e, h⟩ := h
  subst e
  cases r
  exact assignInOrder_nil ⟨σ, H, I, h⟩
theorem pgs_cons {e : Expr} {es : List Expr} {t : TG} {u : TGs} (h1 : PG X e t) (h2 : PGs X es u)
    (hs : (assignEach (e :: es) X.env).map (·.2) = assign e X.env :: (assignEach es X.env).map (·.2) := by rfl) : PGs X (e :: es) (gCons t u) := by
  intro pins s σ H vs us Q I r h
  obtain ⟨v, vr, e1, h⟩ := h
  subst e1
  cases r with
  | cons r rr =>
    rw [hs]
    refine assignInOrder_cons (thn (h1 pins s σ H _ _ _ I r h) fun _ s1 ⟨σ1, H1, I1, q1⟩ => ?_)
    exact h2 pins s1 σ1 H1 _ _ Q I1 rr q1
/-- (a, b, ..) = a tuple of that length -/
def gTup (K : PySem.W.Frag) (n : Nat) (t : TGs) : TG := fun v σ H Q => ∃ a xs, v = .ref a ∧ SqT K H a xs ∧ xs.length = n ∧ t xs σ H Q
theorem pg_tup {es : List Expr} {k : Nat} {t : TGs} {n : Nat} (hc : X.calm = true) (h : PGs X es t)
    (hn : (assignEach es X.env).length = n := by rfl) (hst : (assignEach es X.env).findIdx? (·.1) = none := by rfl) : PG X (.Tuple es k pos) (gTup X.K n t) := by
  intro pins s σ H v u Q I r hw
  obtain ⟨a, xs, e1, hq, hl, hw⟩ := hw
  subst e1
  cases r
  obtain ⟨its, rv, ht, hz⟩ := I.tuple hq
  refine assign_Tuple_tuple (I.ok.hd hc) ht (by simp [hn, ← hl, rv.length]) hst fun h' hx => ?_
  have I1 : Inv X pins σ H { s with heap := h' } := I.kept (t' := s.toks) fun b o e => hx b o (Nat.ne_of_lt (Heap.lt_size e)) e
  exact h pins _ σ H xs _ Q I1 (by simpa using rv) hw
/-- o[i] = .. -/
def gSub (to ti : TE) (t : TSet) : TG := fun v σ H Q => to σ H fun o H1 => ti σ H1 fun i H2 => t o i v H2 fun H3 => Q σ H3
theorem pg_sub {o i : Expr} {to ti : TE} {t : TSet} (ho : PE X o to) (hi : PE X i ti) (hs : PSet X t)
    (ha : ∀ v, assign (.Subscript o i pos) X.env v = (do
      let ov ← holding [v] (eval o X.env)
      let iv ← holding [v, ov] (eval i X.env)
      standAt pos
      holding [v, ov, iv] (setItem ov iv v)
      release [v, ov, iv] []) := by intro _; rfl) : PG X (.Subscript o i pos) (gSub to ti t) := by
  intro pins s σ H v u Q I r h
  rw [ha]
  refine wpAny_bind (wpAny_holding (thn (ho pins s σ H _ I h) fun ov s1 ⟨x, H1, I1, r1, q1⟩ => ?_))
  refine wpAny_bind (wpAny_holding (thn (hi pins s1 σ H1 _ I1 q1) fun iv s2 ⟨y, H2, I2, r2, q2⟩ => ?_))
  refine wpAny_bind (wpAny_standAt (wpAny_bind (wpAny_holding (thn (hs pins s2 σ H2 x y v ov iv u _ I2 r1 r2 r q2) fun _ s3 ⟨H3, I3, q3⟩ => ?_))))
  exact wpAny_release ⟨σ, H3, I3, q3⟩
/-- target = value -/
def tAsg (te : TE) (g : TG) : TS := fun D σ H => te σ H fun x H1 => g x σ H1 D.nx
theorem ps_asg {tg e : Expr} {te : TE} {g : TG} (he : PE X e te) (hg : PG X tg g) (hs : swapsWithSole [tg] e pos.line X.env = pure false := by rfl) (hw : swappedStores [tg] e X.env = pure none := by rfl)
    (h1 : (assignEach [tg] X.env).map (·.2) = [assign tg X.env] := by rfl) : PS X (.Assign [tg] e pos) (tAsg te g) := by
  intro pins s σ H D I h
  refine wpAny_Assign_stores (thn (he pins s σ H _ I h) fun v s1 ⟨x, H1, I1, r1, q1⟩ => ?_) hs hw
  rw [h1]
  exact thn (hg pins s1 σ H1 x v _ I1 r1 q1) fun _ s2 q => q
/-- name = value -/
theorem ps_set {i : Nat} {x : Str} {e : Expr} {te : TE} {pos' : Pos} (hN : X.N.Nodup) (hi : X.N[i]? = some x) (hx : Loc X.env.scope x) (he : PE X e te) (hs : swapsWith e (some (.Name x pos')) pos.line X.env = pure false := by rfl) (hf : X.fn x = true ∨ X.env.scope.names.lookup x = some .local := by first | exact .inl rfl | exact .inr rfl | assumption) :
    PS X (.Assign [.Name x pos'] e pos) (tAsg te (gName i)) := by
  intro pins s σ H D I h
  refine wpAny_Assign_Name (thn (he pins s σ H _ I h) fun v s1 ⟨y, H1, I1, r1, q1⟩ => ?_) hs
  exact store_ok I1 hN hi hx r1 (fun s2 I2 => ⟨_, H1, I2, q1⟩) hf
/-- a, b = x, y with plain local names: stored from the right; the pair itself is not tracked (the opening rows as in PyProof/Rows/TupAssign.lean:23) -/
def tPar (i j : Nat) (ta : TA) : TS := fun D σ H => ta σ H fun vs H1 => ∃ v w, vs = [v, w] ∧ D.nx ((σ.set i (some v)).set j (some w)) H1
/-- name op= e -/
def tAug (i : Nat) (te : TE) (ti : TIp) : TS := fun D σ H => ∃ x, σ[i]? = some (some x) ∧ te σ H fun y H1 => ti x y H1 fun z H2 => D.nx (σ.set i (some z)) H2
/-- o[i] op= e -/
def tAugS (to ti te : TE) (tget : V → V → Hp → VK → Prop) (tip : TIp) (tset : TSet) : TS := fun D σ H => to σ H fun o H1 => ti σ H1 fun i H2 => tget o i H2 fun x H3 => te σ H3 fun y H4 => tip x y H4 fun z H5 => tset o i z H5 fun H6 => D.nx σ H6
/-- o[i], by values -/
def PGet (X : Cx) (t : V → V → Hp → VK → Prop) : Prop :=
  ∀ (pins : List (Addr × Obj)) (s : Shared) (σ : St) (H : Hp) (o i : V) (ov iv : Value) (Q : VK), Inv X pins σ H s → RelV o ov → RelV i iv → t o i H Q →
    wpAny (model X.prog X.w) X.A (getItem ov iv) (EP X pins σ Q) X.xe s
/-- ints -/
def ipI (f : Int → Int → Int) : TIp := fun x y H Q => ∃ i j, x = .int i ∧ y = .int j ∧ Q (.int (f i j)) H
end

/-! ### while -/
section
variable {X : Cx} {pos : Pos}
/-- the invariant W with its measure -/
def tWhile (c : TT) (tb : TS) : TS := fun D σ H => ∃ W : Nat → St → Hp → Prop, (∃ m, W m σ H) ∧ ∀ m σ H, W m σ H →
  c σ H fun b H1 => if b = true then ∃ N : St → Hp → Prop, (∀ σ' H', N σ' H' → ∃ m', m' < m ∧ W m' σ' H') ∧ tb { D with nx := N, ct := N, bk := D.nx } σ H1 else D.nx σ H1
theorem ps_while {c : Expr} {body : List Stmt} {tc : TT} {tb : TS} (hp : PassesOwn (model X.prog X.w) X.A X.env X.xe) (hc : PT X c tc) (hb : PSs X body tb) : PS X (.While c body [] pos) (tWhile tc tb) := by
  intro pins s σ H D I h
  obtain ⟨W, ⟨m0, w0⟩, turn⟩ := h
  refine wpAny_While (codeAny_whileLoop (fun n s' => ∃ σ' H', Inv X pins σ' H' s' ∧ W n σ' H') ?_ m0 ⟨σ, H, I, w0⟩)
  rintro n s1 ⟨σ1, H1, I1, w1⟩
  refine wpAny_passesOwn hp (thn (hc pins s1 σ1 H1 _ I1 (turn n σ1 H1 w1)) fun b s2 ⟨H2, I2, q2⟩ => ?_)
  cases b with
  | true =>
    obtain ⟨N, hN, q2⟩ := q2
    rw [if_pos rfl]
    refine wpAny_passesOwn hp (thn (hb pins s2 σ1 H2 _ I2 q2) fun f s3 q3 => ?_)
    cases f with
    | next =>
      obtain ⟨σ3, H3, I3, n3⟩ := q3
      obtain ⟨m', hm, w3⟩ := hN σ3 H3 n3
      exact ⟨m', hm, σ3, H3, I3, w3⟩
    | cont =>
      obtain ⟨σ3, H3, I3, n3⟩ := q3
      obtain ⟨m', hm, w3⟩ := hN σ3 H3 n3
      exact ⟨m', hm, σ3, H3, I3, w3⟩
    | brk => exact q3
    | ret v => exact q3
  | false =>
    rw [if_neg Bool.false_ne_true]
    exact wpAny_execs_nil ⟨σ1, H2, I2, q2⟩
end

/-! ### what a loop or a comprehension walks -/
/-- at turn i: it yields x (the heap may grow), or it stops -/
structure It where
  go : Nat → Hp → Prop
  yld : Nat → Hp → V → Hp → Prop
  stop : Nat → Hp → Prop
/-- the iterator's own objects may turn: they are not the frame's, not pinned, younger than the entry (or a comprehension's own) -/
def FpOk (X : Cx) (pins : List (Addr × Obj)) (H : Hp) (b : Addr) : Prop :=
  H b = none ∧ b ≠ X.env.locals ∧ b ∉ X.fs ∧ (b ∈ X.ex ∨ X.s₀.heap.objs.size ≤ b) ∧ (∀ x c, X.env.cells.lookup x = some c → c ≠ b) ∧ ∀ p ∈ X.pn ++ pins, p.1 ≠ b
theorem Inv.fpOk {X : Cx} {pins : List (Addr × Obj)} {σ : St} {H H' : Hp} {s : Shared} {b : Addr} (I : Inv X pins σ H s) (hb : s.heap.objs.size ≤ b) (hn : H' b = none) : FpOk X pins H' b := by
  refine ⟨hn, Nat.ne_of_gt (Nat.lt_of_lt_of_le I.lt hb), I.nofs hb, .inr (Nat.le_trans I.sz hb), fun x c e z => ?_, fun p hp z => ?_⟩
  · obtain ⟨v, q⟩ := I.cell x c e
    exact absurd (Nat.lt_of_lt_of_le q.lt (by rw [z]; exact hb)) (Nat.lt_irrefl _)
  · exact absurd (Nat.lt_of_lt_of_le (Heap.lt_size (I.pin p hp).1) (by rw [z]; exact hb)) (Nat.lt_irrefl _)
structure Turn (P : Program) (w : World) (K : PySem.W.Frag) (tg : Expr) (J : It) (fp : List Addr) (it : Addr) (tn : Nat → Heap → Prop) : Prop where
  mem : it ∈ fp
  obj : ∀ i h, tn i h → ∀ b ∈ fp, ∃ o, h.get? b = some o ∧ ∀ v, o.data ≠ .cell v
  keep : ∀ i h h', tn i h → (∀ b ∈ fp, ∀ o, h.get? b = some o → h'.get? b = some o) → tn i h'
  item : ∀ (X : Cx), X.prog = P → X.w = w → X.K = K → X.calm = true → ∀ (i : Nat) (pins : List (Addr × Obj)) (s : Shared) (σ : St) (H : Hp) (E : Value → Shared → Prop), Inv X pins σ H s → (∀ b ∈ fp, FpOk X pins H b) → tn i s.heap → J.go i H →
    wpAny (model P w) X.A (pyNext (.ref it)) (fun r s1 => ∃ u, r = some u ∧
      wpAny (model P w) X.A (letOwnedTupleGo tg (.ref it) u) (fun _ s2 => ∃ x H', Inv X pins σ H' s2 ∧ RelV x u ∧ J.yld i H x H' ∧ tn (i + 1) s2.heap ∧ ∀ b ∈ fp, H' b = none) E s1) E s
  done : ∀ (X : Cx), X.prog = P → X.w = w → X.K = K → X.calm = true → ∀ (i : Nat) (pins : List (Addr × Obj)) (s : Shared) (σ : St) (H : Hp) (E : Value → Shared → Prop), Inv X pins σ H s → (∀ b ∈ fp, FpOk X pins H b) → tn i s.heap → J.stop i H →
    wpAny (model P w) X.A (pyNext (.ref it)) (fun r s1 => r = none ∧ Inv X pins σ H s1) E s
  self : ∀ (A : Around) (i : Nat) (s : Shared) (Q : Value → Shared → Prop) (E : Value → Shared → Prop), tn i s.heap → Q (.ref it) s → wpAny (model P w) A (pyIter (.ref it)) Q E s
abbrev TI := St → Hp → (It → Hp → Prop) → Prop
/-- an iterator has come -/
def PIE (X : Cx) (pins : List (Addr × Obj)) (σ : St) (tg : Expr) (R : It → Hp → Prop) (itv : Value) (s2 : Shared) : Prop :=
  ∃ (it : Addr) (fp : List Addr) (tn : Nat → Heap → Prop) (J : It) (H' : Hp), itv = .ref it ∧ Inv X pins σ H' s2 ∧ Turn X.prog X.w X.K tg J fp it tn ∧ tn 0 s2.heap ∧ (∀ b ∈ fp, FpOk X pins H' b) ∧ R J H'
def PI (X : Cx) (tg iter : Expr) (wi : TI) : Prop :=
  ∀ (pins : List (Addr × Obj)) (s : Shared) (σ : St) (H : Hp) (R : It → Hp → Prop), Inv X pins σ H s → wi σ H R →
    wpAny (model X.prog X.w) X.A (eval iter X.env) (fun v s1 => wpAny (model X.prog X.w) X.A (pyIter v) (PIE X pins σ tg R) X.xe s1) X.xe s

/-- the step ahead of the store is nothing for an iterator that keeps no tuple -/
theorem go_of {M : Model} {A : Around} {E : Value → Shared → Prop} {s : Shared} {tg : Expr} {it : Addr} {u : Value} {o : Obj} {n : String} {vs : Array Value} {Q : Unit → Shared → Prop} (ho : s.heap.get? it = some o) (hc : o.cls = .type n) (hd : o.data = .fields vs)
    (hn : ["enumerate", "zip", "dict_itemiterator", "dict_reverseitemiterator", "odict_iterator", "itertools.zip_longest", "itertools.pairwise"].contains n = false) (hQ : Q () s) : wpAny M A (letOwnedTupleGo tg (.ref it) u) Q E s := by
  unfold letOwnedTupleGo
  cases tg <;> first
    | exact wpAny_pure hQ
    | (cases u <;> first
        | exact wpAny_pure hQ
        | (refine wpAny_bind (wpAny_load ho ?_)
           rw [hc, hd]
           show wpAny M A (if (["enumerate", "zip", "dict_itemiterator", "dict_reverseitemiterator", "odict_iterator", "itertools.zip_longest", "itertools.pairwise"].contains n && vs[0]? == some (rawInt _)) = true then _ else _) Q E s
           rw [if_neg (by intro h; rw [hn, Bool.false_and] at h; cases h)]
           exact wpAny_pure hQ))

/-- the list at a, as it stands at each turn (a loop may append to it) -/
def Itl (K : PySem.W.Frag) (a : Addr) : It :=
  ⟨fun i H => ∃ xs x, SqL K H a xs ∧ xs[i]? = some x, fun i H x H' => H' = H ∧ ∀ xs, SqL K H a xs → xs[i]? = some x, fun i H => ∃ xs, SqL K H a xs ∧ xs.length ≤ i⟩
def Itt (K : PySem.W.Frag) (a : Addr) : It :=
  ⟨fun i H => ∃ xs x, SqT K H a xs ∧ xs[i]? = some x, fun i H x H' => H' = H ∧ ∀ xs, SqT K H a xs → xs[i]? = some x, fun i H => ∃ xs, SqT K H a xs ∧ xs.length ≤ i⟩
/-- lo, lo + 1, .. (n of them) -/
def Itr (lo : Int) (n : Nat) : It := ⟨fun i _ => i < n, fun i H x H' => H' = H ∧ x = .int (lo + i), fun i _ => n ≤ i⟩
theorem turn_list {P : Program} {w : World} {K : PySem.W.Frag} {tg : Expr} (a it : Addr) : Turn P w K tg (Itl K a) [it] it (fun i h => h.IsListIter it a i) where
  mem := by simp
  obj := fun i h st b hb => by
    have e : b = it := by simpa using hb
    subst e
    obtain ⟨o, e, c, d⟩ := st
    exact ⟨o, e, fun v z => by rw [d] at z; cases z⟩
  keep := fun i h h' st k => st.at fun o e => k it (by simp) o e
  item := by
    intro X hP hw hK hc i pins s σ H E I hf st hg
    subst hP hw hK
    obtain ⟨xs, x, hq, hx⟩ := hg
    obtain ⟨its, rv, p, hz⟩ := I.list hq
    obtain ⟨u, hu, ru⟩ := rv.get hx
    obtain ⟨f0, f1, f2, f3, f4, f5⟩ := hf it (by simp)
    refine wpAny_pyNext_list_item st p.isList (x := u) (by simpa using hu) fun h' st' sb => ?_
    have I1 : Inv X pins σ H { s with heap := h' } := I.turned (t' := s.toks) (fun b o hb e => (sb.2 b hb).trans e) f0 f1 f3 f4 f5
    obtain ⟨o, e, c, d⟩ := id st'
    exact ⟨u, rfl, go_of (s := { s with heap := h' }) e c d (by decide) ⟨x, H, I1, ru, ⟨rfl, fun ys hy => by rw [I.list_inj hy hq]; exact hx⟩, st', fun b hb => (hf b hb).1⟩⟩
  done := by
    intro X hP hw hK hc i pins s σ H E I hf st hg
    subst hP hw hK
    obtain ⟨xs, hq, hx⟩ := hg
    obtain ⟨its, rv, p, hz⟩ := I.list hq
    obtain ⟨f0, f1, f2, f3, f4, f5⟩ := hf it (by simp)
    have hl := rv.length
    exact wpAny_pyNext_list_end (I.ok.hd hc) st p.isList (by simp; omega) fun h' eb => ⟨rfl, I.turned (t' := s.toks) (fun b o hb e => eb b o hb e) f0 f1 f3 f4 f5⟩
  self := fun _ _ _ _ _ st h => wpAny_pyIter_listiter st h
theorem turn_range {P : Program} {w : World} {K : PySem.W.Frag} {tg : Expr} (it : Addr) (lo : Int) (n : Nat) : Turn P w K tg (Itr lo n) [it] it (fun i h => IsRangeIter h it (lo + (i : Nat) * 1) ((n : Int) - (i : Nat)) 1) where
  mem := by simp
  obj := fun i h st b hb => by
    have e : b = it := by simpa using hb
    subst e
    exact ⟨_, st, fun v z => by
      have z' : Data.fields _ = Data.cell v := z
      cases z'⟩
  keep := fun i h h' st k => k it (by simp) _ st
  item := by
    intro X hP hw hK hc i pins s σ H E I hf st hg
    subst hP hw hK
    obtain ⟨f0, f1, f2, f3, f4, f5⟩ := hf it (by simp)
    have W := Walks.range (prog := X.prog) (w := X.w) (I.ok.hd hc) it lo 1 n
    refine W.item i s _ _ hg st fun v h' tk hv st' kk => ?_
    obtain ⟨t, rfl⟩ := hv
    have I1 : Inv X pins σ H { s with heap := h', toks := tk } := I.turned (fun b o hb e => kk b o (by simpa using hb) e) f0 f1 f3 f4 f5
    refine ⟨_, rfl, go_of (s := { s with heap := h', toks := tk }) (n := "range_iterator") st' rfl rfl (by decide) ⟨.int (lo + i), H, I1, ⟨t, ?_⟩, ⟨rfl, rfl⟩, st', fun b hb => (hf b hb).1⟩⟩
    rw [Int.mul_one]
  done := by
    intro X hP hw hK hc i pins s σ H E I hf st hg
    subst hP hw hK
    obtain ⟨f0, f1, f2, f3, f4, f5⟩ := hf it (by simp)
    exact wpAny_pyNext_range_end (I.ok.hd hc) st (by have : n ≤ i := hg; omega) fun h' eb => ⟨rfl, I.turned (t' := s.toks) (fun b o hb e => eb b o hb e) f0 f1 f3 f4 f5⟩
  self := fun _ _ _ _ _ st h => wpAny_pyIter_rangeiter st h
end L2

namespace L2
open PySem PySem.Spec PyProof.Rows
section
variable {X : Cx} {tg : Expr}
def iList (K : PySem.W.Frag) (tl : TE) : TI := fun σ H R => tl σ H fun x H1 => ∃ a, x = .ref a ∧ (∃ xs, SqL K H1 a xs) ∧ R (Itl K a) H1
def iTup (K : PySem.W.Frag) (tl : TE) : TI := fun σ H R => tl σ H fun x H1 => ∃ a, x = .ref a ∧ (∃ xs, SqT K H1 a xs) ∧ R (Itt K a) H1
theorem pi_list {l : Expr} {tl : TE} (hl : PE X l tl) : PI X tg l (iList X.K tl) := by
  intro pins s σ H R I h
  refine thn (hl pins s σ H _ I h) fun v s1 ⟨x, H1, I1, r1, q1⟩ => ?_
  obtain ⟨a, e, ⟨xs, hq⟩, q⟩ := q1
  subst e
  cases r1
  obtain ⟨its, rv, p, hz⟩ := I1.list hq
  refine wpAny_pyIter_list p.isList ?_
  refine ⟨s1.heap.objs.size, [s1.heap.objs.size], _, _, H1, rfl, I1.kept (t' := s1.toks) fun b o e => Heap.get?_push_of_some _ e, turn_list a _, ⟨_, Heap.get?_push_size _ rfl, rfl, rfl⟩, fun b hb => ?_, q⟩
  have e : b = s1.heap.objs.size := by simpa using hb
  subst e
  exact I1.fpOk (Nat.le_refl _) (I1.hok.fresh (Nat.le_refl _))
/-- a range object just made, walked -/
theorem range_it {pins : List (Addr × Obj)} {σ : St} {H : Hp} {s : Shared} {R : It → Hp → Prop} {E : Value → Shared → Prop} {lo hi : Int} {t u v : Tok} {tk : Nat} (I : Inv X pins σ H s) (h1 : -(2 ^ 62) ≤ lo) (h2 : lo < 2 ^ 62) (h3 : -(2 ^ 62) ≤ hi) (h4 : hi < 2 ^ 62)
    (q : R (Itr lo (hi - lo).toNat) H) : wpAny (model X.prog X.w) X.A (pyIter (.ref s.heap.objs.size)) (PIE X pins σ tg R) E { s with heap := s.heap.push { cls := .type "range", data := .fields #[.int lo t, .int hi u, .int 1 v] }, toks := tk } := by
  refine wpAny_pyIter_range (IsRange.new ..) (small_one h1 h2 h3 h4) ?_
  have I1 : Inv X pins σ H { s with heap := s.heap.push { cls := .type "range", data := .fields #[.int lo t, .int hi u, .int 1 v] }, toks := tk } := I.kept fun b o e => Heap.get?_push_of_some _ e
  refine ⟨(s.heap.push { cls := .type "range", data := .fields #[.int lo t, .int hi u, .int 1 v] }).objs.size, [(s.heap.push { cls := .type "range", data := .fields #[.int lo t, .int hi u, .int 1 v] }).objs.size], _, _, H, rfl,
    I1.kept (t' := tk) fun b o e => Heap.get?_push_of_some _ e, turn_range _ lo (hi - lo).toNat, ?_, fun b hb => ?_, q⟩
  · have e1 : lo + ((0 : Nat) : Int) * 1 = lo := by simp
    have e2 : (((hi - lo).toNat : Nat) : Int) - ((0 : Nat) : Int) = Builtin.Range.rangeSize lo hi 1 := by rw [rangeSize_one]; split <;> omega
    show IsRangeIter _ _ (lo + ((0 : Nat) : Int) * 1) ((((hi - lo).toNat : Nat) : Int) - ((0 : Nat) : Int)) 1
    rw [e1, e2]
    exact Heap.get?_push_size _ rfl
  · have e : b = (s.heap.push { cls := .type "range", data := .fields #[.int lo t, .int hi u, .int 1 v] }).objs.size := by simpa using hb
    subst e
    exact I1.fpOk (Nat.le_refl _) (I1.hok.fresh (Nat.le_refl _))
def iRng1 (ta : TA) : TI := fun σ H R => ta σ H fun vs H1 => ∃ j : Int, vs = [.int j] ∧ -(2 ^ 62) ≤ j ∧ j < 2 ^ 62 ∧ R (Itr 0 j.toNat) H1
def iRng2 (ta : TA) : TI := fun σ H R => ta σ H fun vs H1 => ∃ i j : Int, vs = [.int i, .int j] ∧ (-(2 ^ 62) ≤ i ∧ i < 2 ^ 62 ∧ -(2 ^ 62) ≤ j ∧ j < 2 ^ 62) ∧ R (Itr i (j - i).toNat) H1
theorem pi_range1 {a : Expr} {ta : TA} {p pos : Pos} (hg : Gl X "range") (hm : X.mg "range" = none) (ha : PA X [a] ta) (hs : starEach [a] X.env = [(false, eval a X.env)] := by rfl) : PI X tg (.Call (.Name "range" p) [a] [] pos) (iRng1 ta) := by
  intro pins s σ H R I h
  refine Call_ (ld_blt I hg hm boot_range (PyProof.Rows.callWith_type1 (thn (ha pos pins s σ H _ I h) fun us s1 ⟨vs, H1, I1, r1, q1⟩ => ?_) hs rfl))
  obtain ⟨j, e, q1, q2, q⟩ := q1
  subst e
  cases r1 with
  | cons r rr =>
    cases rr
    obtain ⟨t, rfl⟩ := r
    exact call_range_1 (range_it I1 (by omega) (by omega) q1 q2 (by simpa using q))
theorem pi_range2 {a b : Expr} {ta : TA} {p pos : Pos} (hg : Gl X "range") (hm : X.mg "range" = none) (ha : PA X [a, b] ta) (hs : starEach [a, b] X.env = [(false, eval a X.env), (false, eval b X.env)] := by rfl) (hs2 : starEach [b] X.env = [(false, eval b X.env)] := by rfl) :
    PI X tg (.Call (.Name "range" p) [a, b] [] pos) (iRng2 ta) := by
  intro pins s σ H R I h
  refine Call_ (ld_blt I hg hm boot_range (PyProof.Rows.callWith_type1 (thn (ha pos pins s σ H _ I h) fun us s1 ⟨vs, H1, I1, r1, q1⟩ => ?_) (by rw [hs, hs2]) (by rw [hs2]; rfl)))
  obtain ⟨i, j, e, ⟨q1, q2, q3, q4⟩, q⟩ := q1
  subst e
  cases r1 with
  | cons r rr =>
    cases rr with
    | cons r' rr =>
      cases rr
      obtain ⟨t, rfl⟩ := r
      obtain ⟨t', rfl⟩ := r'
      exact call_range_2 (range_it I1 q1 q2 q3 q4 q)

/-! ### for -/
/-- W: the invariant by the turn and a measure; N: what the body is to reach -/
def tFor (wi : TI) (g : TG) (tb : TS) : TS := fun D σ H => wi σ H fun J H1 => ∃ W : Nat → Nat → St → Hp → Prop, (∃ m, W 0 m σ H1) ∧ ∀ i m σ H, W i m σ H →
  (J.stop i H ∧ D.nx σ H) ∨ (J.go i H ∧ ∃ N : St → Hp → Prop, (∀ σ' H', N σ' H' → ∃ m', m' < m ∧ W (i + 1) m' σ' H') ∧ ∀ x H', J.yld i H x H' → g x σ H' fun σ2 H2 => tb { D with nx := N, ct := N, bk := D.nx } σ2 H2)
/-- the records at fp as they stand -/
def pinsAt (fp : List Addr) (h : Heap) : List (Addr × Obj) := fp.filterMap fun b => (h.get? b).map fun o => (b, o)
theorem mem_pinsAt {fp : List Addr} {h : Heap} {b : Addr} {o : Obj} (hb : b ∈ fp) (e : h.get? b = some o) : (b, o) ∈ pinsAt fp h := List.mem_filterMap.mpr ⟨b, hb, by rw [e]; rfl⟩
theorem of_pinsAt {fp : List Addr} {h : Heap} {p : Addr × Obj} (hp : p ∈ pinsAt fp h) : p.1 ∈ fp ∧ h.get? p.1 = some p.2 := by
  obtain ⟨b, hb, e⟩ := List.mem_filterMap.mp hp
  cases q : h.get? b with
  | none => rw [q] at e; cases e
  | some o =>
    rw [q] at e
    have e' : (b, o) = p := Option.some.inj e
    subst e'
    exact ⟨hb, q⟩
theorem Inv.pinned {pins : List (Addr × Obj)} {σ : St} {H : Hp} {s : Shared} {fp : List Addr} (I : Inv X pins σ H s) (hf : ∀ b ∈ fp, FpOk X pins H b) (ho : ∀ b ∈ fp, ∃ o, s.heap.get? b = some o ∧ ∀ v, o.data ≠ .cell v) : Inv X (pins ++ pinsAt fp s.heap) σ H s :=
  I.pins_of fun p hp => (List.mem_append.mp hp).elim (fun z => I.pin p (List.mem_append_right _ z)) fun z => by
    obtain ⟨hb, e⟩ := of_pinsAt z
    obtain ⟨f0, f1, f2, _⟩ := hf p.1 hb
    obtain ⟨o, e', d⟩ := ho p.1 hb
    rw [e] at e'; cases e'
    exact ⟨e, f0, f1, f2, d⟩
theorem Inv.unpinned {pins pl : List (Addr × Obj)} {σ : St} {H : Hp} {s : Shared} (I : Inv X (pins ++ pl) σ H s) : Inv X pins σ H s := I.pins_of fun p hp => I.pin p (List.mem_append_right _ (List.mem_append_left _ hp))
theorem ps_for {iter : Expr} {body : List Stmt} {wi : TI} {g : TG} {tb : TS} {pos : Pos} (hp : PassesOwn (model X.prog X.w) X.A X.env X.xe) (hc : X.calm = true) (hi : PI X tg iter wi) (hg : PG X tg g) (hb : PSs X body tb)
    (hs : ∀ x, foldedSetIterable iter X.env x = pure x := by intro _; rfl) : PS X (.For tg iter body [] pos) (tFor wi g tb) := by
  intro pins s σ H D I h
  refine wpAny_For (thn (hi pins s σ H _ I h) fun v s1 h1 => thn h1 fun itv s2 h2 => ?_) hs
  obtain ⟨it, fp, tn, J, H2, e, I2, T, st2, f2, W, ⟨m0, w0⟩, turn⟩ := h2
  subst e
  -- what stays true of the iterator's objects through the loop
  have stat : ∀ {H' : Hp}, (∀ b ∈ fp, H' b = none) → ∀ b ∈ fp, FpOk X pins H' b := fun hn b hb => ⟨hn b hb, (f2 b hb).2⟩
  refine codeAny_forLoop_any (fun n s' => ∃ i σ' H', Inv X pins σ' H' s' ∧ tn i s'.heap ∧ (∀ b ∈ fp, H' b = none) ∧ W i n σ' H') ?_ m0 ⟨0, σ, H2, I2, st2, fun b hb => (f2 b hb).1, w0⟩
  rintro n s3 ⟨i, σ3, H3, I3, st3, fr3, w3⟩
  rcases turn i n σ3 H3 w3 with ⟨stop, qn⟩ | ⟨go, N, hN, step⟩
  · refine wpAny_passesOwn hp (thn (T.done X rfl rfl rfl hc i pins s3 σ3 H3 X.xe I3 (stat fr3) st3 stop) fun r s4 ⟨hr, I4⟩ => ?_)
    subst hr
    exact wpAny_execs_nil ⟨σ3, H3, I4, qn⟩
  · refine wpAny_passesOwn hp (thn (T.item X rfl rfl rfl hc i pins s3 σ3 H3 X.xe I3 (stat fr3) st3 go) fun r s4 ⟨u, hr, h4⟩ => ?_)
    subst hr
    refine wpAny_passesOwn hp (thn h4 fun _ s5 ⟨x, H5, I5, r5, y5, st5, fr5⟩ => ?_)
    have I5' := I5.pinned (stat fr5) (T.obj _ _ st5)
    refine wpAny_passesOwn hp (thn (hg _ s5 σ3 H5 x u _ I5' r5 (step x H5 y5)) fun _ s6 ⟨σ6, H6, I6, q6⟩ => ?_)
    refine wpAny_passesOwn hp (thn (hb _ s6 σ6 H6 _ I6 q6) fun f s7 q7 => ?_)
    have again : ∀ {σ7 : St} {H7 : Hp}, Inv X (pins ++ pinsAt fp s5.heap) σ7 H7 s7 → N σ7 H7 → ∃ m, m < n ∧ ∃ i σ' H', Inv X pins σ' H' s7 ∧ tn i s7.heap ∧ (∀ b ∈ fp, H' b = none) ∧ W i m σ' H' := fun {σ7 H7} I7 n7 => by
      obtain ⟨m', hm, w7⟩ := hN σ7 H7 n7
      refine ⟨m', hm, i + 1, σ7, H7, I7.unpinned, T.keep _ _ _ st5 fun b hb o e => (I7.pin (b, o) (List.mem_append_right _ (List.mem_append_right _ (mem_pinsAt hb e)))).1, fun b hb => ?_, w7⟩
      obtain ⟨o, e, d⟩ := T.obj _ _ st5 b hb
      exact (I7.pin (b, o) (List.mem_append_right _ (List.mem_append_right _ (mem_pinsAt hb e)))).2.1
    cases f with
    | next => obtain ⟨σ7, H7, I7, n7⟩ := q7; exact again I7 n7
    | cont => obtain ⟨σ7, H7, I7, n7⟩ := q7; exact again I7 n7
    | brk => obtain ⟨σ7, H7, I7, q7⟩ := q7; exact ⟨σ7, H7, I7.unpinned, q7⟩
    | ret v => obtain ⟨x7, σ7, H7, I7, r7, q7⟩ := q7; exact ⟨x7, σ7, H7, I7.unpinned, r7, q7⟩
end

/-! ### the forms one uses -/
/-- over a list that the body leaves as it is -/
theorem for_list {K : PySem.W.Frag} {a : Addr} {xs : List V} {g : TG} {tb : TS} {D : Ends} {σ : St} {H : Hp} (Pv : Nat → St → Hp → Prop) (h0 : Pv 0 σ H) (hl : ∀ i σ H, i ≤ xs.length → Pv i σ H → SqL K H a xs)
    (hs : ∀ i x σ H, xs[i]? = some x → Pv i σ H → g x σ H fun σ2 H2 => tb { D with nx := Pv (i + 1), ct := Pv (i + 1), bk := D.nx } σ2 H2) (hd : ∀ σ H, Pv xs.length σ H → D.nx σ H) :
    ∃ W : Nat → Nat → St → Hp → Prop, (∃ m, W 0 m σ H) ∧ ∀ i m σ H, W i m σ H →
      ((Itl K a).stop i H ∧ D.nx σ H) ∨ ((Itl K a).go i H ∧ ∃ N : St → Hp → Prop, (∀ σ' H', N σ' H' → ∃ m', m' < m ∧ W (i + 1) m' σ' H') ∧ ∀ x H', (Itl K a).yld i H x H' → g x σ H' fun σ2 H2 => tb { D with nx := N, ct := N, bk := D.nx } σ2 H2) := by
  refine ⟨fun i m σ H => m = xs.length - i ∧ i ≤ xs.length ∧ Pv i σ H, ⟨xs.length, by simp, Nat.zero_le _, h0⟩, ?_⟩
  rintro i m σ H ⟨rfl, hi, p⟩
  have q := hl i σ H hi p
  by_cases hlt : i < xs.length
  · refine .inr ⟨⟨xs, xs[i], q, by simp [hlt]⟩, Pv (i + 1), fun σ' H' p' => ⟨xs.length - (i + 1), by omega, rfl, hlt, p'⟩, fun x H' y => ?_⟩
    obtain ⟨e, y⟩ := y
    subst e
    exact hs i x σ _ (y xs q) p
  · have e : i = xs.length := by omega
    subst e
    exact .inl ⟨⟨xs, q, Nat.le_refl _⟩, hd σ H p⟩
theorem for_range {lo : Int} {n : Nat} {g : TG} {tb : TS} {D : Ends} {σ : St} {H : Hp} (Pv : Nat → St → Hp → Prop) (h0 : Pv 0 σ H)
    (hs : ∀ i σ H, i < n → Pv i σ H → g (.int (lo + i)) σ H fun σ2 H2 => tb { D with nx := Pv (i + 1), ct := Pv (i + 1), bk := D.nx } σ2 H2) (hd : ∀ σ H, Pv n σ H → D.nx σ H) :
    ∃ W : Nat → Nat → St → Hp → Prop, (∃ m, W 0 m σ H) ∧ ∀ i m σ H, W i m σ H →
      ((Itr lo n).stop i H ∧ D.nx σ H) ∨ ((Itr lo n).go i H ∧ ∃ N : St → Hp → Prop, (∀ σ' H', N σ' H' → ∃ m', m' < m ∧ W (i + 1) m' σ' H') ∧ ∀ x H', (Itr lo n).yld i H x H' → g x σ H' fun σ2 H2 => tb { D with nx := N, ct := N, bk := D.nx } σ2 H2) := by
  refine ⟨fun i m σ H => m = n - i ∧ i ≤ n ∧ Pv i σ H, ⟨n, by simp, Nat.zero_le _, h0⟩, ?_⟩
  rintro i m σ H ⟨rfl, hi, p⟩
  by_cases hlt : i < n
  · refine .inr ⟨hlt, Pv (i + 1), fun σ' H' p' => ⟨n - (i + 1), by omega, rfl, hlt, p'⟩, fun x H' y => ?_⟩
    obtain ⟨e, y⟩ := y
    subst e y
    exact hs i σ _ hlt p
  · have e : i = n := by omega
    subst e
    exact .inl ⟨Nat.le_refl _, hd σ H p⟩
/-- while, by a word and a measure of the state -/
theorem while_by {c : TT} {tb : TS} {D : Ends} {σ : St} {H : Hp} (Pv : St → Hp → Prop) (μ : St → Hp → Nat) (h0 : Pv σ H)
    (hs : ∀ σ H, Pv σ H → c σ H fun b H1 => if b = true then tb { D with nx := fun σ' H' => Pv σ' H' ∧ μ σ' H' < μ σ H, ct := fun σ' H' => Pv σ' H' ∧ μ σ' H' < μ σ H, bk := D.nx } σ H1 else D.nx σ H1)
    (mono : ∀ σ H Q Q', (∀ b H1, Q b H1 → Q' b H1) → c σ H Q → c σ H Q') : tWhile c tb D σ H := by
  refine ⟨fun m σ H => m = μ σ H ∧ Pv σ H, ⟨_, rfl, h0⟩, ?_⟩
  rintro m σ H ⟨rfl, p⟩
  refine mono σ H _ _ (fun b H1 q => ?_) (hs σ H p)
  cases b with
  | true => exact ⟨_, fun σ' H' ⟨p', l⟩ => ⟨_, l, rfl, p'⟩, q⟩
  | false => exact q
end L2

namespace L2
open PySem PySem.Spec PyProof.Rows

abbrev R2 := V → V → Hp → VK → Prop
/-- a two-place operation on values: f is binaryOp op, inplaceOp op or compareOp op -/
def OpR (X : Cx) (f : Value → Value → Sem Value) (r : R2) : Prop :=
  ∀ (pins : List (Addr × Obj)) (s : Shared) (σ : St) (H : Hp) (x y : V) (v u : Value) (Q : VK), Inv X pins σ H s → RelV x v → RelV y u → r x y H Q →
    wpAny (model X.prog X.w) X.A (f v u) (EP X pins σ Q) X.xe s
/-- a one-place operation -/
def UnR (X : Cx) (f : Value → Sem Value) (r : V → Hp → VK → Prop) : Prop :=
  ∀ (pins : List (Addr × Obj)) (s : Shared) (σ : St) (H : Hp) (x : V) (v : Value) (Q : VK), Inv X pins σ H s → RelV x v → r x H Q →
    wpAny (model X.prog X.w) X.A (f v) (EP X pins σ Q) X.xe s
/-- a call of a value that is known (a builtin, a type) with values -/
def CallR (X : Cx) (f : Value) (r : List V → Hp → VK → Prop) : Prop :=
  ∀ (pins : List (Addr × Obj)) (s : Shared) (σ : St) (H : Hp) (xs : List V) (us : List Value) (Q : VK), Inv X pins σ H s → Vals xs us → r xs H Q →
    wpAny (model X.prog X.w) X.A (call f us) (EP X pins σ Q) X.xe s
/-- a value's truth -/
def TruR (X : Cx) (r : V → Hp → (Bool → Hp → Prop) → Prop) : Prop :=
  ∀ (pins : List (Addr × Obj)) (s : Shared) (σ : St) (H : Hp) (x : V) (v : Value) (Q : Bool → Hp → Prop), Inv X pins σ H s → RelV x v → r x H Q →
    wpAny (model X.prog X.w) X.A (truthy v) (TP X pins σ Q) X.xe s

def tOp (r : R2) (ta tb : TE) : TE := fun σ H Q => ta σ H fun x H1 => tb σ H1 fun y H2 => r x y H2 Q
def tUn (r : V → Hp → VK → Prop) (ta : TE) : TE := fun σ H Q => ta σ H fun x H1 => r x H1 Q
/-- ints in, under C, and a value out -/
def rI (C : Int → Int → Prop) (g : Int → Int → V) : R2 := fun x y H Q => ∃ i j, x = .int i ∧ y = .int j ∧ C i j ∧ Q (g i j) H
def rI0 (g : Int → Int → V) : R2 := fun x y H Q => ∃ i j, x = .int i ∧ y = .int j ∧ Q (g i j) H
def rU (g : Int → V) : V → Hp → VK → Prop := fun x H Q => ∃ i, x = .int i ∧ Q (g i) H

section
variable {X : Cx} {a b c : Expr} {ta tb tc : TE} {pos : Pos}

theorem binT (ha : PE X a ta) (hb : PE X b tb) {pins : List (Addr × Obj)} {s : Shared} {σ : St} {H : Hp} {R : V → V → Hp → Prop} (I : Inv X pins σ H s)
    (h : ta σ H fun x H1 => tb σ H1 fun y H2 => R x y H2) {Q : Value → Shared → Prop} {f : Value → Value → Sem Value}
    (hf : ∀ v u s2 x y H2, Inv X pins σ H2 s2 → RelV x v → RelV y u → R x y H2 → wpAny (model X.prog X.w) X.A (f v u) Q X.xe s2) :
    wpAny (model X.prog X.w) X.A (eval a X.env) (fun v s₁ => wpAny (model X.prog X.w) X.A (eval b X.env) (fun u s₂ => wpAny (model X.prog X.w) X.A (f v u) Q X.xe s₂) X.xe s₁) X.xe s := by
  refine thn (ha pins s σ H _ I h) fun v s1 ⟨x, H1, I1, r1, q1⟩ => ?_
  refine thn (hb pins s1 σ H1 _ I1 q1) fun u s2 ⟨y, H2, I2, r2, q2⟩ => ?_
  exact hf v u s2 x y H2 I2 r1 r2 q2

theorem pe_op {op : Operator} {r : R2} (ho : OpR X (binaryOp op) r) (ha : PE X a ta) (hb : PE X b tb) : PE X (.BinOp a op b pos) (tOp r ta tb) := by
  intro pins s σ H Q I h
  exact wpAny_BinOp (binT ha hb I h fun v u s2 x y H2 I2 rx ry q => ho pins s2 σ H2 x y v u Q I2 rx ry q)
theorem pe_un {op : UnaryOp} {r : V → Hp → VK → Prop} (ho : UnR X (unaryOp op) r) (ha : PE X a ta) : PE X (.UnaryOp op a pos) (tUn r ta) := by
  intro pins s σ H Q I h
  exact UnaryOp_ (thn (ha pins s σ H _ I h) fun v s1 ⟨x, H1, I1, r1, q1⟩ => ho pins s1 σ H1 x v Q I1 r1 q1)

/-! ### ints -/
theorem opI {f : Value → Value → Sem Value} {C : Int → Int → Prop} {g : Int → Int → Int}
    (rule : ∀ (i j : Int) (t u : Tok) (s : Shared) (Q : Value → Shared → Prop) (E : Value → Shared → Prop), C i j → Q (.int (g i j) s.toks) { s with toks := s.toks + 1 } → wpAny (model X.prog X.w) X.A (f (.int i t) (.int j u)) Q E s) :
    OpR X f (rI C fun i j => .int (g i j)) := by
  intro pins s σ H x y v u Q I rx ry h
  obtain ⟨i, j, rfl, rfl, hc, q⟩ := h
  obtain ⟨t, rfl⟩ := rx
  obtain ⟨t', rfl⟩ := ry
  exact rule i j t t' s _ _ hc ⟨.int (g i j), H, I.tok _, ⟨_, rfl⟩, q⟩
theorem opI0 {f : Value → Value → Sem Value} {g : Int → Int → Int}
    (rule : ∀ (i j : Int) (t u : Tok) (s : Shared) (Q : Value → Shared → Prop) (E : Value → Shared → Prop), Q (.int (g i j) s.toks) { s with toks := s.toks + 1 } → wpAny (model X.prog X.w) X.A (f (.int i t) (.int j u)) Q E s) :
    OpR X f (rI0 fun i j => .int (g i j)) := by
  intro pins s σ H x y v u Q I rx ry h
  obtain ⟨i, j, rfl, rfl, q⟩ := h
  obtain ⟨t, rfl⟩ := rx
  obtain ⟨t', rfl⟩ := ry
  exact rule i j t t' s _ _ ⟨.int (g i j), H, I.tok _, ⟨_, rfl⟩, q⟩
theorem opB0 {f : Value → Value → Sem Value} {g : Int → Int → Bool}
    (rule : ∀ (i j : Int) (t u : Tok) (s : Shared) (Q : Value → Shared → Prop) (E : Value → Shared → Prop), Q (.bool (g i j)) s → wpAny (model X.prog X.w) X.A (f (.int i t) (.int j u)) Q E s) :
    OpR X f (rI0 fun i j => .bl (g i j)) := by
  intro pins s σ H x y v u Q I rx ry h
  obtain ⟨i, j, rfl, rfl, q⟩ := h
  obtain ⟨t, rfl⟩ := rx
  obtain ⟨t', rfl⟩ := ry
  exact rule i j t t' s _ _ ⟨.bl (g i j), H, I, rfl, q⟩

def CDiv (i j : Int) : Prop := 0 < j ∧ j < 1073741824
def CDivN (i j : Int) : Prop := j ≠ 0 ∧ j.natAbs < 1073741824
def CPow (i j : Int) : Prop := 0 ≤ j ∧ j ≤ 1000000 ∧ i.natAbs < 2 ^ 64
def CMul (i j : Int) : Prop := (-(2 ^ 64) < i ∧ i < 2 ^ 64) ∨ (-(2 ^ 64) < j ∧ j < 2 ^ 64)
theorem CMul.ok {i j : Int} (h : CMul i j) : IntMulOk i j := by
  rcases h with ⟨h1, h2⟩ | ⟨h1, h2⟩
  · exact .of_left (intBits_le_64 h1 h2)
  · exact .of_right (intBits_le_64 h1 h2)
theorem two_pow_nn (k : Nat) : (0 : Int) ≤ 2 ^ k := by
  rw [two_pow_cast]
  exact Int.natCast_nonneg _

theorem op_add : OpR X (binaryOp .Add) (rI0 fun i j => .int (i + j)) := opI0 fun _ _ _ _ _ _ _ q => add_int q
theorem op_sub : OpR X (binaryOp .Sub) (rI0 fun i j => .int (i - j)) := opI0 fun _ _ _ _ _ _ _ q => sub_int q
theorem op_mul : OpR X (binaryOp .Mult) (rI CMul fun i j => .int (i * j)) := opI fun _ _ _ _ _ _ _ hc q => mul_int q hc.ok
/-- // by a positive divisor -/
theorem op_fdiv : OpR X (binaryOp .FloorDiv) (rI CDiv fun i j => .int (i / j)) := opI fun i j _ _ _ _ _ hc q => by
  have h1 : (0 : Int) < j := hc.1
  have h2 : j < 1073741824 := hc.2
  exact floordiv_int (by omega) (by rw [Int.fdiv_eq_ediv_of_nonneg i (by omega)]; exact q) (.inl (PyProof.noPylong_small (by omega)))
/-- % by a positive divisor of any size -/
theorem op_mod : OpR X (binaryOp .Mod) (rI (fun _ j => 0 < j) fun i j => .int (i % j)) := opI fun i j _ _ _ _ _ hc q => by
  have h1 : (0 : Int) < j := hc
  exact mod_int' (by omega) (by rw [Int.fmod_eq_emod_of_nonneg i (by omega)]; exact q)
theorem op_shl : OpR X (binaryOp .LShift) (rI CPow fun i j => .int (i * 2 ^ j.toNat)) := opI fun _ _ _ _ _ _ _ hc q => lshift_int_small hc.1 hc.2.1 hc.2.2 q
theorem op_shr : OpR X (binaryOp .RShift) (rI (fun _ j => 0 ≤ j) fun i j => .int (i / 2 ^ j.toNat)) := opI fun i j _ _ _ _ _ hc q =>
  rshift_int hc (by rw [Int.fdiv_eq_ediv_of_nonneg i (two_pow_nn _)]; exact q)
theorem op_and : OpR X (binaryOp .BitAnd) (rI0 fun i j => .int (Builtin.bitAnd i j)) := opI0 fun _ _ _ _ _ _ _ q => and_int q
theorem op_xor : OpR X (binaryOp .BitXor) (rI0 fun i j => .int (Builtin.bitXor i j)) := opI0 fun _ _ _ _ _ _ _ q => xor_int q


theorem unI {f : Value → Sem Value} {g : Int → Int}
    (rule : ∀ (i : Int) (t : Tok) (s : Shared) (Q : Value → Shared → Prop) (E : Value → Shared → Prop), Q (.int (g i) s.toks) { s with toks := s.toks + 1 } → wpAny (model X.prog X.w) X.A (f (.int i t)) Q E s) :
    UnR X f (rU fun i => .int (g i)) := by
  intro pins s σ H x v Q I rx h
  obtain ⟨i, rfl, q⟩ := h
  obtain ⟨t, rfl⟩ := rx
  exact rule i t s _ _ ⟨.int (g i), H, I.tok _, ⟨_, rfl⟩, q⟩
theorem un_neg : UnR X (unaryOp .USub) (rU fun i => .int (-i)) := unI fun _ _ _ _ _ q => neg_int q

/-! ### bools among ints: n += (a < b) -/
end

/-! ### comparisons -/
/-- the scalars that == tells apart as data does -/
def scal : V → V → Bool
  | .non, .non => true | .non, .int _ => true | .int _, .non => true | .non, .bl _ => true | .bl _, .non => true | .non, .str _ => true | .str _, .non => true
  | .int _, .int _ => true | .bl _, .bl _ => true | .str _, .str _ => true | .byt _, .byt _ => true
  | .int _, .str _ => true | .str _, .int _ => true | .bl _, .str _ => true | .str _, .bl _ => true
  | _, _ => false
def rEq : R2 := fun x y H Q => scal x y = true ∧ Q (.bl (decide (x = y))) H
def rNe : R2 := fun x y H Q => scal x y = true ∧ Q (.bl (!decide (x = y))) H

theorem dec_int {i j : Int} : decide (V.int i = V.int j) = (i == j) := by
  rw [Bool.eq_iff_iff]
  simp
theorem dec_bl {i j : Bool} : decide (V.bl i = V.bl j) = (i == j) := by
  rw [Bool.eq_iff_iff]
  simp
theorem dec_str {i j : Str} : decide (V.str i = V.str j) = (i == j) := by
  rw [Bool.eq_iff_iff]
  simp
theorem dec_byt {i j : Array UInt8} : decide (V.byt i = V.byt j) = (i.toList == j.toList) := by
  rw [Bool.eq_iff_iff]
  cases i
  cases j
  simp

section
variable {X : Cx} {a b c : Expr} {ta tb tc : TE} {pos : Pos}
theorem fin_bl {pins : List (Addr × Obj)} {σ : St} {H : Hp} {s : Shared} {Q : VK} {k k' : Bool} (I : Inv X pins σ H s) (q : Q (.bl k) H) (e : k = k') : EP X pins σ Q (.bool k') s := by
  subst e
  exact ⟨.bl k, H, I, rfl, q⟩
theorem op_eq : OpR X (compareOp .Eq) rEq := by
  intro pins s σ H x y v u Q I rx ry h
  obtain ⟨hs, q⟩ := h
  cases x with
  | non =>
    cases rx
    cases y with
    | non => cases ry; exact PySem.EqNone.eq_none_none (fin_bl I q (by simp))
    | bl j => cases ry; exact PySem.EqNone.eq_none_bool (fin_bl I q (by simp))
    | int j => obtain ⟨t', rfl⟩ := ry; exact PySem.EqNone.eq_none_int (fin_bl I q (by simp))
    | str j => obtain ⟨t', rfl⟩ := ry; exact PySem.EqNone.eq_none_str (fin_bl I q (by simp))
    | _ => exact absurd (show false = true from hs) Bool.false_ne_true
  | bl i =>
    cases rx
    cases y with
    | non => cases ry; exact PySem.EqNone.eq_bool_none (fin_bl I q (by simp))
    | bl j => cases ry; exact eq_bool (fin_bl I q dec_bl)
    | str j => obtain ⟨t', rfl⟩ := ry; exact PySem.EqMixed.eq_bool_str (fin_bl I q (by simp))
    | _ => exact absurd (show false = true from hs) Bool.false_ne_true
  | int i =>
    obtain ⟨t, rfl⟩ := rx
    cases y with
    | non => cases ry; exact PySem.EqNone.eq_int_none (fin_bl I q (by simp))
    | int j => obtain ⟨t', rfl⟩ := ry; exact eq_int (fin_bl I q dec_int)
    | str j => obtain ⟨t', rfl⟩ := ry; exact PySem.EqMixed.eq_int_str (fin_bl I q (by simp))
    | _ => exact absurd (show false = true from hs) Bool.false_ne_true
  | str i =>
    obtain ⟨t, rfl⟩ := rx
    cases y with
    | non => cases ry; exact PySem.EqNone.eq_str_none (fin_bl I q (by simp))
    | bl j => cases ry; exact PySem.EqMixed.eq_str_bool (fin_bl I q (by simp))
    | int j => obtain ⟨t', rfl⟩ := ry; exact PySem.EqMixed.eq_str_int (fin_bl I q (by simp))
    | str j => obtain ⟨t', rfl⟩ := ry; exact eq_str (fin_bl I q dec_str)
    | _ => exact absurd (show false = true from hs) Bool.false_ne_true
  | byt i =>
    obtain ⟨t, rfl⟩ := rx
    cases y with
    | byt j => obtain ⟨t', rfl⟩ := ry; exact PySem.W.eq_bytes (fin_bl I q dec_byt)
    | _ => exact absurd (show false = true from hs) Bool.false_ne_true
  | _ => cases y <;> exact absurd (show false = true from hs) Bool.false_ne_true
theorem op_ne : OpR X (compareOp .NotEq) rNe := by
  intro pins s σ H x y v u Q I rx ry h
  obtain ⟨hs, q⟩ := h
  cases x with
  | non =>
    cases rx
    cases y with
    | non => cases ry; exact PySem.EqNone.ne_none_none (fin_bl I q (by simp))
    | bl j => cases ry; exact PySem.EqNone.ne_none_bool (fin_bl I q (by simp))
    | int j => obtain ⟨t', rfl⟩ := ry; exact PySem.EqNone.ne_none_int (fin_bl I q (by simp))
    | str j => obtain ⟨t', rfl⟩ := ry; exact PySem.EqNone.ne_none_str (fin_bl I q (by simp))
    | _ => exact absurd (show false = true from hs) Bool.false_ne_true
  | bl i =>
    cases rx
    cases y with
    | non => cases ry; exact PySem.EqNone.ne_bool_none (fin_bl I q (by simp))
    | bl j => cases ry; exact ne_bool (fin_bl I q (congrArg not dec_bl))
    | str j => obtain ⟨t', rfl⟩ := ry; exact PySem.EqMixed.ne_bool_str (fin_bl I q (by simp))
    | _ => exact absurd (show false = true from hs) Bool.false_ne_true
  | int i =>
    obtain ⟨t, rfl⟩ := rx
    cases y with
    | non => cases ry; exact PySem.EqNone.ne_int_none (fin_bl I q (by simp))
    | int j => obtain ⟨t', rfl⟩ := ry; exact ne_int (fin_bl I q (congrArg not dec_int))
    | str j => obtain ⟨t', rfl⟩ := ry; exact PySem.EqMixed.ne_int_str (fin_bl I q (by simp))
    | _ => exact absurd (show false = true from hs) Bool.false_ne_true
  | str i =>
    obtain ⟨t, rfl⟩ := rx
    cases y with
    | non => cases ry; exact PySem.EqNone.ne_str_none (fin_bl I q (by simp))
    | bl j => cases ry; exact PySem.EqMixed.ne_str_bool (fin_bl I q (by simp))
    | int j => obtain ⟨t', rfl⟩ := ry; exact PySem.EqMixed.ne_str_int (fin_bl I q (by simp))
    | str j => obtain ⟨t', rfl⟩ := ry; exact ne_str (fin_bl I q (congrArg not dec_str))
    | _ => exact absurd (show false = true from hs) Bool.false_ne_true
  | byt i =>
    obtain ⟨t, rfl⟩ := rx
    cases y with
    | byt j => obtain ⟨t', rfl⟩ := ry; exact PySem.W.ne_bytes (fin_bl I q (congrArg not dec_byt))
    | _ => exact absurd (show false = true from hs) Bool.false_ne_true
  | _ => cases y <;> exact absurd (show false = true from hs) Bool.false_ne_true

theorem op_lt : OpR X (compareOp .Lt) (rI0 fun i j => .bl (decide (i < j))) := opB0 fun _ _ _ _ _ _ _ q => lt_int q
theorem op_le : OpR X (compareOp .LtE) (rI0 fun i j => .bl (decide (i ≤ j))) := opB0 fun _ _ _ _ _ _ _ q => le_int q
theorem op_gt : OpR X (compareOp .Gt) (rI0 fun i j => .bl (decide (j < i))) := opB0 fun _ _ _ _ _ _ _ q => gt_int q
theorem op_ge : OpR X (compareOp .GtE) (rI0 fun i j => .bl (decide (j ≤ i))) := opB0 fun _ _ _ _ _ _ _ q => ge_int q


/-- is, is not of two objects that are tracked lists or instances -/
def isObj : HO → Bool
  | .lst _ => true
  | .ins _ _ _ => true
  | _ => false


theorem nomark (b : Expr) {op : CmpOp} (h : op ≠ .In := by decide) (h2 : op ≠ .NotIn := by decide) : behindInMarks op b = false := by
  have e1 : (op == CmpOp.In) = false := by cases op <;> first | rfl | exact absurd rfl h
  have e2 : (op == CmpOp.NotIn) = false := by cases op <;> first | rfl | exact absurd rfl h2
  cases b <;> simp [behindInMarks, e1, e2]
/-- a comparison as a value; hm: nomark b, or (for in, not in) by with_unfolding_all rfl -/
theorem pe_cmpR {op : CmpOp} {r : R2} (ho : OpR X (compareOp op) r) (ha : PE X a ta) (hb : PE X b tb) (hm : behindInMarks op b = false) : PE X (.Compare a [op] [b] pos) (tOp r ta tb) := by
  intro pins s σ H Q I h
  exact wpAny_Compare1 (binT ha hb I h fun v u s2 x y H2 I2 rx ry q => ho pins s2 σ H2 x y v u Q I2 rx ry q) hm
/-- a reading of a value as a test -/
def tTest (t : TE) : TT := fun σ H Q => t σ H fun x H' => ∃ k, x = .bl k ∧ Q k H'
theorem pt_cmpR {op : CmpOp} {r : R2} (ho : OpR X (compareOp op) r) (ha : PE X a ta) (hb : PE X b tb) (hm : behindInMarks op b = false) : PT X (.Compare a [op] [b] pos) (tTest (tOp r ta tb)) := by
  intro pins s σ H Q I h
  refine wpAny_isTrue_Compare1 (thn (ha pins s σ H _ I h) fun v s1 ⟨x, H1, I1, r1, q1⟩ => thn (hb pins s1 σ H1 _ I1 q1) fun u s2 ⟨y, H2, I2, r2, q2⟩ =>
    thn (ho pins s2 σ H2 x y v u _ I2 r1 r2 q2) fun c s3 ⟨z, H3, I3, r3, k, e, q3⟩ => ?_) hm
  subst e
  cases r3
  exact wpAny_truthy_bool ⟨H3, I3, q3⟩
/-- a op1 b op2 c -/
def tChain (r r' : R2) (ta tb tc : TE) : TE := fun σ H Q => ta σ H fun x H1 => tb σ H1 fun y H2 => r x y H2 fun z H3 => ∃ k, z = .bl k ∧
  (if k = true then tc σ H3 fun w' H4 => r' y w' H4 Q else Q (.bl false) H3)

/-! ### truth -/
/-- a value's truth by the abstract heap -/
def TruV (K : PySem.W.Frag) (x : V) (H : Hp) (k : Bool) : Prop :=
  match x with
  | .non => k = false
  | .bl b => k = b
  | .int i => k = (i != 0)
  | .str y => y.length ≤ sizeLine ∧ k = ((y.length : Int) != 0)
  | .byt y => y.size ≤ sizeLine ∧ k = ((y.size : Int) != 0)
  | .ref p => (∃ xs, SqL K H p xs ∧ k = !xs.isEmpty) ∨ (∃ xs, SqT K H p xs ∧ k = !xs.isEmpty) ∨ ∃ kvs, H p = some (.dK kvs) ∧ k = !kvs.isEmpty
  | _ => False
theorem isEmpty_kv {κ : Type} {kvs : List (κ × V)} {vs : List (κ × Value)} (r : KV kvs vs) : (!vs.isEmpty) = !kvs.isEmpty := by
  cases r <;> rfl
theorem isEmpty_of {xs : List V} {its : List Value} (r : Vals xs its) : (!its.toArray.isEmpty) = !xs.isEmpty := by
  cases r <;> simp
theorem line63 : (sizeLine : Nat) < 2 ^ 63 := by rw [sizeLine_eq]; decide
theorem tru_ok : TruR X (fun x H Q => ∃ k, TruV X.K x H k ∧ Q k H) := by
  intro pins s σ H x v Q I rx h
  obtain ⟨k, e, q⟩ := h
  have hl := line63
  have hs : sizeLine = 16777216 := sizeLine_eq
  cases x with
  | non =>
    cases rx
    have e' : k = false := e
    subst e'
    exact truthy_none ⟨H, I, q⟩
  | bl b =>
    cases rx
    have e' : k = b := e
    subst e'
    exact wpAny_truthy_bool ⟨H, I, q⟩
  | int i =>
    obtain ⟨t, rfl⟩ := rx
    have e' : k = (i != 0) := e
    subst e'
    exact PySem.P.truthy_int ⟨H, I, q⟩
  | str y =>
    obtain ⟨t, rfl⟩ := rx
    obtain ⟨hy, e'⟩ : y.length ≤ sizeLine ∧ k = ((y.length : Int) != 0) := e
    subst e'
    exact PySem.P.truthy_str (by omega) ⟨H, I.tok _, q⟩
  | byt y =>
    obtain ⟨t, rfl⟩ := rx
    obtain ⟨hy, e'⟩ : y.size ≤ sizeLine ∧ k = ((y.size : Int) != 0) := e
    subst e'
    exact PySem.W.truthy_bytes (by omega) ⟨H, I.tok _, q⟩
  | ref p =>
    cases rx
    have e' : (∃ xs, SqL X.K H p xs ∧ k = !xs.isEmpty) ∨ (∃ xs, SqT X.K H p xs ∧ k = !xs.isEmpty) ∨ ∃ kvs, H p = some (.dK kvs) ∧ k = !kvs.isEmpty := e
    rcases e' with ⟨xs, hx, e'⟩ | ⟨xs, hx, e'⟩ | ⟨kvs, hx, e'⟩
    · subst e'
      obtain ⟨its, r, pl, hz⟩ := I.list hx
      have hlen := r.length
      exact wpAny_truthy_list pl.isList (by simp only [List.size_toArray]; omega) ⟨H, I.tok _, by rw [isEmpty_of r]; exact q⟩
    · subst e'
      obtain ⟨its, r, pl, hz⟩ := I.tuple hx
      have hlen := r.length
      exact truthy_tuple pl (by simp only [List.size_toArray]; omega) ⟨H, I.tok _, by rw [isEmpty_of r]; exact q⟩
    · subst e'
      obtain ⟨hz, hS, vs, r, m⟩ : kvs.length ≤ sizeLine ∧ (p == sysModules) = false ∧ ∃ vs, KV kvs vs ∧ s.heap.DictOf (mixKind X.prog X.w) p vs := I.hok p _ hx
      have hlen : kvs.length = vs.length := Paired.length r
      exact wpAny_truthy_dict hS m (by omega) ⟨H, I.tok _, by rw [isEmpty_kv r]; exact q⟩
  | _ => exact (show False from e).elim
/-- any expression whose test is its value's truth (a name, a call, a subscript, a field ..: he by fun _ => rfl) -/
theorem pt_truth (ha : PE X a ta) (he : ∀ whole, isTrue a X.env whole = (do let v ← whole; standAt a.pos; holding [v] (truthy v))) :
    PT X a (fun σ H Q => ta σ H fun x H' => ∃ k, TruV X.K x H' k ∧ Q k H') := by
  intro pins s σ H Q I h
  exact isTrue_plain (thn (ha pins s σ H _ I h) fun v s1 ⟨x, H1, I1, r1, q1⟩ => tru_ok pins s1 σ H1 x v Q I1 r1 q1) (he _)

/-! ### strs and bytes -/

def PlainIxT (b : Expr) : Prop := ∀ o i, subscripted b false o i = operate [o, i] (getItem o i)

/-! ### scalar builtins, by CallR -/
theorem vals1 {x : V} {us : List Value} (r : Vals [x] us) : ∃ u, us = [u] ∧ RelV x u := by
  cases r with
  | cons r1 r2 => cases r2; exact ⟨_, rfl, r1⟩
theorem vals2 {x y : V} {us : List Value} (r : Vals [x, y] us) : ∃ u w', us = [u, w'] ∧ RelV x u ∧ RelV y w' := by
  cases r with
  | cons r1 r2 =>
    cases r2 with
    | cons r3 r4 => cases r4; exact ⟨_, _, rfl, r1, r3⟩
/-- len of a str, a bytes, a list, a tuple -/
def LenV (K : PySem.W.Frag) (x : V) (H : Hp) (n : Nat) : Prop :=
  match x with
  | .str y => y.length ≤ sizeLine ∧ n = y.length
  | .byt y => y.size ≤ sizeLine ∧ n = y.size
  | .ref p => (∃ xs, SqL K H p xs ∧ n = xs.length) ∨ ∃ xs, SqT K H p xs ∧ n = xs.length
  | _ => False
end
end L2

namespace L2
open PySem PySem.Spec PyProof.Rows

/-! ### an instance, its attributes a map -/
structure ObjM (h : Heap) (x dx C : Addr) (mA : Str → Option Value) : Prop where
  obj : h.get? x = some (PySem.W.instObj C dx)
  ns : h.Ns1 dx mA
  ne : dx ≠ x

theorem lookIn_ns {h : Heap} {dx : Addr} {mA : Str → Option Value} (n : h.Ns1 dx mA) : ∃ od, h.get? dx = some od ∧ ∀ name, PySem.W.lookIn name od = some (mA name) := by
  obtain ⟨o, es, ep, ho, hd, hk, _, hm⟩ := n
  refine ⟨o, ho, fun name => ?_⟩
  have e := hm name
  unfold nsFind findBy at e
  rw [← Array.find?_toList] at e
  unfold PySem.W.lookIn
  rw [hd]
  dsimp only
  split
  · rename_i y q
    rw [q] at e
    exact congrArg some e
  · rename_i q
    rw [q] at e
    have a : es.toList.any (·.refKey) = false := by
      rw [List.any_eq_false]
      intro y hy
      obtain ⟨z, t, hkey⟩ := hk y (Array.mem_toList_iff.mp hy)
      simp [DictEntry.refKey, hkey]
    have a' : ¬ es.toList.any (·.refKey) = true := by rw [a]; exact Bool.false_ne_true
    rw [if_neg a']
    exact congrArg some e

theorem ObjM.look {h : Heap} {x dx C : Addr} {mA : Str → Option Value} (I : ObjM h x dx C mA) : ∃ od, PySem.W.InstAt h x (PySem.W.instObj C dx) C (some od) ∧ ∀ name, PySem.W.lookIn name od = some (mA name) :=
  let ⟨od, ho, hl⟩ := lookIn_ns I.ns
  ⟨od, ⟨I.obj, rfl, rfl, ho⟩, hl⟩

section
variable {prog : Program} {w : World} {A : Around} {E : Value → Shared → Prop} {s : Shared} {K : PySem.W.Frag} {x dx C f : Addr} {mA : Str → Option Value} {name : Str} {v : Value}

theorem get_map {expr : Bool} {Q : Value → Shared → Prop} (X : K.In s.heap) (I : ObjM s.heap x dx C mA) (hg : PySem.W.plainGet K C name = true) (hh : PySem.W.hasDictIn K C = true)
    (ha : PySem.W.findIn K (.ref C) name = some none) (hv : mA name = some v) (hv' : PySem.W.handedIn v = true) (h : Q v { s with toks := s.toks + 1 }) :
    wpAny (model prog w) A (getAttr (.ref x) name expr) Q E s := by
  obtain ⟨od, J, hl⟩ := I.look
  exact PySem.W.get_value X J (PySem.W.plainGet_of hg).1 (PySem.W.findObj_own hh ha rfl (by rw [hl, hv])) hv' h


theorem get_meth {pl : Sem Bool} {Q : Value × List Value → Shared → Prop} (X : K.In s.heap) (I : ObjM s.heap x dx C mA) (hg : PySem.W.plainGet K C name = true)
    (hf : PySem.W.findIn K (.ref C) name = some (some (.ref f))) (ht : PySem.W.isFn K (.ref f) = true) (hv : mA name = none) (h : Q (.ref f, [.ref x]) s) :
    wpAny (model prog w) A (getMethod (.ref x) name pl) Q E s := by
  obtain ⟨od, J, hl⟩ := I.look
  exact PySem.W.method_fn X J (PySem.W.plainGet_of hg).1 (PySem.W.plainGet_of hg).2 hf (beq_iff_eq.mp ht) (by show (PySem.W.lookIn name od).map (·.isSome) = some false; rw [hl, hv]; rfl) h

theorem set_map {ns : List Str} {Q : Unit → Shared → Prop} (X : K.In s.heap) (I : ObjM s.heap x dx C mA)
    (hs : PySem.W.findIn K (.ref C) "__setattr__" = some (some (.builtin "object.__setattr__"))) (hp : PySem.W.plainOver K C = true) (ht : PySem.W.takerIn K C name = some none) (hh : PySem.W.hasDictIn K C = true)
    (hw : PySem.Within mA ns) (hsz : ns.length ≤ sizeLine)
    (h : ∀ h', ObjM h' x dx C (fun y => if y = name then some v else mA y) → Heap.SameBut dx s.heap h' → Q () { s with heap := h', toks := s.toks + 2 }) :
    wpAny (model prog w) A (setAttr (.ref x) name v) Q E s := by
  obtain ⟨od, J, hl⟩ := I.look
  refine PySem.W.set_plain X J hs (PySem.W.osa_open (s := { s with toks := s.toks + 1 }) (r := none) X J hp ht fun b => ?_)
  obtain ⟨cd, hc, hd'⟩ := PySem.W.any_some hh
  have hx : s.heap.get? x = some ⟨.ref C, some dx, .plain, #[]⟩ := I.obj
  refine wpAny_bind (wpAny_pure (wpAny_bind (wpAny_bind (wpAny_loadPart hx (wpAny_bind (PySem.W.Looks.here (s := { s with toks := s.toks + 1 }) (PySem.W.looks_clsIn X hc) ?_))))))
  rw [hd']
  refine wpAny_pure (a := some dx) (wpAny_bind (wpAny_pure (wpAny_bind ?_)))
  refine wpAny_nsSet1 (s := { s with toks := s.toks + 1 }) I.ns fun h' hn2 hs2 => ?_
  obtain ⟨oD, esD, epD, hoD, hdD, hcD⟩ := hn2.count (PySem.Within.cons name v hw)
  refine wpAny_bind (wpAny_lookBehind hoD (by rw [hdD]; exact pastItsLine_dict (Nat.le_trans hcD (by rw [List.length_cons]; omega))) ?_)
  exact wpAny_pure (h _ ⟨(hs2.2 _ (Ne.symm I.ne)).trans I.obj, hn2, I.ne⟩ hs2)

/-- C(..): the dict at the heap's end, the instance behind it; then its __init__ -/
theorem make_map {R : Result → Shared → Prop} {vs : List Value} {kw : List (Str × Value)} (X : K.In s.heap) (hm : PySem.W.makesIn K C = true)
    (hi : PySem.W.findIn K (.ref C) "__init__" = some (some (.ref f))) (hf : PySem.W.typeIn K (.ref f) = some (.type "function"))
    (h : codeAny (model prog w) (A.under (.builtin "type.__call__" ⟨.ref C :: vs, kw⟩)) (.call (.ref f) ⟨.ref (s.heap.objs.size + 1) :: vs, kw⟩) (PySem.W.InitBack (s.heap.objs.size + 1) R)
      { s with heap := (s.heap.push PySem.W.emptyDict).push (PySem.W.instObj C s.heap.objs.size) }) :
    codeAny (model prog w) A (.call (.ref C) ⟨vs, kw⟩) R s := by
  obtain ⟨hh, g, d, t, os⟩ := s
  exact PySem.W.make_core (PySem.W.makes_of X hm) (PySem.W.looks_findIn X hi) (fun self => PySem.W.bind_fn X self hf) (.inl rfl) h
end

/-! ### the attributes as a list of pairs -/
def putF (f : Str) (v : V) : List (Str × V) → List (Str × V)
  | [] => [(f, v)]
  | (g, x) :: r => if g = f then (g, v) :: r else (g, x) :: putF f v r
theorem lookup_putF (f g : Str) (v : V) : ∀ fs : List (Str × V), (putF f v fs).lookup g = if g = f then some v else fs.lookup g
  | [] => by
    show List.lookup g [(f, v)] = _
    by_cases h : g = f
    · have hb : (g == f) = true := beq_iff_eq.mpr h
      simp only [List.lookup, hb, if_pos h]
    · have hb : (g == f) = false := beq_eq_false_iff_ne.mpr h
      simp only [List.lookup, hb, if_neg h]
  | (k, x) :: r => by
    have ih := lookup_putF f g v r
    rw [show putF f v ((k, x) :: r) = (if k = f then (k, v) :: r else (k, x) :: putF f v r) from rfl]
    by_cases hk : k = f
    · rw [if_pos hk]
      by_cases h : g = k
      · have hb : (g == k) = true := beq_iff_eq.mpr h
        simp only [List.lookup, hb, if_pos (h.trans hk)]
      · have hb : (g == k) = false := beq_eq_false_iff_ne.mpr h
        simp only [List.lookup, hb, if_neg (fun e : g = f => h (e.trans hk.symm))]
    · rw [if_neg hk]
      by_cases h : g = k
      · have hb : (g == k) = true := beq_iff_eq.mpr h
        simp only [List.lookup, hb, if_neg (fun e : g = f => hk (h.symm.trans e))]
      · have hb : (g == k) = false := beq_eq_false_iff_ne.mpr h
        simp only [List.lookup, hb]
        exact ih
theorem keys_putF (f : Str) (v : V) : ∀ fs : List (Str × V), f ∈ (putF f v fs).map (·.1) ∧ ∀ g, g ∈ fs.map (·.1) → g ∈ (putF f v fs).map (·.1)
  | [] => ⟨by simp [putF], fun g h => by simp at h⟩
  | (k, x) :: r => by
    obtain ⟨i1, i2⟩ := keys_putF f v r
    rw [show putF f v ((k, x) :: r) = (if k = f then (k, v) :: r else (k, x) :: putF f v r) from rfl]
    by_cases hk : k = f
    · rw [if_pos hk]
      subst hk
      exact ⟨by simp, fun g h => by simpa using h⟩
    · rw [if_neg hk]
      refine ⟨?_, fun g h => ?_⟩
      · rw [List.map_cons]
        exact List.mem_cons_of_mem _ i1
      · rw [List.map_cons] at h ⊢
        rcases List.mem_cons.mp h with e | e
        · exact List.mem_cons.mpr (.inl e)
        · exact List.mem_cons_of_mem _ (i2 g e)
theorem length_putF (f : Str) (v : V) : ∀ fs : List (Str × V), (putF f v fs).length ≤ fs.length + 1
  | [] => by simp [putF]
  | (k, x) :: r => by
    have ih := length_putF f v r
    rw [show putF f v ((k, x) :: r) = (if k = f then (k, v) :: r else (k, x) :: putF f v r) from rfl]
    by_cases hk : k = f
    · rw [if_pos hk, List.length_cons, List.length_cons]; omega
    · rw [if_neg hk, List.length_cons, List.length_cons]; omega

theorem RelO.some_of {v : V} {o : Option Value} (r : RelO (some v) o) : ∃ u, o = some u ∧ RelV v u := by
  cases o with
  | none => exact (show False from r).elim
  | some u => exact ⟨u, rfl, r⟩
theorem RelO.none_of {o : Option Value} (r : RelO none o) : o = none := by
  cases o with
  | none => rfl
  | some u => exact (show False from r).elim
theorem handed_of {v : V} {u : Value} (r : RelV v u) : PySem.W.handedIn u = true := by
  cases v with
  | non => cases (show u = Value.none from r); rfl
  | bl b => cases (show u = Value.bool b from r); rfl
  | int i => obtain ⟨t, e⟩ := (show ∃ t, u = Value.int i t from r); cases e; rfl
  | str x => obtain ⟨t, e⟩ := (show ∃ t, u = Value.str x t from r); cases e; rfl
  | byt b => obtain ⟨t, e⟩ := (show ∃ t, u = Value.bytes b t from r); cases e; rfl
  | flt b => obtain ⟨t, e⟩ := (show ∃ t, u = Value.float b t from r); cases e; rfl
  | ref a => cases (show u = Value.ref a from r); rfl
  | ty n => cases (show u = Value.type n from r); rfl

section
variable {P : Program} {w : World} {H H' : Hp} {h h' : Heap} {a C dx : Addr} {fs fs' : List (Str × V)}
theorem ins_get (hok : HOk P w H h) (e : H a = some (.ins C dx fs)) : ∃ mA, ObjM h a dx C mA ∧ (∀ f, RelO (fs.lookup f) (mA f)) ∧ PySem.Within mA (fs.map (·.1)) ∧ fs.length ≤ 1000 ∧ H dx = some (.own a) := by
  obtain ⟨d, z, ne, ob, mA, n, r, q⟩ := (show ObjOk P w H h a (.ins C dx fs) from hok a _ e)
  exact ⟨mA, ⟨ob, n, ne⟩, r, q, z, d⟩
end

/-! ### what of the text a class must have -/
structure Cls (K : PySem.W.Frag) (C : Addr) : Prop where
  pg : PySem.W.plainGet K C Str.empty = true
  hd : PySem.W.hasDictIn K C = true
  po : PySem.W.plainOver K C = true
  sa : PySem.W.findIn K (.ref C) "__setattr__" = some (some (.builtin "object.__setattr__"))
theorem Cls.get {K : PySem.W.Frag} {C : Addr} (c : Cls K C) (f : Str) : PySem.W.plainGet K C f = true := c.pg
/-- no class of it has the name -/
def NoAttr (K : PySem.W.Frag) (C : Addr) (f : Str) : Prop := PySem.W.findIn K (.ref C) f = some none
theorem NoAttr.taker {K : PySem.W.Frag} {C : Addr} {f : Str} (n : NoAttr K C f) : PySem.W.takerIn K C f = some none := by
  unfold PySem.W.takerIn
  rw [show PySem.W.findIn K (.ref C) f = some none from n]
  rfl
/-- a constant of the class -/
structure Con (K : PySem.W.Frag) (C : Addr) (f : Str) (v : V) (u : Value) : Prop where
  at_ : PySem.W.findIn K (.ref C) f = some (some u)
  rel : RelV v u
  get : PySem.W.specialIn K u "__get__" = some none
  cp : PySem.W.copiedNames.contains f = false
/-- a method: a plain def of the class or of one above it -/
structure Meth (K : PySem.W.Frag) (C : Addr) (m : Str) (f : Addr) : Prop where
  at_ : PySem.W.findIn K (.ref C) m = some (some (.ref f))
  fn : PySem.W.isFn K (.ref f) = true
  kp : PySem.W.keepIn K (.ref f) = true

section
variable {X : Cx} {pins : List (Addr × Obj)} {σ : St} {H : Hp} {s : Shared} {a C dx : Addr} {fs : List (Str × V)} {f : Str} {v : V} {A : Around} {E : Value → Shared → Prop}

theorem getattr_ok {b : Bool} {Q : Value → Shared → Prop} (I : Inv X pins σ H s) (e : H a = some (.ins C dx fs)) (c : Cls X.K C) (n : NoAttr X.K C f) (l : fs.lookup f = some v)
    (h : ∀ u s', Inv X pins σ H s' → RelV v u → Q u s') : wpAny (model X.prog X.w) A (getAttr (.ref a) f b) Q E s := by
  obtain ⟨mA, O, r, _, _, _⟩ := ins_get I.hok e
  obtain ⟨u, hu, ru⟩ := RelO.some_of (v := v) (o := mA f) (by rw [← l]; exact r f)
  exact get_map I.kIn O (c.get f) c.hd n hu (handed_of ru) (h u _ (I.tok _) ru)


theorem getmeth_ok {m : Str} {g : Addr} {pl : Sem Bool} {Q : Value × List Value → Shared → Prop} (I : Inv X pins σ H s) (e : H a = some (.ins C dx fs)) (c : Cls X.K C) (k : Meth X.K C m g) (l : fs.lookup m = none)
    (h : Q (.ref g, [.ref a]) s) : wpAny (model X.prog X.w) A (getMethod (.ref a) m pl) Q E s := by
  obtain ⟨mA, O, r, _, _, _⟩ := ins_get I.hok e
  have hn : mA m = none := RelO.none_of (by rw [← l]; exact r m)
  exact get_meth I.kIn O (c.get m) k.at_ k.fn hn h

theorem setattr_ok {y : V} {u : Value} {Q : Unit → Shared → Prop} (I : Inv X pins σ H s) (e : H a = some (.ins C dx fs)) (c : Cls X.K C) (n : NoAttr X.K C f) (hl : fs.length < 1000) (ry : RelV y u)
    (h : ∀ s', Inv X pins σ (upd H a (.ins C dx (putF f y fs))) s' → Q () s') : wpAny (model X.prog X.w) A (setAttr (.ref a) f u) Q E s := by
  obtain ⟨mA, O, r, wi, _, ho⟩ := ins_get I.hok e
  have hz : (fs.map (·.1)).length ≤ sizeLine := by rw [List.length_map, sizeLine_eq]; omega
  refine set_map I.kIn O c.sa c.po n.taker c.hd wi hz fun h' O' sb => h _ ?_
  have hd : ∃ o, h'.get? dx = some o := let ⟨o, _, _, e', _⟩ := O'.ns; ⟨o, e'⟩
  refine I.write (x := a) (e := dx) (by rw [e]; exact True.intro) (.inr ho) (fun b q hb z => (sb.2 b hb).trans z) hd ?_
  refine ⟨by rw [upd_ne O.ne]; exact ho, ?_, O.ne, O'.obj, _, O'.ns, fun g => ?_, fun g hg => ?_⟩
  · have := length_putF f y fs; omega
  · show RelO ((putF f y fs).lookup g) (if g = f then some u else mA g)
    rw [lookup_putF]
    by_cases q : g = f
    · rw [if_pos q, if_pos q]; exact ry
    · rw [if_neg q, if_neg q]; exact r g
  · by_cases q : g = f
    · rw [q]; exact (keys_putF f y fs).1
    · refine (keys_putF f y fs).2 g (wi g fun z => hg ?_)
      show (if g = f then some u else mA g) = none
      rw [if_neg q]; exact z

/-- a new instance, tracked, without attributes -/
theorem Inv.made (I : Inv X pins σ H s) : Inv X pins σ (upd (upd H s.heap.objs.size (.own (s.heap.objs.size + 1))) (s.heap.objs.size + 1) (.ins C s.heap.objs.size []))
    { s with heap := (s.heap.push PySem.W.emptyDict).push (PySem.W.instObj C s.heap.objs.size) } := by
  have e1 : (s.heap.push PySem.W.emptyDict).get? s.heap.objs.size = some PySem.W.emptyDict := Heap.get?_push_size s.heap rfl
  have e2 : ((s.heap.push PySem.W.emptyDict).push (PySem.W.instObj C s.heap.objs.size)).get? (s.heap.objs.size + 1) = some (PySem.W.instObj C s.heap.objs.size) := by
    have := Heap.get?_push_size (s.heap.push PySem.W.emptyDict) (o := PySem.W.instObj C s.heap.objs.size) rfl
    rwa [Heap.size_push] at this
  have e3 : (s.heap.push PySem.W.emptyDict).Ns s.heap.objs.size (fun _ => none) := ⟨PySem.W.emptyDict, #[], _, e1, rfl, (fun e he => absurd he (by simp)), fun _ => rfl⟩
  have I1 := I.laid (a := s.heap.objs.size) (o := .own (s.heap.objs.size + 1)) (h' := s.heap.push PySem.W.emptyDict) (t' := s.toks) (fun b u q => Heap.get?_push_of_some _ q) (Nat.le_refl _) ⟨_, e1⟩
  refine I1.laid (a := s.heap.objs.size + 1) (o := .ins C s.heap.objs.size []) (t' := s.toks) (fun b u q => Heap.get?_push_of_some _ q) (Nat.le_of_eq (Heap.size_push _ _)) ?_
  have ne : s.heap.objs.size ≠ s.heap.objs.size + 1 := Nat.ne_of_lt (Nat.lt_succ_self _)
  refine ⟨by rw [upd_ne ne, upd_same], Nat.zero_le _, ne, e2, fun _ => none, (Heap.Ns1.of_empty e3).at fun o q => Heap.get?_push_of_some _ q, fun _ => True.intro, fun y hy => absurd rfl hy⟩

/-- e.f where nothing but the object is asked: through attributeBase (super) and the last hold -/
theorem attr_of {prog : Program} {w : World} {env : Env} {e : Expr} {f : Str} {pos : Pos} {s : Shared} {Q : Value → Shared → Prop} (hb : attributeBase e f env (eval e env) = eval e env)
    (h : wpAny (model prog w) A (eval e env) (fun o s₁ => wpAny (model prog w) A (getAttr o f true) Q E s₁) E s) : wpAny (model prog w) A (eval (.Attribute e f pos) env) Q E s :=
  Attribute_any_ h (by rw [arm_eval_Attribute, hb])
end

/-! ### readings and rules -/
/-- e.f, an attribute of the instance -/
def tFld (K : PySem.W.Frag) (ta : TE) (f : Str) : TE := fun σ H Q => ta σ H fun x H1 => ∃ a C dx fs v, x = .ref a ∧ H1 a = some (.ins C dx fs) ∧ Cls K C ∧ NoAttr K C f ∧ fs.lookup f = some v ∧ Q v H1
/-- e.f, a constant of the class -/
def tCon (K : PySem.W.Frag) (ta : TE) (f : Str) : TE := fun σ H Q => ta σ H fun x H1 => ∃ a C dx fs v u, x = .ref a ∧ H1 a = some (.ins C dx fs) ∧ Cls K C ∧ Con K C f v u ∧ fs.lookup f = none ∧ Q v H1
/-- e.f = value -/
def sFld (K : PySem.W.Frag) (ta tv : TE) (f : Str) : TS := fun D σ H => tv σ H fun y H1 => ta σ H1 fun x H2 => ∃ a C dx fs, x = .ref a ∧ H2 a = some (.ins C dx fs) ∧ Cls K C ∧ NoAttr K C f ∧ fs.length < 1000 ∧
  D.nx σ (upd H2 a (.ins C dx (putF f y fs)))
/-- an augmented operator on two values -/
def InOp (X : Cx) (op : Operator) (rd : V → V → Hp → VK → Prop) : Prop :=
  ∀ (pins : List (Addr × Obj)) (s : Shared) (σ : St) (H : Hp) (x y : V) (u v : Value) (Q : VK), Inv X pins σ H s → RelV x u → RelV y v → rd x y H Q → wpAny (model X.prog X.w) X.A (inplaceOp op u v) (EP X pins σ Q) X.xe s
/-- e.f op= value -/
def sFldAug (K : PySem.W.Frag) (ta tv : TE) (rd : V → V → Hp → VK → Prop) (f : Str) : TS := fun D σ H => ta σ H fun x H1 => ∃ a C dx fs v, x = .ref a ∧ H1 a = some (.ins C dx fs) ∧ Cls K C ∧ NoAttr K C f ∧ fs.lookup f = some v ∧
  tv σ H1 fun y H2 => rd v y H2 fun z H3 => ∃ dx' fs', H3 a = some (.ins C dx' fs') ∧ fs'.length < 1000 ∧ D.nx σ (upd H3 a (.ins C dx' (putF f z fs')))

section
variable {X : Cx} {o e value : Expr} {f : Str} {pos pos' tpos : Pos} {ta tv : TE}
theorem pe_fld (he : PE X e ta) (hb : attributeBase e f X.env (eval e X.env) = eval e X.env) : PE X (.Attribute e f pos) (tFld X.K ta f) := by
  intro pins s σ H Q I h
  refine attr_of hb (thn (he pins s σ H _ I h) fun u s1 ⟨x, H1, I1, rx, a, C, dx, fs, v, ex, ea, c, n, l, q⟩ => ?_)
  subst ex
  obtain rfl : u = Value.ref a := rx
  exact getattr_ok I1 ea c n l fun u' s2 I2 ru => ⟨v, H1, I2, ru, q⟩
theorem ps_fld (ha : PE X o ta) (hv : PE X value tv) (hs : swapsWith value (some (.Attribute o f pos')) pos.line X.env = pure false) : PS X (.Assign [.Attribute o f pos'] value pos) (sFld X.K ta tv f) := by
  intro pins s σ H D I h
  refine plainObj_wpAny_Assign_Attribute (thn (hv pins s σ H _ I h) fun u s1 ⟨y, H1, I1, ry, q⟩ => thn (ha pins s1 σ H1 _ I1 q) fun ov s2 ⟨x, H2, I2, rx, a, C, dx, fs, ex, ea, c, n, l, q2⟩ => ?_) hs
  subst ex
  obtain rfl : ov = Value.ref a := rx
  exact setattr_ok I2 ea c n l ry fun s3 I3 => ⟨σ, _, I3, q2⟩
def rAdd : V → V → Hp → VK → Prop := fun x y H Q => ∃ i j, x = .int i ∧ y = .int j ∧ Q (.int (i + j)) H
def rSub : V → V → Hp → VK → Prop := fun x y H Q => ∃ i j, x = .int i ∧ y = .int j ∧ Q (.int (i - j)) H

end

/-! ### isinstance -/
section
variable {X : Cx} {pins : List (Addr × Obj)} {σ : St} {H : Hp} {s : Shared} {A : Around} {E : Value → Shared → Prop} {Q : Value → Shared → Prop} {c : Value} {b : Bool}
/-- the type of a value, as the fragment's deciders take it; for an instance its class -/
inductive TyOf (K : PySem.W.Frag) (H : Hp) : V → Value → Prop where
  | non : TyOf K H .non (.type "NoneType")
  | bl (x : Bool) : TyOf K H (.bl x) (.type "bool")
  | int (i : Int) : TyOf K H (.int i) (.type "int")
  | str (x : Str) : TyOf K H (.str x) (.type "str")
  | flt (x : UInt64) : TyOf K H (.flt x) (.type "float")
  | lst {a : Addr} {xs : List V} (e : H a = some (.lst xs)) : TyOf K H (.ref a) (.type "list")
  | frz {a : Addr} {o : Obj} {xs : List V} (e : H a = some (.frz o (.lst xs))) : TyOf K H (.ref a) (.type "list")
  | tup {a : Addr} {xs : List V} (e : H a = some (.tup xs)) : TyOf K H (.ref a) (.type "tuple")
  | dK {a : Addr} {kvs : List (Key × V)} (e : H a = some (.dK kvs)) : TyOf K H (.ref a) (.type "dict")
  | dT {a : Addr} {kvs : List (List Key × V)} (e : H a = some (.dT kvs)) : TyOf K H (.ref a) (.type "dict")
  | ins {a C dx : Addr} {fs : List (Str × V)} (e : H a = some (.ins C dx fs)) (cl : Cls K C) (ha : PySem.W.findIn K (.ref C) "__class__" = some (some (.builtin "object.__class__")))
      (hn : PySem.W.specialIn K (.builtin "object.__class__") "__get__" = some (some (.builtin "getset_descriptor.__get__"))) (htk : PySem.W.takesIn K (.builtin "object.__class__") = some true)
      (hm : PySem.W.mroIn K C (.type "object") = some true) : TyOf K H (.ref a) (.ref C)
/-- isinstance(x, c) for one class c, a built-in or an own one: kitOne's answer -/
theorem isinst_ok {x : V} {u t : Value} (I : Inv X pins σ H s) (rx : RelV x u) (ty : TyOf X.K H x t) (e : PySem.W.kitOne X.K t c = some b) (h : ∀ tk, Q (.bool b) { s with toks := tk }) :
    wpAny (model X.prog X.w) A (call (.builtin "isinstance") [u, c]) Q E s := by
  cases ty with
  | non => cases (show u = Value.none from rx); exact PySem.W.kia_one PySem.W.kitx_none I.kIn True.intro e (fun z => nomatch z) h
  | bl y => cases (show u = Value.bool y from rx); exact PySem.W.kia_one PySem.W.kitx_bool I.kIn True.intro e (fun z => nomatch z) h
  | int i => obtain ⟨t, q⟩ := (show ∃ t, u = Value.int i t from rx); cases q; exact PySem.W.kia_one PySem.W.kitx_int I.kIn True.intro e (fun z => nomatch z) h
  | str y => obtain ⟨t, q⟩ := (show ∃ t, u = Value.str y t from rx); cases q; exact PySem.W.kia_one PySem.W.kitx_str I.kIn True.intro e (fun z => nomatch z) h
  | flt y => obtain ⟨t, q⟩ := (show ∃ t, u = Value.float y t from rx); cases q; exact PySem.W.kia_one PySem.W.kitx_float I.kIn True.intro e (fun z => nomatch z) h
  | @lst a xs ea =>
    cases (show u = Value.ref a from rx)
    obtain ⟨_, _, n, _, h1⟩ := (show ObjOk X.prog X.w H s.heap a (.lst xs) from I.hok a _ ea)
    exact PySem.W.kia_one PySem.W.kitx_list I.kIn ⟨_, h1, rfl⟩ e (fun z => nomatch z) h
  | @frz a ob xs ea =>
    cases (show u = Value.ref a from rx)
    obtain ⟨_, _, _, n, _, h1⟩ := (show ObjOk X.prog X.w H s.heap a (.frz ob (.lst xs)) from I.hok a _ ea)
    exact PySem.W.kia_one PySem.W.kitx_list I.kIn ⟨_, h1, rfl⟩ e (fun z => nomatch z) h
  | @tup a xs ea =>
    cases (show u = Value.ref a from rx)
    obtain ⟨_, _, _, p⟩ := (show ObjOk X.prog X.w H s.heap a (.tup xs) from I.hok a _ ea)
    obtain ⟨o, h1, h2, _⟩ := p
    exact PySem.W.kia_one PySem.W.kitx_tuple I.kIn ⟨o, h1, h2⟩ e (fun z => nomatch z) h
  | @dK a kvs ea =>
    cases (show u = Value.ref a from rx)
    obtain ⟨_, _, vs, _, p⟩ := (show ObjOk X.prog X.w H s.heap a (.dK kvs) from I.hok a _ ea)
    obtain ⟨o, es, ep, h1, h2, _⟩ := p
    exact PySem.W.kia_one PySem.W.kitx_dict I.kIn ⟨o, h1, h2.1⟩ e (fun z => nomatch z) h
  | @dT a kvs ea =>
    cases (show u = Value.ref a from rx)
    obtain ⟨_, _, xs, _, o, es, ep, h1, h2, _⟩ := (show ObjOk X.prog X.w H s.heap a (.dT kvs) from I.hok a _ ea)
    exact PySem.W.kia_one PySem.W.kitx_dict I.kIn ⟨o, h1, h2.1⟩ e (fun z => nomatch z) h
  | @ins a C dx fs ea cl ha hn htk hm =>
    cases (show u = Value.ref a from rx)
    obtain ⟨mA, O, _⟩ := ins_get I.hok ea
    obtain ⟨od, J, _⟩ := O.look
    exact PySem.W.kia_one (PySem.W.kitx_own (cl.get _) cl.hd ha hn htk hm) I.kIn J e (fun z => nomatch z) h
end
end L2

namespace L2
open PySem PySem.Spec PyProof.Rows

/-! ### room -/
structure Room (k : Nat) (A : Around) : Prop where
  hd : A.handled = none
  dp : A.depth + 3 * k + 5 < recursionLimit
  un : A.units + 16 * k + 200 < cLine
theorem Room.mono {j k : Nat} {A : Around} (r : Room k A) (h : j ≤ k) : Room j A := ⟨r.hd, by have := r.dp; omega, by have := r.un; omega⟩
theorem Room.deeper {k : Nat} {A : Around} (r : Room (k + 1) A) (env : Env) : Room k (A.deeper env) :=
  ⟨r.hd, by have := r.dp; show A.depth + 1 + 3 * k + 5 < _; omega, by have := r.un; show A.units + 3 + 16 * k + 200 < _; omega⟩
theorem make_depth {A : Around} {C : Addr} {us : List Value} {kw : List (Str × Value)} : (A.under (.builtin "type.__call__" ⟨.ref C :: us, kw⟩)).depth = A.depth + 1 := by
  first | rfl | simp [Around.under, Code.weight, Code.isCreation, Code.isGuard, Code.isCaller, Code.frames, Code.isFrame, guardIds]
theorem make_units {A : Around} {C : Addr} {us : List Value} {kw : List (Str × Value)} : (A.under (.builtin "type.__call__" ⟨.ref C :: us, kw⟩)).units = A.units + 1 := by
  first | rfl | simp [Around.under, Code.cUnits, Code.frames, Code.isFrame]
theorem Room.make {k : Nat} {A : Around} (r : Room (k + 1) A) (C : Addr) (us : List Value) (kw : List (Str × Value)) : Room k (A.under (.builtin "type.__call__" ⟨.ref C :: us, kw⟩)) :=
  ⟨r.hd, by have := r.dp; rw [make_depth]; omega, by have := r.un; rw [make_units]; omega⟩
theorem Room.depth {k : Nat} {A : Around} (r : Room k A) : A.depth < recursionLimit := by have := r.dp; omega
theorem Room.units {k : Nat} {A : Around} (r : Room k A) : A.units + 64 < cLine := by have := r.un; omega

/-! ### argument lists and displays -/
def tNil : TA := fun _ H Q => Q [] H
def tCons (ta : TE) (tr : TA) : TA := fun σ H Q => ta σ H fun x H1 => tr σ H1 fun xs H2 => Q (x :: xs) H2
section
variable {X : Cx} {e : Expr} {es : List Expr} {te : TE} {t : TA} {pos : Pos}
theorem pa_nil : PA X [] tNil := fun _ _ _ _ H Q I h => Calls.spliced_nil ⟨[], H, I, .nil, h⟩
theorem pa_cons (ha : PE X e te) (hr : PA X es t) (hs : starEach (e :: es) X.env = (false, eval e X.env) :: starEach es X.env := by rfl) : PA X (e :: es) (tCons te t) := by
  intro pos pins s σ H Q I h
  rw [hs]
  show wpAny _ _ (spliced ((false, eval e X.env) :: backTo pos (starEach es X.env))) _ _ s
  refine Calls.spliced_cons (thn (ha pins s σ H _ I h) fun u s1 ⟨x, H1, I1, r1, q1⟩ => ?_)
  exact thn (hr pos pins s1 σ H1 _ I1 q1) fun us s2 ⟨xs, H2, I2, r2, q2⟩ => ⟨x :: xs, H2, I2, .cons r1 r2, q2⟩

/-- a tuple, a list of written items -/
def tTup (t : TA) : TE := fun σ H Q => t σ H fun xs H1 => xs.length ≤ sizeLine ∧ ∀ p, H1 p = none → Q (.ref p) (upd H1 p (.tup xs))
def tLst (t : TA) : TE := fun σ H Q => t σ H fun xs H1 => xs.length ≤ sizeLine ∧ ∀ p, H1 p = none → Q (.ref p) (upd H1 p (.lst xs))
theorem pe_tup {x1} (h : PA X es t) : PE X (.Tuple es x1 pos) (tTup t) := by
  intro pins s σ H Q I hq
  refine wpAny_Tuple_spliced (thn (h pos pins s σ H _ I hq) fun us s1 ⟨xs, H1, I1, r, z, q⟩ => ⟨by rw [← r.length]; exact z, ?_⟩)
  have hf : H1 s1.heap.objs.size = none := I1.hok.fresh (Nat.le_refl _)
  refine ⟨.ref s1.heap.objs.size, upd H1 s1.heap.objs.size (.tup xs), I1.laid (t' := s1.toks) (fun b u e => Heap.get?_push_of_some _ e) (Nat.le_refl _) ?_, rfl, q _ hf⟩
  exact ⟨z, us, r, ⟨_, Heap.get?_push_size _ rfl, rfl, _, rfl⟩⟩
theorem pe_lst (h : PA X es t) : PE X (.List es pos) (tLst t) := by
  intro pins s σ H Q I hq
  refine wpAny_List_spliced (thn (h pos pins s σ H _ I hq) fun us s1 ⟨xs, H1, I1, r, z, q⟩ => ⟨by rw [← r.length]; exact z, ?_⟩)
  have hf : H1 s1.heap.objs.size = none := I1.hok.fresh (Nat.le_refl _)
  refine ⟨.ref s1.heap.objs.size, upd H1 s1.heap.objs.size (.lst xs), I1.laid (t' := s1.toks) (fun b u e => Heap.get?_push_of_some _ e) (Nat.le_refl _) ?_, rfl, q _ hf⟩
  exact ⟨z, us, 0, r, Heap.get?_push_size _ rfl⟩
end

/-! ### what a def promises -/
/-- a def's promise: the bound arguments in the parameters' order, the heap, the wanted end, the wanted exception -/
abbrev Sp := List V → Hp → VK → XK → Prop
/-- how an exception lies behind a call (file 08 gives it): the callers' frames, abstract heap and state ahead of the call, the wish, the exception, the state -/
abbrev CXT := List Env → Hp → Shared → XK → Value → Shared → Prop

/-- the state at a call -/
structure Env0 (P : Program) (w : World) (K : PySem.W.Frag) (mg : Str → Option Value) (base : Heap) (A : Around) (outer : List Env) (s : Shared) (H : Hp) : Prop where
  frames : A.frames = some outer
  mod : Mod K mg base
  bs : ∀ b o, base.get? b = some o → s.heap.get? b = some o ∧ H b = none
  bsz : base.objs.size ≤ s.heap.objs.size
  funs : s.heap.FunFrames base outer
  frf : ∀ b ∈ frs outer, H b = none
  hok : HOk P w H s.heap
  bare : AllBare s.gens
/-- a call's end -/
def CE (outer : List Env) (P : Program) (w : World) (H : Hp) (s : Shared) (Q : VK) (u : Value) (s' : Shared) : Prop :=
  ∃ v H', s'.os = s.os ∧ AllBare s'.gens ∧ Un (frs outer) [] H H' s.heap s'.heap ∧ HOk P w H' s'.heap ∧ RelV v u ∧ Q v H'
def CR (CX : CXT) (outer : List Env) (P : Program) (w : World) (H : Hp) (s : Shared) (Q : VK) (E : XK) (r : Result) (s' : Shared) : Prop :=
  match r with
  | .ok (.ret u) => CE outer P w H s Q u s'
  | .ok _ => False
  | .error e => CX outer H s E e s'
structure FnOk (P : Program) (w : World) (K : PySem.W.Frag) (mg : Str → Option Value) (base : Heap) (CX : CXT) (k : Nat) (f : Addr) (fd : FuncData) (ps : List Str) (sp : Sp) : Prop where
  len : ∀ vs H Q E, sp vs H Q E → vs.length = ps.length
  run : ∀ (A : Around) (outer : List Env) (s : Shared) (H : Hp) (args : Args) (us : List Value) (vs : List V) (Q : VK) (E : XK), Room k A → Env0 P w K mg base A outer s H → BindsTo s fd args (ps.zip us) → Vals vs us → sp vs H Q E →
    codeAny (model P w) A (.call (.ref f) args) (CR CX outer P w H s Q E) s
/-- a weaker promise -/
theorem FnOk.imp {P : Program} {w : World} {K : PySem.W.Frag} {mg : Str → Option Value} {base : Heap} {CX : CXT} {k : Nat} {f : Addr} {fd : FuncData} {ps : List Str} {sp sp' : Sp} (F : FnOk P w K mg base CX k f fd ps sp)
    (h : ∀ vs H Q E, sp' vs H Q E → sp vs H Q E) : FnOk P w K mg base CX k f fd ps sp' :=
  ⟨fun vs H Q E q => F.len vs H Q E (h _ _ _ _ q), fun A outer s H args us vs Q E hr he hb hv hs => F.run A outer s H args us vs Q E hr he hb hv (h _ _ _ _ hs)⟩

theorem Env0.make {P : Program} {w : World} {K : PySem.W.Frag} {mg : Str → Option Value} {base : Heap} {A : Around} {outer : List Env} {s : Shared} {H : Hp} (e : Env0 P w K mg base A outer s H) (C : Addr) (us : List Value) (kw : List (Str × Value)) :
    Env0 P w K mg base (A.under (.builtin "type.__call__" ⟨.ref C :: us, kw⟩)) outer s H := ⟨by first | exact e.frames | (simpa [Around.under, Code.envs, Code.isFrame, pushEnvs] using e.frames), e.mod, e.bs, e.bsz, e.funs, e.frf, e.hok, e.bare⟩

section
variable {X : Cx} {pins : List (Addr × Obj)} {σ : St} {H : Hp} {s s' : Shared}
/-- from a body: what a callee wants -/
theorem Inv.env0 (I : Inv X pins σ H s) : Env0 X.prog X.w X.K X.mg X.base X.A X.stack s H :=
  ⟨I.ok.frames, I.ok.mod, I.bs, Nat.le_trans I.ok.bsz I.sz, I.stack, I.stkFree, I.hok, I.bare⟩
/-- behind a call -/
theorem Inv.after {Q : VK} {u : Value} (I : Inv X pins σ H s) (h : CE X.stack X.prog X.w H s Q u s') : EP X pins σ Q u s' := by
  obtain ⟨v, H', os, bare, un, hok, r, q⟩ := h
  obtain ⟨hh, g, d, t, os'⟩ := s'
  obtain rfl : os' = s.os := os
  exact ⟨v, H', I.call (h' := hh) (g' := g) (d' := d) (t' := t) (ch := []) un hok bare (fun b z => absurd z (by simp)), r, q⟩
end

/-! ### calls -/
/-- f(..): the written arguments, then the defaults dvs; E: what is wanted of an exception -/
def tCall (sp : Sp) (dvs : List V) (E : XK) (t : TA) : TE := fun σ H Q => t σ H fun vs H1 => sp (vs ++ dvs) H1 Q E
/-- o.m(..) of an instance of the class at C -/
def tMeth (C : Addr) (m : Str) (sp : Sp) (dvs : List V) (E : XK) (ta : TE) (t : TA) : TE := fun σ H Q => ta σ H fun x H1 => ∃ a dx fs, x = .ref a ∧ H1 a = some (.ins C dx fs) ∧ fs.lookup m = none ∧
  t σ H1 fun vs H2 => sp (x :: (vs ++ dvs)) H2 Q E
/-- C(..): a new instance and its dict, then __init__ -/
def tMake (C : Addr) (sp : Sp) (dvs : List V) (E : XK) (t : TA) : TE := fun σ H Q => t σ H fun vs H1 => ∀ x dx, H1 x = none → H1 dx = none → dx ≠ x →
  sp (.ref x :: (vs ++ dvs)) (upd (upd H1 dx (.own x)) x (.ins C dx [])) (fun v H2 => v = .non ∧ Q (.ref x) H2) E

/-- how the parameters are bound: us the positional arguments, kw the keywords' values by name, ds the defaults that fill up -/
def Binds (K : PySem.W.Frag) (fd : FuncData) (ps : List Str) (ds : List Value) : Prop :=
  ∀ (s : Shared) (us : List Value), K.In s.heap → (us ++ ds).length = ps.length → BindsTo s fd ⟨us, []⟩ (ps.zip (us ++ ds))
/-- every parameter is given -/
theorem Binds.all {K : PySem.W.Frag} {fd : FuncData} {ps : List Str} (h : ∀ us : List Value, us.length = ps.length → bindArgs fd ⟨us, []⟩ = pure (ps.zip us)) : Binds K fd ps [] := fun s us _ hl => by
  rw [List.append_nil] at hl ⊢
  exact .of_eq (h us hl)

/-- an exception of a callee reaches what this body wants of exceptions -/
def Passes (CX : CXT) (X : Cx) (E : XK) : Prop := ∀ (pins : List (Addr × Obj)) (σ : St) (H : Hp) (s : Shared) (e : Value) (s' : Shared), Inv X pins σ H s → CX X.stack H s E e s' → X.xe e s'

section
variable {X : Cx} {CX : CXT} {k : Nat} {f C : Addr} {fd : FuncData} {ps : List Str} {sp : Sp} {dvs : List V} {ds : List Value} {E : XK} {x m : Str} {p pos apos : Pos} {e o : Expr} {es : List Expr} {ta : TE} {t : TA}

/-- the callee runs -/
theorem run_fn {pins : List (Addr × Obj)} {σ : St} {H : Hp} {s : Shared} {Q : VK} {us : List Value} {vs : List V} (F : FnOk X.prog X.w X.K X.mg X.base CX k f fd ps sp) (hr : Room k X.A) (hb : Binds X.K fd ps ds) (hd : Vals dvs ds) (hx : Passes CX X E)
    (I : Inv X pins σ H s) (r : Vals vs us) (h : sp (vs ++ dvs) H Q E) : wpAny (model X.prog X.w) X.A (call (.ref f) us) (EP X pins σ Q) X.xe s := by
  have r2 : Vals (vs ++ dvs) (us ++ ds) := r.append hd
  have hl : (us ++ ds).length = ps.length := by rw [← r2.length]; exact F.len _ _ _ _ h
  refine wpAny_call (codeAny_mono (F.run X.A X.stack s H ⟨us, []⟩ (us ++ ds) (vs ++ dvs) Q E hr I.env0 (hb s us I.kIn hl) r2 h) fun r s' hq => ?_)
  cases r with
  | error e => exact hx pins σ H s e s' I hq
  | ok fl =>
    cases fl with
    | ret u => exact I.after hq
    | next => exact False.elim hq
    | brk => exact False.elim hq
    | cont => exact False.elim hq

theorem pe_call (F : FnOk X.prog X.w X.K X.mg X.base CX k f fd ps sp) (hr : Room k X.A) (hg : Gl X x) (hm : X.mg x = some (.ref f)) (hk : PySem.W.keepIn X.K (.ref f) = true) (hb : Binds X.K fd ps ds) (hd : Vals dvs ds) (hx : Passes CX X E)
    (ha : PA X (e :: es) t) (hdb : (x == ("__debug__" : Str)) = false := by decide) (he : starEach (e :: es) X.env = (false, eval e X.env) :: starEach es X.env := by rfl) (hpl : (backTo pos (starEach es X.env)).any (·.1) = false := by rfl) :
    PE X (.Call (.Name x p) (e :: es) [] pos) (tCall sp dvs E t) := by
  intro pins s σ H Q I h
  refine wpAny_Call_Name_kw (ld_glob I hg hm ?_ hdb)
  refine PySem.W.callWith_K (h₀ := X.base) I.ok.mod.kin hk (thn (ha pos pins s σ H _ I h) fun us s1 ⟨vs, H1, I1, r, q⟩ => ⟨I1.kIn, ?_⟩) he hpl
  exact run_fn F hr hb hd hx I1 r q

/-- o.m(e, ..) -/
theorem pe_meth {pl : Sem Bool} (he : PE X o ta) (c : Cls X.K C) (hm : Meth X.K C m f) (F : FnOk X.prog X.w X.K X.mg X.base CX k f fd ps sp) (hr : Room k X.A) (hb : Binds X.K fd ps ds) (hd : Vals dvs ds) (hx : Passes CX X E) (ha : PA X (e :: es) t)
    (hst : starEach (e :: es) X.env = (false, eval e X.env) :: starEach es X.env := by rfl) (hpl : (backTo pos (starEach es X.env)).any (·.1) = false := by rfl)
    (ht : eval (.Call (.Attribute o m apos) (e :: es) [] pos) X.env = (do
      let ov ← eval o X.env
      standAt apos.atName
      let (f, first) ← holding [ov] (getMethod ov m pl)
      callWith pos f first (backTo pos (starEach (e :: es) X.env)) (backToKw pos (keywordEach [] X.env))) := by rfl) :
    PE X (.Call (.Attribute o m apos) (e :: es) [] pos) (tMeth C m sp dvs E ta t) := by
  intro pins s σ H Q I h
  refine PySem.W.methodCall_KW (pl := pl) (thn (he pins s σ H _ I h) fun u s1 ⟨x, H1, I1, rx, a, dx, fs, ex, ea, l, q⟩ => ?_) ht
  subst ex
  obtain rfl : u = Value.ref a := rx
  refine getmeth_ok I1 ea c hm l ?_
  refine PySem.W.callWith_K (first := [.ref a]) (h₀ := X.base) I.ok.mod.kin hm.kp (thn (ha pos pins s1 σ H1 _ I1 q) fun us s2 ⟨vs, H2, I2, r, q2⟩ => ⟨I2.kIn, ?_⟩) hst hpl
  exact run_fn (us := .ref a :: us) (vs := .ref a :: vs) F hr hb hd hx I2 (.cons rfl r) q2
/-- o.m() -/
theorem pe_meth0 {pl : Sem Bool} (he : PE X o ta) (c : Cls X.K C) (hm : Meth X.K C m f) (F : FnOk X.prog X.w X.K X.mg X.base CX k f fd ps sp) (hr : Room k X.A) (hb : Binds X.K fd ps ds) (hd : Vals dvs ds) (hx : Passes CX X E)
    (ht : eval (.Call (.Attribute o m apos) [] [] pos) X.env = (do
      let ov ← eval o X.env
      standAt apos.atName
      let (f, first) ← holding [ov] (getMethod ov m pl)
      callWith pos f first (backTo pos (starEach [] X.env)) (backToKw pos (keywordEach [] X.env))) := by rfl) :
    PE X (.Call (.Attribute o m apos) [] [] pos) (tMeth C m sp dvs E ta tNil) := by
  intro pins s σ H Q I h
  refine PySem.W.methodCall_KW (pl := pl) (thn (he pins s σ H _ I h) fun u s1 ⟨x, H1, I1, rx, a, dx, fs, ex, ea, l, q⟩ => ?_) ht
  subst ex
  obtain rfl : u = Value.ref a := rx
  refine getmeth_ok I1 ea c hm l ?_
  exact PySem.W.callWith_K0 (first := [.ref a]) I1.kIn hm.kp (run_fn (us := [.ref a]) (vs := [.ref a]) F hr hb hd hx I1 (.cons rfl .nil) q)

/-- what a class must have to be made -/
structure Mk (K : PySem.W.Frag) (C f : Addr) : Prop where
  makes : PySem.W.makesIn K C = true
  init : PySem.W.findIn K (.ref C) "__init__" = some (some (.ref f))
  fn : PySem.W.isFn K (.ref f) = true
  kp : PySem.W.keepIn K (.ref C) = true

theorem run_make {pins : List (Addr × Obj)} {σ : St} {H : Hp} {s : Shared} {Q : VK} {us : List Value} {vs : List V} (M : Mk X.K C f) (F : FnOk X.prog X.w X.K X.mg X.base CX k f fd ps sp) (hr : Room (k + 1) X.A) (hb : Binds X.K fd ps ds) (hd : Vals dvs ds)
    (hx : Passes CX X E) (I : Inv X pins σ H s) (r : Vals vs us)
    (h : ∀ x dx, H x = none → H dx = none → dx ≠ x → sp (.ref x :: (vs ++ dvs)) (upd (upd H dx (.own x)) x (.ins C dx [])) (fun v H2 => v = .non ∧ Q (.ref x) H2) E) :
    wpAny (model X.prog X.w) X.A (call (.ref C) us) (EP X pins σ Q) X.xe s := by
  have hq := h (s.heap.objs.size + 1) s.heap.objs.size (I.hok.fresh (Nat.le_succ _)) (I.hok.fresh (Nat.le_refl _)) (Nat.ne_of_lt (Nat.lt_succ_self _))
  have I2 := Inv.made (C := C) I
  have r2 : Vals (V.ref (s.heap.objs.size + 1) :: (vs ++ dvs)) (Value.ref (s.heap.objs.size + 1) :: (us ++ ds)) := .cons rfl (r.append hd)
  have hl : (Value.ref (s.heap.objs.size + 1) :: us ++ ds).length = ps.length := by
    have e := r2.length
    rw [F.len _ _ _ _ hq] at e
    exact e.symm
  refine wpAny_call (make_map (f := f) I.kIn M.makes M.init (beq_iff_eq.mp M.fn) (codeAny_mono (F.run _ X.stack _ _ ⟨Value.ref (s.heap.objs.size + 1) :: us, []⟩ (Value.ref (s.heap.objs.size + 1) :: (us ++ ds)) _ _ E (hr.make C us [])
    (I2.env0.make C us []) (hb _ (Value.ref (s.heap.objs.size + 1) :: us) I2.kIn hl) r2 hq) fun r s' hq' => ?_))
  cases r with
  | error e => exact hx pins σ _ _ e s' I2 hq'
  | ok fl =>
    cases fl with
    | ret u =>
      obtain ⟨v, H', I3, rv, ev, q3⟩ := I2.after hq'
      subst ev
      exact ⟨rv, ⟨V.ref (s.heap.objs.size + 1), H', I3, rfl, q3⟩⟩
    | next => exact False.elim hq'
    | brk => exact False.elim hq'
    | cont => exact False.elim hq'
theorem pe_make0 (M : Mk X.K C f) (F : FnOk X.prog X.w X.K X.mg X.base CX k f fd ps sp) (hr : Room (k + 1) X.A) (hg : Gl X x) (hm : X.mg x = some (.ref C)) (hb : Binds X.K fd ps ds) (hd : Vals dvs ds) (hx : Passes CX X E)
    (hdb : (x == ("__debug__" : Str)) = false := by decide) : PE X (.Call (.Name x p) [] [] pos) (tMake C sp dvs E tNil) := by
  intro pins s σ H Q I h
  refine wpAny_Call_Name_kw (ld_glob I hg hm ?_ hdb)
  exact PySem.W.callWith_K0 I.kIn M.kp (run_make (us := []) M F hr hb hd hx I .nil h)
end

/-! ### keywords -/
/-- the values of the keywords, from the left -/
def PK (X : Cx) (kws : List Keyword) (t : TA) : Prop :=
  ∀ (pos : Pos) (pins : List (Addr × Obj)) (s : Shared) (σ : St) (H : Hp) (Q : List V → Hp → Prop), Inv X pins σ H s → t σ H Q → wpAny (model X.prog X.w) X.A (evalAll ((backToKw pos (keywordEach kws X.env)).map (·.2))) (AP X pins σ Q) X.xe s
section
variable {X : Cx} {CX : CXT} {k : Nat} {f C : Addr} {fd : FuncData} {ps ks : List Str} {sp : Sp} {E : XK} {x m : Str} {p pos apos kpos : Pos} {e o : Expr} {es : List Expr} {kws : List Keyword} {te ta : TE} {t tk : TA} {nm : Option Str}

/-- how a call with keywords binds: g puts the positional values us and the keywords' values ws (names ks) in the parameters' order, defaults among them -/
structure KBinds (K : PySem.W.Frag) (fd : FuncData) (ps ks : List Str) (g : List Value → List Value → List Value) (gV : List V → List V → List V) : Prop where
  to : ∀ (s : Shared) (us ws : List Value), K.In s.heap → (g us ws).length = ps.length → BindsTo s fd ⟨us, ks.zip ws⟩ (ps.zip (g us ws))
  rel : ∀ {vs : List V} {us : List Value} {zs : List V} {ws : List Value}, Vals vs us → Vals zs ws → Vals (gV vs zs) (g us ws)
def tCallK (sp : Sp) (gV : List V → List V → List V) (E : XK) (t tk : TA) : TE := fun σ H Q => t σ H fun vs H1 => tk σ H1 fun zs H2 => sp (gV vs zs) H2 Q E
variable {g : List Value → List Value → List Value} {gV : List V → List V → List V}
end

/-! ### a def's body keeps its promise -/
/-- names: the parameters first -/
structure FnScope (N P : List Str) (sc : Scope) : Prop where
  kind : sc.kind = .function
  co : sc.isCoroutine = false
  gen : sc.isGenerator = false
  nd : N.Nodup
  pre : N.take P.length = P
  par : ∀ x ∈ P, sc.names.lookup x = some .local ∨ sc.names.lookup x = some .cell
  nofree : ∀ y ∈ sc.names, y.2 ≠ .free

theorem bindL_out {kindOf : Str → Option NameKind} {x : Str} : ∀ {binds : List (Str × Value)} {m : Str → Option Value}, (∀ v, (x, v) ∉ binds) → bindL kindOf binds m x = m x
  | [], _, _ => rfl
  | (n, v) :: r, m, h => by
    unfold bindL
    rw [bindL_out fun w hw => h w (List.mem_cons_of_mem _ hw)]
    split
    · have : x ≠ n := by rintro rfl; exact h v List.mem_cons_self
      simp [this]
    · rfl
theorem bindC_out {kindOf : Str → Option NameKind} {x : Str} : ∀ {binds : List (Str × Value)} {m : Str → Option Value}, (∀ v, (x, v) ∉ binds) → bindC kindOf binds m x = m x
  | [], _, _ => rfl
  | (n, v) :: r, m, h => by
    unfold bindC
    rw [bindC_out fun w hw => h w (List.mem_cons_of_mem _ hw)]
    split
    · rfl
    · have : x ≠ n := by rintro rfl; exact h v List.mem_cons_self
      simp [this]
theorem bindL_get {kindOf : Str → Option NameKind} {x : Str} {v : Value} : ∀ {P : List Str} {vs : List Value} {i : Nat} {m : Str → Option Value}, P.Nodup → P[i]? = some x → vs[i]? = some v → kindOf x = some .local →
    bindL kindOf (P.zip vs) m x = some v
  | [], _, _, _, _, h, _, _ => by simp at h
  | _ :: _, [], _, _, _, _, h, _ => by simp at h
  | p :: P, w :: vs, 0, m, nd, h1, h2, hk => by
    simp at h1 h2; subst h1; subst h2
    show bindL kindOf ((p, w) :: P.zip vs) m p = _
    unfold bindL
    rw [bindL_out fun v hv => (List.nodup_cons.mp nd).1 (List.of_mem_zip hv).1, if_pos hk]
    simp
  | p :: P, w :: vs, i + 1, m, nd, h1, h2, hk => by
    show bindL kindOf ((p, w) :: P.zip vs) m x = _
    unfold bindL
    exact bindL_get (i := i) (List.nodup_cons.mp nd).2 (by simpa using h1) (by simpa using h2) hk
theorem bindC_get {kindOf : Str → Option NameKind} {x : Str} {v : Value} : ∀ {P : List Str} {vs : List Value} {i : Nat} {m : Str → Option Value}, P.Nodup → P[i]? = some x → vs[i]? = some v → kindOf x ≠ some .local →
    bindC kindOf (P.zip vs) m x = some v
  | [], _, _, _, _, h, _, _ => by simp at h
  | _ :: _, [], _, _, _, _, h, _ => by simp at h
  | p :: P, w :: vs, 0, m, nd, h1, h2, hk => by
    simp at h1 h2; subst h1; subst h2
    show bindC kindOf ((p, w) :: P.zip vs) m p = _
    unfold bindC
    rw [bindC_out fun v hv => (List.nodup_cons.mp nd).1 (List.of_mem_zip hv).1, if_neg hk]
    simp
  | p :: P, w :: vs, i + 1, m, nd, h1, h2, hk => by
    show bindC kindOf ((p, w) :: P.zip vs) m x = _
    unfold bindC
    exact bindC_get (i := i) (List.nodup_cons.mp nd).2 (by simpa using h1) (by simpa using h2) hk

/-- the names' values at the entry -/
def start (N : List Str) (vs : List V) : St := vs.map some ++ List.replicate (N.length - vs.length) none

/-- the context of a def's body, at its entry; an exception leaves the frame, then lies as CX says -/
def cxOf (CX : CXT) (P : Program) (w : World) (K : PySem.W.Frag) (mg : Str → Option Value) (base : Heap) (N : List Str) (qual : Str) (scope : Scope) (f : Addr) (cd : Value) (A : Around) (outer : List Env) (s : Shared) (H : Hp) (E : XK) : Cx where
  prog := P
  w := w
  K := K
  mg := mg
  base := base
  A := A.deeper (envOfC qual scope s.heap.objs.size f cd)
  N := N
  s₀ := s
  H₀ := H
  env := envOfC qual scope s.heap.objs.size f cd
  outer := outer
  stack := envOfC qual scope s.heap.objs.size f cd :: outer
  ex := []
  calm := true
  fn := fun _ => true
  pn := []
  xe := fun e s' => wpAny (model P w) (A.deeper (envOfC qual scope s.heap.objs.size f cd)) (leaving (envOfC qual scope s.heap.objs.size f cd) e) (fun _ s'' => CX outer H s E e s'') (fun e' s'' => CX outer H s E e' s'') s'

theorem cell_has {sc : Scope} {n : Nat} {x : Str} (h : sc.names.lookup x = some .cell) : ∃ c, (cellsFrom n sc.names []).lookup x = some c := by
  have q := PySem.W.cellsFrom_some sc.names n [] (.inl h)
  exact Option.isSome_iff_exists.mp q

theorem inv_start {CX : CXT} {P : Program} {w : World} {K : PySem.W.Frag} {mg : Str → Option Value} {base : Heap} {N ps : List Str} {qual : Str} {scope : Scope} {f : Addr} {cd : Value} {A : Around} {outer : List Env} {s s1 : Shared} {H : Hp} {E : XK} {us : List Value} {vs : List V}
    (S : FnScope N ps scope) (hd : A.handled = none) (e0 : Env0 P w K mg base A outer s H) (hl : vs.length = ps.length) (r : Vals vs us)
    (x : InCallC s s.heap.objs.size (bindL (envOfC qual scope s.heap.objs.size f cd).kindOf (ps.zip us) fun _ => none) (cellsFrom (s.heap.objs.size + 1) scope.names []) (bindC (envOfC qual scope s.heap.objs.size f cd).kindOf (ps.zip us) fun _ => none) s1) :
    Inv (cxOf CX P w K mg base N qual scope f cd A outer s H E) [] (start N vs) H s1 := by
  have hpl : ps.length ≤ N.length := by have := congrArg List.length S.pre; rw [List.length_take] at this; omega
  obtain ⟨h1, tk, rfl, hk⟩ := x.done
  have noA : ∀ b : Addr, b ∉ (cxOf CX P w K mg base N qual scope f cd A outer s H E).ex := fun b z => absurd (show b ∈ ([] : List Addr) from z) (by simp)
  refine ⟨⟨e0.mod, S.kind, rfl, rfl, Nat.le_refl _, fun y z c h1 h2 => ?_, fun y hy => ?_, fun y c _ h => ?_, fun _ => hd, Around.frames_deeper e0.frames, .inr ⟨rfl, rfl⟩, fun b z => absurd z (noA b), e0.bs, e0.bsz, fun b _ _ => noA b, fun b z => absurd z (noA b), e0.funs, e0.frf⟩,
    rfl, e0.bare, Un.kept hk, ⟨_, x.toInCall.ns, fun i y v h1 h2 h3 => ?_⟩, fun y c h => ⟨_, x.cell y c h⟩, e0.hok.fresh (Nat.le_refl _), fun y c h => ?_, fun p hp => absurd (show p ∈ ([] : List (Addr × Obj)) from hp) (by simp), e0.hok.kept hk, ?_⟩
  · exact name_of_addr x.apart (PySem.mem_of_lookup h1) (PySem.mem_of_lookup h2)
  · have hy : scope.names.lookup y = some .cell ∨ scope.names.lookup y = some .free := hy
    rcases hy with hy | hy
    · exact cell_has hy
    · exact absurd rfl (S.nofree _ (PySem.mem_of_lookup hy))
  · exact Nat.le_of_lt (x.above y c (PySem.mem_of_lookup h))
  · have hi : i < vs.length := by
      unfold start at h2
      by_cases hi : i < vs.length
      · exact hi
      · rw [List.getElem?_append_right (by simpa using hi)] at h2
        rw [List.getElem?_replicate] at h2
        split at h2 <;> cases h2
    have ha : vs[i]? = some v := by
      unfold start at h2
      rw [List.getElem?_append_left (by simpa using hi), List.getElem?_map] at h2
      cases e : vs[i]? with
      | none => rw [e] at h2; cases h2
      | some a => rw [e] at h2; cases h2; rfl
    obtain ⟨u, hu, rv⟩ := r.get ha
    have hp : ps[i]? = some y := by
      rw [← S.pre, List.getElem?_take_of_lt (by omega)]; exact h1
    have ndP : ps.Nodup := by rw [← S.pre]; exact S.nd.sublist (List.take_sublist _ _)
    refine ⟨u, rv, ?_⟩
    rcases S.par y (List.mem_of_getElem? hp) with k | k
    · exact .inl ⟨k, bindL_get ndP hp hu k⟩
    · obtain ⟨c, e⟩ := cell_has (n := s.heap.objs.size + 1) k
      refine .inr ⟨.inl k, c, e, ?_⟩
      have q := x.cell y c e
      rw [bindC_get ndP hp hu (by show scope.names.lookup y ≠ _; rw [k]; decide)] at q
      exact q
  · exact e0.hok.fresh (Nat.le_of_lt (x.above y c (PySem.mem_of_lookup h)))
  · unfold start
    show _ = N.length
    rw [List.length_append, List.length_map, List.length_replicate]
    omega

/-- THE RULE: a def (or a method) of the text, by its body. The body's reading t is chosen for each entry; it is run at the parameters' values -/
theorem fn_of {CX : CXT} {P : Program} {w : World} {K : PySem.W.Frag} {mg : Str → Option Value} {base : Heap} {k : Nat} {f : Addr} {name qual : Str} {params : Arguments} {body : List Stmt} {scope : Scope} {dV kV doc pm cdv ct oc : Value} {an od : Option Addr}
    {osl : Array (Option Value)} {N ps : List Str} {sp : Sp} (lk : K.lookup f = some ⟨oc, od, .func (PySem.W.fnOf name qual params body scope dV kV doc pm an cdv ct), osl⟩) (hcd : PySem.W.codeIn K cdv qual = true) (S : FnScope N ps scope)
    (len : ∀ vs H Q E, sp vs H Q E → vs.length = ps.length)
    (hbody : ∀ (A : Around) (outer : List Env) (s : Shared) (H : Hp) (vs : List V) (Q : VK) (E : XK), Room k (A.deeper (envOfC qual scope s.heap.objs.size f cdv)) → sp vs H Q E →
      ∃ t, PSs (cxOf CX P w K mg base N qual scope f cdv A outer s H E) body t ∧ t { nx := fun _ H' => Q .non H', rt := Q } (start N vs) H) :
    FnOk P w K mg base CX (k + 1) f (PySem.W.fnOf name qual params body scope dV kV doc pm an cdv ct) ps sp := by
  refine ⟨len, fun A outer s H args us vs Q E hr e0 hb r hsp => ?_⟩
  have hl := len _ _ _ _ hsp
  have KX : K.In s.heap := e0.mod.kin.keeps fun b o e => (e0.bs b o e).1
  have lim : s.heap.NoLimit := e0.mod.nolimit.keeps fun b o e => (e0.bs b o e).1
  have hkind : ∀ y ∈ ps.zip us, scope.names.lookup y.1 = some .local ∨ (scope.names.lookup y.1 = some .cell ∧ ((cellsFrom (s.heap.objs.size + 1) scope.names []).lookup y.1).isSome = true) := fun ⟨n, v⟩ hy => by
    rcases S.par n (List.of_mem_zip hy).1 with q | q
    · exact .inl q
    · exact .inr ⟨q, PySem.W.cellsFrom_some _ _ _ (.inl q)⟩
  refine codeAny_call_function hr.depth (KX _ _ lk) rfl S.co S.gen rfl (PySem.W.codeRec_of KX hcd) (hb _ _ _ _ ?_)
  refine wpAny_newFunctionEnv_cells S.kind hkind fun env he s1 x => ?_
  subst he
  refine ⟨lim.keeps x.toInCall.keep, codeAny_func ?_⟩
  obtain ⟨t, ht, hq⟩ := hbody A outer s H vs Q E (hr.deeper _) hsp
  have I : Inv (cxOf CX P w K mg base N qual scope f cdv A outer s H E) [] (start N vs) H s1 := inv_start S hr.hd e0 hl r x
  refine wpAny_mono (ht [] s1 (start N vs) H _ I hq) (fun fl s' hs => ?_) fun e s' hs => hs
  have fin : ∀ {σ' : St} {H' : Hp} {v : V} {u : Value}, Inv (cxOf CX P w K mg base N qual scope f cdv A outer s H E) [] σ' H' s' → RelV v u → Q v H' → CE outer P w H s Q u s' :=
    fun {σ' H' v u} J rv q => ⟨v, H', J.os, J.bare, J.base, J.hok, rv, q⟩
  cases fl with
  | ret u =>
    obtain ⟨v, σ', H', J, rv, q⟩ := hs
    exact fin J rv q
  | next =>
    obtain ⟨σ', H', J, q⟩ := hs
    exact fin (v := V.non) (u := Value.none) J rfl q
  | brk =>
    obtain ⟨_, _, _, q⟩ := hs
    exact False.elim q
  | cont =>
    obtain ⟨_, _, _, q⟩ := hs
    exact False.elim q
end L2

namespace L2
open PySem PySem.Spec PyProof.Rows
section
variable {X : Cx} {x : Str} {p pos : Pos} {e : Expr} {es : List Expr} {t : TA} {id T : String} {r : List V → Hp → VK → Prop}

def tCB (r : List V → Hp → VK → Prop) (t : TA) : TE := fun σ H Q => t σ H fun vs H1 => r vs H1 Q
/-- f(e, ..), f a built-in function -/
theorem pe_callB (hc : CallR X (.builtin id) r) (hg : Gl X x) (hm : X.mg x = none) (hv : bootBuiltins x = some (.builtin id)) (ha : PA X (e :: es) t) (hn : x ≠ "__name__" := by decide) (hdb : (x == ("__debug__" : Str)) = false := by decide)
    (he : starEach (e :: es) X.env = (false, eval e X.env) :: starEach es X.env := by rfl) (hpl : (backTo pos (starEach es X.env)).any (·.1) = false := by rfl) : PE X (.Call (.Name x p) (e :: es) [] pos) (tCB r t) := by
  intro pins s σ H Q I h
  refine wpAny_Call_Name_kw (ld_blt I hg hm hv ?_ hn hdb)
  exact PyProof.Rows.callWith_builtin1 (thn (ha pos pins s σ H _ I h) fun us s1 ⟨vs, H1, I1, r1, q1⟩ => hc pins s1 σ H1 vs us Q I1 r1 q1) he hpl
/-- T(e, ..), T a built-in type -/
theorem pe_callTy (hc : CallR X (.type T) r) (hg : Gl X x) (hm : X.mg x = none) (hv : bootBuiltins x = some (.type T)) (ha : PA X (e :: es) t) (hn : x ≠ "__name__" := by decide) (hdb : (x == ("__debug__" : Str)) = false := by decide)
    (he : starEach (e :: es) X.env = (false, eval e X.env) :: starEach es X.env := by rfl) (hpl : (backTo pos (starEach es X.env)).any (·.1) = false := by rfl) : PE X (.Call (.Name x p) (e :: es) [] pos) (tCB r t) := by
  intro pins s σ H Q I h
  refine wpAny_Call_Name_kw (ld_blt I hg hm hv ?_ hn hdb)
  exact PyProof.Rows.callWith_type1 (thn (ha pos pins s σ H _ I h) fun us s1 ⟨vs, H1, I1, r1, q1⟩ => hc pins s1 σ H1 vs us Q I1 r1 q1) he hpl
end
end L2

namespace HT
open PySem PyProof.Rows

/-- t < u of tuples of ints -/
def lexLt : List Int → List Int → Bool
  | [], [] => false
  | [], _ :: _ => true
  | _ :: _, [] => false
  | x :: xs, y :: ys => if x = y then lexLt xs ys else decide (x < y)


section
open PySem.SeqAt
open PySem.AutoSeq1 (wpAny_loadPart')
open PySem.MeetsSeq PySem.MeetsSeq2 PySem.MeetsSeq3

end

section
variable {prog : Program} {w : World} {A : Around} {E : Value → Shared → Prop} {s : Shared}



/-! ### t[a:b], not the whole -/
/-- a slice's bound as a place among n (d where it is left out) -/
def sIx (n d : Nat) : Option Int → Nat
  | none => d
  | some v => if v < 0 then (v + (n : Int)).toNat else min v.toNat n
theorem sIx_none (n d : Nat) : sIx n d none = d := rfl
theorem sIx_nat (n d k : Nat) : sIx n d (some (k : Int)) = min k n := by
  show (if (k : Int) < 0 then ((k : Int) + (n : Int)).toNat else min (k : Int).toNat n) = min k n
  rw [if_neg (by omega), Int.toNat_natCast]

end
end HT

namespace L2
open PySem PySem.Spec PyProof.Rows

/-! ### the parts of a slice -/
abbrev TO := St → Hp → (Option Int → Hp → Prop) → Prop
/-- a slice's part (left out, or an int) -/
def PO (X : Cx) (e : Option Expr) (t : TO) : Prop :=
  ∀ (pins : List (Addr × Obj)) (s : Shared) (σ : St) (H : Hp) (Q : Option Int → Hp → Prop), Inv X pins σ H s → t σ H Q →
    wpAny (model X.prog X.w) X.A (evalPart e X.env) (fun u s' => ∃ o H', Inv X pins σ H' s' ∧ IsPart u o ∧ Q o H') X.xe s
def tNoPart : TO := fun _ H Q => Q none H
def tPart (t : TE) : TO := fun σ H Q => t σ H fun x H1 => ∃ i, x = .int i ∧ Q (some i) H1

theorem intsAre_of {ns : List Int} : ∀ {us : List Value}, Vals (ns.map V.int) us → IntsAre us ns := by
  induction ns with
  | nil => intro us r; rw [List.map_nil] at r; cases r; exact .nil
  | cons n ns ih =>
    intro us r
    rw [List.map_cons] at r
    cases r with
    | cons r1 r2 =>
      obtain ⟨t, e⟩ := r1
      subst e
      exact .cons n t (ih r2)

section
variable {X : Cx} {e : Expr} {te : TE} {lo hi : Option Expr} {tl th : TO} {pos p2 : Pos}

theorem po_none : PO X none tNoPart := by
  intro pins s σ H Q I h
  rw [evalPart_none]
  exact wpAny_pure ⟨none, H, I, .none, h⟩
theorem po_some (h : PE X e te) : PO X (some e) (tPart te) := by
  intro pins s σ H Q I hw
  rw [evalPart_some]
  refine thn (h pins s σ H _ I hw) fun u s1 ⟨x, H1, I1, r1, q1⟩ => ?_
  obtain ⟨i, rfl, q⟩ := q1
  obtain ⟨t, rfl⟩ := r1
  exact ⟨some i, H1, I1, .int i t, q⟩

/-- what a slice of a value is, by values: the slice object stands at sl -/
def SlR (X : Cx) (r : V → Option Int → Option Int → Hp → VK → Prop) : Prop :=
  ∀ (pins : List (Addr × Obj)) (s : Shared) (σ : St) (H : Hp) (x : V) (v vl vu : Value) (lo hi : Option Int) (sl : Addr) (Q : VK), Inv X pins σ H s → RelV x v → s.heap.IsSliceOf sl vl vu .none → IsPart vl lo → IsPart vu hi → r x lo hi H Q →
    ∃ T id, typeLookup (.type T) "__getitem__" = pure (some (.builtin id)) ∧ s.TypeIs v T ∧ wpAny (model X.prog X.w) X.A (getItem v (.ref sl)) (EP X pins σ Q) X.xe s
def tSl (r : V → Option Int → Option Int → Hp → VK → Prop) (te : TE) (tl th : TO) : TE := fun σ H Q => te σ H fun x H1 => tl σ H1 fun l H2 => th σ H2 fun u H3 => r x l u H3 Q
/-- a[lo:hi], any a -/
theorem pe_slice {r : V → Option Int → Option Int → Hp → VK → Prop} (hr : SlR X r) (he : PE X e te) (hl : PO X lo tl) (hu : PO X hi th) : PE X (.Subscript e (.Slice lo hi none p2) pos) (tSl r te tl th) := by
  intro pins s σ H Q I h
  refine Subscript_ (thn (he pins s σ H _ I h) fun v s1 ⟨x, H1, I1, r1, q1⟩ => ?_)
  refine wpAny_Slice (thn (hl pins s1 σ H1 _ I1 q1) fun vl s2 ⟨l, H2, I2, pl, q2⟩ => thn (hu pins s2 σ H2 _ I2 q2) fun vu s3 ⟨u, H3, I3, pu, q3⟩ => ?_)
  rw [evalPart_none]
  refine wpAny_pure ?_
  have I4 : Inv X pins σ H3 { s3 with heap := s3.heap.push { cls := .type "slice", data := .fields #[vl, vu, .none] } } := I3.kept (t' := s3.toks) fun b ob q => Heap.get?_push_of_some _ q
  obtain ⟨T, id, hT, ht, hg⟩ := hr pins { s3 with heap := s3.heap.push { cls := .type "slice", data := .fields #[vl, vu, .none] } } σ H3 x v vl vu l u s3.heap.objs.size Q I4 r1 (Heap.IsSliceOf.new ..) pl pu q3
  show wpAny (model X.prog X.w) X.A (subscriptTail e (.Slice lo hi none p2) v (.ref s3.heap.objs.size)) (EP X pins σ Q) X.xe { s3 with heap := s3.heap.push { cls := .type "slice", data := .fields #[vl, vu, .none] } }
  exact tail_any (ops := [.ref s3.heap.objs.size, v]) ht hT hg (by with_unfolding_all rfl)

/-- the items of xs[lo:hi] -/
def cutV (xs : List V) (lo hi : Option Int) : List V := (xs.drop (HT.sIx xs.length 0 lo)).take (HT.sIx xs.length xs.length hi - HT.sIx xs.length 0 lo)
theorem cutV_length (xs : List V) (lo hi : Option Int) : (cutV xs lo hi).length ≤ xs.length := by
  unfold cutV
  rw [List.length_take, List.length_drop]
  omega
/-- t[lo:hi], not the whole of it (the whole would be t itself) -/
def rSlT (K : PySem.W.Frag) : V → Option Int → Option Int → Hp → VK → Prop := fun x lo hi H Q => ∃ a xs, x = .ref a ∧ SqT K H a xs ∧
  ¬ (HT.sIx xs.length 0 lo = 0 ∧ HT.sIx xs.length xs.length hi = xs.length) ∧ ∀ p, H p = none → Q (.ref p) (upd H p (.tup (cutV xs lo hi)))

/-! ### t < u, t + u -/
def rLtT (K : PySem.W.Frag) : R2 := fun x y H Q => ∃ a b ns ms, x = .ref a ∧ y = .ref b ∧ SqT K H a (ns.map V.int) ∧ SqT K H b (ms.map V.int) ∧ Q (.bl (HT.lexLt ns ms)) H
/-- t + u, t not empty: u empty gives t itself -/
def rCatT (K : PySem.W.Frag) : R2 := fun x y H Q => ∃ a b xs ys, x = .ref a ∧ y = .ref b ∧ SqT K H a xs ∧ SqT K H b ys ∧ xs ≠ [] ∧ xs.length + ys.length ≤ sizeLine ∧
  (ys = [] → Q (.ref a) H) ∧ (ys ≠ [] → ∀ p, H p = none → Q (.ref p) (upd H p (.tup (xs ++ ys))))
end
end L2

namespace L2
open PySem PySem.Spec PyProof.Rows

/-! ### places -/
/-- the place that an index of any sign means -/
def ixN (n : Nat) (i : Int) : Option Nat := if 0 ≤ i then (if i < n then some i.toNat else none) else if -(n : Int) ≤ i then some (i + n).toNat else none
def atI {α : Type} (xs : List α) (i : Int) : Option α := (ixN xs.length i).bind fun j => xs[j]?
theorem ixN_seq {n : Nat} {i : Int} {j : Nat} (h : ixN n i = some j) : seqIndex? i n = some j ∧ j < n ∧ -(n : Int) ≤ i ∧ i < n := by
  unfold ixN at h
  by_cases h0 : 0 ≤ i
  · rw [if_pos h0] at h
    by_cases h1 : i < n
    · rw [if_pos h1] at h
      have e : i.toNat = j := Option.some.inj h
      exact ⟨by rw [seqIndex_of h0 h1, e], by omega, by omega, h1⟩
    · rw [if_neg h1] at h; cases h
  · rw [if_neg h0] at h
    by_cases h1 : -(n : Int) ≤ i
    · rw [if_pos h1] at h
      have e : (i + n).toNat = j := Option.some.inj h
      exact ⟨by rw [seqIndex_neg (by omega) h1, e], by omega, h1, by omega⟩
    · rw [if_neg h1] at h; cases h
theorem atI_get {α : Type} {xs : List α} {i : Int} {v : α} (h : atI xs i = some v) : ∃ j, seqIndex? i xs.length = some j ∧ xs[j]? = some v ∧ j < xs.length ∧ -(xs.length : Int) ≤ i ∧ i < xs.length := by
  unfold atI at h
  cases e : ixN xs.length i with
  | none => rw [e] at h; cases h
  | some j =>
    rw [e] at h
    obtain ⟨h1, h2, h3, h4⟩ := ixN_seq e
    exact ⟨j, h1, h, h2, h3, h4⟩
theorem atI_nat {α : Type} {xs : List α} {j : Nat} {v : α} (h : xs[j]? = some v) : atI xs (j : Int) = some v := by
  have hj : j < xs.length := (List.getElem?_eq_some_iff.mp h).1
  have e : ixN xs.length (j : Int) = some j := by
    unfold ixN
    rw [if_pos (by omega), if_pos (by omega)]; simp
  unfold atI; rw [e]; exact h
theorem atI_last {α : Type} (xs : List α) (v : α) : atI (xs ++ [v]) (-1) = some v := by
  have hl : (xs ++ [v]).length = xs.length + 1 := by simp
  have e : ixN (xs ++ [v]).length (-1) = some xs.length := by
    unfold ixN
    rw [hl, if_neg (by decide), if_pos (by omega)]
    congr 1
    omega
  unfold atI
  rw [e]
  show (xs ++ [v])[xs.length]? = some v
  simp

/-! ### what may be subscripted -/
/-- what stands as an index of a plain subscript -/
def PlainIx (b : Expr) : Prop := ∀ o i, subscripted b false o i = operate [o, i] (getItem o i)
/-- a subscript by values -/
def IxR (X : Cx) (r : R2) : Prop :=
  ∀ (value slice : Expr) (pins : List (Addr × Obj)) (s : Shared) (σ : St) (H : Hp) (x y : V) (v u : Value) (Q : VK), Inv X pins σ H s → RelV x v → RelV y u → r x y H Q →
    subscripted slice false v u = operate [v, u] (getItem v u) → wpAny (model X.prog X.w) X.A (subscriptTail value slice v u) (EP X pins σ Q) X.xe s
/-- a call of a builtin's method by values: the receiver, the arguments -/
def MtR (X : Cx) (id : String) (r : V → List V → Hp → VK → Prop) : Prop :=
  ∀ (pins : List (Addr × Obj)) (s : Shared) (σ : St) (H : Hp) (x : V) (xs : List V) (v : Value) (us : List Value) (Q : VK), Inv X pins σ H s → RelV x v → Vals xs us → r x xs H Q →
    wpAny (model X.prog X.w) X.A (call (.builtin id) (v :: us)) (EP X pins σ Q) X.xe s
section
variable {X : Cx} {a b : Expr} {ta tb : TE} {pos : Pos}
/-- a[b] -/
theorem pe_ix {r : R2} (hr : IxR X r) (ha : PE X a ta) (hb : PE X b tb) (hs : PlainIx b) : PE X (.Subscript a b pos) (tOp r ta tb) := by
  intro pins s σ H Q I h
  exact Subscript_ (binT ha hb I h fun v u s2 x y H2 I2 rx ry q => hr a b pins s2 σ H2 x y v u Q I2 rx ry q (hs _ _))

def rIxL (K : PySem.W.Frag) : R2 := fun x y H Q => ∃ p xs i v, x = .ref p ∧ y = .int i ∧ SqL K H p xs ∧ atI xs i = some v ∧ Q v H
def rIxT (K : PySem.W.Frag) : R2 := fun x y H Q => ∃ p xs i v, x = .ref p ∧ y = .int i ∧ SqT K H p xs ∧ atI xs i = some v ∧ Q v H
def rIxS : R2 := fun x y H Q => ∃ z i c, x = .str z ∧ y = .int i ∧ z.length ≤ sizeLine ∧ atI z.cps.toList i = some c ∧ Q (.str ⟨#[c]⟩) H
theorem ix_list : IxR X (rIxL X.K) := by
  intro value slice pins s σ H x y v u Q I rx ry h hs
  obtain ⟨p, xs, i, z, rfl, rfl, hq, he, q⟩ := h
  cases rx
  obtain ⟨t, rfl⟩ := ry
  obtain ⟨its, r, pl, hz⟩ := I.list hq
  obtain ⟨j, h1, h2, h3, h4, h5⟩ := atI_get he
  obtain ⟨w, ew, rw'⟩ := r.get h2
  have hl := r.length
  have hn := line63
  have fin : EP X pins σ Q w s := ⟨z, H, I, rw', q⟩
  by_cases h0 : 0 ≤ i
  · have hj : i.toNat = j := by
      rw [seqIndex_of h0 h5] at h1
      exact Option.some.inj h1
    exact item_listR pl.isList h0 (by omega) (by rw [hj]; simpa using ew) fin hs
  · have hj : (i + (its.toArray.size : Int)).toNat = j := by
      rw [seqIndex_neg (by omega) h4] at h1
      rw [List.size_toArray, ← hl]
      exact Option.some.inj h1
    exact subscriptTail_builtinR (x := w) pl.isList.typeIs slot_list_getitem.lookup
      (wpAny_getItem_list_neg (Q := fun r s' => r = w ∧ EP X pins σ Q r s') pl.isList (by omega) (by rw [List.size_toArray] <;> omega) (by omega) (by rw [hj]; simpa using ew) ⟨rfl, fin⟩) hs
theorem ix_tup : IxR X (rIxT X.K) := by
  intro value slice pins s σ H x y v u Q I rx ry h hs
  obtain ⟨p, xs, i, z, rfl, rfl, hq, he, q⟩ := h
  cases rx
  obtain ⟨t, rfl⟩ := ry
  obtain ⟨its, r, pl, hz⟩ := I.tuple hq
  obtain ⟨j, h1, h2, h3, h4, h5⟩ := atI_get he
  obtain ⟨w, ew, rw'⟩ := r.get h2
  have hl := r.length
  have hn := line63
  have fin : EP X pins σ Q w s := ⟨z, H, I, rw', q⟩
  exact subscriptTail_builtinR (x := w) pl.typeIs slot_tuple_getitem.lookup
    (getItem_tuple (j := j) (Q := fun r s' => r = w ∧ EP X pins σ Q r s') pl (by omega) (by omega) (by rw [List.size_toArray, ← hl]; exact h1) (by simpa using ew) ⟨rfl, fin⟩) hs
/-- list, tuple or str -/
def rIx (K : PySem.W.Frag) : R2 := fun x y H Q => rIxL K x y H Q ∨ rIxT K x y H Q ∨ rIxS x y H Q

/-! ### xs[i] = v, any sign -/
/-- the list's object behind a store -/
theorem mapSeq_set (its : List Value) (n j : Nat) (u : Value) : Obj.mapSeq (·.setIfInBounds j u) { cls := .type "list", data := .seq its.toArray n } = { cls := .type "list", data := .seq (its.set j u).toArray n } := by
  simp [Obj.mapSeq]
theorem Inv.lst {pins : List (Addr × Obj)} {σ : St} {H : Hp} {s : Shared} {p : Addr} {xs : List V} (I : Inv X pins σ H s) (h : H p = some (.lst xs)) :
    ∃ (its : List Value) (n : Nat), Vals xs its ∧ s.heap.get? p = some { cls := .type "list", data := .seq its.toArray n } ∧ xs.length ≤ sizeLine := by
  obtain ⟨z, its, n, r, e⟩ := I.hok p _ h
  exact ⟨its, n, r, e, z⟩
/-- the list at p is written by an update of its object -/
theorem Inv.lstUpd {pins : List (Addr × Obj)} {σ : St} {H : Hp} {s : Shared} {p : Addr} {xs ys : List V} {its its' : List Value} {n n' : Nat} {f : Obj → Obj} (I : Inv X pins σ H s) (h : H p = some (.lst xs))
    (ho : s.heap.get? p = some { cls := .type "list", data := .seq its.toArray n }) (hf : f { cls := .type "list", data := .seq its.toArray n } = { cls := .type "list", data := .seq its'.toArray n' }) (r : Vals ys its') (hz : ys.length ≤ sizeLine) (t : Nat) :
    Inv X pins σ (upd H p (.lst ys)) { s with heap := s.heap.update p f, toks := t } := by
  have e : (s.heap.update p f).get? p = some { cls := .type "list", data := .seq its'.toArray n' } := by
    rw [Heap.get?_update_self f ho (by rw [hf] <;> rfl), hf]
  refine I.write (x := p) (e := p) (by rw [h]; trivial) (.inl rfl) (fun b u hb q => (Heap.get?_update_other _ _ (Ne.symm hb)).trans q) ⟨_, e⟩ ?_
  exact ⟨hz, its', n', r, e⟩
def rSetL : V → V → V → Hp → (Hp → Prop) → Prop := fun o i v H Q => ∃ p xs k j, o = .ref p ∧ i = .int k ∧ H p = some (.lst xs) ∧ ixN xs.length k = some j ∧ Q (upd H p (.lst (xs.set j v)))
theorem set_list : PSet X rSetL := by
  intro pins s σ H o i v ov iv u Q I ro ri rv h
  obtain ⟨p, xs, k, j, rfl, rfl, hp, hj, q⟩ := h
  cases ro
  obtain ⟨t, rfl⟩ := ri
  obtain ⟨its, n, r, ho, hz⟩ := I.lst hp
  obtain ⟨h1, h2, h3, h4⟩ := ixN_seq hj
  have hl := r.length
  have hn := line63
  have I' : Inv X pins σ (upd H p (.lst (xs.set j v))) { s with heap := s.heap.update p (Obj.mapSeq (·.setIfInBounds j u)) } :=
    I.lstUpd hp ho (mapSeq_set its n j u) (r.set rv j) (by rw [List.length_set]; exact hz) s.toks
  by_cases h0 : 0 ≤ k
  · have hk : k.toNat = j := by
      rw [seqIndex_of h0 h4] at h1
      exact Option.some.inj h1
    exact PySem.W.ki_setAt ho h0 (by omega) (by rw [List.size_toArray, ← hl]; exact h4) (by rw [hk]; exact ⟨_, I', q⟩)
  · have hk : (k + (its.toArray.size : Int)).toNat = j := by
      rw [seqIndex_neg (by omega) h3] at h1
      rw [List.size_toArray, ← hl]
      exact Option.some.inj h1
    exact PySem.W.ki_setBack ho (by omega) (by rw [List.size_toArray, ← hl]; exact h3) (by omega) (by rw [hk]; exact ⟨_, I', q⟩)

/-! ### slices -/
theorem slice_bounds (lo hi : Option Int) (n : Nat) : (sliceBounds lo hi none n).1 = ((HT.sIx n 0 lo : Nat) : Int) ∧ (sliceBounds lo hi none n).2.1 = ((HT.sIx n n hi : Nat) : Int) ∧ (sliceBounds lo hi none n).2.2 = 1 := by
  refine ⟨?_, ?_, rfl⟩
  · cases lo with
    | none => simp [sliceBounds, HT.sIx]
    | some i =>
      simp only [sliceBounds, HT.sIx, Option.getD_none, show (1 : Int) > 0 by decide, if_true]
      by_cases h : i < 0
      · simp only [h, if_true] <;> omega
      · simp only [h, if_false] <;> omega
  · cases hi with
    | none => simp [sliceBounds, HT.sIx]
    | some i =>
      simp only [sliceBounds, HT.sIx, Option.getD_none, show (1 : Int) > 0 by decide, if_true]
      by_cases h : i < 0
      · simp only [h, if_true] <;> omega
      · simp only [h, if_false] <;> omega
theorem slicePick_cut (its : List Value) (lo hi : Option Int) : slicePick its.toArray lo hi none = ((its.drop (HT.sIx its.length 0 lo)).take (HT.sIx its.length its.length hi - HT.sIx its.length 0 lo)).toArray := by
  obtain ⟨h1, h2, h3⟩ := slice_bounds lo hi its.toArray.size
  unfold slicePick
  rw [h1, h2, h3]
  simp only [sliceRange_one, pick_run, List.size_toArray] <;> rfl
/-- xs[lo:hi] of a list: a new list -/
def rSlL (K : PySem.W.Frag) : V → Option Int → Option Int → Hp → VK → Prop := fun x lo hi H Q => ∃ a xs, x = .ref a ∧ SqL K H a xs ∧ ∀ p, H p = none → Q (.ref p) (upd H p (.lst (cutV xs lo hi)))
theorem sl_list : SlR X (rSlL X.K) := by
  intro pins s σ H x v vl vu lo hi sl Q I rx hs pl pu h
  obtain ⟨a, xs, rfl, hx, q⟩ := h
  cases rx
  obtain ⟨its, r, ht, hz⟩ := I.list hx
  have hlen := r.length
  refine ⟨"list", _, slot_list_getitem.lookup, ht.isList.typeIs, ?_⟩
  refine wpAny_getItem_list_slice ht.isList hs pl pu .none (by simp) ?_ (by rw [List.size_toArray] <;> omega)
  rw [slicePick_cut, ← hlen]
  refine ⟨.ref s.heap.objs.size, _, I.laid (t' := s.toks) (o := .lst (cutV xs lo hi)) (fun b ob q => Heap.get?_push_of_some _ q) (Nat.le_refl _) ?_, rfl, q _ (I.hok.fresh (Nat.le_refl _))⟩
  exact ⟨Nat.le_trans (cutV_length xs lo hi) hz, _, 0, (r.drop (HT.sIx xs.length 0 lo)).take (HT.sIx xs.length xs.length hi - HT.sIx xs.length 0 lo), Heap.get?_push_size _ rfl⟩

/-! ### in, not in: flat items -/
def flatV : V → Bool
  | .non => true
  | .bl _ => true
  | .int _ => true
  | .str _ => true
  | _ => false
/-- == of flat values -/
def eqV : V → V → Bool
  | .non, .non => true
  | .bl a, .bl b => a == b
  | .bl a, .int b => (if a then 1 else 0) == b
  | .int a, .bl b => a == (if b then 1 else 0)
  | .int a, .int b => a == b
  | .str a, .str b => a == b
  | _, _ => false
theorem eqAt_V {A : Around} {s : Shared} {y x : V} {u v : Value} (ry : RelV y u) (rx : RelV x v) (fy : flatV y = true) (fx : flatV x = true) : SeqAt.EqAt A s u v (eqV y x) := by
  cases y with
  | non =>
    cases ry
    cases x with
    | non => cases rx; exact SeqAt.EqAt.same _
    | bl b => cases rx; exact SeqAt.EqAt.none_bool b
    | int b => obtain ⟨t, rfl⟩ := rx; exact SeqAt.EqAt.none_int b t
    | str b => obtain ⟨t, rfl⟩ := rx; exact SeqAt.EqAt.none_str b t
    | _ => exact absurd (show false = true from fx) Bool.false_ne_true
  | bl a =>
    cases ry
    cases x with
    | non => cases rx; exact SeqAt.EqAt.bool_none a
    | bl b => cases rx; exact SeqAt.EqAt.bool_bool a b
    | int b => obtain ⟨t, rfl⟩ := rx; exact SeqAt.EqAt.bool_int a b t
    | str b => obtain ⟨t, rfl⟩ := rx; exact SeqAt.EqAt.bool_str a b t
    | _ => exact absurd (show false = true from fx) Bool.false_ne_true
  | int a =>
    obtain ⟨t', rfl⟩ := ry
    cases x with
    | non => cases rx; exact SeqAt.EqAt.int_none a t'
    | bl b => cases rx; exact SeqAt.EqAt.int_bool a t' b
    | int b => obtain ⟨t, rfl⟩ := rx; exact SeqAt.EqAt.int_int a t' b t
    | str b => obtain ⟨t, rfl⟩ := rx; exact SeqAt.EqAt.int_str a t' b t
    | _ => exact absurd (show false = true from fx) Bool.false_ne_true
  | str a =>
    obtain ⟨t', rfl⟩ := ry
    cases x with
    | non => cases rx; exact SeqAt.EqAt.str_none a t'
    | bl b => cases rx; exact SeqAt.EqAt.str_bool a t' b
    | int b => obtain ⟨t, rfl⟩ := rx; exact SeqAt.EqAt.str_int a t' b t
    | str b => obtain ⟨t, rfl⟩ := rx; exact SeqAt.EqAt.str_str a t' b t
    | _ => exact absurd (show false = true from fx) Bool.false_ne_true
  | _ => exact absurd (show false = true from fy) Bool.false_ne_true
/-- the items' answers, read off the values (a value's own answer does not lean on its token) -/
def eqU (x : V) (u : Value) : Bool := match u with
  | .none => eqV .non x
  | .bool b => eqV (.bl b) x
  | .int i _ => eqV (.int i) x
  | .str z _ => eqV (.str z) x
  | _ => false
theorem eqU_of {x y : V} {u : Value} (r : RelV y u) (f : flatV y = true) : eqU x u = eqV y x := by
  cases y with
  | non => cases r; rfl
  | bl b => cases r; rfl
  | int i => obtain ⟨t, rfl⟩ := r; rfl
  | str z => obtain ⟨t, rfl⟩ := r; rfl
  | _ => exact absurd (show false = true from f) Bool.false_ne_true
theorem any_eqU {x : V} : ∀ {xs : List V} {us : List Value}, Vals xs us → xs.all flatV = true → us.any (eqU x) = xs.any fun y => eqV y x
  | _, _, .nil, _ => rfl
  | y :: xs, u :: us, .cons r t, f => by
    rw [List.all_cons, Bool.and_eq_true] at f
    rw [List.any_cons, List.any_cons, eqU_of r f.1, any_eqU t f.2]
theorem mem_eqAt {A : Around} {s : Shared} {x : V} {v : Value} (rx : RelV x v) (fx : flatV x = true) : ∀ {xs : List V} {us : List Value}, Vals xs us → xs.all flatV = true → ∀ u ∈ us, SeqAt.EqAt A s u v (eqU x u)
  | _, _, .nil, _ => fun u hu => by cases hu
  | y :: xs, u :: us, .cons r t, f => fun u' hu => by
    rw [List.all_cons, Bool.and_eq_true] at f
    rcases List.mem_cons.mp hu with rfl | hu
    · rw [eqU_of r f.1]; exact eqAt_V r rx f.1 fx
    · exact mem_eqAt rx fx t f.2 u' hu
def inV (x : V) (xs : List V) : Bool := xs.any fun y => eqV y x
/-- x in a list or tuple of flat items -/
def rIn (K : PySem.W.Frag) (neg : Bool) : R2 := fun x y H Q => ∃ p xs, y = .ref p ∧ (SqL K H p xs ∨ SqT K H p xs) ∧ flatV x = true ∧ xs.all flatV = true ∧ Q (.bl (if neg then !inV x xs else inV x xs)) H
theorem op_notIn_seq : OpR X (compareOp .NotIn) (rIn X.K true) := by
  intro pins s σ H x y v u Q I rx ry h
  obtain ⟨p, xs, rfl, hq, fx, fs, q⟩ := h
  cases ry
  rcases hq with hq | hq
  · obtain ⟨its, r, pl, hz⟩ := I.list hq
    refine SeqAt.notIn_listAt (eqU x) pl.isList (fun w hw => mem_eqAt rx fx r fs w (by simpa using hw)) ⟨.bl _, H, I, rfl, ?_⟩
    rw [show its.toArray.any (eqU x) = its.any (eqU x) by simp, any_eqU r fs]
    exact q
  · obtain ⟨its, r, pl, hz⟩ := I.tuple hq
    refine SeqAt.notIn_tupleAt (eqU x) pl (fun w hw => mem_eqAt rx fx r fs w (by simpa using hw)) ⟨.bl _, H, I, rfl, ?_⟩
    rw [show its.toArray.any (eqU x) = its.any (eqU x) by simp, any_eqU r fs]
    exact q

/-! ### len, list(x), tuple(x) of any list or tuple that is read -/
theorem call_len_seq : CallR X (.builtin "len") (fun xs H Q => ∃ p ys, xs = [.ref p] ∧ (SqL X.K H p ys ∨ SqT X.K H p ys) ∧ Q (.int ys.length) H) := by
  intro pins s σ H xs us Q I r h
  obtain ⟨p, ys, rfl, hq, q⟩ := h
  obtain ⟨u, rfl, rx⟩ := vals1 r
  cases rx
  have hn := line63
  rcases hq with hq | hq
  · obtain ⟨its, r', pl, hz⟩ := I.list hq
    have hlen := r'.length
    exact Calls.call_len_list pl.isList (by simp only [List.size_toArray] <;> omega) ⟨.int ys.length, H, I.tok _, ⟨s.toks + 1, by rw [List.size_toArray, hlen]⟩, q⟩
  · obtain ⟨its, r', pl, hz⟩ := I.tuple hq
    have hlen := r'.length
    exact len_tuple pl (by simp only [List.size_toArray] <;> omega) ⟨.int ys.length, H, I.tok _, ⟨s.toks + 1, by rw [List.size_toArray, hlen]⟩, q⟩
theorem call_list_of : CallR X (.type "list") (fun xs H Q => ∃ p ys, xs = [.ref p] ∧ (SqL X.K H p ys ∨ SqT X.K H p ys) ∧ ∀ l, H l = none → Q (.ref l) (upd H l (.lst ys))) := by
  intro pins s σ H xs us Q I r h
  obtain ⟨p, ys, rfl, hq, q⟩ := h
  obtain ⟨u, rfl, rx⟩ := vals1 r
  cases rx
  have fin : ∀ (its : List Value), Vals ys its → ys.length ≤ sizeLine → ∀ (h' : Heap) (c' : Nat), (∀ b o', s.heap.get? b = some o' → h'.get? b = some o') →
      h'.get? s.heap.objs.size = some { cls := .type "list", dict := none, data := .seq its.toArray c', slots := #[] } → EP X pins σ Q (.ref s.heap.objs.size) { s with heap := h' } := fun its r' hz h' c' kp e =>
    ⟨.ref s.heap.objs.size, _, I.laid (t' := s.toks) kp (Nat.le_refl _) (show ObjOk X.prog X.w _ h' _ (.lst ys) from ⟨hz, its, c', r', e⟩), rfl, q _ (I.hok.fresh (Nat.le_refl _))⟩
  rcases hq with hq | hq
  · obtain ⟨its, r', pl, hz⟩ := I.list hq
    have hlen := r'.length
    obtain ⟨o, ho, hc, n, hd⟩ := pl.isList
    exact call_list_seq p (.inl rfl) ho hc hd (fun h' c' kp e => fin its r' hz h' c' kp e) (by simp only [List.size_toArray] <;> omega)
  · obtain ⟨its, r', pl, hz⟩ := I.tuple hq
    have hlen := r'.length
    obtain ⟨o, ho, hc, n, hd⟩ := pl
    exact call_list_seq p (.inr rfl) ho hc hd (fun h' c' kp e => fin its r' hz h' c' kp e) (by simp only [List.size_toArray] <;> omega)

/-! ### the call of a builtin's method: o.m(..) -/
/-- the value is of that builtin type -/
def tyV (K : PySem.W.Frag) (T : String) (x : V) (H : Hp) : Prop := match x with
  | .str _ => T = "str"
  | .int _ => T = "int"
  | .ref p => (T = "list" ∧ ∃ xs, SqL K H p xs) ∨ (T = "tuple" ∧ ∃ o, K.lookup p = some o ∧ o.cls = .type "tuple" ∧ o.dict = none) ∨
      (T = "dict" ∧ ((∃ kvs, H p = some (.dK kvs)) ∨ ∃ kvs, H p = some (.dT kvs))) ∨ (T = "set" ∧ ∃ S n, H p = some (.set S n))
  | _ => False
theorem tyV_is {pins : List (Addr × Obj)} {σ : St} {H : Hp} {s : Shared} {T : String} {x : V} {v : Value} (I : Inv X pins σ H s) (r : RelV x v) (ty : tyV X.K T x H) :
    s.TypeIs v T ∧ ∀ a, v = .ref a → ∃ ob, s.heap.get? a = some ob ∧ ob.dict = none := by
  cases x with
  | str z =>
    obtain ⟨t, rfl⟩ := r
    cases (show T = "str" from ty)
    exact ⟨typeIs_str s z t, fun _ e => nomatch e⟩
  | int i =>
    obtain ⟨t, rfl⟩ := r
    cases (show T = "int" from ty)
    exact ⟨typeIs_int s i t, fun _ e => nomatch e⟩
  | ref p =>
    cases r
    rcases ty with ⟨rfl, xs, hq⟩ | ⟨rfl, o, hk, hc, hd⟩ | ⟨rfl, hk⟩ | ⟨rfl, S, n, hk⟩
    · obtain ⟨its, _, pl, _⟩ := I.list hq
      refine ⟨pl.isList.typeIs, fun a e => ?_⟩
      cases e
      obtain ⟨o, n, e, c, hd, _⟩ := pl
      exact ⟨o, e, hd⟩
    · refine ⟨⟨o, I.kIn p o hk, hc⟩, fun a e => ?_⟩
      cases e
      exact ⟨o, I.kIn _ o hk, hd⟩
    · have z : ∃ o, s.heap.get? p = some o ∧ o.ExactDict := by
        rcases hk with ⟨kvs, hk⟩ | ⟨kvs, hk⟩
        · obtain ⟨_, _, _, _, o, _, _, e, ex, _⟩ := I.hok p _ hk
          exact ⟨o, e, ex⟩
        · obtain ⟨_, _, _, _, o, _, _, e, ex, _⟩ := I.hok p _ hk
          exact ⟨o, e, ex⟩
      obtain ⟨o, e, ex⟩ := z
      refine ⟨⟨o, e, ex.1⟩, fun a e2 => ?_⟩
      cases e2
      exact ⟨o, e, ex.2.1⟩
    · obtain ⟨o, _, _, _, e, ex, _⟩ := I.hok p _ hk
      refine ⟨⟨o, e, ex.1⟩, fun a e2 => ?_⟩
      cases e2
      exact ⟨o, e, ex.2.1⟩
  | _ => exact False.elim ty
def tBM0 (K : PySem.W.Frag) (T : String) (r : V → List V → Hp → VK → Prop) (to : TE) : TE := fun σ H Q => to σ H fun x H1 => tyV K T x H1 ∧ r x [] H1 Q
def tBM (K : PySem.W.Frag) (T : String) (r : V → List V → Hp → VK → Prop) (to : TE) (t : TA) : TE := fun σ H Q => to σ H fun x H1 => tyV K T x H1 ∧ t σ H1 fun xs H2 => r x xs H2 Q
variable {o e : Expr} {es : List Expr} {to : TE} {t : TA} {name : Str} {apos cpos : Pos} {T id : String} {r : V → List V → Hp → VK → Prop}
theorem pe_bm (pa : PlainAttrs T) (slot : Slot T name id) (hty : typeOf (.builtin id) = pure (.type "method_descriptor")) (hm : MtR X id r) (ho : PE X o to) (ha : PA X (e :: es) t)
    (hbase : attributeBase o name X.env (eval o X.env) = eval o X.env := by rfl)
    (hfew : ((backTo cpos (starEach (e :: es) X.env)).all (fun x => !x.1) && (backToKw cpos (keywordEach [] X.env)).all (fun x => x.1.isSome)
      && decide ((e :: es).length + ([] : List Keyword).length + (if ([] : List Keyword).isEmpty then 0 else 1) < 30)) = true := by rfl)
    (hline : (apos.endLine == cpos.line) = true := by rfl) (hs : starEach (e :: es) X.env = (false, eval e X.env) :: starEach es X.env := by rfl) (hplain : (backTo cpos (starEach es X.env)).any (·.1) = false := by rfl) :
    PE X (.Call (.Attribute o name apos) (e :: es) [] cpos) (tBM X.K T r to t) := by
  intro pins s σ H Q I h
  refine wpAny_Call_method_late hbase hfew hline rfl (thn (ho pins s σ H _ I h) fun v s1 ⟨x, H1, I1, r1, ty, q1⟩ => ?_)
  obtain ⟨h1, h2⟩ := tyV_is I1 r1 ty
  refine ⟨T, id, pa, slot, hty, h1, h2, ?_⟩
  have hA := ha cpos pins s1 σ H1 _ I1 q1
  rw [hs] at hA ⊢
  refine Calls.callWith_builtin (by show (false || (backTo cpos (starEach es X.env)).any (·.1)) = false; rw [hplain] <;> rfl) (Calls.evalArgs_plain ?_)
  exact thn hA fun us s2 ⟨vs, H2, I2, r2, q2⟩ => hm pins s2 σ H2 x vs v us Q I2 r1 r2 q2
/- xs.append(e), list.index on a module's tuple .. are MtR facts of 06m -/
end
end L2

namespace L2
open PySem PySem.Spec PyProof.Rows

def MtM (X : Cx) (id : String) (r : V → List V → Hp → VK → Prop) : Prop :=
  ∀ (pins : List (Addr × Obj)) (s : Shared) (σ : St) (H : Hp) (x : V) (xs : List V) (v : Value) (us : List Value) (Q : VK), Inv X pins σ H s → RelV x v → Vals xs us → r x xs H Q →
    wpAny (model X.prog X.w) X.A (call (.builtin id) (v :: us)) (EP X pins σ Q) X.xe s

/-! ### lists of values -/
theorem Vals.one : ∀ {x : V} {us : List Value}, Vals [x] us → ∃ u, us = [u] ∧ RelV x u
  | _, _, .cons r .nil => ⟨_, rfl, r⟩
theorem Vals.rep {xs : List V} {us : List Value} (h : Vals xs us) : ∀ k : Nat, Vals (List.replicate k xs).flatten (List.replicate k us).flatten
  | 0 => .nil
  | k + 1 => by
    rw [List.replicate_succ, List.replicate_succ, List.flatten_cons, List.flatten_cons]
    exact Vals.append h (Vals.rep h k)
theorem foldl_rep (its : List Value) : ∀ (k : Nat) (acc : List Value),
    List.foldl (fun x1 x2 => x1 ++ x2) acc.toArray (List.replicate k its.toArray) = (acc ++ (List.replicate k its).flatten).toArray
  | 0, acc => by simp
  | k + 1, acc => by
    have e : acc.toArray ++ its.toArray = (acc ++ its).toArray := by simp
    have e2 : (acc ++ its) ++ (List.replicate k its).flatten = acc ++ (List.replicate (k + 1) its).flatten := by
      rw [List.replicate_succ, List.flatten_cons, List.append_assoc]
    rw [← e2, ← foldl_rep its k (acc ++ its), ← e, List.replicate_succ, List.foldl_cons]

section
variable {X : Cx} {pins : List (Addr × Obj)} {σ : St} {H : Hp} {s : Shared} {l b : Addr} {xs ys zs : List V}

/-! ### the two steps: a tracked list is rewritten, a new list is laid -/
theorem Inv.lset {its its' : List Value} {n : Nat} {f : Array Value → Array Value} {t' : Nat} (I : Inv X pins σ H s) (hH : H l = some (.lst xs))
    (e : s.heap.get? l = some { cls := .type "list", data := .seq its.toArray n }) (hf : f its.toArray = its'.toArray) (hv : Vals ys its') (hz : ys.length ≤ sizeLine) :
    Inv X pins σ (upd H l (.lst ys)) { s with heap := s.heap.update l (Obj.mapSeq f), toks := t' } := by
  have q := PySem.IsL.update e f
  rw [hf] at q
  refine I.write (x := l) (e := l) (by rw [hH]; exact trivial) (.inl rfl) (fun b' u hb hu => (Heap.get?_update_other s.heap (Obj.mapSeq f) (Ne.symm hb)).trans hu) ⟨_, q⟩ ?_
  exact ⟨hz, its', _, hv, q⟩
theorem Inv.lnew {its : List Value} {t' : Nat} (I : Inv X pins σ H s) (hv : Vals ys its) (hz : ys.length ≤ sizeLine) :
    Inv X pins σ (upd H s.heap.objs.size (.lst ys)) { s with heap := s.heap.push { cls := .type "list", data := .seq its.toArray }, toks := t' } :=
  I.laid (fun _ _ q => Heap.get?_push_of_some _ q) (Nat.le_refl _) ⟨hz, its, 0, hv, Heap.get?_push_size _ rfl⟩
theorem Inv.fresh (I : Inv X pins σ H s) : H s.heap.objs.size = none := I.hok.fresh (Nat.le_refl _)
theorem Inv.lstM (I : Inv X pins σ H s) (hH : H l = some (.lst xs)) : xs.length ≤ sizeLine ∧ ∃ (its : List Value) (n : Nat), Vals xs its ∧ xs.length = its.length ∧ s.heap.get? l = some { cls := .type "list", data := .seq its.toArray n } := by
  obtain ⟨z, its, n, r, e⟩ := I.hok l _ hH
  exact ⟨z, its, n, r, r.length, e⟩

theorem notLongL {n : Nat} (h : n ≤ sizeLine) : Builtin.List.listTooLong n = false := by
  unfold Builtin.List.listTooLong
  exact decide_eq_false (by omega)
end

section
variable {X : Cx}

/-! ### methods -/
def rAppend : V → List V → Hp → VK → Prop := fun x vs H Q => ∃ l xs y, x = .ref l ∧ vs = [y] ∧ H l = some (.lst xs) ∧ xs.length < sizeLine ∧ Q .non (upd H l (.lst (xs ++ [y])))
theorem mt_append : MtM X "list.append" rAppend := by
  intro pins s σ H x vs v us Q I rx rv h
  obtain ⟨l, xs, y, rfl, rfl, hH, hz, q⟩ := h
  cases rx
  obtain ⟨u, rfl, ru⟩ := rv.one
  obtain ⟨z, its, n, r, hl, e⟩ := I.lstM hH
  refine call_meets F.slot_list_append ⟨_, e, rfl⟩ F.entry_list_append (F.args_list_append_2 _ _) (PySem.list_append l its.toArray n u (by rw [List.size_toArray]; omega)) ⟨e, ?_⟩
  refine ⟨.non, _, I.lset (its' := its ++ [u]) hH e (by simp) (r.append (.cons ru .nil)) ?_, rfl, q⟩
  rw [List.length_append, List.length_singleton]
  omega

def rExtend : V → List V → Hp → VK → Prop := fun x vs H Q => ∃ l b xs zs, x = .ref l ∧ vs = [.ref b] ∧ H l = some (.lst xs) ∧ H b = some (.lst zs) ∧ xs.length + zs.length ≤ sizeLine ∧ Q .non (upd H l (.lst (xs ++ zs)))

def rPop : V → List V → Hp → VK → Prop := fun x vs H Q => ∃ l xs y, x = .ref l ∧ vs = [] ∧ H l = some (.lst xs) ∧ xs[xs.length - 1]? = some y ∧ Q y (upd H l (.lst xs.dropLast))

def rPopAt : V → List V → Hp → VK → Prop := fun x vs H Q => ∃ l xs i k y, x = .ref l ∧ vs = [.int i] ∧ H l = some (.lst xs) ∧ -(2 ^ 63) ≤ i ∧ i < 2 ^ 63 ∧ seqIndex? i xs.length = some k ∧ xs[k]? = some y ∧ Q y (upd H l (.lst (xs.eraseIdx k)))

def rReverse : V → List V → Hp → VK → Prop := fun x vs H Q => ∃ l xs, x = .ref l ∧ vs = [] ∧ H l = some (.lst xs) ∧ Q .non (upd H l (.lst xs.reverse))

def rClear : V → List V → Hp → VK → Prop := fun x vs H Q => ∃ l xs, x = .ref l ∧ vs = [] ∧ H l = some (.lst xs) ∧ Q .non (upd H l (.lst []))

/-! ### list + list, list += list, list * int -/
def rCat : R2 := fun x y H Q => ∃ l b xs zs, x = .ref l ∧ y = .ref b ∧ H l = some (.lst xs) ∧ H b = some (.lst zs) ∧ xs.length + zs.length ≤ sizeLine ∧ ∀ p, H p = none → Q (.ref p) (upd H p (.lst (xs ++ zs)))
theorem op_cat : OpR X (binaryOp .Add) rCat := by
  intro pins s σ H x y v u Q I rx ry h
  obtain ⟨l, b, xs, zs, rfl, rfl, hH, hB, hz, q⟩ := h
  cases rx
  cases ry
  obtain ⟨z, its, n, r, hl, e⟩ := I.lstM hH
  obtain ⟨z2, its2, n2, r2, hl2, e2⟩ := I.lstM hB
  refine PySem.P.add_list e e2 ?_ (by rw [List.size_toArray, List.size_toArray]; omega)
  have ea : its.toArray ++ its2.toArray = (its ++ its2).toArray := by simp
  rw [ea]
  exact ⟨.ref _, _, I.lnew (t' := s.toks) (r.append r2) (by rw [List.length_append]; omega), rfl, q _ I.fresh⟩
/-- a list times an int (a negative one is nothing) -/
def rRep : R2 := fun x y H Q => ∃ l k xs, x = .ref l ∧ y = .int k ∧ H l = some (.lst xs) ∧ -(2 ^ 63) ≤ k ∧ k < 2 ^ 63 ∧ xs.length * k.toNat ≤ sizeLine ∧
  ∀ p, H p = none → Q (.ref p) (upd H p (.lst (List.replicate k.toNat xs).flatten))
theorem len_rep {α : Type} (xs : List α) (k : Nat) : (List.replicate k xs).flatten.length = k * xs.length := by
  induction k with
  | zero => simp
  | succ k ih => rw [List.replicate_succ, List.flatten_cons, List.length_append, ih, Nat.succ_mul, Nat.add_comm]
theorem op_rep : OpR X (binaryOp .Mult) rRep := by
  intro pins s σ H x y v u Q I rx ry h
  obtain ⟨l, k, xs, rfl, rfl, hH, h1, h2, hz, q⟩ := h
  cases rx
  obtain ⟨t, rfl⟩ := ry
  obtain ⟨z, its, n, r, hl, e⟩ := I.lstM hH
  have hlen : its.toArray.size * k.toNat ≤ sizeLine := by rw [List.size_toArray, ← hl]; exact hz
  have hcap : ¬ its.toArray.size * k.toNat > (2 ^ 63 - 1) / 8 := by
    have : (sizeLine : Nat) ≤ (2 ^ 63 - 1) / 8 := by decide
    omega
  have hfit : ¬ (!Builtin.List.listFitsIndex k) = true := by
    rw [fitsIndex_both h1 h2]
    exact Bool.false_ne_true
  have hlong : ¬ Builtin.List.listTooLong (its.toArray.size * k.toNat) = true := by
    rw [notLongL hlen]
    exact Bool.false_ne_true
  have hnew : List.foldl (fun x1 x2 => x1 ++ x2) #[] (List.replicate (if its.toArray.isEmpty = true then 0 else k.toNat) its.toArray) = (List.replicate k.toNat its).flatten.toArray := by
    have f0 : ∀ m : Nat, List.foldl (fun x1 x2 => x1 ++ x2) #[] (List.replicate m its.toArray) = (List.replicate m its).flatten.toArray := fun m => by
      have := foldl_rep its m []
      rw [List.nil_append] at this
      exact this
    rw [f0]
    cases its with
    | nil => simp
    | cons a r' => rw [if_neg (by simp)]
  refine wpAny_binaryOp_repeat_ref (T := "list") (U := "int") (by decide) ⟨_, e, rfl⟩ (fun s' => typeIs_int s' k t) noFill_list_mul F.fills_int_mul F.slot_int_rmul repeat_list F.slot_int_index.lookup
    (call_meets F.slot_int_rmul (typeIs_int s k t) F.entry_int_rmul (F.args_int_rmul_2 _ _) (int___rmul___int_list k t l its.toArray n)
      ⟨e, rfl, ⟨_, e, rfl⟩, call_meets F.slot_list_mul ⟨_, e, rfl⟩ F.entry_list_mul (F.args_list_mul_2 _ _) (AutoListH.list___mul___list_int_3 l its.toArray n k t hfit hcap hlong) ⟨e, ?_⟩⟩)
  rw [hnew]
  exact ⟨.ref _, _, I.lnew (t' := s.toks) (r.rep k.toNat) (by rw [len_rep, Nat.mul_comm]; exact hz), rfl, q _ I.fresh⟩

/-! ### del xs[i] -/
end

/-! ### xs[a:b] = ys -/
section
variable {prog : Program} {w : World} {A : Around} {E : Value → Shared → Prop} {s : Shared}
set_option maxRecDepth 100000 in
end

section
variable {X : Cx}
end
end L2

namespace Att
open PySem PySem.W PySem.Calls PyProof.Rows

/-! ### the script -/
theorem ints_of_wellAll {P : Params} {h : Heap} : ∀ (ns : List Int) (vs : List Value), WellAll P h vs (ns.map WData.int) → IntsAre vs ns := by
  intro ns
  induction ns with
  | nil =>
    intro vs w
    rw [List.map_nil] at w
    cases w
    exact .nil
  | cons n ns ih =>
    intro vs w
    rw [List.map_cons] at w
    cases w with
    | cons a b =>
      cases a
      exact .cons _ _ (ih _ b)

theorem script_of {l : OpenLaw} {n : Nat} (hn : l.most = some n) {P : Params} {h : Heap} {args : List WData} {vals : List Value}
    (hpre : l.row.toRowW.claim.pre args = true) (hwl : WellAll P h vals args) :
    ∃ a vs ns, vals = [Value.ref a] ∧ args = [WData.list (ns.map WData.int)] ∧ h.get? a = some { cls := .type "list", data := .seq vs.toArray } ∧ IntsAre vs ns ∧ ns.length ≤ n := by
  have hsh : WShape.hasAll [] args [.list .int] = true := (pre_splitW hpre).1
  have hc : l.pre.holds [] { args := args } = true := (pre_splitW hpre).2
  obtain ⟨d, r, rfl, h1, h2⟩ := hasAllW_cons hsh
  obtain rfl := hasAllW_nil h2
  obtain ⟨xs, rfl, h3⟩ := hasW_list h1
  obtain ⟨ns, rfl⟩ := items_int h3
  have hlen : ns.length ≤ n := by
    unfold OpenLaw.pre at hc
    have h4 : (WTm.not (.lt (.lit (.int (n : Int))) (.len (.arg 0)))).holds [] { args := [.list (ns.map .int)] } = true := by
      have h4 := (holds_andW hc).1
      rw [hn] at h4
      exact h4
    have h5 := condW_of h4 (w_not (w_lt w_lit (w_len_list (w_arg rfl))))
    rw [List.length_map] at h5
    refine Nat.le_of_not_lt fun q => ?_
    have q' : (n : Int) < ((ns.length : Nat) : Int) := by omega
    first
      | (rw [decide_eq_true q'] at h5; exact absurd h5 (by decide))
      | (simp at h5; omega)
  cases hwl with
  | cons w1 w2 =>
    cases w2
    cases w1 with
    | list ho hall => exact ⟨_, _, ns, rfl, rfl, ho, ints_of_wellAll ns _ hall, hlen⟩

theorem post_true (l : OpenLaw) (args : List WData) : l.row.toRowW.claim.post args (.bool true) args = true :=
  postW_of (r := l.row.toRowW) (X := (true == true))
    (show WShape.has [] (.bool true) .bool = true by first | rfl | decide | simp [WShape.has, WShape.arms, WShape.armsAll])
    (show (WTm.eq .res (.lit (.bool true))).value [] { args := args, res := some (.bool true), after := args } = some (.bool (true == true)) from w_eq_bool (w_res rfl) w_lit) rfl

/-! ### the attachment: holds_open's last premise (the goal 'hc' behind k_head) from a wpAny of the law's body -/

/-- the same from a codeAny of the CALL (for a layer whose function contracts speak of calls) -/
theorem attach_call {l : OpenLaw} {n : Nat} {q : Program} {loose : List Str} {XP : (Str → Option Value) → Heap → Prop} {YP : World → Heap → Prop} {d : DefRec}
    (hn : l.most = some n) (hdf : d.params.defaults = [])
    (call : ∀ (w : World) (s₀ s₁ : Shared) (mg mb : Str → Option Value) (fa : Addr) (o : Obj) (pm cd doc : Value) (a : Addr) (vs : List Value) (ns : List Int),
      Ground q loose [] XP w s₀ mg mb s₁.heap → YP w s₁.heap →
      s₁.heap.get? fa = some o → o.data = .func (docDef d.name d.params d.body d.scope pm cd doc) → s₁.heap.CodeRec cd d.name → mg d.name = some (.ref fa) →
      s₁.heap.get? a = some { cls := .type "list", data := .seq vs.toArray } → IntsAre vs ns → ns.length ≤ n → s₁.gens = #[] →
      codeAny (model l.prog w) callerA (.call (.ref fa) ⟨[.ref a], []⟩) (fun r s' => r = .ok (.ret (.bool true)) ∧ OldK s₁.heap s'.heap ∧ s'.os = s₁.os ∧ AllBare s'.gens) s₁) :
    WalkO q loose XP YP l.row.toRowW d [] (fun f vs => PySem.call f vs) := by
  intro w s₀ s₁ mg mb G Y fa o pm cd doc dV kV ho hd hcd hD hmg hg args vals as hpre hlay hrd hwl hlo
  obtain rfl : dV = .none := Dflts.none hD hdf
  obtain rfl : kV = .none := Dflts.noKw hD
  obtain ⟨a, vs, ns, rfl, rfl, hobj, hints, hlen⟩ := script_of hn hpre hwl
  refine enter_call (codeAny_mono (call w s₀ s₁ mg mb fa o pm cd doc a vs ns G Y ho (fd_plain hd) hcd hmg hobj hints hlen hg) fun r s' hq => ?_)
  obtain ⟨rfl, h2, h3, h4⟩ := hq
  exact ⟨.inl ⟨.bool true, .bool true, [], rfl, fun _ => rfl, .bool true, post_true l _, fun _ => ⟨List.Pairwise.nil, fun _ hm => (nomatch hm)⟩⟩, h2, h3, h4⟩


/-! ### rules over ANY heap (no ledger) from facts about the written part K: the library's own take a ledger (News) for what they write -/
section
variable {prog : Program} {w : World} {A : Around} {E : Value → Shared → Prop} {s : Shared} {K : Frag}





/-! the whole heap as the ledger: makes every rule that writes through a ledger a rule over any heap -/
def noObjs (h : Heap) : Heap := { h with objs := #[] }
def ledger (h : Heap) (L d : Addr) : List (Addr × Obj) := (List.range h.objs.size).filterMap fun a => if a = L ∨ a = d then none else (h.get? a).map fun o => (a, o)

end
end Att

namespace L2
open PySem PySem.Spec PyProof.Rows

theorem vals_ints : ∀ {vs : List Value} {ns : List Int}, IntsAre vs ns → Vals (ns.map V.int) vs
  | _, _, .nil => .nil
  | _, _, .cons n t h => .cons ⟨t, rfl⟩ (vals_ints h)

/-- nothing is tracked but the script, known to the object (or it is an object of the module) -/
def Only (H : Hp) : Prop := ∀ b, H b = none ∨ ∃ o xs, H b = some (.frz o (.lst xs))

/-- THE HEAD: the law's promise, at the heap behind the top. F, the promise of the law's def, may use that base is part of the heap (so K.In base, base.Ns mainGlobals mg stand in Mod) -/
theorem law_call {P : Program} {w : World} {K : PySem.W.Frag} {mg mb : Str → Option Value} {CX : CXT} {k : Nat} {fa a : Addr} {fd : FuncData} {x : Str} {sp : Sp} {s₁ : Shared} {vs : List Value} {ns : List Int}
    (KX : K.In s₁.heap) (hns : s₁.heap.Ns mainGlobals mg) (hb : s₁.heap.Ns builtinsNs mb) (hbb : ∀ x : Str, x ≠ "__name__" → mb x = bootBuiltins x) (hlim : s₁.heap.NoLimit) (hg : s₁.gens = #[])
    (ha : s₁.heap.get? a = some { cls := .type "list", data := .seq vs.toArray }) (hi : IntsAre vs ns) (hl : ns.length ≤ sizeLine) (hr : Room k callerA)
    (F : ∀ base : Heap, K.In base → base.Ns mainGlobals mg → FnOk P w K mg base CX k fa fd [x] sp) (hbind : ∀ (s : Shared) (u : Value), BindsTo s fd ⟨[u], []⟩ [(x, u)])
    (hsp : ∀ H : Hp, Only H → SqL K H a (ns.map V.int) → sp [.ref a] H (fun v _ => v = .bl true) fun _ _ _ => False)
    (hCX : ∀ H e s', CX [] H s₁ (fun _ _ _ => False) e s' → False) :
    codeAny (model P w) callerA (.call (.ref fa) ⟨[.ref a], []⟩) (fun r s' => r = .ok (.ret (.bool true)) ∧ OldK s₁.heap s'.heap ∧ s'.os = s₁.os ∧ AllBare s'.gens) s₁ := by
  have rv := vals_ints hi
  have lenV := hi.length
  -- from an abstract heap in which nothing but the script may be tracked
  have core : ∀ H : Hp, Only H → SqL K H a (ns.map V.int) → HOk P w H s₁.heap → (∀ b, H b ≠ none → b = a) → (H a ≠ none → K.lookup a = none) →
      codeAny (model P w) callerA (.call (.ref fa) ⟨[.ref a], []⟩) (fun r s' => r = .ok (.ret (.bool true)) ∧ OldK s₁.heap s'.heap ∧ s'.os = s₁.os ∧ AllBare s'.gens) s₁ := by
    intro H hO hS hok hA hK
    have base_of : ∀ {b : Addr} {o : Obj}, s₁.heap.get? b = some o → H b = none → (hidT s₁.heap H).get? b = some o := fun e n => hidT_get e n
    have noA : ∀ {b : Addr} {o : Obj} {es : Array DictEntry} {ep : Nat}, s₁.heap.get? b = some o → o.data = .dict es ep → H b = none := fun {b o es ep} e d => by
      cases q : H b with
      | none => rfl
      | some u =>
        have e' : b = a := hA b (by rw [q]; simp)
        subst e'
        rw [ha] at e; cases e
        have d' : Data.seq vs.toArray _ = Data.dict es ep := d
        cases d'
    have nsK : ∀ {b : Addr} {m : Str → Option Value}, s₁.heap.Ns b m → (hidT s₁.heap H).Ns b m := fun {b m} ⟨o, es, ep, e, d, r⟩ => ⟨o, es, ep, base_of e (noA e d), d, r⟩
    have hKb : K.In (hidT s₁.heap H) := fun b o e => base_of (KX b o e) (by
      cases q : H b with
      | none => rfl
      | some u =>
        have e' : b = a := hA b (by rw [q]; simp)
        subst e'
        rw [hK (by rw [q]; simp)] at e; cases e)
    have hM : Mod K mg (hidT s₁.heap H) := ⟨hKb, nsK hns, ⟨mb, nsK hb, hbb⟩, let ⟨mc, h1, h2⟩ := hlim; ⟨mc, nsK h1, h2⟩⟩
    have e0 : Env0 P w K mg (hidT s₁.heap H) callerA [] s₁ H := ⟨rfl, hM, fun b o e => of_hidT e, Nat.le_of_eq (hidT_size _ _), trivial, fun b hb => absurd (show b ∈ ([] : List Addr) from hb) (by simp), hok, .of_eq hg⟩
    refine codeAny_mono ((F _ hKb (nsK hns)).run callerA [] s₁ H ⟨[.ref a], []⟩ [.ref a] [.ref a] _ _ hr e0 (hbind s₁ (.ref a)) (.cons rfl .nil) (hsp H hO hS)) fun r s' h => ?_
    cases r with
    | error e => exact (hCX H e s' h).elim
    | ok fl =>
      cases fl with
      | next => exact False.elim h
      | brk => exact False.elim h
      | cont => exact False.elim h
      | ret u =>
        obtain ⟨v, H', os, bare, un, hok', r', q⟩ := h
        have q' : v = .bl true := q
        subst q'
        obtain rfl : u = Value.bool true := r'
        refine ⟨rfl, OldK.of_keep fun b o e => ?_, os, bare⟩
        cases q : H b with
        | none => exact un.keep b o e q (by intro z; exact absurd (show b ∈ ([] : List Addr) from z) (by simp)) (by simp)
        | some u =>
          rcases hO b with z | ⟨ob, xs, z⟩
          · rw [q] at z; cases z
          · have z2 := un.frzs b ob _ z
            obtain ⟨e1, _⟩ := hok b _ z
            obtain ⟨e2, _⟩ := hok' b _ z2
            rw [e] at e1; cases e1
            exact e2
  cases hk : K.lookup a with
  | some o =>
    -- the script is one of the module's own objects
    have e := KX a o hk
    rw [ha] at e
    cases e
    refine core (fun _ => none) (fun _ => .inl rfl) (.inr ⟨_, vs.toArray, _, hk, rfl, rfl, rfl, by rw [List.size_toArray, lenV]; exact hl, by simpa using rv⟩) (fun b u z => by have z' : (none : Option HO) = some u := z; cases z') (fun b z => absurd rfl z) fun z => absurd rfl z
  | none =>
    refine core (fun b => if b = a then some (.frz { cls := .type "list", data := .seq vs.toArray } (.lst (ns.map V.int))) else none) (fun b => ?_) (.inl (.inr ⟨{ cls := .type "list", data := .seq vs.toArray }, if_pos rfl⟩)) (fun b u z => ?_) (fun b z => ?_) fun _ => hk
    · by_cases hb : b = a
      · exact .inr ⟨_, _, if_pos hb⟩
      · exact .inl (if_neg hb)
    · by_cases hb : b = a
      · have z' := (if_pos hb).symm.trans z
        cases z'
        subst hb
        exact ⟨ha, by rw [List.length_map]; exact hl, vs, _, rv, ha⟩
      · have z' := (if_neg hb).symm.trans z
        cases z'
    · by_cases hb : b = a
      · exact hb
      · exact absurd (if_neg hb) z
end L2

namespace L2
open PySem PySem.Spec PyProof.Rows

abbrev KOf {K : PySem.W.Frag} {h : Heap} (_ : K.In h) : PySem.W.Frag := K

/-- the goal that k_head leaves (case hc), from the law's promise. F gives the function object fd (K's own) once, then the promise over every base -/
theorem walk_of {l : PySem.W.OpenLaw} {n k : Nat} {q : Program} {loose : List Str} {XP : (Str → Option Value) → Heap → Prop} {YP : World → Heap → Prop} {d : DefRec} {K : Params → PySem.W.Frag} {CX : World → CXT} {sp : World → Sp} {x : Str}
    (hn : l.most = some n) (hn2 : n ≤ sizeLine) (hdf : d.params.defaults = []) (hr : Room k callerA)
    (hY : ∀ (w : World) (h : Heap), YP w h → (K w.params).In h)
    (F : ∀ (w : World) (mg : Str → Option Value) (fa : Addr) (h : Heap), (K w.params).In h → h.Ns mainGlobals mg → mg d.name = some (.ref fa) →
      ∃ fd : FuncData, (∀ (s : Shared) (u : Value), BindsTo s fd ⟨[u], []⟩ [(x, u)]) ∧
        ∀ base : Heap, (K w.params).In base → base.Ns mainGlobals mg → FnOk l.prog w (K w.params) mg base (CX w) k fa fd [x] (sp w))
    (hsp : ∀ (w : World) (H : Hp) (a : Addr) (ns : List Int), ns.length ≤ n → Only H → SqL (K w.params) H a (ns.map V.int) → sp w [.ref a] H (fun v _ => v = .bl true) fun _ _ _ => False)
    (hCX : ∀ (w : World) (H : Hp) (s : Shared) (e : Value) (s' : Shared), CX w [] H s (fun _ _ _ => False) e s' → False) :
    PySem.W.WalkO q loose XP YP l.row.toRowW d [] (fun f vs => PySem.call f vs) := by
  refine Att.attach_call hn hdf fun w s₀ s₁ mg mb fa o pm cd doc a vs ns G Y ho hd hcd hmg hobj hints hlen hg => ?_
  have KX := hY w _ Y
  obtain ⟨fd, hb, hF⟩ := F w mg fa _ KX G.T.g hmg
  exact law_call KX G.T.g G.T.b G.T.builtins G.T.nolimit hg hobj hints (Nat.le_trans hlen hn2) hr hF hb (fun H hO hS => hsp w H a ns hlen hO hS) fun H e s' => hCX w H s₁ e s'
end L2

/- THE LAST THEOREM (shape; LID, My.* are yours):
   My.Adr: a structure of the addresses that your layer names (classes, functions); My.Txt K t: a structure (Prop) of the equations over K;
   My.txt_mk : {K} {implicit addresses ..} (e1 : nsIn K mainGlobals "law" = some (some (.ref f))) (e2 : K.lookup f = some ⟨oc, od, .func (fnOf "law" "law" params body scope dV kV doc pm an cdv ct), sl⟩) (e3 : codeIn K cdv "law" = true) .. : ∃ t, My.Txt K t

set_option maxRecDepth 100000 in
set_option maxHeartbeats 0 in
theorem PySem.Challenge.cw_LID_holds : PySem.Challenge.rw_LID.Holds := by
  w_on; o_law; k_head; (case hw => w_witness2)
  k_fill
  refine L2.walk_of (l := PySem.Challenge.rw_LID) (n := 63) (k := 40) (x := "script") (CX := fun w => ..) (sp := fun _ => My.sp_law) rfl (by decide) rfl ⟨rfl, by decide, by decide⟩ (fun w h Y => PySem.W.kIn_of Y) ?F ?S ?C
  case F =>
    intro w mg fa h KX G hmg
    have T : ∃ t, My.Txt (L2.KOf KX) t := by
      dsimp only [L2.KOf]                          -- K must stand as «<heap const> w.params» for k_is
      refine' My.txt_mk ?e1 ?e2 ?e3 ..
      (case e1 => PySem.W.k_is)                    -- in the order: a name -> its address -> its object -> its parts
      (case e2 => PySem.W.k_is)
      ..
    obtain ⟨t, T⟩ := T
    have e0 := hmg.symm.trans (PySem.W.mg_of KX G T.law)
    cases e0                                       -- fa is the law's own address
    exact ⟨_, fun s u => .of_eq rfl, fun base kb nb => My.law_fn T kb nb⟩     -- if «.of_eq rfl» comes too early: refine' ⟨_, ?b, fun base kb nb => My.law_fn T kb nb⟩; exact fun s u => .of_eq rfl
  case S => exact fun w H a ns hl hO hS => ..
  case C => exact ..
(the tactic k_is has no namespace: write k_is) -/

/-! SHORT WORDS over the layer: a def of the text, its body, what a loop and a test want. -/
namespace L2
open PySem PySem.Spec PyProof.Rows

/-! ### the text by places -/
/-- the j-th statement of a class's body -/
def inClass (s : Stmt) (j : Nat) : Stmt := match s with
  | .ClassDef _ _ _ body _ _ _ _ _ _ _ => body.getD j (.Pass ⟨0, 0, 0, 0⟩)
  | _ => .Pass ⟨0, 0, 0, 0⟩
def defArgs (s : Stmt) : Arguments := match s with
  | .FunctionDef _ a _ _ _ _ _ _ _ _ => a
  | _ => { posonlyargs := [], args := [], vararg := none, kwonlyargs := [], kw_defaults := [], kwarg := none, defaults := [] }
def defBody (s : Stmt) : List Stmt := match s with
  | .FunctionDef _ _ b _ _ _ _ _ _ _ => b
  | _ => []
def defScope (s : Stmt) : Scope := match s with
  | .FunctionDef _ _ _ _ _ _ sc _ _ _ => sc
  | _ => { kind := .function, names := [], isGenerator := false, isCoroutine := false }

/-! ### no exception leaves a def -/
abbrev CX0 : CXT := fun _ _ _ _ _ _ => False
abbrev E0 : XK := fun _ _ _ => False
theorem pass0 {X : Cx} : Passes CX0 X E0 := fun _ _ _ _ _ _ _ h => h.elim

/-! ### a def (or method) of the text as it stands behind the top -/
structure Fun (K : PySem.W.Frag) (x qual : Str) (st : Stmt) (f : Addr) (fd : FuncData) : Prop where
  ex : ∃ (oc : Value) (od : Option Addr) (kV doc pm : Value) (an : Option Addr) (cdv ct : Value) (osl : Array (Option Value)),
    fd = PySem.W.fnOf x qual (defArgs st) (defBody st) (defScope st) .none kV doc pm an cdv ct ∧ K.lookup f = some ⟨oc, od, .func fd, osl⟩ ∧ PySem.W.codeIn K cdv qual = true
  kp : PySem.W.keepIn K (.ref f) = true
section
variable {P : Program} {w : World} {K : PySem.W.Frag} {mg : Str → Option Value} {base : Heap}
/-- THE RULE for a def: its body as a term of rules, and the reading of that term -/
theorem Fun.ok {x qual : Str} {st : Stmt} {f : Addr} {fd : FuncData} {N ps : List Str} {k : Nat} {sp : Sp} (F : Fun K x qual st f fd) (S : FnScope N ps (defScope st)) (len : ∀ vs H Q E, sp vs H Q E → vs.length = ps.length)
    (hbody : ∀ (cdv : Value) (A : Around) (outer : List Env) (s : Shared) (H : Hp) (vs : List V) (Q : VK) (E : XK), Room k (A.deeper (envOfC qual (defScope st) s.heap.objs.size f cdv)) → sp vs H Q E →
      ∃ t, PSs (cxOf CX0 P w K mg base N qual (defScope st) f cdv A outer s H E).nox (defBody st) t ∧ t { nx := fun _ H' => Q .non H', rt := Q } (start N vs) H) : FnOk P w K mg base CX0 (k + 1) f fd ps sp := by
  obtain ⟨oc, od, kV, doc, pm, an, cdv, ct, osl, rfl, lk, hcd⟩ := F.ex
  refine fn_of lk hcd S len fun A outer s H vs Q E hr hsp => ?_
  obtain ⟨t, h, q⟩ := hbody cdv A outer s H vs Q E hr hsp
  exact ⟨t, h.nox, q⟩
/-- how its arguments bind (no defaults): h is «fun _ _ _ _ _ _ us hl => match us, hl with | [_, _], _ => rfl», one _ a parameter -/
theorem Fun.binds {x qual : Str} {st : Stmt} {f : Addr} {fd : FuncData} {ps : List Str} (F : Fun K x qual st f fd)
    (h : ∀ (kV doc pm : Value) (an : Option Addr) (cdv ct : Value) (us : List Value), us.length = ps.length → bindArgs (PySem.W.fnOf x qual (defArgs st) (defBody st) (defScope st) .none kV doc pm an cdv ct) ⟨us, []⟩ = pure (ps.zip us)) : Binds K fd ps [] := by
  obtain ⟨oc, od, kV, doc, pm, an, cdv, ct, osl, rfl, lk, hcd⟩ := F.ex
  exact .all (h kV doc pm an cdv ct)
theorem fun_mk {x qual : Str} {st : Stmt} {f : Addr} {oc : Value} {od an : Option Addr} {osl : Array (Option Value)} {kV doc pm cdv ct : Value} (l : K.lookup f = some ⟨oc, od, .func (PySem.W.fnOf x qual (defArgs st) (defBody st) (defScope st) .none kV doc pm an cdv ct), osl⟩)
    (c : PySem.W.codeIn K cdv qual = true) (k : PySem.W.keepIn K (.ref f) = true) : Fun K x qual st f (PySem.W.fnOf x qual (defArgs st) (defBody st) (defScope st) .none kV doc pm an cdv ct) := ⟨⟨oc, od, kV, doc, pm, an, cdv, ct, osl, rfl, l, c⟩, k⟩
end
theorem small1000 {n : Nat} (h : n ≤ 1000) : n < sizeLine := Nat.lt_of_le_of_lt h (by decide)

/-! ### expressions in short: the name that stands in the i-th slot -/
section
variable {X : Cx}
theorem pv (i : Nat) {x : Str} {pos : Pos} (hN : X.N[i]? = some x := by rfl) (hv : Vis X.env.scope x := by first | exact Or.inl rfl | exact Or.inr (Or.inl rfl) | exact Or.inr (Or.inr rfl)) (hd : (x == ("__debug__" : Str)) = false := by decide)
    (hcd : (x == ("__classdict__" : Str)) = false := by decide) : PE X (.Name x pos) (tVar i) := pe_var hN hv hd hcd
end

/-! ### tests -/
theorem iteF {A B : Prop} (h : B) : if false = true then A else B := by
  rw [if_neg Bool.false_ne_true]
  exact h
theorem iteT {A B : Prop} (h : A) : if true = true then A else B := by
  rw [if_pos rfl]
  exact h
theorem ite2 {c A B : Prop} [Decidable c] (h1 : c → A) (h2 : ¬ c → B) : if c then A else B := by
  by_cases h : c
  · rw [if_pos h]
    exact h1 h
  · rw [if_neg h]
    exact h2 h

/-! ### heaps -/
/-- all that was tracked is as it was -/
def Same (H H' : Hp) : Prop := ∀ b o, H b = some o → H' b = some o
theorem Same.refl (H : Hp) : Same H H := fun _ _ h => h
theorem Same.trans {H H1 H2 : Hp} (a : Same H H1) (b : Same H1 H2) : Same H H2 := fun c o h => b c o (a c o h)
theorem Same.free {H H' : Hp} (e : Same H H') {l : Addr} (h : H' l = Option.none) : H l = Option.none := by
  cases q : H l with
  | none => rfl
  | some o =>
    rw [e l o q] at h
    cases h
theorem Same.seq {K : PySem.W.Frag} {H H' : Hp} {a : Addr} {xs : List V} (e : Same H H') (h : SqL K H a xs) : SqL K H' a xs := by
  rcases h with (h | ⟨o, h⟩) | h
  · exact .inl (.inl (e _ _ h))
  · exact .inl (.inr ⟨o, e _ _ h⟩)
  · exact .inr h

end L2

set_option maxHeartbeats 4000000
namespace L2
open PySem PySem.Spec PyProof.Rows

/-! ### comprehensions: the cells that a block's names lie in -/
def clStep (env : Env) (cs : List (Str × Addr)) (y : Str × NameKind) : List (Str × Addr) :=
  if (y.2 == NameKind.free) = true then (y.1, (env.cells.lookup y.1).getD 0) :: cs else cs
def clOf (scope : Scope) (env : Env) : List (Str × Addr) := scope.names.foldl (clStep env) []
theorem clos_eq {scope : Scope} {env : Env} (h : ∀ y ∈ scope.names, y.2 = .free → ∃ c, env.cells.lookup y.1 = some c) : closureFor scope env = pure (clOf scope env) := by
  have main : ∀ (l : List (Str × NameKind)) (cs : List (Str × Addr)), (∀ y ∈ l, y.2 = .free → ∃ c, env.cells.lookup y.1 = some c) →
      (forIn l cs fun (y : Str × NameKind) (r : List (Str × Addr)) => match y with | (name, kind) => if (kind == NameKind.free) = true then (do let a ← cellOf env name; pure (ForInStep.yield ((name, a) :: r)) : Sem _) else pure (ForInStep.yield r)) = (pure (l.foldl (clStep env) cs) : Sem _) := by
    intro l
    induction l with
    | nil => intro cs _; rfl
    | cons y l ih =>
      intro cs hl
      obtain ⟨n, k⟩ := y
      rw [List.forIn_cons, List.foldl_cons]
      have hr := fun cs' => ih cs' fun z hz => hl z (List.mem_cons_of_mem _ hz)
      by_cases hk : (k == NameKind.free) = true
      · obtain ⟨c, hc⟩ := hl (n, k) List.mem_cons_self (by simpa using hk)
        have hc : env.cells.lookup n = some c := hc
        have e1 : clStep env cs (n, k) = (n, c) :: cs := by unfold clStep; rw [if_pos hk, hc]; rfl
        have e2 : cellOf env n = pure c := by unfold cellOf; rw [hc]
        rw [e1, ← hr]
        simp only [if_pos hk, e2]
        rfl
      · have e1 : clStep env cs (n, k) = cs := by unfold clStep; rw [if_neg hk]
        rw [e1, ← hr]
        simp only [if_neg hk]
        rfl
  unfold clOf closureFor
  have := main scope.names [] h
  show (forIn scope.names [] _ >>= fun r => pure r) = _
  rw [this]
  rfl
theorem mem_cl {env : Env} : ∀ {l : List (Str × NameKind)} {cs : List (Str × Addr)} {p : Str × Addr}, p ∈ l.foldl (clStep env) cs → p ∈ cs ∨ ((p.1, NameKind.free) ∈ l ∧ p.2 = (env.cells.lookup p.1).getD 0)
  | [], _, _, h => .inl h
  | y :: l, cs, p, h => by
    rcases mem_cl (l := l) h with h | ⟨h, e⟩
    · unfold clStep at h
      by_cases hk : (y.2 == NameKind.free) = true
      · rw [if_pos hk] at h
        rcases List.mem_cons.mp h with rfl | h
        · refine .inr ⟨?_, rfl⟩
          have e : y.2 = NameKind.free := by simpa using hk
          rw [← e]
          exact List.mem_cons_self
        · exact .inl h
      · rw [if_neg hk] at h; exact .inl h
    · exact .inr ⟨List.mem_cons_of_mem _ h, e⟩
theorem cl_mem {env : Env} : ∀ {l : List (Str × NameKind)} {cs : List (Str × Addr)} {x : Str}, ((x, NameKind.free) ∈ l ∨ ∃ c, (x, c) ∈ cs) → ∃ c, (x, c) ∈ l.foldl (clStep env) cs
  | [], _, _, h => by
    rcases h with h | h
    · cases h
    · exact h
  | y :: l, cs, x, h => by
    refine cl_mem (l := l) ?_
    rcases h with h | ⟨c, h⟩
    · rcases List.mem_cons.mp h with e | h
      · subst e
        exact .inr ⟨_, by unfold clStep; rw [if_pos (by rfl)]; exact List.mem_cons_self⟩
      · exact .inl h
    · refine .inr ⟨c, ?_⟩
      unfold clStep
      split
      · exact List.mem_cons_of_mem _ h
      · exact h
theorem lookup_of_mem {α : Type} : ∀ {l : List (Str × α)} {x : Str} {c : α}, (x, c) ∈ l → ∃ d, l.lookup x = some d
  | [], _, _, h => by cases h
  | (n, d) :: l, x, c, h => by
    by_cases e : (x == n) = true
    · exact ⟨d, by rw [List.lookup_cons, e]⟩
    · rcases List.mem_cons.mp h with q | h
      · cases q; simp at e
      · obtain ⟨d', hd⟩ := lookup_of_mem h
        exact ⟨d', by rw [List.lookup_cons, Bool.eq_false_iff.mpr e]; exact hd⟩
theorem relabel_free {env : Env} : ∀ {names : List (Str × NameKind)} {x : Str} {k : NameKind}, (∀ y ∈ names, y.2 ≠ .cell) → (k = .cell ∨ k = .free) →
    (names.map fun (n, k) => if (k == NameKind.free && env.scope.kind == .function && env.kindOf n == some .cell) then (n, NameKind.cell) else (n, k)).lookup x = some k → (x, NameKind.free) ∈ names
  | [], _, _, _, _, h => by simp at h
  | (n, k') :: r, x, k, hc, hk, h => by
    have ih := @relabel_free env r x k (fun y hy => hc y (List.mem_cons_of_mem _ hy)) hk
    rw [List.map_cons, List.lookup_cons] at h
    by_cases hx : (x == n) = true
    · have e : x = n := by simpa using hx
      subst e
      by_cases hb : (k' == NameKind.free && env.scope.kind == .function && env.kindOf x == some .cell) = true
      · have : k' = .free := by
          have := (Bool.and_eq_true_iff.mp (Bool.and_eq_true_iff.mp hb).1).1
          simpa using this
        subst this
        exact List.mem_cons_self
      · simp only [if_neg hb, hx] at h
        have e2 : k' = k := Option.some.inj h
        subst e2
        rcases hk with z | z
        · exact absurd z (hc _ List.mem_cons_self)
        · subst z; exact List.mem_cons_self
    · have hx' : (x == n) = false := Bool.eq_false_iff.mpr hx
      by_cases hb : (k' == NameKind.free && env.scope.kind == .function && env.kindOf n == some .cell) = true
      · simp only [if_pos hb, hx'] at h
        exact List.mem_cons_of_mem _ (ih h)
      · simp only [if_neg hb, hx'] at h
        exact List.mem_cons_of_mem _ (ih h)
theorem relabel_sees {env : Env} : ∀ {names : List (Str × NameKind)} {x : Str}, names.lookup x = some .free →
    (names.map fun (n, k) => if (k == NameKind.free && env.scope.kind == .function && env.kindOf n == some .cell) then (n, NameKind.cell) else (n, k)).lookup x = some .cell ∨
    (names.map fun (n, k) => if (k == NameKind.free && env.scope.kind == .function && env.kindOf n == some .cell) then (n, NameKind.cell) else (n, k)).lookup x = some .free
  | [], _, h => by simp at h
  | (n, k') :: r, x, h => by
    have ih := @relabel_sees env r x
    rw [List.lookup_cons] at h
    rw [List.map_cons, List.lookup_cons]
    by_cases hx : (x == n) = true
    · simp only [hx] at h
      have e : k' = .free := Option.some.inj h
      subst e
      by_cases hb : (NameKind.free == NameKind.free && env.scope.kind == .function && env.kindOf n == some .cell) = true
      · left; simp only [if_pos hb, hx]
      · right; simp only [if_neg hb, hx]
    · have hx' : (x == n) = false := Bool.eq_false_iff.mpr hx
      simp only [hx'] at h
      by_cases hb : (k' == NameKind.free && env.scope.kind == .function && env.kindOf n == some .cell) = true
      · simp only [if_pos hb, hx']; exact ih h
      · simp only [if_neg hb, hx']; exact ih h

/-- what the look at the names of a block asks: fv the names from outside that are read, js their places there -/
def capsOk (sc scope : Scope) (N : List Str) (x : Str) (fv : List Str) (js : List Nat) : Bool :=
  (scope.kind == .function) && scope.names.all (fun y => !(y.2 == NameKind.cell)) && scope.names.all (fun y => !(y.2 == NameKind.local) || scope.names.lookup y.1 == some .local)
  && (scope.names.lookup x == some .local) && decide ((fv ++ [x]).Nodup) && (fv.map some == js.map (fun j => N[j]?))
  && fv.all (fun y => scope.names.lookup y == some .free)
  && scope.names.all (fun y => !(y.2 == NameKind.free) || sc.names.lookup y.1 == some .cell || sc.names.lookup y.1 == some .free)
structure Caps (sc scope : Scope) (N : List Str) (x : Str) (fv : List Str) (js : List Nat) : Prop where
  kind : scope.kind = .function
  nocell : ∀ y ∈ scope.names, y.2 ≠ .cell
  names : ∀ y ∈ scope.names, y.2 = .local → scope.names.lookup y.1 = some .local
  tgt : scope.names.lookup x = some .local
  nd : (fv ++ [x]).Nodup
  cap : fv.map some = js.map (fun j => N[j]?)
  see : ∀ y ∈ fv, scope.names.lookup y = some .free
  fre : ∀ y ∈ scope.names, y.2 = .free → sc.names.lookup y.1 = some .cell ∨ sc.names.lookup y.1 = some .free
theorem Caps.of {sc scope : Scope} {N : List Str} {x : Str} {fv : List Str} {js : List Nat} (h : capsOk sc scope N x fv js = true) : Caps sc scope N x fv js := by
  unfold capsOk at h
  simp only [Bool.and_eq_true, List.all_eq_true, Bool.or_eq_true, Bool.not_eq_true', beq_iff_eq, decide_eq_true_eq] at h
  obtain ⟨⟨⟨⟨⟨⟨⟨h1, h2⟩, h3⟩, h4⟩, h5⟩, h6⟩, h7⟩, h8⟩ := h
  refine ⟨by simpa using h1, fun y hy e => ?_, fun y hy e => ?_, by simpa using h4, h5, h6, fun y hy => by simpa using h7 y hy, fun y hy e => ?_⟩
  · have := h2 y hy
    rw [e] at this; simp at this
  · rcases h3 y hy with z | z
    · rw [e] at z; simp at z
    · simpa using z
  · rcases h8 y hy with (z | z) | z
    · rw [e] at z; simp at z
    · exact .inl (by simpa using z)
    · exact .inr (by simpa using z)

/-- the context of a block -/
def cxC (X : Cx) (N : List Str) (scope : Scope) (fp : List Addr) (s : Shared) (H : Hp) : Cx where
  prog := X.prog
  w := X.w
  K := X.K
  mg := X.mg
  base := X.base
  A := X.A
  N := N
  s₀ := s
  H₀ := H
  env := compEnvC scope (clOf scope X.env) s.heap.objs.size X.env
  outer := X.stack
  stack := X.stack
  ex := fp
  fn := fun _ => false
  calm := X.calm
  pn := []
  xe := fun _ _ => False
/-- the block's values: those from outside, then the target's -/
def capV (σ : St) (js : List Nat) : St := js.map fun j => σ.getD j none
section
variable {X : Cx} {pins : List (Addr × Obj)} {σ : St} {H : Hp} {s : Shared} {scope : Scope} {x : Str} {fv : List Str} {js : List Nat} {fp : List Addr}
theorem Inv.capCell (I : Inv X pins σ H s) (C : Caps X.env.scope scope X.N x fv js) {y : Str} {c : Addr} (h : (clOf scope X.env).lookup y = some c) : X.env.cells.lookup y = some c := by
  have hm : (y, c) ∈ scope.names.foldl (clStep X.env) [] := PySem.mem_of_lookup h
  rcases mem_cl hm with z | ⟨z, e⟩
  · cases z
  · obtain ⟨c', hc⟩ := I.ok.has y (C.fre _ z rfl)
    have e' : c = c' := by
      have e : c = (X.env.cells.lookup y).getD 0 := e
      rw [hc] at e
      exact e
    rw [hc, e']
theorem Inv.capHas (C : Caps X.env.scope scope X.N x fv js) {y : Str} (h : (y, NameKind.free) ∈ scope.names) : ∃ c, (clOf scope X.env).lookup y = some c := by
  obtain ⟨c, hc⟩ := cl_mem (env := X.env) (cs := []) (.inl h)
  exact lookup_of_mem hc
theorem Caps.len {sc : Scope} {N : List Str} (C : Caps sc scope N x fv js) : js.length = fv.length := by
  have := congrArg List.length C.cap
  rw [List.length_map, List.length_map] at this
  exact this.symm
theorem inv_block {h1 : Heap} {t' : Nat} {m1 : Str → Option Value} (I : Inv X pins σ H s) (C : Caps X.env.scope scope X.N x fv js) (hf : ∀ b ∈ fp, FpOk X pins H b) (hlt : ∀ b ∈ fp, b < s.heap.objs.size)
    (hn : h1.Ns s.heap.objs.size m1) (hk : ∀ b o, s.heap.get? b = some o → h1.get? b = some o) :
    Inv (cxC X (fv ++ [x]) scope fp s H) [] (capV σ js ++ [none]) H { s with heap := h1, toks := t' } := by
  have jl := C.len
  refine ⟨⟨I.ok.mod, C.kind, I.ok.glob, I.ok.blt, Nat.le_refl _, fun y z c e1 e2 => ?_, fun y hy => ?_, fun y c e _ => ?_, I.ok.hd, I.ok.frames, .inl rfl, fun b hb => ⟨?_, fun y c e => ?_⟩, I.bs, Nat.le_trans I.ok.bsz I.sz, fun b o e hb => ?_, fun b hb z => ?_, I.stack, I.stkFree⟩,
    rfl, I.bare, Un.kept hk, ⟨m1, hn, fun i y v e1 e2 e3 => ?_⟩, fun y c e => ?_, I.hok.fresh (Nat.le_refl _), fun y c e => ?_, fun p hp => absurd (show p ∈ ([] : List (Addr × Obj)) from hp) (by simp), I.hok.kept hk, ?_⟩
  · exact I.ok.inj y z c (I.capCell C e1) (I.capCell C e2)
  · refine Inv.capHas C (?_ : (y, NameKind.free) ∈ scope.names)
    rcases hy with hy | hy
    · exact relabel_free C.nocell (.inl rfl) hy
    · exact relabel_free C.nocell (.inr rfl) hy
  · cases e
  · exact Nat.ne_of_lt (hlt b hb)
  · exact (hf b hb).2.2.2.2.1 y c (I.capCell C e)
  · rcases (hf b hb).2.2.2.1 with z | z
    · exact I.ok.noex b o e z
    · have h1 : b < X.base.objs.size := Heap.lt_size e
      have h2 := I.ok.bsz
      have z' : X.s₀.heap.objs.size ≤ b := z
      exact absurd (Nat.lt_of_lt_of_le h1 (Nat.le_trans h2 z')) (Nat.lt_irrefl _)
  · rcases List.mem_cons.mp (I.stkSub b z) with q | q
    · exact (hf b hb).2.1 q
    · exact (hf b hb).2.2.1 q
  · have e1 : (fv ++ [x])[i]? = some y := e1
    by_cases hi : i < fv.length
    · rw [List.getElem?_append_left hi] at e1
      have hij : i < js.length := by omega
      rw [List.getElem?_append_left (by unfold capV; rw [List.length_map]; exact hij)] at e2
      unfold capV at e2
      rw [List.getElem?_map, List.getElem?_eq_getElem hij] at e2
      have e2' : σ.getD js[i] none = some v := Option.some.inj e2
      have hc := congrArg (fun l => l[i]?) C.cap
      simp only [List.getElem?_map] at hc
      rw [e1, List.getElem?_eq_getElem hij] at hc
      have hN : X.N[js[i]]? = some y := (Option.some.inj hc).symm
      have hσ : σ[js[i]]? = some (some v) := by
        rw [List.getD_eq_getElem?_getD] at e2'
        cases q : σ[js[i]]? with
        | none => rw [q] at e2'; cases e2'
        | some o => rw [q] at e2'; exact congrArg some e2'
      have hy : y ∈ fv := List.mem_of_getElem? e1
      have hfree := PySem.mem_of_lookup (C.see y hy)
      have hout := C.fre _ hfree rfl
      obtain ⟨m, _, hl⟩ := I.loc
      obtain ⟨u, r, l⟩ := hl _ y v hN hσ (hout.elim (fun z => .inr (.inl z)) fun z => .inr (.inr z))
      refine ⟨u, r, ?_⟩
      rcases l with ⟨k, _⟩ | ⟨_, c, hc, hcell⟩
      · have k : X.env.scope.names.lookup y = some .local := k
        rcases hout with z | z <;> rw [k] at z <;> cases z
      · obtain ⟨c', hc'⟩ := Inv.capHas (X := X) C hfree
        have q := I.capCell C hc'
        rw [hc] at q
        cases q
        refine .inr ⟨relabel_sees (C.see y hy), c, hc', ?_⟩
        obtain ⟨o, ho, hd⟩ := hcell
        exact ⟨o, hk _ _ ho, hd⟩
    · have hl : (capV σ js).length = fv.length := by unfold capV; rw [List.length_map]; exact jl
      rw [List.getElem?_append_right (by omega)] at e2
      have : i - (capV σ js).length = 0 ∨ 1 ≤ i - (capV σ js).length := by omega
      rcases this with z | z
      · rw [z] at e2; cases e2
      · rw [List.getElem?_eq_none (by simpa using z)] at e2; cases e2
  · obtain ⟨v, o, ho, hd⟩ := I.cell y c (I.capCell C e)
    exact ⟨v, o, hk _ _ ho, hd⟩
  · exact I.freeC y c (I.capCell C e)
  · show (capV σ js ++ [none]).length = (fv ++ [x]).length
    unfold capV
    rw [List.length_append, List.length_append, List.length_map, jl]
    rfl

def tAlways : TT := fun _ H Q => Q true H
/-- the loop of a block: what each turn must show. n: a measure -/
def TurnC (J : It) (te : TE) (caps : St) (D : Addr) (W : Nat → Nat → List V → Hp → Prop) (Q : VK) : Prop :=
  ∀ i n ys Hc, W i n ys Hc → Hc D = some (.lst ys) ∧ ((J.stop i Hc ∧ Q (.ref D) Hc) ∨
    (J.go i Hc ∧ ys.length < sizeLine ∧ ∀ v H', J.yld i Hc v H' → te (caps ++ [some v]) H' fun y H2 => H2 D = some (.lst ys) ∧ ∃ n', n' < n ∧ W (i + 1) n' (ys ++ [y]) (upd H2 D (.lst (ys ++ [y])))))
/-- .. with a test -/
def TurnT (J : It) (tt : TT) (te : TE) (caps : St) (D : Addr) (W : Nat → Nat → List V → Hp → Prop) (Q : VK) : Prop :=
  ∀ i n ys Hc, W i n ys Hc → Hc D = some (.lst ys) ∧ ((J.stop i Hc ∧ Q (.ref D) Hc) ∨
    (J.go i Hc ∧ ys.length < sizeLine ∧ ∀ v H', J.yld i Hc v H' → tt (caps ++ [some v]) H' fun b H1 =>
      if b = true then te (caps ++ [some v]) H1 fun y H2 => H2 D = some (.lst ys) ∧ ∃ n', n' < n ∧ W (i + 1) n' (ys ++ [y]) (upd H2 D (.lst (ys ++ [y])))
      else H1 D = some (.lst ys) ∧ ∃ n', n' < n ∧ W (i + 1) n' ys H1))
theorem unpure {α β : Type} {M : Model} {A : Around} {a : α} {t : Sem β} {Q : α → Shared → Prop} {Q' : β → Shared → Prop} {E E' : Value → Shared → Prop} {s1 : Shared} (h : wpAny M A (pure a : Sem α) Q E s1) (k : Q a s1 → wpAny M A t Q' E' s1) : wpAny M A t Q' E' s1 :=
  fun G p hG => k (h G p hG) G p hG
theorem fp_block {σc : St} {Hc : Hp} {sc : Shared} {Nc : List Str} {pc : List (Addr × Obj)} (I : Inv (cxC X Nc scope fp s H) pc σc Hc sc) (hn : ∀ b ∈ fp, Hc b = none) (hp : pc = []) : ∀ b ∈ fp, FpOk (cxC X Nc scope fp s H) pc Hc b := fun b hb => by
  subst hp
  exact ⟨hn b hb, (I.ok.exf b hb).1, I.ok.exfs b hb, .inl hb, (I.ok.exf b hb).2, fun p hp => absurd (show p ∈ ([] : List (Addr × Obj)) from hp) (by simp)⟩
theorem set_last (l : St) (o : Option V) (v : V) : (l ++ [o]).set l.length (some v) = l ++ [some v] := by
  rw [List.set_append_right _ _ (Nat.le_refl _), Nat.sub_self]
  rfl
theorem comp_loop {elt iter : Expr} {tt : TT} {te : TE} {ifs : List Expr} {px pos : Pos} {it D : Addr} {J : It} {tn : Nat → Heap → Prop} {W : Nat → Nat → List V → Hp → Prop} {Q : VK} {R : Result → Shared → Prop} {s1 : Shared} {n : Nat} {caps : St}
    (C : Caps X.env.scope scope X.N x fv js) (hcalm : X.calm = true) (hcl : caps.length = fv.length) (T : Turn X.prog X.w X.K (.Name x px) J fp it tn) (he : PE (cxC X (fv ++ [x]) scope fp s H) elt te)
    (ht : (ifs = [] ∧ tt = tAlways) ∨ ∃ c, ifs = [c] ∧ PT (cxC X (fv ++ [x]) scope fp s H) c tt)
    (turn : TurnT J tt te caps D W Q) (I1 : Inv (cxC X (fv ++ [x]) scope fp s H) [] (caps ++ [none]) H s1) (st1 : tn 0 s1.heap) (hf1 : ∀ b ∈ fp, H b = none) (w1 : W 0 n [] H)
    (hR : ∀ s' Hc o, Inv (cxC X (fv ++ [x]) scope fp s H) [] (caps ++ [o]) Hc s' → Q (.ref D) Hc → R (.ok .next) s') :
    codeAny (model X.prog X.w) X.A (.compLoop (.ListComp elt [⟨.Name x px, iter, ifs, 0⟩] scope pos) 0 (.ref it) (.ref D) (cxC X (fv ++ [x]) scope fp s H).env) R s1 := by
  have tgt : PG (cxC X (fv ++ [x]) scope fp s H) (.Name x px) (gName fv.length) :=
    pg_name C.nd (by show (fv ++ [x])[fv.length]? = some x; simp) (.inl (lookup_relabel_local C.tgt)) (.inr (lookup_relabel_local C.tgt))
  refine codeAny_compLoop_tests (fun m s' => ∃ i ys Hc o, Inv (cxC X (fv ++ [x]) scope fp s H) [] (caps ++ [o]) Hc s' ∧ tn i s'.heap ∧ (∀ b ∈ fp, Hc b = none) ∧ W i m ys Hc) ?_ n ⟨0, [], H, none, I1, st1, hf1, w1⟩
  rintro m s3 ⟨i, ys, H3, o, I3, st3, fr3, w3⟩
  obtain ⟨hD, hw⟩ := turn i m ys H3 w3
  rcases hw with ⟨stop, q⟩ | ⟨go, hz, step⟩
  · refine wpAny_mono (T.done (cxC X (fv ++ [x]) scope fp s H) rfl rfl rfl hcalm i [] s3 _ H3 (fun _ _ => False) I3 (fp_block I3 fr3 rfl) st3 stop) (fun r s4 ⟨hr, I4⟩ => ?_) fun _ _ f => f.elim
    subst hr
    exact hR s4 H3 o I4 q
  · refine wpAny_mono (T.item (cxC X (fv ++ [x]) scope fp s H) rfl rfl rfl hcalm i [] s3 _ H3 (fun _ _ => False) I3 (fp_block I3 fr3 rfl) st3 go) (fun r s4 ⟨u, hr, h4⟩ => ?_) fun _ _ f => f.elim
    subst hr
    refine unpure (a := ()) h4 fun ⟨v, H5, I5, r5, y5, st5, fr5⟩ => ?_
    have I5' := I5.pinned (fp_block I5 fr5 rfl) (T.obj _ _ st5)
    refine wpAny_mono (tgt _ s4 _ H5 v u (fun σ' H' => σ' = caps ++ [some v] ∧ H' = H5) I5' r5 ⟨by rw [← hcl]; exact set_last caps o v, rfl⟩) (fun _ s6 ⟨σ6, H6, I6, e1, e2⟩ => ?_) fun _ _ f => f.elim
    subst e1
    subst e2
    have again : ∀ {o7 : Option V} {H7 : Hp} {ys7 : List V} {s7 : Shared}, Inv (cxC X (fv ++ [x]) scope fp s H) ([] ++ pinsAt fp s4.heap) (caps ++ [o7]) H7 s7 → (∃ n', n' < m ∧ W (i + 1) n' ys7 H7) →
        ∃ m', m' < m ∧ ∃ i ys Hc o, Inv (cxC X (fv ++ [x]) scope fp s H) [] (caps ++ [o]) Hc s7 ∧ tn i s7.heap ∧ (∀ b ∈ fp, Hc b = none) ∧ W i m' ys Hc := fun {o7 H7 ys7 s7} I7 ⟨n', hn', w7⟩ => by
      refine ⟨n', hn', i + 1, ys7, H7, o7, I7.unpinned, T.keep _ _ _ st5 fun b hb o e => (I7.pin (b, o) (List.mem_append_right _ (List.mem_append_right _ (mem_pinsAt hb e)))).1, fun b hb => ?_, w7⟩
      obtain ⟨o, e, _⟩ := T.obj _ _ st5 b hb
      exact (I7.pin (b, o) (List.mem_append_right _ (List.mem_append_right _ (mem_pinsAt hb e)))).2.1
    have st := step v H6 y5
    have after : ∀ s8 H8, Inv (cxC X (fv ++ [x]) scope fp s H) ([] ++ pinsAt fp s4.heap) (caps ++ [some v]) H8 s8 →
        (te (caps ++ [some v]) H8 fun y H2 => H2 D = some (.lst ys) ∧ ∃ n', n' < m ∧ W (i + 1) n' (ys ++ [y]) (upd H2 D (.lst (ys ++ [y])))) → ∀ E' : Value → Shared → Prop,
        wpAny (model X.prog X.w) X.A (eval elt (cxC X (fv ++ [x]) scope fp s H).env) (fun x' s9 => wpAny (model X.prog X.w) X.A (call (.builtin "list.append") [.ref D, x']) (fun _ s10 => ∃ m', m' < m ∧ ∃ i ys Hc o, Inv (cxC X (fv ++ [x]) scope fp s H) [] (caps ++ [o]) Hc s10 ∧ tn i s10.heap ∧ (∀ b ∈ fp, Hc b = none) ∧ W i m' ys Hc) E' s9) E' s8 := fun s8 H8 I8 hq E' => by
      refine wpAny_mono (he _ s8 _ H8 _ I8 hq) (fun u9 s9 ⟨y, H9, I9, r9, hD9, hw9⟩ => ?_) fun _ _ f => f.elim
      refine wpAny_mono (mt_append (X := cxC X (fv ++ [x]) scope fp s H) _ s9 _ H9 (.ref D) [y] (.ref D) [u9] (fun _ H' => H' = upd H9 D (.lst (ys ++ [y]))) I9 rfl (.cons r9 .nil) ⟨D, ys, y, rfl, rfl, hD9, hz, rfl⟩) (fun _ s10 ⟨_, H10, I10, _, e10⟩ => ?_) fun _ _ f => f.elim
      subst e10
      exact again I10 hw9
    rcases ht with ⟨rfl, rfl⟩ | ⟨c, rfl, hc⟩
    · have st' : te (caps ++ [some v]) H6 fun y H2 => H2 D = some (.lst ys) ∧ ∃ n', n' < m ∧ W (i + 1) n' (ys ++ [y]) (upd H2 D (.lst (ys ++ [y]))) := by
        have z := st
        unfold tAlways at z
        dsimp only at z
        rw [if_pos rfl] at z
        exact z
      show wpAny _ _ (pure true) _ _ _
      exact wpAny_pure (after s6 H6 I6 st' _)
    · show wpAny _ _ (forIn [c] true _) _ _ _
      rw [List.forIn_cons]
      refine wpAny_bind (wpAny_bind (wpAny_mono (hc _ s6 _ H6 _ I6 st) (fun b s7 ⟨H7, I7, q7⟩ => ?_) fun _ _ f => f.elim))
      refine wpAny_pure ?_
      show wpAny _ _ (pure b) _ _ _
      refine wpAny_pure ?_
      cases b with
      | true => exact after s7 H7 I7 q7 _
      | false => exact again I7 q7.2
/-- [elt for x in iter (if test)] -/
def tComp (wi : TI) (tt : TT) (te : TE) (js : List Nat) : TE := fun σ H Q => wi σ H fun J H1 => ∀ D, H1 D = none → ∃ W : Nat → Nat → List V → Hp → Prop, (∃ n, W 0 n [] (upd H1 D (.lst []))) ∧ TurnT J tt te (capV σ js) D W Q
/-- the block has run: the outer body's state, the block's own frame -/
theorem block_done {elt iter : Expr} {tt : TT} {te : TE} {ifs : List Expr} {px pos : Pos} {J : It} {it : Addr} {tn : Nat → Heap → Prop} {Q : VK} {RR : Value → Addr → Result → Shared → Prop} {H2 : Hp} {s2 : Shared} {E : Value → Shared → Prop}
    (C : Caps X.env.scope scope X.N x fv js) (hcalm : X.calm = true) (he : ∀ fp s H, PE (cxC X (fv ++ [x]) scope fp s H) elt te) (ht : (ifs = [] ∧ tt = tAlways) ∨ ∃ c, ifs = [c] ∧ ∀ fp s H, PT (cxC X (fv ++ [x]) scope fp s H) c tt)
    (I2 : Inv X pins σ H2 s2) (T : Turn X.prog X.w X.K (.Name x px) J fp it tn) (st2 : tn 0 s2.heap) (f2 : ∀ b ∈ fp, FpOk X pins H2 b)
    (q2 : ∀ D, H2 D = none → ∃ W : Nat → Nat → List V → Hp → Prop, (∃ n, W 0 n [] (upd H2 D (.lst []))) ∧ TurnT J tt te (capV σ js) D W Q)
    (hRR : ∀ D F s' H' m, Inv X pins σ H' s' → FpOk X pins H' F → s'.heap.Ns F m → Q (.ref D) H' → RR (.ref D) F (.ok .next) s') :
    wpAny (model X.prog X.w) X.A (newList []) (fun acc s3 => wpAny (model X.prog X.w) X.A (newFunctionEnv scope X.env.globals (clOf scope X.env) [] X.env.qual none .none (some X.env)) (fun cenv s4 =>
      codeAny (model X.prog X.w) X.A (.compStart (.ListComp elt [⟨.Name x px, iter, ifs, 0⟩] scope pos) 0 (.ref it) acc { cenv with scope := relabel scope X.env }) (RR acc cenv.locals) s4) E s3) E s2 := by
  refine wpAny_newObj_type (wpAny_newFunctionEnv C.nocell (fun y hy => absurd hy (by simp)) (fun h1 hns hsb => ?_) C.kind)
  dsimp only at hns hsb ⊢
  have hD := I2.hok.fresh (Nat.le_refl s2.heap.objs.size)
  have I3 : Inv X pins σ (upd H2 s2.heap.objs.size (.lst [])) { s2 with heap := s2.heap.push { cls := .type "list", data := .seq ([] : List Value).toArray } } := I2.lnew (t' := s2.toks) (its := []) (ys := []) .nil (Nat.zero_le _)
  obtain ⟨W, ⟨n, w0⟩, turn⟩ := q2 _ hD
  have lt2 : ∀ b ∈ fp, b < s2.heap.objs.size := fun b hb => by
    obtain ⟨o, e, _⟩ := T.obj _ _ st2 b hb
    exact Heap.lt_size e
  have fr3 : ∀ b ∈ fp, upd H2 s2.heap.objs.size (.lst []) b = none := fun b hb => by
    rw [upd_ne (Nat.ne_of_lt (lt2 b hb))]
    exact (f2 b hb).1
  have f3 : ∀ b ∈ fp, FpOk X pins (upd H2 s2.heap.objs.size (.lst [])) b := fun b hb => ⟨fr3 b hb, (f2 b hb).2⟩
  generalize hs3 : ({ s2 with heap := s2.heap.push { cls := .type "list", data := .seq ([] : List Value).toArray } } : Shared) = s3 at I3
  have e3 : s3.heap = s2.heap.push { cls := .type "list", data := .seq ([] : List Value).toArray } := by rw [← hs3]
  have lt3 : ∀ b ∈ fp, b < s3.heap.objs.size := fun b hb => by
    rw [e3, Heap.size_push]
    exact Nat.lt_succ_of_lt (lt2 b hb)
  have hk : ∀ b o, s3.heap.get? b = some o → h1.get? b = some o := fun b o e => by
    rw [e3] at e
    exact hsb.extBut b o (Nat.ne_of_lt (Heap.lt_size e)) (Heap.get?_push_of_some _ e)
  have st3 : tn 0 h1 := T.keep _ _ _ st2 fun b _ o e => hk b o (by rw [e3]; exact Heap.get?_push_of_some _ e)
  have hns3 : h1.Ns s3.heap.objs.size (fun x => ([] : List (Str × Value)).reverse.lookup x) := by rw [e3]; exact hns
  have Ib := inv_block (t' := s3.toks + ([] : List (Str × Value)).length) I3 C f3 lt3 hns3 hk
  have jl : (capV σ js).length = fv.length := by unfold capV; rw [List.length_map]; exact C.len
  have loop := comp_loop (elt := elt) (iter := iter) (ifs := ifs) (px := px) (pos := pos) (R := RR (.ref s2.heap.objs.size) s3.heap.objs.size) (Q := Q) C hcalm jl T (he fp s3 _) (ht.imp (fun z => z) fun ⟨c, e, z⟩ => ⟨c, e, z fp s3 _⟩) turn Ib st3 fr3 w0 fun s' Hc o Ic qc => by
    obtain ⟨m, hm, _⟩ := Ic.loc
    have IX : Inv X pins σ Hc s' := I3.call' Ic.os Ic.base Ic.hok Ic.bare fun b hb => ⟨(f3 b hb).2.2.2.1, (f3 b hb).2.1, (f3 b hb).2.2.2.2.1, (f3 b hb).2.2.2.2.2⟩
    exact hRR _ _ s' Hc m IX (I3.fpOk (Nat.le_refl _) Ic.free) hm qc
  subst hs3
  exact codeAny_compStart_list loop (T.self _ 0 _ _ _ st3 loop)
theorem Inv.frameGone {H' : Hp} {s' : Shared} {F : Addr} {h' : Heap} (I : Inv X pins σ H' s') (f : FpOk X pins H' F) (hs : Heap.SameBut F s'.heap h') : Inv X pins σ H' { s' with heap := h' } :=
  I.turned (t' := s'.toks) (fun b o hb e => hs.extBut b o hb e) f.1 f.2.1 f.2.2.2.1 f.2.2.2.2.1 f.2.2.2.2.2
theorem closOf (I : Inv X pins σ H s) (C : Caps X.env.scope scope X.N x fv js) : closureFor scope X.env = pure (clOf scope X.env) := clos_eq fun y hy e => I.ok.has y.1 (C.fre y hy e)
theorem pe_comp0 {elt iter : Expr} {wi : TI} {tt : TT} {te : TE} {ifs : List Expr} {px pos : Pos} (hC : capsOk X.env.scope scope X.N x fv js = true) (hcalm : X.calm = true) (hi : PI X (.Name x px) iter wi) (he : ∀ fp s H, PE (cxC X (fv ++ [x]) scope fp s H) elt te)
    (ht : (ifs = [] ∧ tt = tAlways) ∨ ∃ c, ifs = [c] ∧ ∀ fp s H, PT (cxC X (fv ++ [x]) scope fp s H) c tt) (hs : ∀ v, foldedSetIterable iter X.env v = pure v) :
    PE X (.ListComp elt [⟨.Name x px, iter, ifs, 0⟩] scope pos) (tComp wi tt te js) := by
  intro pins s σ H Q I h
  have C := Caps.of hC
  rw [eval_ListComp]
  refine wpAny_comprehension_free (use := none) rfl hs (closOf I C) C.kind C.names (thn (hi pins s σ H _ I h) fun v s1 h1 => thn h1 fun itv s2 h2 => ?_)
  obtain ⟨it, fp, tn, J, H2, e, I2, T, st2, f2, q2⟩ := h2
  subst e
  exact block_done (RR := fun acc F => compPost (model X.prog X.w) X.A X.xe none (EP X pins σ Q) acc F) C hcalm he ht I2 T st2 f2 q2 fun D F s' H' m I' f hm q => ⟨m, hm, fun h' hs' => ⟨.ref D, H', I'.frameGone f hs', rfl, q⟩⟩
/-- [elt for x in iter] -/
theorem pe_comp {elt iter : Expr} {wi : TI} {te : TE} {px pos : Pos} (fv : List Str) (js : List Nat) (hi : PI X (.Name x px) iter wi) (he : ∀ fp s H, PE (cxC X (fv ++ [x]) scope fp s H) elt te)
    (hC : capsOk X.env.scope scope X.N x fv js = true := by rfl) (hcalm : X.calm = true := by rfl) (hs : ∀ v, foldedSetIterable iter X.env v = pure v := by intro _; rfl) :
    PE X (.ListComp elt [⟨.Name x px, iter, [], 0⟩] scope pos) (tComp wi tAlways te js) := pe_comp0 hC hcalm hi he (.inl ⟨rfl, rfl⟩) hs
/-- name = [elt for x in iter (if test)], where the store comes ahead of the block's end -/
theorem ps_setC0 {i : Nat} {y : Str} {elt iter : Expr} {wi : TI} {tt : TT} {te : TE} {ifs : List Expr} {px py pos spos : Pos} (hN : X.N.Nodup) (hy : X.N[i]? = some y) (hl : Loc X.env.scope y) (hC : capsOk X.env.scope scope X.N x fv js = true) (hcalm : X.calm = true) (hi : PI X (.Name x px) iter wi)
    (he : ∀ fp s H, PE (cxC X (fv ++ [x]) scope fp s H) elt te) (ht : (ifs = [] ∧ tt = tAlways) ∨ ∃ c, ifs = [c] ∧ ∀ fp s H, PT (cxC X (fv ++ [x]) scope fp s H) c tt) (hs : ∀ v, foldedSetIterable iter X.env v = pure v)
    (hsw : swapsWith (.ListComp elt [⟨.Name x px, iter, ifs, 0⟩] scope pos) (some (.Name y py)) spos.line X.env = pure true) (hf : X.fn y = true ∨ X.env.scope.names.lookup y = some .local) :
    PS X (.Assign [.Name y py] (.ListComp elt [⟨.Name x px, iter, ifs, 0⟩] scope pos) spos) (tAsg (tComp wi tt te js) (gName i)) := by
  intro pins s σ H D I h
  have C := Caps.of hC
  rw [exec_Assign_Name_used _ _ _ _ hsw]
  refine wpAny_bind (wpAny_standAt (wpAny_bind ?_))
  have key : wpAny (model X.prog X.w) X.A (comprehension (.ListComp elt [⟨.Name x px, iter, ifs, 0⟩] scope pos) scope X.env (firstIterPos [⟨.Name x px, iter, ifs, 0⟩] pos) (newList []) false (eval iter X.env) (some (assign (.Name y py) X.env))) (fun _ s' => SP X pins D .next s') X.xe s := by
    refine wpAny_comprehension_free (use := some (assign (.Name y py) X.env)) rfl hs (closOf I C) C.kind C.names (thn (hi pins s σ H _ I h) fun v s1 h1 => thn h1 fun itv s2 h2 => ?_)
    obtain ⟨it, fp, tn, J, H2, e, I2, T, st2, f2, q2⟩ := h2
    subst e
    refine block_done (RR := fun acc F => compPost (model X.prog X.w) X.A X.xe (some (assign (.Name y py) X.env)) (fun _ s' => SP X pins D .next s') acc F) C hcalm he ht I2 T st2 f2 q2 fun d F s' H' m I' f hm q => ?_
    show wpAny _ _ (assign (.Name y py) X.env (.ref d)) _ _ s'
    refine wpAny_assign_Name (store_ok2 I' hN hy hl (v := .ref d) rfl (fun s'' I'' ⟨a, hsb, ha⟩ => ?_) hf)
    have hne : F ≠ a := by
      rcases ha with z | z
      · rw [z]; exact f.2.1
      · exact Ne.symm (f.2.2.2.2.1 y a z)
    exact ⟨m, hm.sameBut hsb hne, fun h' hs' => ⟨_, H', I''.frameGone ⟨f.1, f.2⟩ hs', q⟩⟩
  rw [arm_evalThenUse_ListComp]
  exact wpAny_bind (thn key fun _ s' q => wpAny_pure (wpAny_pure q))
end
end L2

set_option maxHeartbeats 4000000
namespace L2
open PySem PySem.Spec PyProof.Rows

section
variable {X : Cx}
/-! ### isinstance -/
def clsVal : V → Option Value
  | .ty n => some (.type n)
  | .ref a => some (.ref a)
  | _ => none
def rIsI (K : PySem.W.Frag) : List V → Hp → VK → Prop := fun xs H Q => ∃ x cls t c b, xs = [x, cls] ∧ TyOf K H x t ∧ clsVal cls = some c ∧ PySem.W.kitOne K t c = some b ∧ Q (.bl b) H
theorem call_isI : CallR X (.builtin "isinstance") (rIsI X.K) := by
  intro pins s σ H xs us Q I r h
  obtain ⟨x, cls, t, c, b, rfl, ty, hc, e, q⟩ := h
  obtain ⟨u, u2, rfl, rx, rc⟩ := vals2 r
  have ec : u2 = c := by
    cases cls with
    | ty n => cases hc; exact rc
    | ref a => cases hc; exact rc
    | _ => cases hc
  subst ec
  exact isinst_ok I rx ty e fun tk => ⟨.bl b, H, I.tok tk, rfl, q⟩
/-! ### all, any of a list of truths -/
def rAll : List V → Hp → VK → Prop := fun xs H Q => ∃ (p : Addr) (bs : List Bool), xs = [.ref p] ∧ H p = some (.lst (bs.map V.bl)) ∧ Q (.bl (bs.all id)) H
def rAny : List V → Hp → VK → Prop := fun xs H Q => ∃ (p : Addr) (bs : List Bool), xs = [.ref p] ∧ H p = some (.lst (bs.map V.bl)) ∧ Q (.bl (bs.any id)) H
/-! ### == and != of lists and tuples, however deep -/
/-- == of two values within a list or tuple; n: how much deeper it goes -/
def EqW (X : Cx) (H : Hp) (n : Nat) (x y : V) (b : Bool) : Prop :=
  ∀ (pins : List (Addr × Obj)) (σ : St) (s : Shared) (u v : Value), Inv X pins σ H s → RelV x u → RelV y v → ∀ A : Around, A.units + n < cLine → SeqAt.EqAt A s u v b
/-- == and != at the top -/
def RcW (X : Cx) (H : Hp) (n : Nat) (x y : V) (b : Bool) : Prop :=
  ∀ (pins : List (Addr × Obj)) (σ : St) (s : Shared) (u v : Value), Inv X pins σ H s → RelV x u → RelV y v → ∀ A : Around, A.units + n < cLine → SeqAt.RcAt A s u v b ∧ SeqAt.RcNeAt A s u v (!b)
theorem eqw_flat {H : Hp} {x y : V} (fx : flatV x = true) (fy : flatV y = true) : EqW X H 0 x y (eqV x y) := fun _ _ _ _ _ _ rx ry _ _ => eqAt_V rx ry fx fy
theorem eqw_int {H : Hp} (i j : Int) : EqW X H 0 (.int i) (.int j) (i == j) := eqw_flat rfl rfl
theorem RcW.mono {H : Hp} {m n : Nat} {x y : V} {b : Bool} (h : RcW X H m x y b) (hl : m ≤ n) : RcW X H n x y b := fun pins σ s u v I rx ry A hu => h pins σ s u v I rx ry A (by omega)
theorem units_in1 (A : Around) : A.in1.units = A.units + 1 := rfl
/-- two lists, item by item -/
theorem rcw_list {H : Hp} {n : Nat} {a b : Addr} {xs ys : List V} {e : Nat → Bool} (ha : SqL X.K H a xs) (hb : SqL X.K H b ys) (hl : xs.length = ys.length) (he : ∀ j x y, xs[j]? = some x → ys[j]? = some y → EqW X H n x y (e j)) :
    RcW X H (n + 1) (.ref a) (.ref b) ((List.range xs.length).all e) := by
  intro pins σ s u v I rx ry A hu
  cases rx
  cases ry
  obtain ⟨its, r, pl, hz⟩ := I.list ha
  obtain ⟨its2, r2, pl2, hz2⟩ := I.list hb
  have l1 := r.length
  have l2 := r2.length
  have key : ∀ j (h1 : j < its.toArray.size) (h2 : j < its2.toArray.size), SeqAt.EqAt A.in1 s its.toArray[j] its2.toArray[j] (e j) := fun j h1 h2 => by
    rw [List.size_toArray] at h1 h2
    have hx : j < xs.length := by omega
    have hy : j < ys.length := by omega
    obtain ⟨u1, e1, q1⟩ := r.get (List.getElem?_eq_getElem hx)
    obtain ⟨u2, e2, q2⟩ := r2.get (List.getElem?_eq_getElem hy)
    have t1 : its.toArray[j] = u1 := by
      rw [List.getElem?_eq_getElem h1] at e1
      simpa using Option.some.inj e1
    have t2 : its2.toArray[j] = u2 := by
      rw [List.getElem?_eq_getElem h2] at e2
      simpa using Option.some.inj e2
    rw [t1, t2]
    exact he j _ _ (List.getElem?_eq_getElem hx) (List.getElem?_eq_getElem hy) pins σ s u1 u2 I q1 q2 A.in1 (by rw [units_in1]; omega)
  have hs : its.toArray.size = its2.toArray.size := by rw [List.size_toArray, List.size_toArray]; omega
  have hsz : its.toArray.size = xs.length := by rw [List.size_toArray]; omega
  rw [← hsz]
  exact ⟨SeqAt.RcAt.lists pl.isList pl2.isList hs (by omega) key, SeqAt.RcNeAt.lists pl.isList pl2.isList hs (by omega) key⟩
theorem rcw_len {H : Hp} {a b : Addr} {xs ys : List V} (ha : SqL X.K H a xs) (hb : SqL X.K H b ys) (hl : xs.length ≠ ys.length) : RcW X H 0 (.ref a) (.ref b) false := by
  intro pins σ s u v I rx ry A hu
  cases rx
  cases ry
  obtain ⟨its, r, pl, hz⟩ := I.list ha
  obtain ⟨its2, r2, pl2, hz2⟩ := I.list hb
  have l1 := r.length
  have l2 := r2.length
  have hne : (its.toArray.size != its2.toArray.size) = true := by
    rw [List.size_toArray, List.size_toArray, bne_iff_ne]
    omega
  exact ⟨SeqAt.RcAt.lists_lengths pl.isList pl2.isList hne (by omega), SeqAt.RcNeAt.lists_lengths pl.isList pl2.isList hne (by omega)⟩
theorem rcw_tup {H : Hp} {n : Nat} {a b : Addr} {xs ys : List V} {e : Nat → Bool} (ha : SqT X.K H a xs) (hb : SqT X.K H b ys) (he : ∀ j x y, xs[j]? = some x → ys[j]? = some y → EqW X H n x y (e j)) :
    RcW X H (n + 1) (.ref a) (.ref b) ((List.range (min xs.length ys.length)).all e && xs.length == ys.length) := by
  intro pins σ s u v I rx ry A hu
  cases rx
  cases ry
  obtain ⟨its, r, pl, hz⟩ := I.tuple ha
  obtain ⟨its2, r2, pl2, hz2⟩ := I.tuple hb
  have l1 := r.length
  have l2 := r2.length
  have key : ∀ j (h1 : j < its.toArray.size) (h2 : j < its2.toArray.size), SeqAt.EqAt A.in1 s its.toArray[j] its2.toArray[j] (e j) := fun j h1 h2 => by
    rw [List.size_toArray] at h1 h2
    have hx : j < xs.length := by omega
    have hy : j < ys.length := by omega
    obtain ⟨u1, e1, q1⟩ := r.get (List.getElem?_eq_getElem hx)
    obtain ⟨u2, e2, q2⟩ := r2.get (List.getElem?_eq_getElem hy)
    have t1 : its.toArray[j] = u1 := by
      rw [List.getElem?_eq_getElem h1] at e1
      simpa using Option.some.inj e1
    have t2 : its2.toArray[j] = u2 := by
      rw [List.getElem?_eq_getElem h2] at e2
      simpa using Option.some.inj e2
    rw [t1, t2]
    exact he j _ _ (List.getElem?_eq_getElem hx) (List.getElem?_eq_getElem hy) pins σ s u1 u2 I q1 q2 A.in1 (by rw [units_in1]; omega)
  have s1 : its.toArray.size = xs.length := by rw [List.size_toArray]; omega
  have s2 : its2.toArray.size = ys.length := by rw [List.size_toArray]; omega
  rw [← s1, ← s2]
  exact ⟨SeqAt.RcAt.tuples pl pl2 (by omega) key, SeqAt.RcNeAt.tuples pl pl2 (by omega) key⟩
theorem eqw_of {H : Hp} {n : Nat} {a b : Addr} {k : Bool} (h : RcW X H n (.ref a) (.ref b) k) (hs : a = b → k = true) : EqW X H n (.ref a) (.ref b) k := by
  intro pins σ s u v I rx ry A hu
  cases rx
  cases ry
  by_cases e : a = b
  · subst e
    rw [hs rfl]
    exact SeqAt.EqAt.same _
  · exact SeqAt.EqAt.of_refs e (h pins σ s _ _ I rfl rfl A hu).1
def rEqW (X : Cx) : R2 := fun x y H Q => ∃ b, RcW X H 8 x y b ∧ Q (.bl b) H
def rNeW (X : Cx) : R2 := fun x y H Q => ∃ b, RcW X H 8 x y b ∧ Q (.bl (!b)) H
theorem op_eqW {k : Nat} (hr : Room k X.A) : OpR X (compareOp .Eq) (rEqW X) := by
  intro pins s σ H x y v u Q I rx ry h
  obtain ⟨b, hb, q⟩ := h
  exact (hb pins σ s v u I rx ry X.A (by have := hr.units; omega)).1 _ _ _ _ ⟨.bl b, H, I, rfl, q⟩
theorem op_neW {k : Nat} (hr : Room k X.A) : OpR X (compareOp .NotEq) (rNeW X) := by
  intro pins s σ H x y v u Q I rx ry h
  obtain ⟨b, hb, q⟩ := h
  exact (hb pins σ s v u I rx ry X.A (by have := hr.units; omega)).2 _ _ _ _ ⟨.bl (!b), H, I, rfl, q⟩
theorem all_beq (xs ys : List Int) (h : xs.length = ys.length) : (List.range xs.length).all (fun j => xs.getD j 0 == ys.getD j 0) = decide (xs = ys) := by
  rw [Bool.eq_iff_iff, List.all_eq_true, decide_eq_true_eq]
  constructor
  · intro hh
    refine List.ext_getElem h fun i h1 h2 => ?_
    have := hh i (List.mem_range.mpr h1)
    simpa [List.getD_eq_getElem?_getD, h1, h2] using this
  · rintro rfl i _
    simp
/-- two lists of ints -/
theorem rcw_ints {H : Hp} {a b : Addr} {xs ys : List Int} (ha : SqL X.K H a (xs.map V.int)) (hb : SqL X.K H b (ys.map V.int)) : RcW X H 8 (.ref a) (.ref b) (decide (xs = ys)) := by
  by_cases hl : xs.length = ys.length
  · have h := rcw_list (X := X) (n := 0) (e := fun j => xs.getD j 0 == ys.getD j 0) ha hb (by simpa using hl) fun j x y ex ey => by
      rw [List.getElem?_map] at ex ey
      cases e1 : xs[j]? with
      | none => rw [e1] at ex; cases ex
      | some i =>
        cases e2 : ys[j]? with
        | none => rw [e2] at ey; cases ey
        | some i' =>
          rw [e1] at ex
          rw [e2] at ey
          cases ex
          cases ey
          rw [List.getD_eq_getElem?_getD, List.getD_eq_getElem?_getD, e1, e2]
          exact eqw_int i i'
    rw [List.length_map, all_beq xs ys hl] at h
    exact h.mono (by omega)
  · have h := rcw_len (X := X) ha hb (by simpa using hl)
    have : decide (xs = ys) = false := decide_eq_false fun e => hl (by rw [e])
    rw [this]
    exact h.mono (by omega)
end
/-! ### bits -/
theorem xor_and_or (a b : Nat) : (a ^^^ b) + (a &&& b) = a ||| b := by
  have h := nat_or_add_and (a ^^^ b) (a &&& b)
  have e1 : (a ^^^ b) ||| (a &&& b) = a ||| b := by
    apply Nat.eq_of_testBit_eq
    intro i
    simp only [Nat.testBit_or, Nat.testBit_xor, Nat.testBit_and]
    cases a.testBit i <;> cases b.testBit i <;> rfl
  have e2 : (a ^^^ b) &&& (a &&& b) = 0 := by
    apply Nat.eq_of_testBit_eq
    intro i
    simp only [Nat.testBit_xor, Nat.testBit_and, Nat.zero_testBit]
    cases a.testBit i <;> cases b.testBit i <;> rfl
  rw [e1, e2] at h
  omega
theorem bitXor_nat (a b : Nat) : Builtin.bitXor (a : Int) (b : Int) = ((a ^^^ b : Nat) : Int) := by
  rw [bitXor_and, bitAnd_pp (by omega) (by omega)]
  have h := xor_and_or a b
  have h2 := nat_or_add_and a b
  simp only [Int.toNat_natCast]
  omega
end L2

set_option maxHeartbeats 4000000
namespace L2
open PySem PySem.Spec PyProof.Rows
theorem same_new {H : Hp} {p : Addr} (h : H p = none) (o : HO) : Same H (upd H p o) := fun b u q => by rw [upd_ne (ne_of_none q h)]; exact q
theorem same_upd {H H' : Hp} {p : Addr} {o : HO} (s : Same H H') (h : H p = none) : Same H (upd H' p o) := fun b u q => by rw [upd_ne (ne_of_none q h)]; exact s b u q
/-- a new list of ints, all else as it was -/
def NewL (H : Hp) (Q : VK) (l : List Int) : Prop := ∀ r H', Same H H' → H r = none → H' r = some (.lst (l.map V.int)) → Q (.ref r) H'
theorem small {n : Nat} (h : n ≤ 1000) : n ≤ sizeLine := Nat.le_of_lt (small1000 h)
theorem range_snoc (f : Nat → V) (i : Nat) : (List.range i).map f ++ [f i] = (List.range (i + 1)).map f := by
  rw [List.range_succ, List.map_append]; rfl
/-- [.. for k in range(..)], each item's value known -/
theorem comp_rng {te : TE} {caps : St} {D : Addr} {H1 : Hp} {lo : Int} {n : Nat} {Q : VK} (f : Nat → V) (hD : H1 D = none) (hn : n ≤ sizeLine)
    (he : ∀ (i : Nat) (H' : Hp) (R : VK), i < n → Same H1 H' → (∀ H2, Same H' H2 → R (f i) H2) → te (caps ++ [some (.int (lo + i))]) H' R)
    (hQ : ∀ Hf, Same H1 Hf → Hf D = some (.lst ((List.range n).map f)) → Q (.ref D) Hf) :
    ∃ W : Nat → Nat → List V → Hp → Prop, (∃ m, W 0 m [] (upd H1 D (.lst []))) ∧ TurnT (Itr lo n) tAlways te caps D W Q := by
  refine ⟨fun i m ys Hc => m = n - i ∧ i ≤ n ∧ ys = (List.range i).map f ∧ Same H1 Hc ∧ Hc D = some (.lst ys), ⟨n, rfl, Nat.zero_le _, rfl, same_new hD _, upd_same⟩, ?_⟩
  rintro i m ys Hc ⟨rfl, hi, rfl, hs, hd⟩
  refine ⟨hd, ?_⟩
  by_cases hlt : i < n
  · refine .inr ⟨hlt, by rw [List.length_map, List.length_range]; omega, fun v H' hy => ?_⟩
    obtain ⟨e1, e2⟩ := hy
    subst e1
    subst e2
    unfold tAlways
    dsimp only
    rw [if_pos rfl]
    refine he i _ _ hlt hs fun H2 s2 => ⟨s2 _ _ hd, n - (i + 1), by omega, rfl, hlt, ?_, ?_, upd_same⟩
    · exact range_snoc f i
    · exact same_upd (hs.trans s2) hD
  · have e : i = n := by omega
    subst e
    exact .inl ⟨Nat.le_refl _, hQ Hc hs hd⟩
/-- [.. for x in a list that is not changed] -/
theorem comp_lst {K : PySem.W.Frag} {te : TE} {caps : St} {a D : Addr} {xs : List V} {H1 : Hp} {Q : VK} (f : V → V) (hD : H1 D = none) (hn : xs.length ≤ sizeLine) (hl : SqL K H1 a xs)
    (he : ∀ (i : Nat) (x : V) (H' : Hp) (R : VK), xs[i]? = some x → Same H1 H' → (∀ H2, Same H' H2 → R (f x) H2) → te (caps ++ [some x]) H' R)
    (hQ : ∀ Hf, Same H1 Hf → Hf D = some (.lst (xs.map f)) → Q (.ref D) Hf) :
    ∃ W : Nat → Nat → List V → Hp → Prop, (∃ m, W 0 m [] (upd H1 D (.lst []))) ∧ TurnT (Itl K a) tAlways te caps D W Q := by
  refine ⟨fun i m ys Hc => m = xs.length - i ∧ i ≤ xs.length ∧ ys = (xs.take i).map f ∧ Same H1 Hc ∧ Hc D = some (.lst ys), ⟨xs.length, rfl, Nat.zero_le _, rfl, same_new hD _, upd_same⟩, ?_⟩
  rintro i m ys Hc ⟨rfl, hi, rfl, hs, hd⟩
  refine ⟨hd, ?_⟩
  by_cases hlt : i < xs.length
  · refine .inr ⟨⟨xs, xs[i], hs.seq hl, by simp [hlt]⟩, by rw [List.length_map, List.length_take]; omega, fun v H' hy => ?_⟩
    obtain ⟨e1, e2⟩ := hy
    subst e1
    have hv := e2 xs (hs.seq hl)
    unfold tAlways
    dsimp only
    rw [if_pos rfl]
    refine he i v _ _ hv hs fun H2 s2 => ⟨s2 _ _ hd, xs.length - (i + 1), by omega, rfl, hlt, ?_, ?_, upd_same⟩
    · have ev : v = xs[i] := by
        rw [List.getElem?_eq_getElem hlt] at hv
        exact (Option.some.inj hv).symm
      rw [List.take_succ_eq_append_getElem hlt, List.map_append, ev]
      rfl
    · exact same_upd (hs.trans s2) hD
  · have e : i = xs.length := by omega
    subst e
    refine .inl ⟨⟨xs, hs.seq hl, Nat.le_refl _⟩, hQ Hc hs ?_⟩
    rw [List.take_of_length_le (Nat.le_refl _)] at hd
    exact hd
end L2

set_option maxHeartbeats 4000000
namespace L2
open PySem PySem.Spec PyProof.Rows
/-- the members of a list, each once -/
def onceOf (ns : List Int) : List Int := firstMet (fun i => ns.getD i 0) ns.length
section
variable {X : Cx}
def rSet (K : PySem.W.Frag) : List V → Hp → VK → Prop := fun xs H Q => ∃ p ns, xs = [.ref p] ∧ SqL K H p (ns.map V.int) ∧ ns.length ≤ 100 ∧ ∀ l, H l = none → Q (.ref l) (upd H l (.set (fun k => (onceOf ns).any (· == k)) (onceOf ns).length))
theorem call_set_ints (hc : X.calm = true) : CallR X (.type "set") (rSet X.K) := by
  intro pins s σ H xs us Q I r h
  obtain ⟨p, ns, rfl, hq, hl, q⟩ := h
  obtain ⟨u, rfl, rx⟩ := vals1 r
  cases rx
  obtain ⟨its, r', pl, hz⟩ := I.list hq
  have hlen := r'.length
  rw [List.length_map] at hlen
  have hs : its.toArray.size = ns.length := by rw [List.size_toArray]; omega
  refine PySem.call_set_list (ns := ns) (I.ok.hd hc) pl.isList (by simpa using intsAre_of r') (by rw [hs]; exact Nat.lt_of_le_of_lt (Nat.succ_le_succ hl) (by decide)) fun h' tk hS hk => ?_
  rw [hs] at hS
  have kp : ∀ b o, s.heap.get? b = some o → h'.get? b = some o := fun b o e => hk b o (Heap.lt_size e) e
  exact ⟨.ref s.heap.objs.size, _, I.laid (t' := tk) kp (Nat.le_refl _) (show ObjOk X.prog X.w _ h' _ (.set _ _) from hS), rfl, q _ (I.hok.fresh (Nat.le_refl _))⟩
def rLenS : List V → Hp → VK → Prop := fun xs H Q => ∃ p S n, xs = [.ref p] ∧ H p = some (.set S n) ∧ Q (.int n) H
theorem call_len_set' : CallR X (.builtin "len") rLenS := by
  intro pins s σ H xs us Q I r h
  obtain ⟨p, S, n, rfl, hq, q⟩ := h
  obtain ⟨u, rfl, rx⟩ := vals1 r
  cases rx
  obtain ⟨o, es, ep, t, ho, hex, hd, _, _, hb, hf, hn⟩ := (show s.heap.SetOf (intKind X.prog X.w) p S n from I.hok p _ hq)
  refine PySem.call_len_set ho hex hd hf (by have : scanBound = 4096 := rfl; omega) ⟨.int n, H, I.tok _, ⟨_, by rw [hn]⟩, q⟩
end
theorem dedup_in {acc : List Int} {x : Int} (h : acc.any (· == x) = true) : step_dedup acc x = acc := by
  unfold step_dedup
  rw [if_pos h]
theorem once_one {ns : List Int} : (onceOf ns).length = 1 ↔ ∃ x, ns ≠ [] ∧ ∀ y ∈ ns, y = x := by
  have hmem : ∀ k, (onceOf ns).any (· == k) = ns.any (· == k) := fun k => by
    unfold onceOf
    rw [firstMet_any]
    congr 1
    refine List.ext_getElem (by simp) fun i h1 h2 => ?_
    simp [List.getD_eq_getElem?_getD, h2]
  constructor
  · intro h
    obtain ⟨x, e⟩ := List.length_eq_one_iff.mp h
    refine ⟨x, ?_, fun y hy => ?_⟩
    · rintro rfl
      rw [show onceOf [] = [] from rfl] at e
      cases e
    · have := hmem y
      rw [e] at this
      have h2 : ns.any (· == y) = true := List.any_eq_true.mpr ⟨y, hy, by simp⟩
      rw [h2] at this
      have h3 : (x == y) = true := by simpa using this
      exact (beq_iff_eq.mp h3).symm
  · rintro ⟨x, hne, hall⟩
    have key : ∀ i, i < ns.length → firstMet (fun i => ns.getD i 0) (i + 1) = [x] := by
      intro i
      induction i with
      | zero =>
        intro hi
        rw [firstMet_succ, firstMet_zero]
        have : ns.getD 0 0 = x := by
          have := hall ns[0] (List.getElem_mem hi)
          simpa [List.getD_eq_getElem?_getD, hi] using this
        show step_dedup [] (ns.getD 0 0) = [x]
        rw [this]
        rfl
      | succ i ih =>
        intro hi
        rw [firstMet_succ, ih (by omega)]
        have : ns.getD (i + 1) 0 = x := by
          have := hall ns[i + 1] (List.getElem_mem hi)
          simpa [List.getD_eq_getElem?_getD, hi] using this
        show step_dedup [x] (ns.getD (i + 1) 0) = [x]
        rw [this]
        exact dedup_in (by simp)
    have hl : 0 < ns.length := List.length_pos_iff.mpr hne
    have := key (ns.length - 1) (by omega)
    rw [show ns.length - 1 + 1 = ns.length by omega] at this
    unfold onceOf
    rw [this]
    rfl
end L2

set_option maxHeartbeats 4000000
namespace L2
open PySem PySem.Spec
/-! ### an error in flight, its dict kept in mind -/
theorem dict_mapFields (o : Obj) (f) : (o.mapFields f).dict = o.dict := by
  obtain ⟨c, d, dt, sl⟩ := o; cases dt <;> rfl
def ErrAt (h base : Heap) (e : Addr) (cls : Value) (dd : Option Addr) (fl : Value) : Prop :=
  ∃ oe vs T oT ts, h.get? e = some oe ∧ (oe.cls = cls ∧ oe.dict = dd) ∧ oe.data = .fields vs ∧ vs[1]? = some (.ref T) ∧ base.get? T = none ∧ T ≠ e ∧ h.get? T = some oT ∧ oT.data = .fields ts ∧ ts[3]? = some fl
structure Aloft (base : Heap) (l : List Env) (e : Addr) (cls : Value) (dd : Option Addr) (fl : Value) (h : Heap) : Prop where
  stay : base.StaysIn h
  new : base.get? e = none
  frames : h.FunFrames base l
  err : ErrAt h base e cls dd fl
theorem Aloft.pop {base h : Heap} {env : Env} {l : List Env} {e : Addr} {cls fl : Value} {dd : Option Addr} (x : Aloft base (env :: l) e cls dd fl h) : Aloft base l e cls dd fl h := ⟨x.stay, x.new, x.frames.2.2, x.err⟩
theorem Aloft.first {base h : Heap} {l : List Env} {e : Addr} {cls fl : Value} {dd : Option Addr} (x : Aloft base l e cls dd fl h) : ∃ oe vs, h.get? e = some oe ∧ oe.cls = cls ∧ oe.data = .fields vs ∧ oe.dict = dd :=
  let ⟨oe, vs, _, _, _, he, hc, hd, _⟩ := x.err; ⟨oe, vs, he, hc.1, hd, hc.2⟩
section
variable {M : Model} {A : Around} {E : Value → Shared → Prop} {s : Shared}
theorem lay_entry {base : Heap} {env : Env} {outer : List Env} {L e : Addr} {oe : Obj} {vs : Array Value} {head : Value} {hadNext : Bool} {Q : Unit → Shared → Prop}
    (hfr : A.frames = some (env :: outer)) (hl : s.heap.FunFrames base (env :: outer)) (hf : env.frame = some L)
    (he : s.heap.get? e = some oe) (hkb : base.StaysIn s.heap) (hen : base.get? e = none) (hd : oe.data = .fields vs) (hsz : 1 < vs.size)
    (h : ∀ h', Aloft base (env :: outer) e oe.cls oe.dict (rawInt L) h' → s.heap.UpToSlots h' → Q () { s with heap := h' }) :
    wpAny M A (do let a ← frameOf env; let pl ← entryPlaceOf L hadNext; let b ← EntryCells.newEntry head a .none (rawInt L) .none pl; setField (.ref e) 1 b) Q E s := by
  have hene : e ∉ (env :: outer).filterMap (·.frame) := fun hm => by
    obtain ⟨_, o, ho, hnf⟩ := hl.mem hm
    rw [he] at ho; injection ho with ho; subst ho; exact hnf vs hd
  refine wpAny_bind (wpAny_frameOf_fun hfr hl hf fun h₁ hs₁ => ?_)
  refine wpAny_bind (wpAny_entryPlaceOf fun pl hpl => ?_)
  unfold EntryCells.newEntry newFields
  refine wpAny_bind (wpAny_newObj_type ?_ (hpl.sizeOk5 _ _ _ _ _))
  have he₁ : h₁.get? e = some oe := (hs₁.2.1 e hene).trans he
  have kb₁ : base.StaysIn h₁ := fun b o hbo => (hs₁.2.1 b fun hm => by rw [(hl.mem hm).1] at hbo; cases hbo).trans (hkb b o hbo)
  have he₂ := Heap.get?_push_of_some (h := h₁) { cls := .type "traceback", dict := none, data := .fields ([head, .ref L, .none, rawInt L, .none] ++ (if pl.isEmpty then List.replicate 6 Value.none else pl)).toArray } he₁
  refine wpAny_setField he₂ hd hsz (h _ ?_ ?_)
  all_goals
    have hTe : h₁.objs.size ≠ e := Nat.ne_of_gt (Heap.lt_size he₁)
    have hd₃ := Obj.data_mapFields hd (·.setIfInBounds 1 (Value.ref h₁.objs.size))
    have he₃ := Heap.get?_update_self (Obj.mapFields (·.setIfInBounds 1 (Value.ref h₁.objs.size))) he₂ (Obj.isFreed_of_fields hd₃)
    have hT₃ := (Heap.get?_update_other (h₁.push { cls := .type "traceback", dict := none, data := .fields ([head, .ref L, .none, rawInt L, .none] ++ (if pl.isEmpty then List.replicate 6 Value.none else pl)).toArray })
      (Obj.mapFields (·.setIfInBounds 1 (Value.ref h₁.objs.size))) (Ne.symm hTe)).trans (Heap.get?_push_size h₁ rfl)
    have keep : ∀ b o, b ≠ e → h₁.get? b = some o →
        ((h₁.push { cls := .type "traceback", dict := none, data := .fields ([head, .ref L, .none, rawInt L, .none] ++ (if pl.isEmpty then List.replicate 6 Value.none else pl)).toArray }).update e (Obj.mapFields (·.setIfInBounds 1 (Value.ref h₁.objs.size)))).get? b = some o :=
      fun b o hbe hb => by
        rw [Heap.get?_update_other _ _ (Ne.symm hbe)]
        exact Heap.get?_push_of_some _ hb
    have noRecord : ∀ b o, s.heap.get? b = some o → (∀ vs, o.data ≠ .fields vs) → b ≠ e := fun b o hb hnf q => by
      rw [q, he] at hb; injection hb with hb; subst hb; exact hnf vs hd
  · refine ⟨fun b o hbo => keep b o (fun q => by rw [q, hen] at hbo; cases hbo) (kb₁ b o hbo), hen, hl.of_keeps fun b o hb hnf => ?_, ?_⟩
    · obtain ⟨sl, hs⟩ := hs₁.2.2 b o hb
      exact ⟨_, keep b _ (noRecord b o hb hnf) hs, rfl⟩
    · exact ⟨_, _, h₁.objs.size, _, _, he₃, ⟨Obj.cls_mapFields _ _, dict_mapFields _ _⟩, hd₃, by simp [hsz], kb₁.fresh, hTe, hT₃, rfl, by first | (simp; done) | (rcases hpl with rfl | ⟨_, _, _, _, _, _, _, rfl⟩ <;> simp)⟩
  · intro b o hb hnf
    obtain ⟨sl, hs⟩ := hs₁.2.2 b o hb
    exact ⟨sl, keep b _ (noRecord b o hb hnf) hs⟩
theorem note_first {base : Heap} {env : Env} {outer : List Env} {L e : Addr} {oe : Obj} {vs : Array Value} {Q : Unit → Shared → Prop}
    (hfr : A.frames = some (env :: outer)) (hl : s.heap.FunFrames base (env :: outer)) (hf : env.frame = some L)
    (he : s.heap.get? e = some oe) (hkb : base.StaysIn s.heap) (hen : base.get? e = none) (hd : oe.data = .fields vs) (h1 : vs[1]? = some .none)
    (h : ∀ h', Aloft base (env :: outer) e oe.cls oe.dict (rawInt L) h' → s.heap.UpToSlots h' → Q () { s with heap := h' }) : wpAny M A (noteFrame (.ref e) env) Q E s := by
  unfold noteFrame
  simp only [hf]
  refine wpAny_bind (wpAny_field he hd h1 ?_)
  rw [if_neg (by decide)]
  exact lay_entry hfr hl hf he hkb hen hd (Array.getElem?_eq_some_iff.mp h1).1 h
theorem note_next {base : Heap} {env : Env} {outer : List Env} {L e : Addr} {cls : Value} {dd : Option Addr} {Q : Unit → Shared → Prop}
    (hfr : A.frames = some (env :: outer)) (hf : env.frame = some L) (x : Aloft base (env :: outer) e cls dd .none s.heap)
    (h : ∀ h', Aloft base (env :: outer) e cls dd (rawInt L) h' → s.heap.UpToSlots h' → Q () { s with heap := h' }) : wpAny M A (noteFrame (.ref e) env) Q E s := by
  obtain ⟨hkb, hen, hl, oe, vs, T, oT, ts, he, ⟨hcls, hdd⟩, hd, h1, hnT, hTe, hT, hdT, h3⟩ := x
  subst hcls
  subst hdd
  unfold noteFrame
  simp only [hf]
  refine wpAny_bind (wpAny_field he hd h1 ?_)
  rw [if_pos (show (Value.ref T != Value.none) = true from by simp)]
  refine wpAny_bind (wpAny_field hT hdT h3 ?_)
  rw [if_neg (show ¬ ((Value.none == rawInt L) = true) from by simp [rawInt])]
  refine wpAny_bind (wpAny_setField hT hdT (Array.getElem?_eq_some_iff.mp h3).1 ?_)
  have other : ∀ b, b ≠ T → (s.heap.update T (Obj.mapFields (·.setIfInBounds 3 Value.none))).get? b = s.heap.get? b := fun b hb => Heap.get?_update_other _ _ (Ne.symm hb)
  have noRecord : ∀ b o, s.heap.get? b = some o → (∀ vs, o.data ≠ .fields vs) → b ≠ T := fun b o hb hnf q => by
    rw [q, hT] at hb; injection hb with hb; subst hb; exact hnf ts hdT
  exact lay_entry hfr (hl.of_keeps fun b o hb hnf => ⟨o, (other b (noRecord b o hb hnf)).trans hb, rfl⟩) hf ((other e (Ne.symm hTe)).trans he)
    (fun b o hbo => (other b fun q => by rw [q, hnT] at hbo; cases hbo).trans (hkb b o hbo)) hen hd (Array.getElem?_eq_some_iff.mp h1).1
    fun h' x1 x4 => h h' x1 fun b o hb hnf => x4 b o ((other b (noRecord b o hb hnf)).trans hb) hnf
theorem lands {base : Heap} {l : List Env} {e : Addr} {cls fl : Value} {dd : Option Addr} {Q : Unit → Shared → Prop} (x : Aloft base l e cls dd fl s.heap)
    (h : ∀ h', Aloft base l e cls dd .none h' → s.heap.UpToSlots h' → Q () { s with heap := h' }) : wpAny M A (setFlight (.ref e) none) Q E s := by
  obtain ⟨hkb, hen, hl, oe, vs, T, oT, ts, he, hcls, hd, h1, hnT, hTe, hT, hdT, h3⟩ := x
  have hsz3 : 3 < ts.size := (Array.getElem?_eq_some_iff.mp h3).1
  have other : ∀ b, b ≠ T → (s.heap.update T (Obj.mapFields (·.setIfInBounds 3 ((none : Option Addr).elim Value.none fun f => rawInt f)))).get? b = s.heap.get? b :=
    fun b hb => Heap.get?_update_other _ _ (Ne.symm hb)
  have noRecord : ∀ b o, s.heap.get? b = some o → (∀ vs, o.data ≠ .fields vs) → b ≠ T := fun b o hb hnf q => by
    rw [q, hT] at hb; injection hb with hb; subst hb; exact hnf ts hdT
  unfold setFlight
  refine wpAny_bind (wpAny_field he hd h1 ?_)
  rw [if_pos (show (Value.ref T != Value.none) = true from by simp)]
  refine wpAny_setField hT hdT hsz3 (h _ ⟨fun b o hbo => (other b fun q => by rw [q, hnT] at hbo; cases hbo).trans (hkb b o hbo), hen,
    hl.of_keeps fun b o hb hnf => ⟨o, (other b (noRecord b o hb hnf)).trans hb, rfl⟩, ?_⟩ fun b o hb hnf => ⟨o.slots, (other b (noRecord b o hb hnf)).trans hb⟩)
  exact ⟨oe, vs, T, _, _, (other e (Ne.symm hTe)).trans he, hcls, hd, h1, hnT, hTe, Heap.get?_update_self _ hT (Obj.isFreed_of_fields (Obj.data_mapFields hdT _)), Obj.data_mapFields hdT _, by simp [hsz3]⟩
theorem leaves_first {base : Heap} {env : Env} {outer : List Env} {L e : Addr} {oe : Obj} {vs : Array Value} {Q : Unit → Shared → Prop}
    (hfr : A.frames = some (env :: outer)) (hl : s.heap.FunFrames base (env :: outer)) (hf : env.frame = some L)
    (he : s.heap.get? e = some oe) (hkb : base.StaysIn s.heap) (hen : base.get? e = none) (hd : oe.data = .fields vs) (h1 : vs[1]? = some .none)
    (h : ∀ h', Aloft base outer e oe.cls oe.dict .none h' → s.heap.UpToSlots h' → Q () { s with heap := h' }) : wpAny M A (leaving env (.ref e)) Q E s := by
  unfold leaving
  exact wpAny_bind (note_first hfr hl hf he hkb hen hd h1 fun h1 x1 u1 => lands (s := { s with heap := h1 }) x1 fun h2 x2 u2 => h h2 x2.pop (u1.trans u2))
end
end L2

set_option maxHeartbeats 4000000
namespace L2
open PySem PySem.Spec PyProof.Rows

/-! ### errors of the text's own, raised in a def and passed on by its callers -/
section
variable {P : Program} {w : World}
theorem ObjOk.there {H : Hp} {h : Heap} {a : Addr} {o : HO} (x : ObjOk P w H h a o) : ∃ ob, h.get? a = some ob := by
  cases o with
  | lst xs => obtain ⟨_, _, _, _, e⟩ := x; exact ⟨_, e⟩
  | tup xs => obtain ⟨_, _, _, ob, e, _⟩ := x; exact ⟨_, e⟩
  | dK kvs => obtain ⟨_, _, _, _, ob, _, _, e, _⟩ := x; exact ⟨_, e⟩
  | dT kvs => obtain ⟨_, _, _, _, ob, _, _, e, _⟩ := x; exact ⟨_, e⟩
  | set S n => obtain ⟨ob, _, _, _, e, _⟩ := x; exact ⟨_, e⟩
  | ins C dx fs => obtain ⟨_, _, _, e, _⟩ := x; exact ⟨_, e⟩
  | own y => exact x
  | xd fs => obtain ⟨_, ⟨_, _, _, e, _⟩, _⟩ := x; exact ⟨_, e⟩
  | rng lo hi => obtain ⟨_, _, _, e⟩ := x; exact ⟨_, e⟩
  | frz ob u => obtain ⟨e, _⟩ := x; exact ⟨_, e⟩
  | tbl ps => exact ⟨_, (show h.get? a = some _ from x)⟩
  | met f y => exact ⟨_, (show h.get? a = some _ from x)⟩
  | ext φ => obtain ⟨_, e, _⟩ := x; exact e
/-- an error flies: ea its object, B the heap that stays, H' what is known of B -/
structure Fly (P : Program) (w : World) (outer : List Env) (H : Hp) (s : Shared) (ea : Addr) (cls : Value) (dd : Option Addr) (B : Heap) (H' : Hp) (s' : Shared) : Prop where
  os : s'.os = s.os
  bare : AllBare s'.gens
  fl : Aloft B outer ea cls dd .none s'.heap
  hok : HOk P w H' B
  new : s.heap.get? ea = none
  bk : ∀ b o, s.heap.get? b = some o → H b = none → b ∉ frs outer → B.get? b = some o
  th : ∀ b o, s.heap.get? b = some o → b ∉ frs outer → ∃ o', B.get? b = some o'
  un : Un (frs outer) [] H H' s.heap s'.heap
theorem Fly.free {outer : List Env} {H : Hp} {s : Shared} {ea : Addr} {cls : Value} {dd : Option Addr} {B : Heap} {H' : Hp} {s' : Shared} (y : Fly P w outer H s ea cls dd B H' s') : H' ea = none := by
  cases q : H' ea with
  | none => rfl
  | some o =>
    obtain ⟨ob, e⟩ := (y.hok ea o q).there
    rw [y.fl.new] at e
    cases e
/-- how an error lies behind a call -/
def CXe (P : Program) (w : World) : CXT := fun outer H s E e s' => ∃ (ea C : Addr) (dd : Option Addr) (B : Heap) (H' : Hp), e = .ref ea ∧ Fly P w outer H s ea (.ref C) dd B H' s' ∧ E (.ref C) dd H'

section
variable {K : PySem.W.Frag} {mg : Str → Option Value} {base : Heap} {N : List Str} {qual : Str} {scope : Scope} {f : Addr} {cd : Value} {A : Around} {outer : List Env} {s₀ : Shared} {H₀ : Hp} {E : XK}
/-- the abstract heap without what it says of e -/
def del (H : Hp) (e : Addr) : Hp := fun b => if b = e then none else H b
theorem del_ne {H : Hp} {e b : Addr} (h : b ≠ e) : del H e b = H b := by unfold del; rw [if_neg h]
theorem del_none {H : Hp} {e b : Addr} (h : H b = none) : del H e b = none := by unfold del; split <;> first | rfl | exact h
theorem of_del {H : Hp} {e b : Addr} {o : HO} (h : del H e b = some o) : b ≠ e ∧ H b = some o := by
  unfold del at h
  split at h
  · cases h
  · rename_i n; exact ⟨n, h⟩
/-- raised here: it leaves the def -/
theorem raise_gen {pins : List (Addr × Obj)} {σ : St} {H : Hp} {s : Shared} {h' : Heap} {e C : Addr} {dd : Option Addr} {oe : Obj} {vs : Array Value} (I : Inv (cxOf (CXe P w) P w K mg base N qual scope f cd A outer s₀ H₀ E) pins σ H s)
    (k : ∀ b o, b ≠ e → s.heap.get? b = some o → h'.get? b = some o) (he : h'.get? e = some oe) (hc : oe.cls = .ref C) (hdd : oe.dict = dd) (hd : oe.data = .fields vs) (h1 : vs[1]? = some .none)
    (hnew : s₀.heap.get? e = none) (hs : ∀ o, s.heap.get? e = some o → ∃ vs, o.data = .fields vs) (hH : s.heap.get? e = none ∨ ∃ φ, H e = some (.ext φ)) (hE : E (.ref C) dd (del H e)) :
    (cxOf (CXe P w) P w K mg base N qual scope f cd A outer s₀ H₀ E).xe (.ref e) { s with heap := h' } := by
  subst hdd
  have hfr : frs (envOfC qual scope s₀.heap.objs.size f cd :: outer) = s₀.heap.objs.size :: frs outer := rfl
  have hb : Un (frs outer) [] H₀ H s₀.heap s.heap := I.base
  have hHe : H e = none ∨ ∃ φ, H e = some (.ext φ) := by
    rcases hH with q | q
    · refine .inl ?_
      cases r : H e with
      | none => rfl
      | some o =>
        obtain ⟨ob, z⟩ := (I.hok e o r).there
        rw [q] at z
        cases z
    · exact .inr q
  have notT : ∀ b o, H b = some o → (∀ φ, o ≠ .ext φ) → b ≠ e := fun b o q n z => by
    subst z
    rcases hHe with r | ⟨φ, r⟩ <;> rw [q] at r
    · cases r
    · cases r; exact n φ rfl
  have ne0 : ∀ b o, s₀.heap.get? b = some o → b ≠ e := fun b o q z => by rw [z, hnew] at q; cases q
  have nf : e ∉ frs (envOfC qual scope s₀.heap.objs.size f cd :: outer) := fun z => by
    obtain ⟨_, o, q, n⟩ := I.stack.mem z
    obtain ⟨vs, r⟩ := hs o q
    exact n vs r
  have keepB : ∀ b o, s.heap.get? b = some o → b ≠ e → b ∉ frs (envOfC qual scope s₀.heap.objs.size f cd :: outer) → (PySem.W.hideAll s.heap (e :: frs (envOfC qual scope s₀.heap.objs.size f cd :: outer))).get? b = some o := fun b o q ne hb =>
    PySem.W.hideAll_get _ q fun z => (List.mem_cons.mp z).elim ne hb
  have notF : ∀ b o, s₀.heap.get? b = some o → b ∉ frs outer → b ∉ frs (envOfC qual scope s₀.heap.objs.size f cd :: outer) := fun b o q hb z => by
    rw [hfr] at z
    rcases List.mem_cons.mp z with z | z
    · exact absurd (Heap.lt_size q) (by rw [z]; exact Nat.lt_irrefl _)
    · exact hb z
  have stB : (PySem.W.hideAll s.heap (e :: frs (envOfC qual scope s₀.heap.objs.size f cd :: outer))).StaysIn h' := fun b o q => by
    refine k b o (fun z => ?_) (PySem.W.of_hideAll _ q)
    rw [z, PySem.W.hideAll_none _ (List.mem_cons_self)] at q
    cases q
  have ff : s.heap.FunFrames (PySem.W.hideAll s.heap (e :: frs (envOfC qual scope s₀.heap.objs.size f cd :: outer))) (envOfC qual scope s₀.heap.objs.size f cd :: outer) :=
    PySem.W.funFrames_hide I.stack fun env he b hb => List.mem_cons_of_mem _ (List.mem_filterMap.mpr ⟨env, he, hb⟩)
  have ff' : h'.FunFrames (PySem.W.hideAll s.heap (e :: frs (envOfC qual scope s₀.heap.objs.size f cd :: outer))) (envOfC qual scope s₀.heap.objs.size f cd :: outer) :=
    ff.of_keeps fun b o q n => ⟨o, k b o (fun z => by subst z; obtain ⟨vs, r⟩ := hs o q; exact n vs r) q, rfl⟩
  refine leaves_first (s := { s with heap := h' }) I.ok.frames ff' rfl he stB (PySem.W.hideAll_none _ (List.mem_cons_self)) hd h1 fun h'' fl ups => ?_
  have hst : ∀ b o, b ∈ frs outer → s.heap.get? b = some o → ∃ sl, h''.get? b = some { o with slots := sl } := fun b o hb q => by
    have hb' : b ∈ frs (envOfC qual scope s₀.heap.objs.size f cd :: outer) := by rw [hfr]; exact List.mem_cons_of_mem _ hb
    obtain ⟨_, o', q', nf'⟩ := I.stack.mem hb'
    rw [q] at q'
    cases q'
    exact ups b o (k b o (fun z => nf (z ▸ hb')) q) nf'
  rw [hc] at fl
  refine ⟨e, C, oe.dict, _, del H e, rfl, ⟨I.os, I.bare, fl, fun a o q => ?_, hnew, fun b o q n hb' => ?_, fun b o q hb' => ?_, ⟨fun b o q n hb' _ => ?_, fun b o q n hb' _ => ?_, fun b o q n hx' => del_none (hb.free b o q n hx'), fun b o q _ => ?_,
    fun b xs q => ?_, fun b o u q => ?_, fun b ps q => ?_⟩⟩, hE⟩
  · obtain ⟨na, q⟩ := of_del q
    refine (I.hok a o q).stay (fun b u hb' r => keepB b u r (fun z => ?_) fun z => ?_) (fun b r => ?_) fun b xs r => ?_
    · rcases hb' with hb' | hb'
      · exact na (hb' ▸ z)
      · exact notT b _ hb' (fun φ z => by cases z) z
    · have hn := I.stkFree b z
      rcases hb' with rfl | hb'
      · rw [q] at hn; cases hn
      · rw [hb'] at hn; cases hn
    · rw [del_ne (notT b _ r fun φ z => by cases z)]; exact r
    · rw [del_ne (notT b _ r fun φ z => by cases z)]; exact r
  · exact keepB b o (hb.keep b o q n hb' (by simp)) (ne0 b o q) (notF b o q hb')
  · obtain ⟨o', r⟩ := hb.there b o q (by simp)
    exact ⟨o', keepB b o' r (ne0 b o q) (notF b o q hb')⟩
  · exact fl.stay b o (keepB b o (hb.keep b o q n hb' (by simp)) (ne0 b o q) (notF b o q hb'))
  · obtain ⟨sl, r⟩ := hb.slot b o q n hb' (by simp)
    obtain ⟨sl', r'⟩ := hst b _ hb' r
    exact ⟨sl', r'⟩
  · obtain ⟨o', r⟩ := hb.there b o q (by simp)
    by_cases hb' : b ∈ frs outer
    · obtain ⟨sl, r'⟩ := hst b o' hb' r
      exact ⟨_, r'⟩
    · exact ⟨o', fl.stay b o' (keepB b o' r (ne0 b o q) (notF b o q hb'))⟩
  · have r := hb.tups b xs q
    rw [del_ne (notT b _ r fun φ z => by cases z)]; exact r
  · have r := hb.frzs b o u q
    rw [del_ne (notT b _ r fun φ z => by cases z)]; exact r
  · obtain ⟨m, r⟩ := hb.tbls b ps q
    exact ⟨m, by rw [del_ne (notT b _ r fun φ z => by cases z)]; exact r⟩
end
end
end L2

set_option maxHeartbeats 4000000
namespace L2
open PySem PySem.Spec PyProof.Rows
section
variable {X : Cx}
/-! ### f-strings: that a text comes out, whatever it says -/
abbrev TJ := St → Hp → (Hp → Prop) → Prop
def PJ (X : Cx) (es : List Expr) (m : Nat) (t : TJ) : Prop := ∀ (acc : Str) (pins : List (Addr × Obj)) (s : Shared) (σ : St) (H : Hp) (Q : VK), acc.length + m ≤ 100000 → Inv X pins σ H s → (t σ H fun H' => ∀ y : Str, Q (.str y) H') →
  wpAny (model X.prog X.w) X.A (joinParts acc (evalEach es X.env)) (EP X pins σ Q) X.xe s
theorem line5 {n : Nat} (h : n ≤ 100000) : n ≤ sizeLine := by rw [sizeLine_eq]; omega
theorem pj_nil : PJ X [] 0 (fun _ H k => k H) := fun acc pins s σ H Q hl I h => joinParts_nil ⟨.str acc, H, I.tok _, ⟨_, rfl⟩, h acc⟩ (line5 hl)
theorem pj_c {x : Str} {es : List Expr} {j pos m} {t : TJ} (hr : PJ X es m t) (hx : x.length ≤ 200 := by decide) : PJ X (.Constant (.str x) j pos :: es) (m + 200) t := fun acc pins s σ H Q hl I h => by
  refine joinParts_cons (Calls.Constant_str ⟨?_, ?_⟩)
  · rw [strLen_append]; exact line5 (by omega)
  · exact hr (acc ++ x) pins _ σ H Q (by rw [strLen_append]; omega) (I.tok _) h
theorem pj_v {e : Expr} {es : List Expr} {pos m} {te : TE} {t : TJ} (he : PE X e te) (hr : PJ X es m t) : PJ X (.FormattedValue e (-1) none pos :: es) (m + 1921) (fun σ H k => te σ H fun v H1 => ∃ i, v = .int i ∧ i.natAbs.log2 < 1920 ∧ t σ H1 k) := fun acc pins s σ H Q hl I h => by
  refine joinParts_cons (FormattedValue_plain (thn (he pins s σ H _ I h) fun v s1 ⟨x, H1, I1, r1, i, e, hi, q⟩ => ?_))
  subst e
  obtain ⟨tk, rfl⟩ := r1
  have hlen := int_text_len_1921 hi
  refine wpAny_formatField_int hi ⟨?_, ?_⟩
  · rw [strLen_append]; exact line5 (by omega)
  · exact hr _ pins _ σ H1 Q (by rw [strLen_append]; omega) (I1.tok _) q
def tText (t : TJ) : TE := fun σ H Q => t σ H fun H' => ∀ y : Str, Q (.str y) H'
theorem pe_fstr {v1 v2 : Expr} {rest : List Expr} {pos : Pos} {m : Nat} {t : TJ} (h : PJ X (v1 :: v2 :: rest) m t) (hm : m ≤ 100000 := by decide) : PE X (.JoinedStr (v1 :: v2 :: rest) pos) (tText t) := fun pins s σ H Q I hq =>
  JoinedStr_many (h Str.empty pins s σ H Q (by show 0 + m ≤ 100000; omega) I hq)
/-! ### raise C(..), C an error class of the text without an __init__ -/
def tRaise (C : Addr) (E : XK) (ta : TA) : TS := fun _ σ H => ta σ H fun vs H1 => vs.length ≤ 100 ∧ E (.ref C) none H1
end
/-- a def whose errors are of the text's own: its body as a term, and the reading of that term -/
theorem Fun.okE {P : Program} {w : World} {K : PySem.W.Frag} {mg : Str → Option Value} {base : Heap} {x qual : Str} {st : Stmt} {f : Addr} {fd : FuncData} {N ps : List Str} {k : Nat} {sp : Sp} (F : Fun K x qual st f fd) (S : FnScope N ps (defScope st)) (len : ∀ vs H Q E, sp vs H Q E → vs.length = ps.length)
    (hbody : ∀ (cdv : Value) (A : Around) (outer : List Env) (s : Shared) (H : Hp) (vs : List V) (Q : VK) (E : XK), Room k (A.deeper (envOfC qual (defScope st) s.heap.objs.size f cdv)) → sp vs H Q E →
      ∃ t, PSs (cxOf (CXe P w) P w K mg base N qual (defScope st) f cdv A outer s H E) (defBody st) t ∧ t { nx := fun _ H' => Q .non H', rt := Q } (start N vs) H) : FnOk P w K mg base (CXe P w) (k + 1) f fd ps sp := by
  obtain ⟨oc, od, kV, doc, pm, an, cdv, ct, osl, rfl, lk, hcd⟩ := F.ex
  exact fn_of lk hcd S len fun A outer s H vs Q E hr hsp => hbody cdv A outer s H vs Q E hr hsp
end L2

set_option maxHeartbeats 4000000
namespace L2
open PySem PySem.Spec PyProof.Rows
/-! ### try: a call of the text's own .. except Base as e: z = e -/
theorem Fly.move {P : Program} {w : World} {outer : List Env} {H : Hp} {s : Shared} {ea : Addr} {cls : Value} {dd : Option Addr} {B : Heap} {H' : Hp} {s' : Shared} {h5 : Heap} (y : Fly P w outer H s ea cls dd B H' s') (fl : Aloft B outer ea cls dd .none h5) (ups : s'.heap.UpToSlots h5)
    (stf : ∀ b ∈ frs outer, H b = none) (fns : ∀ b ∈ frs outer, ∃ o, s.heap.get? b = some o) : Fly P w outer H s ea cls dd B H' { s' with heap := h5 } := by
  have hst : ∀ b o, b ∈ frs outer → s.heap.get? b = some o → ∃ sl, h5.get? b = some { o with slots := sl } := fun b o hb q => by
    obtain ⟨sl, r⟩ := y.un.slot b o q (stf b hb) hb (by simp)
    obtain ⟨_, o', q', nf⟩ := y.fl.frames.mem hb
    rw [r] at q'
    cases q'
    obtain ⟨sl', r'⟩ := ups b _ r nf
    exact ⟨sl', r'⟩
  refine ⟨y.os, y.bare, fl, y.hok, y.new, y.bk, y.th, ⟨fun b o q n hb _ => fl.stay b o (y.bk b o q n hb), fun b o q n hb _ => hst b o hb q, y.un.free, fun b o q _ => ?_, y.un.tups, y.un.frzs, y.un.tbls⟩⟩
  by_cases hb : b ∈ frs outer
  · obtain ⟨sl, r⟩ := hst b o hb q
    exact ⟨_, r⟩
  · obtain ⟨o', r⟩ := y.th b o q hb
    exact ⟨o', fl.stay b o' r⟩
/-- an error object that is kept -/
def excO (ea C : Addr) (dd : Option Addr := none) : HO := .ext fun h => ∃ o vs, h.get? ea = some o ∧ o.cls = .ref C ∧ o.data = .fields vs ∧ o.dict = dd
section
variable {X : Cx} {pins : List (Addr × Obj)} {σ : St} {H : Hp} {s : Shared}
/-- the body that caught it goes on, the error tracked -/
theorem Inv.caught {ea C : Addr} {dd : Option Addr} {B : Heap} {H' : Hp} {s' : Shared} (I : Inv X pins σ H s) (y : Fly X.prog X.w X.stack H s ea (.ref C) dd B H' s') : Inv X pins σ (upd H' ea (excO ea C dd)) s' := by
  have hn := y.free
  have ne : ∀ b o, s.heap.get? b = some o → b ≠ ea := fun b o q z => by
    have := y.new
    rw [← z, q] at this
    cases this
  have nt : ∀ b o, H' b = some o → b ≠ ea := fun b o q z => by rw [z, hn] at q; cases q
  have hok : HOk X.prog X.w H' s'.heap := y.hok.kept y.fl.stay
  refine I.call' (ch := []) y.os ⟨y.un.keep, y.un.slot, fun b o q n hx => by rw [upd_ne (ne b o q)]; exact y.un.free b o q n hx, y.un.there, fun b xs q => ?_, fun b o u q => ?_, fun b ps q => ?_⟩ (fun a o q => ?_) y.bare fun b hb => absurd hb (by simp)
  · have r := y.un.tups b xs q
    rw [upd_ne (nt b _ r)]; exact r
  · have r := y.un.frzs b o u q
    rw [upd_ne (nt b _ r)]; exact r
  · obtain ⟨more, r⟩ := y.un.tbls b ps q
    exact ⟨more, by rw [upd_ne (nt b _ r)]; exact r⟩
  · by_cases ha : a = ea
    · subst ha
      rw [upd_same] at q
      cases q
      obtain ⟨oe, vs, h1, h2, h3, h4⟩ := y.fl.first
      exact ⟨⟨oe, vs, h1, h2, h3, h4⟩, ⟨oe, h1⟩, fun h1 h2 ⟨o, vs, e1, e2, e3⟩ k => ⟨o, vs, k o e1, e2, e3⟩⟩
    · rw [upd_ne ha] at q
      exact (hok a o q).stay (fun b u _ r => r) (fun b r => by rw [upd_ne (nt b _ r)]; exact r) fun b xs r => by rw [upd_ne (nt b _ r)]; exact r
/-- within an except suite -/
abbrev Cx.marked (X : Cx) (e : Value) : Cx := { X with A := X.A.mark (some e), calm := false, xe := fun _ _ => False }
theorem Inv.mark (I : Inv X pins σ H s) (e : Value) : Inv (X.marked e) pins σ H s :=
  ⟨⟨I.ok.mod, I.ok.kind, I.ok.glob, I.ok.blt, I.ok.above, I.ok.inj, I.ok.has, I.ok.cab, (fun z => by cases z), I.ok.frames, I.ok.stk, I.ok.exf, I.ok.bs, I.ok.bsz, I.ok.noex, I.ok.exfs, I.ok.funs, I.ok.frf⟩, I.os, I.bare, I.base, I.loc, I.cell, I.free, I.freeC, I.pin, I.hok, I.len⟩
theorem Inv.unmark {e : Value} (ok : X.Ok) (I : Inv (X.marked e) pins σ H s) : Inv X pins σ H s :=
  ⟨ok, I.os, I.bare, I.base, I.loc, I.cell, I.free, I.freeC, I.pin, I.hok, I.len⟩
/-- a name is let go -/
theorem Inv.unbound {i : Nat} {n : Str} {h' : Heap} {m : Str → Option Value} {u : Option Value} (I : Inv X pins σ H s) (hN : X.N.Nodup) (hi : X.N[i]? = some n) (hn : s.heap.Ns X.env.locals m)
    (hm : ∀ (j : Nat) (y : Str) (v : V), X.N[j]? = some y → σ[j]? = some (some v) → Vis X.env.scope y → ∃ u, RelV v u ∧ Look X.env s.heap m y u)
    (hn' : h'.Ns X.env.locals (fun x => if x = n then u else m x)) (hs : Heap.SameBut X.env.locals s.heap h') : Inv X pins (σ.set i none) H { s with heap := h' } := by
  have neL : ∀ b o, X.s₀.heap.get? b = some o → b ≠ X.env.locals := fun b o e => Nat.ne_of_lt (Nat.lt_of_lt_of_le (Heap.lt_size e) I.ok.above)
  refine ⟨I.ok, I.os, I.bare, ⟨fun b o e n hb hx => ?_, fun b o e n hb hx => ?_, I.base.free, fun b o e hx => ?_, I.base.tups, I.base.frzs, I.base.tbls⟩, ⟨_, hn', fun j y v e1 e2 e3 => ?_⟩, fun y c e => ?_, I.free, I.freeC, fun p hp => ?_, fun a o q => ?_, by simpa using I.len⟩
  · exact (hs.2 b (neL b o e)).trans (I.base.keep b o e n hb hx)
  · obtain ⟨sl, r⟩ := I.base.slot b o e n hb hx
    exact ⟨sl, (hs.2 b (neL b o e)).trans r⟩
  · obtain ⟨o', r⟩ := I.base.there b o e hx
    exact ⟨o', (hs.2 b (neL b o e)).trans r⟩
  · by_cases hj : j = i
    · subst hj
      by_cases hl : j < σ.length
      · rw [List.getElem?_set_self hl] at e2; cases e2
      · rw [List.getElem?_eq_none (by simpa using hl)] at e2; cases e2
    · rw [List.getElem?_set_ne (Ne.symm hj)] at e2
      obtain ⟨u', r', q⟩ := hm j y v e1 e2 e3
      refine ⟨u', r', ?_⟩
      rcases q with ⟨k, e⟩ | ⟨k, c, e, z⟩
      · have hne : y ≠ n := fun e => hj (nodup_ix hN e1 (e ▸ hi))
        exact .inl ⟨k, by simp [hne, e]⟩
      · exact .inr ⟨k, c, e, z.sameBut hs (I.cne y c e)⟩
  · obtain ⟨w', z⟩ := I.cell y c e
    exact ⟨w', z.sameBut hs (I.cne y c e)⟩
  · obtain ⟨e, n, ne, nf, d⟩ := I.pin p hp
    exact ⟨(hs.2 p.1 ne).trans e, n, ne, nf, d⟩
  · refine (I.hok a o q).stay (fun c w' hc r => (hs.2 c ?_).trans r) (fun _ r => r) fun _ _ r => r
    rintro rfl
    rcases hc with rfl | hc
    · rw [I.free] at q; cases q
    · rw [I.free] at hc; cases hc
theorem Inv.bound {i : Nat} {n : Str} {v : V} (I : Inv X pins σ H s) (hi : X.N[i]? = some n) (hv : σ[i]? = some (some v)) (hk : X.env.scope.names.lookup n = some .local) :
    ∃ m u, s.heap.Ns X.env.locals m ∧ m n = some u ∧ ∀ (j : Nat) (y : Str) (v : V), X.N[j]? = some y → σ[j]? = some (some v) → Vis X.env.scope y → ∃ u, RelV v u ∧ Look X.env s.heap m y u := by
  obtain ⟨m, hn, hl⟩ := I.loc
  obtain ⟨u, _, l⟩ := hl i n v hi hv (.inl hk)
  rcases l with ⟨_, e⟩ | ⟨k, _⟩
  · exact ⟨m, u, hn, e, hl⟩
  · have k : X.env.scope.names.lookup n = some .cell ∨ X.env.scope.names.lookup n = some .free := k
    rcases k with k | k <;> rw [hk] at k <;> cases k
end
/-- does an error of the class at C belong to the class at D -/
theorem exc_matches {M : Model} {A : Around} {E : Value → Shared → Prop} {K : PySem.W.Frag} {s : Shared} {ea C D : Addr} {o : Obj} {Q : Bool → Shared → Prop} (KX : K.In s.heap) (ho : s.heap.get? ea = some o) (hc : o.cls = .ref C)
    (h1 : PySem.W.typeIn K (.ref D) = some (.type "type")) (h2 : (PySem.W.clsIn K D).isSome = true) (h3 : PySem.W.mroIn K D (.type "BaseException") = some true) (h4 : PySem.W.mroIn K C (.ref D) = some true) (q : Q true s) :
    wpAny M A (excMatches (.ref ea) (.ref D)) Q E s := by
  have L1 : PySem.W.Looks M s.heap (typeOf (.ref D)) (.type "type") := PySem.W.looks_typeIn KX h1
  have L2 : PySem.W.Looks M s.heap (isSubtype (.ref D) (.type "BaseException")) true := PySem.W.looks_mroIn KX h3
  have L3 : PySem.W.Looks M s.heap (isSubtype (.ref C) (.ref D)) true := PySem.W.looks_mroIn KX h4
  have L4 : PySem.W.Looks M s.heap (typeOf (.ref ea)) (.ref C) := hc ▸ (PySem.W.Looks.ld ho).andThen .now
  have L5 : PySem.W.Looks M s.heap (isType (.ref D)) true := by
    obtain ⟨cd, e⟩ := Option.isSome_iff_exists.mp h2
    unfold PySem.W.clsIn at e
    split at e
    · rename_i ho2
      intro A' Q' E' s' k q
      unfold isType loadHead
      exact wpAny_bind (wpAny_loadPart (k _ _ (KX _ _ ho2)) (wpAny_pure q))
    · cases e
  have f : isSubtype (.type "type") (.type "tuple") = pure false := tc_notTuple
  unfold excMatches isInstance isExcClass
  refine wpAny_bind (wpAny_bind (L1.at ?_))
  rw [f]
  refine wpAny_pure ?_
  simp only [Bool.false_eq_true, if_false]
  refine wpAny_bind (wpAny_pure ?_)
  rw [List.forIn_cons]
  refine wpAny_bind (wpAny_bind (wpAny_bind (wpAny_bind (L5.at ?_))))
  rw [if_pos rfl]
  refine L2.at ?_
  rw [if_neg (by decide)]
  refine wpAny_pure ?_
  show wpAny M A (pure PUnit.unit) _ E _
  refine wpAny_pure (wpAny_bind (L4.at ?_))
  rw [List.forIn_cons]
  refine wpAny_bind (wpAny_bind (wpAny_bind (L3.at ?_)))
  rw [if_pos rfl]
  exact wpAny_pure (wpAny_pure (wpAny_pure q))
end L2

set_option maxHeartbeats 4000000
namespace L2
open PySem PySem.Spec PyProof.Rows
section
variable {X : Cx}
/-- an error has come out of a call that this body made -/
def FlyP (X : Cx) (pins : List (Addr × Obj)) (σ : St) (ex : Addr → Option Addr → Hp → Prop) (e : Value) (s1 : Shared) : Prop :=
  ∃ (ea C : Addr) (dd : Option Addr) (B : Heap) (H' H0 : Hp) (s0 : Shared), e = .ref ea ∧ Inv X pins σ H0 s0 ∧ Fly X.prog X.w X.stack H0 s0 ea (.ref C) dd B H' s1 ∧ ex C dd H'
abbrev exK (ex : Addr → Option Addr → Hp → Prop) : XK := fun c dd H' => ∃ C, c = .ref C ∧ ex C dd H'
theorem call_flies {k : Nat} {f : Addr} {fd : FuncData} {ps : List Str} {sp : Sp} {x : Str} {p pos : Pos} {e : Expr} {es : List Expr} {t : TA} {dvs : List V} {ds : List Value} {pins : List (Addr × Obj)} {s : Shared} {σ : St} {H : Hp} {Q : VK} {ex : Addr → Option Addr → Hp → Prop}
    (F : FnOk X.prog X.w X.K X.mg X.base (CXe X.prog X.w) k f fd ps sp) (hr : Room k X.A) (hg : Gl X x) (hm : X.mg x = some (.ref f)) (hk : PySem.W.keepIn X.K (.ref f) = true) (hb : Binds X.K fd ps ds) (hd : Vals dvs ds) (ha : PA X.nox (e :: es) t)
    (I : Inv X pins σ H s) (h : t σ H fun vs H1 => sp (vs ++ dvs) H1 Q (exK ex)) (hdb : (x == ("__debug__" : Str)) = false) (he : starEach (e :: es) X.env = (false, eval e X.env) :: starEach es X.env) (hpl : (backTo pos (starEach es X.env)).any (·.1) = false) :
    wpAny (model X.prog X.w) X.A (eval (.Call (.Name x p) (e :: es) [] pos) X.env) (EP X pins σ Q) (FlyP X pins σ ex) s := by
  refine wpAny_Call_Name_kw (ld_glob I hg hm ?_ hdb)
  refine PySem.W.callWith_K (h₀ := X.base) I.ok.mod.kin hk (wpAny_mono (ha pos pins s σ H _ (I.wish _) h) (fun us s1 ⟨vs, H1, I1, r, q⟩ => ⟨I1.unwish.kIn, ?_⟩) fun _ _ z => z.elim) he hpl
  have I1' : Inv X pins σ H1 s1 := I1.unwish
  have r2 : Vals (vs ++ dvs) (us ++ ds) := r.append hd
  have hl : (us ++ ds).length = ps.length := by rw [← r2.length]; exact F.len _ _ _ _ q
  refine wpAny_call (codeAny_mono (F.run X.A X.stack s1 H1 ⟨us, []⟩ (us ++ ds) (vs ++ dvs) Q _ hr I1'.env0 (hb s1 us I1'.kIn hl) r2 q) fun r s' hq => ?_)
  cases r with
  | error e' =>
    obtain ⟨ea, C, dd, B, H', rfl, y, D, hD, z⟩ := hq
    cases hD
    exact ⟨ea, C, dd, B, H', H1, s1, rfl, I1', y, z⟩
  | ok fl =>
    cases fl with
    | ret u => exact I1'.after hq
    | next => exact False.elim hq
    | brk => exact False.elim hq
    | cont => exact False.elim hq
/-- a suite that may end in an error of the text's own -/
abbrev TB := St → Hp → (St → Hp → Prop) → (Addr → Option Addr → Hp → Prop) → Prop
def PB (X : Cx) (body : List Stmt) (t : TB) : Prop := ∀ (pins : List (Addr × Obj)) (s : Shared) (σ : St) (H : Hp) (nx : St → Hp → Prop) (ex : Addr → Option Addr → Hp → Prop), Inv X pins σ H s → t σ H nx ex →
  wpAny (model X.prog X.w) X.A (execs body X.env) (fun f s1 => f = .next ∧ ∃ σ' H', Inv X pins σ' H' s1 ∧ nx σ' H') (FlyP X pins σ ex) s
/-- y = f(..) -/
theorem pb_set {k : Nat} {f : Addr} {fd : FuncData} {ps : List Str} {sp : Sp} {x y : Str} {i : Nat} {p pos py apos : Pos} {e : Expr} {es : List Expr} {t : TA} {dvs : List V} {ds : List Value}
    (F : FnOk X.prog X.w X.K X.mg X.base (CXe X.prog X.w) k f fd ps sp) (hr : Room k X.A) (hg : Gl X x) (hm : X.mg x = some (.ref f)) (hk : PySem.W.keepIn X.K (.ref f) = true) (hb : Binds X.K fd ps ds) (hd : Vals dvs ds) (ha : PA X.nox (e :: es) t)
    (hN : X.N.Nodup) (hi : X.N[i]? = some y) (hx : Loc X.env.scope y) (hs : swapsWith (.Call (.Name x p) (e :: es) [] pos) (some (.Name y py)) apos.line X.env = pure false := by rfl)
    (hf : X.fn y = true ∨ X.env.scope.names.lookup y = some .local := by first | exact .inl rfl | exact .inr rfl | assumption)
    (hdb : (x == ("__debug__" : Str)) = false := by decide) (he : starEach (e :: es) X.env = (false, eval e X.env) :: starEach es X.env := by rfl) (hpl : (backTo pos (starEach es X.env)).any (·.1) = false := by rfl) :
    PB X [.Assign [.Name y py] (.Call (.Name x p) (e :: es) [] pos) apos] (fun σ H nx ex => t σ H fun vs H1 => sp (vs ++ dvs) H1 (fun v H2 => nx (σ.set i (some v)) H2) (exK ex)) := by
  intro pins s σ H nx ex I h
  refine wpAny_execs_cons (wpAny_Assign_Name (thn (call_flies F hr hg hm hk hb hd ha I h hdb he hpl) fun v s1 ⟨u, H1, I1, r1, q1⟩ => ?_) hs)
  exact store_ok I1 hN hi hx r1 (fun s2 I2 => wpAny_execs_nil ⟨rfl, _, H1, I2, q1⟩) hf
/-- try: body / except D as n: z = n -/
theorem ps_try {body : List Stmt} {tb : TB} {bx n z : Str} {D : Addr} {iz ie : Nat} {np pz pn zp hpos pos : Pos} (hB : PB X body tb) (hst : X.stack = X.env :: X.outer) (hfr : X.env.frame = some X.env.locals) (hg : Gl X bx) (hm : X.mg bx = some (.ref D))
    (h1 : PySem.W.typeIn X.K (.ref D) = some (.type "type")) (h2 : (PySem.W.clsIn X.K D).isSome = true) (h3 : PySem.W.mroIn X.K D (.type "BaseException") = some true)
    (hN : X.N.Nodup) (hi : X.N[ie]? = some n) (hl : X.env.scope.names.lookup n = some .local) (hz : X.N[iz]? = some z) (hlz : Loc X.env.scope z) (hf : X.fn z = true ∨ X.env.scope.names.lookup z = some .local := by first | exact .inl rfl | exact .inr rfl | assumption)
    (hsw : swapsWith (.Name n pn) (some (.Name z pz)) zp.line X.env = pure false := by rfl) (hdb : (bx == ("__debug__" : Str)) = false := by decide) (hd1 : (n == ("__debug__" : Str)) = false := by decide) (hd2 : (n == ("__classdict__" : Str)) = false := by decide) :
    PS X (.Try body [.ExceptHandler (some (.Name bx np)) (some n) [.Assign [.Name z pz] (.Name n pn) zp] hpos] [] [] pos)
      (fun D' σ H => tb σ H D'.nx fun C d H' => PySem.W.mroIn X.K C (.ref D) = some true ∧ ∀ ea, H' ea = none → D'.nx (((σ.set ie (some (.ref ea))).set iz (some (.ref ea))).set ie none) (upd H' ea (excO ea C d))) := by
  intro pins s σ H D' I h
  refine wpAny_Try_except (wpAny_mono (hB pins s σ H _ _ I h) (fun f s1 ⟨hf', σ', H', I', q⟩ => ?_) (fun e s1 hx => ?_))
  · subst hf'
    exact wpAny_execs_nil ⟨σ', H', I', q⟩
  · obtain ⟨ea, C, dd, B, H', H0, s0, rfl, I0, y, hmro, q⟩ := hx
    have frs0 : X.A.frames = some (X.env :: X.outer) := by rw [← hst]; exact I0.ok.frames
    have y' : Fly X.prog X.w (X.env :: X.outer) H0 s0 ea (.ref C) dd B H' s1 := by rw [← hst]; exact y
    have stf : ∀ b ∈ frs X.stack, H0 b = none := I0.stkFree
    have fns : ∀ b ∈ frs X.stack, ∃ o, s0.heap.get? b = some o := fun b hb => by
      obtain ⟨_, o, q, _⟩ := I0.stack.mem hb
      exact ⟨o, q⟩
    refine note_next frs0 hfr y'.fl fun h4 held4 ups4 => ?_
    refine lands (s := { s1 with heap := h4 }) held4 fun h5 fl5 ups5 => ?_
    have y5 : Fly X.prog X.w X.stack H0 s0 ea (.ref C) dd B H' { s1 with heap := h5 } := y.move (by rw [hst]; exact fl5) (ups4.trans ups5) stf fns
    have I5 := I0.caught y5
    obtain ⟨oe, ve, hoe, hoc, _, _⟩ := y5.fl.first
    refine wpAny_handleBy_cons (codeAny_handlers_test (ld_glob (X := X.marked (.ref ea)) (I5.mark (.ref ea)) hg hm ?_ hdb)) (fun z => nomatch z)
    refine exc_matches I5.kIn hoe hoc h1 h2 h3 hmro ?_
    rw [if_pos rfl]
    refine codeAny_handlers_suite_as (lands (s := { s1 with heap := h5 }) fl5 fun h6 fl6 ups6 => ?_)
    have y6 : Fly X.prog X.w X.stack H0 s0 ea (.ref C) dd B H' { s1 with heap := h6 } := y5.move (s' := { s1 with heap := h5 }) (by rw [hst]; exact fl6) ups6 stf fns
    have I6 := (I0.caught y6).mark (.ref ea)
    refine store_ok (X := X.marked (.ref ea)) (i := ie) I6 hN hi (.inl hl) (v := .ref ea) rfl (fun s7 I7 => ?_) (.inr hl)
    have asg : PSs (X.marked (.ref ea)) [.Assign [.Name z pz] (.Name n pn) zp] _ := pss_one (ps_set (i := iz) hN hz hlz (pe_var (i := ie) hi (.inl hl) hd1 hd2) hsw hf)
    have len7 := I7.len
    have len0 := I0.len
    have hie : ie < σ.length := by
      have := (List.getElem?_eq_some_iff.mp hi).1
      rw [len0]; exact this
    refine wpAny_mono (asg pins s7 _ _ { nx := fun σ' H'' => σ' = (σ.set ie (some (.ref ea))).set iz (some (.ref ea)) ∧ H'' = upd H' ea (excO ea C dd), rt := fun _ _ => False } I7 ⟨.ref ea, by rw [List.getElem?_set_self hie], rfl, rfl⟩) (fun fl s8 q8 => ?_) fun _ _ z => z.elim
    cases fl with
    | brk => obtain ⟨_, _, _, z⟩ := q8; exact z.elim
    | cont => obtain ⟨_, _, _, z⟩ := q8; exact z.elim
    | ret u => obtain ⟨_, _, _, _, _, z⟩ := q8; exact z.elim
    | next =>
      obtain ⟨σ8, H8, I8, e1, e2⟩ := q8
      subst e1
      subst e2
      have I8' : Inv X pins _ _ s8 := I8.unmark I0.ok
      refine wpAny_bind (wpAny_bindName (store_ok (i := ie) I8' hN hi (.inl hl) (v := .non) rfl (fun s9 I9 => ?_) (.inr hl)))
      have hie8 : ie < (((σ.set ie (some (.ref ea))).set iz (some (.ref ea))).set ie (some V.non)).length := by simpa using hie
      obtain ⟨m, u, hn, hmn, hall⟩ := I9.bound (i := ie) (n := n) (v := .non) hi (by rw [List.getElem?_set_self (by simpa using hie)]) hl
      have hp : (X.env.scope.kind == .class || (X.env.scope.kind == .module && X.env.locals != X.env.globals)) = false := by rw [I9.ok.kind]; rfl
      refine wpAny_onRaise (wpAny_mono (wpAny_unbindName_local (E := X.xe) hl hn hmn hp fun h' u' hn' hs' => ?_) (fun _ _ z => z) fun _ _ z => ?_)
      · have I10 := I9.unbound hN hi hn hall hn' hs'
        rw [List.set_set] at I10
        exact ⟨_, _, I10, q ea y.free⟩
      · exact wpAny_standAt z
end
end L2

set_option maxHeartbeats 400000
set_option maxRecDepth 100000
namespace L2
open PySem PySem.Spec PyProof.Rows PySem.W PySem.Calls PySem.Builtin PySem.Builtin.ObjectAttr PySem.Builtin.Getset_descriptor
/-! ### isinstance of an error object -/
/-- what the top has made of an error class -/
structure ExcC (K : PySem.W.Frag) (C : Addr) : Prop where
  ga : PySem.W.findIn K (.ref C) "__getattribute__" = some (some (.builtin "BaseException.__getattribute__"))
  gt : PySem.W.findIn K (.ref C) "__getattr__" = some none
  ca : PySem.W.findIn K (.ref C) "__class__" = some (some (.builtin "object.__class__"))
  gg : PySem.W.specialIn K (.builtin "object.__class__") "__get__" = some (some (.builtin "getset_descriptor.__get__"))
  tk : PySem.W.takesIn K (.builtin "object.__class__") = some true
  mo : PySem.W.mroIn K C (.type "object") = some true
  mb : PySem.W.mroIn K C (.type "BaseException") = some true
  cl : (PySem.W.clsIn K C).isSome = true
section
variable {prog : Program} {w : World} {A : Around} {E : Value → Shared → Prop} {s : Shared} {K : PySem.W.Frag} {x C : Addr}
theorem exc_class_get {tp : Value} {R : Result → Shared → Prop} (L0 : PySem.W.Looks (model prog w) s.heap (typeOf (.ref x)) (.ref C)) (KX : K.In s.heap) (T : ExcC K C) (h : R (.ok (.ret (.ref C))) s) :
    codeAny (model prog w) A (.call (.builtin "getset_descriptor.__get__") ⟨[.builtin "object.__class__", .ref x, tp], []⟩) R s := by
  have L1 := PySem.W.looks_mroIn (M := model prog w) KX T.mo
  obtain ⟨hh, g, dr, t, os⟩ := s
  refine codeAny_call_builtin KF.slot_gs.plain KF.entry_gs (KF.slot_gs.check _ _ _ _ _ _ _ _ KF.type_class (KF.args_gs _ _ _) ?_)
  unfold Builtin.«getset_descriptor.__get__» descrGet
  rw [dga_obj]
  refine wpAny_bind (wpAny_pure ?_)
  unfold descrGetter descrCheckInstance descrNameAndClass isInstance
  simp only [KF.owner_class]
  repeat lk
  refine ⟨Code.quiet_builtin _ (by decide +kernel), codeAny_builtin KF.entry_class ?_⟩
  unfold Builtin.«object.__class__» shownTypeOf
  repeat lk
  exact h
theorem exc_find (L0 : PySem.W.Looks (model prog w) s.heap (typeOf (.ref x)) (.ref C)) (KX : K.In s.heap) (T : ExcC K C) : PySem.W.Looks (model prog w) s.heap (find (.ref x) (.ref C) "__class__") (.bind (.builtin "getset_descriptor.__get__") (.builtin "object.__class__")) := by
  have a1 := PySem.W.looks_findIn (M := model prog w) KX T.ca
  have a2 := PySem.W.looks_specialIn (M := model prog w) KX T.gg
  have a3 := PySem.W.looks_takesIn (M := model prog w) KX T.tk
  have a4 : PySem.W.Looks (model prog w) s.heap (dataDescriptor? (some (.builtin "object.__class__")) (some (.builtin "getset_descriptor.__get__"))) (some (.builtin "getset_descriptor.__get__", .builtin "object.__class__")) := a3.andThen .now
  exact a1.andThen ((show PySem.W.Looks (model prog w) s.heap (getOf (some (.builtin "object.__class__"))) _ from a2).andThen (a4.andThen (PySem.W.Looks.tag .now)))
theorem args_then {M : Model} {id : String} {args : Args} {Q : Unit → Shared → Prop} (ha : argsOk id args) (h : Q () s) : wpAny M A (match Manifest.signature? id with | some sig => Bind.checkArgs id sig args | _ => pure ()) Q E s := by
  unfold argsOk at ha
  cases hs : Manifest.signature? id with
  | none => exact wpAny_pure h
  | some sig =>
    rw [hs] at ha
    have e : Bind.checkArgs id sig args = pure () := ha
    show wpAny M A (Bind.checkArgs id sig args) Q E s
    rw [e]
    exact wpAny_pure h
theorem exc_entry {tk : Tok} {Q : Fin → Shared → Prop} (L0 : PySem.W.Looks (model prog w) s.heap (typeOf (.ref x)) (.ref C)) (KX : K.In s.heap) (T : ExcC K C) (h : Q (.done (.ret (.ref C))) s) :
    wpAny (model prog w) A (Builtin.«object.__getattribute__» ⟨[.ref x, .str (Str.ofString "__class__") tk], []⟩) Q E s := by
  have a4 := exc_find L0 KX T
  have e1 : slotArgs "__getattribute__" 1 ⟨[.ref x, .str (Str.ofString "__class__") tk], []⟩ = pure (.ref x, [.str (Str.ofString "__class__") tk]) := rfl
  have e2 : ObjectAttr.attrName (.str (Str.ofString "__class__") tk) = pure (Str.ofString "__class__") := rfl
  unfold Builtin.«object.__getattribute__»
  rw [e1]
  refine wpAny_bind (wpAny_pure ?_)
  dsimp only
  rw [e2]
  refine wpAny_bind (wpAny_pure (wpAny_bind (L0.at (wpAny_bind (a4.at ?_)))))
  dsimp only
  have e3 : bindTo (.builtin "getset_descriptor.__get__") (.builtin "object.__class__") (.ref x) (.ref C) = (holding [.builtin "object.__class__"] (call (.builtin "getset_descriptor.__get__") [.builtin "object.__class__", .ref x, .ref C]) >>= ret) := rfl
  rw [e3]
  exact wpAny_bind (wpAny_holding (wpAny_call (exc_class_get L0 KX T (wpAny_pure h))))
theorem exc_attr {Q : Option Value → Shared → Prop} (L0 : PySem.W.Looks (model prog w) s.heap (typeOf (.ref x)) (.ref C)) (KX : K.In s.heap) (T : ExcC K C) (h : Q (some (.ref C)) { s with toks := s.toks + 1 }) :
    wpAny (model prog w) A (getAttr? (.ref x) "__class__") Q E s := by
  have a1 := PySem.W.looks_findIn (M := model prog w) KX T.ga
  have a2 := PySem.W.looks_findIn (M := model prog w) KX T.gt
  have a3 := PySem.W.looks_mroIn (M := model prog w) KX T.mb
  have a4 := exc_find L0 KX T
  have hb := PySem.F.attr_ValueError.ga.bind (.ref x)
  unfold getAttr? getAttrBy? getAttrBy
  refine wpAny_bind (wpAny_mkText (wpAny_bind (wpAny_attempt (wpAny_holding (wpAny_bind (L0.at (wpAny_bind (a1.at ?_))))))))
  show wpAny _ _ (if (onTheHeap (.ref C) && (Value.builtin "BaseException.__getattribute__") == Value.builtin "object.__getattribute__") = true then _ else _) _ _ _
  rw [if_neg (by rw [show (Value.builtin "BaseException.__getattribute__" == Value.builtin "object.__getattribute__") = false by decide +kernel, Bool.and_false]; decide)]
  unfold getAttrByItsOwn hookBefore
  rw [if_pos (show onTheHeap (Value.ref C) = true from rfl)]
  refine wpAny_bind (a2.at (wpAny_bind (wpAny_attempt (wpAny_holding ?_))))
  show wpAny _ _ (boundAndCalled (.builtin "BaseException.__getattribute__") (.ref x) _) _ _ _
  unfold boundAndCalled
  rw [hb]
  refine wpAny_bind (wpAny_pure (wpAny_call (codeAny_call_builtin PySem.F.attr_ValueError.ga.plain PySem.F.entry_bexc_ga ?_)))
  have hk : builtinKind "BaseException.__getattribute__" = some .slot := by decide +kernel
  have hsplit : splitId "BaseException.__getattribute__" = some ("BaseException", "__getattribute__") := by decide +kernel
  have ha := PySem.F.args_bexc_ga (.ref x) (.str (Str.ofString "__class__") s.toks)
  simp only [checkBuiltinCall, hk, hsplit]
  refine wpAny_bind ?_
  unfold isInstance
  refine wpAny_bind (L0.at (a3.at ?_))
  rw [if_neg (by decide)]
  have key : wpAny (model prog w) A.in1 (match Manifest.signature? "BaseException.__getattribute__" with | some sig => Bind.checkArgs "BaseException.__getattribute__" sig ⟨[.ref x, .str (Str.ofString "__class__") s.toks], []⟩ | _ => pure ()) (fun _ s' => s' = { s with toks := s.toks + 1 }) (fun _ _ => False) { s with toks := s.toks + 1 } := args_then ha rfl
  refine wpAny_mono key (fun _ s1 es => ?_) (fun _ _ z => z.elim)
  subst es
  refine exc_entry (s := { s with toks := s.toks + 1 }) L0 KX T ?_
  exact PySem.W.handed_on rfl (wpAny_pure h)
/-- the class of an error object, for isinstance -/
theorem kitx_exc {dd : Option Addr} (T : ExcC K C) : PySem.W.KitX K (.ref x) (.ref C) (fun h => ∃ o vs, h.get? x = some o ∧ o.cls = .ref C ∧ o.data = .fields vs ∧ o.dict = dd) where
  ty := fun _ _ _ ⟨_, _, ho, hc, _⟩ => hc ▸ (PySem.W.Looks.ld ho).andThen .now
  it := fun _ _ KX _ => by
    obtain ⟨cd, e⟩ := Option.isSome_iff_exists.mp T.cl
    unfold PySem.W.clsIn at e
    split at e
    · rename_i ho2
      intro A' Q' E' s' k q
      unfold isType loadHead
      exact wpAny_bind (wpAny_loadPart (k _ _ (KX _ _ ho2)) (wpAny_pure q))
    · cases e
  ne := fun h tp dd its n sl KX htp => by
    obtain ⟨cd, e⟩ := Option.isSome_iff_exists.mp T.cl
    refine Bool.eq_false_iff.mpr fun q => ?_
    have e2 : C = tp := Value.ref.inj (beq_iff_eq.mp q)
    subst e2
    unfold PySem.W.clsIn at e
    split at e
    · rename_i ho2
      have := KX _ _ ho2
      rw [htp] at this
      cases this
    · cases e
  ca := fun KX ⟨_, _, ho, hc, _⟩ q => exc_attr (hc ▸ (PySem.W.Looks.ld ho).andThen .now) KX T q
end
section
variable {X : Cx}
/-- isinstance(e, c), isinstance(e, (c, ..)) of an error object -/
def rIsX (K : PySem.W.Frag) : List V → Hp → VK → Prop := fun xs H Q => ∃ ea C cls c b, xs = [.ref ea, cls] ∧ (∃ dd, H ea = some (excO ea C dd)) ∧ ExcC K C ∧ clsVal cls = some c ∧ PySem.W.kitOne K (.ref C) c = some b ∧ Q (.bl b) H
theorem call_isX : CallR X (.builtin "isinstance") (rIsX X.K) := by
  intro pins s σ H xs us Q I r h
  obtain ⟨ea, C, cls, c, b, rfl, ⟨dd, he⟩, T, hc, e, q⟩ := h
  obtain ⟨u, u2, rfl, rx, rc⟩ := vals2 r
  cases rx
  have ec : u2 = c := by
    cases cls with
    | ty n => cases hc; exact rc
    | ref a => cases hc; exact rc
    | _ => cases hc
  subst ec
  obtain ⟨p, _, _⟩ := (show ObjOk X.prog X.w H s.heap ea (excO ea C dd) from I.hok ea _ he)
  exact PySem.W.kia_one (kitx_exc T) I.kIn p e (fun z => nomatch z) fun tk => ⟨.bl b, H, I.tok tk, rfl, q⟩
def rIsXT (K : PySem.W.Frag) : List V → Hp → VK → Prop := fun xs H Q => ∃ (ea C tp : Addr) (cs : List V) (vs : List Value) (b : Bool), xs = [.ref ea, .ref tp] ∧ (∃ dd, H ea = some (excO ea C dd)) ∧ ExcC K C ∧ H tp = some (.tup cs) ∧ cs.map clsVal = vs.map some ∧ PySem.W.kitAny K (.ref C) vs = some b ∧ Q (.bl b) H
theorem cls_vals : ∀ {cs : List V} {its vs : List Value}, Vals cs its → cs.map clsVal = vs.map some → its = vs
  | [], _, vs, .nil, e => by
    cases vs with
    | nil => rfl
    | cons v vs => cases e
  | c :: cs, _, vs, .cons r t, e => by
    cases vs with
    | nil => cases e
    | cons v vs =>
      rw [List.map_cons, List.map_cons] at e
      injection e with e1 e2
      have h1 := cls_vals t e2
      subst h1
      congr 1
      cases c with
      | ty n => cases e1; exact r
      | ref a => cases e1; exact r
      | _ => cases e1
theorem call_isXT : CallR X (.builtin "isinstance") (rIsXT X.K) := by
  intro pins s σ H xs us Q I r h
  obtain ⟨ea, C, tp, cs, vs, b, rfl, ⟨dd, he⟩, T, ht, hc, e, q⟩ := h
  obtain ⟨u, u2, rfl, rx, rc⟩ := vals2 r
  cases rx
  cases rc
  obtain ⟨_, its, rv, ⟨cl, dd0, dt, sl⟩, h1, h2, n, h3⟩ := (show ObjOk X.prog X.w H s.heap tp (.tup cs) from I.hok tp _ ht)
  have ei := cls_vals rv hc
  subst ei
  dsimp only at h2 h3
  subst h2
  subst h3
  obtain ⟨p, _, _⟩ := (show ObjOk X.prog X.w H s.heap ea (excO ea C dd) from I.hok ea _ he)
  exact PySem.W.kia_tup (kitx_exc T) I.kIn p h1 e (fun z => nomatch z) fun tk => ⟨.bl b, H, I.tok tk, rfl, q⟩
end
end L2

set_option maxHeartbeats 4000000
namespace L2
open PySem PySem.Spec PyProof.Rows
section
variable {X : Cx}
/-! ### x in (a, b), two lists or tuples -/
def rIn2 (X : Cx) : R2 := fun x y H Q => ∃ t p1 p2 b1 b2, y = .ref t ∧ SqT X.K H t [.ref p1, .ref p2] ∧ p1 ≠ p2 ∧ EqW X H 8 (.ref p1) x b1 ∧ EqW X H 8 (.ref p2) x b2 ∧ Q (.bl (b1 || b2)) H
theorem op_in2 {k : Nat} (hr : Room k X.A) : OpR X (compareOp .In) (rIn2 X) := by
  intro pins s σ H x y v u Q I rx ry h
  obtain ⟨t, p1, p2, b1, b2, rfl, ht, hne, h1, h2, q⟩ := h
  cases ry
  obtain ⟨its, r, pl, hz⟩ := I.tuple ht
  obtain ⟨u1, us, rfl, r1, rr⟩ : ∃ u1 us, its = u1 :: us ∧ RelV (.ref p1) u1 ∧ Vals [.ref p2] us := by
    cases r with
    | cons a b => exact ⟨_, _, rfl, a, b⟩
  obtain ⟨u2, rfl, r2⟩ := rr.one
  cases r1
  cases r2
  have hu := hr.units
  have hu1 : X.A.in1.units + 8 < cLine := by rw [units_in1]; omega
  have e1 := h1 pins σ s (.ref p1) v I rfl rx X.A.in1 hu1
  have e2 := h2 pins σ s (.ref p2) v I rfl rx X.A.in1 hu1
  have n1 : ((Value.ref p1) == Value.ref p1) = true := by simp
  have n2 : ((Value.ref p2) == Value.ref p1) = false := by simpa using Ne.symm hne
  refine SeqAt.in_tupleAt (fun z => if (z == Value.ref p1) = true then b1 else b2) pl (fun z hz => ?_) ⟨.bl (b1 || b2), H, I, ?_, q⟩
  · have hz' : z = .ref p1 ∨ z = .ref p2 := by simpa using hz
    rcases hz' with rfl | rfl
    · rw [if_pos n1]; exact e1
    · rw [if_neg (by rw [n2]; decide)]; exact e2
  · have e : (#[Value.ref p1, Value.ref p2] : Array Value).any (fun z => if (z == Value.ref p1) = true then b1 else b2) = (b1 || b2) := by
      simp [Ne.symm hne]
    show Value.bool _ = Value.bool _
    rw [e]
/-- a list of ints against a list of ints, within a list or tuple -/
theorem eqw_ints {H : Hp} {a b : Addr} {xs ys : List Int} (ha : H a = some (.lst (xs.map V.int))) (hb : H b = some (.lst (ys.map V.int))) : EqW X H 8 (.ref a) (.ref b) (decide (xs = ys)) := by
  refine eqw_of (rcw_ints (SqL.of ha) (SqL.of hb)) fun e => ?_
  subst e
  rw [ha] at hb
  injection hb with hb
  injection hb with hb
  have : xs = ys := by
    have inj : ∀ {l m : List Int}, l.map V.int = m.map V.int → l = m := fun {l m} h => (List.map_inj_right (fun a b z => V.int.inj z)).mp h
    exact inj hb
  exact decide_eq_true this
end
/-- a new tuple of ints, all else as it was -/
def NewT (H : Hp) (Q : VK) (l : List Int) : Prop := ∀ r H', Same H H' → H r = none → H' r = some (.tup (l.map V.int)) → Q (.ref r) H'
/-- an int comes out, all that was tracked is as it was -/
def NewI (H : Hp) (Q : VK) (i : Int) : Prop := ∀ H', Same H H' → Q (.int i) H'
def NewB (H : Hp) (Q : VK) (b : Bool) : Prop := ∀ H', Same H H' → Q (.bl b) H'
end L2

set_option maxHeartbeats 4000000
namespace L2
open PySem PySem.Spec PyProof.Rows
/-! ### the readings, step by step: one lemma for each, for the tactic below -/
/-- what stands at an address; an address where nothing stands -/
def At (H : Hp) (a : Addr) (o : HO) : Prop := H a = some o
def Free (H : Hp) (a : Addr) : Prop := H a = none
theorem at_same {H : Hp} {a : Addr} {o : HO} : At (upd H a o) a o := upd_same
def MkL (H : Hp) (Q : VK) (l : List Int) : Prop := ∀ r H', Same H H' → Free H r → At H' r (.lst (l.map V.int)) → Q (.ref r) H'
def MkT (H : Hp) (Q : VK) (l : List Int) : Prop := ∀ r H', Same H H' → Free H r → At H' r (.tup (l.map V.int)) → Q (.ref r) H'
theorem wp_start {t : TS} {D : Ends} {s1 s2 : St} {H : Hp} (e : s1 = s2) (h : t D s2 H) : t D s1 H := e ▸ h
theorem wp_seq {t u : TS} {D : Ends} {s : St} {H : Hp} (h : t { D with nx := u D } s H) : tSeq t u D s H := h
theorem wp_next {D : Ends} {s : St} {H : Hp} (h : D.nx s H) : tNext D s H := h
theorem wp_nx {F B C : St → Hp → Prop} {R : VK} {s : St} {H : Hp} (h : F s H) : (Ends.mk F R B C).nx s H := h
theorem wp_rt {F B C : St → Hp → Prop} {R : VK} {v : V} {H : Hp} (h : R v H) : (Ends.mk F R B C).rt v H := h
theorem wp_asg {te : TE} {g : TG} {D : Ends} {s : St} {H : Hp} (h : te s H fun x H1 => g x s H1 D.nx) : tAsg te g D s H := h
theorem wp_drop {te : TE} {D : Ends} {s : St} {H : Hp} (h : te s H fun _ H1 => D.nx s H1) : tDrop te D s H := h
theorem wp_ret {te : TE} {D : Ends} {s : St} {H : Hp} (h : te s H D.rt) : tRet te D s H := h
theorem wp_ifS {c : TT} {t u : TS} {D : Ends} {s : St} {H : Hp} (h : c s H fun b H1 => if b = true then t D s H1 else u D s H1) : tIfS c t u D s H := h
theorem wp_const {v : V} {s : St} {H : Hp} {Q : VK} (h : Q v H) : tC v s H Q := h
theorem wp_op {r : R2} {ta tb : TE} {s : St} {H : Hp} {Q : VK} (h : ta s H fun x H1 => tb s H1 fun y H2 => r x y H2 Q) : tOp r ta tb s H Q := h
theorem wp_un {r : V → Hp → VK → Prop} {ta : TE} {s : St} {H : Hp} {Q : VK} (h : ta s H fun x H1 => r x H1 Q) : tUn r ta s H Q := h
theorem wp_I0 {g : Int → Int → V} {i j : Int} {H : Hp} {Q : VK} (h : Q (g i j) H) : rI0 g (.int i) (.int j) H Q := ⟨i, j, rfl, rfl, h⟩
theorem wp_I {C : Int → Int → Prop} {g : Int → Int → V} {i j : Int} {H : Hp} {Q : VK} (c : C i j) (h : Q (g i j) H) : rI C g (.int i) (.int j) H Q := ⟨i, j, rfl, rfl, c, h⟩
theorem wp_U {g : Int → V} {i : Int} {H : Hp} {Q : VK} (h : Q (g i) H) : rU g (.int i) H Q := ⟨i, rfl, h⟩
theorem wp_eqI {i j : Int} {H : Hp} {Q : VK} (h : Q (.bl (decide (i = j))) H) : rEq (.int i) (.int j) H Q := by
  refine ⟨rfl, ?_⟩
  rw [show decide (V.int i = V.int j) = decide (i = j) by rw [dec_int]; rfl]
  exact h
theorem wp_neI {i j : Int} {H : Hp} {Q : VK} (h : Q (.bl (!decide (i = j))) H) : rNe (.int i) (.int j) H Q := by
  refine ⟨rfl, ?_⟩
  rw [show decide (V.int i = V.int j) = decide (i = j) by rw [dec_int]; rfl]
  exact h
theorem wp_test {t : TE} {s : St} {H : Hp} {Q : Bool → Hp → Prop} (h : t s H fun x H' => ∃ k, x = .bl k ∧ Q k H') : tTest t s H Q := h
theorem wp_tB {t : TE} {s : St} {H : Hp} {Q : Bool → Hp → Prop} (h : t s H fun x H' => ∃ k, x = .bl k ∧ Q k H') : tB t s H Q := h
theorem wp_exbl {k : Bool} {P : Bool → Prop} (h : P k) : ∃ k', V.bl k = V.bl k' ∧ P k' := ⟨k, rfl, h⟩
theorem wp_exint {k : Int} {P : Int → Prop} (h : P k) : ∃ k', V.int k = V.int k' ∧ P k' := ⟨k, rfl, h⟩
theorem wp_and {t u : TT} {s : St} {H : Hp} {Q : Bool → Hp → Prop} (h : t s H fun c H1 => if c = true then u s H1 Q else Q false H1) : tAnd t u s H Q := h
theorem wp_or {t u : TT} {s : St} {H : Hp} {Q : Bool → Hp → Prop} (h : t s H fun c H1 => if c = true then Q true H1 else u s H1 Q) : tOr t u s H Q := h
theorem wp_not {t : TT} {s : St} {H : Hp} {Q : Bool → Hp → Prop} (h : t s H fun c H1 => Q (!c) H1) : tNot t s H Q := h
theorem wp_andV {ta tb : TE} {s : St} {H : Hp} {Q : VK} (h : ta s H fun x H1 => ∃ c, x = .bl c ∧ if c = true then tb s H1 Q else Q (.bl false) H1) : tAndV ta tb s H Q := h
theorem wp_notV {ta : TE} {s : St} {H : Hp} {Q : VK} (h : ta s H fun x H1 => ∃ c, x = .bl c ∧ Q (.bl (!c)) H1) : tNotV ta s H Q := h
theorem wp_ifE {t : TT} {ta tb : TE} {s : St} {H : Hp} {Q : VK} (h : t s H fun c H1 => if c = true then ta s H1 Q else tb s H1 Q) : tIf t ta tb s H Q := h
theorem wp_nil {s : St} {H : Hp} {Q : List V → Hp → Prop} (h : Q [] H) : tNil s H Q := h
theorem wp_cons {ta : TE} {tr : TA} {s : St} {H : Hp} {Q : List V → Hp → Prop} (h : ta s H fun x H1 => tr s H1 fun xs H2 => Q (x :: xs) H2) : tCons ta tr s H Q := h
theorem wp_tup {t : TA} {s : St} {H : Hp} {Q : VK} (h : t s H fun xs H1 => xs.length ≤ sizeLine ∧ ∀ p, Free H1 p → Q (.ref p) (upd H1 p (.tup xs))) : tTup t s H Q := h
theorem wp_lst {t : TA} {s : St} {H : Hp} {Q : VK} (h : t s H fun xs H1 => xs.length ≤ sizeLine ∧ ∀ p, Free H1 p → Q (.ref p) (upd H1 p (.lst xs))) : tLst t s H Q := h
theorem wp_call {sp : Sp} {dvs : List V} {E : XK} {t : TA} {s : St} {H : Hp} {Q : VK} (h : t s H fun vs H1 => sp (vs ++ dvs) H1 Q E) : tCall sp dvs E t s H Q := h
theorem wp_CB {r : List V → Hp → VK → Prop} {t : TA} {s : St} {H : Hp} {Q : VK} (h : t s H fun vs H1 => r vs H1 Q) : tCB r t s H Q := h
theorem wp_BM {K : PySem.W.Frag} {T : String} {r : V → List V → Hp → VK → Prop} {to : TE} {t : TA} {s : St} {H : Hp} {Q : VK} (h : to s H fun x H1 => tyV K T x H1 ∧ t s H1 fun xs H2 => r x xs H2 Q) : tBM K T r to t s H Q := h
theorem wp_isL {K : PySem.W.Frag} {a : Addr} {xs : List V} {H : Hp} {A : Prop} (e : SqL K H a xs) (h : A) : tyV K "list" (.ref a) H ∧ A := ⟨.inl ⟨rfl, xs, e⟩, h⟩
theorem wp_append {l : Addr} {xs : List V} {y : V} {H : Hp} {Q : VK} (e : At H l (.lst xs)) (hl : xs.length < sizeLine) (h : Q .non (upd H l (.lst (xs ++ [y])))) : rAppend (.ref l) [y] H Q := ⟨l, xs, y, rfl, rfl, e, hl, h⟩
def rFld (K : PySem.W.Frag) (f : Str) : V → Hp → VK → Prop := fun x H Q => ∃ a C dx fs v, x = .ref a ∧ H a = some (.ins C dx fs) ∧ Cls K C ∧ NoAttr K C f ∧ fs.lookup f = some v ∧ Q v H
theorem wp_fld {K : PySem.W.Frag} {ta : TE} {f : Str} {s : St} {H : Hp} {Q : VK} (h : ta s H fun x H1 => rFld K f x H1 Q) : tFld K ta f s H Q := h
theorem wp_fldA {K : PySem.W.Frag} {f : Str} {a C dx : Addr} {fs : List (Str × V)} {v : V} {H : Hp} {Q : VK} (e : At H a (.ins C dx fs)) (c : Cls K C) (n : NoAttr K C f) (l : fs.lookup f = some v) (h : Q v H) : rFld K f (.ref a) H Q := ⟨a, C, dx, fs, v, rfl, e, c, n, l, h⟩
def rSetF (K : PySem.W.Frag) (f : Str) (y : V) : V → Hp → (Hp → Prop) → Prop := fun x H N => ∃ a C dx fs, x = .ref a ∧ H a = some (.ins C dx fs) ∧ Cls K C ∧ NoAttr K C f ∧ fs.length < 1000 ∧ N (upd H a (.ins C dx (putF f y fs)))
theorem wp_setF {K : PySem.W.Frag} {ta tv : TE} {f : Str} {D : Ends} {s : St} {H : Hp} (h : tv s H fun y H1 => ta s H1 fun x H2 => rSetF K f y x H2 fun H3 => D.nx s H3) : sFld K ta tv f D s H := h
theorem wp_setFA {K : PySem.W.Frag} {f : Str} {a C dx : Addr} {fs fs' : List (Str × V)} {y : V} {H : Hp} {N : Hp → Prop} (e : At H a (.ins C dx fs)) (c : Cls K C) (n : NoAttr K C f) (l : fs.length < 1000) (p : putF f y fs = fs') (h : N (upd H a (.ins C dx fs'))) : rSetF K f y (.ref a) H N := ⟨a, C, dx, fs, rfl, e, c, n, l, p ▸ h⟩
def rAugG (K : PySem.W.Frag) (f : Str) (N : Addr → Addr → V → Hp → Prop) : V → Hp → Prop := fun x H => ∃ a C dx fs v, x = .ref a ∧ H a = some (.ins C dx fs) ∧ Cls K C ∧ NoAttr K C f ∧ fs.lookup f = some v ∧ N a C v H
def rAugP (f : Str) (a C : Addr) (z : V) (H : Hp) (N : Hp → Prop) : Prop := ∃ dx' fs', H a = some (.ins C dx' fs') ∧ fs'.length < 1000 ∧ N (upd H a (.ins C dx' (putF f z fs')))
def rMeth (C : Addr) (m : Str) (N : V → Hp → Prop) : V → Hp → Prop := fun x H => ∃ a dx fs, x = .ref a ∧ H a = some (.ins C dx fs) ∧ fs.lookup m = none ∧ N x H
theorem wp_meth {C : Addr} {m : Str} {sp : Sp} {dvs : List V} {E : XK} {ta : TE} {t : TA} {s : St} {H : Hp} {Q : VK} (h : ta s H fun x H1 => rMeth C m (fun x H1 => t s H1 fun vs H2 => sp (x :: (vs ++ dvs)) H2 Q E) x H1) : tMeth C m sp dvs E ta t s H Q := h
theorem wp_methA {C a dx : Addr} {m : Str} {fs : List (Str × V)} {H : Hp} {N : V → Hp → Prop} (e : At H a (.ins C dx fs)) (l : fs.lookup m = none) (h : N (.ref a) H) : rMeth C m N (.ref a) H := ⟨a, dx, fs, rfl, e, l, h⟩
def rLenK (K : PySem.W.Frag) : List V → Hp → VK → Prop := fun xs H Q => ∃ p ys, xs = [.ref p] ∧ (SqL K H p ys ∨ SqT K H p ys) ∧ Q (.int ys.length) H
theorem call_lenK {X : Cx} : CallR X (.builtin "len") (rLenK X.K) := call_len_seq
theorem wp_lenL {K : PySem.W.Frag} {a : Addr} {xs : List V} {H : Hp} {Q : VK} (e : SqL K H a xs) (h : Q (.int xs.length) H) : rLenK K [.ref a] H Q := ⟨a, xs, rfl, .inl e, h⟩
def rListK (K : PySem.W.Frag) : List V → Hp → VK → Prop := fun xs H Q => ∃ p ys, xs = [.ref p] ∧ (SqL K H p ys ∨ SqT K H p ys) ∧ ∀ l, H l = none → Q (.ref l) (upd H l (.lst ys))
theorem call_listK {X : Cx} : CallR X (.type "list") (rListK X.K) := call_list_of
theorem wp_listL {K : PySem.W.Frag} {a : Addr} {xs : List V} {H : Hp} {Q : VK} (e : SqL K H a xs) (h : ∀ l, Free H l → Q (.ref l) (upd H l (.lst xs))) : rListK K [.ref a] H Q := ⟨a, xs, rfl, .inl e, h⟩
def rInt1 : List V → Hp → VK → Prop := fun xs H Q => (∃ i, xs = [.int i] ∧ Q (.int i) H) ∨ ∃ k, xs = [.bl k] ∧ Q (.int (if k then 1 else 0)) H
def rTruK (K : PySem.W.Frag) : V → Hp → (Bool → Hp → Prop) → Prop := fun x H Q => ∃ k, TruV K x H k ∧ Q k H
def tTru (K : PySem.W.Frag) (ta : TE) : TT := fun s H Q => ta s H fun x H' => rTruK K x H' Q
theorem pt_tru {X : Cx} {a : Expr} {ta : TE} (ha : PE X a ta) (he : ∀ whole, isTrue a X.env whole = (do let v ← whole; standAt a.pos; holding [v] (truthy v))) : PT X a (tTru X.K ta) := pt_truth ha he
theorem wp_tru {K : PySem.W.Frag} {ta : TE} {s : St} {H : Hp} {Q : Bool → Hp → Prop} (h : ta s H fun x H' => rTruK K x H' Q) : tTru K ta s H Q := h
theorem wp_truL {K : PySem.W.Frag} {a : Addr} {xs : List V} {H : Hp} {Q : Bool → Hp → Prop} (e : SqL K H a xs) (h : Q (!xs.isEmpty) H) : rTruK K (.ref a) H Q := ⟨_, .inl ⟨xs, e, rfl⟩, h⟩
def rIsN : R2 := fun x y H Q => y = .non ∧ Q (.bl (decide (x = .non))) H
def rNotN : R2 := fun x y H Q => y = .non ∧ Q (.bl (!decide (x = .non))) H
theorem wp_make {C : Addr} {sp : Sp} {dvs : List V} {E : XK} {t : TA} {s : St} {H : Hp} {Q : VK} (h : t s H fun vs H1 => ∀ x dx, Free H1 x → Free H1 dx → dx ≠ x → sp (.ref x :: (vs ++ dvs)) (upd (upd H1 dx (.own x)) x (.ins C dx [])) (fun v H2 => v = .non ∧ Q (.ref x) H2) E) : tMake C sp dvs E t s H Q := h
theorem wp_ixL {K : PySem.W.Frag} {a : Addr} {xs : List V} {i : Int} {v : V} {H : Hp} {Q : VK} (e : SqL K H a xs) (hi : atI xs i = some v) (h : Q v H) : rIxL K (.ref a) (.int i) H Q := ⟨a, xs, i, v, rfl, rfl, e, hi, h⟩
theorem wp_ixT {K : PySem.W.Frag} {a : Addr} {xs : List V} {i : Int} {v : V} {H : Hp} {Q : VK} (e : SqT K H a xs) (hi : atI xs i = some v) (h : Q v H) : rIxT K (.ref a) (.int i) H Q := ⟨a, xs, i, v, rfl, rfl, e, hi, h⟩
theorem wp_cat {a b : Addr} {xs ys : List V} {H : Hp} {Q : VK} (e1 : At H a (.lst xs)) (e2 : At H b (.lst ys)) (hl : xs.length + ys.length ≤ sizeLine) (h : ∀ p, Free H p → Q (.ref p) (upd H p (.lst (xs ++ ys)))) : rCat (.ref a) (.ref b) H Q := ⟨a, b, xs, ys, rfl, rfl, e1, e2, hl, h⟩
theorem wp_sl {r : V → Option Int → Option Int → Hp → VK → Prop} {te : TE} {tl th : TO} {s : St} {H : Hp} {Q : VK} (h : te s H fun x H1 => tl s H1 fun l H2 => th s H2 fun u H3 => r x l u H3 Q) : tSl r te tl th s H Q := h
theorem wp_noPart {s : St} {H : Hp} {Q : Option Int → Hp → Prop} (h : Q none H) : tNoPart s H Q := h
theorem wp_part {t : TE} {s : St} {H : Hp} {Q : Option Int → Hp → Prop} (h : t s H fun x H1 => ∃ i, x = .int i ∧ Q (some i) H1) : tPart t s H Q := h
theorem wp_slL {K : PySem.W.Frag} {a : Addr} {xs ys : List V} {lo hi : Option Int} {H : Hp} {Q : VK} (e : SqL K H a xs) (c : cutV xs lo hi = ys) (h : ∀ p, Free H p → Q (.ref p) (upd H p (.lst ys))) : rSlL K (.ref a) lo hi H Q := ⟨a, xs, rfl, e, c ▸ h⟩
theorem wp_text {t : TJ} {s : St} {H : Hp} {Q : VK} (h : t s H fun H' => ∀ y : Str, Q (.str y) H') : tText t s H Q := h
/-! tests -/
theorem wp_dec {p A B : Prop} [Decidable p] (h1 : p → A) (h2 : ¬ p → B) : if decide p = true then A else B := by
  by_cases h : p
  · rw [decide_eq_true h]; exact iteT (h1 h)
  · rw [decide_eq_false h]; exact iteF (h2 h)
theorem wp_ndec {p A B : Prop} [Decidable p] (h1 : ¬ p → A) (h2 : p → B) : if (!decide p) = true then A else B := by
  by_cases h : p
  · rw [decide_eq_true h]; exact iteF (h2 h)
  · rw [decide_eq_false h]; exact iteT (h1 h)
/-! the heap -/
theorem upd_new {H : Hp} {a p : Addr} {o x : HO} (hp : Free H p) (h : At H a o) : At (upd H p x) a o := (upd_ne (ne_of_none h hp)).trans h
theorem upd_oth {H : Hp} {a p : Addr} {o x : HO} (ne : a ≠ p) (h : At H a o) : At (upd H p x) a o := (upd_ne ne).trans h
theorem free_of {H : Hp} {a p : Addr} {x : HO} (h : Free (upd H p x) a) : Free H a ∧ a ≠ p := by
  have h' : upd H p x a = none := h
  by_cases e : a = p
  · subst e; rw [upd_same] at h'; cases h'
  · rw [upd_ne e] at h'; exact ⟨h', e⟩
theorem Same.get {H H' : Hp} {a : Addr} {o : HO} (s : Same H H') (h : At H a o) : At H' a o := s a o h
theorem Same.new {H H' : Hp} {p : Addr} {o : HO} (s : Same H H') (hp : Free H' p) : Same H (upd H' p o) := same_upd s (s.free hp)
/-- all but what stands at S is as it was -/
def Chg (S : List Addr) (H H' : Hp) : Prop := ∀ b o, b ∉ S → H b = some o → H' b = some o
theorem Chg.refl (S : List Addr) (H : Hp) : Chg S H H := fun _ _ _ h => h
theorem Chg.trans {S : List Addr} {H H1 H2 : Hp} (a : Chg S H H1) (b : Chg S H1 H2) : Chg S H H2 := fun c o n h => b c o n (a c o n h)
theorem Same.chg {S : List Addr} {H H' : Hp} (s : Same H H') : Chg S H H' := fun c o _ h => s c o h
theorem Chg.new {S : List Addr} {H H' : Hp} {p : Addr} {o : HO} (s : Chg S H H') (hp : Free H' p) : Chg S H (upd H' p o) := fun b u n h => by
  have := s b u n h
  exact upd_new hp this
theorem Chg.upd {S : List Addr} {H H' : Hp} {p : Addr} {o : HO} (s : Chg S H H') (hp : p ∈ S) : Chg S H (upd H' p o) := fun b u n h => by
  have := s b u n h
  exact upd_oth (fun e => n (e ▸ hp)) this
theorem Same.fr {H H' : Hp} {p : Addr} (s : Same H H') (h : Free H' p) : Free H p := s.free h
theorem Same.upF {H H' : Hp} {p : Addr} {o : HO} (s : Same H H') (h : Free H p) : Same H (upd H' p o) := same_upd s h
theorem At.sqL {K : PySem.W.Frag} {H : Hp} {a : Addr} {xs : List V} (h : At H a (.lst xs)) : SqL K H a xs := SqL.of h
theorem At.sqT {K : PySem.W.Frag} {H : Hp} {a : Addr} {xs : List V} (h : At H a (.tup xs)) : SqT K H a xs := SqT.of h
theorem At.ne {H : Hp} {a b : Addr} {o u : HO} (h : At H a o) (h' : At H b u) (d : o ≠ u) : a ≠ b := ne_of h h' d
theorem notin1 {a b : Addr} (h : a ≠ b) : a ∉ [b] := by simp [h]
theorem notin3 {a b c d : Addr} (h : a ≠ b) (h2 : a ≠ c) (h3 : a ≠ d) : a ∉ [b, c, d] := by simp [h, h2, h3]

theorem wp_v0 {v : V} {r : St} {H : Hp} {Q : VK} (h : Q v H) : tVar 0 (some v :: r) H Q := ⟨v, rfl, h⟩
theorem wp_g0 {v : V} {x : Option V} {r : St} {H : Hp} {Q : St → Hp → Prop} (h : Q (some v :: r) H) : gName 0 v (x :: r) H Q := h
theorem wp_v1 {v : V} {a0 : Option V} {r : St} {H : Hp} {Q : VK} (h : Q v H) : tVar 1 (a0 :: some v :: r) H Q := ⟨v, rfl, h⟩
theorem wp_g1 {v : V} {x : Option V} {a0 : Option V} {r : St} {H : Hp} {Q : St → Hp → Prop} (h : Q (a0 :: some v :: r) H) : gName 1 v (a0 :: x :: r) H Q := h
theorem wp_v2 {v : V} {a0 a1 : Option V} {r : St} {H : Hp} {Q : VK} (h : Q v H) : tVar 2 (a0 :: a1 :: some v :: r) H Q := ⟨v, rfl, h⟩
theorem wp_g2 {v : V} {x : Option V} {a0 a1 : Option V} {r : St} {H : Hp} {Q : St → Hp → Prop} (h : Q (a0 :: a1 :: some v :: r) H) : gName 2 v (a0 :: a1 :: x :: r) H Q := h
theorem wp_v3 {v : V} {a0 a1 a2 : Option V} {r : St} {H : Hp} {Q : VK} (h : Q v H) : tVar 3 (a0 :: a1 :: a2 :: some v :: r) H Q := ⟨v, rfl, h⟩
theorem wp_g3 {v : V} {x : Option V} {a0 a1 a2 : Option V} {r : St} {H : Hp} {Q : St → Hp → Prop} (h : Q (a0 :: a1 :: a2 :: some v :: r) H) : gName 3 v (a0 :: a1 :: a2 :: x :: r) H Q := h
theorem wp_v4 {v : V} {a0 a1 a2 a3 : Option V} {r : St} {H : Hp} {Q : VK} (h : Q v H) : tVar 4 (a0 :: a1 :: a2 :: a3 :: some v :: r) H Q := ⟨v, rfl, h⟩
theorem wp_g4 {v : V} {x : Option V} {a0 a1 a2 a3 : Option V} {r : St} {H : Hp} {Q : St → Hp → Prop} (h : Q (a0 :: a1 :: a2 :: a3 :: some v :: r) H) : gName 4 v (a0 :: a1 :: a2 :: a3 :: x :: r) H Q := h
theorem wp_v5 {v : V} {a0 a1 a2 a3 a4 : Option V} {r : St} {H : Hp} {Q : VK} (h : Q v H) : tVar 5 (a0 :: a1 :: a2 :: a3 :: a4 :: some v :: r) H Q := ⟨v, rfl, h⟩
theorem wp_g5 {v : V} {x : Option V} {a0 a1 a2 a3 a4 : Option V} {r : St} {H : Hp} {Q : St → Hp → Prop} (h : Q (a0 :: a1 :: a2 :: a3 :: a4 :: some v :: r) H) : gName 5 v (a0 :: a1 :: a2 :: a3 :: a4 :: x :: r) H Q := h
theorem wp_v6 {v : V} {a0 a1 a2 a3 a4 a5 : Option V} {r : St} {H : Hp} {Q : VK} (h : Q v H) : tVar 6 (a0 :: a1 :: a2 :: a3 :: a4 :: a5 :: some v :: r) H Q := ⟨v, rfl, h⟩
theorem wp_g6 {v : V} {x : Option V} {a0 a1 a2 a3 a4 a5 : Option V} {r : St} {H : Hp} {Q : St → Hp → Prop} (h : Q (a0 :: a1 :: a2 :: a3 :: a4 :: a5 :: some v :: r) H) : gName 6 v (a0 :: a1 :: a2 :: a3 :: a4 :: a5 :: x :: r) H Q := h
theorem wp_v7 {v : V} {a0 a1 a2 a3 a4 a5 a6 : Option V} {r : St} {H : Hp} {Q : VK} (h : Q v H) : tVar 7 (a0 :: a1 :: a2 :: a3 :: a4 :: a5 :: a6 :: some v :: r) H Q := ⟨v, rfl, h⟩
theorem wp_g7 {v : V} {x : Option V} {a0 a1 a2 a3 a4 a5 a6 : Option V} {r : St} {H : Hp} {Q : St → Hp → Prop} (h : Q (a0 :: a1 :: a2 :: a3 :: a4 :: a5 :: a6 :: some v :: r) H) : gName 7 v (a0 :: a1 :: a2 :: a3 :: a4 :: a5 :: a6 :: x :: r) H Q := h
theorem wp_v8 {v : V} {a0 a1 a2 a3 a4 a5 a6 a7 : Option V} {r : St} {H : Hp} {Q : VK} (h : Q v H) : tVar 8 (a0 :: a1 :: a2 :: a3 :: a4 :: a5 :: a6 :: a7 :: some v :: r) H Q := ⟨v, rfl, h⟩
theorem wp_g8 {v : V} {x : Option V} {a0 a1 a2 a3 a4 a5 a6 a7 : Option V} {r : St} {H : Hp} {Q : St → Hp → Prop} (h : Q (a0 :: a1 :: a2 :: a3 :: a4 :: a5 :: a6 :: a7 :: some v :: r) H) : gName 8 v (a0 :: a1 :: a2 :: a3 :: a4 :: a5 :: a6 :: a7 :: x :: r) H Q := h
theorem wp_v9 {v : V} {a0 a1 a2 a3 a4 a5 a6 a7 a8 : Option V} {r : St} {H : Hp} {Q : VK} (h : Q v H) : tVar 9 (a0 :: a1 :: a2 :: a3 :: a4 :: a5 :: a6 :: a7 :: a8 :: some v :: r) H Q := ⟨v, rfl, h⟩
theorem wp_g9 {v : V} {x : Option V} {a0 a1 a2 a3 a4 a5 a6 a7 a8 : Option V} {r : St} {H : Hp} {Q : St → Hp → Prop} (h : Q (a0 :: a1 :: a2 :: a3 :: a4 :: a5 :: a6 :: a7 :: a8 :: some v :: r) H) : gName 9 v (a0 :: a1 :: a2 :: a3 :: a4 :: a5 :: a6 :: a7 :: a8 :: x :: r) H Q := h
theorem wp_v10 {v : V} {a0 a1 a2 a3 a4 a5 a6 a7 a8 a9 : Option V} {r : St} {H : Hp} {Q : VK} (h : Q v H) : tVar 10 (a0 :: a1 :: a2 :: a3 :: a4 :: a5 :: a6 :: a7 :: a8 :: a9 :: some v :: r) H Q := ⟨v, rfl, h⟩
theorem wp_g10 {v : V} {x : Option V} {a0 a1 a2 a3 a4 a5 a6 a7 a8 a9 : Option V} {r : St} {H : Hp} {Q : St → Hp → Prop} (h : Q (a0 :: a1 :: a2 :: a3 :: a4 :: a5 :: a6 :: a7 :: a8 :: a9 :: some v :: r) H) : gName 10 v (a0 :: a1 :: a2 :: a3 :: a4 :: a5 :: a6 :: a7 :: a8 :: a9 :: x :: r) H Q := h
theorem wp_v11 {v : V} {a0 a1 a2 a3 a4 a5 a6 a7 a8 a9 a10 : Option V} {r : St} {H : Hp} {Q : VK} (h : Q v H) : tVar 11 (a0 :: a1 :: a2 :: a3 :: a4 :: a5 :: a6 :: a7 :: a8 :: a9 :: a10 :: some v :: r) H Q := ⟨v, rfl, h⟩
theorem wp_g11 {v : V} {x : Option V} {a0 a1 a2 a3 a4 a5 a6 a7 a8 a9 a10 : Option V} {r : St} {H : Hp} {Q : St → Hp → Prop} (h : Q (a0 :: a1 :: a2 :: a3 :: a4 :: a5 :: a6 :: a7 :: a8 :: a9 :: a10 :: some v :: r) H) : gName 11 v (a0 :: a1 :: a2 :: a3 :: a4 :: a5 :: a6 :: a7 :: a8 :: a9 :: a10 :: x :: r) H Q := h
theorem wp_v13 {v : V} {a0 a1 a2 a3 a4 a5 a6 a7 a8 a9 a10 a11 a12 : Option V} {r : St} {H : Hp} {Q : VK} (h : Q v H) : tVar 13 (a0 :: a1 :: a2 :: a3 :: a4 :: a5 :: a6 :: a7 :: a8 :: a9 :: a10 :: a11 :: a12 :: some v :: r) H Q := ⟨v, rfl, h⟩
theorem wp_g13 {v : V} {x : Option V} {a0 a1 a2 a3 a4 a5 a6 a7 a8 a9 a10 a11 a12 : Option V} {r : St} {H : Hp} {Q : St → Hp → Prop} (h : Q (a0 :: a1 :: a2 :: a3 :: a4 :: a5 :: a6 :: a7 :: a8 :: a9 :: a10 :: a11 :: a12 :: some v :: r) H) : gName 13 v (a0 :: a1 :: a2 :: a3 :: a4 :: a5 :: a6 :: a7 :: a8 :: a9 :: a10 :: a11 :: a12 :: x :: r) H Q := h
theorem wp_v14 {v : V} {a0 a1 a2 a3 a4 a5 a6 a7 a8 a9 a10 a11 a12 a13 : Option V} {r : St} {H : Hp} {Q : VK} (h : Q v H) : tVar 14 (a0 :: a1 :: a2 :: a3 :: a4 :: a5 :: a6 :: a7 :: a8 :: a9 :: a10 :: a11 :: a12 :: a13 :: some v :: r) H Q := ⟨v, rfl, h⟩
theorem wp_g14 {v : V} {x : Option V} {a0 a1 a2 a3 a4 a5 a6 a7 a8 a9 a10 a11 a12 a13 : Option V} {r : St} {H : Hp} {Q : St → Hp → Prop} (h : Q (a0 :: a1 :: a2 :: a3 :: a4 :: a5 :: a6 :: a7 :: a8 :: a9 :: a10 :: a11 :: a12 :: a13 :: some v :: r) H) : gName 14 v (a0 :: a1 :: a2 :: a3 :: a4 :: a5 :: a6 :: a7 :: a8 :: a9 :: a10 :: a11 :: a12 :: a13 :: x :: r) H Q := h
end L2

set_option maxHeartbeats 4000000
namespace L2
open PySem PySem.Spec PyProof.Rows
/-! ### promises by the number of arguments -/
def sp0 (f : Hp → VK → XK → Prop) : Sp := fun vs H Q E => vs = [] ∧ f H Q E
def sp1 (f : V → Hp → VK → XK → Prop) : Sp := fun vs H Q E => ∃ a, vs = [a] ∧ f a H Q E
def sp2 (f : V → V → Hp → VK → XK → Prop) : Sp := fun vs H Q E => ∃ a b, vs = [a, b] ∧ f a b H Q E
def sp3 (f : V → V → V → Hp → VK → XK → Prop) : Sp := fun vs H Q E => ∃ a b c, vs = [a, b, c] ∧ f a b c H Q E
def sp4 (f : V → V → V → V → Hp → VK → XK → Prop) : Sp := fun vs H Q E => ∃ a b c d, vs = [a, b, c, d] ∧ f a b c d H Q E
theorem len1 {f : V → Hp → VK → XK → Prop} {p : Str} : ∀ vs H Q E, sp1 f vs H Q E → vs.length = [p].length := by rintro _ _ _ _ ⟨_, rfl, _⟩; rfl
theorem len2 {f : V → V → Hp → VK → XK → Prop} {p q : Str} : ∀ vs H Q E, sp2 f vs H Q E → vs.length = [p, q].length := by rintro _ _ _ _ ⟨_, _, rfl, _⟩; rfl
theorem len3 {f : V → V → V → Hp → VK → XK → Prop} {p q r : Str} : ∀ vs H Q E, sp3 f vs H Q E → vs.length = [p, q, r].length := by rintro _ _ _ _ ⟨_, _, _, rfl, _⟩; rfl
theorem wp_s1 {f : V → Hp → VK → XK → Prop} {a : V} {H : Hp} {Q : VK} {E : XK} (h : f a H Q E) : sp1 f ([a] ++ []) H Q E := ⟨a, rfl, h⟩
theorem wp_s2 {f : V → V → Hp → VK → XK → Prop} {a b : V} {H : Hp} {Q : VK} {E : XK} (h : f a b H Q E) : sp2 f ([a, b] ++ []) H Q E := ⟨a, b, rfl, h⟩
theorem wp_s3 {f : V → V → V → Hp → VK → XK → Prop} {a b c : V} {H : Hp} {Q : VK} {E : XK} (h : f a b c H Q E) : sp3 f ([a, b, c] ++ []) H Q E := ⟨a, b, c, rfl, h⟩
theorem wp_m1 {f : V → Hp → VK → XK → Prop} {a : V} {H : Hp} {Q : VK} {E : XK} (h : f a H Q E) : sp1 f (a :: ([] ++ [])) H Q E := ⟨a, rfl, h⟩
theorem wp_m2 {f : V → V → Hp → VK → XK → Prop} {a b : V} {H : Hp} {Q : VK} {E : XK} (h : f a b H Q E) : sp2 f (a :: ([b] ++ [])) H Q E := ⟨a, b, rfl, h⟩
/-! ### a def, a method, a class of the text -/
def DefAt (K : PySem.W.Frag) (mg : Str → Option Value) (x : Str) (st : Stmt) : Prop := ∃ f fd, Fun K x x st f fd ∧ mg x = some (.ref f)
def MethAt (K : PySem.W.Frag) (C : Addr) (m qual : Str) (st : Stmt) : Prop := ∃ f fd, Fun K m qual st f fd ∧ Meth K C m f
def InitAt (K : PySem.W.Frag) (C : Addr) (qual : Str) (st : Stmt) : Prop := ∃ f fd, Fun K "__init__" qual st f fd ∧ Mk K C f
def HasF (P : Program) (w : World) (K : PySem.W.Frag) (mg : Str → Option Value) (base : Heap) (CX : CXT) (k : Nat) (x : Str) (ps : List Str) (sp : Sp) : Prop :=
  ∃ f fd, FnOk P w K mg base CX k f fd ps sp ∧ Binds K fd ps [] ∧ PySem.W.keepIn K (.ref f) = true ∧ mg x = some (.ref f)
def HasM (P : Program) (w : World) (K : PySem.W.Frag) (mg : Str → Option Value) (base : Heap) (CX : CXT) (k : Nat) (C : Addr) (m : Str) (ps : List Str) (sp : Sp) : Prop :=
  ∃ f fd, FnOk P w K mg base CX k f fd ps sp ∧ Binds K fd ps [] ∧ Meth K C m f
def HasI (P : Program) (w : World) (K : PySem.W.Frag) (mg : Str → Option Value) (base : Heap) (CX : CXT) (k : Nat) (C : Addr) (ps : List Str) (sp : Sp) : Prop :=
  ∃ f fd, FnOk P w K mg base CX k f fd ps sp ∧ Binds K fd ps [] ∧ Mk K C f
section
variable {P : Program} {w : World} {K : PySem.W.Frag} {mg : Str → Option Value} {base : Heap}
abbrev BindOf (x qual : Str) (st : Stmt) (ps : List Str) : Prop := ∀ (kV doc pm : Value) (an : Option Addr) (cdv ct : Value) (us : List Value), us.length = ps.length → bindArgs (PySem.W.fnOf x qual (defArgs st) (defBody st) (defScope st) .none kV doc pm an cdv ct) ⟨us, []⟩ = pure (ps.zip us)
theorem DefAt.ok {x : Str} {st : Stmt} {N ps : List Str} {k : Nat} {sp : Sp} (D : DefAt K mg x st) (S : FnScope N ps (defScope st)) (hb : BindOf x x st ps) (len : ∀ vs H Q E, sp vs H Q E → vs.length = ps.length)
    (hbody : ∀ (f : Addr) (cdv : Value) (A : Around) (outer : List Env) (s : Shared) (H : Hp) (vs : List V) (Q : VK) (E : XK), Room k (A.deeper (envOfC x (defScope st) s.heap.objs.size f cdv)) → sp vs H Q E →
      ∃ t, PSs (cxOf CX0 P w K mg base N x (defScope st) f cdv A outer s H E).nox (defBody st) t ∧ t { nx := fun _ H' => Q .non H', rt := Q } (start N vs) H) : HasF P w K mg base CX0 (k + 1) x ps sp := by
  obtain ⟨f, fd, F, m⟩ := D
  exact ⟨f, fd, F.ok S len (hbody f), F.binds hb, F.kp, m⟩
theorem DefAt.okE {x : Str} {st : Stmt} {N ps : List Str} {k : Nat} {sp : Sp} (D : DefAt K mg x st) (S : FnScope N ps (defScope st)) (hb : BindOf x x st ps) (len : ∀ vs H Q E, sp vs H Q E → vs.length = ps.length)
    (hbody : ∀ (f : Addr) (cdv : Value) (A : Around) (outer : List Env) (s : Shared) (H : Hp) (vs : List V) (Q : VK) (E : XK), Room k (A.deeper (envOfC x (defScope st) s.heap.objs.size f cdv)) → sp vs H Q E →
      ∃ t, PSs (cxOf (CXe P w) P w K mg base N x (defScope st) f cdv A outer s H E) (defBody st) t ∧ t { nx := fun _ H' => Q .non H', rt := Q } (start N vs) H) : HasF P w K mg base (CXe P w) (k + 1) x ps sp := by
  obtain ⟨f, fd, F, m⟩ := D
  exact ⟨f, fd, F.okE S len (hbody f), F.binds hb, F.kp, m⟩
theorem MethAt.ok {C : Addr} {m qual : Str} {st : Stmt} {N ps : List Str} {k : Nat} {sp : Sp} (D : MethAt K C m qual st) (S : FnScope N ps (defScope st)) (hb : BindOf m qual st ps) (len : ∀ vs H Q E, sp vs H Q E → vs.length = ps.length)
    (hbody : ∀ (f : Addr) (cdv : Value) (A : Around) (outer : List Env) (s : Shared) (H : Hp) (vs : List V) (Q : VK) (E : XK), Room k (A.deeper (envOfC qual (defScope st) s.heap.objs.size f cdv)) → sp vs H Q E →
      ∃ t, PSs (cxOf CX0 P w K mg base N qual (defScope st) f cdv A outer s H E).nox (defBody st) t ∧ t { nx := fun _ H' => Q .non H', rt := Q } (start N vs) H) : HasM P w K mg base CX0 (k + 1) C m ps sp := by
  obtain ⟨f, fd, F, m⟩ := D
  exact ⟨f, fd, F.ok S len (hbody f), F.binds hb, m⟩
theorem InitAt.ok {C : Addr} {qual : Str} {st : Stmt} {N ps : List Str} {k : Nat} {sp : Sp} (D : InitAt K C qual st) (S : FnScope N ps (defScope st)) (hb : BindOf "__init__" qual st ps) (len : ∀ vs H Q E, sp vs H Q E → vs.length = ps.length)
    (hbody : ∀ (f : Addr) (cdv : Value) (A : Around) (outer : List Env) (s : Shared) (H : Hp) (vs : List V) (Q : VK) (E : XK), Room k (A.deeper (envOfC qual (defScope st) s.heap.objs.size f cdv)) → sp vs H Q E →
      ∃ t, PSs (cxOf CX0 P w K mg base N qual (defScope st) f cdv A outer s H E).nox (defBody st) t ∧ t { nx := fun _ H' => Q .non H', rt := Q } (start N vs) H) : HasI P w K mg base CX0 (k + 1) C ps sp := by
  obtain ⟨f, fd, F, m⟩ := D
  exact ⟨f, fd, F.ok S len (hbody f), F.binds hb, m⟩
end
section
variable {X : Cx} {CX : CXT} {j k : Nat} {x m : Str} {C : Addr} {ps : List Str} {sp : Sp} {E : XK} {p pos apos : Pos} {e o : Expr} {es : List Expr} {t : TA} {ta : TE}
/-- f(..) -/
theorem pe_f (G : HasF X.prog X.w X.K X.mg X.base CX j x ps sp) (hr : Room k X.A) (hx : Passes CX X E) (ha : PA X (e :: es) t) (hjk : j ≤ k := by decide) (hg : Gl X x := by rfl) (hdb : (x == ("__debug__" : Str)) = false := by decide)
    (he : starEach (e :: es) X.env = (false, eval e X.env) :: starEach es X.env := by rfl) (hpl : (backTo pos (starEach es X.env)).any (·.1) = false := by rfl) : PE X (.Call (.Name x p) (e :: es) [] pos) (tCall sp [] E t) := by
  obtain ⟨f, fd, F, b, kp, mm⟩ := G
  exact pe_call F (hr.mono hjk) hg mm kp b .nil hx ha hdb he hpl
/-- o.m(..) -/
theorem pe_m {pl : Sem Bool} (c : Cls X.K C) (G : HasM X.prog X.w X.K X.mg X.base CX j C m ps sp) (hr : Room k X.A) (hx : Passes CX X E) (he : PE X o ta) (ha : PA X (e :: es) t) (hjk : j ≤ k := by decide)
    (hst : starEach (e :: es) X.env = (false, eval e X.env) :: starEach es X.env := by rfl) (hpl : (backTo pos (starEach es X.env)).any (·.1) = false := by rfl)
    (ht : eval (.Call (.Attribute o m apos) (e :: es) [] pos) X.env = (do
      let ov ← eval o X.env
      standAt apos.atName
      let (f, first) ← holding [ov] (getMethod ov m pl)
      callWith pos f first (backTo pos (starEach (e :: es) X.env)) (backToKw pos (keywordEach [] X.env))) := by rfl) :
    PE X (.Call (.Attribute o m apos) (e :: es) [] pos) (tMeth C m sp [] E ta t) := by
  obtain ⟨f, fd, F, b, mm⟩ := G
  exact pe_meth he c mm F (hr.mono hjk) b .nil hx ha hst hpl ht
theorem pe_m0 {pl : Sem Bool} (c : Cls X.K C) (G : HasM X.prog X.w X.K X.mg X.base CX j C m ps sp) (hr : Room k X.A) (hx : Passes CX X E) (he : PE X o ta) (hjk : j ≤ k := by decide)
    (ht : eval (.Call (.Attribute o m apos) [] [] pos) X.env = (do
      let ov ← eval o X.env
      standAt apos.atName
      let (f, first) ← holding [ov] (getMethod ov m pl)
      callWith pos f first (backTo pos (starEach [] X.env)) (backToKw pos (keywordEach [] X.env))) := by rfl) :
    PE X (.Call (.Attribute o m apos) [] [] pos) (tMeth C m sp [] E ta tNil) := by
  obtain ⟨f, fd, F, b, mm⟩ := G
  exact pe_meth0 he c mm F (hr.mono hjk) b .nil hx ht
theorem pe_mk0 (G : HasI X.prog X.w X.K X.mg X.base CX j C ps sp) (hr : Room k X.A) (hm : X.mg x = some (.ref C)) (hx : Passes CX X E) (hjk : j + 1 ≤ k := by decide) (hg : Gl X x := by rfl) (hdb : (x == ("__debug__" : Str)) = false := by decide) :
    PE X (.Call (.Name x p) [] [] pos) (tMake C sp [] E tNil) := by
  obtain ⟨f, fd, F, b, mm⟩ := G
  exact pe_make0 mm F (hr.mono hjk) hg hm b .nil hx hdb
end
/-! ### a constant of the file's top -/
theorem pgi {X : Cx} {x : Str} {i : Int} {pos : Pos} (hm : ∃ t, X.mg x = some (.int i t)) (hg : Gl X x := by rfl) (hd : (x == ("__debug__" : Str)) = false := by decide) : PE X (.Name x pos) (tC (.int i)) := let ⟨_, h⟩ := hm; pe_glob hg h ⟨_, rfl⟩ hd
theorem pgr {X : Cx} {x : Str} {a : Addr} {pos : Pos} (hm : X.mg x = some (.ref a)) (hg : Gl X x := by rfl) (hd : (x == ("__debug__" : Str)) = false := by decide) : PE X (.Name x pos) (tC (.ref a)) := pe_glob hg hm rfl hd
theorem pty {X : Cx} {x : Str} {n : String} {pos : Pos} (hm : X.mg x = none) (hv : bootBuiltins x = some (.type n)) (hg : Gl X x := by rfl) (hn : x ≠ "__name__" := by decide) (hd : (x == ("__debug__" : Str)) = false := by decide) : PE X (.Name x pos) (tC (.ty n)) := pe_bltn hg hm hv rfl hn hd
end L2

set_option maxHeartbeats 4000000
namespace L2
open PySem PySem.Spec PyProof.Rows
theorem ne_new {H : Hp} {a b : Addr} {o : HO} (h' : Free H b) (h : At H a o) : a ≠ b := ne_of_none h h'
/-! ### the program's objects: their attributes -/
def rdF (w p c : V) : List (Str × V) := [("wire", w), ("plain", p), ("choices", c)]
theorem put_choices {w p c v : V} : putF "choices" v (rdF w p c) = rdF w p v := by rfl
def ndF (st ps rd sn qu tk fc : V) : List (Str × V) := [("state", st), ("passed", ps), ("reading", rd), ("sending", sn), ("queue", qu), ("taken", tk), ("fault_count", fc)]
section
variable {st ps rd sn qu tk fc v : V}
end
def buF (ns bp : V) : List (Str × V) := [("nodes", ns), ("bits_past", bp)]
/-! ### more of the readings -/
theorem wp_rep {l : Addr} {k : Int} {xs : List V} {H : Hp} {Q : VK} (e : At H l (.lst xs)) (h1 : -(2 ^ 63) ≤ k) (h2 : k < 2 ^ 63) (h3 : xs.length * k.toNat ≤ sizeLine) (h : ∀ p, Free H p → Q (.ref p) (upd H p (.lst (List.replicate k.toNat xs).flatten))) : rRep (.ref l) (.int k) H Q :=
  ⟨l, k, xs, rfl, rfl, e, h1, h2, h3, h⟩
theorem wp_forL {K : PySem.W.Frag} {tl : TE} {g : TG} {tb : TS} {D : Ends} {s : St} {H : Hp} (h : tl s H fun x H1 => ∃ a, x = .ref a ∧ (∃ xs, SqL K H1 a xs) ∧ ∃ W : Nat → Nat → St → Hp → Prop, (∃ m, W 0 m s H1) ∧ ∀ i m σ H, W i m σ H →
  ((Itl K a).stop i H ∧ D.nx σ H) ∨ ((Itl K a).go i H ∧ ∃ N : St → Hp → Prop, (∀ σ' H', N σ' H' → ∃ m', m' < m ∧ W (i + 1) m' σ' H') ∧ ∀ x H', (Itl K a).yld i H x H' → g x σ H' fun σ2 H2 => tb { D with nx := N, ct := N, bk := D.nx } σ2 H2)) : tFor (iList K tl) g tb D s H := h
theorem wp_forLA {K : PySem.W.Frag} {g : TG} {tb : TS} {D : Ends} {s : St} {H : Hp} {a : Addr} {xs : List V} (Pv : Nat → St → Hp → Prop) (e : SqL K H a xs) (h0 : Pv 0 s H) (hl : ∀ i σ H, i ≤ xs.length → Pv i σ H → SqL K H a xs)
    (hs : ∀ i x σ H, xs[i]? = some x → Pv i σ H → g x σ H fun σ2 H2 => tb { D with nx := Pv (i + 1), ct := Pv (i + 1), bk := D.nx } σ2 H2) (hd : ∀ σ H, Pv xs.length σ H → D.nx σ H) :
    ∃ a', V.ref a = .ref a' ∧ (∃ xs, SqL K H a' xs) ∧ ∃ W : Nat → Nat → St → Hp → Prop, (∃ m, W 0 m s H) ∧ ∀ i m σ H, W i m σ H →
  ((Itl K a').stop i H ∧ D.nx σ H) ∨ ((Itl K a').go i H ∧ ∃ N : St → Hp → Prop, (∀ σ' H', N σ' H' → ∃ m', m' < m ∧ W (i + 1) m' σ' H') ∧ ∀ x H', (Itl K a').yld i H x H' → g x σ H' fun σ2 H2 => tb { D with nx := N, ct := N, bk := D.nx } σ2 H2) :=
  ⟨a, rfl, ⟨xs, e⟩, for_list Pv h0 hl hs hd⟩
theorem wp_forR {ta : TA} {g : TG} {tb : TS} {D : Ends} {s : St} {H : Hp} (h : ta s H fun vs H1 => ∃ j : Int, vs = [.int j] ∧ -(2 ^ 62) ≤ j ∧ j < 2 ^ 62 ∧ ∃ W : Nat → Nat → St → Hp → Prop, (∃ m, W 0 m s H1) ∧ ∀ i m σ H, W i m σ H →
  ((Itr 0 j.toNat).stop i H ∧ D.nx σ H) ∨ ((Itr 0 j.toNat).go i H ∧ ∃ N : St → Hp → Prop, (∀ σ' H', N σ' H' → ∃ m', m' < m ∧ W (i + 1) m' σ' H') ∧ ∀ x H', (Itr 0 j.toNat).yld i H x H' → g x σ H' fun σ2 H2 => tb { D with nx := N, ct := N, bk := D.nx } σ2 H2)) : tFor (iRng1 ta) g tb D s H := h
theorem wp_forRA {g : TG} {tb : TS} {D : Ends} {s : St} {H : Hp} {j : Int} (n : Nat) (Pv : Nat → St → Hp → Prop) (e : j.toNat = n) (hn : j < 2 ^ 62 ∧ -(2 ^ 62) ≤ j) (h0 : Pv 0 s H)
    (hs : ∀ i σ H, i < n → Pv i σ H → g (.int (i : Int)) σ H fun σ2 H2 => tb { D with nx := Pv (i + 1), ct := Pv (i + 1), bk := D.nx } σ2 H2) (hd : ∀ σ H, Pv n σ H → D.nx σ H) :
    ∃ j' : Int, [V.int j] = [.int j'] ∧ -(2 ^ 62) ≤ j' ∧ j' < 2 ^ 62 ∧ ∃ W : Nat → Nat → St → Hp → Prop, (∃ m, W 0 m s H) ∧ ∀ i m σ H, W i m σ H →
  ((Itr 0 j'.toNat).stop i H ∧ D.nx σ H) ∨ ((Itr 0 j'.toNat).go i H ∧ ∃ N : St → Hp → Prop, (∀ σ' H', N σ' H' → ∃ m', m' < m ∧ W (i + 1) m' σ' H') ∧ ∀ x H', (Itr 0 j'.toNat).yld i H x H' → g x σ H' fun σ2 H2 => tb { D with nx := N, ct := N, bk := D.nx } σ2 H2) := by
  refine ⟨j, rfl, hn.2, hn.1, ?_⟩
  rw [e]
  exact for_range Pv h0 (fun i σ H hi hp => by rw [Int.zero_add]; exact hs i σ H hi hp) hd
/-- [.. for x in a list] as a reading -/
theorem wp_compL {K : PySem.W.Frag} {tl : TE} {tt : TT} {te : TE} {js : List Nat} {s : St} {H : Hp} {Q : VK} (h : tl s H fun x H1 => ∃ a, x = .ref a ∧ (∃ xs, SqL K H1 a xs) ∧ ∀ D, Free H1 D → ∃ W : Nat → Nat → List V → Hp → Prop, (∃ n, W 0 n [] (upd H1 D (.lst []))) ∧ TurnT (Itl K a) tt te (capV s js) D W Q) : tComp (iList K tl) tt te js s H Q := h
theorem wp_compR {ta : TA} {tt : TT} {te : TE} {js : List Nat} {s : St} {H : Hp} {Q : VK} (h : ta s H fun vs H1 => ∃ j : Int, vs = [.int j] ∧ -(2 ^ 62) ≤ j ∧ j < 2 ^ 62 ∧ ∀ D, Free H1 D → ∃ W : Nat → Nat → List V → Hp → Prop, (∃ n, W 0 n [] (upd H1 D (.lst []))) ∧ TurnT (Itr 0 j.toNat) tt te (capV s js) D W Q) : tComp (iRng1 ta) tt te js s H Q := h
/-- nothing that was tracked changes while the list is made -/
theorem wp_compLA {K : PySem.W.Frag} {te : TE} {caps : St} {H : Hp} {Q : VK} {a : Addr} {xs : List V} (f : V → V) (e : SqL K H a xs) (hn : xs.length ≤ sizeLine)
    (he : ∀ (i : Nat) (x : V) (H' : Hp) (R : VK), xs[i]? = some x → Same H H' → (∀ H2, Same H' H2 → R (f x) H2) → te (caps ++ [some x]) H' R)
    (hQ : ∀ D Hf, Same H Hf → Free H D → Hf D = some (.lst (xs.map f)) → Q (.ref D) Hf) :
    ∃ a', V.ref a = .ref a' ∧ (∃ xs, SqL K H a' xs) ∧ ∀ D, Free H D → ∃ W : Nat → Nat → List V → Hp → Prop, (∃ n, W 0 n [] (upd H D (.lst []))) ∧ TurnT (Itl K a') tAlways te caps D W Q :=
  ⟨a, rfl, ⟨xs, e⟩, fun D hD => comp_lst f hD hn e he fun Hf s1 e1 => hQ D Hf s1 hD e1⟩
theorem wp_compRA {te : TE} {caps : St} {H : Hp} {Q : VK} {j : Int} (n : Nat) (f : Nat → V) (e : j.toNat = n) (hj : j < 2 ^ 62 ∧ -(2 ^ 62) ≤ j) (hn : n ≤ sizeLine)
    (he : ∀ (i : Nat) (H' : Hp) (R : VK), i < n → Same H H' → (∀ H2, Same H' H2 → R (f i) H2) → te (caps ++ [some (.int (i : Int))]) H' R)
    (hQ : ∀ D Hf, Same H Hf → Free H D → Hf D = some (.lst ((List.range n).map f)) → Q (.ref D) Hf) :
    ∃ j' : Int, [V.int j] = [.int j'] ∧ -(2 ^ 62) ≤ j' ∧ j' < 2 ^ 62 ∧ ∀ D, Free H D → ∃ W : Nat → Nat → List V → Hp → Prop, (∃ n, W 0 n [] (upd H D (.lst []))) ∧ TurnT (Itr 0 j'.toNat) tAlways te caps D W Q := by
  refine ⟨j, rfl, hj.2, hj.1, fun D hD => ?_⟩
  rw [e]
  exact comp_rng f hD hn (fun i H' R hi s1 hR => by rw [Int.zero_add]; exact he i H' R hi s1 hR) fun Hf s1 e1 => hQ D Hf s1 hD e1
/-! ### lists of ints -/
theorem atI_map {l : List Int} {j : Nat} (h : j < l.length) : atI (l.map V.int) (j : Int) = some (.int (l.getD j 0)) := by
  refine atI_nat ?_
  rw [List.getElem?_map, List.getElem?_eq_getElem h]
  simp [List.getD_eq_getElem?_getD, h]
theorem ixN_nat {n j : Nat} (h : j < n) : ixN n (j : Int) = some j := by
  unfold ixN
  rw [if_pos (by omega), if_pos (by omega)]
  simp
theorem map_set (l : List Int) (j : Nat) (x : Int) : (l.map V.int).set j (.int x) = (l.set j x).map V.int := by
  rw [List.map_set]
theorem get_int {bs : List Int} {i : Nat} {y : V} (h : (bs.map V.int)[i]? = some y) : ∃ b, bs[i]? = some b ∧ y = .int b := by
  rw [List.getElem?_map] at h
  cases e : bs[i]? with
  | none => rw [e] at h; cases h
  | some b => rw [e] at h; exact ⟨b, rfl, (Option.some.inj h).symm⟩
theorem fold_snoc {α β : Type} {f : α → β → α} {a : α} {l : List β} {i : Nat} {b : β} (h : l[i]? = some b) : (l.take (i + 1)).foldl f a = f ((l.take i).foldl f a) b := by
  have hi := (List.getElem?_eq_some_iff.mp h)
  obtain ⟨hi, e⟩ := hi
  rw [List.take_succ_eq_append_getElem hi, List.foldl_append, e]
  rfl
/-- x in a list or tuple of ints -/
theorem inV_ints (i : Int) (l : List Int) : inV (.int i) (l.map V.int) = l.contains i := by
  unfold inV
  rw [List.any_map]
  induction l with
  | nil => rfl
  | cons a l ih =>
    rw [List.any_cons, ih, List.contains_cons]
    congr 1
    show (a == i) = (i == a)
    exact Bool.eq_iff_iff.mpr ⟨fun h => by simpa using (beq_iff_eq.mp h).symm, fun h => by simpa using (beq_iff_eq.mp h).symm⟩
theorem flat_ints (l : List Int) : (l.map V.int).all flatV = true := by
  rw [List.all_eq_true]
  intro x hx
  obtain ⟨_, _, rfl⟩ := List.mem_map.mp hx
  rfl
/-- a cut of a list, by natural bounds -/
theorem cut_nat (xs : List V) (a b : Nat) : cutV xs (some (a : Int)) (some (b : Int)) = (xs.take b).drop a := by
  unfold cutV
  rw [HT.sIx_nat, HT.sIx_nat]
  rcases Nat.le_total a xs.length with h | h
  · rw [Nat.min_eq_left h, List.drop_take]
    rcases Nat.le_total b xs.length with h2 | h2
    · rw [Nat.min_eq_left h2]
    · rw [Nat.min_eq_right h2, List.take_of_length_le (by rw [List.length_drop]; omega), List.take_of_length_le (by rw [List.length_drop]; omega)]
  · rw [Nat.min_eq_right h, List.drop_eq_nil_of_le (Nat.le_refl _), List.drop_eq_nil_of_le (by rw [List.length_take]; omega)]
    simp
theorem cut_from (xs : List V) (a : Nat) : cutV xs (some (a : Int)) none = xs.drop a := by
  unfold cutV
  rw [HT.sIx_nat, HT.sIx_none]
  rcases Nat.le_total a xs.length with h | h
  · rw [Nat.min_eq_left h, List.take_of_length_le (by rw [List.length_drop]; omega)]
  · rw [Nat.min_eq_right h, List.drop_eq_nil_of_le (Nat.le_refl _), List.drop_eq_nil_of_le h]
    simp
theorem cut_to (xs : List V) (b : Nat) : cutV xs none (some (b : Int)) = xs.take b := by
  unfold cutV
  rw [HT.sIx_nat, HT.sIx_none, Nat.sub_zero, List.drop_zero]
  rcases Nat.le_total b xs.length with h | h
  · rw [Nat.min_eq_left h]
  · rw [Nat.min_eq_right h, List.take_of_length_le (Nat.le_refl _), List.take_of_length_le h]
/-! ### == and != by the written part alone -/
def RcK (K : PySem.W.Frag) (H : Hp) (n : Nat) (x y : V) (b : Bool) : Prop := ∀ X : Cx, X.K = K → RcW X H n x y b
def EqK (K : PySem.W.Frag) (H : Hp) (n : Nat) (x y : V) (b : Bool) : Prop := ∀ X : Cx, X.K = K → EqW X H n x y b
def rEqK (K : PySem.W.Frag) : R2 := fun x y H Q => ∃ b, RcK K H 8 x y b ∧ Q (.bl b) H
def rNeK (K : PySem.W.Frag) : R2 := fun x y H Q => ∃ b, RcK K H 8 x y b ∧ Q (.bl (!b)) H
def rIn2K (K : PySem.W.Frag) : R2 := fun x y H Q => ∃ t p1 p2 b1 b2, y = .ref t ∧ SqT K H t [.ref p1, .ref p2] ∧ p1 ≠ p2 ∧ EqK K H 8 (.ref p1) x b1 ∧ EqK K H 8 (.ref p2) x b2 ∧ Q (.bl (b1 || b2)) H
section
variable {X : Cx} {K : PySem.W.Frag}
theorem op_eqK {k : Nat} (hr : Room k X.A) : OpR X (compareOp .Eq) (rEqK X.K) := fun pins s σ H x y v u Q I rx ry ⟨b, h, q⟩ => op_eqW hr pins s σ H x y v u Q I rx ry ⟨b, h X rfl, q⟩
theorem op_neK {k : Nat} (hr : Room k X.A) : OpR X (compareOp .NotEq) (rNeK X.K) := fun pins s σ H x y v u Q I rx ry ⟨b, h, q⟩ => op_neW hr pins s σ H x y v u Q I rx ry ⟨b, h X rfl, q⟩
theorem op_in2K {k : Nat} (hr : Room k X.A) : OpR X (compareOp .In) (rIn2K X.K) := fun pins s σ H x y v u Q I rx ry ⟨t, p1, p2, b1, b2, e, hs, hn, h1, h2, q⟩ => op_in2 hr pins s σ H x y v u Q I rx ry ⟨t, p1, p2, b1, b2, e, hs, hn, h1 X rfl, h2 X rfl, q⟩
theorem rck_ints {H : Hp} {a b : Addr} {xs ys : List Int} (ha : SqL K H a (xs.map V.int)) (hb : SqL K H b (ys.map V.int)) : RcK K H 8 (.ref a) (.ref b) (decide (xs = ys)) := fun X e => by subst e; exact rcw_ints ha hb
theorem eqk_ints {H : Hp} {a b : Addr} {xs ys : List Int} (ha : At H a (.lst (xs.map V.int))) (hb : At H b (.lst (ys.map V.int))) : EqK K H 8 (.ref a) (.ref b) (decide (xs = ys)) := fun X e => by subst e; exact eqw_ints ha hb
theorem wp_eqLs {H : Hp} {a b : Addr} {xs ys : List Int} {Q : VK} (ha : SqL K H a (xs.map V.int)) (hb : SqL K H b (ys.map V.int)) (h : Q (.bl (decide (xs = ys))) H) : rEqK K (.ref a) (.ref b) H Q := ⟨_, rck_ints ha hb, h⟩
theorem wp_neLs {H : Hp} {a b : Addr} {xs ys : List Int} {Q : VK} (ha : SqL K H a (xs.map V.int)) (hb : SqL K H b (ys.map V.int)) (h : Q (.bl (!decide (xs = ys))) H) : rNeK K (.ref a) (.ref b) H Q := ⟨_, rck_ints ha hb, h⟩
end
theorem SqL.new {K : PySem.W.Frag} {H : Hp} {a p : Addr} {xs : List V} {o : HO} (hp : Free H p) (h : SqL K H a xs) : SqL K (upd H p o) a xs := (same_new hp o).seq h
/-! shapes -/
theorem id_At {H : Hp} {a : Addr} {o : HO} (h : At H a o) : At H a o := h
theorem id_SqL {K : PySem.W.Frag} {H : Hp} {a : Addr} {xs : List V} (h : SqL K H a xs) : SqL K H a xs := h
theorem id_SqT {K : PySem.W.Frag} {H : Hp} {a : Addr} {xs : List V} (h : SqT K H a xs) : SqT K H a xs := h
theorem ne_newE {H : Hp} {a b : Addr} (h' : Free H b) (h : ∃ o, At H a o) : a ≠ b := let ⟨_, e⟩ := h; ne_of_none e h'
section
variable {K : PySem.W.Frag} {f m : Str} {a C : Addr} {H : Hp} {Q : VK} {N : Hp → Prop} {y : V} {i j : Int} {A : Prop}
theorem id_I {R : Int → Int → Prop} {g : Int → Int → V} (h : rI R g (.int i) (.int j) H Q) : rI R g (.int i) (.int j) H Q := h
theorem id_fld (h : rFld K f (.ref a) H Q) : rFld K f (.ref a) H Q := h
theorem id_setF (h : rSetF K f y (.ref a) H N) : rSetF K f y (.ref a) H N := h
theorem id_meth {N : V → Hp → Prop} (h : rMeth C m N (.ref a) H) : rMeth C m N (.ref a) H := h
theorem id_len (h : rLenK K [.ref a] H Q) : rLenK K [.ref a] H Q := h
theorem id_list (h : rListK K [.ref a] H Q) : rListK K [.ref a] H Q := h
theorem id_ixT (h : rIxT K (.ref a) (.int i) H Q) : rIxT K (.ref a) (.int i) H Q := h
theorem id_isL (h : tyV K "list" (.ref a) H ∧ A) : tyV K "list" (.ref a) H ∧ A := h
theorem id_tru {Q : Bool → Hp → Prop} (h : rTruK K (.ref a) H Q) : rTruK K (.ref a) H Q := h
end
end L2

set_option maxHeartbeats 4000000
namespace L2
open PySem PySem.Spec PyProof.Rows
/-! ### range(a, b, 8) -/
/-- lo, lo + c, .. (n of them) -/
def Its (lo c : Int) (n : Nat) : It := ⟨fun i _ => i < n, fun i H x H' => H' = H ∧ x = .int (lo + (i : Nat) * c), fun i _ => n ≤ i⟩
theorem turn_rangeS {P : Program} {w : World} {K : PySem.W.Frag} {tg : Expr} (it : Addr) (lo c : Int) (n : Nat) : Turn P w K tg (Its lo c n) [it] it (fun i h => IsRangeIter h it (lo + (i : Nat) * c) ((n : Int) - (i : Nat)) c) where
  mem := by simp
  obj := fun i h st b hb => by
    have e : b = it := by simpa using hb
    subst e
    exact ⟨_, st, fun v z => by
      have z' : Data.fields _ = Data.cell v := z
      cases z'⟩
  keep := fun i h h' st k => k it (by simp) _ st
  item := by
    intro X hP hw hK hc i pins s σ H E I hf st hg
    subst hP hw hK
    obtain ⟨f0, f1, f2, f3, f4, f5⟩ := hf it (by simp)
    have W := Walks.range (prog := X.prog) (w := X.w) (I.ok.hd hc) it lo c n
    refine W.item i s _ _ hg st fun v h' tk hv st' kk => ?_
    obtain ⟨t, rfl⟩ := hv
    have I1 : Inv X pins σ H { s with heap := h', toks := tk } := I.turned (fun b o hb e => kk b o (by simpa using hb) e) f0 f1 f3 f4 f5
    exact ⟨_, rfl, go_of (s := { s with heap := h', toks := tk }) (n := "range_iterator") st' rfl rfl (by decide) ⟨.int (lo + (i : Nat) * c), H, I1, ⟨t, rfl⟩, ⟨rfl, rfl⟩, st', fun b hb => (hf b hb).1⟩⟩
  done := by
    intro X hP hw hK hc i pins s σ H E I hf st hg
    subst hP hw hK
    obtain ⟨f0, f1, f2, f3, f4, f5⟩ := hf it (by simp)
    exact wpAny_pyNext_range_end (I.ok.hd hc) st (by have : n ≤ i := hg; omega) fun h' eb => ⟨rfl, I.turned (t' := s.toks) (fun b o hb e => eb b o hb e) f0 f1 f3 f4 f5⟩
  self := fun _ _ _ _ _ st h => wpAny_pyIter_rangeiter st h
section
variable {X : Cx} {tg : Expr}
theorem rangeSize_8 {i j : Int} {n : Nat} (e : j = i + 8 * n) : Builtin.Range.rangeSize i j 8 = n := by
  unfold Builtin.Range.rangeSize
  rw [if_pos (by decide)]
  split <;> omega
theorem small_8 {i j : Int} {n : Nat} (h0 : 0 ≤ i) (e : j = i + 8 * n) (h1 : j ≤ 100000) : Builtin.Range.small i j 8 = true := by
  unfold Builtin.Range.small
  rw [rangeSize_8 e]
  simp only [Builtin.Range.rangeFitsLong, Bool.and_eq_true, Bool.or_eq_true, decide_eq_true_eq, beq_iff_eq, show (8 : Int) > 0 by decide, if_true]
  omega
def iRng3 (ta : TA) : TI := fun σ H R => ta σ H fun vs H1 => ∃ (i j : Int) (n : Nat), vs = [.int i, .int j, .int 8] ∧ 0 ≤ i ∧ j = i + 8 * n ∧ j ≤ 100000 ∧ R (Its i 8 n) H1
theorem pi_range3 {a b c : Expr} {ta : TA} {p pos : Pos} (hg : Gl X "range") (hm : X.mg "range" = none) (ha : PA X [a, b, c] ta) (hs : starEach [a, b, c] X.env = [(false, eval a X.env), (false, eval b X.env), (false, eval c X.env)] := by rfl)
    (hs2 : starEach [b, c] X.env = [(false, eval b X.env), (false, eval c X.env)] := by rfl) : PI X tg (.Call (.Name "range" p) [a, b, c] [] pos) (iRng3 ta) := by
  intro pins s σ H R I h
  refine Call_ (ld_blt I hg hm boot_range (PyProof.Rows.callWith_type1 (thn (ha pos pins s σ H _ I h) fun us s1 ⟨vs, H1, I1, r1, q1⟩ => ?_) (by rw [hs, hs2]) (by rw [hs2]; rfl)))
  obtain ⟨i, j, n, e, q1, q2, q3, q⟩ := q1
  subst e
  cases r1 with
  | cons r rr =>
    cases rr with
    | cons r' rr =>
      cases rr with
      | cons r3 rr =>
        cases rr
        obtain ⟨t, rfl⟩ := r
        obtain ⟨t', rfl⟩ := r'
        obtain ⟨t3, rfl⟩ := r3
        refine call_range_3 (by decide) ?_ (Or.inl (PyProof.noPylong_small (by omega)))
        refine wpAny_pyIter_range (IsRange.new ..) (small_8 q1 q2 q3) ?_
        have I2 : Inv X pins σ H1 { s1 with heap := s1.heap.push { cls := .type "range", data := .fields #[.int i t, .int j t', .int 8 t3] }, toks := s1.toks } := I1.kept fun b o e => Heap.get?_push_of_some _ e
        refine ⟨(s1.heap.push { cls := .type "range", data := .fields #[.int i t, .int j t', .int 8 t3] }).objs.size, [(s1.heap.push { cls := .type "range", data := .fields #[.int i t, .int j t', .int 8 t3] }).objs.size], _, _, H1, rfl,
          I2.kept (t' := s1.toks) fun b o e => Heap.get?_push_of_some _ e, turn_rangeS _ i 8 n, ?_, fun b hb => ?_, q⟩
        · show IsRangeIter _ _ (i + ((0 : Nat) : Int) * 8) ((n : Int) - ((0 : Nat) : Int)) 8
          rw [show i + ((0 : Nat) : Int) * 8 = i by simp, show (n : Int) - ((0 : Nat) : Int) = Builtin.Range.rangeSize i j 8 by rw [rangeSize_8 q2]; simp]
          exact Heap.get?_push_size _ rfl
        · have e : b = (s1.heap.push { cls := .type "range", data := .fields #[.int i t, .int j t', .int 8 t3] }).objs.size := by simpa using hb
          subst e
          exact I2.fpOk (Nat.le_refl _) (I2.hok.fresh (Nat.le_refl _))
end
/-- [.. for k in range(a, b, 8)], each item's value known -/
theorem comp_rng3 {te : TE} {caps : St} {D : Addr} {H1 : Hp} {lo c : Int} {n : Nat} {Q : VK} (f : Nat → V) (hD : H1 D = none) (hn : n ≤ sizeLine)
    (he : ∀ (i : Nat) (H' : Hp) (R : VK), i < n → Same H1 H' → (∀ H2, Same H' H2 → R (f i) H2) → te (caps ++ [some (.int (lo + (i : Nat) * c))]) H' R)
    (hQ : ∀ Hf, Same H1 Hf → Hf D = some (.lst ((List.range n).map f)) → Q (.ref D) Hf) :
    ∃ W : Nat → Nat → List V → Hp → Prop, (∃ m, W 0 m [] (upd H1 D (.lst []))) ∧ TurnT (Its lo c n) tAlways te caps D W Q := by
  refine ⟨fun i m ys Hc => i ≤ n ∧ m = n - i ∧ ys = (List.range i).map f ∧ Same H1 Hc ∧ Hc D = some (.lst ys), ⟨n, Nat.zero_le _, rfl, rfl, same_new hD _, upd_same⟩, ?_⟩
  rintro i m ys Hc ⟨hi, rfl, rfl, s1, e⟩
  refine ⟨e, ?_⟩
  by_cases h : i < n
  · refine .inr ⟨h, by rw [List.length_map, List.length_range]; exact Nat.lt_of_lt_of_le h hn, ?_⟩
    rintro v H' ⟨rfl, rfl⟩
    show te _ _ _
    refine he i _ _ h s1 fun H2 s2 => ⟨s2 _ _ e, n - (i + 1), by omega, by omega, rfl, range_snoc f i, ?_, upd_same⟩
    exact same_upd (s1.trans s2) hD
  · have hin : i = n := by omega
    subst hin
    exact .inl ⟨Nat.le_refl _, hQ Hc s1 e⟩
theorem wp_compS {ta : TA} {tt : TT} {te : TE} {js : List Nat} {s : St} {H : Hp} {Q : VK} (h : ta s H fun vs H1 => ∃ (i j : Int) (n : Nat), vs = [.int i, .int j, .int 8] ∧ 0 ≤ i ∧ j = i + 8 * n ∧ j ≤ 100000 ∧ ∀ D, H1 D = none → ∃ W : Nat → Nat → List V → Hp → Prop, (∃ n, W 0 n [] (upd H1 D (.lst []))) ∧ TurnT (Its i 8 n) tt te (capV s js) D W Q) : tComp (iRng3 ta) tt te js s H Q := h
theorem wp_compSA {te : TE} {caps : St} {H : Hp} {Q : VK} {i j : Int} (n : Nat) (f : Nat → V) (hi : 0 ≤ i) (e : j = i + 8 * n) (hj : j ≤ 1000)
    (he : ∀ (k : Nat) (H' : Hp) (R : VK), k < n → Same H H' → (∀ H2, Same H' H2 → R (f k) H2) → te (caps ++ [some (.int (i + (k : Nat) * 8))]) H' R)
    (hQ : ∀ D Hf, Same H Hf → Free H D → At Hf D (.lst ((List.range n).map f)) → Q (.ref D) Hf) :
    ∃ (i' j' : Int) (n : Nat), [V.int i, V.int j, V.int 8] = [.int i', .int j', .int 8] ∧ 0 ≤ i' ∧ j' = i' + 8 * n ∧ j' ≤ 100000 ∧ ∀ D, H D = none → ∃ W : Nat → Nat → List V → Hp → Prop, (∃ n, W 0 n [] (upd H D (.lst []))) ∧ TurnT (Its i' 8 n) tAlways te caps D W Q :=
  ⟨i, j, n, rfl, hi, e, by omega, fun D hD => comp_rng3 f hD (small (by omega)) he fun Hf s1 e1 => hQ D Hf s1 hD e1⟩
/-! ### name = [..] -/
section
variable {X : Cx} {scope : Scope} {x : Str} {fv : List Str} {js : List Nat}
theorem ps_setC {i : Nat} {y : Str} {elt iter : Expr} {wi : TI} {te : TE} {px py pos spos : Pos} (hN : X.N.Nodup) (hy : X.N[i]? = some y) (hl : Loc X.env.scope y) (hi : PI X (.Name x px) iter wi) (he : ∀ fp s H, PE (cxC X (fv ++ [x]) scope fp s H) elt te)
    (hC : capsOk X.env.scope scope X.N x fv js = true := by rfl) (hcalm : X.calm = true := by rfl) (hs : ∀ v, foldedSetIterable iter X.env v = pure v := by intro _; rfl)
    (hsw : swapsWith (.ListComp elt [⟨.Name x px, iter, [], 0⟩] scope pos) (some (.Name y py)) spos.line X.env = pure true := by rfl) (hf : X.fn y = true ∨ X.env.scope.names.lookup y = some .local := by first | exact .inl rfl | exact .inr rfl) :
    PS X (.Assign [.Name y py] (.ListComp elt [⟨.Name x px, iter, [], 0⟩] scope pos) spos) (tAsg (tComp wi tAlways te js) (gName i)) := ps_setC0 hN hy hl hC hcalm hi he (.inl ⟨rfl, rfl⟩) hs hsw hf
end
/-! ### a list that is changed no more: known to the object from here on -/
theorem Inv.freeze {X : Cx} {pins : List (Addr × Obj)} {σ : St} {H : Hp} {s : Shared} {a : Addr} {xs : List V} (I : Inv X pins σ H s) (e : H a = some (.lst xs)) : ∃ o, Inv X pins σ (upd H a (.frz o (.lst xs))) s := by
  obtain ⟨hz, its, n, rv, eo⟩ := I.hok a _ e
  refine ⟨{ cls := .type "list", data := .seq its.toArray n }, ?_⟩
  have ne : ∀ {b : Addr} {o : HO}, H b = some o → (∀ ys, o ≠ .lst ys) → b ≠ a := fun {b o} q d z => by
    subst z
    rw [e] at q
    exact d xs (Option.some.inj q).symm
  have u : Un X.fs [] H (upd H a (.frz { cls := .type "list", data := .seq its.toArray n } (.lst xs))) s.heap s.heap := by
    refine ⟨fun b o q _ _ _ => q, fun b o q _ _ _ => ⟨o.slots, q⟩, fun b o q n _ => ?_, fun b o q _ => ⟨o, q⟩, fun b ys q => ?_, fun b o w q => ?_, fun b ps q => ⟨#[], ?_⟩⟩
    · rw [upd_ne (fun z => by subst z; rw [e] at n; cases n)]; exact n
    · rw [upd_ne (ne q (fun _ z => by cases z))]; exact q
    · rw [upd_ne (ne q (fun _ z => by cases z))]; exact q
    · rw [upd_ne (ne q (fun _ z => by cases z)), Array.append_empty]; exact q
  refine I.un (t' := s.toks) u fun b v q => ?_
  by_cases hb : b = a
  · subst hb
    rw [upd_same] at q
    cases q
    exact ⟨eo, hz, its, n, rv, eo⟩
  · rw [upd_ne hb] at q
    refine (I.hok b v q).stay (fun _ _ _ z => z) (fun c z => ?_) fun c ys z => ?_
    · rw [upd_ne (ne z (fun _ y => by cases y))]; exact z
    · rw [upd_ne (ne z (fun _ y => by cases y))]; exact z
def rFrz (v : V) (H : Hp) (Q : VK) : Prop := ∃ a xs, v = .ref a ∧ H a = some (.lst xs) ∧ ∀ o, Q v (upd H a (.frz o (.lst xs)))
def tFrz (t : TE) : TE := fun s H Q => t s H fun v H' => rFrz v H' Q
theorem pe_frz {X : Cx} {e : Expr} {t : TE} (h : PE X e t) : PE X e (tFrz t) := fun pins s σ H Q I q => by
  refine thn (h pins s σ H _ I q) ?_
  rintro u s1 ⟨v, H1, I1, r1, a, xs, rfl, e1, q1⟩
  obtain ⟨o, I2⟩ := I1.freeze e1
  exact ⟨_, _, I2, r1, q1 o⟩
theorem wp_frz {t : TE} {s : St} {H : Hp} {Q : VK} (h : t s H fun v H' => rFrz v H' Q) : tFrz t s H Q := h
theorem wp_frzA {a : Addr} {xs : List V} {H : Hp} {Q : VK} (e : At H a (.lst xs)) (h : ∀ o, Q (.ref a) (upd H a (.frz o (.lst xs)))) : rFrz (.ref a) H Q := ⟨a, xs, rfl, e, h⟩
theorem At.sqF {K : PySem.W.Frag} {H : Hp} {a : Addr} {o : Obj} {xs : List V} (h : At H a (.frz o (.lst xs))) : SqL K H a xs := .inl (.inr ⟨o, h⟩)
/-! ### the rules with the written part named (a comprehension's block wants it so) -/
section
variable {X : Cx} {K : PySem.W.Frag} {tg : Expr}
theorem pi_listK {l : Expr} {tl : TE} (hl : PE X l tl) (hK : X.K = K := by rfl) : PI X tg l (iList K tl) := hK ▸ pi_list hl
theorem pe_fldK {e : Expr} {f : Str} {pos : Pos} {ta : TE} (he : PE X e ta) (hb : attributeBase e f X.env (eval e X.env) = eval e X.env := by rfl) (hK : X.K = K := by rfl) : PE X (.Attribute e f pos) (tFld K ta f) := hK ▸ pe_fld he hb
theorem ps_fldK {o value : Expr} {f : Str} {pos pos' : Pos} {ta tv : TE} (ha : PE X o ta) (hv : PE X value tv) (hs : swapsWith value (some (.Attribute o f pos')) pos.line X.env = pure false := by rfl) (hK : X.K = K := by rfl) : PS X (.Assign [.Attribute o f pos'] value pos) (sFld K ta tv f) := hK ▸ ps_fld ha hv hs
theorem ix_listK (hK : X.K = K := by rfl) : IxR X (rIxL K) := hK ▸ ix_list
theorem ix_tupK (hK : X.K = K := by rfl) : IxR X (rIxT K) := hK ▸ ix_tup
theorem sl_listK (hK : X.K = K := by rfl) : SlR X (rSlL K) := hK ▸ sl_list
theorem op_notIn_seqK (hK : X.K = K := by rfl) : OpR X (compareOp .NotIn) (rIn K true) := hK ▸ op_notIn_seq
theorem call_lenKK (hK : X.K = K := by rfl) : CallR X (.builtin "len") (rLenK K) := hK ▸ call_lenK
theorem call_listKK (hK : X.K = K := by rfl) : CallR X (.type "list") (rListK K) := hK ▸ call_listK
theorem pt_truK {a : Expr} {ta : TE} (ha : PE X a ta) (he : ∀ whole, isTrue a X.env whole = (do let v ← whole; standAt a.pos; holding [v] (truthy v))) (hK : X.K = K := by rfl) : PT X a (tTru K ta) := hK ▸ pt_tru ha he
theorem call_isIK (hK : X.K = K := by rfl) : CallR X (.builtin "isinstance") (rIsI K) := hK ▸ call_isI
theorem call_isXK (hK : X.K = K := by rfl) : CallR X (.builtin "isinstance") (rIsX K) := hK ▸ call_isX
theorem call_isXTK (hK : X.K = K := by rfl) : CallR X (.builtin "isinstance") (rIsXT K) := hK ▸ call_isXT
theorem call_setK (hc : X.calm = true := by rfl) (hK : X.K = K := by rfl) : CallR X (.type "set") (rSet K) := hK ▸ call_set_ints hc
theorem op_eqKK {k : Nat} (hr : Room k X.A) (hK : X.K = K := by rfl) : OpR X (compareOp .Eq) (rEqK K) := hK ▸ op_eqK hr
theorem op_neKK {k : Nat} (hr : Room k X.A) (hK : X.K = K := by rfl) : OpR X (compareOp .NotEq) (rNeK K) := hK ▸ op_neK hr
theorem op_in2KK {k : Nat} (hr : Room k X.A) (hK : X.K = K := by rfl) : OpR X (compareOp .In) (rIn2K K) := hK ▸ op_in2K hr
variable {o e : Expr} {es : List Expr} {to : TE} {t : TA} {name : Str} {apos cpos : Pos} {T id : String} {r : V → List V → Hp → VK → Prop}
theorem pe_bmK (pa : PlainAttrs T) (slot : Slot T name id) (hty : typeOf (.builtin id) = pure (.type "method_descriptor")) (hm : MtR X id r) (ho : PE X o to) (ha : PA X (e :: es) t) (hK : X.K = K := by rfl)
    (hbase : attributeBase o name X.env (eval o X.env) = eval o X.env := by rfl)
    (hfew : ((backTo cpos (starEach (e :: es) X.env)).all (fun x => !x.1) && (backToKw cpos (keywordEach [] X.env)).all (fun x => x.1.isSome)
      && decide ((e :: es).length + ([] : List Keyword).length + (if ([] : List Keyword).isEmpty then 0 else 1) < 30)) = true := by rfl)
    (hline : (apos.endLine == cpos.line) = true := by rfl) (hs : starEach (e :: es) X.env = (false, eval e X.env) :: starEach es X.env := by rfl) (hplain : (backTo cpos (starEach es X.env)).any (·.1) = false := by rfl) :
    PE X (.Call (.Attribute o name apos) (e :: es) [] cpos) (tBM K T r to t) := hK ▸ pe_bm pa slot hty hm ho ha hbase hfew hline hs hplain
end
theorem fre1 {H : Hp} {p a : Addr} {x : HO} (h : Free (upd H a x) p) : Free H p := (free_of h).1
theorem fre2 {H : Hp} {p a b : Addr} {x y : HO} (h : Free (upd (upd H a x) b y) p) : Free H p := (free_of (free_of h).1).1
theorem fre3 {H : Hp} {p a b c : Addr} {x y z : HO} (h : Free (upd (upd (upd H a x) b y) c z) p) : Free H p := fre2 (fre1 h)
theorem fne1 {H : Hp} {p a : Addr} {x : HO} (h : Free (upd H a x) p) : p ≠ a := (free_of h).2
theorem fne2 {H : Hp} {p a b : Addr} {x y : HO} (h : Free (upd (upd H a x) b y) p) : p ≠ a := fne1 (fre1 h)
theorem iteNT {A B : Prop} (h : B) : if (!true) = true then A else B := iteF h
theorem iteNF {A B : Prop} (h : A) : if (!false) = true then A else B := iteT h
theorem wp_notInI {K : PySem.W.Frag} {b : Int} {p : Addr} {l : List Int} {H : Hp} {Q : VK} (e : SqL K H p (l.map V.int) ∨ SqT K H p (l.map V.int)) (h : Q (.bl (!decide (b ∈ l))) H) : rIn K true (.int b) (.ref p) H Q :=
  ⟨p, _, rfl, e, rfl, flat_ints _, by rw [inV_ints, if_pos rfl]; rw [show l.contains b = decide (b ∈ l) by simp]; exact h⟩
/-! ### readings ask no more of a stronger wish (for while) -/
def ME (t : TE) : Prop := ∀ (s : St) (H : Hp) (Q Q' : VK), (∀ v H', Q v H' → Q' v H') → t s H Q → t s H Q'
def MA (t : TA) : Prop := ∀ (s : St) (H : Hp) (Q Q' : List V → Hp → Prop), (∀ v H', Q v H' → Q' v H') → t s H Q → t s H Q'
def MT (t : TT) : Prop := ∀ (s : St) (H : Hp) (Q Q' : Bool → Hp → Prop), (∀ v H', Q v H' → Q' v H') → t s H Q → t s H Q'
def MR (r : R2) : Prop := ∀ (x y : V) (H : Hp) (Q Q' : VK), (∀ v H', Q v H' → Q' v H') → r x y H Q → r x y H Q'
def MC (r : List V → Hp → VK → Prop) : Prop := ∀ (x : List V) (H : Hp) (Q Q' : VK), (∀ v H', Q v H' → Q' v H') → r x H Q → r x H Q'
theorem me_var {i : Nat} : ME (tVar i) := fun _ _ _ _ k ⟨v, e, q⟩ => ⟨v, e, k _ _ q⟩
theorem me_C {v : V} : ME (tC v) := fun _ _ _ _ k q => k _ _ q
theorem me_op {r : R2} {ta tb : TE} (hr : MR r) (ha : ME ta) (hb : ME tb) : ME (tOp r ta tb) := fun s H _ _ k q => ha s H _ _ (fun _ H' q => hb s H' _ _ (fun _ _ q => hr _ _ _ _ _ k q) q) q
theorem ma_nil : MA tNil := fun _ _ _ _ k q => k _ _ q
theorem ma_cons {ta : TE} {tr : TA} (ha : ME ta) (hr : MA tr) : MA (tCons ta tr) := fun s H _ _ k q => ha s H _ _ (fun _ H' q => hr s H' _ _ (fun _ _ q => k _ _ q) q) q
theorem me_CB {r : List V → Hp → VK → Prop} {t : TA} (hr : MC r) (ht : MA t) : ME (tCB r t) := fun s H _ _ k q => ht s H _ _ (fun _ _ q => hr _ _ _ _ k q) q
theorem mt_test {t : TE} (h : ME t) : MT (tTest t) := fun s H _ _ k q => h s H _ _ (fun _ _ ⟨c, e, q⟩ => ⟨c, e, k _ _ q⟩) q
theorem mt_and {t u : TT} (h : MT t) (g : MT u) : MT (tAnd t u) := fun s H _ _ k q => h s H _ _ (fun b H' q => by
  cases b with
  | true => exact g s H' _ _ k q
  | false => exact k _ _ q) q
theorem mr_I0 {g : Int → Int → V} : MR (rI0 g) := fun _ _ _ _ _ k ⟨i, j, e1, e2, q⟩ => ⟨i, j, e1, e2, k _ _ q⟩
theorem mr_eq : MR rEq := fun _ _ _ _ _ k ⟨e, q⟩ => ⟨e, k _ _ q⟩
theorem mr_ixL {K : PySem.W.Frag} : MR (rIxL K) := fun _ _ _ _ _ k ⟨p, xs, i, v, e1, e2, e3, e4, q⟩ => ⟨p, xs, i, v, e1, e2, e3, e4, k _ _ q⟩
theorem mc_len {K : PySem.W.Frag} : MC (rLenK K) := fun _ _ _ _ k ⟨p, ys, e1, e2, q⟩ => ⟨p, ys, e1, e2, k _ _ q⟩
theorem me_un {r : V → Hp → VK → Prop} {ta : TE} (hr : ∀ x H Q Q', (∀ v H', Q v H' → Q' v H') → r x H Q → r x H Q') (ha : ME ta) : ME (tUn r ta) := fun s H _ _ k q => ha s H _ _ (fun _ _ q => hr _ _ _ _ k q) q
theorem mu_I {g : Int → V} : ∀ x H Q Q', (∀ v H', Q v H' → Q' v H') → rU g x H Q → rU g x H Q' := fun _ _ _ _ k ⟨i, e, q⟩ => ⟨i, e, k _ _ q⟩
end L2

set_option maxHeartbeats 4000000
namespace L2
open PySem PySem.Spec PyProof.Rows
/-! ### a word between two statements -/
def tCut (t u : TS) : TS := fun D s H => ∃ Pv : St → Hp → Prop, t { D with nx := Pv } s H ∧ ∀ s' H', Pv s' H' → u D s' H'
section
variable {X : Cx}
theorem pss_cut {st : Stmt} {rest : List Stmt} {t u : TS} (h1 : PS X st t) (h2 : PSs X rest u) : PSs X (st :: rest) (tCut t u) := by
  rintro pins s σ H D I ⟨Pv, h, hP⟩
  refine wpAny_execs_cons (thn (h1 pins s σ H { D with nx := Pv } I h) fun f s1 q => ?_)
  cases f with
  | next =>
    obtain ⟨σ', H', I', q⟩ := q
    exact h2 pins s1 σ' H' D I' (hP _ _ q)
  | ret v => exact q
  | brk => exact q
  | cont => exact q
theorem wp_cut {t u : TS} {D : Ends} {s : St} {H : Hp} (Pv : St → Hp → Prop) (h : t { D with nx := Pv } s H) (h2 : ∀ s' H', Pv s' H' → u D s' H') : tCut t u D s H := ⟨Pv, h, h2⟩
/-! ### try -/
def tbCall (sp : Sp) (t : TA) (i : Nat) : TB := fun s H nx ex => t s H fun vs H1 => sp (vs ++ []) H1 (fun v H2 => nx (s.set i (some v)) H2) (exK ex)
def tbDrop (sp : Sp) (t : TA) : TB := fun s H nx ex => t s H fun vs H1 => sp (vs ++ []) H1 (fun _ H2 => nx s H2) (exK ex)
theorem pb_f {j k : Nat} {ps : List Str} {sp : Sp} {x y : Str} {i : Nat} {p pos py apos : Pos} {e : Expr} {es : List Expr} {t : TA}
    (G : HasF X.prog X.w X.K X.mg X.base (CXe X.prog X.w) j x ps sp) (hr : Room k X.A) (ha : PA X.nox (e :: es) t)
    (hN : X.N.Nodup) (hi : X.N[i]? = some y) (hx : Loc X.env.scope y) (hjk : j ≤ k := by decide) (hg : Gl X x := by rfl) (hs : swapsWith (.Call (.Name x p) (e :: es) [] pos) (some (.Name y py)) apos.line X.env = pure false := by rfl)
    (hf : X.fn y = true ∨ X.env.scope.names.lookup y = some .local := by first | exact .inl rfl | exact .inr rfl | assumption)
    (hdb : (x == ("__debug__" : Str)) = false := by decide) (he : starEach (e :: es) X.env = (false, eval e X.env) :: starEach es X.env := by rfl) (hpl : (backTo pos (starEach es X.env)).any (·.1) = false := by rfl) :
    PB X [.Assign [.Name y py] (.Call (.Name x p) (e :: es) [] pos) apos] (tbCall sp t i) := by
  obtain ⟨f, fd, F, b, kp, mm⟩ := G
  exact pb_set F (hr.mono hjk) hg mm kp b .nil ha hN hi hx hs hf hdb he hpl
def tTry (K : PySem.W.Frag) (Dd : Addr) (ie iz : Nat) (tb : TB) : TS := fun D s H => tb s H D.nx fun C d H' => PySem.W.mroIn K C (.ref Dd) = some true ∧ ∀ ea, H' ea = none → D.nx (((s.set ie (some (.ref ea))).set iz (some (.ref ea))).set ie none) (upd H' ea (excO ea C d))
theorem ps_tryK {K : PySem.W.Frag} {body : List Stmt} {tb : TB} {bx n z : Str} {D : Addr} {iz ie : Nat} {np pz pn zp hpos pos : Pos} (hB : PB X body tb) (hst : X.stack = X.env :: X.outer) (hfr : X.env.frame = some X.env.locals) (hg : Gl X bx) (hm : X.mg bx = some (.ref D))
    (h1 : PySem.W.typeIn X.K (.ref D) = some (.type "type")) (h2 : (PySem.W.clsIn X.K D).isSome = true) (h3 : PySem.W.mroIn X.K D (.type "BaseException") = some true)
    (hN : X.N.Nodup) (hi : X.N[ie]? = some n) (hl : X.env.scope.names.lookup n = some .local) (hz : X.N[iz]? = some z) (hlz : Loc X.env.scope z) (hf : X.fn z = true ∨ X.env.scope.names.lookup z = some .local := by first | exact .inl rfl | exact .inr rfl | assumption)
    (hsw : swapsWith (.Name n pn) (some (.Name z pz)) zp.line X.env = pure false := by rfl) (hdb : (bx == ("__debug__" : Str)) = false := by decide) (hd1 : (n == ("__debug__" : Str)) = false := by decide) (hd2 : (n == ("__classdict__" : Str)) = false := by decide) (hK : X.K = K := by rfl) :
    PS X (.Try body [.ExceptHandler (some (.Name bx np)) (some n) [.Assign [.Name z pz] (.Name n pn) zp] hpos] [] [] pos) (tTry K D ie iz tb) := by
  subst hK
  exact ps_try hB hst hfr hg hm h1 h2 h3 hN hi hl hz hlz hf hsw hdb hd1 hd2
theorem wp_try {K : PySem.W.Frag} {Dd : Addr} {ie iz : Nat} {tb : TB} {D : Ends} {s : St} {H : Hp} (h : tb s H D.nx fun C d H' => PySem.W.mroIn K C (.ref Dd) = some true ∧ ∀ ea, Free H' ea → D.nx (((s.set ie (some (.ref ea))).set iz (some (.ref ea))).set ie none) (upd H' ea (excO ea C d))) : tTry K Dd ie iz tb D s H := h
theorem wp_tbC {sp : Sp} {t : TA} {i : Nat} {s : St} {H : Hp} {nx : St → Hp → Prop} {ex : Addr → Option Addr → Hp → Prop} (h : t s H fun vs H1 => sp (vs ++ []) H1 (fun v H2 => nx (s.set i (some v)) H2) (exK ex)) : tbCall sp t i s H nx ex := h
/-! ### targets -/
theorem pg_tupK {K : PySem.W.Frag} {es : List Expr} {k : Nat} {t : TGs} {n : Nat} {pos : Pos} (hc : X.calm = true) (h : PGs X es t)
    (hn : (assignEach es X.env).length = n := by rfl) (hst : (assignEach es X.env).findIdx? (·.1) = none := by rfl) (hK : X.K = K := by rfl) : PG X (.Tuple es k pos) (gTup K n t) := hK ▸ pg_tup hc h hn hst
theorem wp_gtup {K : PySem.W.Frag} {a : Addr} {xs : List V} {n : Nat} {t : TGs} {s : St} {H : Hp} {Q : St → Hp → Prop} (e : SqT K H a xs) (l : xs.length = n) (h : t xs s H Q) : gTup K n t (.ref a) s H Q := ⟨a, xs, rfl, e, l, h⟩
theorem id_gtup {K : PySem.W.Frag} {a : Addr} {n : Nat} {t : TGs} {s : St} {H : Hp} {Q : St → Hp → Prop} (h : gTup K n t (.ref a) s H Q) : gTup K n t (.ref a) s H Q := h
theorem wp_gcons {t : TG} {u : TGs} {v : V} {r : List V} {s : St} {H : Hp} {Q : St → Hp → Prop} (h : t v s H fun s' H' => u r s' H' Q) : gCons t u (v :: r) s H Q := ⟨v, r, rfl, h⟩
theorem wp_gnil {s : St} {H : Hp} {Q : St → Hp → Prop} (h : Q s H) : gNil [] s H Q := ⟨rfl, h⟩
theorem wp_gsub {to ti : TE} {t : TSet} {v : V} {s : St} {H : Hp} {Q : St → Hp → Prop} (h : to s H fun o H1 => ti s H1 fun i H2 => t o i v H2 fun H3 => Q s H3) : gSub to ti t v s H Q := h
theorem wp_setL {p : Addr} {xs : List V} {k : Int} {j : Nat} {v : V} {H : Hp} {Q : Hp → Prop} (e : At H p (.lst xs)) (hi : ixN xs.length k = some j) (h : Q (upd H p (.lst (xs.set j v)))) : rSetL (.ref p) (.int k) v H Q := ⟨p, xs, k, j, rfl, rfl, e, hi, h⟩
/-! ### a op b op c -/
end
theorem boot_VE : bootBuiltins "ValueError" = some (.type "ValueError") := by decide +kernel
section
variable {K : PySem.W.Frag} {H : Hp}
end
end L2

set_option maxHeartbeats 4000000
set_option maxRecDepth 100000
namespace L2
open PySem PySem.Spec PyProof.Rows
section
variable {X : Cx}
/-! ### xs.insert(k, y) -/
def rInsert : V → List V → Hp → VK → Prop := fun x vs H Q => ∃ (l : Addr) (xs : List V) (i : Int) (k : Nat) (y : V), x = .ref l ∧ vs = [.int i, y] ∧ i = k ∧ H l = some (.lst xs) ∧ k ≤ xs.length ∧ xs.length < 1000000 ∧ Q .non (upd H l (.lst (xs.take k ++ y :: xs.drop k)))
/-! ### xs.index(k), ints -/
def rIndex (K : PySem.W.Frag) : V → List V → Hp → VK → Prop := fun x vs H Q => ∃ (l : Addr) (ns : List Int) (k : Int), x = .ref l ∧ vs = [.int k] ∧ SqL K H l (ns.map V.int) ∧ k ∈ ns ∧ Q (.int (ns.idxOf k : Nat)) H
/-! ### min of a list of ints -/
def rMin : List V → Hp → VK → Prop := fun xs H Q => ∃ (p : Addr) (ns : List Int), xs = [.ref p] ∧ H p = some (.lst (ns.map V.int)) ∧ ns ≠ [] ∧ ∀ m, m ∈ ns → (∀ x ∈ ns, m ≤ x) → Q (.int m) H
end
/-! ### name += .. -/
end L2

set_option maxHeartbeats 4000000
set_option maxRecDepth 100000
namespace L2
open PySem PySem.Spec PyProof.Rows
/-! ### comprehensions by an invariant: Iv at the turn, the items so far, the heap -/
def CNext (D : Addr) (n i : Nat) (Iv : Nat → List V → Hp → Prop) (ys : List V) (y : V) (H : Hp) : Prop := H D = some (.lst ys) ∧ ∃ m, m < n - i ∧ (i + 1 ≤ n ∧ m = n - (i + 1) ∧ Iv (i + 1) (ys ++ [y]) (upd H D (.lst (ys ++ [y]))))
def CSkip (D : Addr) (n i : Nat) (Iv : Nat → List V → Hp → Prop) (ys : List V) (H : Hp) : Prop := H D = some (.lst ys) ∧ ∃ m, m < n - i ∧ (i + 1 ≤ n ∧ m = n - (i + 1) ∧ Iv (i + 1) ys H)
theorem cnext {D : Addr} {n i : Nat} {Iv : Nat → List V → Hp → Prop} {ys : List V} {y : V} {H : Hp} (hi : i < n) (e : At H D (.lst ys)) (h : Iv (i + 1) (ys ++ [y]) (upd H D (.lst (ys ++ [y])))) : CNext D n i Iv ys y H := ⟨e, n - (i + 1), by omega, hi, rfl, h⟩
theorem comp_rngT {tt : TT} {te : TE} {caps : St} {D : Addr} {n : Nat} {H1 : Hp} {Q : VK} (Iv : Nat → List V → Hp → Prop) (h0 : Iv 0 [] (upd H1 D (.lst [])))
    (hl : ∀ i ys H, i ≤ n → Iv i ys H → At H D (.lst ys) ∧ ys.length ≤ i) (hn : n ≤ sizeLine)
    (hs : ∀ i ys H, i < n → Iv i ys H → tt (caps ++ [some (.int (i : Int))]) H fun b H2 => if b = true then te (caps ++ [some (.int (i : Int))]) H2 (CNext D n i Iv ys) else CSkip D n i Iv ys H2)
    (hd : ∀ ys H, Iv n ys H → Q (.ref D) H) :
    ∃ W : Nat → Nat → List V → Hp → Prop, (∃ n, W 0 n [] (upd H1 D (.lst []))) ∧ TurnT (Itr 0 n) tt te caps D W Q := by
  refine ⟨fun i m ys Hc => i ≤ n ∧ m = n - i ∧ Iv i ys Hc, ⟨n, Nat.zero_le _, rfl, h0⟩, ?_⟩
  rintro i m ys Hc ⟨hi, rfl, iv⟩
  obtain ⟨e1, e3⟩ := hl i ys Hc hi iv
  refine ⟨e1, ?_⟩
  by_cases h : i < n
  · refine .inr ⟨h, by omega, ?_⟩
    rintro v H' ⟨rfl, rfl⟩
    rw [Int.zero_add]
    exact hs i ys _ h iv
  · have hin : i = n := by omega
    subst hin
    exact .inl ⟨Nat.le_refl _, hd ys Hc iv⟩
theorem wp_compRG {te : TE} {caps : St} {H : Hp} {Q : VK} {j : Int} (n : Nat) (Iv : Addr → Nat → List V → Hp → Prop) (ej : j.toNat = n) (hj : j < 2 ^ 62 ∧ -(2 ^ 62) ≤ j) (hn : n ≤ sizeLine)
    (h0 : ∀ D, Free H D → Iv D 0 [] (upd H D (.lst []))) (hl : ∀ D i ys H, i ≤ n → Iv D i ys H → At H D (.lst ys) ∧ ys.length ≤ i)
    (hs : ∀ D i ys H, i < n → Iv D i ys H → te (caps ++ [some (.int (i : Int))]) H (CNext D n i (Iv D) ys)) (hd : ∀ D ys H, Iv D n ys H → Q (.ref D) H) :
    ∃ j' : Int, [V.int j] = [.int j'] ∧ -(2 ^ 62) ≤ j' ∧ j' < 2 ^ 62 ∧ ∀ D, H D = none → ∃ W : Nat → Nat → List V → Hp → Prop, (∃ n, W 0 n [] (upd H D (.lst []))) ∧ TurnT (Itr 0 j'.toNat) tAlways te caps D W Q := by
  refine ⟨j, rfl, hj.2, hj.1, fun D hD => ?_⟩
  rw [ej]
  exact comp_rngT (Iv D) (h0 D hD) (hl D) hn (fun i ys H hi iv => by unfold tAlways; exact iteT (hs D i ys H hi iv)) (hd D)
end L2

set_option maxHeartbeats 4000000
set_option maxRecDepth 100000
namespace L2
open PySem PySem.Spec PyProof.Rows
/-! ### errors of the text's own with an __init__ of their own -/
/-- such an error before it is raised -/
abbrev excOb (C : Addr) (dd : Option Addr) (t : Addr) : Obj := { cls := .ref C, dict := dd, data := .fields #[.ref t, .none, .none, .none, .bool false, .none] }
def excN (e C : Addr) (dd : Option Addr) : HO := .ext fun h => ∃ t, h.get? e = some (excOb C dd t)
theorem excN_ok {P : Program} {w : World} {H : Hp} {h : Heap} {e C t : Addr} {dd : Option Addr} (q : h.get? e = some (excOb C dd t)) : ObjOk P w H h e (excN e C dd) :=
  ⟨⟨t, q⟩, ⟨_, q⟩, fun _ _ ⟨t, z⟩ k => ⟨t, k _ z⟩⟩
theorem of_excN {P : Program} {w : World} {H : Hp} {h : Heap} {e C : Addr} {dd : Option Addr} (q : ObjOk P w H h e (excN e C dd)) : ∃ t, h.get? e = some (excOb C dd t) := q.1
theorem ns_some_of {K : PySem.W.Frag} {h : Heap} {N : Addr} {m : Str → Option Value} {n : Str} {v : Value} (X : K.In h) (G : h.Ns N m) (e : PySem.W.nsIn K N n = some (some v)) : m n = some v := by
  obtain ⟨o, es, ep, ho, hd, _, hf⟩ := G
  unfold PySem.W.nsIn at e
  split at e
  · rename_i q
    have z := X _ _ q
    rw [ho] at z
    cases z
    cases hd
    split at e
    · rename_i en he
      cases e
      rw [← hf]
      unfold nsFind findBy
      rw [← Array.find?_toList, he]
      rfl
    · split at e <;> cases e
  · cases e
/-- the class at C: an error class of the text over the built-in mro bmB, its __init__ the def at fI -/
def excInI (K : PySem.W.Frag) (C : Addr) (bmB : List Value) (newId : String) (fI : Addr) : Bool := match K.lookup C with
  | some ⟨.type "type", _, .cls c, slots⟩ => (match c.mro, slots.toList with
    | .ref D :: tl, [_, _, _, _, some (.builtin nn), _] => D == C && nn == newId && !c.hasDel && PySem.W.tailIn K bmB tl && PySem.W.nsOkIn K c.ns && PySem.W.nsIn K c.ns "__init__" == some (some (.ref fI))
    | _, _ => false)
  | _ => false
theorem exc_objI {K : PySem.W.Frag} {h : Heap} {C fI : Addr} {bmB : List Value} {newId : String} (KX : K.In h) (q : excInI K C bmB newId fI = true) :
    ∃ bm N nm qn bs hdct sn sub ab col dd k0 k1 k2 k3 k5 mN, h.get? C = some (excClassObj nm qn C N bs bm hdct sn sub ab col dd k0 k1 k2 k3 k5 newId) ∧ h.Ns N mN ∧ mN "__init__" = some (.ref fI) ∧ OwnTail h bmB bm := by
  unfold excInI at q
  split at q
  · rename_i dd cdt slots hlk
    split at q
    · rename_i C2 tl k0 k1 k2 k3 nn k5 hmro hsl
      simp only [Bool.and_eq_true, beq_iff_eq, Bool.not_eq_true'] at q
      obtain ⟨⟨⟨⟨⟨e1, e2⟩, e3⟩, e4⟩, e5⟩, e6⟩ := q
      subst e1
      subst e2
      obtain ⟨nm, bs, mro, nsa, qn, hdc, sn, sub, ab, col, del⟩ := cdt
      dsimp only at hmro e3 e5 e6
      subst hmro
      subst e3
      obtain ⟨lst⟩ := slots
      dsimp only at hsl
      subst hsl
      have hN : h.Ns nsa _ := .of_isNs (PySem.W.isNs_of_in KX e5)
      exact ⟨tl, nsa, nm, qn, bs, hdc, sn, sub, ab, col, dd, k0, k1, k2, k3, k5, _, KX _ _ hlk, hN, ns_some_of KX hN e6, PySem.W.tail_of_in KX e4⟩
    · cases q
  · cases q
section
variable {prog : Program} {w : World} {A : Around} {E : Value → Shared → Prop}
section
variable {h : Heap} {g : Array GenState} {d : Drawn} {t : Nat} {os : OsState}
variable {nm q : Str} {C N : Addr} {bs bm bmB : List Value} {hdct : Bool} {sn : List Str} {sub : List Value} {ab : Bool} {col : Option Bool} {dd : Option Addr} {k0 k1 k2 k3 k5 : Option Value} {B newId initId : String}
theorem make_exc0 (F : ExcBaseFacts B newId initId bmB) (T : OwnTail h bmB bm) {mN : Str → Option Value} {rest : List Value} {fI : Addr} {oI : Obj} {Q : Fin → Shared → Prop}
    (hC : h.get? C = some (excClassObj nm q C N bs bm hdct sn sub ab col dd k0 k1 k2 k3 k5 newId)) (hn : h.Ns N mN) (hi : mN "__init__" = some (.ref fI))
    (hfI : h.get? fI = some oI) (hfc : oI.cls = .type "function")
    (hq : wpAny (model prog w) A (call (.ref fI) (.ref (h.objs.size + 1) :: rest)) (fun r s' => r = .none ∧ Q (.done (.ret (.ref (h.objs.size + 1)))) s') E
      ⟨(h.push { cls := .type "tuple", data := .seq rest.toArray }).push (excOb C none h.objs.size), g, d, t, os⟩) (hrest : rest.length ≤ sizeLine) :
    wpAny (model prog w) A (Builtin.«type.__call__» ⟨.ref C :: rest, []⟩) Q E ⟨h, g, d, t, os⟩ := by
  repeat (first | with_reducible refine wpAny_loadPart_at hC ?_ | with_reducible refine wpAny_madeBy_exc hC ?_ | wp_step)
  refine codeAny_call_builtin_code (Code.quiet_builtin _ F.quiet) (wpAny_check_new_subT F T hC ?_)
  refine codeAny_exc_new_subT F T hC ?_ hrest
  show wpAny _ _ _ _ _ _
  have kk : ∀ b o, h.get? b = some o → ((h.push { cls := .type "tuple", data := .seq rest.toArray }).push (excOb C none h.objs.size)).get? b = some o := fun b o z => Heap.get?_push_of_some _ (Heap.get?_push_of_some _ z)
  have hC₁ := kk _ _ hC
  have hfI₁ := kk _ _ hfI
  have hn₁ := hn.keeps kk
  have T₁ := T.keeps kk
  have hget : ((h.push { cls := .type "tuple", data := .seq rest.toArray }).push (excOb C none h.objs.size)).get? (h.objs.size + 1) = some (excOb C none h.objs.size) := by heap_get
  have hcC : (Value.ref C :: bm).contains (.ref C) = true := by simp
  unfold isInstance
  repeat (first | with_reducible refine wpAny_loadPart_at hget ?_ | (with_reducible refine wpAny_isSubtype_exc hC₁ ?_; rw [hcC]) | wp_step)
  show wpAny _ _ (typeLookup (.ref C) _) _ _ _
  refine wpAny_typeLookup_tail hC₁ hn₁ T₁ F.mroIs F.init.lookup ?_
  rw [hi]
  refine wpAny_holding (wpAny_bind ?_)
  unfold bindSpecial
  refine wpAny_bind (wpAny_typeOf (T := "function") ⟨_, hfI₁, hfc⟩ ?_)
  rw [if_pos (by decide)]
  refine wpAny_pure (wpAny_bind (wpAny_mono hq (fun r s' hr => ?_) fun _ _ x => x))
  obtain ⟨rfl, hQ⟩ := hr
  wp_walk
  exact hQ
theorem make_exc (F : ExcBaseFacts B newId initId bmB) (T : OwnTail h bmB bm) {mN : Str → Option Value} {rest : List Value} {fI : Addr} {oI : Obj} {Q : Value → Shared → Prop}
    (hC : h.get? C = some (excClassObj nm q C N bs bm hdct sn sub ab col dd k0 k1 k2 k3 k5 newId)) (hn : h.Ns N mN) (hi : mN "__init__" = some (.ref fI))
    (hfI : h.get? fI = some oI) (hfc : oI.cls = .type "function")
    (hq : wpAny (model prog w) (A.under (.builtin "type.__call__" ⟨.ref C :: rest, []⟩)) (call (.ref fI) (.ref (h.objs.size + 1) :: rest)) (fun r s' => r = .none ∧ Q (.ref (h.objs.size + 1)) s') E
      ⟨(h.push { cls := .type "tuple", data := .seq rest.toArray }).push (excOb C none h.objs.size), g, d, t, os⟩) (hrest : rest.length ≤ sizeLine) :
    wpAny (model prog w) A (call (.ref C) rest) Q E ⟨h, g, d, t, os⟩ := by
  have f1 := tc_lookup
  have f2 := tc_bind (.ref C)
  have hT : (⟨h, g, d, t, os⟩ : Shared).TypeIs (.ref C) "type" := ⟨_, hC, rfl⟩
  refine wpAny_call (codeAny_of_tree ?_)
  show wpAny _ _ (callAny (.ref C) _) _ _ _
  repeat (any_goals (first | assumption | with_reducible refine wpAny_loadPart_at hC ?_ | wp_step))
  refine ⟨rfl, ?_⟩
  exact codeAny_call_builtin_at (Code.quiet_builtin _ (by decide +kernel)) entry_typeCall (wpAny_check_type_call_sub hC (make_exc0 F T hC hn hi hfI hfc hq hrest))
/-- Base.__init__(e, ..): the arguments are put into e -/
theorem base_init (F : ExcBaseFacts B newId initId bmB) (T : OwnTail h bmB bm) {rest : List Value} {e t0 : Addr} {ed : Option Addr} {Q : Value → Shared → Prop}
    (hC : h.get? C = some (excClassObj nm q C N bs bm hdct sn sub ab col dd k0 k1 k2 k3 k5 newId)) (he : h.get? e = some (excOb C ed t0))
    (hq : ∀ h', (∀ b o, b ≠ e → h.get? b = some o → h'.get? b = some o) → h'.get? e = some (excOb C ed h.objs.size) → Q .none ⟨h', g, d, t, os⟩) (hrest : rest.length ≤ sizeLine) :
    wpAny (model prog w) A (call (.builtin initId) (.ref e :: rest)) Q E ⟨h, g, d, t, os⟩ := by
  refine wpAny_call (codeAny_call_builtin F.init.plain F.initEntry (wpAny_check_init_subT F T hC he rfl ?_))
  have he₂ := Heap.get?_push_of_some (h := h) { cls := .type "tuple", data := .seq rest.toArray } he
  unfold Builtin.«BaseException.__init__» Builtin.BaseException.bexcPut
  wp_walk
  refine hq _ (fun b o n z => ?_) ?_
  · rw [Heap.get?_update_other _ _ (Ne.symm n)]
    exact Heap.get?_push_of_some _ z
  · rw [Heap.get?_update_self _ he₂ rfl]
    rfl
end
end

/-! ### as rules -/
abbrev bmVE : List Value := [.type "ValueError", .type "Exception", .type "BaseException", .type "object"]
structure ErrC (K : PySem.W.Frag) (C f : Addr) : Prop where
  ob : excInI K C bmVE "ValueError.__new__" f = true
  fn : PySem.W.isFn K (.ref f) = true
  kp : PySem.W.keepIn K (.ref C) = true
theorem fn_obj {K : PySem.W.Frag} {h : Heap} {f : Addr} (KX : K.In h) (e : PySem.W.isFn K (.ref f) = true) : ∃ o, h.get? f = some o ∧ o.cls = .type "function" := by
  have e2 : PySem.W.typeIn K (.ref f) = some (.type "function") := beq_iff_eq.mp e
  obtain ⟨o, ho, hc⟩ := Option.map_eq_some_iff.mp e2
  exact ⟨o, KX _ _ ho, hc⟩
section
variable {X : Cx} {CX : CXT} {k : Nat} {f C : Addr} {fd : FuncData} {ps : List Str} {sp : Sp} {E : XK}
/-- C(..): the error is made, then its __init__ runs -/
theorem run_mkX {pins : List (Addr × Obj)} {σ : St} {H : Hp} {s : Shared} {Q : VK} {us : List Value} {vs : List V} (M : ErrC X.K C f) (F : FnOk X.prog X.w X.K X.mg X.base CX k f fd ps sp) (hr : Room (k + 1) X.A) (hb : Binds X.K fd ps [])
    (hx : Passes CX X E) (I : Inv X pins σ H s) (r : Vals vs us) (hl : vs.length ≤ 100)
    (h : sp (.ref (s.heap.objs.size + 1) :: vs) (upd H (s.heap.objs.size + 1) (excN (s.heap.objs.size + 1) C none)) (fun v H2 => v = .non ∧ Q (.ref (s.heap.objs.size + 1)) H2) E) :
    wpAny (model X.prog X.w) X.A (call (.ref C) us) (EP X pins σ Q) X.xe s := by
  obtain ⟨bm, N, nm, qn, bs, hdct, sn, sub, ab, col, dd, k0, k1, k2, k3, k5, mN, hC, hN, hi, T⟩ := exc_objI I.kIn M.ob
  obtain ⟨oI, hfI, hfc⟩ := fn_obj I.kIn M.fn
  have kk : ∀ b o, s.heap.get? b = some o → ((s.heap.push { cls := .type "tuple", data := .seq us.toArray }).push (excOb C none s.heap.objs.size)).get? b = some o := fun b o z => Heap.get?_push_of_some _ (Heap.get?_push_of_some _ z)
  have hget : ((s.heap.push { cls := .type "tuple", data := .seq us.toArray }).push (excOb C none s.heap.objs.size)).get? (s.heap.objs.size + 1) = some (excOb C none s.heap.objs.size) := by heap_get
  have I2 := I.laid (a := s.heap.objs.size + 1) (o := excN (s.heap.objs.size + 1) C none) (t' := s.toks) kk (Nat.le_succ _) (excN_ok hget)
  have hlen := r.length
  have r2 : Vals (V.ref (s.heap.objs.size + 1) :: vs) (Value.ref (s.heap.objs.size + 1) :: us) := .cons rfl r
  have hl2 : (Value.ref (s.heap.objs.size + 1) :: us ++ []).length = ps.length := by
    have e := r2.length
    rw [F.len _ _ _ _ h] at e
    rw [List.append_nil]
    exact e.symm
  have hb2 := hb _ (Value.ref (s.heap.objs.size + 1) :: us) I2.kIn hl2
  rw [List.append_nil] at hb2
  refine make_exc PySem.F.excBase_ValueError T hC hN hi hfI hfc (wpAny_call (codeAny_mono (F.run _ X.stack _ _ ⟨Value.ref (s.heap.objs.size + 1) :: us, []⟩ (Value.ref (s.heap.objs.size + 1) :: us) _ _ E (hr.make C us [])
    (I2.env0.make C us []) hb2 r2 h) fun r s' hq' => ?_)) (small (by omega))
  cases r with
  | error e => exact hx pins σ _ _ e s' I2 hq'
  | ok fl =>
    cases fl with
    | ret u =>
      obtain ⟨v, H', I3, rv, ev, q3⟩ := I2.after hq'
      subst ev
      exact ⟨rv, ⟨V.ref (s.heap.objs.size + 1), H', I3, rfl, q3⟩⟩
    | next => exact False.elim hq'
    | brk => exact False.elim hq'
    | cont => exact False.elim hq'
end
/-- a class of the text that is an error with an __init__ -/
def InitX (K : PySem.W.Frag) (C : Addr) (qual : Str) (st : Stmt) : Prop := ∃ f fd, Fun K "__init__" qual st f fd ∧ ErrC K C f
def HasX (P : Program) (w : World) (K : PySem.W.Frag) (mg : Str → Option Value) (base : Heap) (CX : CXT) (k : Nat) (C : Addr) (ps : List Str) (sp : Sp) : Prop :=
  ∃ f fd, FnOk P w K mg base CX k f fd ps sp ∧ Binds K fd ps [] ∧ ErrC K C f
def ErrO (K : PySem.W.Frag) (C : Addr) : Prop := ∃ f, excInI K C bmVE "ValueError.__new__" f = true
theorem InitX.err {K : PySem.W.Frag} {C : Addr} {qual : Str} {st : Stmt} (D : InitX K C qual st) : ErrO K C := let ⟨f, _, _, m⟩ := D; ⟨f, m.ob⟩
/-! the raise -/
theorem raise_made {M : Model} {A : Around} {E : Value → Shared → Prop} {s : Shared} {env : Env} {x : Sem Value} {Q : Flow → Shared → Prop} {nm q : Str} {C N : Addr} {bs bm : List Value} {hdct : Bool} {sn : List Str} {sub : List Value} {ab : Bool} {col : Option Bool} {dd : Option Addr} {k0 k1 k2 k3 k5 : Option Value} {newId : String}
    (hbase : bm.contains (.type "BaseException") = true) (hh : A.handled = none)
    (h : wpAny M A x (fun v s₁ => ∃ e t ed, v = .ref e ∧ s₁.heap.get? C = some (excClassObj nm q C N bs bm hdct sn sub ab col dd k0 k1 k2 k3 k5 newId) ∧ s₁.heap.get? e = some (excOb C ed t) ∧ E (.ref e) s₁) E s) :
    wpAny M A (raiseStmt env (some x) none) Q E s := by
  have hcB : (Value.ref C :: bm).contains (.type "BaseException") = true := by rw [List.contains_cons, hbase, Bool.or_true]
  unfold raiseStmt
  refine wpAny_bind (wpAny_mono h (fun v s₁ h₁ => ?_) fun _ _ x => x)
  obtain ⟨e, t, ed, rfl, hC, he, hE⟩ := h₁
  obtain ⟨hp, g, d, tk, os⟩ := s₁
  repeat (first | with_reducible refine wpAny_loadPart_at he ?_ | with_reducible refine wpAny_loadPart_at hC ?_ | (with_reducible refine wpAny_isSubtype_exc hC ?_; rw [hcB]) | wp_step)
  exact wpAny_raiseNew_none hh hE
section
variable {P : Program} {w : World} {K : PySem.W.Frag} {mg : Str → Option Value} {base : Heap} {N : List Str} {qual : Str} {scope : Scope} {f : Addr} {cd : Value} {A : Around} {outer : List Env} {s₀ : Shared} {H₀ : Hp} {E : XK}
theorem raise_okX {pins : List (Addr × Obj)} {σ : St} {H : Hp} {s : Shared} {e C : Addr} {dd : Option Addr} (I : Inv (cxOf (CXe P w) P w K mg base N qual scope f cd A outer s₀ H₀ E) pins σ H s) (hn : s₀.heap.get? e = none) (q : H e = some (excN e C dd)) (hE : E (.ref C) dd (del H e)) :
    (cxOf (CXe P w) P w K mg base N qual scope f cd A outer s₀ H₀ E).xe (.ref e) s := by
  obtain ⟨t, he⟩ := of_excN (I.hok e _ q)
  exact raise_gen I (h' := s.heap) (fun b o _ z => z) he rfl rfl rfl rfl hn (fun o z => by rw [he] at z; cases z; exact ⟨_, rfl⟩) (.inr ⟨_, q⟩) hE
end
def tRaiseX (C : Addr) (sp : Sp) (E1 E : XK) (ta : TA) : TS := fun _ σ H => ta σ H fun vs H1 => vs.length ≤ 100 ∧ ∀ x, H1 x = none → sp (.ref x :: vs) (upd H1 x (excN x C none)) (fun v H2 => v = .non ∧ V.ref x = V.ref x ∧ ∃ dd, H2 x = some (excN x C dd) ∧ E (.ref C) dd (del H2 x)) E1
section
variable {X : Cx} {CX : CXT} {j k : Nat} {ps : List Str} {sp : Sp} {E E1 : XK} {x : Str} {C : Addr} {e0 : Expr} {rest : List Expr} {ta : TA} {np cpos pos : Pos}
theorem ps_raiseX (hX : ∀ (pins : List (Addr × Obj)) (σ : St) (H : Hp) (s : Shared) (e : Addr) (dd : Option Addr), Inv X pins σ H s → X.s₀.heap.get? e = none → H e = some (excN e C dd) → E (.ref C) dd (del H e) → X.xe (.ref e) s)
    (G : HasX X.prog X.w X.K X.mg X.base CX j C ps sp) (hr : Room k X.A) (hx : Passes CX X E1) (hc : X.calm = true) (hg : Gl X x) (hm : X.mg x = some (.ref C)) (ha : PA X (e0 :: rest) ta) (hjk : j + 1 ≤ k := by decide)
    (he : starEach (e0 :: rest) X.env = (false, eval e0 X.env) :: starEach rest X.env := by rfl) (hpl : (backTo cpos (starEach rest X.env)).any (·.1) = false := by rfl) (hd : (x == ("__debug__" : Str)) = false := by decide) :
    PS X (.Raise (some (.Call (.Name x np) (e0 :: rest) [] cpos)) none pos) (tRaiseX C sp E1 E ta) := by
  intro pins s σ H D I h
  obtain ⟨f, fd, F, b, M⟩ := G
  obtain ⟨bm, N, nm, qn, bs, hdct, sn, sub, ab, col, dd, k0, k1, k2, k3, k5, mN, hC, hN, hi, T⟩ := exc_objI I.mod.kin M.ob
  have hb : bm.contains (.type "BaseException") = true := T.hasType rfl
  have key : wpAny (model X.prog X.w) X.A (eval (.Call (.Name x np) (e0 :: rest) [] cpos) X.env) (fun v s₁ => ∃ e t ed, v = .ref e ∧ s₁.heap.get? C = some (excClassObj nm qn C N bs bm hdct sn sub ab col dd k0 k1 k2 k3 k5 "ValueError.__new__") ∧ s₁.heap.get? e = some (excOb C ed t) ∧ X.xe (.ref e) s₁) X.xe s := by
    refine wpAny_Call_Name_kw (ld_glob I hg hm ?_ hd)
    refine PySem.W.callWith_K (h₀ := X.base) I.ok.mod.kin M.kp (thn (ha cpos pins s σ H _ I h) fun us s1 ⟨vs, H1, I1, r, hl, q⟩ => ⟨I1.kIn, ?_⟩) he hpl
    have hn : X.s₀.heap.get? (s1.heap.objs.size + 1) = none := Heap.get?_none_of_le (Nat.le_succ_of_le I1.sz)
    refine thn (run_mkX (Q := fun v H2 => v = .ref (s1.heap.objs.size + 1) ∧ ∃ dd, H2 (s1.heap.objs.size + 1) = some (excN (s1.heap.objs.size + 1) C dd) ∧ E (.ref C) dd (del H2 (s1.heap.objs.size + 1))) M F (hr.mono hjk) b hx I1 r hl ?_) fun u s2 ⟨v, H2, I2, rv, ev, ed, q1, q2⟩ => ?_
    · exact q _ (I1.hok.fresh (Nat.le_succ _))
    · subst ev
      obtain ⟨t, z⟩ := of_excN (I2.hok _ _ q1)
      exact ⟨_, t, ed, rv, I2.bk _ _ hC, z, hX pins σ H2 s2 _ ed I2 hn q1 q2⟩
  rw [arm_exec_Raise]
  first
    | refine wpAny_bind (wpAny_standAt (raise_made (C := C) (nm := nm) (q := qn) (N := N) (bs := bs) (bm := bm) (hdct := hdct) (sn := sn) (sub := sub) (ab := ab) (col := col) (dd := dd) (k0 := k0) (k1 := k1) (k2 := k2) (k3 := k3) (k5 := k5) hb (I.ok.hd hc) (wpAny_bind (thn key fun v s₃ h₃ => wpAny_bind (wpAny_standAt (wpAny_pure h₃))))))
    | (simp only [evalOpt, Option.map]; refine wpAny_bind (wpAny_standAt (raise_made (C := C) (nm := nm) (q := qn) (N := N) (bs := bs) (bm := bm) (hdct := hdct) (sn := sn) (sub := sub) (ab := ab) (col := col) (dd := dd) (k0 := k0) (k1 := k1) (k2 := k2) (k3 := k3) (k5 := k5) hb (I.ok.hd hc) (wpAny_bind (thn key fun v s₃ h₃ => wpAny_bind (wpAny_standAt (wpAny_pure h₃)))))))
end
/-! Base.__init__(self, ..) -/
structure ErrB (K : PySem.W.Frag) (D : Addr) : Prop where
  rd : PySem.W.readsIn K D (.type "type") = true
  sg : PySem.W.specialIn K (.ref D) "__getattribute__" = some (some (.builtin "type.__getattribute__"))
  fi : PySem.W.findCls K (.ref D) (.type "type") "__init__" = some (.val (.builtin "ValueError.__init__"))
theorem upd_id {H : Hp} {a : Addr} {o : HO} (h : H a = some o) : upd H a o = H := by
  funext b
  unfold upd
  split
  · rename_i z; rw [z, h]
  · rfl
def tBInit (K : PySem.W.Frag) (ta : TA) : TE := fun σ H Q => ta σ H fun vs H1 => ∃ e C dd ws, vs = .ref e :: ws ∧ ws.length ≤ 100 ∧ H1 e = some (excN e C dd) ∧ ErrO K C ∧ Q .non H1
section
variable {X : Cx} {x : Str} {D : Addr} {e0 : Expr} {rest : List Expr} {ta : TA} {np apos pos : Pos} {pl : Sem Bool}
theorem pe_binit (B : ErrB X.K D) (hg : Gl X x) (hm : X.mg x = some (.ref D)) (ha : PA X (e0 :: rest) ta)
    (ht : eval (.Call (.Attribute (.Name x np) "__init__" apos) (e0 :: rest) [] pos) X.env = (do
      let ov ← eval (.Name x np) X.env
      standAt apos.atName
      let (f, first) ← holding [ov] (getMethod ov "__init__" pl)
      callWith pos f first (backTo pos (starEach (e0 :: rest) X.env)) (backToKw pos (keywordEach [] X.env))) := by rfl)
    (he : starEach (e0 :: rest) X.env = (false, eval e0 X.env) :: starEach rest X.env := by rfl) (hpl : (backTo pos (starEach rest X.env)).any (·.1) = false := by rfl) (hd : (x == ("__debug__" : Str)) = false := by decide) :
    PE X (.Call (.Attribute (.Name x np) "__init__" apos) (e0 :: rest) [] pos) (tBInit X.K ta) := by
  intro pins s σ H Q I h
  refine PySem.W.methodCall_KW (pl := pl) (ld_glob I hg hm ?_ hd) ht
  refine PySem.W.method_cls I.kIn B.sg (PySem.W.cls_value I.kIn B.rd B.fi rfl ?_)
  refine PyProof.Rows.callWith_builtin1 (thn (ha pos pins _ σ H _ (I.tok _) h) fun us s1 ⟨vs, H1, I1, r, e, C, dd, ws, ev, hl, he1, ⟨fI, hO⟩, q⟩ => ?_) he hpl
  subst ev
  cases r with
  | cons r1 r2 =>
    obtain rfl := (show _ = Value.ref e from r1)
    have hlen := r2.length
    obtain ⟨bm, N, nm, qn, bs, hdct, sn, sub, ab, col, cdd, k0, k1, k2, k3, k5, mN, hC, hN, hi, T⟩ := exc_objI I1.kIn hO
    obtain ⟨t0, hob⟩ := of_excN (I1.hok e _ he1)
    refine base_init (initId := "ValueError.__init__") PySem.F.excBase_ValueError T hC hob (fun h' kp hn => ?_) (small (by omega))
    have I2 := I1.write (x := e) (e := e) (o := excN e C dd) (t' := s1.toks) (h' := h') (by rw [he1]; exact True.intro) (.inl rfl) kp ⟨_, hn⟩ (excN_ok hn)
    rw [upd_id he1] at I2
    exact ⟨.non, H1, I2, rfl, q⟩
end

/-! self.f = value, in such an error's __init__: it gets its dict -/
def errMro : List Value → Bool
  | .ref _ :: r => errMro r
  | l => l == bmVE
theorem refuse_err (self : Value) : ∀ l : List Value, errMro l = true → refuseLoop self "__setattr__" l = pure () := by
  intro l
  induction l with
  | nil => intro e; cases e
  | cons v r ih =>
    intro e
    cases v with
    | ref c => rw [refuseLoop_ref]; exact ih e
    | _ => rw [beq_iff_eq.mp (show ((_ :: r) == bmVE) = true from e)]; exact PySem.F.store_ValueError.passes self
theorem errMro_obj : ∀ l : List Value, errMro l = true → l.contains (.type "object") = true ∧ l.isEmpty = false := by
  intro l
  induction l with
  | nil => intro e; cases e
  | cons v r ih =>
    intro e
    refine ⟨?_, rfl⟩
    cases v with
    | ref c => rw [List.contains_cons, (ih e).1, Bool.or_true]
    | _ => rw [beq_iff_eq.mp (show ((_ :: r) == bmVE) = true from e)]; decide
structure ErrS (K : PySem.W.Frag) (C : Addr) : Prop where
  sa : PySem.W.findIn K (.ref C) "__setattr__" = some (some (.builtin "object.__setattr__"))
  hd : PySem.W.hasDictIn K C = true
  po : (PySem.W.clsIn K C).any (fun c => errMro c.mro) = true
section
open PySem.W
variable {prog : Program} {w : World} {A : Around} {K : PySem.W.Frag} {s : Shared} {x C : Addr} {R : Result → Shared → Prop}
theorem osa_err {ox : Obj} {od : Option Obj} {name : Str} {tk : Tok} {v : Value} {r : Option Value} (X : K.In s.heap) (I : PySem.W.InstAt s.heap x ox C od) (S : ErrS K C) (ht : PySem.W.takerIn K C name = some r)
    (h : ∀ b, wpAny (model prog w) A.in1 (match r with | some a => Builtin.ObjectAttr.setByDescriptor a (.ref x) v | none => Builtin.ObjectAttr.storeInOwnDict (.ref x) (.ref C) (.str name tk) name v b)
      (fun fin s' => match fin with | .done f => R (.ok f) s' | .again c' => c'.quiet = true ∧ codeAny (model prog w) A c' R s') (fun e s' => R (.error e) s') s) :
    codeAny (model prog w) A (.call (.builtin "object.__setattr__") ⟨[.ref x, .str name tk, v], []⟩) R s := by
  have SF := PySem.F.store_object
  obtain ⟨cd, hc, ho⟩ := PySem.W.any_some S.po
  obtain ⟨ho1, ne⟩ := errMro_obj _ ho
  have sub : PySem.W.Looks (model prog w) s.heap (isInstance (.ref x) (.type "object")) true := I.type.andThen (PySem.W.looks_mroIn X (by unfold PySem.W.mroIn; rw [hc, Option.bind_some, if_neg (by rw [ne]; decide), ho1]))
  refine codeAny_call_builtin SF.slot.plain SF.entry (@check_slot (model prog w) _ _ s "object.__setattr__" "object" "__setattr__" (.ref x) [.str name tk, v] [] _ SF.kind SF.split sub (SF.args (.ref x) (.str name tk) v) ?_)
  obtain ⟨attr, ha, hr⟩ := Option.bind_eq_some_iff.mp ht
  have hm : PySem.W.Looks (model prog w) s.heap (mroOf (.ref C)) cd.mro := (PySem.W.looks_clsIn X hc).andThen .now
  have L3 : PySem.W.Looks (model prog w) s.heap (Builtin.ObjectAttr.storeTaker? attr) r := by
    cases attr with
    | none => cases hr; exact .now
    | some a =>
      obtain ⟨b, hb, rfl⟩ := Option.map_eq_some_iff.mp hr
      refine (PySem.W.looks_takesIn X hb).andThen ?_
      cases b <;> exact .now
  rw [PySem.W.osa_eq, refuse_eq]
  refine wpAny_bind (wpAny_bind (I.type.here (wpAny_bind (hm.here ?_))))
  rw [refuse_err _ _ ho]
  refine wpAny_pure (wpAny_bind (I.type.here (wpAny_bind ((PySem.W.looks_findIn X ha).here (wpAny_bind (L3.here ?_))))))
  exact h _
theorem set_err {E : Value → Shared → Prop} {name : Str} {v : Value} {t : Addr} {Q : Unit → Shared → Prop} (X : K.In s.heap) (S : ErrS K C) (n : NoAttr K C name) (hx : s.heap.get? x = some (excOb C none t))
    (h : ∀ h', (∀ b o, b ≠ x → s.heap.get? b = some o → h'.get? b = some o) → h'.get? x = some (excOb C (some s.heap.objs.size) t) → h'.Ns1 s.heap.objs.size (fun y => if y = name then some v else none) → Q () { s with heap := h', toks := s.toks + 2 }) :
    wpAny (model prog w) A (setAttr (.ref x) name v) Q E s := by
  have J : PySem.W.InstAt s.heap x (excOb C none t) C none := ⟨hx, rfl, rfl, True.intro⟩
  refine PySem.W.set_plain X J S.sa (osa_err (s := { s with toks := s.toks + 1 }) (r := none) X J S n.taker fun b => ?_)
  obtain ⟨cd, hc, hd'⟩ := PySem.W.any_some S.hd
  have hlt := Heap.lt_size hx
  have hd1 : (s.heap.push PySem.W.emptyDict).get? s.heap.objs.size = some PySem.W.emptyDict := Heap.get?_push_size s.heap rfl
  have hx1 : (s.heap.push PySem.W.emptyDict).get? x = some (excOb C none t) := Heap.get?_push_of_some _ hx
  refine wpAny_bind (wpAny_pure (wpAny_bind (wpAny_bind (wpAny_loadPart hx (wpAny_bind (PySem.W.Looks.here (s := { s with toks := s.toks + 1 }) (PySem.W.looks_clsIn X hc) ?_))))))
  rw [hd']
  have hx2 : ((s.heap.push PySem.W.emptyDict).update x (fun o => { o with dict := some s.heap.objs.size })).get? x = some (excOb C (some s.heap.objs.size) t) := Heap.get?_update_self _ hx1 rfl
  have hd2 : ((s.heap.push PySem.W.emptyDict).update x (fun o => { o with dict := some s.heap.objs.size })).get? s.heap.objs.size = some PySem.W.emptyDict := (Heap.get?_update_other _ _ (Nat.ne_of_lt hlt)).trans hd1
  have hn0 : ((s.heap.push PySem.W.emptyDict).update x (fun o => { o with dict := some s.heap.objs.size })).Ns s.heap.objs.size (fun _ => none) := ⟨PySem.W.emptyDict, #[], _, hd2, rfl, (fun e he => absurd he (by simp)), fun _ => rfl⟩
  refine wpAny_bind (wpAny_alloc (wpAny_bind (wpAny_update hx1 (wpAny_pure (a := some s.heap.objs.size) (wpAny_bind (wpAny_pure (wpAny_bind ?_)))))))
  refine wpAny_nsSet1 (s := { s with toks := s.toks + 1, heap := (s.heap.push PySem.W.emptyDict).update x (fun o => { o with dict := some s.heap.objs.size }) }) (Heap.Ns1.of_empty hn0) fun h' hn2 hs2 => ?_
  obtain ⟨oD, esD, epD, hoD, hdD, hcD⟩ := hn2.count (ns := [name]) (fun y hy => by
    by_cases q : y = name
    · rw [q]; exact List.mem_cons_self
    · exact absurd (if_neg q) hy)
  refine wpAny_bind (wpAny_lookBehind hoD (by rw [hdD]; exact pastItsLine_dict (Nat.le_trans hcD (by rw [sizeLine_eq, List.length_singleton]; decide))) ?_)
  refine wpAny_pure (h _ (fun b o nb z => ?_) ((hs2.2 _ (Nat.ne_of_lt hlt)).trans hx2) hn2)
  have nb2 : b ≠ s.heap.objs.size := Nat.ne_of_lt (Heap.lt_size z)
  rw [hs2.2 _ nb2, Heap.get?_update_other _ _ (Ne.symm nb)]
  exact Heap.get?_push_of_some _ z
end
def sSetX (K : PySem.W.Frag) (ta tv : TE) (f : Str) : TS := fun D σ H => tv σ H fun y H1 => ta σ H1 fun x H2 => ∃ e C, x = .ref e ∧ H2 e = some (excN e C none) ∧ ErrS K C ∧ NoAttr K C f ∧
  ∀ d, H2 d = none → D.nx σ (upd (upd H2 d (.xd [(f, y)])) e (excN e C (some d)))
section
variable {X : Cx} {o value : Expr} {ta tv : TE} {f : Str} {pos pos' : Pos}
theorem ps_setX (ha : PE X o ta) (hv : PE X value tv) (hs : swapsWith value (some (.Attribute o f pos')) pos.line X.env = pure false := by rfl) : PS X (.Assign [.Attribute o f pos'] value pos) (sSetX X.K ta tv f) := by
  intro pins s σ H D I h
  refine plainObj_wpAny_Assign_Attribute (thn (hv pins s σ H _ I h) fun u s1 ⟨y, H1, I1, ry, q⟩ => thn (ha pins s1 σ H1 _ I1 q) fun ov s2 ⟨x, H2, I2, rx, e, C, ex, he, S, n, q2⟩ => ?_) hs
  subst ex
  obtain rfl : ov = Value.ref e := rx
  obtain ⟨t, hob⟩ := of_excN (I2.hok e _ he)
  refine set_err I2.kIn S n hob fun h' kp hx hn => ?_
  have fr : H2 s2.heap.objs.size = none := I2.hok.fresh (Nat.le_refl _)
  have hlt := Heap.lt_size hob
  obtain ⟨od, hod⟩ : ∃ od, h'.get? s2.heap.objs.size = some od := let ⟨o, _, _, z, _⟩ := hn; ⟨o, z⟩
  have hfre : od.isFreed = false := by
    obtain ⟨o, es, ep, z, zd, _⟩ := hn
    rw [hod] at z
    cases z
    obtain ⟨c1, c2, c3, c4⟩ := od
    cases zd
    rfl
  have hA1 : (s2.heap.push od).get? s2.heap.objs.size = some od := Heap.get?_push_size s2.heap hfre
  have I3 := I2.laid (a := s2.heap.objs.size) (o := .xd [(f, y)]) (h' := s2.heap.push od) (t' := s2.toks + 2) (fun b u z => Heap.get?_push_of_some _ z) (Nat.le_refl _) (by
    refine ⟨_, hn.at fun o z => ?_, fun g => ?_⟩
    · rw [hod] at z; cases z; exact hA1
    · show RelO ([(f, y)].lookup g) (if g = f then some u else none)
      by_cases gf : g = f
      · subst gf; rw [if_pos rfl, List.lookup_cons_self]; exact ry
      · rw [if_neg gf, List.lookup_cons, beq_false_of_ne gf]; exact True.intro)
  have I4 := I3.write (x := e) (e := e) (o := excN e C (some s2.heap.objs.size)) (h' := h') (t' := s2.toks + 2) (by rw [upd_ne (Nat.ne_of_lt hlt), he]; exact True.intro) (.inl rfl) (fun b u nb z => ?_) ⟨_, hx⟩ (excN_ok hx)
  · exact ⟨σ, _, I4, q2 _ fr⟩
  · by_cases bd : b = s2.heap.objs.size
    · subst bd
      rw [hA1] at z
      cases z
      exact hod
    · exact kp b u nb ((Heap.get?_push_ne _ _ _ bd).symm.trans z)
end
/-! e.f of a caught error -/
section
open PySem.W PySem.Calls PySem.Builtin PySem.Builtin.ObjectAttr
variable {prog : Program} {w : World} {A : Around} {E : Value → Shared → Prop} {s : Shared} {K : PySem.W.Frag} {x C : Addr}
theorem exc_get {ox : Obj} {od : Option Obj} {name : Str} {v : Value} {ex : Bool} {Q : Value → Shared → Prop} (KX : K.In s.heap) (I : PySem.W.InstAt s.heap x ox C od) (T : ExcC K C) (hf : PySem.W.findObj K C od name = some (.value v)) (hv : PySem.W.handedIn v = true)
    (h : Q v { s with toks := s.toks + 1 }) : wpAny (model prog w) A (getAttr (.ref x) name ex) Q E s := by
  have L0 := I.type (M := model prog w)
  have a1 := PySem.W.looks_findIn (M := model prog w) KX T.ga
  have a2 := PySem.W.looks_findIn (M := model prog w) KX T.gt
  have a3 := PySem.W.looks_mroIn (M := model prog w) KX T.mb
  have a4 := PySem.W.looks_find (M := model prog w) KX I hf
  have hb := PySem.F.attr_ValueError.ga.bind (.ref x)
  unfold getAttr getAttrBy
  refine wpAny_bind (wpAny_mkText (wpAny_holding (wpAny_bind (L0.at (wpAny_bind (a1.at ?_))))))
  show wpAny _ _ (if (onTheHeap (.ref C) && (Value.builtin "BaseException.__getattribute__") == Value.builtin "object.__getattribute__") = true then _ else _) _ _ _
  rw [if_neg (by rw [show (Value.builtin "BaseException.__getattribute__" == Value.builtin "object.__getattribute__") = false by decide +kernel, Bool.and_false]; decide)]
  unfold getAttrByItsOwn hookBefore
  rw [if_pos (show onTheHeap (Value.ref C) = true from rfl)]
  refine wpAny_bind (a2.at (wpAny_bind (wpAny_attempt (wpAny_holding ?_))))
  unfold callGetattribute
  rw [show (ex && onTheHeap (Value.builtin "BaseException.__getattribute__")) = false from Bool.and_false _, if_neg (by decide)]
  unfold boundAndCalled
  rw [hb]
  refine wpAny_bind (wpAny_pure (wpAny_call (codeAny_call_builtin PySem.F.attr_ValueError.ga.plain PySem.F.entry_bexc_ga ?_)))
  have hk : builtinKind "BaseException.__getattribute__" = some .slot := by decide +kernel
  have hsplit : splitId "BaseException.__getattribute__" = some ("BaseException", "__getattribute__") := by decide +kernel
  have ha := PySem.F.args_bexc_ga (.ref x) (.str name s.toks)
  simp only [checkBuiltinCall, hk, hsplit]
  refine wpAny_bind ?_
  unfold isInstance
  refine wpAny_bind (L0.at (a3.at ?_))
  rw [if_neg (by decide)]
  have key : wpAny (model prog w) A.in1 (match Manifest.signature? "BaseException.__getattribute__" with | some sig => Bind.checkArgs "BaseException.__getattribute__" sig ⟨[.ref x, .str name s.toks], []⟩ | _ => pure ()) (fun _ s' => s' = { s with toks := s.toks + 1 }) (fun _ _ => False) { s with toks := s.toks + 1 } := args_then ha rfl
  refine wpAny_mono key (fun _ s1 es => ?_) (fun _ _ z => z.elim)
  subst es
  have e1 : slotArgs "__getattribute__" 1 ⟨[.ref x, .str name s.toks], []⟩ = pure (.ref x, [.str name s.toks]) := rfl
  have e2 : ObjectAttr.attrName (.str name s.toks) = pure name := rfl
  show wpAny _ _ (Builtin.«object.__getattribute__» ⟨[.ref x, .str name s.toks], []⟩) _ _ _
  unfold Builtin.«object.__getattribute__»
  rw [e1]
  refine wpAny_bind (wpAny_pure ?_)
  dsimp only
  rw [e2]
  refine wpAny_bind (wpAny_pure (wpAny_bind (L0.at (wpAny_bind (a4.at ?_)))))
  refine wpAny_pure ?_
  exact PySem.W.handed_on hv h
end
def tAttrX (K : PySem.W.Frag) (ta : TE) (f : Str) : TE := fun σ H Q => ta σ H fun x H1 => ∃ a C d fs v, x = .ref a ∧ H1 a = some (excO a C (some d)) ∧ H1 d = some (.xd fs) ∧ ExcC K C ∧ PySem.W.hasDictIn K C = true ∧ NoAttr K C f ∧ fs.lookup f = some v ∧ Q v H1
theorem pe_attrX {X : Cx} {e : Expr} {ta : TE} {f : Str} {pos : Pos} (he : PE X e ta) (hb : attributeBase e f X.env (eval e X.env) = eval e X.env := by rfl) : PE X (.Attribute e f pos) (tAttrX X.K ta f) := by
  intro pins s σ H Q I h
  refine attr_of hb (thn (he pins s σ H _ I h) fun u s1 ⟨x, H1, I1, rx, a, C, d, fs, v, ex, ea, ed, T, hd, n, l, q⟩ => ?_)
  subst ex
  obtain rfl : u = Value.ref a := rx
  obtain ⟨⟨o, vs, ho, hc, hdt, hdd⟩, _, _⟩ := (show ObjOk X.prog X.w H1 s1.heap a (excO a C (some d)) from I1.hok a _ ea)
  obtain ⟨mA, hn, r⟩ := (show ObjOk X.prog X.w H1 s1.heap d (.xd fs) from I1.hok d _ ed)
  obtain ⟨od, hod, hlk⟩ := lookIn_ns hn
  obtain ⟨w', hw, rw'⟩ := RelO.some_of (v := v) (o := mA f) (by rw [← l]; exact r f)
  have J : PySem.W.InstAt s1.heap a o C (some od) := ⟨ho, hc, by obtain ⟨c1, c2, c3, c4⟩ := o; cases hdt; rfl, by rw [hdd]; exact hod⟩
  exact exc_get I1.kIn J T (PySem.W.findObj_own hd n rfl (by rw [hlk, hw])) (handed_of rw') ⟨v, H1, I1.tok _, rw', q⟩
end L2

set_option maxHeartbeats 4000000
namespace L2
open PySem PySem.Spec PyProof.Rows
/-! ### errors with an __init__: the rules step by step -/
theorem InitX.ok {P : Program} {w : World} {K : PySem.W.Frag} {mg : Str → Option Value} {base : Heap} {C : Addr} {qual : Str} {st : Stmt} {N ps : List Str} {k : Nat} {sp : Sp} (D : InitX K C qual st) (S : FnScope N ps (defScope st)) (hb : BindOf "__init__" qual st ps) (len : ∀ vs H Q E, sp vs H Q E → vs.length = ps.length)
    (hbody : ∀ (f : Addr) (cdv : Value) (A : Around) (outer : List Env) (s : Shared) (H : Hp) (vs : List V) (Q : VK) (E : XK), Room k (A.deeper (envOfC qual (defScope st) s.heap.objs.size f cdv)) → sp vs H Q E →
      ∃ t, PSs (cxOf CX0 P w K mg base N qual (defScope st) f cdv A outer s H E).nox (defBody st) t ∧ t { nx := fun _ H' => Q .non H', rt := Q } (start N vs) H) : HasX P w K mg base CX0 (k + 1) C ps sp := by
  obtain ⟨f, fd, F, m⟩ := D
  exact ⟨f, fd, F.ok S len (hbody f), F.binds hb, m⟩
section
variable {X : Cx} {K : PySem.W.Frag}
theorem pe_binitK {x : Str} {D : Addr} {e0 : Expr} {rest : List Expr} {ta : TA} {np apos pos : Pos} (B : ErrB X.K D) (hg : Gl X x) (hm : X.mg x = some (.ref D)) (ha : PA X (e0 :: rest) ta)
    (ht : ∃ pl : Sem Bool, eval (.Call (.Attribute (.Name x np) "__init__" apos) (e0 :: rest) [] pos) X.env = (do
      let ov ← eval (.Name x np) X.env
      standAt apos.atName
      let (f, first) ← holding [ov] (getMethod ov "__init__" pl)
      callWith pos f first (backTo pos (starEach (e0 :: rest) X.env)) (backToKw pos (keywordEach [] X.env))) := by exact ⟨_, rfl⟩)
    (he : starEach (e0 :: rest) X.env = (false, eval e0 X.env) :: starEach rest X.env := by rfl) (hpl : (backTo pos (starEach rest X.env)).any (·.1) = false := by rfl) (hd : (x == ("__debug__" : Str)) = false := by decide) (hK : X.K = K := by rfl) :
    PE X (.Call (.Attribute (.Name x np) "__init__" apos) (e0 :: rest) [] pos) (tBInit K ta) := by
  obtain ⟨pl, ht⟩ := ht
  exact hK ▸ pe_binit B hg hm ha ht he hpl hd
theorem ps_setXK {o value : Expr} {f : Str} {pos pos' : Pos} {ta tv : TE} (ha : PE X o ta) (hv : PE X value tv) (hs : swapsWith value (some (.Attribute o f pos')) pos.line X.env = pure false := by rfl) (hK : X.K = K := by rfl) : PS X (.Assign [.Attribute o f pos'] value pos) (sSetX K ta tv f) := hK ▸ ps_setX ha hv hs
theorem pe_attrXK {e : Expr} {f : Str} {pos : Pos} {ta : TE} (he : PE X e ta) (hb : attributeBase e f X.env (eval e X.env) = eval e X.env := by rfl) (hK : X.K = K := by rfl) : PE X (.Attribute e f pos) (tAttrX K ta f) := hK ▸ pe_attrX he hb
end
def rBInit (K : PySem.W.Frag) : List V → Hp → VK → Prop := fun vs H1 Q => ∃ e C dd ws, vs = .ref e :: ws ∧ ws.length ≤ 100 ∧ H1 e = some (excN e C dd) ∧ ErrO K C ∧ Q .non H1
theorem wp_binit {K : PySem.W.Frag} {ta : TA} {s : St} {H : Hp} {Q : VK} (h : ta s H fun vs H1 => rBInit K vs H1 Q) : tBInit K ta s H Q := h
theorem wp_binitA {K : PySem.W.Frag} {e C : Addr} {dd : Option Addr} {ws : List V} {H : Hp} {Q : VK} (he : At H e (excN e C dd)) (o : ErrO K C) (h : Q .non H) (hl : ws.length ≤ 100 := by decide) : rBInit K (.ref e :: ws) H Q := ⟨e, C, dd, ws, rfl, hl, he, o, h⟩
def rSetX (K : PySem.W.Frag) (f : Str) (y : V) : V → Hp → (Hp → Prop) → Prop := fun x H2 N => ∃ e C, x = .ref e ∧ H2 e = some (excN e C none) ∧ ErrS K C ∧ NoAttr K C f ∧ ∀ d, H2 d = none → N (upd (upd H2 d (.xd [(f, y)])) e (excN e C (some d)))
theorem wp_setX {K : PySem.W.Frag} {ta tv : TE} {f : Str} {D : Ends} {s : St} {H : Hp} (h : tv s H fun y H1 => ta s H1 fun x H2 => rSetX K f y x H2 fun H3 => D.nx s H3) : sSetX K ta tv f D s H := h
theorem wp_setXA {K : PySem.W.Frag} {f : Str} {e C : Addr} {y : V} {H : Hp} {N : Hp → Prop} (he : At H e (excN e C none)) (S : ErrS K C) (n : NoAttr K C f) (h : ∀ d, Free H d → N (upd (upd H d (.xd [(f, y)])) e (excN e C (some d)))) : rSetX K f y (.ref e) H N := ⟨e, C, rfl, he, S, n, h⟩
def rAttrX (K : PySem.W.Frag) (f : Str) : V → Hp → VK → Prop := fun x H1 Q => ∃ a C d fs v, x = .ref a ∧ H1 a = some (excO a C (some d)) ∧ H1 d = some (.xd fs) ∧ ExcC K C ∧ PySem.W.hasDictIn K C = true ∧ NoAttr K C f ∧ fs.lookup f = some v ∧ Q v H1
theorem wp_attrX {K : PySem.W.Frag} {ta : TE} {f : Str} {s : St} {H : Hp} {Q : VK} (h : ta s H fun x H1 => rAttrX K f x H1 Q) : tAttrX K ta f s H Q := h
theorem wp_attrXA {K : PySem.W.Frag} {f : Str} {a C d : Addr} {fs : List (Str × V)} {v : V} {H : Hp} {Q : VK} (e : At H a (excO a C (some d))) (ed : At H d (.xd fs)) (T : ExcC K C) (hd : PySem.W.hasDictIn K C = true) (n : NoAttr K C f) (l : fs.lookup f = some v) (h : Q v H) : rAttrX K f (.ref a) H Q := ⟨a, C, d, fs, v, rfl, e, ed, T, hd, n, l, h⟩
def rRaiseX (C : Addr) (sp : Sp) (E1 E : XK) : List V → Hp → Prop := fun vs H1 => vs.length ≤ 100 ∧ ∀ x, H1 x = none → sp (.ref x :: vs) (upd H1 x (excN x C none)) (fun v H2 => v = .non ∧ V.ref x = V.ref x ∧ ∃ dd, H2 x = some (excN x C dd) ∧ E (.ref C) dd (del H2 x)) E1
theorem wp_raiseX {C : Addr} {sp : Sp} {E1 E : XK} {ta : TA} {D : Ends} {s : St} {H : Hp} (h : ta s H fun vs H1 => rRaiseX C sp E1 E vs H1) : tRaiseX C sp E1 E ta D s H := h
/-! ### for i in range(lo, hi) -/
theorem wp_forR2 {ta : TA} {g : TG} {tb : TS} {D : Ends} {s : St} {H : Hp} (h : ta s H fun vs H1 => ∃ i0 j : Int, vs = [.int i0, .int j] ∧ (-(2 ^ 62) ≤ i0 ∧ i0 < 2 ^ 62 ∧ -(2 ^ 62) ≤ j ∧ j < 2 ^ 62) ∧ ∃ W : Nat → Nat → St → Hp → Prop, (∃ m, W 0 m s H1) ∧ ∀ i m σ H, W i m σ H →
  ((Itr i0 (j - i0).toNat).stop i H ∧ D.nx σ H) ∨ ((Itr i0 (j - i0).toNat).go i H ∧ ∃ N : St → Hp → Prop, (∀ σ' H', N σ' H' → ∃ m', m' < m ∧ W (i + 1) m' σ' H') ∧ ∀ x H', (Itr i0 (j - i0).toNat).yld i H x H' → g x σ H' fun σ2 H2 => tb { D with nx := N, ct := N, bk := D.nx } σ2 H2)) : tFor (iRng2 ta) g tb D s H := h
theorem wp_forR2A {g : TG} {tb : TS} {D : Ends} {s : St} {H : Hp} {i0 j : Int} (n : Nat) (Pv : Nat → St → Hp → Prop) (e : (j - i0).toNat = n) (hn : -(2 ^ 62) ≤ i0 ∧ i0 < 2 ^ 62 ∧ -(2 ^ 62) ≤ j ∧ j < 2 ^ 62) (h0 : Pv 0 s H)
    (hs : ∀ i σ H, i < n → Pv i σ H → g (.int (i0 + (i : Int))) σ H fun σ2 H2 => tb { D with nx := Pv (i + 1), ct := Pv (i + 1), bk := D.nx } σ2 H2) (hd : ∀ σ H, Pv n σ H → D.nx σ H) :
    ∃ i0' j' : Int, [V.int i0, V.int j] = [.int i0', .int j'] ∧ (-(2 ^ 62) ≤ i0' ∧ i0' < 2 ^ 62 ∧ -(2 ^ 62) ≤ j' ∧ j' < 2 ^ 62) ∧ ∃ W : Nat → Nat → St → Hp → Prop, (∃ m, W 0 m s H) ∧ ∀ i m σ H, W i m σ H →
  ((Itr i0' (j' - i0').toNat).stop i H ∧ D.nx σ H) ∨ ((Itr i0' (j' - i0').toNat).go i H ∧ ∃ N : St → Hp → Prop, (∀ σ' H', N σ' H' → ∃ m', m' < m ∧ W (i + 1) m' σ' H') ∧ ∀ x H', (Itr i0' (j' - i0').toNat).yld i H x H' → g x σ H' fun σ2 H2 => tb { D with nx := N, ct := N, bk := D.nx } σ2 H2) := by
  refine ⟨i0, j, rfl, hn, ?_⟩
  rw [e]
  exact for_range Pv h0 hs hd
end L2

namespace BB
/-- the bits of a number, the heaviest first -/
def inBits (n : Int) : Nat → List Int
  | 0 => []
  | k + 1 => (n / 2 ^ k % 2) :: inBits n k
theorem inBits_len (n : Int) : ∀ k, (inBits n k).length = k
  | 0 => rfl
  | k + 1 => by simp [inBits, inBits_len n k]
theorem inBits_map (n : Int) : ∀ m : Nat, (List.range m).map (fun k : Nat => n / 2 ^ (m - 1 - k) % 2) = inBits n m
  | 0 => rfl
  | m + 1 => by
    rw [List.range_succ_eq_map, List.map_cons, List.map_map, inBits]
    congr 1
    rw [← inBits_map n m]
    apply List.map_congr_left
    intro k hk
    have : m + 1 - 1 - (k + 1) = m - 1 - k := by omega
    show n / 2 ^ (m + 1 - 1 - (k + 1)) % 2 = _
    rw [this]
def Bit (b : Int) : Prop := b = 0 ∨ b = 1
def Bits (l : List Int) : Prop := ∀ b ∈ l, Bit b
theorem inBits_bits (n : Int) : ∀ k, Bits (inBits n k)
  | 0 => by intro b hb; cases hb
  | k + 1 => by
    intro b hb
    rcases List.mem_cons.mp hb with rfl | hb
    · unfold Bit; omega
    · exact inBits_bits n k b hb
theorem Bits.nil : Bits [] := by intro b hb; cases hb
theorem Bits.cons {b : Int} {l : List Int} (h : Bit b) (t : Bits l) : Bits (b :: l) := by
  intro c hc
  rcases List.mem_cons.mp hc with rfl | hc
  · exact h
  · exact t c hc
theorem Bits.head {b : Int} {l : List Int} (h : Bits (b :: l)) : Bit b := h b List.mem_cons_self
theorem Bits.tail {b : Int} {l : List Int} (h : Bits (b :: l)) : Bits l := fun c hc => h c (List.mem_cons_of_mem _ hc)
theorem Bits.append {l m : List Int} (h : Bits l) (t : Bits m) : Bits (l ++ m) := by
  intro c hc
  rcases List.mem_append.mp hc with hc | hc
  · exact h c hc
  · exact t c hc
theorem Bits.take {l : List Int} (h : Bits l) (n : Nat) : Bits (l.take n) := fun c hc => h c (List.mem_of_mem_take hc)
theorem Bits.drop {l : List Int} (h : Bits l) (n : Nat) : Bits (l.drop n) := fun c hc => h c (List.mem_of_mem_drop hc)
theorem Bits.zeros (n : Nat) : Bits (List.replicate n 0) := fun c hc => .inl (List.eq_of_mem_replicate hc)

/-- the sum of two bits without carry -/
def x2 (a b : Int) : Int := (a + b) % 2
/-- the first places of r, turned over where ws says -/
def xorP : List Int → List Int → List Int
  | [], r => r
  | _ :: _, [] => []
  | w :: ws, x :: r => x2 x w :: xorP ws r
theorem xorP_nil (r : List Int) : xorP [] r = r := by unfold xorP; rfl
theorem xorP_cons (w x : Int) (ws r : List Int) : xorP (w :: ws) (x :: r) = x2 x w :: xorP ws r := by rw [xorP]
theorem xorP_len : ∀ ws r, (xorP ws r).length = r.length
  | [], r => by rw [xorP_nil]
  | _ :: _, [] => by simp [xorP]
  | w :: ws, x :: r => by simp [xorP_cons, xorP_len ws r]
/-- the wheel: 17817 in fifteen bits -/
def wheel : List Int := inBits 17817 15
theorem wheel_len : wheel.length = 15 := inBits_len _ _
/-- a step of the check, over its bits -/
def cstep (c : List Int) (b : Int) : List Int :=
  if c.headD 0 = b then c.tail ++ [0] else List.zipWith x2 (c.tail ++ [0]) wheel
theorem cstep_len {c : List Int} (b : Int) (h : c.length = 15) : (cstep c b).length = 15 := by
  unfold cstep
  split <;> simp [List.length_zipWith, wheel_len, h]
theorem zip_bits : ∀ a b : List Int, Bits (List.zipWith x2 a b)
  | [], _ => by simp [Bits.nil]
  | _ :: _, [] => by simp [Bits.nil]
  | x :: a, y :: b => by
    rw [List.zipWith_cons_cons]
    exact (show Bit (x2 x y) by unfold Bit x2; omega) |> fun h => Bits.cons h (zip_bits a b)
theorem cstep_bits {c : List Int} (b : Int) (h : Bits c) : Bits (cstep c b) := by
  unfold cstep
  split
  · refine Bits.append (fun x hx => h x (List.mem_of_mem_tail hx)) (Bits.cons (.inl rfl) Bits.nil)
  · exact zip_bits _ _
theorem fold_len : ∀ (bs c : List Int), c.length = 15 → (bs.foldl cstep c).length = 15
  | [], _, h => h
  | b :: bs, c, h => fold_len bs (cstep c b) (cstep_len b h)
theorem fold_bits : ∀ (bs c : List Int), Bits c → Bits (bs.foldl cstep c)
  | [], _, h => h
  | b :: bs, c, h => fold_bits bs (cstep c b) (cstep_bits b h)
/-- two turnings over are one -/
theorem xorP_two : ∀ (ws cs r : List Int), ws.length = cs.length → xorP ws (xorP cs r) = xorP (List.zipWith x2 cs ws) r
  | [], [], r, _ => by simp [xorP_nil]
  | w :: ws, c :: cs, [], _ => by simp [xorP]
  | w :: ws, c :: cs, x :: r, h => by
    rw [List.zipWith_cons_cons, xorP_cons, xorP_cons, xorP_cons, xorP_two ws cs r (by simpa using h)]
    congr 1
    unfold x2; omega
  | [], _ :: _, _, h => by simp at h
  | _ :: _, [], _, h => by simp at h
theorem xorP_zero : ∀ (cs r : List Int), Bits r → cs.length < r.length → xorP (cs ++ [0]) r = xorP cs r
  | [], [], _, h => by simp at h
  | [], x :: r, hb, _ => by
    show xorP [0] (x :: r) = _
    rw [xorP_cons, xorP_nil, xorP_nil]
    congr 1
    rcases hb.head with e | e <;> subst e <;> rfl
  | c :: cs, [], _, h => by simp at h
  | c :: cs, x :: r, hb, h => by
    rw [List.cons_append, xorP_cons, xorP_cons, xorP_zero cs r hb.tail (by simpa using h)]
/-- one turn of the law's dividing, behind the place itself -/
theorem div_turn {c0 b : Int} {cs r : List Int} (hb : Bit b) (hc : Bit c0) (hcs : Bits cs) (hr : Bits r) (hl : cs.length = 14) (hrl : 15 ≤ r.length) :
    (if x2 b c0 = 1 then xorP wheel (xorP cs r) else xorP cs r) = xorP (cstep (c0 :: cs) b) r := by
  have ez : xorP cs r = xorP (cs ++ [0]) r := (xorP_zero cs r hr (by omega)).symm
  have ec : cstep (c0 :: cs) b = if c0 = b then cs ++ [0] else List.zipWith x2 (cs ++ [0]) wheel := rfl
  rw [ec]
  by_cases e : c0 = b
  · subst e
    have h0 : ¬ x2 c0 c0 = 1 := by unfold x2; omega
    rw [if_neg h0, if_pos rfl]
    exact ez
  · have h1 : x2 b c0 = 1 := by
      unfold x2
      rcases hb with rfl | rfl <;> rcases hc with rfl | rfl <;> first | rfl | exact absurd rfl e
    rw [if_pos h1, if_neg e, ez, xorP_two _ _ _ (by simp [wheel_len, hl])]
theorem xorP_zeros : ∀ (cs : List Int), Bits cs → xorP cs (List.replicate cs.length 0) = cs
  | [], _ => rfl
  | c :: cs, h => by
    rw [List.length_cons, List.replicate_succ, xorP_cons, xorP_zeros cs h.tail]
    congr 1
    rcases h.head with e | e <;> subst e <;> rfl
def zeros15 : List Int := List.replicate 15 0
/-- the check, as a list of bits -/
def chk (bs : List Int) : List Int := bs.foldl cstep zeros15
theorem chk_len (bs : List Int) : (chk bs).length = 15 := fold_len bs _ (by simp [zeros15])
theorem chk_bits (bs : List Int) : Bits (chk bs) := fold_bits bs _ (Bits.zeros 15)

/-! the check as a number -/
def stepN (c : Nat) (b : Int) : Nat :=
  if ((c / 16384 : Nat) : Int) = b then c * 2 % 32768 else (c * 2 % 32768) ^^^ 17817
theorem stepN_lt {c : Nat} (b : Int) : stepN c b < 32768 := by
  unfold stepN
  have h1 : c * 2 % 32768 < 2 ^ 15 := by omega
  split
  · omega
  · exact Nat.xor_lt_two_pow h1 (by decide)
theorem bit_test (n i : Nat) : ((n : Int) / 2 ^ i % 2) = ((n.testBit i).toNat : Int) := by
  rw [Nat.toNat_testBit]
  push_cast
  rfl
theorem inBits_xor (a b : Nat) : ∀ k, inBits ((a ^^^ b : Nat) : Int) k = List.zipWith x2 (inBits a k) (inBits b k)
  | 0 => rfl
  | k + 1 => by
    rw [inBits, inBits, inBits, List.zipWith_cons_cons, inBits_xor a b k]
    congr 1
    rw [bit_test, bit_test, bit_test, Nat.testBit_xor]
    cases a.testBit k <;> cases b.testBit k <;> rfl
theorem inBits_shift (a : Nat) : ∀ k, inBits ((a * 2 : Nat) : Int) (k + 1) = inBits a k ++ [0]
  | 0 => by simp [inBits]
  | k + 1 => by
    rw [inBits, inBits_shift a k, inBits, List.cons_append]
    congr 1
    rw [bit_test, bit_test, Nat.mul_comm, ← Nat.pow_one 2, Nat.testBit_two_pow_mul]
    simp
theorem inBits_mod (a : Nat) (m : Nat) : ∀ k, k ≤ m → inBits ((a % 2 ^ m : Nat) : Int) k = inBits a k
  | 0, _ => rfl
  | k + 1, h => by
    rw [inBits, inBits, inBits_mod a m k (by omega)]
    congr 1
    rw [bit_test, bit_test, Nat.testBit_mod_two_pow]
    simp [show k < m by omega]
theorem inBits_step {c : Nat} (hc : c < 32768) (b : Int) : inBits (stepN c b) 15 = cstep (inBits c 15) b := by
  have hs : inBits ((c * 2 % 32768 : Nat) : Int) 15 = (inBits c 15).tail ++ [0] := by
    have := inBits_mod (c * 2) 15 15 (Nat.le_refl _)
    rw [show (2 : Nat) ^ 15 = 32768 from rfl] at this
    rw [this, inBits_shift c 14]
    rfl
  have hh : (inBits c 15).headD 0 = ((c / 16384 : Nat) : Int) := by
    show ((c : Int) / 2 ^ 14 % 2) = _
    omega
  unfold stepN cstep
  rw [hh]
  split
  · exact hs
  · rw [inBits_xor, hs]
    rfl
theorem fold_lt : ∀ (bs : List Int) (c : Nat), c < 32768 → bs.foldl stepN c < 32768
  | [], _, h => h
  | b :: bs, c, _ => fold_lt bs _ (stepN_lt b)
theorem fold_num : ∀ (bs : List Int) (c : Nat), c < 32768 → inBits (bs.foldl stepN c : Nat) 15 = bs.foldl cstep (inBits c 15)
  | [], _, _ => rfl
  | b :: bs, c, h => by
    rw [List.foldl_cons, List.foldl_cons, fold_num bs _ (stepN_lt b), inBits_step h]
theorem chk_num (bs : List Int) : inBits (bs.foldl stepN 0 : Nat) 15 = chk bs := by
  rw [fold_num bs 0 (by decide)]
  rfl

/-! the law's own dividing -/
theorem xorP_set : ∀ (ws r : List Int) (j : Nat), j < ws.length → j < r.length →
    (xorP (ws.take j) r).set j (x2 ((xorP (ws.take j) r).getD j 0) (ws.getD j 0)) = xorP (ws.take (j + 1)) r
  | [], _, _, h, _ => by simp at h
  | _ :: _, [], _, _, h => by simp at h
  | w :: ws, x :: r, 0, _, _ => by
    simp [xorP_nil, xorP_cons]
  | w :: ws, x :: r, j + 1, h, h' => by
    have ih := xorP_set ws r j (by simpa using h) (by simpa using h')
    simp only [List.take_succ_cons, xorP_cons, List.set_cons_succ, List.getD_cons_succ]
    rw [ih]
/-- rest behind j turns of the inner loop at place k -/
def inner (k j : Nat) (rest : List Int) : List Int := rest.take k ++ xorP ((1 :: wheel).take j) (rest.drop k)
theorem inner_zero (k : Nat) (rest : List Int) : inner k 0 rest = rest := by
  unfold inner; rw [List.take_zero, xorP_nil, List.take_append_drop]
theorem inner_len (k j : Nat) (rest : List Int) : (inner k j rest).length = rest.length := by
  unfold inner
  rw [List.length_append, xorP_len, ← List.length_append, List.take_append_drop]
theorem inner_get (k j : Nat) (rest : List Int) (hk : k ≤ rest.length) (i : Nat) : (inner k j rest).getD (k + i) 0 = (xorP ((1 :: wheel).take j) (rest.drop k)).getD i 0 := by
  unfold inner
  have : (rest.take k).length = k := by simp [hk]
  simp [List.getD_eq_getElem?_getD, List.getElem?_append_right, this]
theorem inner_set (k j : Nat) (rest : List Int) (hj : j < 16) (hk : k + j < rest.length) :
    (inner k j rest).set (k + j) (((inner k j rest).getD (k + j) 0 + (1 :: wheel).getD j 0) % 2) = inner k (j + 1) rest := by
  rw [inner_get k j rest (by omega)]
  have hl : (rest.take k).length = k := by simp; omega
  unfold inner
  rw [List.set_append_right _ _ (by omega), hl, Nat.add_sub_cancel_left]
  congr 1
  exact xorP_set (1 :: wheel) (rest.drop k) j (by simp [wheel_len]; omega) (by simp; omega)
theorem inner_drop (k : Nat) (rest : List Int) (x : Int) (r : List Int) (h : rest.drop k = x :: r) : (inner k 16 rest).drop (k + 1) = xorP wheel r := by
  have hk : k ≤ rest.length := by
    have := congrArg List.length h
    simp at this; omega
  have hl : (rest.take k).length = k := by simp [hk]
  unfold inner
  rw [h, List.take_of_length_le (l := 1 :: wheel) (by simp [wheel_len]), xorP_cons]
  rw [List.drop_append, hl]
  simp [List.drop_of_length_le, hl]
/-- one turn of the outer loop -/
def turn (k : Nat) (rest : List Int) : List Int := if rest.getD k 0 = 1 then inner k 16 rest else rest
structure Outer (bs : List Int) (k : Nat) (rest : List Int) : Prop where
  len : rest.length = bs.length + 15
  bhd : rest.drop k = xorP ((bs.take k).foldl cstep zeros15) (bs.drop k ++ zeros15)
theorem outer_start (bs : List Int) (hb : Bits bs) : Outer bs 0 (bs ++ zeros15) := by
  refine ⟨by simp [zeros15], ?_⟩
  simp only [List.drop_zero, List.take_zero, List.foldl_nil]
  have : ∀ (m : Nat) (r : List Int), Bits r → xorP (List.replicate m 0) r = r := by
    intro m
    induction m with
    | zero => intro r _; exact xorP_nil r
    | succ m ih =>
      intro r hr
      cases r with
      | nil => rfl
      | cons x r =>
        rw [List.replicate_succ, xorP_cons, ih r hr.tail]
        congr 1
        rcases hr.head with e | e <;> subst e <;> rfl
  exact (this 15 _ (hb.append (Bits.zeros 15))).symm
theorem outer_turn {bs : List Int} (hb : Bits bs) {k : Nat} {rest : List Int} (hk : k < bs.length) (o : Outer bs k rest) : Outer bs (k + 1) (turn k rest) := by
  obtain ⟨hl, hd⟩ := o
  have e1 : bs.drop k = bs[k] :: bs.drop (k + 1) := List.drop_eq_getElem_cons hk
  have e2 : (bs.take (k + 1)).foldl cstep zeros15 = cstep ((bs.take k).foldl cstep zeros15) bs[k] := by
    rw [List.take_succ_eq_append_getElem hk, List.foldl_append]
    rfl
  have hcl := fold_len (bs.take k) zeros15 (by simp [zeros15])
  have hcb := fold_bits (bs.take k) zeros15 (Bits.zeros 15)
  generalize (bs.take k).foldl cstep zeros15 = c at *
  match c, hcl, hcb with
  | [], h, _ => cases h
  | c0 :: cs, hcl, hcb =>
    rw [e1, List.cons_append, xorP_cons] at hd
    have hg : rest.getD k 0 = x2 bs[k] c0 := by
      have := congrArg (fun l => l.getD 0 0) hd
      simpa [List.getD_eq_getElem?_getD] using this
    have hr : Bits (bs.drop (k + 1) ++ zeros15) := (hb.drop _).append (Bits.zeros 15)
    have key := div_turn (b := bs[k]) (c0 := c0) (cs := cs) (r := bs.drop (k + 1) ++ zeros15) (hb _ (List.getElem_mem hk)) hcb.head hcb.tail hr (by simpa using hcl) (by simp [zeros15])
    refine ⟨?_, ?_⟩
    · unfold turn; split
      · rw [inner_len, hl]
      · exact hl
    · rw [e2, ← key]
      unfold turn
      rw [hg]
      split
      · exact inner_drop k rest _ _ hd
      · have : rest.drop (k + 1) = (rest.drop k).drop 1 := by rw [List.drop_drop]
        rw [this, hd]; rfl
theorem outer_end {bs rest : List Int} (o : Outer bs bs.length rest) : rest.drop bs.length = chk bs := by
  have h := o.bhd
  rw [List.take_of_length_le (Nat.le_refl _), List.drop_of_length_le (Nat.le_refl _), List.nil_append] at h
  rw [h]
  have := xorP_zeros (chk bs) (chk_bits bs)
  rw [chk_len] at this
  exact this
end BB

namespace BB
/-! numbers and their bits -/
def numOf (l : List Int) : Int := l.foldl (fun n b => n * 2 + b) 0
theorem numOf_from : ∀ (l : List Int) (a : Int), l.foldl (fun n b => n * 2 + b) a = a * 2 ^ l.length + numOf l
  | [], a => by simp [numOf]
  | b :: l, a => by
    unfold numOf
    rw [List.foldl_cons, List.foldl_cons, numOf_from l, numOf_from l (0 * 2 + b), List.length_cons, Int.pow_succ]
    have : (2 : Int) ^ l.length * 2 = 2 * 2 ^ l.length := Int.mul_comm _ _
    rw [this, Int.add_mul, Int.zero_mul, Int.zero_add, ← Int.mul_assoc, Int.add_assoc]
theorem numOf_cons (b : Int) (l : List Int) : numOf (b :: l) = b * 2 ^ l.length + numOf l := by
  show l.foldl _ (0 * 2 + b) = _
  rw [numOf_from]; simp
theorem numOf_nn : ∀ {l : List Int}, Bits l → 0 ≤ numOf l ∧ numOf l < 2 ^ l.length
  | [], _ => by decide
  | b :: l, h => by
    obtain ⟨h1, h2⟩ := numOf_nn h.tail
    rw [numOf_cons, List.length_cons, Int.pow_succ]
    rcases h.head with e | e <;> subst e <;> omega
theorem inBits_num : ∀ {l : List Int}, Bits l → ∀ m : Int, inBits (m * 2 ^ l.length + numOf l) l.length = l
  | [], _, _ => rfl
  | b :: l, h, m => by
    obtain ⟨h1, h2⟩ := numOf_nn h.tail
    rw [numOf_cons, List.length_cons, inBits]
    have e : m * 2 ^ (l.length + 1) + (b * 2 ^ l.length + numOf l) = (m * 2 + b) * 2 ^ l.length + numOf l := by
      rw [Int.pow_succ, Int.add_mul, Int.mul_assoc, Int.mul_comm (2 ^ l.length) 2]; omega
    rw [e, inBits_num h.tail (m * 2 + b)]
    congr 1
    have hp : (0 : Int) < 2 ^ l.length := Int.pow_pos (by decide)
    have : ((m * 2 + b) * 2 ^ l.length + numOf l) / 2 ^ l.length = m * 2 + b := by
      rw [Int.add_comm, Int.add_mul_ediv_right _ _ (by omega), Int.ediv_eq_zero_of_lt h1 h2]; omega
    rw [this]
    rcases h.head with e | e <;> subst e <;> omega
theorem inBits_numOf {l : List Int} (h : Bits l) : inBits (numOf l) l.length = l := by
  have := inBits_num h 0
  simpa using this

/-! stuffing -/
def last5 (w : List Int) : List Int := w.drop (w.length - 5)
def due (w : List Int) : Bool := last5 w == [0, 0, 0, 0, 0] || last5 w == [1, 1, 1, 1, 1]
def stuffStep (w : List Int) (b : Int) : List Int := if due (w ++ [b]) = true then w ++ [b] ++ [1 - b] else w ++ [b]
def stuff (l : List Int) : List Int := l.foldl stuffStep []
theorem stuff_snoc (l : List Int) (b : Int) : stuff (l ++ [b]) = stuffStep (stuff l) b := by
  unfold stuff; rw [List.foldl_append]; rfl
/-- how many like ones stand at the end -/
def runR : List Int → Nat
  | [] => 0
  | [_] => 1
  | x :: y :: r => if x = y then runR (y :: r) + 1 else 1
def run (w : List Int) : Nat := runR w.reverse
theorem run_snoc (w : List Int) (b : Int) : run (w ++ [b]) = if w.getLast? = some b then run w + 1 else 1 := by
  unfold run
  rw [List.reverse_append]
  show runR (b :: w.reverse) = _
  rw [← List.head?_reverse]
  cases h : w.reverse with
  | nil => simp [runR]
  | cons y r =>
    by_cases e : b = y
    · subst e
      rw [if_pos (show (b :: r).head? = some b from rfl)]
      simp [runR]
    · rw [if_neg (show ¬ (y :: r).head? = some b from fun h => e (Option.some.inj h).symm)]
      simp [runR, e]
theorem run_pos (w : List Int) (b : Int) : 1 ≤ run (w ++ [b]) := by
  rw [run_snoc]; split <;> omega
theorem runR_ge : ∀ (n : Nat) (r : List Int) (x : Int), n + 1 ≤ runR (x :: r) ↔ ∃ t, r = List.replicate n x ++ t
  | 0, r, x => by
    constructor
    · intro _; exact ⟨r, by simp⟩
    · intro _
      cases r with
      | nil => simp [runR]
      | cons y r => simp only [runR]; split <;> omega
  | n + 1, [], x => by simp [runR, List.replicate_succ]
  | n + 1, y :: r, x => by
    simp only [runR]
    by_cases e : x = y
    · subst e
      rw [if_pos rfl, Nat.succ_le_succ_iff, runR_ge n r x]
      simp [List.replicate_succ]
    · rw [if_neg e]
      constructor
      · intro h; omega
      · rintro ⟨t, h⟩
        rw [List.replicate_succ, List.cons_append] at h
        injection h with h1 _
        exact absurd h1.symm e
theorem last5_rev (w : List Int) : last5 w = (w.reverse.take 5).reverse := by
  unfold last5
  rw [List.take_reverse, List.reverse_reverse]
theorem due_iff {w : List Int} (h : Bits w) : due w = true ↔ 5 ≤ run w := by
  unfold due run
  rw [last5_rev]
  have hb : Bits w.reverse := fun b hb => h b (List.mem_reverse.mp hb)
  generalize w.reverse = r at *
  simp only [Bool.or_eq_true, beq_iff_eq]
  have sym : ∀ x : Int, (r.take 5).reverse = [x, x, x, x, x] ↔ r.take 5 = [x, x, x, x, x] := fun x => by
    constructor
    · intro e; have := congrArg List.reverse e; simpa using this
    · intro e; rw [e]; rfl
  rw [sym, sym]
  cases r with
  | nil => simp [runR]
  | cons x r =>
    rw [runR_ge 4 r x]
    constructor
    · rintro (e | e)
      all_goals
        rw [List.take_succ_cons] at e
        injection e with e1 e2
        subst e1
        refine ⟨r.drop 4, ?_⟩
        have := List.take_append_drop 4 r
        rw [e2] at this
        exact this.symm
    · rintro ⟨t, rfl⟩
      rcases hb.head with e | e <;> subst e
      · exact .inl rfl
      · exact .inr rfl
theorem stuffStep_bits {w : List Int} {b : Int} (h : Bits w) (hb : Bit b) : Bits (stuffStep w b) := by
  have h1 : Bits (w ++ [b]) := h.append (Bits.cons hb Bits.nil)
  unfold stuffStep
  split
  · exact h1.append (Bits.cons (by rcases hb with e | e <;> subst e <;> simp [Bit]) Bits.nil)
  · exact h1
theorem stuff_bits : ∀ {l : List Int}, Bits l → Bits (stuff l) := by
  intro l
  suffices ∀ (l w : List Int), Bits w → Bits l → Bits (l.foldl stuffStep w) from fun h => this l [] Bits.nil h
  intro l
  induction l with
  | nil => intro w h _; exact h
  | cons b l ih => intro w h hl; exact ih _ (stuffStep_bits h hl.head) hl.tail
theorem stuffStep_run {w : List Int} {b : Int} (h : Bits w) (hb : Bit b) (hr : run w ≤ 4) : run (stuffStep w b) ≤ 4 := by
  have h1 : Bits (w ++ [b]) := h.append (Bits.cons hb Bits.nil)
  unfold stuffStep
  split
  · rw [run_snoc, if_neg (by simp; omega)]; decide
  · rename_i hd
    have := mt (due_iff h1).mpr hd
    omega
theorem snoc_cases {α : Type} (l : List α) : l = [] ∨ ∃ m b, l = m ++ [b] := by
  rcases List.eq_nil_or_concat l with h | ⟨m, b, h⟩
  · exact .inl h
  · exact .inr ⟨m, b, by simpa using h⟩
theorem snocRec {α : Type} {P : List α → Prop} (h0 : P []) (h1 : ∀ l b, P l → P (l ++ [b])) : ∀ l, P l := by
  intro l
  have : ∀ n (l : List α), l.length = n → P l := by
    intro n
    induction n with
    | zero => intro l e; rw [List.length_eq_zero_iff.mp e]; exact h0
    | succ n ih =>
      intro l e
      rcases snoc_cases l with rfl | ⟨m, b, rfl⟩
      · simp at e
      · exact h1 m b (ih m (by simpa using e))
  exact this _ l rfl
theorem Bits.left {l m : List Int} (h : Bits (l ++ m)) : Bits l := fun b hb => h b (List.mem_append_left _ hb)
theorem Bits.right {l m : List Int} (h : Bits (l ++ m)) : Bits m := fun b hb => h b (List.mem_append_right _ hb)
theorem stuff_run : ∀ {l : List Int}, Bits l → run (stuff l) ≤ 4 := by
  intro l
  refine snocRec (P := fun l => Bits l → run (stuff l) ≤ 4) (fun _ => by decide) (fun l b ih h => ?_) l
  rw [stuff_snoc]
  exact stuffStep_run (stuff_bits h.left) h.right.head (ih h.left)

/-! the law's own stuffing: the same where no run is longer than five -/
def lawDue (w : List Int) : Prop := 4 < w.length ∧ (∃ x, last5 w = [x, x, x, x, x]) ∧ run w % 5 = 0
theorem lawDue_iff {w : List Int} (h : Bits w) (hr : run w ≤ 5) (h1 : 1 ≤ run w) : lawDue w ↔ due w = true := by
  constructor
  · rintro ⟨_, _, h3⟩
    rw [due_iff h]; omega
  · intro hd
    have h5 := (due_iff h).mp hd
    have hl : 4 < w.length := by
      unfold due at hd
      simp only [Bool.or_eq_true, beq_iff_eq] at hd
      have : (last5 w).length = 5 := by rcases hd with e | e <;> rw [e] <;> rfl
      unfold last5 at this
      rw [List.length_drop] at this
      omega
    refine ⟨hl, ?_, by omega⟩
    unfold due at hd
    simp only [Bool.or_eq_true, beq_iff_eq] at hd
    rcases hd with e | e
    · exact ⟨_, e⟩
    · exact ⟨_, e⟩
theorem lawDue_step {w : List Int} {b : Int} (h : Bits w) (hb : Bit b) (hr : run w ≤ 4) : lawDue (w ++ [b]) ↔ due (w ++ [b]) = true := by
  refine lawDue_iff (h.append (Bits.cons hb Bits.nil)) ?_ (run_pos w b)
  rw [run_snoc]; split <;> omega

/-! no six like ones side by side -/
def NoSix (w : List Int) : Prop := ∀ k x, k + 6 ≤ w.length → (w.drop k).take 6 ≠ [x, x, x, x, x, x]
theorem stuff_len : ∀ (l : List Int), (stuff l).length ≤ 2 * l.length := by
  intro l
  refine snocRec (P := fun l => (stuff l).length ≤ 2 * l.length) (by simp [stuff]) (fun l b ih => ?_) l
  rw [stuff_snoc]
  unfold stuffStep
  split <;> simp <;> omega
end BB

namespace BB
/-! frames -/
def rowBits (row : List Int) : List Int := row.flatMap fun b => inBits b 8
def body (name : Int) (row : List Int) : List Int := [0] ++ inBits name 11 ++ inBits (row.length : Int) 4 ++ rowBits row
def bitsOf (name : Int) (row : List Int) : List Int := body name row ++ chk (body name row)
def Good (name : Int) (row : List Int) : Prop := (0 ≤ name ∧ name ≤ 2047) ∧ row.length ≤ 8 ∧ ∀ b ∈ row, 0 ≤ b ∧ b ≤ 255
theorem rowBits_len : ∀ row : List Int, (rowBits row).length = 8 * row.length
  | [] => rfl
  | b :: r => by
    show (inBits b 8 ++ rowBits r).length = _
    rw [List.length_append, inBits_len, rowBits_len r, List.length_cons]; omega
theorem rowBits_bits : ∀ row : List Int, Bits (rowBits row)
  | [] => Bits.nil
  | b :: r => (inBits_bits b 8).append (rowBits_bits r)
theorem body_bits (name : Int) (row : List Int) : Bits (body name row) :=
  (((Bits.cons (.inl rfl) Bits.nil).append (inBits_bits _ _)).append (inBits_bits _ _)).append (rowBits_bits _)
theorem body_len (name : Int) (row : List Int) : (body name row).length = 16 + 8 * row.length := by
  unfold body; simp [inBits_len, rowBits_len]; omega
theorem bitsOf_bits (name : Int) (row : List Int) : Bits (bitsOf name row) := (body_bits name row).append (chk_bits _)
theorem bitsOf_len (name : Int) (row : List Int) : (bitsOf name row).length = 31 + 8 * row.length := by
  unfold bitsOf; rw [List.length_append, body_len, chk_len]; omega
/-- how many bytes the bits tell, as far as they stand there -/
def cnt (p : List Int) : Int := 8 * p.getD 12 0 + 4 * p.getD 13 0 + 2 * p.getD 14 0 + p.getD 15 0
def ckAt (p : List Int) : Nat := (16 + 8 * cnt p).toNat
structure Fits (p : List Int) : Prop where
  h0 : p.getD 0 0 = 0
  h8 : cnt p ≤ 8
  ck : ckAt p < p.length → p.drop (ckAt p) = (chk (p.take (ckAt p))).take (p.length - ckAt p)
theorem getD_bit {p : List Int} (h : Bits p) (i : Nat) : Bit (p.getD i 0) := by
  rw [List.getD_eq_getElem?_getD]
  cases e : p[i]? with
  | none => exact .inl rfl
  | some x => exact h x (List.mem_of_getElem? e)
theorem cnt_nn {p : List Int} (h : Bits p) : 0 ≤ cnt p := by
  unfold cnt
  rcases getD_bit h 12 with a | a <;> rcases getD_bit h 13 with b | b <;> rcases getD_bit h 14 with c | c <;> rcases getD_bit h 15 with d | d <;> omega
theorem Fits.len {p : List Int} (f : Fits p) : p.length ≤ ckAt p + 15 := by
  by_cases h : ckAt p < p.length
  · have := congrArg List.length (f.ck h)
    rw [List.length_drop, List.length_take, chk_len] at this
    omega
  · omega
def headCh (p : List Int) : List Int := if p.length = 0 then [0] else if 12 < p.length ∧ p.getD 12 0 = 1 then [0] else [0, 1]
def plainCh (p : List Int) : List Int :=
  if p.length < 16 then headCh p else if p.length < ckAt p then [0, 1] else if p.length = ckAt p + 15 then []
  else [(chk (p.take (ckAt p))).getD (p.length - ckAt p) 0]
theorem num4 {p : List Int} (h : 16 ≤ p.length) : numOf ((p.drop 12).take 4) = cnt p := by
  have e : (p.drop 12).take 4 = [p.getD 12 0, p.getD 13 0, p.getD 14 0, p.getD 15 0] := by
    match p, h with
    | _ :: _ :: _ :: _ :: _ :: _ :: _ :: _ :: _ :: _ :: _ :: _ :: a :: b :: c :: d :: r, _ => rfl
  rw [e]
  unfold cnt numOf
  simp only [List.foldl_cons, List.foldl_nil]
  omega
theorem getD_snoc_lt {p : List Int} {b : Int} {i : Nat} (h : i < p.length) : (p ++ [b]).getD i 0 = p.getD i 0 := by
  simp [List.getD_eq_getElem?_getD, List.getElem?_append_left h]
theorem getD_snoc_at {p : List Int} {b : Int} : (p ++ [b]).getD p.length 0 = b := by
  simp [List.getD_eq_getElem?_getD]
theorem getD_out {p : List Int} {i : Nat} (h : p.length ≤ i) : p.getD i 0 = 0 := by
  simp [List.getD_eq_getElem?_getD, List.getElem?_eq_none h]
theorem cnt_snoc {p : List Int} {b : Int} (h : 16 ≤ p.length) : cnt (p ++ [b]) = cnt p := by
  unfold cnt
  rw [getD_snoc_lt (by omega), getD_snoc_lt (by omega), getD_snoc_lt (by omega), getD_snoc_lt (by omega)]
theorem at_snoc {p : List Int} {b : Int} (h : 16 ≤ p.length) : ckAt (p ++ [b]) = ckAt p := by
  unfold ckAt; rw [cnt_snoc h]
theorem at_ge {p : List Int} (h : Bits p) : 16 ≤ ckAt p := by
  have := cnt_nn h
  unfold ckAt; omega
/-- a bit may stand behind the plain ones just if they fit with it -/
theorem plain_iff {p : List Int} {b : Int} (hp : Bits p) (hb : Bit b) (f : Fits p) (hend : ¬ (16 ≤ p.length ∧ p.length = ckAt p + 15)) :
    b ∈ plainCh p ↔ Fits (p ++ [b]) := by
  have hq : Bits (p ++ [b]) := hp.append (Bits.cons hb Bits.nil)
  have hbm : b ∈ ([0, 1] : List Int) := by rcases hb with e | e <;> subst e <;> simp
  unfold plainCh
  by_cases h16 : p.length < 16
  · rw [if_pos h16]
    have noCk : ∀ (h8 : cnt (p ++ [b]) ≤ 8), (ckAt (p ++ [b]) < (p ++ [b]).length → (p ++ [b]).drop (ckAt (p ++ [b])) = (chk ((p ++ [b]).take (ckAt (p ++ [b])))).take ((p ++ [b]).length - ckAt (p ++ [b]))) := fun _ hlt => by
      have := at_ge hq
      rw [List.length_append, List.length_singleton] at hlt
      omega
    unfold headCh
    by_cases h0 : p.length = 0
    · rw [if_pos h0]
      have e : p = [] := List.length_eq_zero_iff.mp h0
      subst e
      constructor
      · intro h
        have : b = 0 := by simpa using h
        subst this
        exact ⟨rfl, by decide, noCk (by decide)⟩
      · intro g
        have := g.h0
        simpa using this
    · rw [if_neg h0]
      have g0 : (p ++ [b]).getD 0 0 = 0 := by rw [getD_snoc_lt (by omega)]; exact f.h0
      have f8 := f.h8
      by_cases hc : 12 < p.length ∧ p.getD 12 0 = 1
      · rw [if_pos hc]
        obtain ⟨h12, h1⟩ := hc
        have c12 : (p ++ [b]).getD 12 0 = 1 := by rw [getD_snoc_lt (by omega)]; exact h1
        have cn : cnt (p ++ [b]) ≤ 8 ↔ b = 0 := by
          unfold cnt at f8 ⊢
          rw [c12]
          rw [h1] at f8
          have b13 := getD_bit hp 13
          have b14 := getD_bit hp 14
          have b15 := getD_bit hp 15
          have z13 : p.getD 13 0 = 0 := by rcases b13 with e | e <;> rcases b14 with e' | e' <;> rcases b15 with e'' | e'' <;> omega
          have z14 : p.getD 14 0 = 0 := by rcases b14 with e' | e' <;> rcases b15 with e'' | e'' <;> omega
          have hl : p.length = 13 ∨ p.length = 14 ∨ p.length = 15 := by omega
          rcases hl with hl | hl | hl
          · have e13 : (p ++ [b]).getD 13 0 = b := by rw [← hl]; exact getD_snoc_at
            rw [e13, getD_out (by simp; omega), getD_out (by simp; omega)]
            rcases hb with e | e <;> subst e <;> simp
          · have e14 : (p ++ [b]).getD 14 0 = b := by rw [← hl]; exact getD_snoc_at
            rw [e14, getD_snoc_lt (by omega), z13, getD_out (by simp; omega)]
            rcases hb with e | e <;> subst e <;> simp
          · have e15 : (p ++ [b]).getD 15 0 = b := by rw [← hl]; exact getD_snoc_at
            rw [e15, getD_snoc_lt (by omega), z13, getD_snoc_lt (by omega), z14]
            rcases hb with e | e <;> subst e <;> simp
        constructor
        · intro h
          have : b = 0 := by simpa using h
          have h8 := cn.mpr this
          exact ⟨g0, h8, noCk h8⟩
        · intro g
          have := cn.mp g.h8
          simp [this]
      · rw [if_neg hc]
        refine ⟨fun _ => ?_, fun _ => hbm⟩
        have h8 : cnt (p ++ [b]) ≤ 8 := by
          unfold cnt
          by_cases h12 : 12 < p.length
          · have z : p.getD 12 0 = 0 := by
              rcases getD_bit hp 12 with e | e
              · exact e
              · exact absurd ⟨h12, e⟩ hc
            rw [getD_snoc_lt h12, z]
            rcases getD_bit hq 13 with e | e <;> rcases getD_bit hq 14 with e' | e' <;> rcases getD_bit hq 15 with e'' | e'' <;> omega
          · rw [getD_out (i := 13) (by simp; omega), getD_out (i := 14) (by simp; omega), getD_out (i := 15) (by simp; omega)]
            rcases getD_bit hq 12 with e | e <;> omega
        exact ⟨g0, h8, noCk h8⟩
  · rw [if_neg h16]
    have hge : 16 ≤ p.length := by omega
    have ea := at_snoc (b := b) hge
    have g0 : (p ++ [b]).getD 0 0 = 0 := by rw [getD_snoc_lt (by omega)]; exact f.h0
    have g8 : cnt (p ++ [b]) ≤ 8 := by rw [cnt_snoc hge]; exact f.h8
    by_cases hlt : p.length < ckAt p
    · rw [if_pos hlt]
      refine ⟨fun _ => ⟨g0, g8, fun h => ?_⟩, fun _ => hbm⟩
      rw [ea, List.length_append, List.length_singleton] at h
      omega
    · rw [if_neg hlt, if_neg (fun e => hend ⟨hge, e⟩)]
      have hl := f.len
      have hl' : p.length < ckAt p + 15 := by
        rcases Nat.lt_or_ge p.length (ckAt p + 15) with h | h
        · exact h
        · exact absurd ⟨hge, by omega⟩ hend
      have et : (p ++ [b]).take (ckAt p) = p.take (ckAt p) := List.take_append_of_le_length (by omega)
      have ed : (p ++ [b]).drop (ckAt p) = p.drop (ckAt p) ++ [b] := List.drop_append_of_le_length (by omega)
      have ck : p.drop (ckAt p) = (chk (p.take (ckAt p))).take (p.length - ckAt p) := by
        by_cases h : ckAt p < p.length
        · exact f.ck h
        · have : p.length = ckAt p := by omega
          rw [List.drop_of_length_le (by omega), this]; simp
      have hi : p.length - ckAt p < (chk (p.take (ckAt p))).length := by rw [chk_len]; omega
      have key : (chk (p.take (ckAt p))).take (p.length + 1 - ckAt p) = p.drop (ckAt p) ++ [(chk (p.take (ckAt p))).getD (p.length - ckAt p) 0] := by
        rw [show p.length + 1 - ckAt p = (p.length - ckAt p) + 1 by omega, List.take_succ_eq_append_getElem hi, ← ck]
        simp [List.getD_eq_getElem?_getD, List.getElem?_eq_getElem hi]
      constructor
      · intro h
        have e : b = (chk (p.take (ckAt p))).getD (p.length - ckAt p) 0 := by simpa using h
        refine ⟨g0, g8, fun _ => ?_⟩
        rw [ea, et, ed, List.length_append, List.length_singleton, key, ← e]
      · intro g
        have h1 := g.ck (by rw [ea, List.length_append, List.length_singleton]; omega)
        rw [ea, et, ed, List.length_append, List.length_singleton, key] at h1
        have h2 := List.append_cancel_left h1
        exact List.mem_singleton.mpr (List.head_eq_of_cons_eq h2)
theorem plain_end {p : List Int} (hp : Bits p) : plainCh p = [] ↔ 16 ≤ p.length ∧ p.length = ckAt p + 15 := by
  have := at_ge hp
  unfold plainCh headCh
  constructor
  · intro h
    by_cases h16 : p.length < 16
    · rw [if_pos h16] at h
      split at h
      · cases h
      · split at h <;> cases h
    · rw [if_neg h16] at h
      split at h
      · cases h
      · split at h
        · exact ⟨by omega, by assumption⟩
        · cases h
  · rintro ⟨h1, h2⟩
    rw [if_neg (by omega), if_neg (by omega), if_pos h2]

/-! reading -/
def choices (w p : List Int) : List Int := if due w = true then [1 - w.getLastD 0] else plainCh p
def lpStep (s : List Int × Int × Int) (b : Int) : List Int × Int × Int :=
  if s.2.1 = 5 then (s.1, 1, b) else (s.1 ++ [b], if s.2.2 = b then s.2.1 + 1 else 1, b)
def LP (w : List Int) : List Int × Int × Int := w.foldl lpStep ([], 0, 2)
theorem LP_snoc (w : List Int) (b : Int) : LP (w ++ [b]) = lpStep (LP w) b := by
  unfold LP; rw [List.foldl_append]; rfl
structure Rd (w p : List Int) : Prop where
  bw : Bits w
  bp : Bits p
  st : stuff p = if due w = true then w ++ [1 - w.getLastD 0] else w
  fit : Fits p
  lp : LP w = (p, (run w : Int), w.getLastD 2)
  r5 : run w ≤ 5
theorem fits_nil : Fits [] := ⟨rfl, by decide, fun h => by simp at h⟩
theorem rd_start : Rd [] [] := ⟨Bits.nil, Bits.nil, rfl, fits_nil, rfl, by decide⟩
theorem getLastD_snoc {w : List Int} {b d : Int} : (w ++ [b]).getLastD d = b := by simp
theorem Rd.d5 {w p : List Int} (r : Rd w p) : due w = true ↔ run w = 5 := by
  rw [due_iff r.bw]; have := r.r5; omega
theorem last_iff {w : List Int} {b : Int} (hb : Bit b) : w.getLastD 2 = b ↔ w.getLast? = some b := by
  rcases snoc_cases w with rfl | ⟨m, c, rfl⟩
  · simp; rcases hb with e | e <;> subst e <;> decide
  · simp
/-- the next state of the reading -/
def nextP (w p : List Int) (b : Int) : List Int := if due w = true then p else p ++ [b]
theorem Rd.fin {w p : List Int} (r : Rd w p) : choices w p = [] ↔ due w = false ∧ 16 ≤ p.length ∧ p.length = ckAt p + 15 := by
  unfold choices
  cases e : due w with
  | true => simp
  | false => simp [plain_end r.bp]
theorem Rd.next {w p : List Int} {b : Int} (r : Rd w p) (hb : Bit b) (hc : b ∈ choices w p) : Rd (w ++ [b]) (nextP w p b) := by
  have hw : Bits (w ++ [b]) := r.bw.append (Bits.cons hb Bits.nil)
  unfold choices at hc
  unfold nextP
  cases e : due w with
  | true =>
    rw [e] at hc
    simp only [if_true] at hc ⊢
    have hne : w ≠ [] := by rintro rfl; cases e
    obtain ⟨m, c, rfl⟩ : ∃ m c, w = m ++ [c] := (snoc_cases w).resolve_left hne
    have hbc : b = 1 - c := by simpa using hc
    have h5 := r.d5.mp e
    have hrun : run (m ++ [c] ++ [b]) = 1 := by
      rw [run_snoc, if_neg (by simp; omega)]
    have nd : due (m ++ [c] ++ [b]) = false := by
      cases z : due (m ++ [c] ++ [b]) with
      | false => rfl
      | true => have := (due_iff hw).mp z; omega
    refine ⟨hw, r.bp, ?_, r.fit, ?_, by omega⟩
    · rw [nd, r.st, e, hbc]; simp
    · rw [LP_snoc, r.lp, h5, hrun]
      simp [lpStep]
  | false =>
    rw [e] at hc
    simp only [Bool.false_eq_true, if_false] at hc ⊢
    have hne : ¬ (16 ≤ p.length ∧ p.length = ckAt p + 15) := fun z => by
      rw [(plain_end r.bp).mpr z] at hc; cases hc
    have h5 : run w ≠ 5 := fun z => by rw [r.d5.mpr z] at e; cases e
    have hr := r.r5
    refine ⟨hw, r.bp.append (Bits.cons hb Bits.nil), ?_, (plain_iff r.bp hb r.fit hne).mp hc, ?_, ?_⟩
    · rw [stuff_snoc, r.st, e]
      simp only [Bool.false_eq_true, if_false]
      unfold stuffStep
      split <;> simp
    · rw [LP_snoc, r.lp, run_snoc]
      unfold lpStep
      simp only
      rw [if_neg (by omega), getLastD_snoc]
      by_cases hl : w.getLast? = some b
      · rw [if_pos hl, if_pos ((last_iff hb).mpr hl)]; simp
      · rw [if_neg hl, if_neg (fun z => hl ((last_iff hb).mp z))]; simp
    · rw [run_snoc]; split <;> omega
/-- the law's own look -/
def Ends (w : List Int) : Prop := ¬ ((LP w).1.length < 31 ∨ (LP w).2.1 = 5) ∧ ((LP w).1.length : Int) = 31 + 8 * cnt (LP w).1
def GoesOn (w : List Int) (b : Int) : Prop := ¬ (w ≠ [] ∧ (Ends w ∨ ((LP w).2.1 = 5 ∧ b = w.getLastD 0))) ∧ Fits (LP (w ++ [b])).1
theorem Rd.ends {w p : List Int} (r : Rd w p) : (w ≠ [] ∧ Ends w) ↔ choices w p = [] := by
  rw [r.fin]
  unfold Ends
  rw [r.lp]
  have h0 := cnt_nn r.bp
  have ha : (ckAt p : Int) = 16 + 8 * cnt p := by unfold ckAt; omega
  constructor
  · rintro ⟨_, h1, h2⟩
    have hd : due w = false := by
      cases e : due w with
      | false => rfl
      | true => exact absurd (.inr (by simp [r.d5.mp e])) h1
    have h2' : (p.length : Int) = 31 + 8 * cnt p := h2
    exact ⟨hd, by omega, by omega⟩
  · rintro ⟨hd, h1, h2⟩
    refine ⟨?_, ?_, ?_⟩
    · rintro rfl
      have := congrArg Prod.fst r.lp
      have e : p = [] := this.symm
      subst e
      simp at h1
    · rintro (h | h)
      · have h' : p.length < 31 := h
        omega
      · have h' : (run w : Int) = 5 := h
        have := r.d5.mpr (by omega)
        rw [hd] at this; cases this
    · show (p.length : Int) = 31 + 8 * cnt p
      omega
theorem Rd.goes {w p : List Int} {b : Int} (r : Rd w p) (hb : Bit b) : GoesOn w b ↔ b ∈ choices w p := by
  have hend := r.ends
  have hfin := r.fin
  unfold GoesOn
  rw [LP_snoc, r.lp]
  cases e : due w with
  | true =>
    have h5 := r.d5.mp e
    have hne : w ≠ [] := by rintro rfl; cases e
    obtain ⟨m, c, rfl⟩ : ∃ m c, w = m ++ [c] := (snoc_cases w).resolve_left hne
    have hc : Bit c := r.bw c (by simp)
    have nE : ¬ Ends (m ++ [c]) := fun z => by
      have := hfin.mp (hend.mp ⟨hne, z⟩)
      rw [e] at this; cases this.1
    unfold choices
    rw [e]
    simp only [if_true, getLastD_snoc, List.mem_singleton]
    have hf : Fits (lpStep (p, (run (m ++ [c]) : Int), c) b).1 := by
      rw [h5]; simp [lpStep]; exact r.fit
    constructor
    · rintro ⟨h, _⟩
      have hbc : b ≠ c := fun z => h ⟨hne, .inr ⟨by simp [h5], z⟩⟩
      rcases hb with eb | eb <;> rcases hc with ec | ec <;> omega
    · intro h
      refine ⟨?_, hf⟩
      rintro ⟨_, h' | h'⟩
      · exact nE h'
      · omega
  | false =>
    have h5 : run w ≠ 5 := fun z => by rw [r.d5.mpr z] at e; cases e
    unfold choices
    rw [e]
    simp only [Bool.false_eq_true, if_false]
    have hf : (lpStep (p, (run w : Int), w.getLastD 2) b).1 = p ++ [b] := by
      unfold lpStep; simp only; rw [if_neg (by omega)]
    rw [hf]
    by_cases hx : 16 ≤ p.length ∧ p.length = ckAt p + 15
    · have hch : choices w p = [] := hfin.mpr ⟨e, hx⟩
      have := hend.mpr hch
      rw [(plain_end r.bp).mpr hx]
      constructor
      · rintro ⟨h, _⟩
        exact absurd ⟨this.1, .inl this.2⟩ h
      · intro h; cases h
    · rw [plain_iff r.bp hb r.fit hx]
      constructor
      · rintro ⟨_, h⟩; exact h
      · intro h
        refine ⟨?_, h⟩
        rintro ⟨hw, h' | h'⟩
        · have := hfin.mp (hend.mp ⟨hw, h'⟩)
          exact hx this.2
        · have : (run w : Int) = 5 := h'.1
          omega

/-! what a whole frame is read to -/
def nameOf (p : List Int) : Int := numOf ((p.drop 1).take 11)
def rowOf (p : List Int) : List Int := (List.range (cnt p).toNat).map fun j => numOf ((p.drop (16 + 8 * j)).take 8)
theorem rowBits_of : ∀ (n : Nat) (l : List Int), Bits l → l.length = 8 * n → rowBits ((List.range n).map fun j => numOf ((l.drop (8 * j)).take 8)) = l
  | 0, l, _, h => by
    have : l = [] := List.length_eq_zero_iff.mp (by omega)
    subst this; rfl
  | n + 1, l, hb, h => by
    rw [List.range_succ_eq_map, List.map_cons, List.map_map]
    show inBits (numOf ((l.drop (8 * 0)).take 8)) 8 ++ rowBits _ = l
    have e1 : inBits (numOf (l.take 8)) 8 = l.take 8 := by
      have := inBits_numOf (hb.take 8)
      rwa [List.length_take, show min 8 l.length = 8 by omega] at this
    have e2 := rowBits_of n (l.drop 8) (hb.drop 8) (by simp; omega)
    have e3 : ((fun j => numOf ((l.drop (8 * j)).take 8)) ∘ Nat.succ) = fun j => numOf (((l.drop 8).drop (8 * j)).take 8) := by
      funext j
      show numOf ((l.drop (8 * (j + 1))).take 8) = _
      rw [List.drop_drop, show 8 + 8 * j = 8 * (j + 1) by omega]
    rw [Nat.mul_zero, List.drop_zero, e1, e3, e2, List.take_append_drop]
theorem split_at {α : Type} (l : List α) (a b : Nat) (h : a ≤ b) : l.take b = l.take a ++ (l.drop a).take (b - a) := by
  have := List.take_add (l := l) (i := a) (j := b - a)
  rwa [show a + (b - a) = b by omega] at this
theorem bits_parts {p : List Int} (hp : Bits p) (f : Fits p) (h16 : 16 ≤ p.length) (hl : p.length = ckAt p + 15) :
    bitsOf (nameOf p) (rowOf p) = p ∧ Good (nameOf p) (rowOf p) := by
  have c0 := cnt_nn hp
  have c8 := f.h8
  have ha : ckAt p = 16 + 8 * (cnt p).toNat := by unfold ckAt; omega
  have hrl : (rowOf p).length = (cnt p).toNat := by unfold rowOf; simp
  have e0 : p.take 1 = [0] := by
    match p, h16, f.h0 with
    | a :: r, _, h => 
      have : a = 0 := h
      subst this; rfl
  have e1 : inBits (nameOf p) 11 = (p.drop 1).take 11 := by
    have := inBits_numOf ((hp.drop 1).take 11)
    rwa [List.length_take, List.length_drop, show min 11 (p.length - 1) = 11 by omega] at this
  have e2 : inBits ((rowOf p).length : Int) 4 = (p.drop 12).take 4 := by
    have := inBits_numOf ((hp.drop 12).take 4)
    rw [List.length_take, List.length_drop, show min 4 (p.length - 12) = 4 by omega, num4 h16] at this
    rw [hrl, ← this]
    congr 1; omega
  have e3 : rowBits (rowOf p) = (p.drop 16).take (ckAt p - 16) := by
    have h3 := rowBits_of (cnt p).toNat ((p.drop 16).take (ckAt p - 16)) ((hp.drop 16).take _) (by simp; omega)
    rw [← h3]
    congr 1
    unfold rowOf
    apply List.map_congr_left
    intro j hj
    have hj' : j < (cnt p).toNat := List.mem_range.mp hj
    congr 1
    rw [List.drop_take, List.drop_drop, List.take_take, show min 8 (ckAt p - 16 - 8 * j) = 8 by omega]
  have eb : body (nameOf p) (rowOf p) = p.take (ckAt p) := by
    unfold body
    rw [e1, e2, e3, ← e0]
    rw [split_at p 16 (ckAt p) (by omega), split_at p 12 16 (by omega), split_at p 1 12 (by omega)]
  refine ⟨?_, ?_, by omega, ?_⟩
  · unfold bitsOf
    rw [eb]
    have := f.ck (by omega)
    rw [List.take_of_length_le (by rw [chk_len]; omega)] at this
    rw [← this, List.take_append_drop]
  · have := numOf_nn ((hp.drop 1).take 11)
    rw [List.length_take, List.length_drop, show min 11 (p.length - 1) = 11 by omega] at this
    unfold nameOf
    omega
  · intro b hb
    unfold rowOf at hb
    obtain ⟨j, hj, rfl⟩ := List.mem_map.mp hb
    have hj' : j < (cnt p).toNat := List.mem_range.mp hj
    have := numOf_nn ((hp.drop (16 + 8 * j)).take 8)
    rw [List.length_take, List.length_drop, show min 8 (p.length - (16 + 8 * j)) = 8 by omega] at this
    omega
theorem Rd.done {w p : List Int} (r : Rd w p) (h : choices w p = []) : stuff (bitsOf (nameOf p) (rowOf p)) = w ∧ Good (nameOf p) (rowOf p) := by
  obtain ⟨hd, h1, h2⟩ := r.fin.mp h
  obtain ⟨e, g⟩ := bits_parts r.bp r.fit h1 h2
  refine ⟨?_, g⟩
  rw [e, r.st, hd]; rfl

/-! the bits of a frame are read to it -/
theorem getD_append_left' {l m : List Int} {i : Nat} (h : i < l.length) : (l ++ m).getD i 0 = l.getD i 0 := by
  simp [List.getD_eq_getElem?_getD, List.getElem?_append_left h]
/-- a whole way of the reading: every bit of more may stand there -/
inductive Way : List Int → List Int → List Int → List Int → Prop
  | nil (w p : List Int) : Way w p [] p
  | cons {w p r q : List Int} {b : Int} : b ∈ choices w p → Way (w ++ [b]) (nextP w p b) r q → Way w p (b :: r) q
end BB

namespace BB
/-! the law's look at each bit: where the bits are wrong -/
def Placed (w : List Int) (r : Int) : Prop :=
  (∃ (k : Nat) (b : Int), w[k]? = some b ∧ (∀ j c, j < k → w[j]? = some c → GoesOn (w.take j) c) ∧ ¬ GoesOn (w.take k) b ∧ r = k) ∨
  ((∀ j c, w[j]? = some c → GoesOn (w.take j) c) ∧ ((w ≠ [] ∧ Ends w ∧ r = -1) ∨ (¬ (w ≠ [] ∧ Ends w) ∧ r = w.length)))
theorem Placed.one {w : List Int} {r r' : Int} (h : Placed w r) (h' : Placed w r') : r = r' := by
  rcases h with ⟨k, b, e, a, n, rfl⟩ | ⟨a, h⟩
  · rcases h' with ⟨k', b', e', a', n', rfl⟩ | ⟨a', _⟩
    · have : k = k' := by
        rcases Nat.lt_trichotomy k k' with z | z | z
        · exact absurd (a' k b z e) n
        · exact z
        · exact absurd (a k' b' z e') n'
      rw [this]
    · exact absurd (a' k b e) n
  · rcases h' with ⟨k', b', e', a', n', rfl⟩ | ⟨a', h'⟩
    · exact absurd (a k' b' e') n'
    · rcases h with ⟨h1, h2, rfl⟩ | ⟨h1, rfl⟩ <;> rcases h' with ⟨h1', h2', rfl⟩ | ⟨h1', rfl⟩
      · rfl
      · exact absurd ⟨h1, h2⟩ h1'
      · exact absurd ⟨h1', h2'⟩ h1
      · rfl
theorem LP_last (w : List Int) : (LP w).2.2 = w.getLastD 2 := by
  rcases snoc_cases w with rfl | ⟨m, b, rfl⟩
  · rfl
  · rw [LP_snoc, getLastD_snoc]
    unfold lpStep
    split <;> rfl
theorem lp_bits : ∀ (l : List Int) (s : List Int × Int × Int), Bits s.1 → Bits l → Bits (l.foldl lpStep s).1
  | [], _, h, _ => h
  | b :: l, s, h, hl => by
    rw [List.foldl_cons]
    refine lp_bits l _ ?_ hl.tail
    unfold lpStep
    split
    · exact h
    · exact h.append (Bits.cons hl.head Bits.nil)
theorem LP_bits {w : List Int} (h : Bits w) : Bits (LP w).1 := lp_bits w _ Bits.nil h
theorem lp_ne : ∀ (l : List Int) (s : List Int × Int × Int), s.1 ≠ [] → (l.foldl lpStep s).1 ≠ []
  | [], _, h => h
  | b :: l, s, h => by
    rw [List.foldl_cons]
    refine lp_ne l _ ?_
    unfold lpStep
    split
    · exact h
    · simp
theorem LP_ne {w : List Int} (h : w ≠ []) : (LP w).1 ≠ [] := by
  cases w with
  | nil => exact absurd rfl h
  | cons b l => exact lp_ne l _ (by unfold lpStep; rw [if_neg (by decide)]; simp)
theorem lp_len : ∀ (l : List Int) (s : List Int × Int × Int), (l.foldl lpStep s).1.length ≤ s.1.length + l.length
  | [], _ => Nat.le_refl _
  | b :: l, s => by
    rw [List.foldl_cons]
    have h := lp_len l (lpStep s b)
    have h2 : (lpStep s b).1.length ≤ s.1.length + 1 := by
      unfold lpStep
      split
      · exact Nat.le_succ _
      · simp
    rw [List.length_cons]
    omega
theorem LP_len (w : List Int) : (LP w).1.length ≤ w.length := by
  have := lp_len w ([], 0, 2)
  simpa [LP] using this
/-- is the bit before alike, as the law asks it -/
theorem lp_alike {w : List Int} {i : Nat} {b : Int} (hw : Bits w) (h : w[i]? = some b) : (LP (w.take i)).2.2 = b ↔ (0 < i ∧ w.getD (i - 1) 0 = b) := by
  rw [LP_last]
  have hb : Bit b := hw b (List.mem_of_getElem? h)
  have hi : i < w.length := (List.getElem?_eq_some_iff.mp h).1
  cases i with
  | zero =>
    constructor
    · intro z
      have z : (2 : Int) = b := z
      rcases hb with e | e <;> omega
    · rintro ⟨z, _⟩
      exact absurd z (by omega)
  | succ n =>
    rw [List.take_succ_eq_append_getElem (by omega), getLastD_snoc]
    have e : w.getD (n + 1 - 1) 0 = w[n] := by
      rw [List.getD_eq_getElem?_getD, List.getElem?_eq_getElem (by omega)]
      rfl
    rw [e]
    exact ⟨fun z => ⟨by omega, z⟩, fun z => z.2⟩
theorem fits_iff {p : List Int} (hp : Bits p) : Fits p ↔ (p.getD 0 0 = 0 ∧ cnt p ≤ 8 ∧ ((p.length : Int) ≤ 16 + 8 * cnt p ∨ p.drop (ckAt p) = (chk (p.take (ckAt p))).take (p.length - ckAt p))) := by
  have h0 := cnt_nn hp
  have ha : (ckAt p : Int) = 16 + 8 * cnt p := by unfold ckAt; omega
  constructor
  · intro f
    refine ⟨f.h0, f.h8, ?_⟩
    by_cases h : ckAt p < p.length
    · exact .inr (f.ck h)
    · exact .inl (by omega)
  · rintro ⟨h1, h2, h3⟩
    refine ⟨h1, h2, fun h => ?_⟩
    rcases h3 with z | z
    · omega
    · exact z
def cntTo (p : List Int) (i : Nat) : Int := (List.range i).foldl (fun a j => 2 * a + p.getD (12 + j) 0) 0
theorem cntTo_succ (p : List Int) (i : Nat) : cntTo p (i + 1) = 2 * cntTo p i + p.getD (12 + i) 0 := by
  unfold cntTo
  rw [List.range_succ, List.foldl_append]
  rfl
theorem cntTo_all (p : List Int) : cntTo p 4 = cnt p := by
  rw [cntTo_succ, cntTo_succ, cntTo_succ, cntTo_succ]
  show 2 * (2 * (2 * (2 * 0 + p.getD 12 0) + p.getD 13 0) + p.getD 14 0) + p.getD 15 0 = _
  unfold cnt
  omega
end BB

set_option maxHeartbeats 4000000
set_option maxRecDepth 100000
namespace BB
open PySem L2
/-! the text by places; what the program's top has -/
def top (i : Nat) : Stmt := PySem.Challenge.pw_bitbus_k03_bad_bits.main.body.getD i (.Pass ⟨0, 0, 0, 0⟩)
/-- the classes -/
structure Cs where
  E : Addr
  F : Addr
  N : Addr
  B : Addr
  R : Addr
  D : Addr
  U : Addr
structure Txt (K : PySem.W.Frag) (mg : Str → Option Value) (c : Cs) : Prop where
  range : mg "range" = none
  len : mg "len" = none
  isI : mg "isinstance" = none
  int : mg "int" = none
  bool : mg "bool" = none
  list : mg "list" = none
  tuple : mg "tuple" = none
  set : mg "set" = none
  valueError : mg "ValueError" = none
  c_BYTE_BITS : ∃ t, mg "BYTE_BITS" = some (.int 8 t)
  c_CHECK_BITS : ∃ t, mg "CHECK_BITS" = some (.int 15 t)
  c_CHECK_TURNS : ∃ t, mg "CHECK_TURNS" = some (.int 17817 t)
  c_CHECK_HIGHEST : ∃ t, mg "CHECK_HIGHEST" = some (.int 32767 t)
  c_MOST_LIKE_BITS : ∃ t, mg "MOST_LIKE_BITS" = some (.int 5 t)
  c_NAME_AT : ∃ t, mg "NAME_AT" = some (.int 1 t)
  c_COUNT_AT : ∃ t, mg "COUNT_AT" = some (.int 12 t)
  c_ROW_AT : ∃ t, mg "ROW_AT" = some (.int 16 t)
  m_BusError : mg "BusError" = some (.ref c.E)
  m_BadFrame : mg "BadFrame" = some (.ref c.F)
  m_NoNode : mg "NoNode" = some (.ref c.N)
  m_BadBits : mg "BadBits" = some (.ref c.B)
  m_Reading : mg "Reading" = some (.ref c.R)
  d_BadBits___init__ : InitX K c.B "BadBits.__init__" (inClass (top 5) 0)
  d_in_bits : DefAt K mg "in_bits" (top 15)
  d_number_of : DefAt K mg "number_of" (top 16)
  d_check_of : DefAt K mg "check_of" (top 17)
  d_is_one_due : DefAt K mg "is_one_due" (top 18)
  d_head_choices : DefAt K mg "head_choices" (top 19)
  d_check_place : DefAt K mg "check_place" (top 20)
  d_plain_choices : DefAt K mg "plain_choices" (top 21)
  d_choices_behind : DefAt K mg "choices_behind" (top 22)
  d_parts_of : DefAt K mg "parts_of" (top 23)
  d_Reading___init__ : InitAt K c.R "Reading.__init__" (inClass (top 24) 0)
  d_Reading_take : MethAt K c.R "take" "Reading.take" (inClass (top 24) 1)
  d_Reading_is_over : MethAt K c.R "is_over" "Reading.is_over" (inClass (top 24) 2)
  d_frame_of : DefAt K mg "frame_of" (top 25)
  d__law_cell : DefAt K mg "_law_cell" (top 27)
  d__law_mix : DefAt K mg "_law_mix" (top 28)
  d__law_whole : DefAt K mg "_law_whole" (top 29)
  d__law_digits : DefAt K mg "_law_digits" (top 30)
  d__law_check : DefAt K mg "_law_check" (top 31)
  d__law_bits : DefAt K mg "_law_bits" (top 32)
  d__law_stuffed : DefAt K mg "_law_stuffed" (top 33)
  d__law_run : DefAt K mg "_law_run" (top 34)
  d__law_frame : DefAt K mg "_law_frame" (top 35)
  d__law_plain : DefAt K mg "_law_plain" (top 36)
  d__law_fits : DefAt K mg "_law_fits" (top 37)
  d__law_ends : DefAt K mg "_law_ends" (top 38)
  d__law_goes_on : DefAt K mg "_law_goes_on" (top 39)
  d__law_place : DefAt K mg "_law_place" (top 40)
  d_law : DefAt K mg "law" (top 41)
  k_Reading : Cls K c.R
  a_Reading_wire : NoAttr K c.R "wire"
  a_Reading_plain : NoAttr K c.R "plain"
  a_Reading_choices : NoAttr K c.R "choices"
  kib : PySem.W.kitOne K (.type "int") (.type "bool") = some false
  bb_BusError : ErrB K c.E
  s_BadBits : ErrS K c.B
  a_BadBits_place : NoAttr K c.B "place"
  r_BadBits : PySem.W.mroIn K c.B (.ref c.E) = some true
  e_BadBits : ExcC K c.B
  i_BadBits_BadBits : PySem.W.kitOne K (.ref c.B) (.ref c.B) = some true
  i_BadBits_V : PySem.W.kitOne K (.ref c.B) (.type "ValueError") = some true
  i_B_FN : PySem.W.kitAny K (.ref c.B) [.ref c.F, .ref c.N] = some false
  t_BusError : PySem.W.typeIn K (.ref c.E) = some (.type "type")
  l_BusError : (PySem.W.clsIn K c.E).isSome = true
  b_BusError : PySem.W.mroIn K c.E (.type "BaseException") = some true
end BB

set_option maxHeartbeats 4000000
set_option maxRecDepth 100000
set_option linter.unusedVariables false
namespace BB
open PySem L2
local macro_rules | `(tactic| wtm_at "sA") => `(tactic| first
  | ((with_reducible apply upd_new); (focus with_reducible assumption))
  | ((with_reducible apply upd_oth); (focus wtm_at "hn"))
  | ((with_reducible apply Same.get); (focus with_reducible assumption))
  | ((with_reducible apply Chg.get); (focus with_reducible assumption); (focus wtm_at "ni")))
local macro_rules | `(tactic| wtm_at "sL") => `(tactic| first
  | ((with_reducible apply SqL.new); (focus with_reducible assumption))
  | ((with_reducible apply SqL.oth); (focus wtm_at "hn"))
  | ((with_reducible apply Same.seq); (focus with_reducible assumption))
  | ((with_reducible apply Chg.seq); (focus with_reducible assumption); (focus wtm_at "ni"))
  | with_reducible apply At.sqL
  | with_reducible apply At.sqF)
local macro_rules | `(tactic| wtm_at "sT") => `(tactic| first
  | ((with_reducible apply SqT.new); (focus with_reducible assumption))
  | ((with_reducible apply SqT.oth); (focus wtm_at "hn"))
  | ((with_reducible apply Same.tup); (focus with_reducible assumption))
  | ((with_reducible apply Chg.tup); (focus with_reducible assumption); (focus wtm_at "ni"))
  | with_reducible apply At.sqT)
local macro_rules | `(tactic| wtm_at "hA") => `(tactic| first
  | with_reducible assumption
  | with_reducible exact at_same
  | (wtm_at "sA"; wtm_at "hA"))
local macro_rules | `(tactic| wtm_at "hL") => `(tactic| first
  | with_reducible assumption
  | ((with_reducible apply At.sqL); wtm_at "hA")
  | ((with_reducible apply At.sqF); wtm_at "hA")
  | (wtm_at "sL"; wtm_at "hL"))
local macro_rules | `(tactic| wtm_at "hT") => `(tactic| first
  | with_reducible assumption
  | ((with_reducible apply At.sqT); wtm_at "hA")
  | (wtm_at "sT"; wtm_at "hT"))
local macro_rules | `(tactic| wtm_at "hg") => `(tactic| first
  | ((with_reducible apply id_At); wtm_at "hA")
  | ((with_reducible apply id_SqL); wtm_at "hL")
  | ((with_reducible apply id_SqT); wtm_at "hT"))
local macro_rules | `(tactic| wtm_at "hn") => `(tactic| first
  | with_reducible assumption
  | ((with_reducible refine Ne.symm ?_); with_reducible assumption)
  | ((with_reducible apply fne1); (focus with_reducible assumption))
  | ((with_reducible apply fne2); (focus with_reducible assumption))
  | ((with_reducible apply fne3); (focus with_reducible assumption))
  | ((with_reducible apply fne4); (focus with_reducible assumption))
  | ((with_reducible apply Ne.symm); (with_reducible apply fne1); (focus with_reducible assumption))
  | ((with_reducible apply Ne.symm); (with_reducible apply fne2); (focus with_reducible assumption))
  | ((with_reducible apply Ne.symm); (with_reducible apply fne3); (focus with_reducible assumption))
  | ((with_reducible apply Ne.symm); (with_reducible apply fne4); (focus with_reducible assumption))
  | ((with_reducible refine ne_newE (by with_reducible assumption) ?_); exact ⟨_, by wtm_at "hA"⟩)
  | ((with_reducible refine Ne.symm (ne_newE (by with_reducible assumption) ?_)); exact ⟨_, by wtm_at "hA"⟩))
local macro_rules | `(tactic| wtm_at "ni") => `(tactic| first
  | with_reducible assumption
  | exact List.not_mem_nil
  | ((with_reducible refine notin1 ?_); wtm_at "hn")
  | ((with_reducible refine notin2 ?_ ?_) <;> wtm_at "hn")
  | ((with_reducible refine notin3 ?_ ?_ ?_) <;> wtm_at "hn"))
local macro_rules | `(tactic| wtm_at "hs") => `(tactic| first
  | with_reducible assumption
  | with_reducible exact Same.refl _
  | ((with_reducible refine Same.new ?a ?b); (case b => with_reducible assumption); (case a => wtm_at "hs"))
  | ((with_reducible refine Same.upF ?a ?b); (case b => wtm_at "hf"); (case a => wtm_at "hs"))
  | ((with_reducible refine Same.trans ?_ (by with_reducible assumption)); wtm_at "hs"))
local macro_rules | `(tactic| wtm_at "hf") => `(tactic| first
  | with_reducible assumption
  | ((with_reducible apply fre1); (focus with_reducible assumption))
  | ((with_reducible apply fre2); (focus with_reducible assumption))
  | ((with_reducible apply fre3); (focus with_reducible assumption))
  | ((with_reducible apply fre4); (focus with_reducible assumption))
  | ((with_reducible apply fre5); (focus with_reducible assumption))
  | ((with_reducible refine Same.fr (by with_reducible assumption) ?_); wtm_at "hf")
  | ((with_reducible refine Chg.fr (by with_reducible assumption) ?n ?m); (case n => wtm_at "ni"); (case m => wtm_at "hf")))
local macro_rules | `(tactic| wtm_at "hc") => `(tactic| first
  | with_reducible assumption
  | with_reducible exact Chg.refl _ _
  | ((with_reducible refine Chg.new ?a ?b); (case b => with_reducible assumption); (case a => wtm_at "hc"))
  | ((with_reducible refine Chg.upd ?a ?b); (case b => simp); (case a => wtm_at "hc"))
  | ((with_reducible refine Chg.trans ?_ (by with_reducible assumption)); wtm_at "hc")
  | ((with_reducible refine Chg.trans ?_ (Same.chg (by with_reducible assumption))); wtm_at "hc"))
local macro_rules | `(tactic| wtm_at "ar") => `(tactic| first
  | (show (0 : Int) < _; decide)
  | (show (0 : Int) < _; omega)
  | (show (0 : Int) ≤ _; decide)
  | (show (0 : Int) ≤ _; omega)
  | exact ⟨by decide, by decide⟩
  | exact ⟨by decide, by decide, by omega⟩
  | exact ⟨by omega, by omega⟩
  | exact .inl ⟨by decide, by decide⟩
  | exact .inr ⟨by decide, by decide⟩
  | exact .inl ⟨by omega, by omega⟩
  | exact .inr ⟨by omega, by omega⟩)
local macro_rules | `(tactic| wtm_at "w1") => `(tactic| first
  | with_reducible refine wp_v0 ?_
  | with_reducible refine wp_v1 ?_
  | with_reducible refine wp_v2 ?_
  | with_reducible refine wp_v3 ?_
  | with_reducible refine wp_v4 ?_
  | with_reducible refine wp_const ?_
  | with_reducible refine wp_op ?_
  | with_reducible refine wp_I0 ?_
  | with_reducible refine wp_seq ?_
  | with_reducible refine wp_asg ?_
  | with_reducible refine wp_cons ?_
  | with_reducible refine wp_nil ?_
  | with_reducible refine wp_fld ?_
  | with_reducible refine wp_g1 ?_
  | with_reducible refine wp_g2 ?_
  | with_reducible refine wp_g3 ?_
  | with_reducible refine wp_g4 ?_
  | with_reducible refine wp_ifS ?_
  | with_reducible refine wp_test ?_
  | with_reducible refine wp_call ?_
  | with_reducible refine wp_s1 ?_
  | with_reducible refine wp_s2 ?_
  | with_reducible refine wp_m1 ?_
  | with_reducible refine wp_m2 ?_
  | with_reducible refine wp_exbl ?_
  | with_reducible refine wp_exint ?_
  | with_reducible refine wp_eqI ?_
  | with_reducible refine wp_neI ?_
  | with_reducible refine wp_eqS ?_
  | with_reducible refine wp_neS ?_
  | with_reducible refine wp_ret ?_
  | with_reducible refine wp_drop ?_
  | with_reducible refine wp_meth ?_
  | with_reducible refine wp_tB ?_
  | with_reducible refine wp_CB ?_
  | with_reducible refine wp_next ?_
  | with_reducible refine wp_nx ?_
  | with_reducible refine wp_rt ?_
  | ((with_reducible refine id_I ?_); refine wp_I (by wtm_at "ar") ?_)
  | ((with_reducible refine id_fld ?_); refine wp_fldA (by wtm_at "hA") (by wtm_at "kf") (by wtm_at "kf") (by rfl) ?_)
  | ((with_reducible refine id_meth ?_); refine wp_methA (by wtm_at "hA") (by rfl) ?_)
  | ((with_reducible refine id_setF ?_); refine wp_setFA (by wtm_at "hA") (by wtm_at "kf") (by wtm_at "kf") (by first | exact Nat.le_of_ble_eq_true rfl | simp [rdF, ndF, buF]) (by wtm_at "pf") ?_)
  | ((with_reducible refine id_augA ?_); refine wp_augA (by wtm_at "hA") (by wtm_at "kf") (by wtm_at "kf") (by rfl) ?_)
  | ((with_reducible refine id_augB ?_); refine wp_augB (by wtm_at "hA") (by first | exact Nat.le_of_ble_eq_true rfl | simp [rdF, ndF, buF]) (by wtm_at "pf") ?_)
  | ((with_reducible refine id_isL ?_); refine wp_isL (by wtm_at "hL") ?_)
  | ((with_reducible refine id_len ?_); refine wp_lenL (by wtm_at "hL") ?_)
  | ((with_reducible refine id_len ?_); refine wp_lenT (by wtm_at "hT") ?_)
  | ((with_reducible refine id_list ?_); refine wp_listL (by wtm_at "hL") ?_)
  | ((with_reducible refine id_ixL ?_); refine wp_ixL (by wtm_at "hL") (by rfl) ?_)
  | ((with_reducible refine id_ixT ?_); refine wp_ixT (by wtm_at "hT") (by rfl) ?_)
  | ((with_reducible refine id_tru ?_); refine wp_truL (by wtm_at "hL") ?_)
  | ((with_reducible refine id_gtup ?_); refine wp_gtup (by wtm_at "hT") (by rfl) ?_)
  | with_reducible refine wp_un ?_
  | with_reducible refine wp_U ?_
  | with_reducible refine wp_and ?_
  | with_reducible refine wp_or ?_
  | with_reducible refine wp_not ?_
  | with_reducible refine wp_andV ?_
  | with_reducible refine wp_orV ?_
  | with_reducible refine wp_notV ?_
  | with_reducible refine wp_ifE ?_
  | with_reducible refine wp_tup ?_
  | with_reducible refine wp_lst ?_
  | with_reducible refine wp_BM ?_
  | with_reducible refine wp_BM0 ?_
  | with_reducible refine wp_retN ?_
  | with_reducible refine wp_setF ?_
  | with_reducible refine wp_augF ?_
  | with_reducible refine wp_rAdd ?_
  | with_reducible refine wp_make ?_
  | with_reducible refine wp_sl ?_
  | with_reducible refine wp_noPart ?_
  | with_reducible refine wp_part ?_
  | with_reducible refine wp_text ?_
  | with_reducible refine wp_s3 ?_
  | with_reducible refine wp_s4 ?_
  | with_reducible refine wp_m3 ?_
  | with_reducible refine wp_isN0 ?_
  | with_reducible refine wp_isN1 ?_
  | with_reducible refine wp_notN0 ?_
  | with_reducible refine wp_notN1 ?_
  | with_reducible refine wp_tru ?_
  | with_reducible refine wp_intB ?_
  | with_reducible refine wp_intI ?_
  | with_reducible refine wp_frz ?_
  | with_reducible refine wp_try ?_
  | with_reducible refine wp_tbC ?_
  | with_reducible refine wp_tbD ?_
  | with_reducible refine wp_gcons ?_
  | with_reducible refine wp_gnil ?_
  | with_reducible refine wp_gsub ?_
  | with_reducible refine wp_chain ?_
  | with_reducible refine wp_ipI ?_
  | with_reducible refine wp_aug0 ?_
  | with_reducible refine wp_aug1 ?_
  | with_reducible refine wp_aug2 ?_
  | with_reducible refine wp_aug3 ?_
  | with_reducible refine wp_aug4 ?_
  | with_reducible refine wp_aug5 ?_
  | with_reducible refine wp_aug6 ?_
  | with_reducible refine wp_aug7 ?_
  | with_reducible refine wp_aug8 ?_
  | with_reducible refine wp_aug9 ?_
  | with_reducible refine iteT ?_
  | with_reducible refine iteF ?_
  | with_reducible refine iteNT ?_
  | with_reducible refine iteNF ?_
  | with_reducible refine wp_v5 ?_
  | with_reducible refine wp_v6 ?_
  | with_reducible refine wp_v7 ?_
  | with_reducible refine wp_v8 ?_
  | with_reducible refine wp_v9 ?_
  | with_reducible refine wp_v10 ?_
  | with_reducible refine wp_v11 ?_
  | with_reducible refine wp_v12 ?_
  | with_reducible refine wp_v13 ?_
  | with_reducible refine wp_v14 ?_
  | with_reducible refine wp_v15 ?_
  | with_reducible refine wp_g0 ?_
  | with_reducible refine wp_g5 ?_
  | with_reducible refine wp_g6 ?_
  | with_reducible refine wp_g7 ?_
  | with_reducible refine wp_g8 ?_
  | with_reducible refine wp_g9 ?_
  | with_reducible refine wp_g10 ?_
  | with_reducible refine wp_g11 ?_
  | with_reducible refine wp_g12 ?_
  | with_reducible refine wp_g13 ?_
  | with_reducible refine wp_g14 ?_
  | with_reducible refine wp_g15 ?_)
local macro_rules | `(tactic| wtm_at "wp") => `(tactic| repeat wtm_at "w1")
local macro_rules | `(tactic| wtm_at "w2") => `(tactic| first
  | with_reducible refine wp_v0 ?_
  | with_reducible refine wp_v1 ?_
  | with_reducible refine wp_v2 ?_
  | with_reducible refine wp_v3 ?_
  | with_reducible refine wp_v4 ?_
  | with_reducible refine wp_const ?_
  | with_reducible refine wp_op ?_
  | with_reducible refine wp_I0 ?_
  | with_reducible refine wp_seq ?_
  | with_reducible refine wp_asg ?_
  | with_reducible refine wp_cons ?_
  | with_reducible refine wp_nil ?_
  | with_reducible refine wp_fld ?_
  | with_reducible refine wp_g1 ?_
  | with_reducible refine wp_g2 ?_
  | with_reducible refine wp_g3 ?_
  | with_reducible refine wp_g4 ?_
  | with_reducible refine wp_ifS ?_
  | with_reducible refine wp_test ?_
  | with_reducible refine wp_call ?_
  | with_reducible refine wp_s1 ?_
  | with_reducible refine wp_s2 ?_
  | with_reducible refine wp_m1 ?_
  | with_reducible refine wp_m2 ?_
  | with_reducible refine wp_exbl ?_
  | with_reducible refine wp_exint ?_
  | with_reducible refine wp_eqI ?_
  | with_reducible refine wp_neI ?_
  | with_reducible refine wp_eqS ?_
  | with_reducible refine wp_neS ?_
  | with_reducible refine wp_drop ?_
  | with_reducible refine wp_meth ?_
  | with_reducible refine wp_tB ?_
  | with_reducible refine wp_CB ?_
  | with_reducible refine wp_next ?_
  | with_reducible refine wp_nx ?_
  | with_reducible refine wp_rt ?_
  | ((with_reducible refine id_I ?_); refine wp_I (by wtm_at "ar") ?_)
  | ((with_reducible refine id_fld ?_); refine wp_fldA (by wtm_at "hA") (by wtm_at "kf") (by wtm_at "kf") (by rfl) ?_)
  | ((with_reducible refine id_meth ?_); refine wp_methA (by wtm_at "hA") (by rfl) ?_)
  | ((with_reducible refine id_setF ?_); refine wp_setFA (by wtm_at "hA") (by wtm_at "kf") (by wtm_at "kf") (by first | exact Nat.le_of_ble_eq_true rfl | simp [rdF, ndF, buF]) (by wtm_at "pf") ?_)
  | ((with_reducible refine id_augA ?_); refine wp_augA (by wtm_at "hA") (by wtm_at "kf") (by wtm_at "kf") (by rfl) ?_)
  | ((with_reducible refine id_augB ?_); refine wp_augB (by wtm_at "hA") (by first | exact Nat.le_of_ble_eq_true rfl | simp [rdF, ndF, buF]) (by wtm_at "pf") ?_)
  | ((with_reducible refine id_isL ?_); refine wp_isL (by wtm_at "hL") ?_)
  | ((with_reducible refine id_len ?_); refine wp_lenL (by wtm_at "hL") ?_)
  | ((with_reducible refine id_len ?_); refine wp_lenT (by wtm_at "hT") ?_)
  | ((with_reducible refine id_list ?_); refine wp_listL (by wtm_at "hL") ?_)
  | ((with_reducible refine id_ixL ?_); refine wp_ixL (by wtm_at "hL") (by rfl) ?_)
  | ((with_reducible refine id_ixT ?_); refine wp_ixT (by wtm_at "hT") (by rfl) ?_)
  | ((with_reducible refine id_tru ?_); refine wp_truL (by wtm_at "hL") ?_)
  | ((with_reducible refine id_gtup ?_); refine wp_gtup (by wtm_at "hT") (by rfl) ?_)
  | with_reducible refine wp_un ?_
  | with_reducible refine wp_U ?_
  | with_reducible refine wp_and ?_
  | with_reducible refine wp_or ?_
  | with_reducible refine wp_not ?_
  | with_reducible refine wp_andV ?_
  | with_reducible refine wp_orV ?_
  | with_reducible refine wp_notV ?_
  | with_reducible refine wp_ifE ?_
  | with_reducible refine wp_tup ?_
  | with_reducible refine wp_lst ?_
  | with_reducible refine wp_BM ?_
  | with_reducible refine wp_BM0 ?_
  | with_reducible refine wp_retN ?_
  | with_reducible refine wp_setF ?_
  | with_reducible refine wp_augF ?_
  | with_reducible refine wp_rAdd ?_
  | with_reducible refine wp_make ?_
  | with_reducible refine wp_sl ?_
  | with_reducible refine wp_noPart ?_
  | with_reducible refine wp_part ?_
  | with_reducible refine wp_text ?_
  | with_reducible refine wp_s3 ?_
  | with_reducible refine wp_s4 ?_
  | with_reducible refine wp_m3 ?_
  | with_reducible refine wp_isN0 ?_
  | with_reducible refine wp_isN1 ?_
  | with_reducible refine wp_notN0 ?_
  | with_reducible refine wp_notN1 ?_
  | with_reducible refine wp_tru ?_
  | with_reducible refine wp_intB ?_
  | with_reducible refine wp_intI ?_
  | with_reducible refine wp_frz ?_
  | with_reducible refine wp_try ?_
  | with_reducible refine wp_tbC ?_
  | with_reducible refine wp_tbD ?_
  | with_reducible refine wp_gcons ?_
  | with_reducible refine wp_gnil ?_
  | with_reducible refine wp_gsub ?_
  | with_reducible refine wp_chain ?_
  | with_reducible refine wp_ipI ?_
  | with_reducible refine wp_aug0 ?_
  | with_reducible refine wp_aug1 ?_
  | with_reducible refine wp_aug2 ?_
  | with_reducible refine wp_aug3 ?_
  | with_reducible refine wp_aug4 ?_
  | with_reducible refine wp_aug5 ?_
  | with_reducible refine wp_aug6 ?_
  | with_reducible refine wp_aug7 ?_
  | with_reducible refine wp_aug8 ?_
  | with_reducible refine wp_aug9 ?_
  | with_reducible refine iteT ?_
  | with_reducible refine iteF ?_
  | with_reducible refine iteNT ?_
  | with_reducible refine iteNF ?_
  | with_reducible refine wp_v5 ?_
  | with_reducible refine wp_v6 ?_
  | with_reducible refine wp_v7 ?_
  | with_reducible refine wp_v8 ?_
  | with_reducible refine wp_v9 ?_
  | with_reducible refine wp_v10 ?_
  | with_reducible refine wp_v11 ?_
  | with_reducible refine wp_v12 ?_
  | with_reducible refine wp_v13 ?_
  | with_reducible refine wp_v14 ?_
  | with_reducible refine wp_v15 ?_
  | with_reducible refine wp_g0 ?_
  | with_reducible refine wp_g5 ?_
  | with_reducible refine wp_g6 ?_
  | with_reducible refine wp_g7 ?_
  | with_reducible refine wp_g8 ?_
  | with_reducible refine wp_g9 ?_
  | with_reducible refine wp_g10 ?_
  | with_reducible refine wp_g11 ?_
  | with_reducible refine wp_g12 ?_
  | with_reducible refine wp_g13 ?_
  | with_reducible refine wp_g14 ?_
  | with_reducible refine wp_g15 ?_)
local macro_rules | `(tactic| wtm_at "wr") => `(tactic| repeat wtm_at "w2")
local macro_rules | `(tactic| wtm_at "sm") => `(tactic| first
  | exact small (by decide)
  | exact small1000 (by decide)
  | (simp only [List.length_map, List.length_append, List.length_cons, List.length_nil, inBits_len, chk_len, body_len, List.length_take, List.length_drop, List.length_replicate] at *; first | exact small (by omega) | exact small1000 (by omega)))
local macro_rules | `(tactic| wtm_at "kf") => `(tactic| first | assumption | exact Txt.k_Reading (by assumption) | exact Txt.a_Reading_wire (by assumption) | exact Txt.a_Reading_plain (by assumption) | exact Txt.a_Reading_choices (by assumption) | exact Txt.a_BadBits_place (by assumption))
local macro_rules | `(tactic| wtm_at "pf") => `(tactic| first | exact put_wire | exact put_plain | exact put_choices | exact put_state | exact put_passed | exact put_reading | exact put_sending | exact put_queue | exact put_taken | exact put_fault_count | exact put_bits_past | rfl)


/-! ### frames: the program's defs -/
theorem mask15 (c : Nat) : Builtin.bitAnd ((c : Int) * 2 ^ (1 : Int).toNat) 32767 = ((c * 2 % 32768 : Nat) : Int) := by
  have := PySem.W.kbt_mask ((c : Int) * 2 ^ (1 : Int).toNat) 15
  have e : (2 : Int) ^ 15 - 1 = 32767 := by decide
  rw [e] at this
  rw [this]
  have e2 : (c : Int) * 2 ^ (1 : Int).toNat = ((c * 2 : Nat) : Int) := by
    show (c : Int) * 2 ^ 1 = _
    omega
  rw [e2]
  have e3 : (2 : Int) ^ 15 = 32768 := by decide
  rw [e3]
  omega
theorem flat5a : (List.replicate (5 : Int).toNat [V.int 0]).flatten = ([0, 0, 0, 0, 0] : List Int).map V.int := by rfl
theorem flat5b : (List.replicate (5 : Int).toNat [V.int 1]).flatten = ([1, 1, 1, 1, 1] : List Int).map V.int := by rfl
theorem rowBits_snoc {row : List Int} {i : Nat} {b : Int} (h : row[i]? = some b) : rowBits (row.take (i + 1)) = rowBits (row.take i) ++ inBits b 8 := by
  obtain ⟨hi, e⟩ := List.getElem?_eq_some_iff.mp h
  unfold rowBits
  rw [List.take_succ_eq_append_getElem hi, List.flatMap_append, e]
  simp
theorem cut5 (w : List Int) : cutV (w.map V.int) (some (-5)) none = (last5 w).map V.int := by
  unfold cutV last5
  rw [HT.sIx_none, List.length_map]
  have e : HT.sIx w.length 0 (some (-5)) = w.length - 5 := by
    unfold HT.sIx
    simp
    omega
  rw [e, ← List.map_drop, List.take_of_length_le (by rw [List.length_map, List.length_drop]; omega)]
abbrev s_in_bits : Stmt := (top 15)
abbrev sp_in_bits (K : PySem.W.Frag) (c : Cs) : Sp := sp2 fun a b H Q _ => ∃ (n : Int) (k : Nat), a = .int n ∧ b = .int k ∧ k ≤ 100 ∧ MkL H Q (inBits n k)
section
variable {P : Program} {w : World} {K : PySem.W.Frag} {mg : Str → Option Value} {base : Heap} {c : Cs}
theorem sc_in_bits : FnScope ["number", "many"] ["number", "many"] (defScope s_in_bits) := ⟨rfl, rfl, rfl, by decide +kernel, rfl, by decide +kernel, by decide +kernel⟩
theorem ok_in_bits (T : Txt K mg c) : HasF P w K mg base CX0 1 "in_bits" ["number", "many"] (sp_in_bits K c) := by
  refine T.d_in_bits.ok sc_in_bits (fun _ _ _ _ _ _ us hl => match us, hl with | [_, _], _ => rfl) len2 (fun f cdv A outer s H vs Q E hr h => ?_)
  obtain ⟨v0, v1, rfl, h⟩ := h
  refine ⟨_, (pss_one (ps_ret (pe_comp ["number", "many"] [0, 1] (pi_range1 rfl T.range (pa_cons (pv 1) pa_nil)) (fun fp s H => (pe_op op_and (pe_op op_shr (pv 0) (pe_op op_sub (pe_op op_sub (pv 1) pe_int) (pv 2))) pe_int))))), ?_⟩
  try dsimp only [cxOf, Cx.nox, Cx.wish]
  refine wp_start (s2 := [some v0, some v1]) rfl ?_
  obtain ⟨n, k, rfl, rfl, hk, q⟩ := h
  wtm_at "wp"
  refine wp_compR ?_
  wtm_at "wp"
  refine wp_compRA k (fun i => .int (n / 2 ^ (k - 1 - i) % 2)) (by omega) (by omega) (small (by omega)) (fun i H' R hi s1 hR => ?_) (fun D Hf s1 hD e => q D Hf s1 hD ?_)
  · show tOp _ _ _ [some (.int n), some (.int k), some (.int i)] _ _
    wtm_at "wp"
    have e1 : ((k : Int) - 1 - (i : Int)).toNat = k - 1 - i := by omega
    rw [e1, PyProof.Rows.bitAnd_m1]
    exact hR H' (Same.refl _)
  · rw [← inBits_map, List.map_map]
    exact e
end
abbrev s_number_of : Stmt := (top 16)
abbrev sp_number_of (K : PySem.W.Frag) (c : Cs) : Sp := sp1 fun v H Q _ => ∃ (a : Addr) (bs : List Int), v = .ref a ∧ SqL K H a (bs.map V.int) ∧ Q (.int (numOf bs)) H
section
variable {P : Program} {w : World} {K : PySem.W.Frag} {mg : Str → Option Value} {base : Heap} {c : Cs}
theorem sc_number_of : FnScope ["bits", "number", "bit"] ["bits"] (defScope s_number_of) := ⟨rfl, rfl, rfl, by decide +kernel, rfl, by decide +kernel, by decide +kernel⟩
theorem ok_number_of (T : Txt K mg c) : HasF P w K mg base CX0 1 "number_of" ["bits"] (sp_number_of K c) := by
  refine T.d_number_of.ok sc_number_of (fun _ _ _ _ _ _ us hl => match us, hl with | [_], _ => rfl) len1 (fun f cdv A outer s H vs Q E hr h => ?_)
  obtain ⟨v0, rfl, h⟩ := h
  refine ⟨_, (pss_cons (ps_set (i := 1) sc_number_of.nd rfl (by first | exact Or.inl rfl | exact Or.inr rfl) pe_int)
      (pss_cons (ps_for PassesOwn.never rfl (pi_listK (K := K) (pv 0)) (pg_name (i := 2) sc_number_of.nd rfl (by first | exact Or.inl rfl | exact Or.inr rfl))
        (pss_one (ps_set (i := 1) sc_number_of.nd rfl (by first | exact Or.inl rfl | exact Or.inr rfl) (pe_op op_add (pe_op op_mul (pv 1) pe_int) (pv 2)))))
      (pss_one (ps_ret (pv 1))))), ?_⟩
  try dsimp only [cxOf, Cx.nox, Cx.wish]
  refine wp_start (s2 := [some v0, none, none]) rfl ?_
  obtain ⟨a, bs, rfl, hS, q⟩ := h
  wtm_at "wp"
  refine wp_forL ?_
  wtm_at "wp"
  refine wp_forLA (fun i σ H2 => ∃ v : Option V, σ = [some (.ref a), some (.int (numOf (bs.take i))), v] ∧ H2 = H) hS ⟨none, rfl, rfl⟩ (fun i σ H2 _ ⟨_, _, e⟩ => e ▸ hS) ?_ ?_
  · rintro i y σ H2 hi ⟨v, rfl, rfl⟩
    obtain ⟨b, hb, rfl⟩ := get_int hi
    have hn : numOf (bs.take (i + 1)) = numOf (bs.take i) * 2 + b := fold_snoc (f := fun n b => n * 2 + b) (a := (0 : Int)) hb
    wtm_at "wp"
    refine ⟨some (.int b), ?_, rfl⟩
    rw [hn]
  · rintro σ H2 ⟨v, rfl, rfl⟩
    rw [List.take_of_length_le (by rw [List.length_map]; exact Nat.le_refl _)]
    wtm_at "wp"
    exact q
end
abbrev s_check_of : Stmt := (top 17)
abbrev sp_check_of (K : PySem.W.Frag) (c : Cs) : Sp := sp1 fun v H Q _ => ∃ (a : Addr) (bs : List Int), v = .ref a ∧ SqL K H a (bs.map V.int) ∧ Bits bs ∧ bs.length ≤ 500 ∧ MkL H Q (chk bs)
section
variable {P : Program} {w : World} {K : PySem.W.Frag} {mg : Str → Option Value} {base : Heap} {c : Cs}
theorem sc_check_of : FnScope ["bits", "check", "bit", "fallen"] ["bits"] (defScope s_check_of) := ⟨rfl, rfl, rfl, by decide +kernel, rfl, by decide +kernel, by decide +kernel⟩
theorem ok_check_of (T : Txt K mg c) : HasF P w K mg base CX0 2 "check_of" ["bits"] (sp_check_of K c) := by
  refine T.d_check_of.ok sc_check_of (fun _ _ _ _ _ _ us hl => match us, hl with | [_], _ => rfl) len1 (fun f cdv A outer s H vs Q E hr h => ?_)
  obtain ⟨v0, rfl, h⟩ := h
  refine ⟨_, (pss_cons (ps_set (i := 1) sc_check_of.nd rfl (by first | exact Or.inl rfl | exact Or.inr rfl) pe_int)
      (pss_cons (ps_for PassesOwn.never rfl (pi_listK (K := K) (pv 0)) (pg_name (i := 2) sc_check_of.nd rfl (by first | exact Or.inl rfl | exact Or.inr rfl))
        (pss_cons (ps_set (i := 3) sc_check_of.nd rfl (by first | exact Or.inl rfl | exact Or.inr rfl) (pe_op op_shr (pv 1) (pe_op op_sub (pgi T.c_CHECK_BITS) pe_int)))
        (pss_cons (ps_set (i := 1) sc_check_of.nd rfl (by first | exact Or.inl rfl | exact Or.inr rfl) (pe_op op_and (pe_op op_shl (pv 1) pe_int) (pgi T.c_CHECK_HIGHEST)))
        (pss_one (ps_if (pt_cmpR op_ne (pv 3) (pv 2) (nomark _))
          (pss_one (ps_set (i := 1) sc_check_of.nd rfl (by first | exact Or.inl rfl | exact Or.inr rfl) (pe_op op_xor (pv 1) (pgi T.c_CHECK_TURNS))))
          pss_nil)))))
      (pss_one (ps_ret (pe_f (ok_in_bits T) hr pass0 (pa_cons (pv 1) (pa_cons (pgi T.c_CHECK_BITS) pa_nil))))))), ?_⟩
  try dsimp only [cxOf, Cx.nox, Cx.wish]
  refine wp_start (s2 := [some v0, none, none, none]) rfl ?_
  obtain ⟨a, bs, rfl, hS, hb, hl, q⟩ := h
  wtm_at "wp"
  refine wp_forL ?_
  wtm_at "wp"
  refine wp_forLA (fun i σ H2 => ∃ (v u : Option V), σ = [some (.ref a), some (.int (((bs.take i).foldl stepN 0 : Nat) : Int)), v, u] ∧ H2 = H) hS
    ⟨none, none, rfl, rfl⟩ (fun i σ H2 _ ⟨_, _, _, e⟩ => e ▸ hS) ?_ ?_
  · rintro i y σ H2 hi ⟨v, u, rfl, rfl⟩
    obtain ⟨b, hbi, rfl⟩ := get_int hi
    have hc : (bs.take i).foldl stepN 0 < 32768 := fold_lt _ _ (by decide)
    have hn := fold_snoc (f := stepN) (a := 0) hbi
    generalize (bs.take i).foldl stepN 0 = c at *
    have ef : (c : Int) / 2 ^ ((15 : Int) - 1).toNat = ((c / 16384 : Nat) : Int) := by
      show (c : Int) / 2 ^ 14 = _
      omega
    have em := mask15 c
    wtm_at "wp"
    rw [ef, em]
    refine wp_ndec (fun hne => ?_) (fun he => ?_)
    · have e1 : stepN c b = (c * 2 % 32768) ^^^ 17817 := by unfold stepN; rw [if_neg hne]
      wtm_at "wp"
      refine ⟨some (.int b), some (.int ((c / 16384 : Nat) : Int)), ?_, rfl⟩
      rw [hn, e1, show Builtin.bitXor ((c * 2 % 32768 : Nat) : Int) 17817 = _ from bitXor_nat (c * 2 % 32768) 17817]
    · have e1 : stepN c b = c * 2 % 32768 := by unfold stepN; rw [if_pos he]
      wtm_at "wp"
      refine ⟨some (.int b), some (.int ((c / 16384 : Nat) : Int)), ?_, rfl⟩
      rw [hn, e1]
  · rintro σ H2 ⟨v, u, rfl, rfl⟩
    wtm_at "wp"
    refine ⟨_, 15, rfl, rfl, by decide, ?_⟩
    rw [List.take_of_length_le (by rw [List.length_map]; exact Nat.le_refl _), chk_num]
    exact q
end
abbrev s_is_one_due : Stmt := (top 18)
abbrev sp_is_one_due (K : PySem.W.Frag) (c : Cs) : Sp := sp1 fun v H Q _ => ∃ (a : Addr) (bs : List Int), v = .ref a ∧ SqL K H a (bs.map V.int) ∧ bs.length ≤ 900 ∧ NewB H Q (due bs)
section
variable {P : Program} {w : World} {K : PySem.W.Frag} {mg : Str → Option Value} {base : Heap} {c : Cs}
theorem sc_is_one_due : FnScope ["wire"] ["wire"] (defScope s_is_one_due) := ⟨rfl, rfl, rfl, by decide +kernel, rfl, by decide +kernel, by decide +kernel⟩
theorem ok_is_one_due (T : Txt K mg c) : HasF P w K mg base CX0 1 "is_one_due" ["wire"] (sp_is_one_due K c) := by
  refine T.d_is_one_due.ok sc_is_one_due (fun _ _ _ _ _ _ us hl => match us, hl with | [_], _ => rfl) len1 (fun f cdv A outer s H vs Q E hr h => ?_)
  obtain ⟨v0, rfl, h⟩ := h
  refine ⟨_, (pss_one (ps_ret (pe_cmpR (op_in2KK (K := K) hr) (pe_slice (sl_listK (K := K)) (pv 0) (po_some (pe_un un_neg (pgi T.c_MOST_LIKE_BITS))) po_none) (pe_tup (pa_cons (pe_op op_rep (pe_lst (pa_cons pe_int pa_nil)) (pgi T.c_MOST_LIKE_BITS)) (pa_cons (pe_op op_rep (pe_lst (pa_cons pe_int pa_nil)) (pgi T.c_MOST_LIKE_BITS)) pa_nil))) rfl))), ?_⟩
  try dsimp only [cxOf, Cx.nox, Cx.wish]
  refine wp_start (s2 := [some v0]) rfl ?_
  obtain ⟨a, bs, rfl, hS, hl, q⟩ := h
  wtm_at "wp"
  refine wp_slL hS (cut5 bs) (fun p hp => ?_)
  have s0 := same_new hp (.lst ((last5 bs).map V.int))
  wtm_at "wp"
  refine ⟨small (show 1 ≤ 1000 by decide), fun p1 hp1 => ?_⟩
  wtm_at "wp"
  refine wp_rep at_same (by decide) (by decide) (small (show 1 * 5 ≤ 1000 by decide)) (fun p2 hp2 => ?_)
  rw [flat5a] at *
  wtm_at "wp"
  refine ⟨small (show 1 ≤ 1000 by decide), fun p3 hp3 => ?_⟩
  wtm_at "wp"
  refine wp_rep at_same (by decide) (by decide) (small (show 1 * 5 ≤ 1000 by decide)) (fun p4 hp4 => ?_)
  rw [flat5b] at *
  wtm_at "wp"
  refine ⟨small (show 2 ≤ 1000 by decide), fun t ht => ?_⟩
  refine ⟨t, p2, p4, _, _, rfl, At.sqT at_same, by wtm_at "hn", eqk_ints (xs := [0, 0, 0, 0, 0]) (ys := last5 bs) (by wtm_at "hg") (by wtm_at "hg"), eqk_ints (xs := [1, 1, 1, 1, 1]) (ys := last5 bs) (by wtm_at "hg") (by wtm_at "hg"), ?_⟩
  have ed : (decide (([0, 0, 0, 0, 0] : List Int) = last5 bs) || decide (([1, 1, 1, 1, 1] : List Int) = last5 bs)) = due bs := by
    unfold due
    rw [Bool.eq_iff_iff]
    simp only [Bool.or_eq_true, decide_eq_true_eq, beq_iff_eq]
    constructor
    · rintro (z | z)
      · exact .inl z.symm
      · exact .inr z.symm
    · rintro (z | z)
      · exact .inl z.symm
      · exact .inr z.symm
  rw [ed]
  exact q _ (by wtm_at "hs")
end


theorem cnt_le {p : List Int} (h : Bits p) : cnt p ≤ 15 := by
  unfold cnt
  rcases getD_bit h 12 with a | a <;> rcases getD_bit h 13 with b | b <;> rcases getD_bit h 14 with c | c <;> rcases getD_bit h 15 with d | d <;> omega
theorem drop_take4 (p : List Int) (a b : Nat) : (p.take b).drop a = (p.drop a).take (b - a) := List.drop_take
theorem cutI (p : List Int) (a b : Nat) : cutV (p.map V.int) (some (a : Int)) (some (b : Int)) = ((p.drop a).take (b - a)).map V.int := by
  rw [cut_nat, ← List.map_take, ← List.map_drop, drop_take4]
theorem cutIto (p : List Int) (b : Nat) : cutV (p.map V.int) none (some (b : Int)) = (p.take b).map V.int := by rw [cut_to, List.map_take]
theorem atI_last' {l : List Int} (h : l ≠ []) : atI (l.map V.int) (-1) = some (.int (l.getLastD 0)) := by
  rcases snoc_cases l with rfl | ⟨m, b, rfl⟩
  · exact absurd rfl h
  · rw [List.map_append, getLastD_snoc]
    exact atI_last _ _
theorem due_ne {w : List Int} (h : due w = true) : w ≠ [] := by
  rintro rfl
  exact absurd h (by decide)
abbrev s_head_choices : Stmt := (top 19)
abbrev sp_head_choices (K : PySem.W.Frag) (c : Cs) : Sp := sp1 fun v H Q _ => ∃ (a : Addr) (p : List Int), v = .ref a ∧ SqL K H a (p.map V.int) ∧ p.length < 16 ∧ MkT H Q (headCh p)
section
variable {P : Program} {w : World} {K : PySem.W.Frag} {mg : Str → Option Value} {base : Heap} {c : Cs}
theorem sc_head_choices : FnScope ["plain"] ["plain"] (defScope s_head_choices) := ⟨rfl, rfl, rfl, by decide +kernel, rfl, by decide +kernel, by decide +kernel⟩
theorem ok_head_choices (T : Txt K mg c) : HasF P w K mg base CX0 1 "head_choices" ["plain"] (sp_head_choices K c) := by
  refine T.d_head_choices.ok sc_head_choices (fun _ _ _ _ _ _ us hl => match us, hl with | [_], _ => rfl) len1 (fun f cdv A outer s H vs Q E hr h => ?_)
  obtain ⟨v0, rfl, h⟩ := h
  refine ⟨_, (pss_cons (ps_if (pt_cmpR op_eq (pe_callB (call_lenKK (K := K)) rfl T.len PySem.boot_len (pa_cons (pv 0) pa_nil)) pe_int (nomark _))
        (pss_one (ps_ret (pe_tup (pa_cons pe_int pa_nil))))
        pss_nil)
      (pss_cons (ps_if (PW.pt (pw_and (pt_cmpR op_gt (pe_callB (call_lenKK (K := K)) rfl T.len PySem.boot_len (pa_cons (pv 0) pa_nil)) (pgi T.c_COUNT_AT) (nomark _)) (pw_and1 (pt_cmpR op_eq (pe_ix (ix_listK (K := K)) (pv 0) (pgi T.c_COUNT_AT) (fun _ _ => rfl)) pe_int (nomark _)))))
        (pss_one (ps_ret (pe_tup (pa_cons pe_int pa_nil))))
        pss_nil)
      (pss_one (ps_ret (pe_tup (pa_cons pe_int (pa_cons pe_int pa_nil))))))), ?_⟩
  try dsimp only [cxOf, Cx.nox, Cx.wish]
  refine wp_start (s2 := [some v0]) rfl ?_
  obtain ⟨a, p, rfl, hS, hl, q⟩ := h
  wtm_at "wp"
  rw [List.length_map]
  refine wp_dec (fun c1 => ?_) (fun c1 => ?_)
  · wtm_at "wp"
    refine ⟨small (show 1 ≤ 1000 by decide), fun t ht => ?_⟩
    wtm_at "wp"
    refine q t _ (by wtm_at "hs") ht ?_
    rw [show headCh p = [0] by unfold headCh; rw [if_pos (by omega)]]
    exact at_same
  wtm_at "wp"
  rw [List.length_map]
  have n1 : ¬ p.length = 0 := by omega
  refine wp_dec (fun c2 => ?_) (fun c2 => ?_)
  · wtm_at "wp"
    refine wp_ixL hS (show atI (p.map V.int) ((12 : Nat) : Int) = _ from atI_map (by omega)) ?_
    wtm_at "wp"
    refine wp_dec (fun c3 => ?_) (fun c3 => ?_)
    · wtm_at "wp"
      refine ⟨small (show 1 ≤ 1000 by decide), fun t ht => ?_⟩
      wtm_at "wp"
      refine q t _ (by wtm_at "hs") ht ?_
      rw [show headCh p = [0] by unfold headCh; rw [if_neg n1, if_pos ⟨by omega, c3⟩]]
      exact at_same
    · wtm_at "wp"
      refine ⟨small (show 2 ≤ 1000 by decide), fun t ht => ?_⟩
      wtm_at "wp"
      refine q t _ (by wtm_at "hs") ht ?_
      rw [show headCh p = [0, 1] by unfold headCh; rw [if_neg n1, if_neg (fun z => c3 z.2)]]
      exact at_same
  · wtm_at "wp"
    refine ⟨small (show 2 ≤ 1000 by decide), fun t ht => ?_⟩
    wtm_at "wp"
    refine q t _ (by wtm_at "hs") ht ?_
    rw [show headCh p = [0, 1] by unfold headCh; rw [if_neg n1, if_neg (fun z => c2 (by omega))]]
    exact at_same
end
abbrev s_check_place : Stmt := (top 20)
abbrev sp_check_place (K : PySem.W.Frag) (c : Cs) : Sp := sp1 fun v H Q _ => ∃ (a : Addr) (p : List Int), v = .ref a ∧ SqL K H a (p.map V.int) ∧ 16 ≤ p.length ∧ NewI H Q (16 + 8 * cnt p)
section
variable {P : Program} {w : World} {K : PySem.W.Frag} {mg : Str → Option Value} {base : Heap} {c : Cs}
theorem sc_check_place : FnScope ["plain"] ["plain"] (defScope s_check_place) := ⟨rfl, rfl, rfl, by decide +kernel, rfl, by decide +kernel, by decide +kernel⟩
theorem ok_check_place (T : Txt K mg c) : HasF P w K mg base CX0 2 "check_place" ["plain"] (sp_check_place K c) := by
  refine T.d_check_place.ok sc_check_place (fun _ _ _ _ _ _ us hl => match us, hl with | [_], _ => rfl) len1 (fun f cdv A outer s H vs Q E hr h => ?_)
  obtain ⟨v0, rfl, h⟩ := h
  refine ⟨_, (pss_one (ps_ret (pe_op op_add (pgi T.c_ROW_AT) (pe_op op_mul (pgi T.c_BYTE_BITS) (pe_f (ok_number_of T) hr pass0 (pa_cons (pe_slice (sl_listK (K := K)) (pv 0) (po_some (pgi T.c_COUNT_AT)) (po_some (pgi T.c_ROW_AT))) pa_nil)))))), ?_⟩
  try dsimp only [cxOf, Cx.nox, Cx.wish]
  refine wp_start (s2 := [some v0]) rfl ?_
  obtain ⟨a, p, rfl, hS, hl, q⟩ := h
  wtm_at "wp"
  refine wp_slL hS (cutI p 12 16) (fun t ht => ?_)
  wtm_at "wp"
  refine ⟨t, (p.drop 12).take 4, rfl, At.sqL at_same, ?_⟩
  rw [num4 hl]
  wtm_at "wp"
  exact q _ (by wtm_at "hs")
end
abbrev s_plain_choices : Stmt := (top 21)
abbrev sp_plain_choices (K : PySem.W.Frag) (c : Cs) : Sp := sp1 fun v H Q _ => ∃ (a : Addr) (p : List Int), v = .ref a ∧ SqL K H a (p.map V.int) ∧ Bits p ∧ (16 ≤ p.length → p.length ≤ ckAt p + 15) ∧ p.length ≤ 200 ∧ MkT H Q (plainCh p)
section
variable {P : Program} {w : World} {K : PySem.W.Frag} {mg : Str → Option Value} {base : Heap} {c : Cs}
theorem sc_plain_choices : FnScope ["plain", "check_at"] ["plain"] (defScope s_plain_choices) := ⟨rfl, rfl, rfl, by decide +kernel, rfl, by decide +kernel, by decide +kernel⟩
theorem ok_plain_choices (T : Txt K mg c) : HasF P w K mg base CX0 3 "plain_choices" ["plain"] (sp_plain_choices K c) := by
  refine T.d_plain_choices.ok sc_plain_choices (fun _ _ _ _ _ _ us hl => match us, hl with | [_], _ => rfl) len1 (fun f cdv A outer s H vs Q E hr h => ?_)
  obtain ⟨v0, rfl, h⟩ := h
  refine ⟨_, (pss_cons (ps_if (pt_cmpR op_lt (pe_callB (call_lenKK (K := K)) rfl T.len PySem.boot_len (pa_cons (pv 0) pa_nil)) (pgi T.c_ROW_AT) (nomark _))
        (pss_one (ps_ret (pe_f (ok_head_choices T) hr pass0 (pa_cons (pv 0) pa_nil))))
        pss_nil)
      (pss_cons (ps_set (i := 1) sc_plain_choices.nd rfl (by first | exact Or.inl rfl | exact Or.inr rfl) (pe_f (ok_check_place T) hr pass0 (pa_cons (pv 0) pa_nil)))
      (pss_cons (ps_if (pt_cmpR op_lt (pe_callB (call_lenKK (K := K)) rfl T.len PySem.boot_len (pa_cons (pv 0) pa_nil)) (pv 1) (nomark _))
        (pss_one (ps_ret (pe_tup (pa_cons pe_int (pa_cons pe_int pa_nil)))))
        pss_nil)
      (pss_cons (ps_if (pt_cmpR op_eq (pe_callB (call_lenKK (K := K)) rfl T.len PySem.boot_len (pa_cons (pv 0) pa_nil)) (pe_op op_add (pv 1) (pgi T.c_CHECK_BITS)) (nomark _))
        (pss_one (ps_ret (pe_tup pa_nil)))
        pss_nil)
      (pss_one (ps_ret (pe_tup (pa_cons (pe_ix (ix_listK (K := K)) (pe_f (ok_check_of T) hr pass0 (pa_cons (pe_slice (sl_listK (K := K)) (pv 0) po_none (po_some (pv 1))) pa_nil)) (pe_op op_sub (pe_callB (call_lenKK (K := K)) rfl T.len PySem.boot_len (pa_cons (pv 0) pa_nil)) (pv 1)) (fun _ _ => rfl)) pa_nil)))))))), ?_⟩
  try dsimp only [cxOf, Cx.nox, Cx.wish]
  refine wp_start (s2 := [some v0, none]) rfl ?_
  obtain ⟨a, p, rfl, hS, hb, hk, hl, q⟩ := h
  have c0 := cnt_nn hb
  have c15 := cnt_le hb
  have ek : ((ckAt p : Nat) : Int) = 16 + 8 * cnt p := by unfold ckAt; omega
  wtm_at "wp"
  rw [List.length_map]
  refine wp_dec (fun c1 => ?_) (fun c1 => ?_)
  · wtm_at "wp"
    refine ⟨a, p, rfl, hS, by omega, ?_⟩
    rw [show plainCh p = headCh p by unfold plainCh; rw [if_pos (by omega)]] at q
    exact q
  have n1 : ¬ p.length < 16 := by omega
  have hk' := hk (by omega)
  wtm_at "wp"
  refine ⟨a, p, rfl, hS, by omega, fun H1 s1 => ?_⟩
  rw [← ek]
  wtm_at "wp"
  rw [List.length_map]
  refine wp_dec (fun c2 => ?_) (fun c2 => ?_)
  · wtm_at "wp"
    refine ⟨small (show 2 ≤ 1000 by decide), fun t ht => ?_⟩
    wtm_at "wp"
    refine q t _ (by wtm_at "hs") (by wtm_at "hf") ?_
    rw [show plainCh p = [0, 1] by unfold plainCh; rw [if_neg n1, if_pos (by omega)]]
    exact at_same
  have n2 : ¬ p.length < ckAt p := by omega
  wtm_at "wp"
  rw [List.length_map]
  refine wp_dec (fun c3 => ?_) (fun c3 => ?_)
  · wtm_at "wp"
    refine ⟨small (show 0 ≤ 1000 by decide), fun t ht => ?_⟩
    wtm_at "wp"
    refine q t _ (by wtm_at "hs") (by wtm_at "hf") ?_
    rw [show plainCh p = [] by unfold plainCh; rw [if_neg n1, if_neg n2, if_pos (by omega)]]
    exact at_same
  · wtm_at "wp"
    refine wp_slL (by wtm_at "hg") (cutIto p (ckAt p)) (fun t ht => ?_)
    wtm_at "wp"
    refine ⟨t, p.take (ckAt p), rfl, At.sqL at_same, hb.take _, by rw [List.length_take]; omega, fun r H2 s2 hr2 e2 => ?_⟩
    wtm_at "wp"
    rw [List.length_map]
    have hlt : p.length - ckAt p < (chk (p.take (ckAt p))).length := by rw [chk_len]; omega
    refine wp_ixL (by wtm_at "hg") (show atI _ ((p.length : Int) - (ckAt p : Int)) = _ by rw [show (p.length : Int) - (ckAt p : Int) = ((p.length - ckAt p : Nat) : Int) by omega]; exact atI_map hlt) ?_
    wtm_at "wp"
    refine ⟨small (show 1 ≤ 1000 by decide), fun u hu => ?_⟩
    wtm_at "wp"
    have s12 : Same H H2 := s1.trans ((same_new ht _).trans s2)
    refine q u _ (Same.new s12 hu) (s12.fr hu) ?_
    rw [show plainCh p = [(chk (p.take (ckAt p))).getD (p.length - ckAt p) 0] by unfold plainCh; rw [if_neg n1, if_neg n2, if_neg (by omega)]]
    exact at_same
end
abbrev s_choices_behind : Stmt := (top 22)
abbrev sp_choices_behind (K : PySem.W.Frag) (c : Cs) : Sp := sp2 fun u v H Q _ => ∃ (a b : Addr) (ws p : List Int), u = .ref a ∧ v = .ref b ∧ SqL K H a (ws.map V.int) ∧ SqL K H b (p.map V.int) ∧ Bits p ∧ (16 ≤ p.length → p.length ≤ ckAt p + 15) ∧ p.length ≤ 200 ∧ ws.length ≤ 900 ∧ MkT H Q (choices ws p)
section
variable {P : Program} {w : World} {K : PySem.W.Frag} {mg : Str → Option Value} {base : Heap} {c : Cs}
theorem sc_choices_behind : FnScope ["wire", "plain"] ["wire", "plain"] (defScope s_choices_behind) := ⟨rfl, rfl, rfl, by decide +kernel, rfl, by decide +kernel, by decide +kernel⟩
theorem ok_choices_behind (T : Txt K mg c) : HasF P w K mg base CX0 4 "choices_behind" ["wire", "plain"] (sp_choices_behind K c) := by
  refine T.d_choices_behind.ok sc_choices_behind (fun _ _ _ _ _ _ us hl => match us, hl with | [_, _], _ => rfl) len2 (fun f cdv A outer s H vs Q E hr h => ?_)
  obtain ⟨v0, v1, rfl, h⟩ := h
  refine ⟨_, (pss_cons (ps_if (pt_val (pe_f (ok_is_one_due T) hr pass0 (pa_cons (pv 0) pa_nil)))
        (pss_one (ps_ret (pe_tup (pa_cons (pe_op op_sub pe_int (pe_ix (ix_listK (K := K)) (pv 0) (pe_un un_neg pe_int) (fun _ _ => rfl))) pa_nil))))
        pss_nil)
      (pss_one (ps_ret (pe_f (ok_plain_choices T) hr pass0 (pa_cons (pv 1) pa_nil))))), ?_⟩
  try dsimp only [cxOf, Cx.nox, Cx.wish]
  refine wp_start (s2 := [some v0, some v1]) rfl ?_
  obtain ⟨a, b, ws, p, rfl, rfl, hA, hB, hb, hk, hl, hw, q⟩ := h
  wtm_at "wp"
  refine ⟨a, ws, rfl, hA, hw, fun H1 s1 => ?_⟩
  wtm_at "wp"
  refine ite2 (fun c1 => ?_) (fun c1 => ?_)
  · wtm_at "wp"
    refine wp_ixL (by wtm_at "hg") (atI_last' (due_ne c1)) ?_
    wtm_at "wp"
    refine ⟨small (show 1 ≤ 1000 by decide), fun t ht => ?_⟩
    wtm_at "wp"
    refine q t _ (by wtm_at "hs") (by wtm_at "hf") ?_
    rw [show choices ws p = [1 - ws.getLastD 0] by unfold choices; rw [if_pos c1]]
    exact at_same
  · wtm_at "wp"
    refine ⟨b, p, rfl, by wtm_at "hg", hb, hk, hl, fun t H2 s2 ht e2 => ?_⟩
    refine q t _ (s1.trans s2) (by wtm_at "hf") ?_
    rw [show choices ws p = plainCh p by unfold choices; rw [if_neg c1]]
    exact e2
end
abbrev s_parts_of : Stmt := (top 23)
abbrev sp_parts_of (K : PySem.W.Frag) (c : Cs) : Sp := sp1 fun v H Q _ => ∃ (a : Addr) (p : List Int), v = .ref a ∧ SqL K H a (p.map V.int) ∧ 16 ≤ p.length ∧ Bits p ∧ (∀ t r o H', Same H H' → Free H t → Free H r → At H' t (.tup [.int (nameOf p), .ref r]) → At H' r (.frz o (.lst ((rowOf p).map V.int))) → Q (.ref t) H')
section
variable {P : Program} {w : World} {K : PySem.W.Frag} {mg : Str → Option Value} {base : Heap} {c : Cs}
theorem sc_parts_of : FnScope ["plain", "name", "row"] ["plain"] (defScope s_parts_of) := ⟨rfl, rfl, rfl, by decide +kernel, rfl, by decide +kernel, by decide +kernel⟩
theorem ok_parts_of (T : Txt K mg c) : HasF P w K mg base CX0 3 "parts_of" ["plain"] (sp_parts_of K c) := by
  refine T.d_parts_of.ok sc_parts_of (fun _ _ _ _ _ _ us hl => match us, hl with | [_], _ => rfl) len1 (fun f cdv A outer s H vs Q E hr h => ?_)
  obtain ⟨v0, rfl, h⟩ := h
  refine ⟨_, (pss_cons (ps_set (i := 1) sc_parts_of.nd rfl (by first | exact Or.inl rfl | exact Or.inr rfl) (pe_f (ok_number_of T) hr pass0 (pa_cons (pe_slice (sl_listK (K := K)) (pv 0) (po_some (pgi T.c_NAME_AT)) (po_some (pgi T.c_COUNT_AT))) pa_nil)))
      (pss_cons (ps_setC (i := 2) (fv := ["plain"]) (js := [0]) sc_parts_of.nd rfl (by first | exact Or.inl rfl | exact Or.inr rfl) (pi_range3 rfl T.range (pa_cons (pgi T.c_ROW_AT) (pa_cons (pe_f (ok_check_place T) hr pass0 (pa_cons (pv 0) pa_nil)) (pa_cons (pgi T.c_BYTE_BITS) pa_nil))))  (fun fp s H => (pe_f (ok_number_of T) hr pass0 (pa_cons (pe_slice (sl_listK (K := K)) (pv 0) (po_some (pv 1)) (po_some (pe_op op_add (pv 1) (pgi T.c_BYTE_BITS)))) pa_nil))))
      (pss_one (ps_ret (pe_tup (pa_cons (pv 1) (pa_cons (pe_frz (pv 2)) pa_nil))))))), ?_⟩
  try dsimp only [cxOf, Cx.nox, Cx.wish]
  refine wp_start (s2 := [some v0, none, none]) rfl ?_
  obtain ⟨a, p, rfl, hS, hl, hb, q⟩ := h
  have c0 := cnt_nn hb
  have c15 := cnt_le hb
  wtm_at "wp"
  refine wp_slL hS (cutI p 1 12) (fun t ht => ?_)
  wtm_at "wp"
  refine ⟨t, (p.drop 1).take 11, rfl, At.sqL at_same, ?_⟩
  wtm_at "wp"
  refine wp_compS ?_
  wtm_at "wp"
  refine ⟨a, p, rfl, by wtm_at "hg", hl, fun H1 s1 => ?_⟩
  wtm_at "wp"
  have s01 : Same H H1 := (same_new ht _).trans s1
  refine wp_compSA (cnt p).toNat (fun j => .int (numOf ((p.drop (16 + 8 * j)).take 8))) (by decide) (by omega) (by omega) (fun k H' R hk s2 hR => ?_) (fun D Hf s2 hD e => ?_)
  · show tCall _ _ _ _ [some (.ref a), some (.int (16 + (k : Nat) * 8))] _ _
    wtm_at "wp"
    refine wp_slL (s2.seq (s01.seq hS)) (show cutV (p.map V.int) _ _ = ((p.drop (16 + 8 * k)).take 8).map V.int by
      rw [show (16 : Int) + (k : Nat) * 8 = ((16 + 8 * k : Nat) : Int) by omega, show ((16 + 8 * k : Nat) : Int) + 8 = ((16 + 8 * k + 8 : Nat) : Int) by omega, cutI]
      congr 2
      omega) (fun u hu => ?_)
    wtm_at "wp"
    exact ⟨u, _, rfl, At.sqL at_same, hR _ (same_new hu _)⟩
  have eD : At Hf D (.lst ((rowOf p).map V.int)) := by
    unfold rowOf
    rw [List.map_map]
    exact e
  have s02 : Same H Hf := s01.trans s2
  have hDH : Free H D := s01.fr hD
  wtm_at "wp"
  refine wp_frzA eD (fun o => ?_)
  wtm_at "wp"
  refine ⟨small (show 2 ≤ 1000 by decide), fun u hu => ?_⟩
  wtm_at "wp"
  have s3 : Same H (upd Hf D (.frz o (.lst ((rowOf p).map V.int)))) := s02.upF hDH
  exact q u D o _ (s3.new hu) (s3.fr hu) hDH at_same (upd_new hu at_same)
end


/-! ### the object that reads -/
structure RdAt (c : Cs) (H : Hp) (r w p : Addr) (ws ps : List Int) : Prop where
  ob : ∃ dx ch, At H r (.ins c.R dx (rdF (.ref w) (.ref p) (.ref ch))) ∧ At H ch (.tup ((choices ws ps).map V.int))
  wr : At H w (.lst (ws.map V.int))
  pl : At H p (.lst (ps.map V.int))
  ne : w ≠ p
theorem Chg.made {x dx : Addr} {H H' : Hp} {o o' : HO} (hx : Free H x) (hd : Free H dx) (h : Chg [x] (upd (upd H dx o) x o') H') : Same H H' := fun b u e => by
  refine h b u (notin1 (ne_of_none e hx)) ?_
  exact upd_oth (ne_of_none e hx) (upd_oth (ne_of_none e hd) e)
theorem fre_made {x dx p : Addr} {H : Hp} {o o' : HO} (hx : Free H x) (hd : Free H dx) (h : Free (upd (upd H dx o) x o') p) : H p = none := fre2 h
theorem Rd.plen {w p : List Int} (r : Rd w p) : p.length ≤ 95 := by
  have h1 := r.fit.len
  have h2 := r.fit.h8
  unfold ckAt at h1
  omega
theorem Rd.wlen {w p : List Int} (r : Rd w p) : w.length ≤ 190 := by
  have h1 := r.plen
  have h2 := stuff_len p
  rw [r.st] at h2
  split at h2
  · rw [List.length_append] at h2
    omega
  · omega
theorem rck_empty {K : PySem.W.Frag} {H : Hp} {a b : Addr} {xs : List V} (ha : SqT K H a xs) (hb : SqT K H b []) : RcK K H 8 (.ref a) (.ref b) (xs.isEmpty) := fun X e => by
  subst e
  have := rcw_tup (X := X) (H := H) (n := 7) (e := fun _ => true) ha hb (fun j x y _ h => by simp at h)
  have e : ((List.range (min xs.length ([] : List V).length)).all (fun _ => true) && xs.length == ([] : List V).length) = xs.isEmpty := by
    cases xs <;> simp
  rw [e] at this
  exact this
theorem map_empty (l : List Int) : (l.map V.int).isEmpty = decide (l = []) := by cases l <;> simp
abbrev s_Reading___init__ : Stmt := (inClass (top 24) 0)
abbrev sp_Reading___init__ (K : PySem.W.Frag) (c : Cs) : Sp := sp1 fun v H Q _ => ∃ x dx, v = .ref x ∧ At H x (.ins c.R dx []) ∧ (∀ H' w p, Chg [x] H H' → Free H w → Free H p → RdAt c H' x w p [] [] → Q .non H')
section
variable {P : Program} {w : World} {K : PySem.W.Frag} {mg : Str → Option Value} {base : Heap} {c : Cs}
theorem sc_Reading___init__ : FnScope ["self"] ["self"] (defScope s_Reading___init__) := ⟨rfl, rfl, rfl, by decide +kernel, rfl, by decide +kernel, by decide +kernel⟩
theorem ok_Reading___init__ (T : Txt K mg c) : HasI P w K mg base CX0 5 c.R ["self"] (sp_Reading___init__ K c) := by
  refine T.d_Reading___init__.ok sc_Reading___init__ (fun _ _ _ _ _ _ us hl => match us, hl with | [_], _ => rfl) len1 (fun f cdv A outer s H vs Q E hr h => ?_)
  obtain ⟨v0, rfl, h⟩ := h
  refine ⟨_, (pss_cons (ps_fldK (K := K) (pv 0) (pe_lst pa_nil))
      (pss_cons (ps_fldK (K := K) (pv 0) (pe_lst pa_nil))
      (pss_one (ps_fldK (K := K) (pv 0) (pe_f (ok_choices_behind T) hr pass0 (pa_cons (pe_lst pa_nil) (pa_cons (pe_lst pa_nil) pa_nil))))))), ?_⟩
  try dsimp only [cxOf, Cx.nox, Cx.wish]
  refine wp_start (s2 := [some v0]) rfl ?_
  obtain ⟨x, dx, rfl, ex, q⟩ := h
  wtm_at "wp"
  refine ⟨small (show 0 ≤ 1000 by decide), fun w hw => ?_⟩
  have nxw : x ≠ w := by wtm_at "hn"
  wtm_at "wp"
  refine ⟨small (show 0 ≤ 1000 by decide), fun p hp => ?_⟩
  have nxp : x ≠ p := ne_new hp at_same
  have nwp : w ≠ p := ne_new hp (by wtm_at "hg")
  wtm_at "wp"
  refine ⟨small (show 0 ≤ 1000 by decide), fun y1 hy1 => ?_⟩
  have nx1 : x ≠ y1 := ne_new hy1 at_same
  have np1 : p ≠ y1 := ne_new hy1 (by wtm_at "hg")
  have nw1 : w ≠ y1 := ne_new hy1 (by wtm_at "hg")
  wtm_at "wp"
  refine ⟨small (show 0 ≤ 1000 by decide), fun y2 hy2 => ?_⟩
  have nx2 : x ≠ y2 := ne_new hy2 (by wtm_at "hg")
  have np2 : p ≠ y2 := ne_new hy2 (by wtm_at "hg")
  have nw2 : w ≠ y2 := ne_new hy2 (by wtm_at "hg")
  wtm_at "wp"
  refine ⟨y1, y2, [], [], rfl, rfl, by show SqL K _ _ []; wtm_at "hg", by show SqL K _ _ []; wtm_at "hg", Bits.nil, fun z => by simp at z, by decide, by decide, fun ch H1 s1 hc ec => ?_⟩
  have nxc : x ≠ ch := ne_new hc (by wtm_at "hg")
  wtm_at "wp"
  have hpH : Free H p := by wtm_at "hf"
  refine q _ w p ?_ hw hpH ⟨⟨dx, ch, at_same, by wtm_at "hg"⟩, by show At _ w (.lst []); wtm_at "hg", by show At _ p (.lst []); wtm_at "hg", nwp⟩
  wtm_at "hc"
end
abbrev s_Reading_take : Stmt := (inClass (top 24) 1)
abbrev sp_Reading_take (K : PySem.W.Frag) (c : Cs) : Sp := sp2 fun u v H Q _ => ∃ (r w p : Addr) (ws ps : List Int) (b : Int), u = .ref r ∧ v = .int b ∧ RdAt c H r w p ws ps ∧ Rd ws ps ∧ Bit b ∧ b ∈ choices ws ps ∧ (∀ H', Chg [r, w, p] H H' → RdAt c H' r w p (ws ++ [b]) (nextP ws ps b) → Q .non H')
section
variable {P : Program} {w : World} {K : PySem.W.Frag} {mg : Str → Option Value} {base : Heap} {c : Cs}
theorem sc_Reading_take : FnScope ["self", "bit"] ["self", "bit"] (defScope s_Reading_take) := ⟨rfl, rfl, rfl, by decide +kernel, rfl, by decide +kernel, by decide +kernel⟩
theorem ok_Reading_take (T : Txt K mg c) : HasM P w K mg base CX0 5 c.R "take" ["self", "bit"] (sp_Reading_take K c) := by
  refine T.d_Reading_take.ok sc_Reading_take (fun _ _ _ _ _ _ us hl => match us, hl with | [_, _], _ => rfl) len2 (fun f cdv A outer s H vs Q E hr h => ?_)
  obtain ⟨v0, v1, rfl, h⟩ := h
  refine ⟨_, (pss_cons (ps_if (pt_not (pt_val (pe_f (ok_is_one_due T) hr pass0 (pa_cons (pe_fldK (K := K) (pv 0)) pa_nil))))
        (pss_one (ps_expr (pe_bmK (K := K) PySem.F.plainAttrs_list PySem.F.slot_list_append PySem.F.type_list_append mt_append (pe_fldK (K := K) (pv 0)) (pa_cons (pv 1) pa_nil))))
        pss_nil)
      (pss_cons (ps_expr (pe_bmK (K := K) PySem.F.plainAttrs_list PySem.F.slot_list_append PySem.F.type_list_append mt_append (pe_fldK (K := K) (pv 0)) (pa_cons (pv 1) pa_nil)))
      (pss_one (ps_fldK (K := K) (pv 0) (pe_f (ok_choices_behind T) hr pass0 (pa_cons (pe_fldK (K := K) (pv 0)) (pa_cons (pe_fldK (K := K) (pv 0)) pa_nil))))))), ?_⟩
  try dsimp only [cxOf, Cx.nox, Cx.wish]
  refine wp_start (s2 := [some v0, some v1]) rfl ?_
  obtain ⟨r, w, p, ws, ps, b, rfl, rfl, ⟨⟨dx, ch, er, ec⟩, ew, ep, nwp⟩, rd, hb, hc, q⟩ := h
  have nrw : r ≠ w := er.ne ew (by intro z; cases z)
  have nrp : r ≠ p := er.ne ep (by intro z; cases z)
  have ncw : ch ≠ w := ec.ne ew (by intro z; cases z)
  have ncp : ch ≠ p := ec.ne ep (by intro z; cases z)
  have ncr : ch ≠ r := ec.ne er (by intro z; cases z)
  have rn := rd.next hb hc
  have l1 := rd.wlen
  have l2 := rd.plen
  have l3 := rn.wlen
  have l4 := rn.plen
  have l5 := rn.fit.len
  have fin : ∀ H1 H2, Chg [r, w, p] H H1 → At H1 r (.ins c.R dx (rdF (.ref w) (.ref p) (.ref ch))) → At H1 w (.lst (ws.map V.int ++ [.int b])) → At H1 p (.lst ((nextP ws ps b).map V.int)) →
      ∀ c2, Same H1 H2 → Free H1 c2 → At H2 c2 (.tup ((choices (ws ++ [b]) (nextP ws ps b)).map V.int)) → Q .non (upd H2 r (.ins c.R dx (rdF (.ref w) (.ref p) (.ref c2)))) := fun H1 H2 k1 e1 e2 e3 c2 s2 f2 e4 => by
    have nc2 : c2 ≠ r := Ne.symm (ne_new f2 e1)
    refine q _ ((k1.trans s2.chg).upd (by simp)) ⟨⟨dx, c2, at_same, by wtm_at "hg"⟩, ?_, by wtm_at "hg", nwp⟩
    rw [List.map_append]
    exact upd_oth (Ne.symm nrw) (s2.get e2)
  wtm_at "wp"
  refine ⟨w, ws, rfl, by wtm_at "hg", by omega, fun H1 s1 => ?_⟩
  wtm_at "wp"
  cases hd : due ws with
  | true =>
    have en : nextP ws ps b = ps := by unfold nextP; rw [if_pos hd]
    rw [en] at fin
    wtm_at "wp"
    refine wp_append (s1.get ew) (small1000 (by rw [List.length_map]; omega)) ?_
    wtm_at "wp"
    refine ⟨w, p, ws ++ [b], ps, rfl, rfl, ?_, by wtm_at "hg", rd.bp, fun _ => rd.fit.len, by omega, by omega, fun c2 H2 s2 f2 e2 => ?_⟩
    · rw [List.map_append]; exact At.sqL at_same
    wtm_at "wp"
    exact fin _ _ ((Same.chg s1).upd (by simp)) (by wtm_at "hg") at_same (by wtm_at "hg") c2 s2 f2 e2
  | false =>
    have en : nextP ws ps b = ps ++ [b] := by unfold nextP; rw [if_neg (by rw [hd]; decide)]
    rw [en] at fin l4 l5
    wtm_at "wp"
    refine wp_append (s1.get ep) (small1000 (by rw [List.length_map]; omega)) ?_
    wtm_at "wp"
    refine wp_append (upd_oth nwp (s1.get ew)) (small1000 (by rw [List.length_map]; omega)) ?_
    wtm_at "wp"
    refine ⟨w, p, ws ++ [b], ps ++ [b], rfl, rfl, ?_, ?_, ?_, ?_, by omega, by rw [List.length_append, List.length_singleton]; omega, fun c2 H2 s2 f2 e2 => ?_⟩
    · rw [List.map_append]; exact At.sqL at_same
    · rw [List.map_append]; exact At.sqL (upd_oth (Ne.symm nwp) at_same)
    · rw [← en]; exact rn.bp
    · intro _
      rw [← en]
      rw [← en] at l5
      exact rn.fit.len
    wtm_at "wp"
    refine fin _ _ (((Same.chg s1).upd (by simp)).upd (by simp)) (by wtm_at "hg") at_same ?_ c2 s2 f2 e2
    rw [List.map_append]; exact upd_oth (Ne.symm nwp) at_same
end
abbrev s_Reading_is_over : Stmt := (inClass (top 24) 2)
abbrev sp_Reading_is_over (K : PySem.W.Frag) (c : Cs) : Sp := sp1 fun u H Q _ => ∃ (r w p : Addr) (ws ps : List Int), u = .ref r ∧ RdAt c H r w p ws ps ∧ (∀ H', Same H H' → Q (.bl (decide (choices ws ps = []))) H')
section
variable {P : Program} {w : World} {K : PySem.W.Frag} {mg : Str → Option Value} {base : Heap} {c : Cs}
theorem sc_Reading_is_over : FnScope ["self"] ["self"] (defScope s_Reading_is_over) := ⟨rfl, rfl, rfl, by decide +kernel, rfl, by decide +kernel, by decide +kernel⟩
theorem ok_Reading_is_over (T : Txt K mg c) : HasM P w K mg base CX0 1 c.R "is_over" ["self"] (sp_Reading_is_over K c) := by
  refine T.d_Reading_is_over.ok sc_Reading_is_over (fun _ _ _ _ _ _ us hl => match us, hl with | [_], _ => rfl) len1 (fun f cdv A outer s H vs Q E hr h => ?_)
  obtain ⟨v0, rfl, h⟩ := h
  refine ⟨_, (pss_one (ps_ret (pe_cmpR (op_eqKK (K := K) hr) (pe_fldK (K := K) (pv 0)) (pe_tup pa_nil) (nomark _)))), ?_⟩
  try dsimp only [cxOf, Cx.nox, Cx.wish]
  refine wp_start (s2 := [some v0]) rfl ?_
  obtain ⟨r, w, p, ws, ps, rfl, ⟨⟨dx, ch, er, ec⟩, ew, ep, nwp⟩, q⟩ := h
  wtm_at "wp"
  refine ⟨small (show 0 ≤ 1000 by decide), fun t ht => ?_⟩
  refine ⟨_, rck_empty (xs := (choices ws ps).map V.int) (by wtm_at "hg") (by wtm_at "hg"), ?_⟩
  rw [map_empty]
  wtm_at "wp"
  exact q _ (same_new ht _)
end


theorem take_snoc {l : List Int} {i : Nat} {b : Int} (h : l[i]? = some b) : l.take (i + 1) = l.take i ++ [b] := by
  obtain ⟨hi, e⟩ := List.getElem?_eq_some_iff.mp h
  rw [List.take_succ_eq_append_getElem hi, e]
theorem log_small {n : Int} (h0 : -1 ≤ n) (h1 : n ≤ 1000000) : n.natAbs.log2 < 1920 := by
  have h : n.natAbs < 2 ^ 20 := by
    have : (2 : Nat) ^ 20 = 1048576 := by decide
    omega
  have : n.natAbs.log2 < 20 := by
    rcases Nat.eq_zero_or_pos n.natAbs with z | z
    · rw [z]; decide
    · exact (Nat.log2_lt (by omega)).mpr h
  omega
abbrev s_BadBits___init__ : Stmt := (inClass (top 5) 0)
abbrev sp_BadBits___init__ (K : PySem.W.Frag) (c : Cs) : Sp := sp2 fun u v H Q _ => ∃ (e : Addr) (n : Int), u = .ref e ∧ v = .int n ∧ n.natAbs.log2 < 1920 ∧ At H e (excN e c.B none) ∧ ∀ d, Free H d → Q .non (upd (upd H d (.xd [("place", .int n)])) e (excN e c.B (some d)))
section
variable {P : Program} {w : World} {K : PySem.W.Frag} {mg : Str → Option Value} {base : Heap} {c : Cs}
theorem sc_BadBits___init__ : FnScope ["self", "place"] ["self", "place"] (defScope s_BadBits___init__) := ⟨rfl, rfl, rfl, by decide +kernel, rfl, by decide +kernel, by decide +kernel⟩
theorem ok_BadBits___init__ (T : Txt K mg c) : HasX P w K mg base CX0 7 c.B ["self", "place"] (sp_BadBits___init__ K c) := by
  refine T.d_BadBits___init__.ok sc_BadBits___init__ (fun _ _ _ _ _ _ us hl => match us, hl with | [_, _], _ => rfl) len2 (fun f cdv A outer s H vs Q E hr h => ?_)
  obtain ⟨v0, v1, rfl, h⟩ := h
  refine ⟨_, (pss_cons (ps_expr (pe_binitK (K := K) T.bb_BusError rfl T.m_BusError (pa_cons (pv 0) (pa_cons (pe_fstr (pj_c (pj_v (pv 1) pj_nil))) pa_nil))))
      (pss_one (ps_setXK (K := K) (pv 0) (pv 1)))), ?_⟩
  try dsimp only [cxOf, Cx.nox, Cx.wish]
  refine wp_start (s2 := [some v0, some v1]) rfl ?_
  obtain ⟨e, n, rfl, rfl, hl, he, q⟩ := h
  wtm_at "wp"
  refine wp_binit ?_
  wtm_at "wp"
  refine ⟨hl, fun y => ?_⟩
  wtm_at "wp"
  refine wp_binitA he T.d_BadBits___init__.err ?_ (show 1 ≤ 100 by decide)
  wtm_at "wp"
  refine wp_setX ?_
  wtm_at "wp"
  refine wp_setXA he T.s_BadBits T.a_BadBits_place (fun d hd => ?_)
  exact q d hd
end
/-- the heap behind the raise of an error that was made in a def -/
theorem del_made {H : Hp} {e d : Addr} {o1 o2 o3 : HO} (he : Free H e) (hd : Free (upd H e o1) d) : Same H (del (upd (upd (upd H e o1) d o2) e o3) e) ∧ At (del (upd (upd (upd H e o1) d o2) e o3) e) d o2 := by
  have hde : d ≠ e := fun z => by
    subst z
    have h : upd H d o1 d = none := hd
    rw [upd_same] at h
    cases h
  refine ⟨fun z o hz => ?_, ?_⟩
  · have ze : z ≠ e := fun q => by
      subst q
      have h : H z = none := he
      rw [hz] at h
      cases h
    have zd : z ≠ d := fun q => by
      subst q
      have h : upd H e o1 z = none := hd
      rw [upd_ne ze, hz] at h
      cases h
    show del _ e z = some o
    rw [del_ne ze, upd_ne ze, upd_ne zd, upd_ne ze]
    exact hz
  · show del _ e d = some o2
    rw [del_ne hde, upd_ne hde, upd_same]
abbrev s_frame_of : Stmt := (top 25)
abbrev sp_frame_of (K : PySem.W.Frag) (c : Cs) : Sp := sp1 fun v H Q E => ∃ (a : Addr) (bs : List Int), v = .ref a ∧ SqL K H a (bs.map V.int) ∧ Bits bs ∧ bs.length ≤ 1000 ∧ (∀ p t r o H', Placed bs (-1) → Rd bs p → choices bs p = [] → Same H H' → Free H t → Free H r → At H' t (.tup [.int (nameOf p), .ref r]) → At H' r (.frz o (.lst ((rowOf p).map V.int))) → Q (.ref t) H') ∧ (∀ (n : Nat) d H', Placed bs n → Same H H' → At H' d (.xd [("place", .int n)]) → E (.ref c.B) (some d) H')
section
variable {P : Program} {w : World} {K : PySem.W.Frag} {mg : Str → Option Value} {base : Heap} {c : Cs}
theorem sc_frame_of : FnScope ["bits", "reading", "bit"] ["bits"] (defScope s_frame_of) := ⟨rfl, rfl, rfl, by decide +kernel, rfl, by decide +kernel, by decide +kernel⟩
theorem ok_frame_of (T : Txt K mg c) : HasF P w K mg base (CXe P w) 9 "frame_of" ["bits"] (sp_frame_of K c) := by
  refine T.d_frame_of.okE sc_frame_of (fun _ _ _ _ _ _ us hl => match us, hl with | [_], _ => rfl) len1 (fun f cdv A outer s H vs Q E hr h => ?_)
  obtain ⟨v0, rfl, h⟩ := h
  refine ⟨_, (pss_cons (ps_set (i := 1) sc_frame_of.nd rfl (by first | exact Or.inl rfl | exact Or.inr rfl) (pe_mk0 (ok_Reading___init__ T) hr T.m_Reading pass0))
      (pss_cons (ps_for PassesOwn.leaving rfl (pi_listK (K := K) (pv 0)) (pg_name (i := 2) sc_frame_of.nd rfl (by first | exact Or.inl rfl | exact Or.inr rfl))
        (pss_cons (ps_if (pt_cmpR (op_notIn_seqK (K := K)) (pv 2) (pe_fldK (K := K) (pv 1)) (by with_unfolding_all rfl))
          (pss_one (ps_raiseX (E := E) (fun pins σ H s e dd I hn q hE => raise_okX I hn q hE) (ok_BadBits___init__ T) hr pass0 rfl rfl T.m_BadBits (pa_cons (pe_callB (call_lenKK (K := K)) rfl T.len PySem.boot_len (pa_cons (pe_fldK (K := K) (pv 1)) pa_nil)) pa_nil)))
          pss_nil)
        (pss_one (ps_expr (pe_m T.k_Reading (ok_Reading_take T) hr pass0 (pv 1) (pa_cons (pv 2) pa_nil))))))
      (pss_cons (ps_if (pt_not (pt_val (pe_m0 T.k_Reading (ok_Reading_is_over T) hr pass0 (pv 1))))
        (pss_one (ps_raiseX (E := E) (fun pins σ H s e dd I hn q hE => raise_okX I hn q hE) (ok_BadBits___init__ T) hr pass0 rfl rfl T.m_BadBits (pa_cons (pe_callB (call_lenKK (K := K)) rfl T.len PySem.boot_len (pa_cons (pe_fldK (K := K) (pv 1)) pa_nil)) pa_nil)))
        pss_nil)
      (pss_one (ps_ret (pe_f (ok_parts_of T) hr pass0 (pa_cons (pe_fldK (K := K) (pv 1)) pa_nil))))))), ?_⟩
  try dsimp only [cxOf, Cx.nox, Cx.wish]
  refine wp_start (s2 := [some v0, none, none]) rfl ?_
  obtain ⟨a, bs, rfl, hS, hb, hl, q, qe⟩ := h
  have bad : ∀ (H2 : Hp) (n : Nat), Same H H2 → Placed bs n → n ≤ 1000 → rRaiseX c.B (sp_BadBits___init__ K c) E0 E [.int (n : Int)] H2 := fun H2 n s2 hp hn => by
    refine ⟨(show 1 ≤ 100 by decide), fun e he => ⟨_, _, rfl, e, n, rfl, rfl, log_small (by omega) (by omega), upd_same, fun d hd => ⟨rfl, rfl, some d, upd_same, ?_⟩⟩⟩
    obtain ⟨s3, e3⟩ := del_made (o2 := .xd [("place", .int n)]) (o3 := excN e c.B (some d)) (H := H2) he hd
    exact qe n d _ hp (s2.trans s3) e3
  wtm_at "wp"
  intro x dx hx hdx ndx
  wtm_at "wp"
  refine ⟨x, dx, rfl, at_same, fun H1 w p k1 fw fp ro => ⟨rfl, ?_⟩⟩
  have s1 : Same H H1 := Chg.made hx hdx k1
  wtm_at "wp"
  refine wp_forL ?_
  wtm_at "wp"
  refine wp_forLA (xs := bs.map V.int) (fun i σ H2 => ∃ (v : Option V) (ps : List Int), σ = [some (.ref a), some (.ref x), v] ∧ Same H H2 ∧ RdAt c H2 x w p (bs.take i) ps ∧ Rd (bs.take i) ps ∧ (∀ j c, j < i → bs[j]? = some c → GoesOn (bs.take j) c)) (s1.seq hS)
    ⟨none, [], rfl, s1, ro, rd_start, fun j c z => absurd z (by omega)⟩ (fun i σ H2 _ ⟨_, _, _, s2, _⟩ => s2.seq hS) ?_ ?_
  · rintro i y σ H2 hi ⟨v, ps, rfl, s2, ro2, rd2, w2⟩
    obtain ⟨b, hbi, rfl⟩ := get_int hi
    have hil : i < bs.length := (List.getElem?_eq_some_iff.mp hbi).1
    have hbb : Bit b := hb b (List.mem_of_getElem? hbi)
    obtain ⟨⟨dx2, ch, er, ec⟩, ew, ep, nwp⟩ := ro2
    wtm_at "wp"
    refine wp_notInI (l := choices (bs.take i) ps) (.inr (by wtm_at "hg")) ?_
    by_cases hc : b ∈ choices (bs.take i) ps
    rotate_left
    · rw [decide_eq_false hc]
      wtm_at "wp"
      refine wp_raiseX ?_
      wtm_at "wp"
      rw [List.length_map, List.length_take, show min i bs.length = i by omega]
      exact bad H2 i s2 (.inl ⟨i, b, hbi, w2, fun z => hc ((rd2.goes hbb).mp z), rfl⟩) (by omega)
    · rw [decide_eq_true hc]
      wtm_at "wp"
      refine ⟨x, w, p, bs.take i, ps, b, rfl, rfl, ⟨⟨dx2, ch, er, ec⟩, ew, ep, nwp⟩, rd2, hbb, hc, fun H3 k3 ro3 => ?_⟩
      have s3 : Same H H3 := fun z o hz => k3 z o (notin3 (ne_of_none hz hx) (Ne.symm (fun e => by subst e; exact absurd hz (by rw [fre_made hx hdx fw]; simp))) (Ne.symm (fun e => by subst e; exact absurd hz (by rw [fre_made hx hdx fp]; simp)))) (s2 z o hz)
      refine ⟨some (.int b), nextP (bs.take i) ps b, rfl, s3, ?_, ?_, fun j c hj hc' => ?_⟩
      · rw [take_snoc hbi]; exact ro3
      · rw [take_snoc hbi]; exact rd2.next hbb hc
      · rcases Nat.lt_or_ge j i with z | z
        · exact w2 j c z hc'
        · have : j = i := by omega
          subst this
          rw [hbi] at hc'
          cases hc'
          exact (rd2.goes hbb).mpr hc
  · rintro σ H2 ⟨v, ps, rfl, s2, ro2, rd2, w2⟩
    rw [List.length_map, List.take_of_length_le (Nat.le_refl _)] at ro2 rd2
    rw [List.length_map] at w2
    have w3 : ∀ j c, bs[j]? = some c → GoesOn (bs.take j) c := fun j c hc => w2 j c (List.getElem?_eq_some_iff.mp hc).1 hc
    obtain ⟨⟨dx2, ch, er, ec⟩, ew, ep, nwp⟩ := ro2
    wtm_at "wp"
    refine ⟨x, w, p, bs, ps, rfl, ⟨⟨dx2, ch, er, ec⟩, ew, ep, nwp⟩, fun H3 s3 => ?_⟩
    by_cases hend : choices bs ps = []
    rotate_left
    · rw [decide_eq_false hend]
      wtm_at "wp"
      refine wp_raiseX ?_
      wtm_at "wp"
      rw [List.length_map]
      exact bad H3 bs.length (s2.trans s3) (.inr ⟨w3, .inr ⟨fun z => hend (rd2.ends.mp z), rfl⟩⟩) hl
    · rw [decide_eq_true hend]
      wtm_at "wp"
      have h16 := (rd2.fin.mp hend).2.1
      have en := rd2.ends.mpr hend
      refine ⟨p, ps, rfl, by wtm_at "hg", h16, rd2.bp, fun t r o H4 s4 ft fr e1 e2 => ?_⟩
      have s24 := (s2.trans s3).trans s4
      exact q ps t r o H4 (.inr ⟨w3, .inl ⟨en.1, en.2, rfl⟩⟩) rd2 hend s24 ((s2.trans s3).fr ft) ((s2.trans s3).fr fr) e1 e2
end


/-! ### the law's own defs -/
theorem kit_same (K : PySem.W.Frag) (n : String) : PySem.W.kitOne K (.type n) (.type n) = some true := by
  unfold PySem.W.kitOne
  rw [if_pos (by simp)]
theorem flat15 : (List.replicate (15 : Int).toNat [V.int 0]).flatten = zeros15.map V.int := by rfl
theorem cutIfrom (p : List Int) (a : Nat) : cutV (p.map V.int) (some (a : Int)) none = (p.drop a).map V.int := by rw [cut_from, List.map_drop]
abbrev s__law_cell : Stmt := (top 27)
abbrev sp__law_cell (K : PySem.W.Frag) (c : Cs) : Sp := sp2 fun u v H Q _ => ∃ (a : Addr) (ns : List Int) (k : Int), u = .ref a ∧ v = .int k ∧ SqL K H a (ns.map V.int) ∧ ∀ v : Int, Q (.int v) H
section
variable {P : Program} {w : World} {K : PySem.W.Frag} {mg : Str → Option Value} {base : Heap} {c : Cs}
theorem sc__law_cell : FnScope ["_law_script", "_law_k"] ["_law_script", "_law_k"] (defScope s__law_cell) := ⟨rfl, rfl, rfl, by decide +kernel, rfl, by decide +kernel, by decide +kernel⟩
theorem ok__law_cell (T : Txt K mg c) : HasF P w K mg base CX0 1 "_law_cell" ["_law_script", "_law_k"] (sp__law_cell K c) := by
  refine T.d__law_cell.ok sc__law_cell (fun _ _ _ _ _ _ us hl => match us, hl with | [_, _], _ => rfl) len2 (fun f cdv A outer s H vs Q E hr h => ?_)
  obtain ⟨v0, v1, rfl, h⟩ := h
  refine ⟨_, (pss_cons (ps_if (pt_truK (K := K) (pv 0) (fun _ => rfl))
        (pss_one (ps_ret (pe_ix (ix_listK (K := K)) (pv 0) (pe_op op_mod (pv 1) (pe_callB (call_lenKK (K := K)) rfl T.len PySem.boot_len (pa_cons (pv 0) pa_nil))) (fun _ _ => rfl))))
        pss_nil)
      (pss_one (ps_ret pe_int))), ?_⟩
  try dsimp only [cxOf, Cx.nox, Cx.wish]
  refine wp_start (s2 := [some v0, some v1]) rfl ?_
  obtain ⟨a, ns, k, rfl, rfl, hS, q⟩ := h
  wtm_at "wp"
  cases ns with
  | nil => exact iteF (q 0)
  | cons n ns =>
    refine iteT ?_
    wtm_at "wp"
    have hl : 0 < ((((n :: ns).map V.int).length : Nat) : Int) := by rw [List.length_map, List.length_cons]; omega
    have hm := Int.emod_nonneg k (show ((((n :: ns).map V.int).length : Nat) : Int) ≠ 0 by omega)
    have hm2 := Int.emod_lt_of_pos k hl
    have hi : (k % ((((n :: ns).map V.int).length : Nat) : Int)).toNat < (n :: ns).length := by
      rw [List.length_map] at *
      omega
    have he : atI ((n :: ns).map V.int) (k % ((((n :: ns).map V.int).length : Nat) : Int)) = some (.int ((n :: ns).getD (k % ((((n :: ns).map V.int).length : Nat) : Int)).toNat 0)) := by
      have e : k % ((((n :: ns).map V.int).length : Nat) : Int) = (((k % ((((n :: ns).map V.int).length : Nat) : Int)).toNat : Nat) : Int) := by omega
      have h := atI_map hi
      rw [← e] at h
      exact h
    refine wp_I hl ?_
    exact wp_ixL hS he (q _)
end
abbrev s__law_mix : Stmt := (top 28)
abbrev sp__law_mix (K : PySem.W.Frag) (c : Cs) : Sp := sp2 fun u v H Q _ => ∃ (a : Addr) (ns : List Int) (k : Int), u = .ref a ∧ v = .int k ∧ SqL K H a (ns.map V.int) ∧ ∀ v : Int, 0 ≤ v → v < 4294967231 → Q (.int v) H
section
variable {P : Program} {w : World} {K : PySem.W.Frag} {mg : Str → Option Value} {base : Heap} {c : Cs}
theorem sc__law_mix : FnScope ["_law_script", "_law_k", "_law_number"] ["_law_script", "_law_k"] (defScope s__law_mix) := ⟨rfl, rfl, rfl, by decide +kernel, rfl, by decide +kernel, by decide +kernel⟩
theorem ok__law_mix (T : Txt K mg c) : HasF P w K mg base CX0 2 "_law_mix" ["_law_script", "_law_k"] (sp__law_mix K c) := by
  refine T.d__law_mix.ok sc__law_mix (fun _ _ _ _ _ _ us hl => match us, hl with | [_, _], _ => rfl) len2 (fun f cdv A outer s H vs Q E hr h => ?_)
  obtain ⟨v0, v1, rfl, h⟩ := h
  refine ⟨_, (pss_cons (ps_set (i := 2) sc__law_mix.nd rfl (by first | exact Or.inl rfl | exact Or.inr rfl) (pe_op op_mod (pe_op op_add (pe_f (ok__law_cell T) hr pass0 (pa_cons (pv 0) (pa_cons (pv 1) pa_nil))) (pe_op op_mul pe_int (pe_op op_add (pv 1) pe_int))) pe_int))
      (pss_cons (ps_set (i := 2) sc__law_mix.nd rfl (by first | exact Or.inl rfl | exact Or.inr rfl) (pe_op op_mod (pe_op op_mul (pv 2) pe_int) pe_int))
      (pss_one (ps_ret (pe_op op_mod (pe_op op_add (pe_op op_mul (pe_op op_fdiv (pv 2) pe_int) pe_int) (pv 2)) pe_int))))), ?_⟩
  try dsimp only [cxOf, Cx.nox, Cx.wish]
  refine wp_start (s2 := [some v0, some v1, none]) rfl ?_
  obtain ⟨a, ns, k, rfl, rfl, hS, q⟩ := h
  wtm_at "wp"
  refine ⟨a, ns, k, rfl, rfl, hS, fun v => ?_⟩
  wtm_at "wp"
  exact q _ (Int.emod_nonneg _ (by decide)) (Int.emod_lt_of_pos _ (by decide))
end
abbrev s__law_whole : Stmt := (top 29)
abbrev sp__law_whole (K : PySem.W.Frag) (c : Cs) : Sp := sp1 fun v H Q _ => ∃ i : Int, v = .int i ∧ Q (.bl true) H
section
variable {P : Program} {w : World} {K : PySem.W.Frag} {mg : Str → Option Value} {base : Heap} {c : Cs}
theorem sc__law_whole : FnScope ["_law_found"] ["_law_found"] (defScope s__law_whole) := ⟨rfl, rfl, rfl, by decide +kernel, rfl, by decide +kernel, by decide +kernel⟩
theorem ok__law_whole (T : Txt K mg c) : HasF P w K mg base CX0 1 "_law_whole" ["_law_found"] (sp__law_whole K c) := by
  refine T.d__law_whole.ok sc__law_whole (fun _ _ _ _ _ _ us hl => match us, hl with | [_], _ => rfl) len1 (fun f cdv A outer s H vs Q E hr h => ?_)
  obtain ⟨v0, rfl, h⟩ := h
  refine ⟨_, (pss_one (ps_ret (pe_and (pe_callB (call_isIK (K := K)) rfl T.isI PyProof.Rows.boot_isinstance (pa_cons (pv 0) (pa_cons (pty T.int PyProof.Rows.boot_int) pa_nil))) (pe_one (pe_not (pe_callB (call_isIK (K := K)) rfl T.isI PyProof.Rows.boot_isinstance (pa_cons (pv 0) (pa_cons (pty T.bool PyProof.Rows.boot_bool) pa_nil)))))))), ?_⟩
  try dsimp only [cxOf, Cx.nox, Cx.wish]
  refine wp_start (s2 := [some v0]) rfl ?_
  obtain ⟨i, rfl, q⟩ := h
  wtm_at "wp"
  refine ⟨_, _, _, _, _, rfl, .int i, rfl, kit_same _ _, ?_⟩
  wtm_at "wp"
  refine ⟨_, _, _, _, _, rfl, .int i, rfl, T.kib, ?_⟩
  wtm_at "wp"
  exact q
end
abbrev s__law_digits : Stmt := (top 30)
abbrev sp__law_digits (K : PySem.W.Frag) (c : Cs) : Sp := sp2 fun u v H Q _ => ∃ (n : Int) (k : Nat), u = .int n ∧ v = .int k ∧ k ≤ 100 ∧ MkL H Q (inBits n k)
section
variable {P : Program} {w : World} {K : PySem.W.Frag} {mg : Str → Option Value} {base : Heap} {c : Cs}
theorem sc__law_digits : FnScope ["_law_number", "_law_many", "_law_found", "_law_k"] ["_law_number", "_law_many"] (defScope s__law_digits) := ⟨rfl, rfl, rfl, by decide +kernel, rfl, by decide +kernel, by decide +kernel⟩
theorem ok__law_digits (T : Txt K mg c) : HasF P w K mg base CX0 1 "_law_digits" ["_law_number", "_law_many"] (sp__law_digits K c) := by
  refine T.d__law_digits.ok sc__law_digits (fun _ _ _ _ _ _ us hl => match us, hl with | [_, _], _ => rfl) len2 (fun f cdv A outer s H vs Q E hr h => ?_)
  obtain ⟨v0, v1, rfl, h⟩ := h
  refine ⟨_, (pss_cons (ps_set (i := 2) sc__law_digits.nd rfl (by first | exact Or.inl rfl | exact Or.inr rfl) (pe_lst pa_nil))
      (pss_cons (ps_for PassesOwn.never rfl (pi_range1 rfl T.range (pa_cons (pv 1) pa_nil)) (pg_name (i := 3) sc__law_digits.nd rfl (by first | exact Or.inl rfl | exact Or.inr rfl))
        (pss_cons (ps_set (i := 2) sc__law_digits.nd rfl (by first | exact Or.inl rfl | exact Or.inr rfl) (pe_op op_cat (pe_lst (pa_cons (pe_op op_mod (pv 0) pe_int) pa_nil)) (pv 2)))
        (pss_one (ps_set (i := 0) sc__law_digits.nd rfl (by first | exact Or.inl rfl | exact Or.inr rfl) (pe_op op_fdiv (pv 0) pe_int)))))
      (pss_one (ps_ret (pv 2))))), ?_⟩
  try dsimp only [cxOf, Cx.nox, Cx.wish]
  refine wp_start (s2 := [some v0, some v1, none, none]) rfl ?_
  obtain ⟨n, k, rfl, rfl, hk, q⟩ := h
  wtm_at "wp"
  refine ⟨small (show 0 ≤ 1000 by decide), fun r0 hr0 => ?_⟩
  wtm_at "wp"
  refine wp_forR ?_
  wtm_at "wp"
  refine wp_forRA k (fun i σ H2 => ∃ (r : Addr) (v : Option V), σ = [some (.int (n / 2 ^ i)), some (.int (k : Int)), some (.ref r), v] ∧ Same H H2 ∧ Free H r ∧ At H2 r (.lst ((inBits n i).map V.int))) (by omega) (by omega)
    ⟨r0, none, ?_, same_new hr0 _, hr0, at_same⟩ ?_ ?_
  · rw [Int.pow_zero, Int.ediv_one]
  · rintro i σ H2 hi ⟨r, v, rfl, s2, hr, e2⟩
    wtm_at "wp"
    refine ⟨small (show 1 ≤ 1000 by decide), fun p hp => ?_⟩
    wtm_at "wp"
    refine wp_cat (by wtm_at "hg") (by wtm_at "hg") ?_ (fun t ht => ?_)
    · rw [List.length_map, inBits_len]
      exact small (by show 1 + i ≤ 1000; omega)
    have s3 : Same H (upd H2 p (.lst [.int (n / 2 ^ i % 2)])) := s2.new hp
    wtm_at "wp"
    refine ⟨t, some (.int (i : Int)), ?_, s3.new ht, s3.fr ht, at_same⟩
    rw [Int.ediv_ediv_of_nonneg (Int.le_of_lt (Int.pow_pos (by decide))), Int.pow_succ]
  · rintro σ H2 ⟨r, v, rfl, s2, hr, e2⟩
    wtm_at "wp"
    exact q r H2 s2 hr e2
end
abbrev s__law_check : Stmt := (top 31)
abbrev sp__law_check (K : PySem.W.Frag) (c : Cs) : Sp := sp1 fun v H Q _ => ∃ (a : Addr) (bs : List Int), v = .ref a ∧ SqL K H a (bs.map V.int) ∧ Bits bs ∧ bs.length ≤ 500 ∧ MkL H Q (chk bs)
section
variable {P : Program} {w : World} {K : PySem.W.Frag} {mg : Str → Option Value} {base : Heap} {c : Cs}
theorem sc__law_check : FnScope ["_law_bits_here", "_law_rest", "_law_wheel", "_law_k", "_law_j"] ["_law_bits_here"] (defScope s__law_check) := ⟨rfl, rfl, rfl, by decide +kernel, rfl, by decide +kernel, by decide +kernel⟩
theorem ok__law_check (T : Txt K mg c) : HasF P w K mg base CX0 2 "_law_check" ["_law_bits_here"] (sp__law_check K c) := by
  refine T.d__law_check.ok sc__law_check (fun _ _ _ _ _ _ us hl => match us, hl with | [_], _ => rfl) len1 (fun f cdv A outer s H vs Q E hr h => ?_)
  obtain ⟨v0, rfl, h⟩ := h
  refine ⟨_, (pss_cons (ps_set (i := 1) sc__law_check.nd rfl (by first | exact Or.inl rfl | exact Or.inr rfl) (pe_op op_cat (pe_callTy (call_listKK (K := K)) rfl T.list PyProof.Rows.boot_list (pa_cons (pv 0) pa_nil)) (pe_op op_rep (pe_lst (pa_cons pe_int pa_nil)) pe_int)))
      (pss_cons (ps_set (i := 2) sc__law_check.nd rfl (by first | exact Or.inl rfl | exact Or.inr rfl) (pe_op op_cat (pe_lst (pa_cons pe_int pa_nil)) (pe_f (ok__law_digits T) hr pass0 (pa_cons pe_int (pa_cons pe_int pa_nil)))))
      (pss_cons (ps_for PassesOwn.never rfl (pi_range1 rfl T.range (pa_cons (pe_callB (call_lenKK (K := K)) rfl T.len PySem.boot_len (pa_cons (pv 0) pa_nil)) pa_nil)) (pg_name (i := 3) sc__law_check.nd rfl (by first | exact Or.inl rfl | exact Or.inr rfl))
        (pss_one (ps_if (pt_cmpR op_eq (pe_ix (ix_listK (K := K)) (pv 1) (pv 3) (fun _ _ => rfl)) pe_int (nomark _))
          (pss_one (ps_for PassesOwn.never rfl (pi_range1 rfl T.range (pa_cons pe_int pa_nil)) (pg_name (i := 4) sc__law_check.nd rfl (by first | exact Or.inl rfl | exact Or.inr rfl))
            (pss_one (ps_asg (pe_op op_mod (pe_op op_add (pe_ix (ix_listK (K := K)) (pv 1) (pe_op op_add (pv 3) (pv 4)) (fun _ _ => rfl)) (pe_ix (ix_listK (K := K)) (pv 2) (pv 4) (fun _ _ => rfl))) pe_int) (pg_sub (pv 1) (pe_op op_add (pv 3) (pv 4)) set_list)))))
          pss_nil)))
      (pss_one (ps_ret (pe_slice (sl_listK (K := K)) (pv 1) (po_some (pe_callB (call_lenKK (K := K)) rfl T.len PySem.boot_len (pa_cons (pv 0) pa_nil))) po_none)))))), ?_⟩
  try dsimp only [cxOf, Cx.nox, Cx.wish]
  refine wp_start (s2 := [some v0, none, none, none, none]) rfl ?_
  obtain ⟨a, bs, rfl, hS, hb, hl, q⟩ := h
  have lb : (bs.map V.int).length = bs.length := List.length_map _
  wtm_at "wp"
  intro p1 hp1
  wtm_at "wp"
  refine ⟨small (show 1 ≤ 1000 by decide), fun p2 hp2 => ?_⟩
  wtm_at "wp"
  refine wp_rep at_same (by decide) (by decide) (small (show 1 * 15 ≤ 1000 by decide)) (fun p3 hp3 => ?_)
  rw [flat15]
  refine wp_cat (by wtm_at "hg") (by wtm_at "hg") ?_ (fun r hr4 => ?_)
  · rw [lb]
    exact small (by show bs.length + 15 ≤ 1000; omega)
  have s4 : Same H (upd (upd (upd (upd H p1 (.lst (bs.map V.int))) p2 (.lst [.int 0])) p3 (.lst (zeros15.map V.int))) r (.lst ((bs ++ zeros15).map V.int))) := by wtm_at "hs"
  have hrH : Free H r := by wtm_at "hf"
  rw [← List.map_append]
  generalize hH4 : upd (upd (upd (upd H p1 (.lst (bs.map V.int))) p2 (.lst [.int 0])) p3 (.lst (zeros15.map V.int))) r (.lst ((bs ++ zeros15).map V.int)) = H4 at *
  have e4 : At H4 r (.lst ((bs ++ zeros15).map V.int)) := by rw [← hH4]; exact at_same
  wtm_at "wp"
  refine ⟨small (show 1 ≤ 1000 by decide), fun p5 hp5 => ?_⟩
  wtm_at "wp"
  refine ⟨17817, 15, rfl, rfl, by decide, fun p6 H6 s56 hp6 e6 => ?_⟩
  have s6 : Same H H6 := (s4.new hp5).trans s56
  have e6r : At H6 r (.lst ((bs ++ zeros15).map V.int)) := s56.get (upd_new hp5 e4)
  refine wp_cat (s56.get at_same) e6 (small (show 1 + 15 ≤ 1000 by decide)) (fun wh hwh => ?_)
  have s7 : Same H (upd H6 wh (.lst ((1 :: wheel).map V.int))) := s6.new hwh
  have nrw : r ≠ wh := ne_new hwh e6r
  wtm_at "wp"
  refine wp_forR ?_
  wtm_at "wp"
  rw [lb]
  refine wp_forRA bs.length (fun i σ H2 => ∃ (rest : List Int) (v u : Option V), σ = [some (.ref a), some (.ref r), some (.ref wh), v, u] ∧ Same H H2 ∧ At H2 r (.lst (rest.map V.int)) ∧ At H2 wh (.lst ((1 :: wheel).map V.int)) ∧ Outer bs i rest) (by omega) (by omega)
    ⟨bs ++ zeros15, none, none, rfl, s7, upd_oth nrw e6r, at_same, outer_start bs hb⟩ ?_ ?_
  · rintro i σ H2 hi ⟨rest, v, u, rfl, s8, er, ew, o⟩
    have ol := o.len
    have hi2 : i < rest.length := by omega
    wtm_at "wp"
    refine wp_ixL (by wtm_at "hg") (atI_map hi2) ?_
    wtm_at "wp"
    refine wp_dec (fun e1 => ?_) (fun e1 => ?_)
    · wtm_at "wp"
      refine wp_forR ?_
      wtm_at "wp"
      refine wp_forRA 16 (fun j σ H3 => ∃ u : Option V, σ = [some (.ref a), some (.ref r), some (.ref wh), some (.int (i : Int)), u] ∧ Same H H3 ∧ At H3 r (.lst ((inner i j rest).map V.int)) ∧ At H3 wh (.lst ((1 :: wheel).map V.int))) rfl (by decide)
        ⟨_, rfl, s8, by rw [inner_zero]; exact er, ew⟩ ?_ ?_
      · rintro j σ H3 hj ⟨u, rfl, s9, er3, ew3⟩
        have il := inner_len i j rest
        have hij : i + j < (inner i j rest).length := by omega
        have eij : (i : Int) + (j : Int) = ((i + j : Nat) : Int) := by omega
        have wl : (1 :: wheel).length = 16 := by rw [List.length_cons, wheel_len]
        wtm_at "wp"
        refine wp_ixL (by wtm_at "hg") (show atI _ ((i : Int) + (j : Int)) = _ by rw [eij]; exact atI_map hij) ?_
        wtm_at "wp"
        refine wp_ixL (by wtm_at "hg") (atI_map (show j < (1 :: wheel).length by omega)) ?_
        wtm_at "wp"
        refine wp_setL (j := i + j) er3 (by rw [eij, List.length_map]; exact ixN_nat hij) ?_
        refine ⟨_, rfl, s9.upF hrH, ?_, upd_oth (Ne.symm nrw) ew3⟩
        rw [map_set, inner_set i j rest hj (by omega)]
        exact at_same
      · rintro σ H3 ⟨u, rfl, s9, er3, ew3⟩
        refine ⟨inner i 16 rest, _, _, rfl, s9, er3, ew3, ?_⟩
        have := outer_turn hb hi o
        unfold turn at this
        rw [if_pos e1] at this
        exact this
    · wtm_at "wp"
      refine ⟨rest, _, _, rfl, s8, er, ew, ?_⟩
      have := outer_turn hb hi o
      unfold turn at this
      rw [if_neg e1] at this
      exact this
  · rintro σ H2 ⟨rest, v, u, rfl, s8, er, ew, o⟩
    wtm_at "wp"
    rw [lb]
    refine wp_slL (by wtm_at "hg") (cutIfrom rest bs.length) (fun t ht => ?_)
    refine q t _ (s8.new ht) (s8.fr ht) ?_
    rw [outer_end o]
    exact at_same
end
abbrev s__law_bits : Stmt := (top 32)
abbrev sp__law_bits (K : PySem.W.Frag) (c : Cs) : Sp := sp2 fun u v H Q _ => ∃ (a : Addr) (name : Int) (row : List Int), u = .int name ∧ v = .ref a ∧ SqL K H a (row.map V.int) ∧ row.length ≤ 20 ∧ MkL H Q (bitsOf name row)
section
variable {P : Program} {w : World} {K : PySem.W.Frag} {mg : Str → Option Value} {base : Heap} {c : Cs}
theorem sc__law_bits : FnScope ["_law_name", "_law_row", "_law_bits_here", "_law_byte"] ["_law_name", "_law_row"] (defScope s__law_bits) := ⟨rfl, rfl, rfl, by decide +kernel, rfl, by decide +kernel, by decide +kernel⟩
theorem ok__law_bits (T : Txt K mg c) : HasF P w K mg base CX0 3 "_law_bits" ["_law_name", "_law_row"] (sp__law_bits K c) := by
  refine T.d__law_bits.ok sc__law_bits (fun _ _ _ _ _ _ us hl => match us, hl with | [_, _], _ => rfl) len2 (fun f cdv A outer s H vs Q E hr h => ?_)
  obtain ⟨v0, v1, rfl, h⟩ := h
  refine ⟨_, (pss_cons (ps_set (i := 2) sc__law_bits.nd rfl (by first | exact Or.inl rfl | exact Or.inr rfl) (pe_op op_cat (pe_op op_cat (pe_lst (pa_cons pe_int pa_nil)) (pe_f (ok__law_digits T) hr pass0 (pa_cons (pv 0) (pa_cons pe_int pa_nil)))) (pe_f (ok__law_digits T) hr pass0 (pa_cons (pe_callB (call_lenKK (K := K)) rfl T.len PySem.boot_len (pa_cons (pv 1) pa_nil)) (pa_cons pe_int pa_nil)))))
      (pss_cons (ps_for PassesOwn.never rfl (pi_listK (K := K) (pv 1)) (pg_name (i := 3) sc__law_bits.nd rfl (by first | exact Or.inl rfl | exact Or.inr rfl))
        (pss_one (ps_set (i := 2) sc__law_bits.nd rfl (by first | exact Or.inl rfl | exact Or.inr rfl) (pe_op op_cat (pv 2) (pe_f (ok__law_digits T) hr pass0 (pa_cons (pv 3) (pa_cons pe_int pa_nil)))))))
      (pss_one (ps_ret (pe_op op_cat (pv 2) (pe_f (ok__law_check T) hr pass0 (pa_cons (pv 2) pa_nil))))))), ?_⟩
  try dsimp only [cxOf, Cx.nox, Cx.wish]
  refine wp_start (s2 := [some v0, some v1, none, none]) rfl ?_
  obtain ⟨a, name, row, rfl, rfl, hS, hl, q⟩ := h
  have lr : (row.map V.int).length = row.length := List.length_map _
  wtm_at "wp"
  refine ⟨small (show 1 ≤ 1000 by decide), fun p1 hp1 => ?_⟩
  wtm_at "wp"
  refine ⟨name, 11, rfl, rfl, by decide, fun p2 H2 s2 hp2 e2 => ?_⟩
  refine wp_cat (by wtm_at "hg") (by wtm_at "hg") (by wtm_at "sm") (fun p3 hp3 => ?_)
  have s3 : Same H (upd H2 p3 (.lst ([V.int 0] ++ (inBits name 11).map V.int))) := Same.new ((same_new hp1 _).trans s2) hp3
  wtm_at "wp"
  rw [lr]
  refine ⟨(row.length : Int), 4, rfl, rfl, by decide, fun p4 H4 s4 hp4 e4 => ?_⟩
  refine wp_cat (by wtm_at "hg") (by wtm_at "hg") (by wtm_at "sm") (fun b hb => ?_)
  have s34 := s3.trans s4
  have hbH : Free H b := s34.fr hb
  have e5 : ([V.int 0] ++ (inBits name 11).map V.int) ++ (inBits (row.length : Int) 4).map V.int = ([0] ++ inBits name 11 ++ inBits (row.length : Int) 4 ++ rowBits (row.take 0)).map V.int := by
    show _ = ([0] ++ inBits name 11 ++ inBits (row.length : Int) 4 ++ []).map V.int
    rw [List.append_nil, List.map_append, List.map_append]
    rfl
  rw [e5]
  have s5 : Same H (upd H4 b (.lst (([0] ++ inBits name 11 ++ inBits (row.length : Int) 4 ++ rowBits (row.take 0)).map V.int))) := s34.new hb
  wtm_at "wp"
  refine wp_forL ?_
  wtm_at "wp"
  refine wp_forLA (xs := row.map V.int)
    (fun i σ H6 => ∃ (b : Addr) (v : Option V), σ = [some (.int name), some (.ref a), some (.ref b), v] ∧ Same H H6 ∧ Free H b ∧ At H6 b (.lst (([0] ++ inBits name 11 ++ inBits (row.length : Int) 4 ++ rowBits (row.take i)).map V.int))) (s5.seq hS)
    ⟨b, none, rfl, s5, hbH, at_same⟩ (fun i σ H6 _ ⟨_, _, _, s6, _⟩ => s6.seq hS) ?_ ?_
  · rintro i y σ H6 hi ⟨b, v, rfl, s6, hbF, eb⟩
    obtain ⟨z, hz, rfl⟩ := get_int hi
    have hil : i < row.length := (List.getElem?_eq_some_iff.mp hz).1
    wtm_at "wp"
    refine ⟨z, 8, rfl, rfl, by decide, fun p7 H7 s7 hp7 e7 => ?_⟩
    have hlen : ([0] ++ inBits name 11 ++ inBits (row.length : Int) 4 ++ rowBits (row.take i)).length ≤ 16 + 8 * row.length := by
      simp only [List.length_append, inBits_len, rowBits_len, List.length_take, List.length_singleton]
      omega
    refine wp_cat (s7.get eb) e7 ?_ (fun t ht => ?_)
    · rw [List.length_map, List.length_map, inBits_len]
      exact small (by omega)
    wtm_at "wp"
    have s67 := s6.trans s7
    refine ⟨t, some (.int z), rfl, s67.new ht, s67.fr ht, ?_⟩
    rw [← List.map_append, rowBits_snoc hz]
    simp only [List.append_assoc]
    exact at_same
  · rintro σ H6 ⟨b, v, rfl, s6, hbF, eb⟩
    rw [lr, List.take_of_length_le (Nat.le_refl _)] at eb
    have eb' : At H6 b (.lst ((body name row).map V.int)) := eb
    have bl := body_len name row
    wtm_at "wp"
    refine ⟨b, body name row, rfl, At.sqL eb', body_bits name row, by rw [bl]; omega, fun p8 H8 s8 hp8 e8 => ?_⟩
    refine wp_cat (s8.get eb') e8 ?_ (fun t ht => ?_)
    · rw [List.length_map, List.length_map, bl, chk_len]
      exact small (by omega)
    · have s68 := s6.trans s8
      refine q t _ (s68.new ht) (s68.fr ht) ?_
      rw [← List.map_append]
      exact at_same
end


theorem run_le (w : List Int) : run w ≤ w.length := by
  unfold run
  have : ∀ l : List Int, runR l ≤ l.length := by
    intro l
    cases l with
    | nil => exact Nat.zero_le _
    | cons x r =>
      cases e : runR (x :: r) with
      | zero => exact Nat.zero_le _
      | succ n =>
        obtain ⟨t, h⟩ := (runR_ge n r x).mp (by rw [e]; exact Nat.le_refl _)
        rw [h]
        simp
  have h := this w.reverse
  rw [List.length_reverse] at h
  exact h
/-- the last k are alike, one by one from behind -/
theorem run_ge_iff {w : List Int} {k : Nat} (h1 : k + 1 ≤ w.length) : k + 1 ≤ run w ↔ ∀ j, j ≤ k → w.getD (w.length - 1 - j) 0 = w.getLastD 0 := by
  rcases snoc_cases w with rfl | ⟨m, b, rfl⟩
  · simp at h1
  · unfold run
    rw [List.reverse_append, List.reverse_singleton, List.singleton_append, runR_ge, getLastD_snoc]
    rw [List.length_append, List.length_singleton] at h1
    have hg : ∀ j, j < m.length → (m ++ [b]).getD (m.length + 1 - 1 - (j + 1)) 0 = m.reverse.getD j 0 := fun j hj => by
      rw [getD_append_left' (by omega)]
      rw [List.getD_eq_getElem?_getD, List.getD_eq_getElem?_getD, List.getElem?_reverse hj]
      congr 2
      omega
    constructor
    · rintro ⟨t, ht⟩ j hj
      rw [List.length_append, List.length_singleton]
      cases j with
      | zero =>
        have := getD_snoc_at (p := m) (b := b)
        simpa using this
      | succ j =>
        rw [hg j (by omega), ht]
        rw [getD_append_left' (by rw [List.length_replicate]; omega)]
        rw [List.getD_eq_getElem?_getD, List.getElem?_replicate, if_pos (by omega)]
        rfl
    · intro h
      refine ⟨m.reverse.drop k, ?_⟩
      have : m.reverse.take k = List.replicate k b := by
        apply List.ext_getElem?
        intro i
        by_cases hi : i < k
        · rw [List.getElem?_take_of_lt hi, List.getElem?_replicate, if_pos hi]
          have h2 := h (i + 1) (by omega)
          rw [List.length_append, List.length_singleton, hg i (by omega)] at h2
          rw [List.getD_eq_getElem?_getD, List.getElem?_eq_getElem (by rw [List.length_reverse]; omega)] at h2
          rw [List.getElem?_eq_getElem (by rw [List.length_reverse]; omega)]
          exact congrArg some h2
        · rw [List.getElem?_eq_none (by rw [List.length_take]; omega), List.getElem?_eq_none (by rw [List.length_replicate]; omega)]
      rw [← this, List.take_append_drop]
theorem same5 {w : List Int} (h : 4 < w.length) : (onceOf (last5 w)).length = 1 ↔ ∃ x, last5 w = [x, x, x, x, x] := by
  have hl : (last5 w).length = 5 := by unfold last5; rw [List.length_drop]; omega
  rw [once_one]
  constructor
  · rintro ⟨x, _, hx⟩
    refine ⟨x, ?_⟩
    match e : last5 w, hl with
    | [a, b, c, d, f], _ =>
      rw [e] at hx
      simp only [List.mem_cons, List.not_mem_nil, or_false, forall_eq_or_imp, forall_eq] at hx
      obtain ⟨h1, h2, h3, h4, h5⟩ := hx
      rw [h1, h2, h3, h4, h5]
  · rintro ⟨x, hx⟩
    rw [hx]
    exact ⟨x, by simp, by simp⟩
theorem pick6 (n : Int) (h0 : 0 ≤ n) : ∃ v : Int, atI [V.int 0, .int 1, .int 2047, .int 1024, .int (n / 7 % 2048), .int (n / 7 % 8)] (n % 6) = some (.int v) ∧ 0 ≤ v ∧ v ≤ 2047 := by
  have : n % 6 = 0 ∨ n % 6 = 1 ∨ n % 6 = 2 ∨ n % 6 = 3 ∨ n % 6 = 4 ∨ n % 6 = 5 := by omega
  rcases this with e | e | e | e | e | e <;> rw [e] <;> exact ⟨_, rfl, by omega, by omega⟩
theorem pick4 (n : Int) (h0 : 0 ≤ n) : ∃ v : Int, atI [V.int 0, .int 255, .int (n / 4 % 256), .int 31] (n % 4) = some (.int v) ∧ 0 ≤ v ∧ v ≤ 255 := by
  have : n % 4 = 0 ∨ n % 4 = 1 ∨ n % 4 = 2 ∨ n % 4 = 3 := by omega
  rcases this with e | e | e | e <;> rw [e] <;> exact ⟨_, rfl, by omega, by omega⟩
abbrev s__law_run : Stmt := (top 34)
abbrev sp__law_run (K : PySem.W.Frag) (c : Cs) : Sp := sp1 fun v H Q _ => ∃ (a : Addr) (ws : List Int), v = .ref a ∧ SqL K H a (ws.map V.int) ∧ Q (.int (run ws : Nat)) H
section
variable {P : Program} {w : World} {K : PySem.W.Frag} {mg : Str → Option Value} {base : Heap} {c : Cs}
theorem sc__law_run : FnScope ["_law_bits_here", "_law_many"] ["_law_bits_here"] (defScope s__law_run) := ⟨rfl, rfl, rfl, by decide +kernel, rfl, by decide +kernel, by decide +kernel⟩
theorem ok__law_run (T : Txt K mg c) : HasF P w K mg base CX0 1 "_law_run" ["_law_bits_here"] (sp__law_run K c) := by
  refine T.d__law_run.ok sc__law_run (fun _ _ _ _ _ _ us hl => match us, hl with | [_], _ => rfl) len1 (fun f cdv A outer s H vs Q E hr h => ?_)
  obtain ⟨v0, rfl, h⟩ := h
  refine ⟨_, (pss_cons (ps_set (i := 1) sc__law_run.nd rfl (by first | exact Or.inl rfl | exact Or.inr rfl) pe_int)
      (pss_cons (ps_while PassesOwn.never (PW.pt (pw_and (pt_cmpR op_lt (pv 1) (pe_callB (call_lenKK (K := K)) rfl T.len PySem.boot_len (pa_cons (pv 0) pa_nil)) (nomark _)) (pw_and1 (pt_cmpR op_eq (pe_ix (ix_listK (K := K)) (pv 0) (pe_op op_sub (pe_op op_sub (pe_callB (call_lenKK (K := K)) rfl T.len PySem.boot_len (pa_cons (pv 0) pa_nil)) pe_int) (pv 1)) (fun _ _ => rfl)) (pe_ix (ix_listK (K := K)) (pv 0) (pe_un un_neg pe_int) (fun _ _ => rfl)) (nomark _)))))
        (pss_one (ps_set (i := 1) sc__law_run.nd rfl (by first | exact Or.inl rfl | exact Or.inr rfl) (pe_op op_add (pv 1) pe_int))))
      (pss_one (ps_ret (pv 1))))), ?_⟩
  try dsimp only [cxOf, Cx.nox, Cx.wish]
  refine wp_start (s2 := [some v0, none]) rfl ?_
  obtain ⟨a, ws, rfl, hS, q⟩ := h
  have lr : (ws.map V.int).length = ws.length := List.length_map _
  wtm_at "wp"
  refine while_by (fun σ H2 => H2 = H ∧ ∃ k : Nat, σ = [some (.ref a), some (.int (k : Int))] ∧ k ≤ run ws ∧ (∀ j, j < k → ws.getD (ws.length - 1 - j) 0 = ws.getLastD 0)) (fun σ _ => match σ with | [_, some (.int k)] => ws.length - k.toNat | _ => 0) ?_ ?_ ?_
  · exact ⟨rfl, 0, rfl, Nat.zero_le _, fun j hj => absurd hj (by omega)⟩
  · rintro σ H2 ⟨rfl, k, rfl, hk, hall⟩
    have rl := run_le ws
    wtm_at "wp"
    rw [lr]
    refine wp_dec (fun c1 => ?_) (fun c1 => ?_)
    · wtm_at "wp"
      rw [lr]
      refine wp_ixL hS (show atI _ ((ws.length : Int) - 1 - (k : Int)) = _ by rw [show (ws.length : Int) - 1 - (k : Int) = ((ws.length - 1 - k : Nat) : Int) by omega]; exact atI_map (by omega)) ?_
      wtm_at "wp"
      refine wp_ixL hS (atI_last' (by intro z; rw [z] at c1; simp at c1; omega)) ?_
      wtm_at "wp"
      have hall' : ws.getD (ws.length - 1 - k) 0 = ws.getLastD 0 → ∀ j, j ≤ k → ws.getD (ws.length - 1 - j) 0 = ws.getLastD 0 := fun c2 j hj => by
        rcases Nat.lt_or_ge j k with z | z
        · exact hall j z
        · have : j = k := by omega
          rw [this]; exact c2
      refine wp_dec (fun c2 => ?_) (fun c2 => ?_)
      · wtm_at "wp"
        refine ⟨⟨rfl, k + 1, by rw [show ((k + 1 : Nat) : Int) = (k : Int) + 1 by omega], (run_ge_iff (by omega)).mpr (hall' c2), fun j hj => hall' c2 j (by omega)⟩, ?_⟩
        show ws.length - ((k : Int) + 1).toNat < ws.length - (k : Int).toNat
        omega
      · wtm_at "wp"
        have : run ws = k := by
          rcases Nat.lt_or_ge k (run ws) with z | z
          · exact absurd ((run_ge_iff (by omega)).mp z k (Nat.le_refl _)) c2
          · omega
        rw [this] at q
        exact q
    · wtm_at "wp"
      have : run ws = k := by omega
      rw [this] at q
      exact q
  · intro σ H2 R R' hRR h
    exact mt_and (mt_test (me_op mr_I0 me_var (me_CB mc_len (ma_cons me_var ma_nil)))) (mt_test (me_op mr_eq (me_op mr_ixL me_var (me_op mr_I0 (me_op mr_I0 (me_CB mc_len (ma_cons me_var ma_nil)) me_C) me_var)) (me_op mr_ixL me_var (me_un mu_I me_C)))) σ H2 R R' hRR h
end
abbrev s__law_stuffed : Stmt := (top 33)
abbrev sp__law_stuffed (K : PySem.W.Frag) (c : Cs) : Sp := sp1 fun v H Q _ => ∃ (a : Addr) (bs : List Int), v = .ref a ∧ SqL K H a (bs.map V.int) ∧ Bits bs ∧ bs.length ≤ 400 ∧ MkL H Q (stuff bs)
section
variable {P : Program} {w : World} {K : PySem.W.Frag} {mg : Str → Option Value} {base : Heap} {c : Cs}
theorem sc__law_stuffed : FnScope ["_law_bits_here", "_law_found", "_law_bit"] ["_law_bits_here"] (defScope s__law_stuffed) := ⟨rfl, rfl, rfl, by decide +kernel, rfl, by decide +kernel, by decide +kernel⟩
theorem ok__law_stuffed (T : Txt K mg c) : HasF P w K mg base CX0 2 "_law_stuffed" ["_law_bits_here"] (sp__law_stuffed K c) := by
  refine T.d__law_stuffed.ok sc__law_stuffed (fun _ _ _ _ _ _ us hl => match us, hl with | [_], _ => rfl) len1 (fun f cdv A outer s H vs Q E hr h => ?_)
  obtain ⟨v0, rfl, h⟩ := h
  refine ⟨_, (pss_cons (ps_set (i := 1) sc__law_stuffed.nd rfl (by first | exact Or.inl rfl | exact Or.inr rfl) (pe_lst pa_nil))
      (pss_cons (ps_for PassesOwn.never rfl (pi_listK (K := K) (pv 0)) (pg_name (i := 2) sc__law_stuffed.nd rfl (by first | exact Or.inl rfl | exact Or.inr rfl))
        (pss_cons (ps_expr (pe_bmK (K := K) PySem.F.plainAttrs_list PySem.F.slot_list_append PySem.F.type_list_append mt_append (pv 1) (pa_cons (pv 2) pa_nil)))
        (pss_one (ps_if (PW.pt (pw_and (pt_cmpR op_gt (pe_callB (call_lenKK (K := K)) rfl T.len PySem.boot_len (pa_cons (pv 1) pa_nil)) pe_int (nomark _)) (pw_and (pt_cmpR op_eq (pe_callB call_len_set' rfl T.len PySem.boot_len (pa_cons (pe_callTy (call_setK (K := K)) rfl T.set PyProof.Rows.boot_set (pa_cons (pe_slice (sl_listK (K := K)) (pv 1) (po_some (pe_un un_neg pe_int)) po_none) pa_nil)) pa_nil)) pe_int (nomark _)) (pw_and1 (pt_cmpR op_eq (pe_op op_mod (pe_f (ok__law_run T) hr pass0 (pa_cons (pv 1) pa_nil)) pe_int) pe_int (nomark _))))))
          (pss_one (ps_expr (pe_bmK (K := K) PySem.F.plainAttrs_list PySem.F.slot_list_append PySem.F.type_list_append mt_append (pv 1) (pa_cons (pe_op op_sub pe_int (pv 2)) pa_nil))))
          pss_nil))))
      (pss_one (ps_ret (pv 1))))), ?_⟩
  try dsimp only [cxOf, Cx.nox, Cx.wish]
  refine wp_start (s2 := [some v0, none, none]) rfl ?_
  obtain ⟨a, bs, rfl, hS, hb, hl, q⟩ := h
  wtm_at "wp"
  refine ⟨small (show 0 ≤ 1000 by decide), fun r hr0 => ?_⟩
  have s1 : Same H (upd H r (.lst [])) := same_new hr0 _
  wtm_at "wp"
  refine wp_forL ?_
  wtm_at "wp"
  refine wp_forLA (xs := bs.map V.int) (fun i σ H2 => ∃ v : Option V, σ = [some (.ref a), some (.ref r), v] ∧ Same H H2 ∧ At H2 r (.lst ((stuff (bs.take i)).map V.int))) (s1.seq hS)
    ⟨none, rfl, s1, at_same⟩ (fun i σ H2 _ ⟨_, _, s2, _⟩ => s2.seq hS) ?_ ?_
  · rintro i y σ H2 hi ⟨v, rfl, s2, er⟩
    obtain ⟨b, hbi, rfl⟩ := get_int hi
    have hil : i < bs.length := (List.getElem?_eq_some_iff.mp hbi).1
    have hbb : Bit b := hb b (List.mem_of_getElem? hbi)
    have hlen : (stuff (bs.take i)).length ≤ 800 := by
      have := stuff_len (bs.take i)
      rw [List.length_take] at this
      omega
    have hst : stuff (bs.take (i + 1)) = stuffStep (stuff (bs.take i)) b := fold_snoc (f := stuffStep) (a := ([] : List Int)) hbi
    have hld := lawDue_step (w := stuff (bs.take i)) (b := b) (stuff_bits (hb.take i)) hbb (stuff_run (hb.take i))
    have r1 := run_pos (stuff (bs.take i)) b
    wtm_at "wp"
    refine wp_append er (small1000 (by rw [List.length_map]; omega)) ?_
    have er2 : At (upd H2 r (.lst ((stuff (bs.take i)).map V.int ++ [.int b]))) r (.lst ((stuff (bs.take i) ++ [b]).map V.int)) := by rw [List.map_append]; exact at_same
    have s3 : Same H (upd H2 r (.lst ((stuff (bs.take i)).map V.int ++ [.int b]))) := s2.upF hr0
    generalize upd H2 r (.lst ((stuff (bs.take i)).map V.int ++ [.int b])) = H3 at *
    have lw : (stuff (bs.take i) ++ [b]).length ≤ 801 := by rw [List.length_append, List.length_singleton]; omega
    have yes : due (stuff (bs.take i) ++ [b]) = true → ∀ H4, Same H H4 → At H4 r (.lst ((stuff (bs.take i) ++ [b]).map V.int)) → ∃ v : Option V, [some (.ref a), some (.ref r), some (.int b)] = [some (.ref a), some (.ref r), v] ∧ Same H (upd H4 r (.lst ((stuff (bs.take i) ++ [b]).map V.int ++ [.int (1 - b)]))) ∧ At (upd H4 r (.lst ((stuff (bs.take i) ++ [b]).map V.int ++ [.int (1 - b)]))) r (.lst ((stuff (bs.take (i + 1))).map V.int)) := fun d H4 s4 e4 => by
      refine ⟨_, rfl, s4.upF hr0, ?_⟩
      rw [hst]
      unfold stuffStep
      rw [if_pos d, List.map_append (l₁ := stuff (bs.take i) ++ [b])]
      exact at_same
    have no : ¬ due (stuff (bs.take i) ++ [b]) = true → ∀ H4, Same H H4 → At H4 r (.lst ((stuff (bs.take i) ++ [b]).map V.int)) → ∃ v : Option V, [some (.ref a), some (.ref r), some (.int b)] = [some (.ref a), some (.ref r), v] ∧ Same H H4 ∧ At H4 r (.lst ((stuff (bs.take (i + 1))).map V.int)) := fun d H4 s4 e4 => by
      refine ⟨_, rfl, s4, ?_⟩
      rw [hst]
      unfold stuffStep
      rw [if_neg d]
      exact e4
    generalize stuff (bs.take i) ++ [b] = W at *
    have lW : (W.map V.int).length = W.length := List.length_map _
    wtm_at "wp"
    rw [lW]
    refine wp_dec (fun c1 => ?_) (fun c1 => ?_)
    · wtm_at "wp"
      refine wp_slL (by wtm_at "hg") (cut5 W) (fun p hp => ?_)
      wtm_at "wp"
      have l5 : (last5 W).length ≤ 100 := by unfold last5; rw [List.length_drop]; omega
      refine ⟨p, last5 W, rfl, At.sqL at_same, l5, fun se hse => ?_⟩
      refine ⟨se, _, _, rfl, upd_same, ?_⟩
      wtm_at "wp"
      have sZ : Same H (upd (upd H3 p (.lst ((last5 W).map V.int))) se (.set (fun k => (onceOf (last5 W)).any (· == k)) (onceOf (last5 W)).length)) := (s3.new hp).new hse
      have eZ : At (upd (upd H3 p (.lst ((last5 W).map V.int))) se (.set (fun k => (onceOf (last5 W)).any (· == k)) (onceOf (last5 W)).length)) r (.lst (W.map V.int)) := upd_new hse (upd_new hp er2)
      generalize upd (upd H3 p (.lst ((last5 W).map V.int))) se (.set (fun k => (onceOf (last5 W)).any (· == k)) (onceOf (last5 W)).length) = H4 at *
      refine wp_dec (fun c2 => ?_) (fun c2 => ?_)
      · wtm_at "wp"
        refine ⟨r, W, rfl, At.sqL eZ, ?_⟩
        wtm_at "wp"
        refine wp_dec (fun c3 => ?_) (fun c3 => ?_)
        · wtm_at "wp"
          refine wp_append eZ (small1000 (by rw [lW]; omega)) ?_
          exact yes (hld.mp ⟨by omega, (same5 (by omega)).mp (by omega), by omega⟩) _ sZ eZ
        · wtm_at "wp"
          exact no (fun d => c3 (by have := (hld.mpr d).2.2; omega)) _ sZ eZ
      · wtm_at "wp"
        exact no (fun d => c2 (by have := (same5 (hld.mpr d).1).mpr (hld.mpr d).2.1; omega)) _ sZ eZ
    · wtm_at "wp"
      exact no (fun d => c1 (by have := (hld.mpr d).1; omega)) _ s3 er2
  · rintro σ H2 ⟨v, rfl, s2, er⟩
    rw [List.length_map, List.take_of_length_le (Nat.le_refl _)] at er
    wtm_at "wp"
    exact q r H2 s2 hr0 er
end
abbrev s__law_frame : Stmt := (top 35)
abbrev sp__law_frame (K : PySem.W.Frag) (c : Cs) : Sp := sp3 fun u v w H Q _ => ∃ (a : Addr) (ns : List Int) (k : Int) (m : Nat), u = .ref a ∧ v = .int k ∧ w = .int m ∧ SqL K H a (ns.map V.int) ∧ m ≤ 8 ∧ (∀ name row t r H', Same H H' → Free H t → Free H r → At H' t (.tup [.int name, .ref r]) → At H' r (.lst (row.map V.int)) → Good name row → row.length ≤ m → Q (.ref t) H')
section
variable {P : Program} {w : World} {K : PySem.W.Frag} {mg : Str → Option Value} {base : Heap} {c : Cs}
theorem sc__law_frame : FnScope ["_law_script", "_law_k", "_law_most", "_law_number", "_law_name", "_law_row", "_law_j", "_law_byte"] ["_law_script", "_law_k", "_law_most"] (defScope s__law_frame) := ⟨rfl, rfl, rfl, by decide +kernel, rfl, by decide +kernel, by decide +kernel⟩
theorem ok__law_frame (T : Txt K mg c) : HasF P w K mg base CX0 3 "_law_frame" ["_law_script", "_law_k", "_law_most"] (sp__law_frame K c) := by
  refine T.d__law_frame.ok sc__law_frame (fun _ _ _ _ _ _ us hl => match us, hl with | [_, _, _], _ => rfl) len3 (fun f cdv A outer s H vs Q E hr h => ?_)
  obtain ⟨v0, v1, v2, rfl, h⟩ := h
  refine ⟨_, (pss_cons (ps_set (i := 3) sc__law_frame.nd rfl (by first | exact Or.inl rfl | exact Or.inr rfl) (pe_f (ok__law_mix T) hr pass0 (pa_cons (pv 0) (pa_cons (pv 1) pa_nil))))
      (pss_cons (ps_set (i := 4) sc__law_frame.nd rfl (by first | exact Or.inl rfl | exact Or.inr rfl) (pe_ix (ix_listK (K := K)) (pe_lst (pa_cons pe_int (pa_cons pe_int (pa_cons pe_int (pa_cons pe_int (pa_cons (pe_op op_mod (pe_op op_fdiv (pv 3) pe_int) pe_int) (pa_cons (pe_op op_mod (pe_op op_fdiv (pv 3) pe_int) pe_int) pa_nil))))))) (pe_op op_mod (pv 3) pe_int) (fun _ _ => rfl)))
      (pss_cons (ps_set (i := 5) sc__law_frame.nd rfl (by first | exact Or.inl rfl | exact Or.inr rfl) (pe_lst pa_nil))
      (pss_cons (ps_for PassesOwn.never rfl (pi_range1 rfl T.range (pa_cons (pe_op op_mod (pe_op op_fdiv (pv 3) pe_int) (pe_op op_add (pv 2) pe_int)) pa_nil)) (pg_name (i := 6) sc__law_frame.nd rfl (by first | exact Or.inl rfl | exact Or.inr rfl))
        (pss_cons (ps_set (i := 7) sc__law_frame.nd rfl (by first | exact Or.inl rfl | exact Or.inr rfl) (pe_f (ok__law_mix T) hr pass0 (pa_cons (pv 0) (pa_cons (pe_op op_add (pe_op op_add (pv 1) pe_int) (pv 6)) pa_nil))))
        (pss_one (ps_expr (pe_bmK (K := K) PySem.F.plainAttrs_list PySem.F.slot_list_append PySem.F.type_list_append mt_append (pv 5) (pa_cons (pe_ix (ix_listK (K := K)) (pe_lst (pa_cons pe_int (pa_cons pe_int (pa_cons (pe_op op_mod (pe_op op_fdiv (pv 7) pe_int) pe_int) (pa_cons pe_int pa_nil))))) (pe_op op_mod (pv 7) pe_int) (fun _ _ => rfl)) pa_nil))))))
      (pss_one (ps_ret (pe_tup (pa_cons (pv 4) (pa_cons (pv 5) pa_nil))))))))), ?_⟩
  try dsimp only [cxOf, Cx.nox, Cx.wish]
  refine wp_start (s2 := [some v0, some v1, some v2, none, none, none, none, none]) rfl ?_
  obtain ⟨a, ns, k, m, rfl, rfl, rfl, hS, hm, q⟩ := h
  wtm_at "wp"
  refine ⟨a, ns, k, rfl, rfl, hS, fun n h0 h1 => ?_⟩
  wtm_at "wp"
  refine ⟨small (show 6 ≤ 1000 by decide), fun p hp => ?_⟩
  wtm_at "wp"
  obtain ⟨name, hname, hn0, hn1⟩ := pick6 n h0
  refine wp_ixL (by wtm_at "hg") hname ?_
  wtm_at "wp"
  refine ⟨small (show 0 ≤ 1000 by decide), fun r hr0 => ?_⟩
  have hrH : Free H r := by wtm_at "hf"
  have s2 : Same H (upd (upd H p (.lst [.int 0, .int 1, .int 2047, .int 1024, .int (n / 7 % 2048), .int (n / 7 % 8)])) r (.lst [])) := by wtm_at "hs"
  have e2 : At (upd (upd H p (.lst [.int 0, .int 1, .int 2047, .int 1024, .int (n / 7 % 2048), .int (n / 7 % 8)])) r (.lst [])) r (.lst (([] : List Int).map V.int)) := at_same
  generalize upd (upd H p (.lst [.int 0, .int 1, .int 2047, .int 1024, .int (n / 7 % 2048), .int (n / 7 % 8)])) r (.lst []) = H2 at *
  wtm_at "wp"
  refine wp_forR ?_
  wtm_at "wp"
  refine wp_forRA (n / 20000 % ((m : Int) + 1)).toNat (fun i σ H3 => ∃ (row : List Int) (v w : Option V), σ = [some (.ref a), some (.int k), some (.int m), some (.int n), some (.int name), some (.ref r), v, w] ∧ Same H H3 ∧ At H3 r (.lst (row.map V.int)) ∧ row.length = i ∧ ∀ b ∈ row, 0 ≤ b ∧ b ≤ 255) rfl ?_
    ⟨[], none, none, rfl, s2, e2, rfl, fun b hb => by simp at hb⟩ ?_ ?_
  · have := Int.emod_nonneg (n / 20000) (show (m : Int) + 1 ≠ 0 by omega)
    have := Int.emod_lt_of_pos (n / 20000) (show 0 < (m : Int) + 1 by omega)
    omega
  · rintro i σ H3 hi ⟨row, v, w, rfl, s3, e3, hl, hb⟩
    have hi9 : i < 9 := by
      have := Int.emod_lt_of_pos (n / 20000) (show 0 < (m : Int) + 1 by omega)
      omega
    wtm_at "wp"
    refine ⟨a, ns, _, rfl, rfl, s3.seq hS, fun z z0 z1 => ?_⟩
    wtm_at "wp"
    refine ⟨small (show 4 ≤ 1000 by decide), fun p4 hp4 => ?_⟩
    wtm_at "wp"
    obtain ⟨y, hy, y0, y1⟩ := pick4 z z0
    refine wp_ixL (by wtm_at "hg") hy ?_
    wtm_at "wp"
    refine wp_append (upd_new hp4 e3) (small1000 (by rw [List.length_map]; omega)) ?_
    refine ⟨row ++ [y], _, _, rfl, ?_, ?_, by rw [List.length_append, hl, List.length_singleton], fun b hbm => ?_⟩
    · exact (s3.new hp4).upF hrH
    · rw [List.map_append]; exact at_same
    · rcases List.mem_append.mp hbm with z | z
      · exact hb b z
      · rw [List.mem_singleton.mp z]; exact ⟨y0, y1⟩
  · rintro σ H3 ⟨row, v, w, rfl, s3, e3, hl, hb⟩
    have hm8 : row.length ≤ m := by
      have := Int.emod_lt_of_pos (n / 20000) (show 0 < (m : Int) + 1 by omega)
      omega
    wtm_at "wp"
    refine ⟨small (show 2 ≤ 1000 by decide), fun t ht => ?_⟩
    wtm_at "wp"
    exact q name row t r _ (s3.new ht) (s3.fr ht) hrH at_same (upd_new ht e3) ⟨⟨hn0, hn1⟩, by omega, hb⟩ hm8
end


theorem atI0 {l : List Int} (h : l ≠ []) : atI (l.map V.int) 0 = some (.int (l.getD 0 0)) := by
  have e : (0 : Int) = ((0 : Nat) : Int) := rfl
  rw [e]
  exact atI_map (List.length_pos_iff.mpr h)
theorem cutInit (w : List Int) (b : Int) : cutV ((w ++ [b]).map V.int) none (some (-1)) = w.map V.int := by
  unfold cutV
  rw [HT.sIx_none, List.length_map, List.length_append, List.length_singleton, Nat.sub_zero, List.drop_zero]
  have e : HT.sIx (w.length + 1) (w.length + 1) (some (-1)) = w.length := by
    unfold HT.sIx
    dsimp only
    rw [if_pos (by decide)]
    omega
  rw [e, ← List.map_take, List.take_left' rfl]
abbrev s__law_plain : Stmt := (top 36)
abbrev sp__law_plain (K : PySem.W.Frag) (c : Cs) : Sp := sp1 fun v H Q _ => ∃ (a : Addr) (ws : List Int), v = .ref a ∧ SqL K H a (ws.map V.int) ∧ Bits ws ∧ ws.length ≤ 800 ∧ (∀ t r H', Same H H' → Free H t → Free H r → At H' t (.tup [.ref r, .int (LP ws).2.1]) → At H' r (.lst ((LP ws).1.map V.int)) → Q (.ref t) H')
section
variable {P : Program} {w : World} {K : PySem.W.Frag} {mg : Str → Option Value} {base : Heap} {c : Cs}
theorem sc__law_plain : FnScope ["_law_bits_here", "_law_found", "_law_like", "_law_k"] ["_law_bits_here"] (defScope s__law_plain) := ⟨rfl, rfl, rfl, by decide +kernel, rfl, by decide +kernel, by decide +kernel⟩
theorem ok__law_plain (T : Txt K mg c) : HasF P w K mg base CX0 1 "_law_plain" ["_law_bits_here"] (sp__law_plain K c) := by
  refine T.d__law_plain.ok sc__law_plain (fun _ _ _ _ _ _ us hl => match us, hl with | [_], _ => rfl) len1 (fun f cdv A outer s H vs Q E hr h => ?_)
  obtain ⟨v0, rfl, h⟩ := h
  refine ⟨_, (pss_cons (ps_set (i := 1) sc__law_plain.nd rfl (by first | exact Or.inl rfl | exact Or.inr rfl) (pe_lst pa_nil))
      (pss_cons (ps_set (i := 2) sc__law_plain.nd rfl (by first | exact Or.inl rfl | exact Or.inr rfl) pe_int)
      (pss_cons (ps_for PassesOwn.never rfl (pi_range1 rfl T.range (pa_cons (pe_callB (call_lenKK (K := K)) rfl T.len PySem.boot_len (pa_cons (pv 0) pa_nil)) pa_nil)) (pg_name (i := 3) sc__law_plain.nd rfl (by first | exact Or.inl rfl | exact Or.inr rfl))
        (pss_one (ps_if (pt_cmpR op_eq (pv 2) pe_int (nomark _))
          (pss_one (ps_set (i := 2) sc__law_plain.nd rfl (by first | exact Or.inl rfl | exact Or.inr rfl) pe_int))
          (pss_cons (ps_set (i := 2) sc__law_plain.nd rfl (by first | exact Or.inl rfl | exact Or.inr rfl) (pe_ifExp (PW.pt (pw_and (pt_cmpR op_gt (pv 3) pe_int (nomark _)) (pw_and1 (pt_cmpR op_eq (pe_ix (ix_listK (K := K)) (pv 0) (pe_op op_sub (pv 3) pe_int) (fun _ _ => rfl)) (pe_ix (ix_listK (K := K)) (pv 0) (pv 3) (fun _ _ => rfl)) (nomark _))))) (pe_op op_add (pv 2) pe_int) pe_int))
          (pss_one (ps_expr (pe_bmK (K := K) PySem.F.plainAttrs_list PySem.F.slot_list_append PySem.F.type_list_append mt_append (pv 1) (pa_cons (pe_ix (ix_listK (K := K)) (pv 0) (pv 3) (fun _ _ => rfl)) pa_nil))))))))
      (pss_one (ps_ret (pe_tup (pa_cons (pv 1) (pa_cons (pv 2) pa_nil)))))))), ?_⟩
  try dsimp only [cxOf, Cx.nox, Cx.wish]
  refine wp_start (s2 := [some v0, none, none, none]) rfl ?_
  obtain ⟨a, ws, rfl, hS, hb, hl, q⟩ := h
  have lr : (ws.map V.int).length = ws.length := List.length_map _
  wtm_at "wp"
  refine ⟨small (show 0 ≤ 1000 by decide), fun r hr0 => ?_⟩
  have s1 : Same H (upd H r (.lst [])) := same_new hr0 _
  wtm_at "wp"
  refine wp_forR ?_
  wtm_at "wp"
  rw [lr]
  refine wp_forRA ws.length (fun i σ H2 => ∃ v : Option V, σ = [some (.ref a), some (.ref r), some (.int (LP (ws.take i)).2.1), v] ∧ Same H H2 ∧ At H2 r (.lst ((LP (ws.take i)).1.map V.int))) (Int.toNat_natCast _) (by omega) ⟨none, rfl, s1, at_same⟩ ?_ ?_
  · rintro i σ H2 hi ⟨v, rfl, s2, er⟩
    obtain ⟨b, hbi⟩ : ∃ b, ws[i]? = some b := ⟨ws[i], List.getElem?_eq_getElem hi⟩
    have hst : LP (ws.take (i + 1)) = lpStep (LP (ws.take i)) b := by rw [take_snoc hbi, LP_snoc]
    have hal := lp_alike hb hbi
    have lf := LP_len (ws.take i)
    rw [List.length_take] at lf
    have gb : ws.getD i 0 = b := by rw [List.getD_eq_getElem?_getD, hbi]; rfl
    have hS2 := s2.seq hS
    rw [hst]
    clear hst
    generalize LP (ws.take i) = S at *
    obtain ⟨fs, lk, la⟩ := S
    wtm_at "wp"
    refine wp_dec (fun c1 => ?_) (fun c1 => ?_)
    · wtm_at "wp"
      have c1 : lk = 5 := c1
      have e : lpStep (fs, lk, la) b = (fs, 1, b) := by unfold lpStep; rw [if_pos c1]
      rw [e]
      exact ⟨_, rfl, s2, er⟩
    · have c1 : ¬ lk = 5 := c1
      have e : lpStep (fs, lk, la) b = (fs ++ [b], if la = b then lk + 1 else 1, b) := by unfold lpStep; rw [if_neg c1]
      rw [e]
      have hal : la = b ↔ (0 < i ∧ ws.getD (i - 1) 0 = b) := hal
      have fin : ∀ z : Int, z = (if la = b then lk + 1 else 1) → ∃ v : Option V, [some (.ref a), some (.ref r), some (V.int z), some (.int (i : Int))] = [some (.ref a), some (.ref r), some (.int (if la = b then lk + 1 else 1)), v] ∧ Same H (upd H2 r (.lst (fs.map V.int ++ [.int b]))) ∧ At (upd H2 r (.lst (fs.map V.int ++ [.int b]))) r (.lst ((fs ++ [b]).map V.int)) := fun z hz => by
        refine ⟨_, by rw [hz], s2.upF hr0, ?_⟩
        rw [List.map_append]
        exact at_same
      have er : At H2 r (.lst (fs.map V.int)) := er
      have lf : fs.length ≤ min i ws.length := lf
      have app : ∀ z : Int, z = (if la = b then lk + 1 else 1) → rIxL K (.ref a) (.int (i : Int)) H2 (fun y H3 => rAppend (.ref r) [y] H3 (fun _ H4 => ∃ v : Option V, [some (.ref a), some (.ref r), some (V.int z), some (.int (i : Int))] = [some (.ref a), some (.ref r), some (.int (if la = b then lk + 1 else 1)), v] ∧ Same H H4 ∧ At H4 r (.lst ((fs ++ [b]).map V.int)))) := fun z hz => by
        refine wp_ixL hS2 (atI_map hi) ?_
        rw [gb]
        exact wp_append er (small1000 (by rw [List.length_map]; omega)) (fin z hz)
      wtm_at "wp"
      refine wp_dec (fun c2 => ?_) (fun c2 => ?_)
      · wtm_at "wp"
        refine wp_ixL hS2 (show atI _ ((i : Int) - 1) = some (.int (ws.getD (i - 1) 0)) by rw [show (i : Int) - 1 = ((i - 1 : Nat) : Int) by omega]; exact atI_map (by omega)) ?_
        wtm_at "wp"
        refine wp_ixL hS2 (atI_map hi) ?_
        wtm_at "wp"
        rw [gb]
        refine wp_dec (fun c3 => ?_) (fun c3 => ?_)
        · wtm_at "wp"
          exact app _ (by rw [if_pos (hal.mpr ⟨by omega, c3⟩)])
        · wtm_at "wp"
          exact app _ (by rw [if_neg (fun z => c3 (hal.mp z).2)])
      · wtm_at "wp"
        exact app _ (by rw [if_neg (fun z => c2 (by have := (hal.mp z).1; omega))])
  · rintro σ H2 ⟨v, rfl, s2, er⟩
    rw [List.take_of_length_le (Nat.le_refl _)] at er ⊢
    wtm_at "wp"
    refine ⟨small (show 2 ≤ 1000 by decide), fun t ht => ?_⟩
    exact q t r _ (s2.new ht) (s2.fr ht) hr0 at_same (upd_new ht er)
end
abbrev s__law_fits : Stmt := (top 37)
abbrev sp__law_fits (K : PySem.W.Frag) (c : Cs) : Sp := sp1 fun v H Q _ => ∃ (a : Addr) (ps : List Int), v = .ref a ∧ SqL K H a (ps.map V.int) ∧ Bits ps ∧ ps ≠ [] ∧ ps.length ≤ 800 ∧ (∀ (r : Bool) H', Same H H' → (r = true ↔ Fits ps) → Q (.bl r) H')
section
variable {P : Program} {w : World} {K : PySem.W.Frag} {mg : Str → Option Value} {base : Heap} {c : Cs}
theorem sc__law_fits : FnScope ["_law_plain_here", "_law_length", "_law_k", "_law_body", "_law_check_here"] ["_law_plain_here"] (defScope s__law_fits) := ⟨rfl, rfl, rfl, by decide +kernel, rfl, by decide +kernel, by decide +kernel⟩
theorem ok__law_fits (T : Txt K mg c) : HasF P w K mg base CX0 3 "_law_fits" ["_law_plain_here"] (sp__law_fits K c) := by
  refine T.d__law_fits.ok sc__law_fits (fun _ _ _ _ _ _ us hl => match us, hl with | [_], _ => rfl) len1 (fun f cdv A outer s H vs Q E hr h => ?_)
  obtain ⟨v0, rfl, h⟩ := h
  refine ⟨_, (pss_cons (ps_if (pt_cmpR op_ne (pe_ix (ix_listK (K := K)) (pv 0) pe_int (fun _ _ => rfl)) pe_int (nomark _))
        (pss_one (ps_ret pe_bl))
        pss_nil)
      (pss_cons (ps_set (i := 1) sc__law_fits.nd rfl (by first | exact Or.inl rfl | exact Or.inr rfl) pe_int)
      (pss_cons (ps_for PassesOwn.never rfl (pi_range2 rfl T.range (pa_cons pe_int (pa_cons pe_int pa_nil))) (pg_name (i := 2) sc__law_fits.nd rfl (by first | exact Or.inl rfl | exact Or.inr rfl))
        (pss_one (ps_set (i := 1) sc__law_fits.nd rfl (by first | exact Or.inl rfl | exact Or.inr rfl) (pe_op op_add (pe_op op_mul pe_int (pv 1)) (pe_ifExp (pt_cmpR op_lt (pv 2) (pe_callB (call_lenKK (K := K)) rfl T.len PySem.boot_len (pa_cons (pv 0) pa_nil)) (nomark _)) (pe_ix (ix_listK (K := K)) (pv 0) (pv 2) (fun _ _ => rfl)) pe_int)))))
      (pss_cons (ps_if (PW.pt (pw_or (pt_cmpR op_gt (pv 1) pe_int (nomark _)) (pw_or1 (pt_cmpR op_le (pe_callB (call_lenKK (K := K)) rfl T.len PySem.boot_len (pa_cons (pv 0) pa_nil)) (pe_op op_add pe_int (pe_op op_mul pe_int (pv 1))) (nomark _)))))
        (pss_one (ps_ret (pe_cmpR op_lt (pv 1) pe_int (nomark _))))
        pss_nil)
      (pss_cons (ps_set (i := 3) sc__law_fits.nd rfl (by first | exact Or.inl rfl | exact Or.inr rfl) (pe_slice (sl_listK (K := K)) (pv 0) po_none (po_some (pe_op op_add pe_int (pe_op op_mul pe_int (pv 1))))))
      (pss_cons (ps_set (i := 4) sc__law_fits.nd rfl (by first | exact Or.inl rfl | exact Or.inr rfl) (pe_slice (sl_listK (K := K)) (pv 0) (po_some (pe_op op_add pe_int (pe_op op_mul pe_int (pv 1)))) po_none))
      (pss_one (ps_ret (pe_cmpR (op_eqKK (K := K) hr) (pv 4) (pe_slice (sl_listK (K := K)) (pe_f (ok__law_check T) hr pass0 (pa_cons (pv 3) pa_nil)) po_none (po_some (pe_callB (call_lenKK (K := K)) rfl T.len PySem.boot_len (pa_cons (pv 4) pa_nil)))) (nomark _)))))))))), ?_⟩
  try dsimp only [cxOf, Cx.nox, Cx.wish]
  refine wp_start (s2 := [some v0, none, none, none, none]) rfl ?_
  obtain ⟨a, ps, rfl, hS, hb, hne, hl, q⟩ := h
  have fi := fits_iff hb
  have lr : (ps.map V.int).length = ps.length := List.length_map _
  wtm_at "wp"
  refine wp_ixL hS (atI0 hne) ?_
  wtm_at "wp"
  refine wp_ndec (fun c0 => ?_) (fun c0 => ?_)
  · wtm_at "wp"
    exact q false H (Same.refl _) ⟨fun z => (by cases z), fun f => absurd f.h0 c0⟩
  · wtm_at "wp"
    refine wp_forR2 ?_
    wtm_at "wp"
    refine wp_forR2A 4 (fun i σ H2 => H2 = H ∧ ∃ v : Option V, σ = [some (.ref a), some (.int (cntTo ps i)), v, none, none]) rfl (by decide) ⟨rfl, none, rfl⟩ ?_ ?_
    · rintro i σ H2 hi ⟨rfl, v, rfl⟩
      wtm_at "wp"
      rw [lr]
      refine wp_dec (fun c1 => ?_) (fun c1 => ?_)
      · wtm_at "wp"
        refine wp_ixL hS (show atI _ (12 + (i : Int)) = some (.int (ps.getD (12 + i) 0)) by rw [show (12 : Int) + i = ((12 + i : Nat) : Int) by omega]; exact atI_map (by omega)) ?_
        wtm_at "wp"
        exact ⟨rfl, _, by rw [cntTo_succ]⟩
      · wtm_at "wp"
        have : ps.getD (12 + i) 0 = 0 := getD_out (by omega)
        exact ⟨rfl, _, by rw [cntTo_succ, this]⟩
    · rintro σ H2 ⟨rfl, v, rfl⟩
      rw [cntTo_all]
      have c0' := cnt_nn hb
      have ha : (ckAt ps : Int) = 16 + 8 * cnt ps := by unfold ckAt; omega
      wtm_at "wp"
      refine wp_dec (fun c1 => ?_) (fun c1 => ?_)
      · wtm_at "wp"
        refine q _ _ (Same.refl _) ?_
        rw [decide_eq_true_iff, fi]
        constructor
        · intro z; omega
        · rintro ⟨_, z, _⟩; omega
      · wtm_at "wp"
        rw [lr]
        refine wp_dec (fun c2 => ?_) (fun c2 => ?_)
        · wtm_at "wp"
          refine q _ _ (Same.refl _) ?_
          rw [decide_eq_true_iff, fi]
          constructor
          · intro z; exact ⟨c0, by omega, .inl c2⟩
          · rintro ⟨_, z, _⟩; omega
        · wtm_at "wp"
          refine wp_slL hS (show cutV (ps.map V.int) none (some (16 + 8 * cnt ps)) = (ps.take (ckAt ps)).map V.int by rw [← ha]; exact cutIto _ _) (fun p1 hp1 => ?_)
          wtm_at "wp"
          refine wp_slL (hS.new hp1) (show cutV (ps.map V.int) (some (16 + 8 * cnt ps)) none = (ps.drop (ckAt ps)).map V.int by rw [← ha]; exact cutIfrom _ _) (fun p2 hp2 => ?_)
          wtm_at "wp"
          refine ⟨p1, ps.take (ckAt ps), rfl, At.sqL (upd_new hp2 at_same), hb.take _, by rw [List.length_take]; omega, fun r H3 s3 fr er => ?_⟩
          have e2 : At (upd (upd H2 p1 (.lst ((ps.take (ckAt ps)).map V.int))) p2 (.lst ((ps.drop (ckAt ps)).map V.int))) p2 (.lst ((ps.drop (ckAt ps)).map V.int)) := at_same
          have s2 : Same H2 (upd (upd H2 p1 (.lst ((ps.take (ckAt ps)).map V.int))) p2 (.lst ((ps.drop (ckAt ps)).map V.int))) := (same_new hp1 _).new hp2
          have e3 := s3.get e2
          have sH := s2.trans s3
          generalize upd (upd H2 p1 (.lst ((ps.take (ckAt ps)).map V.int))) p2 (.lst ((ps.drop (ckAt ps)).map V.int)) = H4 at *
          wtm_at "wp"
          rw [List.length_map, List.length_drop]
          refine wp_slL (At.sqL er) (cutIto _ _) (fun p3 hp3 => ?_)
          refine wp_eqLs (xs := ps.drop (ckAt ps)) (ys := (chk (ps.take (ckAt ps))).take (ps.length - ckAt ps)) (At.sqL (upd_new hp3 e3)) (At.sqL at_same) ?_
          wtm_at "wp"
          refine q _ _ (sH.new hp3) ?_
          rw [decide_eq_true_iff, fi]
          constructor
          · intro z; exact ⟨c0, by omega, .inr z⟩
          · rintro ⟨_, _, z | z⟩
            · omega
            · exact z
end
abbrev s__law_ends : Stmt := (top 38)
abbrev sp__law_ends (K : PySem.W.Frag) (c : Cs) : Sp := sp1 fun v H Q _ => ∃ (a : Addr) (ws : List Int), v = .ref a ∧ SqL K H a (ws.map V.int) ∧ Bits ws ∧ ws.length ≤ 800 ∧ (∀ (r : Bool) H', Same H H' → (r = true ↔ Ends ws) → Q (.bl r) H')
section
variable {P : Program} {w : World} {K : PySem.W.Frag} {mg : Str → Option Value} {base : Heap} {c : Cs}
theorem sc__law_ends : FnScope ["_law_bits_here", "_law_plain_here", "_law_like", "_law_length"] ["_law_bits_here"] (defScope s__law_ends) := ⟨rfl, rfl, rfl, by decide +kernel, rfl, by decide +kernel, by decide +kernel⟩
theorem ok__law_ends (T : Txt K mg c) : HasF P w K mg base CX0 2 "_law_ends" ["_law_bits_here"] (sp__law_ends K c) := by
  refine T.d__law_ends.ok sc__law_ends (fun _ _ _ _ _ _ us hl => match us, hl with | [_], _ => rfl) len1 (fun f cdv A outer s H vs Q E hr h => ?_)
  obtain ⟨v0, rfl, h⟩ := h
  refine ⟨_, (pss_cons (ps_asg (pe_f (ok__law_plain T) hr pass0 (pa_cons (pv 0) pa_nil)) (pg_tupK (K := K) rfl (pgs_cons (pg_name (i := 1) sc__law_ends.nd rfl (by first | exact Or.inl rfl | exact Or.inr rfl)) (pgs_cons (pg_name (i := 2) sc__law_ends.nd rfl (by first | exact Or.inl rfl | exact Or.inr rfl)) pgs_nil))))
      (pss_cons (ps_if (PW.pt (pw_or (pt_cmpR op_lt (pe_callB (call_lenKK (K := K)) rfl T.len PySem.boot_len (pa_cons (pv 1) pa_nil)) pe_int (nomark _)) (pw_or1 (pt_cmpR op_eq (pv 2) pe_int (nomark _)))))
        (pss_one (ps_ret pe_bl))
        pss_nil)
      (pss_cons (ps_set (i := 3) sc__law_ends.nd rfl (by first | exact Or.inl rfl | exact Or.inr rfl) (pe_op op_add (pe_op op_add (pe_op op_add (pe_op op_mul pe_int (pe_ix (ix_listK (K := K)) (pv 1) pe_int (fun _ _ => rfl))) (pe_op op_mul pe_int (pe_ix (ix_listK (K := K)) (pv 1) pe_int (fun _ _ => rfl)))) (pe_op op_mul pe_int (pe_ix (ix_listK (K := K)) (pv 1) pe_int (fun _ _ => rfl)))) (pe_ix (ix_listK (K := K)) (pv 1) pe_int (fun _ _ => rfl))))
      (pss_one (ps_ret (pe_cmpR op_eq (pe_callB (call_lenKK (K := K)) rfl T.len PySem.boot_len (pa_cons (pv 1) pa_nil)) (pe_op op_add pe_int (pe_op op_mul pe_int (pv 3))) (nomark _))))))), ?_⟩
  try dsimp only [cxOf, Cx.nox, Cx.wish]
  refine wp_start (s2 := [some v0, none, none, none]) rfl ?_
  obtain ⟨a, ws, rfl, hS, hb, hl, q⟩ := h
  wtm_at "wp"
  refine ⟨a, ws, rfl, hS, hb, hl, fun t r H1 s1 ft fr et er => ?_⟩
  have q : ∀ (r : Bool) H', Same H H' → (r = true ↔ (¬ ((LP ws).1.length < 31 ∨ (LP ws).2.1 = 5) ∧ ((LP ws).1.length : Int) = 31 + 8 * cnt (LP ws).1)) → Q (.bl r) H' := q
  generalize LP ws = S at *
  obtain ⟨fs, lk, la⟩ := S
  have et : At H1 t (.tup [.ref r, .int lk]) := et
  have er : At H1 r (.lst (fs.map V.int)) := er
  have q : ∀ (r : Bool) H', Same H H' → (r = true ↔ (¬ (fs.length < 31 ∨ lk = 5) ∧ (fs.length : Int) = 31 + 8 * cnt fs)) → Q (.bl r) H' := q
  have lr : (fs.map V.int).length = fs.length := List.length_map _
  wtm_at "wp"
  rw [lr]
  refine wp_dec (fun c1 => ?_) (fun c1 => ?_)
  · wtm_at "wp"
    exact q false H1 s1 ⟨fun z => (by cases z), fun z => absurd (.inl (by omega)) z.1⟩
  · wtm_at "wp"
    refine wp_dec (fun c2 => ?_) (fun c2 => ?_)
    · wtm_at "wp"
      exact q false H1 s1 ⟨fun z => (by cases z), fun z => absurd (.inr c2) z.1⟩
    · have i12 : atI (fs.map V.int) 12 = some (.int (fs.getD 12 0)) := by rw [show (12 : Int) = ((12 : Nat) : Int) by rfl]; exact atI_map (by omega)
      have i13 : atI (fs.map V.int) 13 = some (.int (fs.getD 13 0)) := by rw [show (13 : Int) = ((13 : Nat) : Int) by rfl]; exact atI_map (by omega)
      have i14 : atI (fs.map V.int) 14 = some (.int (fs.getD 14 0)) := by rw [show (14 : Int) = ((14 : Nat) : Int) by rfl]; exact atI_map (by omega)
      have i15 : atI (fs.map V.int) 15 = some (.int (fs.getD 15 0)) := by rw [show (15 : Int) = ((15 : Nat) : Int) by rfl]; exact atI_map (by omega)
      wtm_at "wp"
      refine wp_ixL (At.sqL er) i12 ?_
      wtm_at "wp"
      refine wp_ixL (At.sqL er) i13 ?_
      wtm_at "wp"
      refine wp_ixL (At.sqL er) i14 ?_
      wtm_at "wp"
      refine wp_ixL (At.sqL er) i15 ?_
      wtm_at "wp"
      rw [lr]
      refine q _ H1 s1 ?_
      rw [decide_eq_true_iff]
      exact ⟨fun z => ⟨fun y => y.elim (fun y => c1 (by omega)) c2, z⟩, fun z => z.2⟩
end
abbrev s__law_goes_on : Stmt := (top 39)
abbrev sp__law_goes_on (K : PySem.W.Frag) (c : Cs) : Sp := sp1 fun v H Q _ => ∃ (a : Addr) (m : List Int) (b : Int), v = .ref a ∧ SqL K H a ((m ++ [b]).map V.int) ∧ Bits m ∧ Bit b ∧ m.length ≤ 700 ∧ (∀ (r : Bool) H', Same H H' → (r = true ↔ GoesOn m b) → Q (.bl r) H')
section
variable {P : Program} {w : World} {K : PySem.W.Frag} {mg : Str → Option Value} {base : Heap} {c : Cs}
theorem sc__law_goes_on : FnScope ["_law_bits_here", "_law_before"] ["_law_bits_here"] (defScope s__law_goes_on) := ⟨rfl, rfl, rfl, by decide +kernel, rfl, by decide +kernel, by decide +kernel⟩
theorem ok__law_goes_on (T : Txt K mg c) : HasF P w K mg base CX0 4 "_law_goes_on" ["_law_bits_here"] (sp__law_goes_on K c) := by
  refine T.d__law_goes_on.ok sc__law_goes_on (fun _ _ _ _ _ _ us hl => match us, hl with | [_], _ => rfl) len1 (fun f cdv A outer s H vs Q E hr h => ?_)
  obtain ⟨v0, rfl, h⟩ := h
  refine ⟨_, (pss_cons (ps_set (i := 1) sc__law_goes_on.nd rfl (by first | exact Or.inl rfl | exact Or.inr rfl) (pe_slice (sl_listK (K := K)) (pv 0) po_none (po_some (pe_un un_neg pe_int))))
      (pss_cons (ps_if (PW.pt (pw_and (pt_truK (K := K) (pv 1) (fun _ => rfl)) (pw_and1 (PW.pt (pw_or (pt_val (pe_f (ok__law_ends T) hr pass0 (pa_cons (pv 1) pa_nil))) (pw_or1 (PW.pt (pw_and (pt_cmpR op_eq (pe_ix (ix_tupK (K := K)) (pe_f (ok__law_plain T) hr pass0 (pa_cons (pv 1) pa_nil)) pe_int (fun _ _ => rfl)) pe_int (nomark _)) (pw_and1 (pt_cmpR op_eq (pe_ix (ix_listK (K := K)) (pv 0) (pe_un un_neg pe_int) (fun _ _ => rfl)) (pe_ix (ix_listK (K := K)) (pv 1) (pe_un un_neg pe_int) (fun _ _ => rfl)) (nomark _)))))))))))
        (pss_one (ps_ret pe_bl))
        pss_nil)
      (pss_one (ps_ret (pe_f (ok__law_fits T) hr pass0 (pa_cons (pe_ix (ix_tupK (K := K)) (pe_f (ok__law_plain T) hr pass0 (pa_cons (pv 0) pa_nil)) pe_int (fun _ _ => rfl)) pa_nil)))))), ?_⟩
  try dsimp only [cxOf, Cx.nox, Cx.wish]
  refine wp_start (s2 := [some v0, none]) rfl ?_
  obtain ⟨a, m, b, rfl, hS, hm, hbb, hl, q⟩ := h
  have hw : Bits (m ++ [b]) := hm.append (Bits.cons hbb Bits.nil)
  have lw : (m ++ [b]).length ≤ 800 := by rw [List.length_append, List.length_singleton]; omega
  -- the last row
  have last : ∀ (H2 : Hp) (N : St → Hp → Prop) (u : V), Same H H2 → (w1 : ¬ (m ≠ [] ∧ (Ends m ∨ ((LP m).2.1 = 5 ∧ b = m.getLastD 0)))) → tRet (tCall (sp__law_fits K c) [] E0 (tCons (tOp (rIxT K) (tCall (sp__law_plain K c) [] E0 (tCons (tVar 0) tNil)) (tC (.int 0))) tNil)) { nx := N, rt := Q } [some (.ref a), some u] H2 := fun H2 N u s2 w1 => by
    wtm_at "wp"
    refine ⟨a, m ++ [b], rfl, s2.seq hS, hw, lw, fun t r H3 s3 ft fr et er => ?_⟩
    wtm_at "wp"
    refine ⟨r, (LP (m ++ [b])).1, rfl, At.sqL er, LP_bits hw, LP_ne (by simp), Nat.le_trans (LP_len _) lw, fun z H4 s4 hz => ?_⟩
    refine q z H4 ((s2.trans s3).trans s4) ?_
    rw [hz]
    exact ⟨fun f => ⟨w1, f⟩, fun g => g.2⟩
  wtm_at "wp"
  refine wp_slL hS (cutInit m b) (fun p hp => ?_)
  have s1 : Same H (upd H p (.lst (m.map V.int))) := same_new hp _
  have e1 : At (upd H p (.lst (m.map V.int))) p (.lst (m.map V.int)) := at_same
  generalize upd H p (.lst (m.map V.int)) = H1 at *
  wtm_at "wp"
  by_cases hm0 : m = []
  · rw [show (!(m.map V.int).isEmpty) = false by rw [hm0]; rfl]
    wtm_at "wr"
    exact last H1 _ _ s1 (fun z => z.1 hm0)
  · rw [show (!(m.map V.int).isEmpty) = true by cases m with | nil => exact absurd rfl hm0 | cons _ _ => rfl]
    refine iteT ?_
    wtm_at "wp"
    refine ⟨p, m, rfl, At.sqL e1, hm, by omega, fun r H2 s2 hr => ?_⟩
    cases r with
    | true =>
      wtm_at "wp"
      exact q false H2 (s1.trans s2) ⟨fun z => (by cases z), fun g => absurd ⟨hm0, .inl (hr.mp rfl)⟩ g.1⟩
    | false =>
      have ne : ¬ Ends m := fun z => by have := hr.mpr z; cases this
      wtm_at "wp"
      refine ⟨p, m, rfl, At.sqL (s2.get e1), hm, by omega, fun t r H3 s3 ft fr et er => ?_⟩
      wtm_at "wp"
      refine wp_dec (fun c1 => ?_) (fun c1 => ?_)
      · wtm_at "wp"
        refine wp_ixL ((s1.trans (s2.trans s3)).seq hS) (atI_last' (by simp)) ?_
        wtm_at "wp"
        refine wp_ixL (At.sqL (s3.get (s2.get e1))) (atI_last' hm0) ?_
        rw [getLastD_snoc]
        wtm_at "wp"
        refine wp_dec (fun c2 => ?_) (fun c2 => ?_)
        · wtm_at "wp"
          exact q false H3 (s1.trans (s2.trans s3)) ⟨fun z => (by cases z), fun g => absurd ⟨hm0, .inr ⟨c1, c2⟩⟩ g.1⟩
        · exact last H3 _ _ (s1.trans (s2.trans s3)) (fun z => z.2.elim ne fun y => c2 y.2)
      · exact last H3 _ _ (s1.trans (s2.trans s3)) (fun z => z.2.elim ne fun y => c1 y.1)
end
abbrev s__law_place : Stmt := (top 40)
abbrev sp__law_place (K : PySem.W.Frag) (c : Cs) : Sp := sp1 fun v H Q _ => ∃ (a : Addr) (ws : List Int), v = .ref a ∧ SqL K H a (ws.map V.int) ∧ Bits ws ∧ ws.length ≤ 600 ∧ (∀ (r : Int) H', Same H H' → Placed ws r → Q (.int r) H')
section
variable {P : Program} {w : World} {K : PySem.W.Frag} {mg : Str → Option Value} {base : Heap} {c : Cs}
theorem sc__law_place : FnScope ["_law_bits_here", "_law_k"] ["_law_bits_here"] (defScope s__law_place) := ⟨rfl, rfl, rfl, by decide +kernel, rfl, by decide +kernel, by decide +kernel⟩
theorem ok__law_place (T : Txt K mg c) : HasF P w K mg base CX0 5 "_law_place" ["_law_bits_here"] (sp__law_place K c) := by
  refine T.d__law_place.ok sc__law_place (fun _ _ _ _ _ _ us hl => match us, hl with | [_], _ => rfl) len1 (fun f cdv A outer s H vs Q E hr h => ?_)
  obtain ⟨v0, rfl, h⟩ := h
  refine ⟨_, (pss_cons (ps_for PassesOwn.never rfl (pi_range1 rfl T.range (pa_cons (pe_callB (call_lenKK (K := K)) rfl T.len PySem.boot_len (pa_cons (pv 0) pa_nil)) pa_nil)) (pg_name (i := 1) sc__law_place.nd rfl (by first | exact Or.inl rfl | exact Or.inr rfl))
        (pss_one (ps_if (pt_not (pt_val (pe_f (ok__law_goes_on T) hr pass0 (pa_cons (pe_slice (sl_listK (K := K)) (pv 0) po_none (po_some (pe_op op_add (pv 1) pe_int))) pa_nil))))
          (pss_one (ps_ret (pv 1)))
          pss_nil)))
      (pss_one (ps_ret (pe_ifExp (PW.pt (pw_and (pt_truK (K := K) (pv 0) (fun _ => rfl)) (pw_and1 (pt_val (pe_f (ok__law_ends T) hr pass0 (pa_cons (pv 0) pa_nil)))))) (pe_un un_neg pe_int) (pe_callB (call_lenKK (K := K)) rfl T.len PySem.boot_len (pa_cons (pv 0) pa_nil)))))), ?_⟩
  try dsimp only [cxOf, Cx.nox, Cx.wish]
  refine wp_start (s2 := [some v0, none]) rfl ?_
  obtain ⟨a, ws, rfl, hS, hb, hl, q⟩ := h
  have lr : (ws.map V.int).length = ws.length := List.length_map _
  wtm_at "wp"
  refine wp_forR ?_
  wtm_at "wp"
  rw [lr]
  refine wp_forRA ws.length (fun i σ H2 => ∃ v : Option V, σ = [some (.ref a), v] ∧ Same H H2 ∧ (∀ j c, j < i → ws[j]? = some c → GoesOn (ws.take j) c)) (Int.toNat_natCast _) (by omega) ⟨none, rfl, Same.refl _, fun j c z => absurd z (by omega)⟩ ?_ ?_
  · rintro i σ H2 hi ⟨v, rfl, s2, g2⟩
    obtain ⟨b, hbi⟩ : ∃ b, ws[i]? = some b := ⟨ws[i], List.getElem?_eq_getElem hi⟩
    have hbb : Bit b := hb b (List.mem_of_getElem? hbi)
    wtm_at "wp"
    refine wp_slL (s2.seq hS) (show cutV (ws.map V.int) none (some ((i : Int) + 1)) = (ws.take i ++ [b]).map V.int by rw [show (i : Int) + 1 = ((i + 1 : Nat) : Int) by omega, cutIto, take_snoc hbi]) (fun p hp => ?_)
    wtm_at "wp"
    refine ⟨p, ws.take i, b, rfl, At.sqL at_same, hb.take i, hbb, by rw [List.length_take]; omega, fun r H3 s3 hr => ?_⟩
    have s23 : Same H H3 := (s2.new hp).trans s3
    cases r with
    | true =>
      wtm_at "wp"
      refine ⟨_, rfl, s23, fun j c hj hc => ?_⟩
      rcases Nat.lt_or_ge j i with z | z
      · exact g2 j c z hc
      · have : j = i := by omega
        subst this
        rw [hbi] at hc
        cases hc
        exact hr.mp rfl
    | false =>
      wtm_at "wp"
      exact q _ H3 s23 (.inl ⟨i, b, hbi, g2, fun z => (by have := hr.mpr z; cases this), rfl⟩)
  · rintro σ H2 ⟨v, rfl, s2, g2⟩
    have g3 : ∀ j c, ws[j]? = some c → GoesOn (ws.take j) c := fun j c hc => g2 j c (List.getElem?_eq_some_iff.mp hc).1 hc
    wtm_at "wp"
    by_cases h0 : ws = []
    · rw [show (!(ws.map V.int).isEmpty) = false by rw [h0]; rfl]
      wtm_at "wp"
      rw [lr]
      exact q _ H2 s2 (.inr ⟨g3, .inr ⟨fun z => z.1 h0, rfl⟩⟩)
    · rw [show (!(ws.map V.int).isEmpty) = true by cases ws with | nil => exact absurd rfl h0 | cons _ _ => rfl]
      refine iteT ?_
      wtm_at "wp"
      refine ⟨a, ws, rfl, s2.seq hS, hb, by omega, fun r H3 s3 hr => ?_⟩
      cases r with
      | true =>
        wtm_at "wp"
        exact q _ H3 (s2.trans s3) (.inr ⟨g3, .inl ⟨h0, hr.mp rfl, rfl⟩⟩)
      | false =>
        wtm_at "wp"
        rw [lr]
        exact q _ H3 (s2.trans s3) (.inr ⟨g3, .inr ⟨fun z => (by have := hr.mpr z.2; cases this), rfl⟩⟩)
end


def flipV (v : V) : V := match v with
  | .int b => .int (1 - b)
  | _ => .non
theorem flip_map (l : List Int) : (l.map V.int).map flipV = (l.map fun b => 1 - b).map V.int := by
  rw [List.map_map, List.map_map]; rfl
theorem flip_bits {l : List Int} (h : Bits l) : Bits (l.map fun b => 1 - b) := fun x hx => by
  obtain ⟨b, hb, rfl⟩ := List.mem_map.mp hx
  rcases h b hb with e | e <;> rw [e] <;> simp [Bit]
theorem bit_mod (n : Int) : Bit (n % 2) := by
  have : n % 2 = 0 ∨ n % 2 = 1 := by omega
  exact this
theorem pickV {x0 x1 x2 x3 : V} (z : Int) : ∃ v, atI [x0, x1, x2, x3] (z % 4) = some v ∧ (v = x0 ∨ v = x1 ∨ v = x2 ∨ v = x3) := by
  have : z % 4 = 0 ∨ z % 4 = 1 ∨ z % 4 = 2 ∨ z % 4 = 3 := by omega
  rcases this with e | e | e | e <;> rw [e] <;> refine ⟨_, rfl, ?_⟩ <;> simp
theorem sl_then {K : PySem.W.Frag} {H : Hp} {a : Addr} {bs ys : List Int} {lo hi : Option Int} {Q : VK} (e : At H a (.lst (bs.map V.int))) (c : cutV (bs.map V.int) lo hi = ys.map V.int) (h : MkL H Q ys) : rSlL K (.ref a) lo hi H Q :=
  wp_slL (At.sqL e) c (fun p hp => h p _ (same_new hp _) hp at_same)
theorem cat_then {H : Hp} {a b : Addr} {xs ys : List Int} {Q : VK} (e1 : At H a (.lst (xs.map V.int))) (e2 : At H b (.lst (ys.map V.int))) (hl : xs.length + ys.length ≤ 1000) (h : MkL H Q (xs ++ ys)) : rCat (.ref a) (.ref b) H Q :=
  wp_cat e1 e2 (small (by rw [List.length_map, List.length_map]; exact hl)) (fun p hp => h p _ (same_new hp _) hp (by rw [List.map_append]; exact at_same))
abbrev s_law : Stmt := (top 41)
abbrev sp_law (K : PySem.W.Frag) (c : Cs) : Sp := sp1 fun v H Q _ => ∃ (a : Addr) (ns : List Int), v = .ref a ∧ SqL K H a (ns.map V.int) ∧ ∀ H', Q (.bl true) H'
section
variable {P : Program} {w : World} {K : PySem.W.Frag} {mg : Str → Option Value} {base : Heap} {c : Cs}
theorem sc_law : FnScope ["_law_script", "_law_name", "_law_row", "_law_bits_here", "_law_k", "_law_number", "_law_at", "_law_here", "_law_some", "_law_handed", "_law_kept", "_law_found", "e", "_law_due", "_law_good"] ["_law_script"] (defScope s_law) := ⟨rfl, rfl, rfl, by decide +kernel, rfl, by decide +kernel, by decide +kernel⟩
theorem ok_law {f : Addr} {fd : FuncData} (T : Txt K mg c) (F : Fun K "law" "law" s_law f fd) : FnOk P w K mg base CX0 10 f fd ["_law_script"] (sp_law K c) := by
  refine F.ok sc_law len1 (fun cdv A outer s H vs Q E hr h => ?_)
  obtain ⟨v0, rfl, h⟩ := h
  refine ⟨_, (pss_cons (ps_asg (pe_f (ok__law_frame T) hr pass0 (pa_cons (pv 0) (pa_cons pe_int (pa_cons pe_int pa_nil)))) (pg_tupK (K := K) rfl (pgs_cons (pg_name (i := 1) sc_law.nd rfl (by first | exact Or.inl rfl | exact Or.inr rfl)) (pgs_cons (pg_name (i := 2) sc_law.nd rfl (by first | exact Or.inl rfl | exact Or.inr rfl)) pgs_nil))))
      (pss_cons (ps_set (i := 3) sc_law.nd rfl (by first | exact Or.inl rfl | exact Or.inr rfl) (pe_f (ok__law_stuffed T) hr pass0 (pa_cons (pe_f (ok__law_bits T) hr pass0 (pa_cons (pv 1) (pa_cons (pv 2) pa_nil))) pa_nil)))
      (pss_cut (ps_if (pt_cmpR op_eq (pe_op op_mod (pe_f (ok__law_mix T) hr pass0 (pa_cons (pv 0) (pa_cons pe_int pa_nil))) pe_int) pe_int (nomark _))
        (pss_one (ps_set (i := 3) sc_law.nd rfl (by first | exact Or.inl rfl | exact Or.inr rfl) (pe_op op_cat (pe_lst (pa_cons pe_int pa_nil)) (pe_comp ["_law_script"] [0] (pi_range1 rfl T.range (pa_cons (pe_op op_mod (pe_f (ok__law_mix T) hr pass0 (pa_cons (pv 0) (pa_cons pe_int pa_nil))) pe_int) pa_nil)) (fun fp s H => (pe_op op_mod (pe_op op_fdiv (pe_f (ok__law_mix T) hr pass0 (pa_cons (pv 0) (pa_cons (pe_op op_add pe_int (pv 1)) pa_nil))) pe_int) pe_int))))))
        pss_nil)
      (pss_cut (ps_for PassesOwn.never rfl (pi_range1 rfl T.range (pa_cons (pe_op op_mod (pe_f (ok__law_mix T) hr pass0 (pa_cons (pv 0) (pa_cons pe_int pa_nil))) pe_int) pa_nil)) (pg_name (i := 4) sc_law.nd rfl (by first | exact Or.inl rfl | exact Or.inr rfl))
        (pss_cons (ps_set (i := 5) sc_law.nd rfl (by first | exact Or.inl rfl | exact Or.inr rfl) (pe_f (ok__law_mix T) hr pass0 (pa_cons (pv 0) (pa_cons (pe_op op_add pe_int (pv 4)) pa_nil))))
        (pss_cons (ps_set (i := 6) sc_law.nd rfl (by first | exact Or.inl rfl | exact Or.inr rfl) (pe_op op_mod (pv 5) (pe_op op_add (pe_callB (call_lenKK (K := K)) rfl T.len PySem.boot_len (pa_cons (pv 3) pa_nil)) pe_int)))
        (pss_cons (ps_setC (i := 7) (fv := []) (js := []) sc_law.nd rfl (by first | exact Or.inl rfl | exact Or.inr rfl) (pi_listK (K := K) (pe_slice (sl_listK (K := K)) (pv 3) (po_some (pv 6)) (po_some (pe_op op_add (pv 6) pe_int))))  (fun fp s H => (pe_op op_sub pe_int (pv 0))))
        (pss_cons (ps_set (i := 8) sc_law.nd rfl (by first | exact Or.inl rfl | exact Or.inr rfl) (pe_lst (pa_cons (pe_op op_cat (pe_op op_cat (pe_slice (sl_listK (K := K)) (pv 3) po_none (po_some (pv 6))) (pv 7)) (pe_slice (sl_listK (K := K)) (pv 3) (po_some (pe_op op_add (pv 6) pe_int)) po_none)) (pa_cons (pe_op op_cat (pe_slice (sl_listK (K := K)) (pv 3) po_none (po_some (pv 6))) (pe_slice (sl_listK (K := K)) (pv 3) (po_some (pe_op op_add (pv 6) pe_int)) po_none)) (pa_cons (pe_slice (sl_listK (K := K)) (pv 3) po_none (po_some (pv 6))) pa_nil)))))
        (pss_cons (ps_expr (pe_bmK (K := K) PySem.F.plainAttrs_list PySem.F.slot_list_append PySem.F.type_list_append mt_append (pv 8) (pa_cons (pe_op op_cat (pe_op op_cat (pe_slice (sl_listK (K := K)) (pv 3) po_none (po_some (pv 6))) (pe_lst (pa_cons (pe_op op_mod (pe_op op_fdiv (pv 5) pe_int) pe_int) pa_nil))) (pe_slice (sl_listK (K := K)) (pv 3) (po_some (pv 6)) po_none)) pa_nil)))
        (pss_one (ps_set (i := 3) sc_law.nd rfl (by first | exact Or.inl rfl | exact Or.inr rfl) (pe_ix (ix_listK (K := K)) (pv 8) (pe_op op_mod (pe_op op_fdiv (pv 5) pe_int) pe_int) (fun _ _ => rfl))))))))))
      (pss_cons (ps_set (i := 9) sc_law.nd rfl (by first | exact Or.inl rfl | exact Or.inr rfl) (pe_callTy (call_listKK (K := K)) rfl T.list PyProof.Rows.boot_list (pa_cons (pv 3) pa_nil)))
      (pss_cons (ps_set (i := 10) sc_law.nd rfl (by first | exact Or.inl rfl | exact Or.inr rfl) pe_non)
      (pss_cons (ps_set (i := 11) sc_law.nd rfl (by first | exact Or.inl rfl | exact Or.inr rfl) pe_non)
      (pss_cut (ps_tryK (K := K) (iz := 10) (ie := 12) (pb_f (i := 11) (ok_frame_of T) hr (pa_cons (pv 9) pa_nil) sc_law.nd rfl (by first | exact Or.inl rfl | exact Or.inr rfl)) rfl rfl rfl T.m_BusError T.t_BusError T.l_BusError T.b_BusError sc_law.nd rfl rfl rfl (by first | exact Or.inl rfl | exact Or.inr rfl))
      (pss_cons (ps_if (pt_cmpR (op_neKK (K := K) hr) (pv 9) (pv 3) (nomark _))
        (pss_one (ps_ret pe_bl))
        pss_nil)
      (pss_cons (ps_set (i := 13) sc_law.nd rfl (by first | exact Or.inl rfl | exact Or.inr rfl) (pe_f (ok__law_place T) hr pass0 (pa_cons (pv 3) pa_nil)))
      (pss_cons (ps_if (pt_cmpR op_ge (pv 13) pe_int (nomark _))
        (pss_cons (ps_set (i := 14) sc_law.nd rfl (by first | exact Or.inl rfl | exact Or.inr rfl) (pe_and (pe_callB (call_isXK (K := K)) rfl T.isI PyProof.Rows.boot_isinstance (pa_cons (pv 10) (pa_cons (pgr T.m_BadBits) pa_nil))) (pe_and (pe_callB (call_isXK (K := K)) rfl T.isI PyProof.Rows.boot_isinstance (pa_cons (pv 10) (pa_cons (pty T.valueError boot_VE) pa_nil))) (pe_one (pe_not (pe_callB (call_isXTK (K := K)) rfl T.isI PyProof.Rows.boot_isinstance (pa_cons (pv 10) (pa_cons (pe_tup (pa_cons (pgr T.m_BadFrame) (pa_cons (pgr T.m_NoNode) pa_nil))) pa_nil))))))))
        (pss_one (ps_ret (pe_and (pv 14) (pe_and (pe_f (ok__law_whole T) hr pass0 (pa_cons (pe_attrXK (K := K) (pv 10)) pa_nil)) (pe_one (pe_cmpR op_eq (pe_attrXK (K := K) (pv 10)) (pv 13) (nomark _))))))))
        pss_nil)
      (pss_one (ps_ret (pe_and (pe_callB (call_isIK (K := K)) rfl T.isI PyProof.Rows.boot_isinstance (pa_cons (pv 11) (pa_cons (pty T.tuple PyProof.Rows.boot_tuple) pa_nil))) (pe_one (pe_cmpR (op_eqKK (K := K) hr) (pe_f (ok__law_stuffed T) hr pass0 (pa_cons (pe_f (ok__law_bits T) hr pass0 (pa_cons (pe_ix (ix_tupK (K := K)) (pv 11) pe_int (fun _ _ => rfl)) (pa_cons (pe_ix (ix_tupK (K := K)) (pv 11) pe_int (fun _ _ => rfl)) pa_nil))) pa_nil)) (pv 3) (nomark _))))))))))))))))), ?_⟩
  try dsimp only [cxOf, Cx.nox, Cx.wish]
  refine wp_start (s2 := [some v0, none, none, none, none, none, none, none, none, none, none, none, none, none, none]) rfl ?_
  obtain ⟨a, ns, rfl, hS, q⟩ := h
  wtm_at "wp"
  refine ⟨a, ns, 0, 2, rfl, rfl, rfl, hS, by decide, fun name0 row0 t0 r0 H1 s1 ft0 fr0 et0 er0 g0 hl0 => ?_⟩
  wtm_at "wp"
  refine ⟨r0, name0, row0, rfl, rfl, At.sqL er0, by omega, fun b0 H2 s2 fb0 eb0 => ?_⟩
  have bl := bitsOf_len name0 row0
  wtm_at "wp"
  refine ⟨b0, bitsOf name0 row0, rfl, At.sqL eb0, bitsOf_bits _ _, by omega, fun w0 H3 s3 fw0 ew0 => ?_⟩
  have sl := stuff_len (bitsOf name0 row0)
  have sb := stuff_bits (bitsOf_bits name0 row0)
  have s13 : Same H H3 := (s1.trans s2).trans s3
  generalize stuff (bitsOf name0 row0) = W0 at *
  wtm_at "wp"
  -- bits of any kind
  refine wp_cut (fun σ H4 => ∃ bA bs, σ = [some (.ref a), some (.int name0), some (.ref r0), some (.ref bA), none, none, none, none, none, none, none, none, none, none, none] ∧ Same H H4 ∧ At H4 bA (.lst (bs.map V.int)) ∧ Bits bs ∧ bs.length ≤ 100) ?_ ?_
  · wtm_at "wp"
    refine ⟨a, ns, _, rfl, rfl, s13.seq hS, fun z z0 z1 => ?_⟩
    wtm_at "wp"
    refine wp_dec (fun c1 => ?_) (fun c1 => ?_)
    · wtm_at "wp"
      refine ⟨small (show 1 ≤ 1000 by decide), fun p hp => ?_⟩
      have s4 := s13.new (o := .lst [V.int 0]) hp
      have e4 : At (upd H3 p (.lst [V.int 0])) p (.lst [V.int 0]) := at_same
      generalize upd H3 p (.lst [V.int 0]) = H4 at *
      refine wp_compR ?_
      wtm_at "wp"
      refine ⟨a, ns, _, rfl, rfl, s4.seq hS, fun y y0 y1 => ?_⟩
      wtm_at "wp"
      refine wp_compRG (y % 80).toNat (fun D i ys H5 => Free H4 D ∧ Same H4 H5 ∧ At H5 D (.lst ys) ∧ ∃ bs, ys = bs.map V.int ∧ Bits bs ∧ bs.length = i) rfl (by omega) (small (by omega)) (fun D hD => ⟨hD, same_new hD _, at_same, [], rfl, Bits.nil, rfl⟩) (fun D i ys H5 _ ⟨_, _, e5, bs, eb, _, lb⟩ => ⟨e5, by rw [eb, List.length_map]; omega⟩) ?_ ?_
      · rintro D i ys H5 hi ⟨fD, s5, e5, bs, rfl, hbs, lbs⟩
        show tOp _ _ _ [some (.ref a), some (.int (i : Int))] _ _
        wtm_at "wp"
        refine ⟨a, ns, _, rfl, rfl, (s4.trans s5).seq hS, fun x x0 x1 => ?_⟩
        wtm_at "wp"
        refine cnext hi e5 ⟨fD, s5.upF fD, at_same, bs ++ [x / 8 % 2], by rw [List.map_append]; rfl, hbs.append (Bits.cons (bit_mod _) Bits.nil), by rw [List.length_append, List.length_singleton]; omega⟩
      · rintro D ys H5 ⟨fD, s5, e5, bs, rfl, hbs, lbs⟩
        refine wp_cat (s5.get e4) e5 (small (by rw [List.length_map]; simp; omega)) (fun p2 hp2 => ?_)
        wtm_at "wp"
        refine ⟨p2, 0 :: bs, rfl, (s4.trans s5).new hp2, at_same, Bits.cons (.inl rfl) hbs, by rw [List.length_cons]; omega⟩
    · wtm_at "wp"
      exact ⟨w0, W0, rfl, s13, ew0, sb, by omega⟩
  rintro σ H4 ⟨bA, bs, rfl, s4, eb, hb, hl⟩
  -- changed
  refine wp_cut (fun σ H5 => ∃ bA bs v4 v5 v6 v7 v8, σ = [some (.ref a), some (.int name0), some (.ref r0), some (.ref bA), v4, v5, v6, v7, v8, none, none, none, none, none, none] ∧ Same H H5 ∧ At H5 bA (.lst (bs.map V.int)) ∧ Bits bs ∧ bs.length ≤ 110) ?_ ?_
  · wtm_at "wp"
    refine wp_forR ?_
    wtm_at "wp"
    refine ⟨a, ns, _, rfl, rfl, s4.seq hS, fun z z0 z1 => ?_⟩
    wtm_at "wp"
    refine wp_forRA (z % 3).toNat (fun i σ H5 => ∃ bA bs v4 v5 v6 v7 v8, σ = [some (.ref a), some (.int name0), some (.ref r0), some (.ref bA), v4, v5, v6, v7, v8, none, none, none, none, none, none] ∧ Same H H5 ∧ At H5 bA (.lst (bs.map V.int)) ∧ Bits bs ∧ bs.length ≤ 100 + i) rfl (by omega) ⟨bA, bs, _, _, _, _, _, rfl, s4, eb, hb, hl⟩ ?_ ?_
    · clear eb hb hl s4
      rintro i σ H5 hi ⟨bA, bs, v4, v5, v6, v7, v8, rfl, s5, eb, hb, hl⟩
      have lb : (bs.map V.int).length = bs.length := List.length_map _
      wtm_at "wp"
      refine ⟨a, ns, _, rfl, rfl, s5.seq hS, fun n n0 n1 => ?_⟩
      wtm_at "wp"
      rw [lb]
      obtain ⟨k, hk, hkl⟩ : ∃ k : Nat, n % ((bs.length : Int) + 1) = (k : Int) ∧ k ≤ bs.length := by
        have h1 := Int.emod_nonneg n (show (bs.length : Int) + 1 ≠ 0 by omega)
        have h2 := Int.emod_lt_of_pos n (show 0 < (bs.length : Int) + 1 by omega)
        exact ⟨(n % ((bs.length : Int) + 1)).toNat, by omega, by omega⟩
      rw [hk]
      have cTo : cutV (bs.map V.int) none (some (k : Int)) = (bs.take k).map V.int := cutIto _ _
      have cFrom : cutV (bs.map V.int) (some (k : Int)) none = (bs.drop k).map V.int := cutIfrom _ _
      have cNext : cutV (bs.map V.int) (some ((k : Int) + 1)) none = (bs.drop (k + 1)).map V.int := by rw [show (k : Int) + 1 = ((k + 1 : Nat) : Int) by omega]; exact cutIfrom _ _
      have cOne : cutV (bs.map V.int) (some (k : Int)) (some ((k : Int) + 1)) = ((bs.drop k).take 1).map V.int := by
        rw [show (k : Int) + 1 = ((k + 1 : Nat) : Int) by omega, cutI]
        congr 2
        omega
      have lT : (bs.take k).length = k := by rw [List.length_take]; omega
      have lD : (bs.drop (k + 1)).length = bs.length - (k + 1) := List.length_drop
      have lF : (bs.drop k).length = bs.length - k := List.length_drop
      have bT := hb.take k
      have bD := hb.drop (k + 1)
      have bF := hb.drop k
      have bO : Bits (((bs.drop k).take 1).map fun b => 1 - b) := flip_bits (bF.take 1)
      have lO : (((bs.drop k).take 1).map fun b => 1 - b).length ≤ 1 := by rw [List.length_map, List.length_take]; omega
      wtm_at "wp"
      refine wp_compL ?_
      wtm_at "wp"
      refine wp_slL (At.sqL eb) cOne (fun p1 hp1 => ?_)
      have s6 := s5.new (o := .lst (((bs.drop k).take 1).map V.int)) hp1
      have eb6 : At (upd H5 p1 (.lst (((bs.drop k).take 1).map V.int))) bA (.lst (bs.map V.int)) := upd_new hp1 eb
      have e16 : At (upd H5 p1 (.lst (((bs.drop k).take 1).map V.int))) p1 (.lst (((bs.drop k).take 1).map V.int)) := at_same
      generalize upd H5 p1 (.lst (((bs.drop k).take 1).map V.int)) = H6 at *
      refine wp_compLA flipV (At.sqL e16) (by rw [List.length_map, List.length_take]; exact small (by omega)) (fun j x H' R hx s9 hR => ?_) (fun D H7 s7 fD eD => ?_)
      · obtain ⟨y, hy, rfl⟩ := get_int hx
        show tOp _ _ _ [some (.int y)] _ _
        wtm_at "wp"
        exact hR H' (Same.refl _)
      rw [flip_map] at eD
      have eD : At H7 D (.lst ((((bs.drop k).take 1).map fun b => 1 - b).map V.int)) := eD
      have eb7 := s7.get eb6
      have sA := s6.trans s7
      generalize (((bs.drop k).take 1).map fun b => 1 - b) = one at *
      clear e16 eb6 s6 s7 eb s5 cOne
      wtm_at "wp"
      -- the first: turned over
      refine sl_then eb7 cTo (fun p2 H8 s8 f2 e2 => ?_)
      wtm_at "wp"
      refine cat_then e2 (s8.get eD) (by omega) (fun p3 H9 s9 f3 e3 => ?_)
      wtm_at "wp"
      have eb9 := s9.get (s8.get eb7)
      refine sl_then eb9 cNext (fun p4 H10 s10 f4 e4 => ?_)
      refine cat_then (s10.get e3) e4 (by rw [List.length_append]; omega) (fun p5 H11 s11 f5 e5 => ?_)
      wtm_at "wp"
      have eb11 := s11.get (s10.get eb9)
      have sB := sA.trans (s8.trans (s9.trans (s10.trans s11)))
      clear e2 e3 e4 f2 f3 f4 f5 s8 s9 s10 s11 eb9 eb7 eD
      -- the second: taken out
      refine sl_then eb11 cTo (fun p6 H12 s12 f6 e6 => ?_)
      wtm_at "wp"
      refine sl_then (s12.get eb11) cNext (fun p7 H13 s13 f7 e7 => ?_)
      refine cat_then (s13.get e6) e7 (by omega) (fun p8 H14 s14 f8 e8 => ?_)
      wtm_at "wp"
      have e514 := s14.get (s13.get (s12.get e5))
      have eb14 := s14.get (s13.get (s12.get eb11))
      have sC := sB.trans (s12.trans (s13.trans s14))
      clear e6 e7 f6 f7 f8 s12 s13 s14 eb11 e5
      -- the third: cut off
      refine sl_then eb14 cTo (fun p9 H15 s15 f9 e9 => ?_)
      wtm_at "wp"
      refine ⟨small (show 3 ≤ 1000 by decide), fun L hL => ?_⟩
      have e515 := s15.get e514
      have e815 := s15.get e8
      have eb15 := s15.get eb14
      have n5 : p5 ≠ L := ne_of_none e515 hL
      have n8 : p8 ≠ L := ne_of_none e815 hL
      have n9 : p9 ≠ L := ne_of_none e9 hL
      have sD := (sC.trans s15).new (o := .lst [.ref p5, .ref p8, .ref p9]) hL
      have fL : Free H L := (sC.trans s15).fr hL
      have e516 : At (upd H15 L (.lst [.ref p5, .ref p8, .ref p9])) p5 _ := upd_new hL e515
      have e816 : At (upd H15 L (.lst [.ref p5, .ref p8, .ref p9])) p8 _ := upd_new hL e815
      have e916 : At (upd H15 L (.lst [.ref p5, .ref p8, .ref p9])) p9 _ := upd_new hL e9
      have eb16 : At (upd H15 L (.lst [.ref p5, .ref p8, .ref p9])) bA _ := upd_new hL eb15
      have eL16 : At (upd H15 L (.lst [.ref p5, .ref p8, .ref p9])) L (.lst [.ref p5, .ref p8, .ref p9]) := at_same
      generalize upd H15 L (.lst [.ref p5, .ref p8, .ref p9]) = H16 at *
      clear e515 e815 eb15 s15 sC e514 e8 eb14 e9 f9 hL sB sA
      wtm_at "wp"
      -- the fourth: put in
      refine sl_then eb16 cTo (fun p10 H17 s17 f10 e10 => ?_)
      wtm_at "wp"
      refine ⟨small (show 1 ≤ 1000 by decide), fun p11 hp11 => ?_⟩
      have e11 : At (upd H17 p11 (.lst [V.int (n / 128 % 2)])) p11 (.lst ([n / 128 % 2].map V.int)) := at_same
      have e10' : At (upd H17 p11 (.lst [V.int (n / 128 % 2)])) p10 _ := upd_new hp11 e10
      have s17' := s17.new (o := .lst [V.int (n / 128 % 2)]) hp11
      generalize upd H17 p11 (.lst [V.int (n / 128 % 2)]) = H18 at *
      refine cat_then e10' e11 (by rw [List.length_singleton]; omega) (fun p12 H19 s19 f12 e12 => ?_)
      wtm_at "wp"
      have eb19 := s19.get (s17'.get eb16)
      refine sl_then eb19 cFrom (fun p13 H20 s20 f13 e13 => ?_)
      refine cat_then (s20.get e12) e13 (by rw [List.length_append, List.length_singleton]; omega) (fun p14 H21 s21 f14 e14 => ?_)
      have sE := s17'.trans (s19.trans (s20.trans s21))
      have eL21 := sE.get eL16
      have n14 : p14 ≠ L := fun z => by
        subst z
        have z2 : H20 p14 = none := f14
        have z3 := (s17'.trans (s19.trans s20)).get eL16
        rw [show H20 p14 = some _ from z3] at z2
        cases z2
      wtm_at "wp"
      refine wp_append eL21 (small1000 (show 3 ≤ 1000 by decide)) ?_
      have e522 : At (upd H21 L (.lst ([.ref p5, .ref p8, .ref p9] ++ [.ref p14]))) p5 _ := upd_oth n5 (sE.get e516)
      have e822 : At (upd H21 L (.lst ([.ref p5, .ref p8, .ref p9] ++ [.ref p14]))) p8 _ := upd_oth n8 (sE.get e816)
      have e922 : At (upd H21 L (.lst ([.ref p5, .ref p8, .ref p9] ++ [.ref p14]))) p9 _ := upd_oth n9 (sE.get e916)
      have e1422 : At (upd H21 L (.lst ([.ref p5, .ref p8, .ref p9] ++ [.ref p14]))) p14 _ := upd_oth n14 e14
      have eL22 : At (upd H21 L (.lst ([.ref p5, .ref p8, .ref p9] ++ [.ref p14]))) L (.lst [.ref p5, .ref p8, .ref p9, .ref p14]) := at_same
      have sF := (sD.trans sE).upF (o := .lst ([.ref p5, .ref p8, .ref p9] ++ [.ref p14])) fL
      generalize upd H21 L (.lst ([.ref p5, .ref p8, .ref p9] ++ [.ref p14])) = H22 at *
      wtm_at "wp"
      obtain ⟨v, hv, hcase⟩ := pickV (x0 := V.ref p5) (x1 := .ref p8) (x2 := .ref p9) (x3 := .ref p14) (n / 256)
      refine wp_ixL (At.sqL eL22) hv ?_
      wtm_at "wp"
      rcases hcase with rfl | rfl | rfl | rfl
      · exact ⟨p5, _, _, _, _, _, _, rfl, sF, e522, (bT.append bO).append bD, by simp only [List.length_append]; omega⟩
      · exact ⟨p8, _, _, _, _, _, _, rfl, sF, e822, bT.append bD, by simp only [List.length_append]; omega⟩
      · exact ⟨p9, _, _, _, _, _, _, rfl, sF, e922, bT, by omega⟩
      · exact ⟨p14, _, _, _, _, _, _, rfl, sF, e1422, (bT.append (Bits.cons (bit_mod _) Bits.nil)).append bF, by simp only [List.length_append, List.length_singleton]; omega⟩
    · rintro σ H5 ⟨bA, bs, v4, v5, v6, v7, v8, rfl, s5, eb, hb, hl⟩
      exact ⟨bA, bs, v4, v5, v6, v7, v8, rfl, s5, eb, hb, by omega⟩
  rintro σ H5 ⟨bA, bs, v4, v5, v6, v7, v8, rfl, s5, eb, hb, hl⟩
  clear eb0 ew0 s13
  have lb : (bs.map V.int).length = bs.length := List.length_map _
  wtm_at "wp"
  intro hd fhd
  wtm_at "wp"
  have s6 : Same H (upd H5 hd (.lst (bs.map V.int))) := s5.new fhd
  have eb6 : At (upd H5 hd (.lst (bs.map V.int))) bA (.lst (bs.map V.int)) := upd_new fhd eb
  have eh6 : At (upd H5 hd (.lst (bs.map V.int))) hd (.lst (bs.map V.int)) := at_same
  generalize upd H5 hd (.lst (bs.map V.int)) = H6 at *
  -- try
  refine wp_cut (fun σ H7 => ∃ kept fnd, σ = [some (.ref a), some (.int name0), some (.ref r0), some (.ref bA), v4, v5, v6, v7, v8, some (.ref hd), some kept, some fnd, none, none, none] ∧ Same H6 H7 ∧
    ((Placed bs (-1) ∧ ∃ p t r o, fnd = .ref t ∧ Rd bs p ∧ choices bs p = [] ∧ At H7 t (.tup [.int (nameOf p), .ref r]) ∧ At H7 r (.frz o (.lst ((rowOf p).map V.int)))) ∨
     (∃ (n : Nat) (ea d : Addr), Placed bs n ∧ kept = .ref ea ∧ At H7 ea (excO ea c.B (some d)) ∧ At H7 d (.xd [("place", .int n)])))) ?_ ?_
  · wtm_at "wp"
    refine ⟨hd, bs, rfl, At.sqL eh6, hb, by omega, fun p t r o H7 hp rd he s7 ft fr et er => ?_, fun n d H7 hp s7 ed => ?_⟩
    · exact ⟨.non, .ref t, rfl, s7, .inl ⟨hp, p, t, r, o, rfl, rd, he, et, er⟩⟩
    · refine ⟨c.B, rfl, T.r_BadBits, fun ea fea => ?_⟩
      exact ⟨.ref ea, .non, rfl, s7.new fea, .inr ⟨n, ea, d, hp, rfl, at_same, upd_new fea ed⟩⟩
  rintro σ H7 ⟨kept, fnd, rfl, s7, hcase⟩
  have eb7 := s7.get eb6
  have eh7 := s7.get eh6
  wtm_at "wp"
  refine wp_neLs (xs := bs) (ys := bs) (At.sqL eh7) (At.sqL eb7) ?_
  rw [decide_eq_true rfl]
  wtm_at "wp"
  refine ⟨bA, bs, rfl, At.sqL eb7, hb, by omega, fun r H8 s8 hp => ?_⟩
  wtm_at "wp"
  refine wp_dec (fun c1 => ?_) (fun c1 => ?_)
  · rcases hcase with ⟨hp', _⟩ | ⟨n, ea, d, hp', rfl, ee, ed⟩
    · have := hp.one hp'
      omega
    have hr := hp.one hp'
    subst hr
    have ee8 := s8.get ee
    have ed8 := s8.get ed
    wtm_at "wp"
    refine ⟨ea, c.B, _, _, _, rfl, ⟨_, ee8⟩, T.e_BadBits, rfl, T.i_BadBits_BadBits, ?_⟩
    wtm_at "wp"
    refine ⟨ea, c.B, _, _, _, rfl, ⟨_, ee8⟩, T.e_BadBits, rfl, T.i_BadBits_V, ?_⟩
    wtm_at "wp"
    refine ⟨small (show 2 ≤ 1000 by decide), fun tp htp => ?_⟩
    wtm_at "wp"
    have ee9 : At (upd H8 tp (.tup [.ref c.F, .ref c.N])) ea _ := upd_new htp ee8
    have ed9 : At (upd H8 tp (.tup [.ref c.F, .ref c.N])) d _ := upd_new htp ed8
    refine ⟨ea, c.B, tp, [.ref c.F, .ref c.N], [.ref c.F, .ref c.N], _, rfl, ⟨_, ee9⟩, T.e_BadBits, upd_same, rfl, T.i_B_FN, ?_⟩
    generalize upd H8 tp (.tup [.ref c.F, .ref c.N]) = H9 at *
    wtm_at "wp"
    refine wp_attrX ?_
    wtm_at "wp"
    refine wp_attrXA ee9 ed9 T.e_BadBits T.s_BadBits.hd T.a_BadBits_place rfl ?_
    wtm_at "wp"
    refine ⟨_, rfl, ?_⟩
    wtm_at "wp"
    refine ⟨ea, c.B, d, _, _, rfl, ee9, ed9, T.e_BadBits, T.s_BadBits.hd, T.a_BadBits_place, rfl, ?_⟩
    wtm_at "wp"
    rw [decide_eq_true rfl]
    exact q _
  · rcases hcase with ⟨hp', p, t, rr, o, rfl, rd, he, et, er⟩ | ⟨n, ea, d, hp', rfl, ee, ed⟩
    rotate_left
    · have := hp.one hp'
      omega
    have et8 := s8.get et
    have er8 := s8.get er
    have eb8 := s8.get eb7
    obtain ⟨hst, g⟩ := rd.done he
    have bl2 := bitsOf_len (nameOf p) (rowOf p)
    have g8 := g.2.1
    wtm_at "wp"
    refine ⟨_, _, _, _, _, rfl, .tup et8, rfl, kit_same _ _, ?_⟩
    wtm_at "wp"
    refine ⟨rr, nameOf p, rowOf p, rfl, rfl, At.sqF er8, by omega, fun b2 H9 s9 fb2 eb2 => ?_⟩
    wtm_at "wp"
    refine ⟨b2, bitsOf (nameOf p) (rowOf p), rfl, At.sqL eb2, bitsOf_bits _ _, by omega, fun w2 Ha sa fw2 ew2 => ?_⟩
    wtm_at "wp"
    refine wp_eqLs (xs := stuff (bitsOf (nameOf p) (rowOf p))) (ys := bs) (At.sqL ew2) (At.sqL (sa.get (s9.get eb8))) ?_
    rw [hst, decide_eq_true rfl]
    exact q _
end

end BB
set_option maxHeartbeats 4000000
set_option maxRecDepth 100000
set_option linter.unusedVariables false
namespace BB
open PySem L2
theorem cls_of_mro {K : PySem.W.Frag} {C : Addr} {b : Value} {r : Bool} (h : PySem.W.mroIn K C b = some r) : (PySem.W.clsIn K C).isSome = true := by
  obtain ⟨cd, a, _⟩ := Option.bind_eq_some_iff.mp h
  rw [a]
  rfl
theorem txt_mk {K : PySem.W.Frag} {h : Heap} {mg : Str → Option Value} {cE cF cN cB cR : Addr} (X : K.In h) (G : h.Ns mainGlobals mg)
    {t10 : Tok}
    {t11 : Tok}
    {t12 : Tok}
    {t13 : Tok}
    {t14 : Tok}
    {t15 : Tok}
    {t16 : Tok}
    {t17 : Tok}
    {f23 : Addr} {od23 an23 : Option Addr} {sl23 : Array (Option Value)} {oc23 kV23 dc23 pm23 cd23 ct23 : Value}
    {f24 : Addr} {od24 an24 : Option Addr} {sl24 : Array (Option Value)} {oc24 kV24 dc24 pm24 cd24 ct24 : Value}
    {f25 : Addr} {od25 an25 : Option Addr} {sl25 : Array (Option Value)} {oc25 kV25 dc25 pm25 cd25 ct25 : Value}
    {f26 : Addr} {od26 an26 : Option Addr} {sl26 : Array (Option Value)} {oc26 kV26 dc26 pm26 cd26 ct26 : Value}
    {f27 : Addr} {od27 an27 : Option Addr} {sl27 : Array (Option Value)} {oc27 kV27 dc27 pm27 cd27 ct27 : Value}
    {f28 : Addr} {od28 an28 : Option Addr} {sl28 : Array (Option Value)} {oc28 kV28 dc28 pm28 cd28 ct28 : Value}
    {f29 : Addr} {od29 an29 : Option Addr} {sl29 : Array (Option Value)} {oc29 kV29 dc29 pm29 cd29 ct29 : Value}
    {f30 : Addr} {od30 an30 : Option Addr} {sl30 : Array (Option Value)} {oc30 kV30 dc30 pm30 cd30 ct30 : Value}
    {f31 : Addr} {od31 an31 : Option Addr} {sl31 : Array (Option Value)} {oc31 kV31 dc31 pm31 cd31 ct31 : Value}
    {f32 : Addr} {od32 an32 : Option Addr} {sl32 : Array (Option Value)} {oc32 kV32 dc32 pm32 cd32 ct32 : Value}
    {f33 : Addr} {od33 an33 : Option Addr} {sl33 : Array (Option Value)} {oc33 kV33 dc33 pm33 cd33 ct33 : Value}
    {f34 : Addr} {od34 an34 : Option Addr} {sl34 : Array (Option Value)} {oc34 kV34 dc34 pm34 cd34 ct34 : Value}
    {f35 : Addr} {od35 an35 : Option Addr} {sl35 : Array (Option Value)} {oc35 kV35 dc35 pm35 cd35 ct35 : Value}
    {f36 : Addr} {od36 an36 : Option Addr} {sl36 : Array (Option Value)} {oc36 kV36 dc36 pm36 cd36 ct36 : Value}
    {f37 : Addr} {od37 an37 : Option Addr} {sl37 : Array (Option Value)} {oc37 kV37 dc37 pm37 cd37 ct37 : Value}
    {f38 : Addr} {od38 an38 : Option Addr} {sl38 : Array (Option Value)} {oc38 kV38 dc38 pm38 cd38 ct38 : Value}
    {f39 : Addr} {od39 an39 : Option Addr} {sl39 : Array (Option Value)} {oc39 kV39 dc39 pm39 cd39 ct39 : Value}
    {f40 : Addr} {od40 an40 : Option Addr} {sl40 : Array (Option Value)} {oc40 kV40 dc40 pm40 cd40 ct40 : Value}
    {f41 : Addr} {od41 an41 : Option Addr} {sl41 : Array (Option Value)} {oc41 kV41 dc41 pm41 cd41 ct41 : Value}
    {f42 : Addr} {od42 an42 : Option Addr} {sl42 : Array (Option Value)} {oc42 kV42 dc42 pm42 cd42 ct42 : Value}
    {f43 : Addr} {od43 an43 : Option Addr} {sl43 : Array (Option Value)} {oc43 kV43 dc43 pm43 cd43 ct43 : Value}
    {f44 : Addr} {od44 an44 : Option Addr} {sl44 : Array (Option Value)} {oc44 kV44 dc44 pm44 cd44 ct44 : Value}
    {f45 : Addr} {od45 an45 : Option Addr} {sl45 : Array (Option Value)} {oc45 kV45 dc45 pm45 cd45 ct45 : Value}
    {f46 : Addr} {od46 an46 : Option Addr} {sl46 : Array (Option Value)} {oc46 kV46 dc46 pm46 cd46 ct46 : Value}
    {f47 : Addr} {od47 an47 : Option Addr} {sl47 : Array (Option Value)} {oc47 kV47 dc47 pm47 cd47 ct47 : Value}
    {f48 : Addr} {od48 an48 : Option Addr} {sl48 : Array (Option Value)} {oc48 kV48 dc48 pm48 cd48 ct48 : Value}
    {f49 : Addr} {od49 an49 : Option Addr} {sl49 : Array (Option Value)} {oc49 kV49 dc49 pm49 cd49 ct49 : Value}
    {f50 : Addr} {od50 an50 : Option Addr} {sl50 : Array (Option Value)} {oc50 kV50 dc50 pm50 cd50 ct50 : Value}
    {f51 : Addr} {od51 an51 : Option Addr} {sl51 : Array (Option Value)} {oc51 kV51 dc51 pm51 cd51 ct51 : Value}
    (z1 : PySem.W.nsIn K mainGlobals "range" = some none)
    (z2 : PySem.W.nsIn K mainGlobals "len" = some none)
    (z3 : PySem.W.nsIn K mainGlobals "isinstance" = some none)
    (z4 : PySem.W.nsIn K mainGlobals "int" = some none)
    (z5 : PySem.W.nsIn K mainGlobals "bool" = some none)
    (z6 : PySem.W.nsIn K mainGlobals "list" = some none)
    (z7 : PySem.W.nsIn K mainGlobals "tuple" = some none)
    (z8 : PySem.W.nsIn K mainGlobals "set" = some none)
    (z9 : PySem.W.nsIn K mainGlobals "ValueError" = some none)
    (g10 : PySem.W.nsIn K mainGlobals "BYTE_BITS" = some (some (.int 8 t10)))
    (g11 : PySem.W.nsIn K mainGlobals "CHECK_BITS" = some (some (.int 15 t11)))
    (g12 : PySem.W.nsIn K mainGlobals "CHECK_TURNS" = some (some (.int 17817 t12)))
    (g13 : PySem.W.nsIn K mainGlobals "CHECK_HIGHEST" = some (some (.int 32767 t13)))
    (g14 : PySem.W.nsIn K mainGlobals "MOST_LIKE_BITS" = some (some (.int 5 t14)))
    (g15 : PySem.W.nsIn K mainGlobals "NAME_AT" = some (some (.int 1 t15)))
    (g16 : PySem.W.nsIn K mainGlobals "COUNT_AT" = some (some (.int 12 t16)))
    (g17 : PySem.W.nsIn K mainGlobals "ROW_AT" = some (some (.int 16 t17)))
    (m18 : PySem.W.nsIn K mainGlobals "BusError" = some (some (.ref cE)))
    (m19 : PySem.W.nsIn K mainGlobals "BadFrame" = some (some (.ref cF)))
    (m20 : PySem.W.nsIn K mainGlobals "NoNode" = some (some (.ref cN)))
    (m21 : PySem.W.nsIn K mainGlobals "BadBits" = some (some (.ref cB)))
    (m22 : PySem.W.nsIn K mainGlobals "Reading" = some (some (.ref cR)))
    (a23 : PySem.W.findIn K (.ref cB) "__init__" = some (some (.ref f23)))
    (b23 : PySem.W.isFn K (.ref f23) = true)
    (q23 : excInI K cB bmVE "ValueError.__new__" f23 = true)
    (p23 : PySem.W.keepIn K (.ref cB) = true)
    (l23 : K.lookup f23 = some ⟨oc23, od23, .func (PySem.W.fnOf "__init__" "BadBits.__init__" (defArgs (inClass (top 5) 0)) (defBody (inClass (top 5) 0)) (defScope (inClass (top 5) 0)) .none kV23 dc23 pm23 an23 cd23 ct23), sl23⟩)
    (c23 : PySem.W.codeIn K cd23 "BadBits.__init__" = true)
    (k23 : PySem.W.keepIn K (.ref f23) = true)
    (a24 : PySem.W.nsIn K mainGlobals "in_bits" = some (some (.ref f24)))
    (l24 : K.lookup f24 = some ⟨oc24, od24, .func (PySem.W.fnOf "in_bits" "in_bits" (defArgs (top 15)) (defBody (top 15)) (defScope (top 15)) .none kV24 dc24 pm24 an24 cd24 ct24), sl24⟩)
    (c24 : PySem.W.codeIn K cd24 "in_bits" = true)
    (k24 : PySem.W.keepIn K (.ref f24) = true)
    (a25 : PySem.W.nsIn K mainGlobals "number_of" = some (some (.ref f25)))
    (l25 : K.lookup f25 = some ⟨oc25, od25, .func (PySem.W.fnOf "number_of" "number_of" (defArgs (top 16)) (defBody (top 16)) (defScope (top 16)) .none kV25 dc25 pm25 an25 cd25 ct25), sl25⟩)
    (c25 : PySem.W.codeIn K cd25 "number_of" = true)
    (k25 : PySem.W.keepIn K (.ref f25) = true)
    (a26 : PySem.W.nsIn K mainGlobals "check_of" = some (some (.ref f26)))
    (l26 : K.lookup f26 = some ⟨oc26, od26, .func (PySem.W.fnOf "check_of" "check_of" (defArgs (top 17)) (defBody (top 17)) (defScope (top 17)) .none kV26 dc26 pm26 an26 cd26 ct26), sl26⟩)
    (c26 : PySem.W.codeIn K cd26 "check_of" = true)
    (k26 : PySem.W.keepIn K (.ref f26) = true)
    (a27 : PySem.W.nsIn K mainGlobals "is_one_due" = some (some (.ref f27)))
    (l27 : K.lookup f27 = some ⟨oc27, od27, .func (PySem.W.fnOf "is_one_due" "is_one_due" (defArgs (top 18)) (defBody (top 18)) (defScope (top 18)) .none kV27 dc27 pm27 an27 cd27 ct27), sl27⟩)
    (c27 : PySem.W.codeIn K cd27 "is_one_due" = true)
    (k27 : PySem.W.keepIn K (.ref f27) = true)
    (a28 : PySem.W.nsIn K mainGlobals "head_choices" = some (some (.ref f28)))
    (l28 : K.lookup f28 = some ⟨oc28, od28, .func (PySem.W.fnOf "head_choices" "head_choices" (defArgs (top 19)) (defBody (top 19)) (defScope (top 19)) .none kV28 dc28 pm28 an28 cd28 ct28), sl28⟩)
    (c28 : PySem.W.codeIn K cd28 "head_choices" = true)
    (k28 : PySem.W.keepIn K (.ref f28) = true)
    (a29 : PySem.W.nsIn K mainGlobals "check_place" = some (some (.ref f29)))
    (l29 : K.lookup f29 = some ⟨oc29, od29, .func (PySem.W.fnOf "check_place" "check_place" (defArgs (top 20)) (defBody (top 20)) (defScope (top 20)) .none kV29 dc29 pm29 an29 cd29 ct29), sl29⟩)
    (c29 : PySem.W.codeIn K cd29 "check_place" = true)
    (k29 : PySem.W.keepIn K (.ref f29) = true)
    (a30 : PySem.W.nsIn K mainGlobals "plain_choices" = some (some (.ref f30)))
    (l30 : K.lookup f30 = some ⟨oc30, od30, .func (PySem.W.fnOf "plain_choices" "plain_choices" (defArgs (top 21)) (defBody (top 21)) (defScope (top 21)) .none kV30 dc30 pm30 an30 cd30 ct30), sl30⟩)
    (c30 : PySem.W.codeIn K cd30 "plain_choices" = true)
    (k30 : PySem.W.keepIn K (.ref f30) = true)
    (a31 : PySem.W.nsIn K mainGlobals "choices_behind" = some (some (.ref f31)))
    (l31 : K.lookup f31 = some ⟨oc31, od31, .func (PySem.W.fnOf "choices_behind" "choices_behind" (defArgs (top 22)) (defBody (top 22)) (defScope (top 22)) .none kV31 dc31 pm31 an31 cd31 ct31), sl31⟩)
    (c31 : PySem.W.codeIn K cd31 "choices_behind" = true)
    (k31 : PySem.W.keepIn K (.ref f31) = true)
    (a32 : PySem.W.nsIn K mainGlobals "parts_of" = some (some (.ref f32)))
    (l32 : K.lookup f32 = some ⟨oc32, od32, .func (PySem.W.fnOf "parts_of" "parts_of" (defArgs (top 23)) (defBody (top 23)) (defScope (top 23)) .none kV32 dc32 pm32 an32 cd32 ct32), sl32⟩)
    (c32 : PySem.W.codeIn K cd32 "parts_of" = true)
    (k32 : PySem.W.keepIn K (.ref f32) = true)
    (a33 : PySem.W.findIn K (.ref cR) "__init__" = some (some (.ref f33)))
    (b33 : PySem.W.isFn K (.ref f33) = true)
    (q33 : PySem.W.makesIn K cR = true)
    (p33 : PySem.W.keepIn K (.ref cR) = true)
    (l33 : K.lookup f33 = some ⟨oc33, od33, .func (PySem.W.fnOf "__init__" "Reading.__init__" (defArgs (inClass (top 24) 0)) (defBody (inClass (top 24) 0)) (defScope (inClass (top 24) 0)) .none kV33 dc33 pm33 an33 cd33 ct33), sl33⟩)
    (c33 : PySem.W.codeIn K cd33 "Reading.__init__" = true)
    (k33 : PySem.W.keepIn K (.ref f33) = true)
    (a34 : PySem.W.findIn K (.ref cR) "take" = some (some (.ref f34)))
    (b34 : PySem.W.isFn K (.ref f34) = true)
    (l34 : K.lookup f34 = some ⟨oc34, od34, .func (PySem.W.fnOf "take" "Reading.take" (defArgs (inClass (top 24) 1)) (defBody (inClass (top 24) 1)) (defScope (inClass (top 24) 1)) .none kV34 dc34 pm34 an34 cd34 ct34), sl34⟩)
    (c34 : PySem.W.codeIn K cd34 "Reading.take" = true)
    (k34 : PySem.W.keepIn K (.ref f34) = true)
    (a35 : PySem.W.findIn K (.ref cR) "is_over" = some (some (.ref f35)))
    (b35 : PySem.W.isFn K (.ref f35) = true)
    (l35 : K.lookup f35 = some ⟨oc35, od35, .func (PySem.W.fnOf "is_over" "Reading.is_over" (defArgs (inClass (top 24) 2)) (defBody (inClass (top 24) 2)) (defScope (inClass (top 24) 2)) .none kV35 dc35 pm35 an35 cd35 ct35), sl35⟩)
    (c35 : PySem.W.codeIn K cd35 "Reading.is_over" = true)
    (k35 : PySem.W.keepIn K (.ref f35) = true)
    (a36 : PySem.W.nsIn K mainGlobals "frame_of" = some (some (.ref f36)))
    (l36 : K.lookup f36 = some ⟨oc36, od36, .func (PySem.W.fnOf "frame_of" "frame_of" (defArgs (top 25)) (defBody (top 25)) (defScope (top 25)) .none kV36 dc36 pm36 an36 cd36 ct36), sl36⟩)
    (c36 : PySem.W.codeIn K cd36 "frame_of" = true)
    (k36 : PySem.W.keepIn K (.ref f36) = true)
    (a37 : PySem.W.nsIn K mainGlobals "_law_cell" = some (some (.ref f37)))
    (l37 : K.lookup f37 = some ⟨oc37, od37, .func (PySem.W.fnOf "_law_cell" "_law_cell" (defArgs (top 27)) (defBody (top 27)) (defScope (top 27)) .none kV37 dc37 pm37 an37 cd37 ct37), sl37⟩)
    (c37 : PySem.W.codeIn K cd37 "_law_cell" = true)
    (k37 : PySem.W.keepIn K (.ref f37) = true)
    (a38 : PySem.W.nsIn K mainGlobals "_law_mix" = some (some (.ref f38)))
    (l38 : K.lookup f38 = some ⟨oc38, od38, .func (PySem.W.fnOf "_law_mix" "_law_mix" (defArgs (top 28)) (defBody (top 28)) (defScope (top 28)) .none kV38 dc38 pm38 an38 cd38 ct38), sl38⟩)
    (c38 : PySem.W.codeIn K cd38 "_law_mix" = true)
    (k38 : PySem.W.keepIn K (.ref f38) = true)
    (a39 : PySem.W.nsIn K mainGlobals "_law_whole" = some (some (.ref f39)))
    (l39 : K.lookup f39 = some ⟨oc39, od39, .func (PySem.W.fnOf "_law_whole" "_law_whole" (defArgs (top 29)) (defBody (top 29)) (defScope (top 29)) .none kV39 dc39 pm39 an39 cd39 ct39), sl39⟩)
    (c39 : PySem.W.codeIn K cd39 "_law_whole" = true)
    (k39 : PySem.W.keepIn K (.ref f39) = true)
    (a40 : PySem.W.nsIn K mainGlobals "_law_digits" = some (some (.ref f40)))
    (l40 : K.lookup f40 = some ⟨oc40, od40, .func (PySem.W.fnOf "_law_digits" "_law_digits" (defArgs (top 30)) (defBody (top 30)) (defScope (top 30)) .none kV40 dc40 pm40 an40 cd40 ct40), sl40⟩)
    (c40 : PySem.W.codeIn K cd40 "_law_digits" = true)
    (k40 : PySem.W.keepIn K (.ref f40) = true)
    (a41 : PySem.W.nsIn K mainGlobals "_law_check" = some (some (.ref f41)))
    (l41 : K.lookup f41 = some ⟨oc41, od41, .func (PySem.W.fnOf "_law_check" "_law_check" (defArgs (top 31)) (defBody (top 31)) (defScope (top 31)) .none kV41 dc41 pm41 an41 cd41 ct41), sl41⟩)
    (c41 : PySem.W.codeIn K cd41 "_law_check" = true)
    (k41 : PySem.W.keepIn K (.ref f41) = true)
    (a42 : PySem.W.nsIn K mainGlobals "_law_bits" = some (some (.ref f42)))
    (l42 : K.lookup f42 = some ⟨oc42, od42, .func (PySem.W.fnOf "_law_bits" "_law_bits" (defArgs (top 32)) (defBody (top 32)) (defScope (top 32)) .none kV42 dc42 pm42 an42 cd42 ct42), sl42⟩)
    (c42 : PySem.W.codeIn K cd42 "_law_bits" = true)
    (k42 : PySem.W.keepIn K (.ref f42) = true)
    (a43 : PySem.W.nsIn K mainGlobals "_law_stuffed" = some (some (.ref f43)))
    (l43 : K.lookup f43 = some ⟨oc43, od43, .func (PySem.W.fnOf "_law_stuffed" "_law_stuffed" (defArgs (top 33)) (defBody (top 33)) (defScope (top 33)) .none kV43 dc43 pm43 an43 cd43 ct43), sl43⟩)
    (c43 : PySem.W.codeIn K cd43 "_law_stuffed" = true)
    (k43 : PySem.W.keepIn K (.ref f43) = true)
    (a44 : PySem.W.nsIn K mainGlobals "_law_run" = some (some (.ref f44)))
    (l44 : K.lookup f44 = some ⟨oc44, od44, .func (PySem.W.fnOf "_law_run" "_law_run" (defArgs (top 34)) (defBody (top 34)) (defScope (top 34)) .none kV44 dc44 pm44 an44 cd44 ct44), sl44⟩)
    (c44 : PySem.W.codeIn K cd44 "_law_run" = true)
    (k44 : PySem.W.keepIn K (.ref f44) = true)
    (a45 : PySem.W.nsIn K mainGlobals "_law_frame" = some (some (.ref f45)))
    (l45 : K.lookup f45 = some ⟨oc45, od45, .func (PySem.W.fnOf "_law_frame" "_law_frame" (defArgs (top 35)) (defBody (top 35)) (defScope (top 35)) .none kV45 dc45 pm45 an45 cd45 ct45), sl45⟩)
    (c45 : PySem.W.codeIn K cd45 "_law_frame" = true)
    (k45 : PySem.W.keepIn K (.ref f45) = true)
    (a46 : PySem.W.nsIn K mainGlobals "_law_plain" = some (some (.ref f46)))
    (l46 : K.lookup f46 = some ⟨oc46, od46, .func (PySem.W.fnOf "_law_plain" "_law_plain" (defArgs (top 36)) (defBody (top 36)) (defScope (top 36)) .none kV46 dc46 pm46 an46 cd46 ct46), sl46⟩)
    (c46 : PySem.W.codeIn K cd46 "_law_plain" = true)
    (k46 : PySem.W.keepIn K (.ref f46) = true)
    (a47 : PySem.W.nsIn K mainGlobals "_law_fits" = some (some (.ref f47)))
    (l47 : K.lookup f47 = some ⟨oc47, od47, .func (PySem.W.fnOf "_law_fits" "_law_fits" (defArgs (top 37)) (defBody (top 37)) (defScope (top 37)) .none kV47 dc47 pm47 an47 cd47 ct47), sl47⟩)
    (c47 : PySem.W.codeIn K cd47 "_law_fits" = true)
    (k47 : PySem.W.keepIn K (.ref f47) = true)
    (a48 : PySem.W.nsIn K mainGlobals "_law_ends" = some (some (.ref f48)))
    (l48 : K.lookup f48 = some ⟨oc48, od48, .func (PySem.W.fnOf "_law_ends" "_law_ends" (defArgs (top 38)) (defBody (top 38)) (defScope (top 38)) .none kV48 dc48 pm48 an48 cd48 ct48), sl48⟩)
    (c48 : PySem.W.codeIn K cd48 "_law_ends" = true)
    (k48 : PySem.W.keepIn K (.ref f48) = true)
    (a49 : PySem.W.nsIn K mainGlobals "_law_goes_on" = some (some (.ref f49)))
    (l49 : K.lookup f49 = some ⟨oc49, od49, .func (PySem.W.fnOf "_law_goes_on" "_law_goes_on" (defArgs (top 39)) (defBody (top 39)) (defScope (top 39)) .none kV49 dc49 pm49 an49 cd49 ct49), sl49⟩)
    (c49 : PySem.W.codeIn K cd49 "_law_goes_on" = true)
    (k49 : PySem.W.keepIn K (.ref f49) = true)
    (a50 : PySem.W.nsIn K mainGlobals "_law_place" = some (some (.ref f50)))
    (l50 : K.lookup f50 = some ⟨oc50, od50, .func (PySem.W.fnOf "_law_place" "_law_place" (defArgs (top 40)) (defBody (top 40)) (defScope (top 40)) .none kV50 dc50 pm50 an50 cd50 ct50), sl50⟩)
    (c50 : PySem.W.codeIn K cd50 "_law_place" = true)
    (k50 : PySem.W.keepIn K (.ref f50) = true)
    (a51 : PySem.W.nsIn K mainGlobals "law" = some (some (.ref f51)))
    (l51 : K.lookup f51 = some ⟨oc51, od51, .func (PySem.W.fnOf "law" "law" (defArgs (top 41)) (defBody (top 41)) (defScope (top 41)) .none kV51 dc51 pm51 an51 cd51 ct51), sl51⟩)
    (c51 : PySem.W.codeIn K cd51 "law" = true)
    (k51 : PySem.W.keepIn K (.ref f51) = true)
    (w52a : PySem.W.plainGet K cR Str.empty = true)
    (w52b : PySem.W.hasDictIn K cR = true)
    (w52c : PySem.W.plainOver K cR = true)
    (w52d : PySem.W.findIn K (.ref cR) "__setattr__" = some (some (.builtin "object.__setattr__")))
    (n53 : PySem.W.findIn K (.ref cR) "wire" = some none)
    (n54 : PySem.W.findIn K (.ref cR) "plain" = some none)
    (n55 : PySem.W.findIn K (.ref cR) "choices" = some none)
    (y56 : PySem.W.kitOne K (.type "int") (.type "bool") = some false)
    (eb57a : PySem.W.readsIn K cE (.type "type") = true)
    (eb57b : PySem.W.specialIn K (.ref cE) "__getattribute__" = some (some (.builtin "type.__getattribute__")))
    (eb57c : PySem.W.findCls K (.ref cE) (.type "type") "__init__" = some (.val (.builtin "ValueError.__init__")))
    (es58a : PySem.W.findIn K (.ref cB) "__setattr__" = some (some (.builtin "object.__setattr__")))
    (es58b : PySem.W.hasDictIn K cB = true)
    (es58c : (PySem.W.clsIn K cB).any (fun c => errMro c.mro) = true)
    (n59 : PySem.W.findIn K (.ref cB) "place" = some none)
    (u60 : PySem.W.mroIn K cB (.ref cE) = some true)
    (e61_0 : PySem.W.findIn K (.ref cB) "__getattribute__" = some (some (.builtin "BaseException.__getattribute__")))
    (e61_1 : PySem.W.findIn K (.ref cB) "__getattr__" = some none)
    (e61_2 : PySem.W.findIn K (.ref cB) "__class__" = some (some (.builtin "object.__class__")))
    (e61_3 : PySem.W.specialIn K (.builtin "object.__class__") "__get__" = some (some (.builtin "getset_descriptor.__get__")))
    (e61_4 : PySem.W.takesIn K (.builtin "object.__class__") = some true)
    (e61_5 : PySem.W.mroIn K cB (.type "object") = some true)
    (e61_6 : PySem.W.mroIn K cB (.type "BaseException") = some true)
    (y62 : PySem.W.kitOne K (.ref cB) (.ref cB) = some true)
    (y63 : PySem.W.kitOne K (.ref cB) (.type "ValueError") = some true)
    (y64 : PySem.W.kitAny K (.ref cB) [.ref cF, .ref cN] = some false)
    (u65 : PySem.W.typeIn K (.ref cE) = some (.type "type"))
    (u66 : PySem.W.mroIn K cE (.type "object") = some true)
    (u67 : PySem.W.mroIn K cE (.type "BaseException") = some true)
    : ∃ (c : Cs) (f : Addr) (fd : FuncData), Txt K mg c ∧ Fun K "law" "law" (top 41) f fd ∧ mg "law" = some (.ref f) ∧ (∀ (s : Shared) (v : Value), BindsTo s fd ⟨[v], []⟩ [("_law_script", v)]) := by
  have T : Txt K mg ⟨cE, cF, cN, cB, cR, 0, 0⟩ := by
    constructor
    · exact PySem.W.mg_none_of X G z1
    · exact PySem.W.mg_none_of X G z2
    · exact PySem.W.mg_none_of X G z3
    · exact PySem.W.mg_none_of X G z4
    · exact PySem.W.mg_none_of X G z5
    · exact PySem.W.mg_none_of X G z6
    · exact PySem.W.mg_none_of X G z7
    · exact PySem.W.mg_none_of X G z8
    · exact PySem.W.mg_none_of X G z9
    · exact ⟨_, PySem.W.mg_of X G g10⟩
    · exact ⟨_, PySem.W.mg_of X G g11⟩
    · exact ⟨_, PySem.W.mg_of X G g12⟩
    · exact ⟨_, PySem.W.mg_of X G g13⟩
    · exact ⟨_, PySem.W.mg_of X G g14⟩
    · exact ⟨_, PySem.W.mg_of X G g15⟩
    · exact ⟨_, PySem.W.mg_of X G g16⟩
    · exact ⟨_, PySem.W.mg_of X G g17⟩
    · exact PySem.W.mg_of X G m18
    · exact PySem.W.mg_of X G m19
    · exact PySem.W.mg_of X G m20
    · exact PySem.W.mg_of X G m21
    · exact PySem.W.mg_of X G m22
    · exact ⟨_, _, fun_mk (st := (inClass (top 5) 0)) l23 c23 k23, ⟨q23, b23, p23⟩⟩
    · exact ⟨_, _, fun_mk (st := (top 15)) l24 c24 k24, PySem.W.mg_of X G a24⟩
    · exact ⟨_, _, fun_mk (st := (top 16)) l25 c25 k25, PySem.W.mg_of X G a25⟩
    · exact ⟨_, _, fun_mk (st := (top 17)) l26 c26 k26, PySem.W.mg_of X G a26⟩
    · exact ⟨_, _, fun_mk (st := (top 18)) l27 c27 k27, PySem.W.mg_of X G a27⟩
    · exact ⟨_, _, fun_mk (st := (top 19)) l28 c28 k28, PySem.W.mg_of X G a28⟩
    · exact ⟨_, _, fun_mk (st := (top 20)) l29 c29 k29, PySem.W.mg_of X G a29⟩
    · exact ⟨_, _, fun_mk (st := (top 21)) l30 c30 k30, PySem.W.mg_of X G a30⟩
    · exact ⟨_, _, fun_mk (st := (top 22)) l31 c31 k31, PySem.W.mg_of X G a31⟩
    · exact ⟨_, _, fun_mk (st := (top 23)) l32 c32 k32, PySem.W.mg_of X G a32⟩
    · exact ⟨_, _, fun_mk (st := (inClass (top 24) 0)) l33 c33 k33, ⟨q33, a33, b33, p33⟩⟩
    · exact ⟨_, _, fun_mk (st := (inClass (top 24) 1)) l34 c34 k34, ⟨a34, b34, k34⟩⟩
    · exact ⟨_, _, fun_mk (st := (inClass (top 24) 2)) l35 c35 k35, ⟨a35, b35, k35⟩⟩
    · exact ⟨_, _, fun_mk (st := (top 25)) l36 c36 k36, PySem.W.mg_of X G a36⟩
    · exact ⟨_, _, fun_mk (st := (top 27)) l37 c37 k37, PySem.W.mg_of X G a37⟩
    · exact ⟨_, _, fun_mk (st := (top 28)) l38 c38 k38, PySem.W.mg_of X G a38⟩
    · exact ⟨_, _, fun_mk (st := (top 29)) l39 c39 k39, PySem.W.mg_of X G a39⟩
    · exact ⟨_, _, fun_mk (st := (top 30)) l40 c40 k40, PySem.W.mg_of X G a40⟩
    · exact ⟨_, _, fun_mk (st := (top 31)) l41 c41 k41, PySem.W.mg_of X G a41⟩
    · exact ⟨_, _, fun_mk (st := (top 32)) l42 c42 k42, PySem.W.mg_of X G a42⟩
    · exact ⟨_, _, fun_mk (st := (top 33)) l43 c43 k43, PySem.W.mg_of X G a43⟩
    · exact ⟨_, _, fun_mk (st := (top 34)) l44 c44 k44, PySem.W.mg_of X G a44⟩
    · exact ⟨_, _, fun_mk (st := (top 35)) l45 c45 k45, PySem.W.mg_of X G a45⟩
    · exact ⟨_, _, fun_mk (st := (top 36)) l46 c46 k46, PySem.W.mg_of X G a46⟩
    · exact ⟨_, _, fun_mk (st := (top 37)) l47 c47 k47, PySem.W.mg_of X G a47⟩
    · exact ⟨_, _, fun_mk (st := (top 38)) l48 c48 k48, PySem.W.mg_of X G a48⟩
    · exact ⟨_, _, fun_mk (st := (top 39)) l49 c49 k49, PySem.W.mg_of X G a49⟩
    · exact ⟨_, _, fun_mk (st := (top 40)) l50 c50 k50, PySem.W.mg_of X G a50⟩
    · exact ⟨_, _, fun_mk (st := (top 41)) l51 c51 k51, PySem.W.mg_of X G a51⟩
    · exact ⟨w52a, w52b, w52c, w52d⟩
    · exact n53
    · exact n54
    · exact n55
    · exact y56
    · exact ⟨eb57a, eb57b, eb57c⟩
    · exact ⟨es58a, es58b, es58c⟩
    · exact n59
    · exact u60
    · exact ⟨e61_0, e61_1, e61_2, e61_3, e61_4, e61_5, e61_6, cls_of_mro e61_6⟩
    · exact y62
    · exact y63
    · exact y64
    · exact u65
    · exact cls_of_mro u66
    · exact u67
  exact ⟨_, _, _, T, fun_mk (st := (top 41)) l51 c51 k51, PySem.W.mg_of X G a51, fun s v => .of_eq rfl⟩
theorem law_fn {l : PySem.W.OpenLaw} {w : World} {K : PySem.W.Frag} {mg : Str → Option Value} {fa : Addr} (hfa : mg "law" = some (.ref fa))
    (Z : ∃ (c : Cs) (f : Addr) (fd : FuncData), Txt K mg c ∧ Fun K "law" "law" (top 41) f fd ∧ mg "law" = some (.ref f) ∧ (∀ (s : Shared) (v : Value), BindsTo s fd ⟨[v], []⟩ [("_law_script", v)])) :
    ∃ (c : Cs) (fd : FuncData), (∀ (s : Shared) (v : Value), BindsTo s fd ⟨[v], []⟩ [("_law_script", v)]) ∧ ∀ base : Heap, K.In base → base.Ns mainGlobals mg → FnOk l.prog w K mg base CX0 10 fa fd ["_law_script"] (sp_law K c) := by
  obtain ⟨c, f, fd, T, F, m, b⟩ := Z
  have e := hfa.symm.trans m
  cases e
  exact ⟨c, fd, b, fun base _ _ => ok_law T F⟩
/-- the law's promise, whatever the classes' places -/
def spTop (K : PySem.W.Frag) : Sp := sp1 fun v H Q _ => ∃ (a : Addr) (ns : List Int), v = .ref a ∧ SqL K H a (ns.map V.int) ∧ ns.length ≤ 63 ∧ ∀ H', Q (.bl true) H'
theorem walk {l : PySem.W.OpenLaw} {q : Program} {loose : List Str} {XP : (Str → Option Value) → Heap → Prop} {YP : World → Heap → Prop} {d : DefRec} {K : Params → PySem.W.Frag} (hn : l.most = some 63) (hdf : d.params.defaults = [])
    (hY : ∀ (w : World) (h : Heap), YP w h → (K w.params).In h)
    (F : ∀ (w : World) (mg : Str → Option Value) (fa : Addr) (h : Heap), (K w.params).In h → h.Ns mainGlobals mg → mg d.name = some (.ref fa) →
      ∃ (c : Cs) (fd : FuncData), (∀ (s : Shared) (u : Value), BindsTo s fd ⟨[u], []⟩ [("_law_script", u)]) ∧ ∀ base : Heap, (K w.params).In base → base.Ns mainGlobals mg → FnOk l.prog w (K w.params) mg base CX0 10 fa fd ["_law_script"] (sp_law (K w.params) c)) :
    PySem.W.WalkO q loose XP YP l.row.toRowW d [] (fun f vs => PySem.call f vs) :=
  L2.walk_of (n := 63) (k := 10) (x := "_law_script") (CX := fun _ => CX0) (sp := fun w => spTop (K w.params)) hn (by decide) hdf ⟨rfl, by decide, by decide⟩ hY
    (fun w mg fa h a b m => let ⟨_, fd, e, f⟩ := F w mg fa h a b m; ⟨fd, e, fun base x y => (f base x y).imp fun vs H Q E ⟨v, e1, a, ns, e2, e3, _, e4⟩ => ⟨v, e1, a, ns, e2, e3, e4⟩⟩)
    (fun _ _ a ns hl _ hS => ⟨_, rfl, a, ns, rfl, hS, hl, fun _ => rfl⟩) fun _ _ _ _ _ z => z
end BB
open PySem PySem.W PyProof.Rows
set_option maxRecDepth 100000 in
set_option maxHeartbeats 0 in
theorem PySem.Challenge.cw_bitbus_k03_bad_bits_holds : PySem.Challenge.rw_bitbus_k03_bad_bits.Holds := by
  w_on; o_law; k_head; (case hw => w_witness2)
  k_fill
  refine BB.walk (l := PySem.Challenge.rw_bitbus_k03_bad_bits) rfl rfl (fun w h Y => PySem.W.kIn_of Y) ?F
  case F =>
    intro w mg fa h KX G hmg
    refine BB.law_fn hmg ?_
    refine' BB.txt_mk KX G ?z1 ?z2 ?z3 ?z4 ?z5 ?z6 ?z7 ?z8 ?z9 ?g10 ?g11 ?g12 ?g13 ?g14 ?g15 ?g16 ?g17 ?m18 ?m19 ?m20 ?m21 ?m22 ?a23 ?b23 ?q23 ?p23 ?l23 ?c23 ?k23 ?a24 ?l24 ?c24 ?k24 ?a25 ?l25 ?c25 ?k25 ?a26 ?l26 ?c26 ?k26 ?a27 ?l27 ?c27 ?k27 ?a28 ?l28 ?c28 ?k28 ?a29 ?l29 ?c29 ?k29 ?a30 ?l30 ?c30 ?k30 ?a31 ?l31 ?c31 ?k31 ?a32 ?l32 ?c32 ?k32 ?a33 ?b33 ?q33 ?p33 ?l33 ?c33 ?k33 ?a34 ?b34 ?l34 ?c34 ?k34 ?a35 ?b35 ?l35 ?c35 ?k35 ?a36 ?l36 ?c36 ?k36 ?a37 ?l37 ?c37 ?k37 ?a38 ?l38 ?c38 ?k38 ?a39 ?l39 ?c39 ?k39 ?a40 ?l40 ?c40 ?k40 ?a41 ?l41 ?c41 ?k41 ?a42 ?l42 ?c42 ?k42 ?a43 ?l43 ?c43 ?k43 ?a44 ?l44 ?c44 ?k44 ?a45 ?l45 ?c45 ?k45 ?a46 ?l46 ?c46 ?k46 ?a47 ?l47 ?c47 ?k47 ?a48 ?l48 ?c48 ?k48 ?a49 ?l49 ?c49 ?k49 ?a50 ?l50 ?c50 ?k50 ?a51 ?l51 ?c51 ?k51 ?w52a ?w52b ?w52c ?w52d ?n53 ?n54 ?n55 ?y56 ?eb57a ?eb57b ?eb57c ?es58a ?es58b ?es58c ?n59 ?u60 ?e61_0 ?e61_1 ?e61_2 ?e61_3 ?e61_4 ?e61_5 ?e61_6 ?y62 ?y63 ?y64 ?u65 ?u66 ?u67
    (case z1 => k_is)
    (case z2 => k_is)
    (case z3 => k_is)
    (case z4 => k_is)
    (case z5 => k_is)
    (case z6 => k_is)
    (case z7 => k_is)
    (case z8 => k_is)
    (case z9 => k_is)
    (case g10 => k_is)
    (case g11 => k_is)
    (case g12 => k_is)
    (case g13 => k_is)
    (case g14 => k_is)
    (case g15 => k_is)
    (case g16 => k_is)
    (case g17 => k_is)
    (case m18 => k_is)
    (case m19 => k_is)
    (case m20 => k_is)
    (case m21 => k_is)
    (case m22 => k_is)
    (case a23 => k_is)
    (case b23 => k_is)
    (case q23 => kernel_rfl)
    (case p23 => k_is)
    (case l23 => k_is)
    (case c23 => k_is)
    (case k23 => k_is)
    (case a24 => k_is)
    (case l24 => k_is)
    (case c24 => k_is)
    (case k24 => k_is)
    (case a25 => k_is)
    (case l25 => k_is)
    (case c25 => k_is)
    (case k25 => k_is)
    (case a26 => k_is)
    (case l26 => k_is)
    (case c26 => k_is)
    (case k26 => k_is)
    (case a27 => k_is)
    (case l27 => k_is)
    (case c27 => k_is)
    (case k27 => k_is)
    (case a28 => k_is)
    (case l28 => k_is)
    (case c28 => k_is)
    (case k28 => k_is)
    (case a29 => k_is)
    (case l29 => k_is)
    (case c29 => k_is)
    (case k29 => k_is)
    (case a30 => k_is)
    (case l30 => k_is)
    (case c30 => k_is)
    (case k30 => k_is)
    (case a31 => k_is)
    (case l31 => k_is)
    (case c31 => k_is)
    (case k31 => k_is)
    (case a32 => k_is)
    (case l32 => k_is)
    (case c32 => k_is)
    (case k32 => k_is)
    (case a33 => k_is)
    (case b33 => k_is)
    (case q33 => k_is)
    (case p33 => k_is)
    (case l33 => k_is)
    (case c33 => k_is)
    (case k33 => k_is)
    (case a34 => k_is)
    (case b34 => k_is)
    (case l34 => k_is)
    (case c34 => k_is)
    (case k34 => k_is)
    (case a35 => k_is)
    (case b35 => k_is)
    (case l35 => k_is)
    (case c35 => k_is)
    (case k35 => k_is)
    (case a36 => k_is)
    (case l36 => k_is)
    (case c36 => k_is)
    (case k36 => k_is)
    (case a37 => k_is)
    (case l37 => k_is)
    (case c37 => k_is)
    (case k37 => k_is)
    (case a38 => k_is)
    (case l38 => k_is)
    (case c38 => k_is)
    (case k38 => k_is)
    (case a39 => k_is)
    (case l39 => k_is)
    (case c39 => k_is)
    (case k39 => k_is)
    (case a40 => k_is)
    (case l40 => k_is)
    (case c40 => k_is)
    (case k40 => k_is)
    (case a41 => k_is)
    (case l41 => k_is)
    (case c41 => k_is)
    (case k41 => k_is)
    (case a42 => k_is)
    (case l42 => k_is)
    (case c42 => k_is)
    (case k42 => k_is)
    (case a43 => k_is)
    (case l43 => k_is)
    (case c43 => k_is)
    (case k43 => k_is)
    (case a44 => k_is)
    (case l44 => k_is)
    (case c44 => k_is)
    (case k44 => k_is)
    (case a45 => k_is)
    (case l45 => k_is)
    (case c45 => k_is)
    (case k45 => k_is)
    (case a46 => k_is)
    (case l46 => k_is)
    (case c46 => k_is)
    (case k46 => k_is)
    (case a47 => k_is)
    (case l47 => k_is)
    (case c47 => k_is)
    (case k47 => k_is)
    (case a48 => k_is)
    (case l48 => k_is)
    (case c48 => k_is)
    (case k48 => k_is)
    (case a49 => k_is)
    (case l49 => k_is)
    (case c49 => k_is)
    (case k49 => k_is)
    (case a50 => k_is)
    (case l50 => k_is)
    (case c50 => k_is)
    (case k50 => k_is)
    (case a51 => k_is)
    (case l51 => k_is)
    (case c51 => k_is)
    (case k51 => k_is)
    (case w52a => k_is)
    (case w52b => k_is)
    (case w52c => k_is)
    (case w52d => k_is)
    (case n53 => k_is)
    (case n54 => k_is)
    (case n55 => k_is)
    (case y56 => kit_is)
    (case eb57a => k_is)
    (case eb57b => k_is)
    (case eb57c => k_is)
    (case es58a => k_is)
    (case es58b => k_is)
    (case es58c => kernel_rfl)
    (case n59 => k_is)
    (case u60 => k_is)
    (case e61_0 => k_is)
    (case e61_1 => k_is)
    (case e61_2 => k_is)
    (case e61_3 => k_is)
    (case e61_4 => k_is)
    (case e61_5 => k_is)
    (case e61_6 => k_is)
    (case y62 => kit_is)
    (case y63 => kit_is)
    (case y64 => kit_is)
    (case u65 => k_is)
    (case u66 => k_is)
    (case u67 => k_is)
#print axioms PySem.Challenge.cw_bitbus_k03_bad_bits_holds
