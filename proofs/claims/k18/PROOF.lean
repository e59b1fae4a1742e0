import PyProof.Rows.All
import Wide.All
import OpenK.AllK
import Wide.FinOn
import Lean
import PyProof.EqAt
import PyProof.EqKinds
import PyProof.TupleCall
import PySem.Challenge.RW_yourorder_k18_whole_maps
set_option Elab.async false
set_option linter.all false
set_option maxRecDepth 100000
/-! THE HAND LAYER, for ints, bools, texts, own classes, LISTS and tuples (index, slices, in, append, pop ..), calls, loops. Paste it whole ahead of your own text; what your proof does not reach may be deleted. -/
namespace L2
open PySem PySem.Spec PyProof.Rows

/-- a key: an int or a str -/
abbrev Key := Sum Int Str
def keyIs : Key → Value → Bool
  | .inl k, v => Value.isInt k v
  | .inr x, v => Value.isStrOf x v
def keyH (w : World) : Key → Int
  | .inl k => hashInt k
  | .inr x => hashStr w x
theorem keyIs_shape : ∀ {k : Key} {v : Value}, keyIs k v = true → (∃ i t, k = Sum.inl i ∧ v = Value.int i t) ∨ (∃ x t, k = Sum.inr x ∧ v = Value.str x t)
  | .inl i, v, h => by
    obtain ⟨t, e⟩ := Value.isInt_shape (k := i) (v := v) h
    exact .inl ⟨i, t, rfl, e⟩
  | .inr x, v, h => by
    obtain ⟨t, e⟩ := Value.isStrOf_shape (x := x) (v := v) h
    exact .inr ⟨x, t, rfl, e⟩
theorem key_ll (a b : Int) : decide ((Sum.inl a : Key) = Sum.inl b) = (a == b) := by
  by_cases e : a = b
  · subst e; simp
  · have h : ¬ (Sum.inl a : Key) = Sum.inl b := fun q => e (Sum.inl.inj q)
    rw [decide_eq_false h]
    exact (beq_eq_false_iff_ne.mpr e).symm
theorem key_rr (a b : Str) : decide ((Sum.inr a : Key) = Sum.inr b) = decide (a = b) := by
  by_cases e : a = b
  · subst e; simp
  · have h : ¬ (Sum.inr a : Key) = Sum.inr b := fun q => e (Sum.inr.inj q)
    rw [decide_eq_false h, decide_eq_false e]
theorem key_lr (a : Int) (b : Str) : decide ((Sum.inl a : Key) = Sum.inr b) = false := decide_eq_false (fun q => nomatch q)
theorem key_rl (a : Str) (b : Int) : decide ((Sum.inr a : Key) = Sum.inl b) = false := decide_eq_false (fun q => nomatch q)

def mixKind (prog : Program) (w : World) : PySem.KeyKind prog w Key where
  is := keyIs
  hash := keyH w
  inj := fun v a b ha hb => by
    rcases keyIs_shape ha with ⟨i, t, rfl, rfl⟩ | ⟨x, t, rfl, rfl⟩
    · rcases keyIs_shape hb with ⟨j, u, rfl, e⟩ | ⟨y, u, rfl, e⟩
      · injection e with e1 _; rw [e1]
      · exact nomatch e
    · rcases keyIs_shape hb with ⟨j, u, rfl, e⟩ | ⟨y, u, rfl, e⟩
      · exact nomatch e
      · injection e with e1 _; rw [e1]
  byValue := fun k v h => by
    rcases keyIs_shape h with ⟨i, t, rfl, rfl⟩ | ⟨x, t, rfl, rfl⟩ <;> rfl
  pyHash := fun hv h => by
    rcases keyIs_shape hv with ⟨i, t, rfl, rfl⟩ | ⟨x, t, rfl, rfl⟩
    · exact wpAny_pyHash_int h
    · exact wpAny_pyHash_str h
  eqBool := fun hu hv h => by
    rcases keyIs_shape hu with ⟨i, t, rfl, rfl⟩ | ⟨x, t, rfl, rfl⟩
    · rcases keyIs_shape hv with ⟨j, u, rfl, rfl⟩ | ⟨y, u, rfl, rfl⟩
      · rw [key_ll] at h; exact wpAny_eqBool_int h
      · rw [key_lr] at h; exact SeqAt.EqAt.int_str i t y u _ _ _ _ h
    · rcases keyIs_shape hv with ⟨j, u, rfl, rfl⟩ | ⟨y, u, rfl, rfl⟩
      · rw [key_rl] at h; exact SeqAt.EqAt.str_int x t j u _ _ _ _ h
      · rw [key_rr] at h; exact wpAny_eqBool_str h
  «strs» := fun k x t v h => by
    rcases keyIs_shape h with ⟨i, u, rfl, e⟩ | ⟨y, u, rfl, e⟩
    · exact nomatch e
    · injection e with e1 _
      subst e1
      cases v <;> rfl

end L2

namespace L2
open PySem PySem.Spec PyProof.Rows

/-- a value, without the heap -/
inductive V where
  | non | bl (b : Bool) | int (i : Int) | str (x : Str) | byt (b : Array UInt8) | flt (b : UInt64) | ref (a : Addr) | ty (n : String)
  deriving DecidableEq

def RelV : V → Value → Prop
  | .non, u => u = Value.none
  | .bl b, u => u = Value.bool b
  | .int i, u => ∃ t, u = Value.int i t
  | .str x, u => ∃ t, u = Value.str x t
  | .byt b, u => ∃ t, u = Value.bytes b t
  | .flt b, u => ∃ t, u = Value.float b t
  | .ref a, u => u = Value.ref a
  | .ty n, u => u = Value.type n

abbrev Vals : List V → List Value → Prop := Paired RelV
theorem Vals.length {xs : List V} {us : List Value} (r : Vals xs us) : xs.length = us.length := Paired.length r
theorem Vals.get : ∀ {xs : List V} {us : List Value} {i : Nat} {x : V}, Vals xs us → xs[i]? = some x → ∃ u, us[i]? = some u ∧ RelV x u
  | _, _, _, _, .nil, e => by simp at e
  | _, _, 0, _, .cons r _, e => by simp at e; subst e; exact ⟨_, rfl, r⟩
  | _, _, i + 1, x, .cons _ t, e => by
    obtain ⟨u, h1, h2⟩ := Vals.get (i := i) (x := x) t (by simpa using e)
    exact ⟨u, by simpa using h1, h2⟩
theorem Vals.set {x : V} {u : Value} (r : RelV x u) : ∀ {xs : List V} {us : List Value} (i : Nat), Vals xs us → Vals (xs.set i x) (us.set i u)
  | _, _, _, .nil => .nil
  | _, _, 0, .cons _ t => .cons r t
  | _, _, i + 1, .cons q t => .cons q (Vals.set r i t)
theorem Vals.append : ∀ {xs ys : List V} {us ws : List Value}, Vals xs us → Vals ys ws → Vals (xs ++ ys) (us ++ ws)
  | _, _, _, _, .nil, s => s
  | _, _, _, _, .cons r t, s => .cons r (Vals.append t s)
theorem Vals.take : ∀ {xs : List V} {us : List Value} (n : Nat), Vals xs us → Vals (xs.take n) (us.take n)
  | _, _, 0, _ => .nil
  | _, _, _ + 1, .nil => .nil
  | _, _, n + 1, .cons r t => .cons r (Vals.take n t)
theorem Vals.drop : ∀ {xs : List V} {us : List Value} (n : Nat), Vals xs us → Vals (xs.drop n) (us.drop n)
  | _, _, 0, r => r
  | _, _, _ + 1, .nil => .nil
  | _, _, n + 1, .cons _ t => Vals.drop n t

def RelO : Option V → Option Value → Prop
  | some v, some u => RelV v u
  | none, none => True
  | _, _ => False
def KV {κ : Type} : List (κ × V) → List (κ × Value) → Prop := Paired fun (p : κ × V) (q : κ × Value) => p.1 = q.1 ∧ RelV p.2 q.2

/-- a key of a dict (00_mix): an int or a text -/
def kV : Key → V
  | .inl i => .int i
  | .inr x => .str x

/-- what stands at a tracked address -/
inductive HO where
  /-- a list -/
  | lst (xs : List V)
  /-- a tuple (never changes) -/
  | tup (xs : List V)
  /-- a dict whose keys are ints and texts; one whose keys are tuples of ints and texts (the empty one is both) -/
  | dK (kvs : List (Key × V)) | dT (kvs : List (List Key × V))
  /-- a set of ints: its members, its size -/
  | set (S : Int → Bool) (n : Nat)
  /-- an instance of the class at C, its dict at dx, its attributes -/
  | ins (C dx : Addr) (fs : List (Str × V))
  /-- the dict of the instance at x -/
  | own (x : Addr)
  /-- the dict of an exception -/
  | xd (fs : List (Str × V))
  /-- a bound method, f of x -/
  | met (f x : Addr)
  /-- a range object lo, lo + 1, .. below hi -/
  | rng (lo hi : Int)
  /-- a thing that is known to the object (the script; a dict while a loop walks it): read, never written while it is so -/
  | frz (o : Obj) (u : HO)
  /-- a code object's table -/
  | tbl (ps : Array Value)
  /-- any other thing, by what is true of its one object (a def of one's own: SetO a S n := HO.ext fun h => ..) -/
  | ext (φ : Heap → Prop)

abbrev Hp := Addr → Option HO
def upd (H : Hp) (a : Addr) (o : HO) : Hp := fun b => if b = a then some o else H b
theorem upd_same {H : Hp} {a : Addr} {o : HO} : upd H a o a = some o := by unfold upd; rw [if_pos rfl]
theorem upd_ne {H : Hp} {a b : Addr} {o : HO} (h : b ≠ a) : upd H a o b = H b := by unfold upd; rw [if_neg h]
theorem ne_of_none {H : Hp} {a b : Addr} {o : HO} (h : H a = some o) (h' : H b = none) : a ≠ b := by
  intro e; subst e; rw [h] at h'; cases h'

section
variable (P : Program) (w : World)
def ObjOk (H : Hp) (h : Heap) (a : Addr) : HO → Prop
  | .lst xs => xs.length ≤ sizeLine ∧ ∃ (its : List Value) (n : Nat), Vals xs its ∧ h.get? a = some { cls := .type "list", data := .seq its.toArray n }
  | .tup xs => xs.length ≤ sizeLine ∧ ∃ its : List Value, Vals xs its ∧ IsTup h a its.toArray
  | .dK kvs => kvs.length ≤ sizeLine ∧ (a == sysModules) = false ∧ ∃ vs, KV kvs vs ∧ h.DictOf (mixKind P w) a vs
  | .dT kvs => kvs.length ≤ sizeLine ∧ (a == sysModules) = false ∧ ∃ xs : List (List Key × Addr × Value),
      Paired (fun (p : List Key × V) (q : List Key × Addr × Value) => p.1 = q.1 ∧ H q.2.1 = some (.tup (p.1.map kV)) ∧ RelV p.2 q.2.2) kvs xs ∧
      ∃ o es ep, h.get? a = some o ∧ o.ExactDict ∧ o.data = .dict es ep ∧ es.toList = xs.map (entryOfKey (tupleKind (mixKind P w))) ∧ (xs.map (·.1)).Nodup
  | .set S n => h.SetOf (intKind P w) a S n
  | .ins C dx fs => H dx = some (.own a) ∧ fs.length ≤ 1000 ∧ dx ≠ a ∧ h.get? a = some (PySem.W.instObj C dx) ∧
      ∃ mA, h.Ns1 dx mA ∧ (∀ f, RelO (fs.lookup f) (mA f)) ∧ PySem.Within mA (fs.map (·.1))
  | .own _ => ∃ o, h.get? a = some o
  | .xd fs => ∃ mA, h.Ns1 a mA ∧ ∀ f, RelO (fs.lookup f) (mA f)
  | .rng lo hi => ∃ t u v, h.get? a = some { cls := .type "range", data := .fields #[.int lo t, .int hi u, .int 1 v] }
  | .frz o u => h.get? a = some o ∧ ObjOk H h a u
  | .tbl ps => h.get? a = some { cls := .none, data := .fields ps }
  | .met f x => h.get? a = some (PySem.W.methodObj (.ref f) (.ref x))
  | .ext φ => φ h ∧ (∃ o, h.get? a = some o) ∧ ∀ h1 h2 : Heap, φ h1 → (∀ o, h1.get? a = some o → h2.get? a = some o) → φ h2
/-- the abstract heap is held -/
def HOk (H : Hp) (h : Heap) : Prop := ∀ a o, H a = some o → ObjOk P w H h a o
end

section
variable {P : Program} {w : World} {H H' : Hp} {h h' : Heap} {a : Addr} {o : HO}
theorem ObjOk.lt (x : ObjOk P w H h a o) : a < h.objs.size := by
  cases o with
  | lst xs => obtain ⟨_, _, _, _, e⟩ := x; exact Heap.lt_size e
  | tup xs => obtain ⟨_, _, _, p⟩ := x; exact p.lt
  | dK kvs => obtain ⟨_, _, _, _, o, _, _, e, _⟩ := x; exact Heap.lt_size e
  | dT kvs => obtain ⟨_, _, _, _, o, _, _, e, _⟩ := x; exact Heap.lt_size e
  | set S n => obtain ⟨o, _, _, _, e, _⟩ := x; exact Heap.lt_size e
  | ins C dx fs => obtain ⟨_, _, _, e, _⟩ := x; exact Heap.lt_size e
  | own y => obtain ⟨_, e⟩ := x; exact Heap.lt_size e
  | xd fs => obtain ⟨_, ⟨_, _, _, e, _⟩, _⟩ := x; exact Heap.lt_size e
  | rng lo hi => obtain ⟨_, _, _, e⟩ := x; exact Heap.lt_size e
  | frz ob u => obtain ⟨e, _⟩ := x; exact Heap.lt_size e
  | tbl ps => exact Heap.lt_size (show h.get? a = some _ from x)
  | met f y => exact Heap.lt_size (show h.get? a = some _ from x)
  | ext φ => obtain ⟨_, ⟨_, e⟩, _⟩ := x; exact Heap.lt_size e
theorem Paired.mapP {α β : Type} {F G : α → β → Prop} : ∀ {l₁ : List α} {l₂ : List β}, Paired F l₁ l₂ → (∀ a b, F a b → G a b) → Paired G l₁ l₂
  | _, _, .nil, _ => .nil
  | _, _, .cons r t, f => .cons (f _ _ r) (Paired.mapP t f)
/-- what an object's description leans on: its own object, its own dict, the tuples -/
theorem ObjOk.stay (x : ObjOk P w H h a o) (k : ∀ b u, (b = a ∨ H b = some (.own a)) → h.get? b = some u → h'.get? b = some u)
    (ho : ∀ b, H b = some (.own a) → H' b = some (.own a)) (ht : ∀ b xs, H b = some (.tup xs) → H' b = some (.tup xs)) : ObjOk P w H' h' a o := by
  induction o with
  | lst xs => obtain ⟨z, its, n, r, e⟩ := x; exact ⟨z, its, n, r, k _ _ (.inl rfl) e⟩
  | tup xs => obtain ⟨z, its, r, ob, e, c⟩ := x; exact ⟨z, its, r, ob, k _ _ (.inl rfl) e, c⟩
  | dK kvs => obtain ⟨z, y, vs, r, ob, es, ep, e, c⟩ := x; exact ⟨z, y, vs, r, ob, es, ep, k _ _ (.inl rfl) e, c⟩
  | dT kvs =>
    obtain ⟨z, y, xs, r, ob, es, ep, e, c⟩ := x
    exact ⟨z, y, xs, Paired.mapP r fun p q z => ⟨z.1, ht _ _ z.2.1, z.2.2⟩, ob, es, ep, k _ _ (.inl rfl) e, c⟩
  | set S n => obtain ⟨ob, es, ep, t, e, c⟩ := x; exact ⟨ob, es, ep, t, k _ _ (.inl rfl) e, c⟩
  | ins C dx fs =>
    obtain ⟨d, z, ne, e, mA, ⟨od, es, ep, e2, c⟩, r⟩ := x
    exact ⟨ho _ d, z, ne, k _ _ (.inl rfl) e, mA, ⟨od, es, ep, k _ _ (.inr d) e2, c⟩, r⟩
  | own y => obtain ⟨ob, e⟩ := x; exact ⟨ob, k _ _ (.inl rfl) e⟩
  | xd fs => obtain ⟨mA, ⟨od, es, ep, e, c⟩, r⟩ := x; exact ⟨mA, ⟨od, es, ep, k _ _ (.inl rfl) e, c⟩, r⟩
  | rng lo hi => obtain ⟨t, u, v, e⟩ := x; exact ⟨t, u, v, k _ _ (.inl rfl) e⟩
  | frz ob u ih => obtain ⟨e, q⟩ := x; exact ⟨k _ _ (.inl rfl) e, ih q⟩
  | tbl ps =>
    have e : h.get? a = some { cls := .none, data := .fields ps } := x
    show h'.get? a = some { cls := .none, data := .fields ps }
    exact k a _ (.inl rfl) e
  | met f y =>
    have e : h.get? a = some (PySem.W.methodObj (.ref f) (.ref y)) := x
    show h'.get? a = some (PySem.W.methodObj (.ref f) (.ref y))
    exact k a _ (.inl rfl) e
  | ext φ => obtain ⟨p, ⟨o, e⟩, st⟩ := x; exact ⟨st _ _ p fun o q => k _ _ (.inl rfl) q, ⟨o, k _ _ (.inl rfl) e⟩, st⟩
theorem HOk.lt (x : HOk P w H h) (e : H a = some o) : a < h.objs.size := (x a o e).lt
theorem HOk.fresh (x : HOk P w H h) (e : h.objs.size ≤ a) : H a = none := by
  cases q : H a with
  | none => rfl
  | some u => exact absurd (Nat.lt_of_lt_of_le (x.lt q) e) (Nat.lt_irrefl _)
/-- every object of the heap is kept -/
theorem HOk.kept (x : HOk P w H h) (k : ∀ b u, h.get? b = some u → h'.get? b = some u) : HOk P w H h' := fun a o e =>
  (x a o e).stay (fun b u _ q => k b u q) (fun _ q => q) fun _ _ q => q
/-- a new object is laid and tracked -/
theorem HOk.laid (x : HOk P w H h) (k : ∀ b u, h.get? b = some u → h'.get? b = some u) (hp : h.objs.size ≤ a) (new : ObjOk P w (upd H a o) h' a o) : HOk P w (upd H a o) h' := fun b u e => by
  have hn := x.fresh hp
  by_cases hb : b = a
  · subst hb; rw [upd_same] at e; cases e; exact new
  · rw [upd_ne hb] at e
    exact (x b u e).stay (fun c v _ q => k c v q) (fun c q => by rw [upd_ne (ne_of_none q hn)]; exact q) fun c xs q => by rw [upd_ne (ne_of_none q hn)]; exact q
end

/-- what may be read as u: it is u, or a known u -/
def Rd (H : Hp) (a : Addr) (u : HO) : Prop := H a = some u ∨ ∃ o, H a = some (.frz o u)
theorem Rd.ok {P : Program} {w : World} {H : Hp} {h : Heap} {a : Addr} {u : HO} (r : Rd H a u) (x : HOk P w H h) : ObjOk P w H h a u := by
  rcases r with r | ⟨o, r⟩
  · exact x a u r
  · obtain ⟨_, q⟩ := x a _ r
    exact q
/-- what may be written -/
def Mut : Option HO → Prop
  | some (.lst _) => True
  | some (.dK _) => True
  | some (.dT _) => True
  | some (.set _ _) => True
  | some (.ins _ _ _) => True
  | some (.ext _) => True
  | _ => False
section
variable {P : Program} {w : World} {H : Hp} {h h' : Heap} {x e : Addr} {o' : HO}
/-- the object at e is changed: x itself, or the dict of the instance x -/
theorem HOk.write (ok : HOk P w H h) (mu : Mut (H x)) (he : e = x ∨ H e = some (.own x)) (k : ∀ b u, b ≠ e → h.get? b = some u → h'.get? b = some u) (heo : ∃ u, h'.get? e = some u)
    (new : ObjOk P w (upd H x o') h' x o') : HOk P w (upd H x o') h' := fun b u q => by
  have nown : ∀ c y, H c = some (.own y) → c ≠ x := fun c y r z => by subst z; rw [r] at mu; exact mu
  have ntup : ∀ c xs, H c = some (.tup xs) → c ≠ x := fun c xs r z => by subst z; rw [r] at mu; exact mu
  by_cases hb : b = x
  · subst hb; rw [upd_same] at q; cases q; exact new
  · rw [upd_ne hb] at q
    by_cases hbe : b = e
    · have q' : H b = some (.own x) := by
        rcases he with z | z
        · exact absurd (hbe.trans z) hb
        · rw [hbe]; exact z
      rw [q] at q'; cases q'
      obtain ⟨v, hv⟩ := heo
      exact ⟨v, by rw [hbe]; exact hv⟩
    · refine (ok b u q).stay (fun c v hc r => k c v ?_ r) (fun c r => by rw [upd_ne (nown c b r)]; exact r) fun c xs r => by rw [upd_ne (ntup c xs r)]; exact r
      rcases hc with rfl | hc
      · exact hbe
      · rintro rfl
        rcases he with z | z
        · exact nown c b hc z
        · rw [hc] at z; cases z; exact hb rfl
end

/-! ### kept unless tracked; of the frames at fs (the callers') the slots may change (an exception that passes writes there); of the records at ex (iterators) nothing is said -/
structure Un (fs ex : List Addr) (H H' : Hp) (h h' : Heap) : Prop where
  keep : ∀ b o, h.get? b = some o → H b = none → b ∉ fs → b ∉ ex → h'.get? b = some o
  slot : ∀ b o, h.get? b = some o → H b = none → b ∈ fs → b ∉ ex → ∃ sl, h'.get? b = some { o with slots := sl }
  free : ∀ b o, h.get? b = some o → H b = none → b ∉ ex → H' b = none
  there : ∀ b o, h.get? b = some o → b ∉ ex → ∃ o', h'.get? b = some o'
  tups : ∀ b xs, H b = some (.tup xs) → H' b = some (.tup xs)
  frzs : ∀ b o u, H b = some (.frz o u) → H' b = some (.frz o u)
  tbls : ∀ b ps, H b = some (.tbl ps) → ∃ more, H' b = some (.tbl (ps ++ more))
section
variable {fs fs' ex ex' : List Addr} {H H1 H2 : Hp} {h h1 h2 h' : Heap} {a x e : Addr} {o : HO}
theorem Un.any (u : Un fs ex H H1 h h1) {b : Addr} {ob : Obj} (q : h.get? b = some ob) (n : H b = none) (hx : b ∉ ex) : ∃ sl, h1.get? b = some { ob with slots := sl } := by
  by_cases hb : b ∈ fs
  · exact u.slot b ob q n hb hx
  · exact ⟨ob.slots, u.keep b ob q n hb hx⟩
theorem Un.kept (k : ∀ b u, h.get? b = some u → h'.get? b = some u) : Un fs ex H H h h' :=
  ⟨fun b ob q _ _ _ => k b ob q, fun b ob q _ _ _ => ⟨ob.slots, k b ob q⟩, fun _ _ _ n _ => n, fun b ob q _ => ⟨ob, k b ob q⟩, fun _ _ q => q, fun _ _ _ q => q, fun _ ps q => ⟨#[], by rw [q]; simp⟩⟩
theorem Un.refl : Un fs ex H H h h := Un.kept fun _ _ q => q
theorem Un.laid (k : ∀ b u, h.get? b = some u → h'.get? b = some u) (hp : h.objs.size ≤ a) (hn : H a = none) : Un fs ex H (upd H a o) h h' where
  keep := fun b u q _ _ _ => k b u q
  slot := fun b u q _ _ _ => ⟨u.slots, k b u q⟩
  free := fun b u q n _ => by rw [upd_ne (Nat.ne_of_lt (Nat.lt_of_lt_of_le (Heap.lt_size q) hp))]; exact n
  there := fun b u q _ => ⟨u, k b u q⟩
  tups := fun b xs q => by rw [upd_ne (ne_of_none q hn)]; exact q
  frzs := fun b u xs q => by rw [upd_ne (ne_of_none q hn)]; exact q
  tbls := fun b ps q => ⟨#[], by rw [upd_ne (ne_of_none q hn), q]; simp⟩
theorem Un.write (mu : Mut (H x)) (he : e = x ∨ H e = some (.own x)) (k : ∀ b u, b ≠ e → h.get? b = some u → h'.get? b = some u) (heo : ∃ u, h'.get? e = some u) : Un fs ex H (upd H x o) h h' := by
  have hx : ∀ b, H b = none → b ≠ x := fun b n z => by subst z; rw [n] at mu; exact mu
  have hb : ∀ b, H b = none → b ≠ e := fun b n z => by
    subst z
    rcases he with r | r
    · exact hx b n r
    · rw [n] at r; cases r
  have hm : ∀ b u, H b = some u → ¬ Mut (some u) → b ≠ x := fun b u q nm z => by subst z; rw [q] at mu; exact nm mu
  refine ⟨fun b u q n _ _ => k b u (hb b n) q, fun b u q n _ _ => ⟨u.slots, k b u (hb b n) q⟩, fun b u q n _ => by rw [upd_ne (hx b n)]; exact n, fun b u q _ => ?_,
    fun b xs q => by rw [upd_ne (hm b _ q fun z => z)]; exact q, fun b u xs q => by rw [upd_ne (hm b _ q fun z => z)]; exact q, fun b ps q => ⟨#[], by rw [upd_ne (hm b _ q fun z => z), q]; simp⟩⟩
  by_cases hbe : b = e
  · subst hbe; exact heo
  · exact ⟨u, k b u hbe q⟩
end

/-! ### the heap without what is tracked -/
def trk (h : Heap) (H : Hp) : List Addr := (List.range h.objs.size).filter fun a => (H a).isSome
def hidT (h : Heap) (H : Hp) : Heap := PySem.W.hideAll h (trk h H)
theorem hidT_size (h : Heap) (H : Hp) : (hidT h H).objs.size = h.objs.size := PySem.W.hideAll_size _ _
theorem hidT_get {h : Heap} {H : Hp} {b : Addr} {o : Obj} (e : h.get? b = some o) (n : H b = none) : (hidT h H).get? b = some o :=
  PySem.W.hideAll_get _ e fun hm => by
    have q : (H b).isSome = true := (List.mem_filter.mp hm).2
    rw [n] at q; simp at q
theorem of_hidT {h : Heap} {H : Hp} {b : Addr} {o : Obj} (e : (hidT h H).get? b = some o) : h.get? b = some o ∧ H b = none := by
  have e' : h.get? b = some o := PySem.W.of_hideAll (trk h H) e
  refine ⟨e', ?_⟩
  cases q : H b with
  | none => rfl
  | some x =>
    have hm : b ∈ trk h H := List.mem_filter.mpr ⟨List.mem_range.mpr (Heap.lt_size e'), by simp [q]⟩
    have z : (hidT h H).get? b = none := PySem.W.hideAll_none (trk h H) hm
    rw [z] at e; cases e

/-! ### OpenK's ledger, filled with every new object but one -/
def allNews (g h : Heap) (L : Addr) : List (Addr × Obj) := (List.range h.objs.size).filterMap fun a => if a = L ∨ (g.get? a).isSome = true then none else (h.get? a).map fun o => (a, o)
def rest (g h : Heap) (L d : Addr) : List (Addr × Obj) := (allNews g h L).filter fun p => decide (p.1 ≠ d)
end L2

namespace L2
open PySem PySem.Spec PyProof.Rows

/-- the module's facts, over the base: the heap at the law's entry without what is tracked there -/
structure Mod (K : PySem.W.Frag) (mg : Str → Option Value) (base : Heap) : Prop where
  kin : K.In base
  glob : base.Ns mainGlobals mg
  blt : ∃ mb, base.Ns builtinsNs mb ∧ ∀ x : Str, x ≠ "__name__" → mb x = bootBuiltins x
  nolimit : base.NoLimit

/-- the context: a def's body (or a comprehension's block) running. base: fixed through the whole law; s₀, H₀: the entry; outer: the frames whose slots others may change (a def's callers); stack: all frames that run;
   ex: iterators that were made ahead of the entry and are walked here (a comprehension's); fn: the names whose cells were made at the entry (a def: all; a comprehension's block: its own); calm: not within an except suite; pn: pins that every state bears; xe: what is wanted of an exception that leaves the code -/
structure Cx where
  prog : Program
  w : World
  K : PySem.W.Frag
  mg : Str → Option Value
  base : Heap
  A : Around
  N : List Str
  s₀ : Shared
  H₀ : Hp
  env : Env
  outer : List Env
  stack : List Env
  ex : List Addr
  fn : Str → Bool
  calm : Bool
  pn : List (Addr × Obj)
  xe : Value → Shared → Prop
/-- the callers' frames -/
def frs (l : List Env) : List Addr := l.filterMap (·.frame)
abbrev Cx.fs (X : Cx) : List Addr := frs X.outer

def Vis (sc : Scope) (x : Str) : Prop := sc.names.lookup x = some .local ∨ sc.names.lookup x = some .cell ∨ sc.names.lookup x = some .free
def Loc (sc : Scope) (x : Str) : Prop := sc.names.lookup x = some .local ∨ sc.names.lookup x = some .cell
def Look (env : Env) (h : Heap) (m : Str → Option Value) (x : Str) (u : Value) : Prop :=
  (env.kindOf x = some .local ∧ m x = some u) ∨ ((env.kindOf x = some .cell ∨ env.kindOf x = some .free) ∧ ∃ c, env.cells.lookup x = some c ∧ h.IsCell c (some u))

structure Cx.Ok (X : Cx) : Prop where
  mod : Mod X.K X.mg X.base
  kind : X.env.scope.kind = .function
  glob : X.env.globals = mainGlobals
  blt : X.env.builtins = builtinsNs
  above : X.s₀.heap.objs.size ≤ X.env.locals
  inj : ∀ x y c, X.env.cells.lookup x = some c → X.env.cells.lookup y = some c → x = y
  has : ∀ x, (X.env.kindOf x = some .cell ∨ X.env.kindOf x = some .free) → ∃ c, X.env.cells.lookup x = some c
  cab : ∀ x c, X.fn x = true → X.env.cells.lookup x = some c → X.s₀.heap.objs.size ≤ c
  hd : X.calm = true → X.A.handled = none
  frames : X.A.frames = some X.stack
  stk : X.stack = X.outer ∨ (X.stack = X.env :: X.outer ∧ X.env.frame = some X.env.locals)
  exf : ∀ b ∈ X.ex, b ≠ X.env.locals ∧ ∀ x c, X.env.cells.lookup x = some c → c ≠ b
  bs : ∀ b o, X.base.get? b = some o → X.s₀.heap.get? b = some o ∧ X.H₀ b = none
  bsz : X.base.objs.size ≤ X.s₀.heap.objs.size
  noex : ∀ b o, X.base.get? b = some o → b ∉ X.ex
  exfs : ∀ b ∈ X.ex, b ∉ X.fs
  funs : X.s₀.heap.FunFrames X.base X.outer
  frf : ∀ b ∈ X.fs, X.H₀ b = none

structure Inv (X : Cx) (pins : List (Addr × Obj)) (σ : List (Option V)) (H : Hp) (s : Shared) : Prop where
  ok : X.Ok
  os : s.os = X.s₀.os
  bare : AllBare s.gens
  base : Un X.fs X.ex X.H₀ H X.s₀.heap s.heap
  loc : ∃ m, s.heap.Ns X.env.locals m ∧ ∀ (i : Nat) (x : Str) (v : V), X.N[i]? = some x → σ[i]? = some (some v) → Vis X.env.scope x → ∃ u, RelV v u ∧ Look X.env s.heap m x u
  cell : ∀ x c, X.env.cells.lookup x = some c → ∃ v, s.heap.IsCell c v
  free : H X.env.locals = none
  freeC : ∀ x c, X.env.cells.lookup x = some c → H c = none
  pin : ∀ p ∈ X.pn ++ pins, s.heap.get? p.1 = some p.2 ∧ H p.1 = none ∧ p.1 ≠ X.env.locals ∧ p.1 ∉ X.fs ∧ ∀ v, p.2.data ≠ .cell v
  hok : HOk X.prog X.w H s.heap
  len : σ.length = X.N.length

section
variable {X : Cx} {pins : List (Addr × Obj)} {σ : List (Option V)} {H H' : Hp} {s : Shared} {h' : Heap}

theorem Cx.Ok.nofr (ok : X.Ok) {b : Addr} {o : Obj} (e : X.base.get? b = some o) : b ∉ X.fs := fun hb => by
  have := (ok.funs.mem hb).1
  rw [e] at this; cases this
theorem Inv.bs (I : Inv X pins σ H s) : ∀ b o, X.base.get? b = some o → s.heap.get? b = some o ∧ H b = none := fun b o e =>
  ⟨I.base.keep b o (I.ok.bs b o e).1 (I.ok.bs b o e).2 (I.ok.nofr e) (I.ok.noex b o e), I.base.free b o (I.ok.bs b o e).1 (I.ok.bs b o e).2 (I.ok.noex b o e)⟩
theorem Inv.bk (I : Inv X pins σ H s) : ∀ b o, X.base.get? b = some o → s.heap.get? b = some o := fun b o e => (I.bs b o e).1
theorem Inv.mod (I : Inv X pins σ H s) : Mod X.K X.mg X.base := I.ok.mod
theorem Inv.kIn (I : Inv X pins σ H s) : X.K.In s.heap := I.ok.mod.kin.keeps I.bk
theorem Inv.lt (I : Inv X pins σ H s) : X.env.locals < s.heap.objs.size := let ⟨_, hn, _⟩ := I.loc; hn.lt
theorem Inv.sz (I : Inv X pins σ H s) : X.s₀.heap.objs.size ≤ s.heap.objs.size := Nat.le_trans I.ok.above (Nat.le_of_lt I.lt)
theorem Inv.nofs (I : Inv X pins σ H s) {a : Addr} (h : s.heap.objs.size ≤ a) : a ∉ X.fs := fun hb => by
  obtain ⟨_, o, ho, _⟩ := I.ok.funs.mem hb
  exact absurd (Nat.lt_of_lt_of_le (Heap.lt_size ho) (Nat.le_trans I.sz h)) (Nat.lt_irrefl _)
theorem Inv.cne (I : Inv X pins σ H s) : ∀ x c, X.env.cells.lookup x = some c → c ≠ X.env.locals := fun x c e z => by
  obtain ⟨v, o, ho, hd⟩ := I.cell x c e
  obtain ⟨m, ⟨o', es, ep, ho', hd', _⟩, _⟩ := I.loc
  rw [z, ho'] at ho; cases ho; rw [hd'] at hd; cases hd
theorem Inv.funs (I : Inv X pins σ H s) : s.heap.FunFrames X.base X.outer := by
  have all : ∀ (l : List Env), (∀ b ∈ frs l, b ∈ X.fs) → X.s₀.heap.FunFrames X.base l → s.heap.FunFrames X.base l := by
    intro l
    induction l with
    | nil => intro _ _; trivial
    | cons env r ih =>
      intro hs hl
      obtain ⟨hk, ⟨L, o, hf, hn, ho, hd⟩, hr⟩ := hl
      have hL : L ∈ X.fs := hs L (by unfold frs; rw [List.filterMap_cons, hf]; exact List.mem_cons_self)
      obtain ⟨sl, e⟩ := I.base.slot L o ho (I.ok.frf L hL) hL fun z => I.ok.exfs L z hL
      exact ⟨hk, ⟨L, _, hf, hn, e, hd⟩, ih (fun b hb => hs b (by unfold frs; rw [List.filterMap_cons, hf]; exact List.mem_cons_of_mem _ hb)) hr⟩
  exact all X.outer (fun _ hb => hb) I.ok.funs

/-- the frames that run, for a call -/
theorem Inv.stack (I : Inv X pins σ H s) : s.heap.FunFrames X.base X.stack := by
  rcases I.ok.stk with e | ⟨e, hf⟩
  · rw [e]; exact I.funs
  · rw [e]
    obtain ⟨m, hn, _⟩ := I.loc
    refine .cons (by rw [I.ok.kind]; decide) hf hn ?_ I.funs
    exact Heap.get?_none_of_le (Nat.le_trans I.ok.bsz I.ok.above)
theorem Inv.stkSub (I : Inv X pins σ H s) : ∀ b ∈ frs X.stack, b ∈ X.env.locals :: X.fs := fun b hb => by
  rcases I.ok.stk with e | ⟨e, hf⟩
  · rw [e] at hb; exact List.mem_cons_of_mem _ hb
  · rw [e] at hb
    unfold frs at hb
    rw [List.filterMap_cons, hf] at hb
    exact hb
theorem Inv.stkFree (I : Inv X pins σ H s) : ∀ b ∈ frs X.stack, H b = none := fun b hb => by
  rcases List.mem_cons.mp (I.stkSub b hb) with e | hb
  · rw [e]; exact I.free
  · obtain ⟨_, o, ho, _⟩ := I.ok.funs.mem hb
    exact I.base.free b o ho (I.ok.frf b hb) fun z => I.ok.exfs b z hb

/-- THE STEP: the untracked objects but the frame and the records at ch are kept (the callers' frames up to slots), the frame's map is kept, the new abstract heap is held -/
theorem Inv.step {g' : Array GenState} {t' : Nat} {d' : Drawn} {ch : List Addr} (I : Inv X pins σ H s)
    (hch : ∀ b ∈ ch, (b ∈ X.ex ∨ X.s₀.heap.objs.size ≤ b) ∧ b ≠ X.env.locals ∧ (∀ x c, X.env.cells.lookup x = some c → c ≠ b) ∧ ∀ p ∈ X.pn ++ pins, p.1 ≠ b)
    (keep : ∀ b o, b ≠ X.env.locals → b ∉ X.fs → b ∉ ch → s.heap.get? b = some o → H b = none → h'.get? b = some o)
    (slot : ∀ b o, b ≠ X.env.locals → b ∈ X.fs → b ∉ ch → s.heap.get? b = some o → H b = none → ∃ sl, h'.get? b = some { o with slots := sl }) (free : ∀ b o, b ∉ ch → s.heap.get? b = some o → H b = none → H' b = none)
    (there : ∀ b o, b ∉ ch → s.heap.get? b = some o → ∃ o', h'.get? b = some o')
    (tups : ∀ b xs, H b = some (.tup xs) → H' b = some (.tup xs)) (frzs : ∀ b o u, H b = some (.frz o u) → H' b = some (.frz o u)) (tbls : ∀ b ps, H b = some (.tbl ps) → ∃ more, H' b = some (.tbl (ps ++ more)))
    (ns : ∀ m, s.heap.Ns X.env.locals m → h'.Ns X.env.locals m) (hok : HOk X.prog X.w H' h') (hg : AllBare g') :
    Inv X pins σ H' { s with heap := h', gens := g', drawn := d', toks := t' } := by
  have neL : ∀ b o, X.s₀.heap.get? b = some o → b ≠ X.env.locals := fun b o e => Nat.ne_of_lt (Nat.lt_of_lt_of_le (Heap.lt_size e) I.ok.above)
  have neC : ∀ b o, X.s₀.heap.get? b = some o → b ∉ X.ex → b ∉ ch := fun b o e hx hb => by
    rcases (hch b hb).1 with z | z
    · exact hx z
    · exact absurd (Nat.lt_of_lt_of_le (Heap.lt_size e) z) (Nat.lt_irrefl _)
  have cellK : ∀ x c, X.env.cells.lookup x = some c → ∀ v, s.heap.IsCell c v → h'.IsCell c v := fun x c e v ⟨o, ho, hd⟩ => by
    have nch : c ∉ ch := fun z => (hch c z).2.2.1 x c e rfl
    by_cases hc : c ∈ X.fs
    · obtain ⟨sl, q⟩ := slot c o (I.cne x c e) hc nch ho (I.freeC x c e)
      exact ⟨_, q, hd⟩
    · exact ⟨o, keep c o (I.cne x c e) hc nch ho (I.freeC x c e), hd⟩
  refine ⟨I.ok, I.os, hg, ⟨fun b o e n hb hx => ?_, fun b o e n hb hx => ?_, fun b o e n hx => ?_, fun b o e hx => ?_, fun b xs e => tups b xs (I.base.tups b xs e), fun b o xs e => frzs b o xs (I.base.frzs b o xs e), fun b ps e => ?_⟩, ?_, fun x c e => ?_, ?_, fun x c e => ?_, fun p hp => ?_, hok, I.len⟩
  · exact keep b o (neL b o e) hb (neC b o e hx) (I.base.keep b o e n hb hx) (I.base.free b o e n hx)
  · obtain ⟨sl, e1⟩ := I.base.slot b o e n hb hx
    obtain ⟨sl', e2⟩ := slot b _ (neL b o e) hb (neC b o e hx) e1 (I.base.free b o e n hx)
    exact ⟨sl', e2⟩
  · obtain ⟨o', e1⟩ := I.base.there b o e hx
    exact free b o' (neC b o e hx) e1 (I.base.free b o e n hx)
  · obtain ⟨o', e1⟩ := I.base.there b o e hx
    exact there b o' (neC b o e hx) e1
  · obtain ⟨m1, e1⟩ := I.base.tbls b ps e
    obtain ⟨m2, e2⟩ := tbls b _ e1
    exact ⟨m1 ++ m2, by rw [e2, Array.append_assoc]⟩
  · obtain ⟨m, hn, hl⟩ := I.loc
    refine ⟨m, ns m hn, fun i x v e1 e2 e3 => ?_⟩
    obtain ⟨u, r, l⟩ := hl i x v e1 e2 e3
    refine ⟨u, r, ?_⟩
    rcases l with l | ⟨k, c, e, z⟩
    · exact .inl l
    · exact .inr ⟨k, c, e, cellK x c e _ z⟩
  · obtain ⟨v, z⟩ := I.cell x c e
    exact ⟨v, cellK x c e v z⟩
  · obtain ⟨m, ⟨o, _, _, ho, _⟩, _⟩ := I.loc
    exact free _ o (fun z => (hch _ z).2.1 rfl) ho I.free
  · obtain ⟨v, o, ho, hd⟩ := I.cell x c e
    exact free c o (fun z => (hch c z).2.2.1 x c e rfl) ho (I.freeC x c e)
  · obtain ⟨e, n, ne, nf, d⟩ := I.pin p hp
    have nch : p.1 ∉ ch := fun z => (hch p.1 z).2.2.2 p hp rfl
    exact ⟨keep p.1 p.2 ne nf nch e n, free p.1 p.2 nch e n, ne, nf, d⟩
/-- .. where the frame's own object is kept too -/
theorem Inv.un {t' : Nat} (I : Inv X pins σ H s) (u : Un X.fs [] H H' s.heap h') (hok : HOk X.prog X.w H' h') : Inv X pins σ H' { s with heap := h', toks := t' } := by
  obtain ⟨m, ⟨o, es, ep, ho, r⟩, _⟩ := id I.loc
  obtain ⟨sl, hL⟩ := u.any ho I.free (by simp)
  exact I.step (g' := s.gens) (d' := s.drawn) (ch := []) (fun _ z => nomatch z) (fun b o _ hb _ e n => u.keep b o e n hb (by simp)) (fun b o _ hb _ e n => u.slot b o e n hb (by simp)) (fun b o _ e n => u.free b o e n (by simp)) (fun b o _ e => u.there b o e (by simp)) u.tups u.frzs u.tbls (fun m' hm => by
    obtain ⟨o', es', ep', ho', r'⟩ := hm
    rw [ho] at ho'; cases ho'
    exact ⟨_, es', ep', hL, r'⟩) hok I.bare
/-- behind a call (or a comprehension's block): the slots of this frame may have changed too, the records at ch may have turned -/
theorem Inv.call {g' : Array GenState} {t' : Nat} {d' : Drawn} {ch : List Addr} (I : Inv X pins σ H s) (u : Un (frs X.stack) ch H H' s.heap h') (hok : HOk X.prog X.w H' h') (hg : AllBare g')
    (hch : ∀ b ∈ ch, (b ∈ X.ex ∨ X.s₀.heap.objs.size ≤ b) ∧ b ≠ X.env.locals ∧ (∀ x c, X.env.cells.lookup x = some c → c ≠ b) ∧ ∀ p ∈ X.pn ++ pins, p.1 ≠ b) :
    Inv X pins σ H' { s with heap := h', gens := g', drawn := d', toks := t' } := by
  obtain ⟨m, ⟨o, es, ep, ho, r⟩, _⟩ := id I.loc
  obtain ⟨sl, hL⟩ := u.any ho I.free fun z => (hch _ z).2.1 rfl
  exact I.step (ch := ch) hch (fun b o hL hb hc e n => u.keep b o e n (fun z => (List.mem_cons.mp (I.stkSub b z)).elim hL hb) hc) (fun b o _ _ hc e n => u.any e n hc) (fun b o hc e n => u.free b o e n hc) (fun b o hc e => u.there b o e hc) u.tups u.frzs u.tbls (fun m' hm => by
    obtain ⟨o', es', ep', ho', r'⟩ := hm
    rw [ho] at ho'; cases ho'
    exact ⟨_, es', ep', hL, r'⟩) hok hg
/-- an untracked record of ours (an iterator) has turned -/
theorem Inv.turned {t' : Nat} {it : Addr} (I : Inv X pins σ H s) (k : ∀ b o, b ≠ it → s.heap.get? b = some o → h'.get? b = some o) (hn : H it = none) (hL : it ≠ X.env.locals)
    (h1 : it ∈ X.ex ∨ X.s₀.heap.objs.size ≤ it) (h2 : ∀ x c, X.env.cells.lookup x = some c → c ≠ it) (h3 : ∀ p ∈ X.pn ++ pins, p.1 ≠ it) : Inv X pins σ H { s with heap := h', toks := t' } := by
  have nit : ∀ b u, H b = some u → b ≠ it := fun b u e z => by rw [z, hn] at e; cases e
  refine I.step (g' := s.gens) (d' := s.drawn) (ch := [it]) (fun b hb => ?_) (fun b o _ _ hc e _ => k b o (fun z => hc (by simp [z])) e) (fun b o _ _ hc e _ => ⟨o.slots, k b o (fun z => hc (by simp [z])) e⟩) (fun _ _ _ _ n => n)
    (fun b o hc e => ⟨o, k b o (fun z => hc (by simp [z])) e⟩) (fun _ _ e => e) (fun _ _ _ e => e) (fun b ps e => ⟨#[], by rw [e]; simp⟩) (fun m hm => ?_) (fun b u e => ?_) I.bare
  · have e : b = it := by simpa using hb
    subst e
    exact ⟨h1, hL, h2, h3⟩
  · obtain ⟨o, es, ep, ho, r⟩ := hm
    exact ⟨o, es, ep, k _ o (Ne.symm hL) ho, r⟩
  · refine (I.hok b u e).stay (fun c v hc q => k c v ?_ q) (fun _ q => q) fun _ _ q => q
    rcases hc with z | z
    · rw [z]; exact nit b u e
    · exact nit c _ z
theorem Inv.tok (I : Inv X pins σ H s) (t : Nat) : Inv X pins σ H { s with toks := t } := I.un (h' := s.heap) (t' := t) Un.refl I.hok
/-- all objects kept -/
theorem Inv.kept {t' : Nat} (I : Inv X pins σ H s) (k : ∀ b u, s.heap.get? b = some u → h'.get? b = some u) : Inv X pins σ H { s with heap := h', toks := t' } := I.un (Un.kept k) (I.hok.kept k)
/-- a new object laid and tracked -/
theorem Inv.laid {a : Addr} {o : HO} {t' : Nat} (I : Inv X pins σ H s) (k : ∀ b u, s.heap.get? b = some u → h'.get? b = some u) (hp : s.heap.objs.size ≤ a) (new : ObjOk X.prog X.w (upd H a o) h' a o) :
    Inv X pins σ (upd H a o) { s with heap := h', toks := t' } := I.un (Un.laid k hp (I.hok.fresh hp)) (I.hok.laid k hp new)
/-- an object written -/
theorem Inv.write {x e : Addr} {o : HO} {t' : Nat} (I : Inv X pins σ H s) (mu : Mut (H x)) (he : e = x ∨ H e = some (.own x)) (k : ∀ b u, b ≠ e → s.heap.get? b = some u → h'.get? b = some u) (heo : ∃ u, h'.get? e = some u)
    (new : ObjOk X.prog X.w (upd H x o) h' x o) : Inv X pins σ (upd H x o) { s with heap := h', toks := t' } := I.un (Un.write mu he k heo) (I.hok.write mu he k heo new)
/-- forgetting slots, pins -/
theorem Inv.weak {σ' : List (Option V)} (I : Inv X pins σ H s) (hl : σ'.length = σ.length) (w : ∀ (i : Nat) v, σ'[i]? = some (some v) → σ[i]? = some (some v)) : Inv X pins σ' H s :=
  ⟨I.ok, I.os, I.bare, I.base, let ⟨m, hn, hl'⟩ := I.loc; ⟨m, hn, fun i x v e1 e2 e3 => hl' i x v e1 (w i v e2) e3⟩, I.cell, I.free, I.freeC, I.pin, I.hok, hl.trans I.len⟩
theorem Inv.pins_of {pins' : List (Addr × Obj)} (I : Inv X pins σ H s) (h : ∀ p ∈ pins', s.heap.get? p.1 = some p.2 ∧ H p.1 = none ∧ p.1 ≠ X.env.locals ∧ p.1 ∉ X.fs ∧ ∀ v, p.2.data ≠ .cell v) : Inv X pins' σ H s :=
  ⟨I.ok, I.os, I.bare, I.base, I.loc, I.cell, I.free, I.freeC, fun p hp => (List.mem_append.mp hp).elim (fun z => I.pin p (List.mem_append_left _ z)) (h p), I.hok, I.len⟩

theorem nodup_ix {N : List Str} (hN : N.Nodup) {i j : Nat} {x : Str} (a : N[i]? = some x) (b : N[j]? = some x) : i = j := by
  obtain ⟨h1, e1⟩ := List.getElem?_eq_some_iff.mp a
  obtain ⟨h2, e2⟩ := List.getElem?_eq_some_iff.mp b
  exact (List.getElem_inj hN).mp (e1.trans e2.symm)

/-- a name is stored; what changed -/
theorem store_ok2 {M : Model} {A : Around} {E : Value → Shared → Prop} {i : Nat} {x : Str} {v : V} {u : Value} {Q : Unit → Shared → Prop} (I : Inv X pins σ H s) (hN : X.N.Nodup) (hi : X.N[i]? = some x) (hx : Loc X.env.scope x) (r : RelV v u)
    (h : ∀ s', Inv X pins (σ.set i (some v)) H s' → (∃ a, Heap.SameBut a s.heap s'.heap ∧ (a = X.env.locals ∨ X.env.cells.lookup x = some a)) → Q () s') (hf : X.fn x = true ∨ X.env.scope.names.lookup x = some .local := by first | exact .inl rfl | exact .inr rfl | assumption) : wpAny M A (storeName X.env x u) Q E s := by
  obtain ⟨m, hn, hl⟩ := id I.loc
  have hcls : (X.env.scope.kind == .class || (X.env.scope.kind == .module && X.env.locals != X.env.globals)) = false := by rw [I.ok.kind]; rfl
  have hiσ : i < σ.length := by rw [I.len]; exact (List.getElem?_eq_some_iff.mp hi).1
  have cne := I.cne
  have tracked : ∀ {a : Addr} {h' : Heap}, (∃ o, s.heap.get? a = some o ∧ H a = none) → Heap.SameBut a s.heap h' → HOk X.prog X.w H h' := fun {a h'} ha hs b ob e => by
    obtain ⟨_, _, hfree⟩ := ha
    refine (I.hok b ob e).stay (fun c w' hc q => (hs.2 c ?_).trans q) (fun _ q => q) fun _ _ q => q
    rintro rfl
    rcases hc with rfl | hc
    · rw [hfree] at e; cases e
    · rw [hfree] at hc; cases hc
  rcases hx with hk | hk
  · refine wpAny_storeName_local hk hn (fun h' hn' hs => ?_) hcls
    obtain ⟨oL, _, _, hoL, _⟩ := id hn
    refine h _ ⟨I.ok, I.os, I.bare, ⟨fun b o e n hb hx => ?_, fun b o e n hb hx => ?_, I.base.free, fun b o e hx => ?_, I.base.tups, I.base.frzs, I.base.tbls⟩, ⟨_, hn', fun j y v' e1 e2 e3 => ?_⟩, fun y c e => ?_, I.free, I.freeC, fun p hp => ?_, tracked ⟨oL, hoL, I.free⟩ hs, by simpa using I.len⟩ ⟨_, hs, .inl rfl⟩
    · exact (hs.2 b (Nat.ne_of_lt (Nat.lt_of_lt_of_le (Heap.lt_size e) I.ok.above))).trans (I.base.keep b o e n hb hx)
    · obtain ⟨sl, e1⟩ := I.base.slot b o e n hb hx
      exact ⟨sl, (hs.2 b (Nat.ne_of_lt (Nat.lt_of_lt_of_le (Heap.lt_size e) I.ok.above))).trans e1⟩
    · obtain ⟨o', e1⟩ := I.base.there b o e hx
      exact ⟨o', (hs.2 b (Nat.ne_of_lt (Nat.lt_of_lt_of_le (Heap.lt_size e) I.ok.above))).trans e1⟩
    · by_cases hj : j = i
      · subst hj
        rw [hi] at e1; cases e1
        rw [List.getElem?_set_self hiσ] at e2
        cases e2
        exact ⟨u, r, .inl ⟨hk, by simp⟩⟩
      · rw [List.getElem?_set_ne (Ne.symm hj)] at e2
        obtain ⟨u', r', q⟩ := hl j y v' e1 e2 e3
        refine ⟨u', r', ?_⟩
        rcases q with ⟨k, e⟩ | ⟨k, c, e, z⟩
        · refine .inl ⟨k, ?_⟩
          have : y ≠ x := fun e => hj (nodup_ix hN e1 (e ▸ hi))
          simp [this, e]
        · exact .inr ⟨k, c, e, z.sameBut hs (cne y c e)⟩
    · obtain ⟨w', z⟩ := I.cell y c e
      exact ⟨w', z.sameBut hs (cne y c e)⟩
    · obtain ⟨e, n, ne, nf, d⟩ := I.pin p hp
      exact ⟨(hs.2 p.1 ne).trans e, n, ne, nf, d⟩
  · have hfn : X.fn x = true := by
      rcases hf with z | z
      · exact z
      · rw [z] at hk; cases hk
    obtain ⟨c, hc⟩ := I.ok.has x (.inl hk)
    obtain ⟨w', z⟩ := I.cell x c hc
    refine wpAny_storeName_cell I.ok.kind hk hc z (fun h' hc' hs => ?_)
    obtain ⟨oc, hoc, hocd⟩ := id z
    refine h { s with heap := h' } ⟨I.ok, I.os, I.bare, ⟨fun b o e n hb hx => ?_, fun b o e n hb hx => ?_, I.base.free, fun b o e hx => ?_, I.base.tups, I.base.frzs, I.base.tbls⟩, ⟨m, hn.sameBut hs (Ne.symm (cne x c hc)), fun j y v' e1 e2 e3 => ?_⟩, fun y c' e => ?_, I.free, I.freeC, fun p hp => ?_, tracked ⟨oc, hoc, I.freeC x c hc⟩ hs, by simpa using I.len⟩ ⟨c, hs, .inr hc⟩
    · exact (hs.2 b (Nat.ne_of_lt (Nat.lt_of_lt_of_le (Heap.lt_size e) (I.ok.cab x c hfn hc)))).trans (I.base.keep b o e n hb hx)
    · obtain ⟨sl, e1⟩ := I.base.slot b o e n hb hx
      exact ⟨sl, (hs.2 b (Nat.ne_of_lt (Nat.lt_of_lt_of_le (Heap.lt_size e) (I.ok.cab x c hfn hc)))).trans e1⟩
    · obtain ⟨o', e1⟩ := I.base.there b o e hx
      exact ⟨o', (hs.2 b (Nat.ne_of_lt (Nat.lt_of_lt_of_le (Heap.lt_size e) (I.ok.cab x c hfn hc)))).trans e1⟩
    · by_cases hj : j = i
      · subst hj
        rw [hi] at e1; cases e1
        rw [List.getElem?_set_self hiσ] at e2
        cases e2
        exact ⟨u, r, .inr ⟨.inl hk, c, hc, hc'⟩⟩
      · rw [List.getElem?_set_ne (Ne.symm hj)] at e2
        obtain ⟨u', r', q⟩ := hl j y v' e1 e2 e3
        refine ⟨u', r', ?_⟩
        rcases q with q | ⟨k, c', e, z'⟩
        · exact .inl q
        · refine .inr ⟨k, c', e, z'.sameBut hs ?_⟩
          rintro rfl
          exact hj (nodup_ix hN e1 (I.ok.inj _ _ _ e hc ▸ hi))
    · by_cases hcc : c' = c
      · subst hcc; exact ⟨_, hc'⟩
      · obtain ⟨w2, z2⟩ := I.cell y c' e
        exact ⟨w2, z2.sameBut hs hcc⟩
    · obtain ⟨e, n, ne, nf, d⟩ := I.pin p hp
      refine ⟨(hs.2 p.1 ?_).trans e, n, ne, nf, d⟩
      intro q
      rw [q, hoc] at e
      have q' : oc = p.2 := Option.some.inj e
      exact d w' (by rw [← q']; exact hocd)
theorem store_ok {M : Model} {A : Around} {E : Value → Shared → Prop} {i : Nat} {x : Str} {v : V} {u : Value} {Q : Unit → Shared → Prop} (I : Inv X pins σ H s) (hN : X.N.Nodup) (hi : X.N[i]? = some x) (hx : Loc X.env.scope x) (r : RelV v u)
    (h : ∀ s', Inv X pins (σ.set i (some v)) H s' → Q () s') (hf : X.fn x = true ∨ X.env.scope.names.lookup x = some .local := by first | exact .inl rfl | exact .inr rfl | assumption) : wpAny M A (storeName X.env x u) Q E s :=
  store_ok2 I hN hi hx r (fun s' I' _ => h s' I') hf
/-- behind a call or a block, the state as it is -/
theorem Inv.call' {s' : Shared} {ch : List Addr} (I : Inv X pins σ H s) (ho : s'.os = s.os) (u : Un (frs X.stack) ch H H' s.heap s'.heap) (hok : HOk X.prog X.w H' s'.heap) (hg : AllBare s'.gens)
    (hch : ∀ b ∈ ch, (b ∈ X.ex ∨ X.s₀.heap.objs.size ≤ b) ∧ b ≠ X.env.locals ∧ (∀ x c, X.env.cells.lookup x = some c → c ≠ b) ∧ ∀ p ∈ X.pn ++ pins, p.1 ≠ b) : Inv X pins σ H' s' := by
  obtain ⟨h', g', d', t', o'⟩ := s'
  have e : o' = s.os := ho
  subst e
  exact I.call (g' := g') (t' := t') (d' := d') u hok hg hch
end

/-! ### the judgements -/
/-- an exception: its class, its own dict's address (where it has one), the abstract heap behind it -/
abbrev XK := Value → Option Addr → Hp → Prop
abbrev St := List (Option V)
abbrev VK := V → Hp → Prop
/-- an expression's reading; a test's; an argument list's -/
abbrev TE := St → Hp → VK → Prop
abbrev TT := St → Hp → (Bool → Hp → Prop) → Prop
abbrev TA := St → Hp → (List V → Hp → Prop) → Prop
/-- what is wanted behind a statement -/
structure Ends where
  nx : St → Hp → Prop
  rt : VK
  bk : St → Hp → Prop := fun _ _ => False
  ct : St → Hp → Prop := fun _ _ => False
abbrev TS := Ends → St → Hp → Prop

def EP (X : Cx) (pins : List (Addr × Obj)) (σ : St) (Q : VK) (u : Value) (s' : Shared) : Prop := ∃ v H', Inv X pins σ H' s' ∧ RelV v u ∧ Q v H'
def TP (X : Cx) (pins : List (Addr × Obj)) (σ : St) (Q : Bool → Hp → Prop) (b : Bool) (s' : Shared) : Prop := ∃ H', Inv X pins σ H' s' ∧ Q b H'
def AP (X : Cx) (pins : List (Addr × Obj)) (σ : St) (Q : List V → Hp → Prop) (us : List Value) (s' : Shared) : Prop := ∃ vs H', Inv X pins σ H' s' ∧ Vals vs us ∧ Q vs H'
def SP (X : Cx) (pins : List (Addr × Obj)) (D : Ends) (f : Flow) (s' : Shared) : Prop :=
  match f with
  | .next => ∃ σ' H', Inv X pins σ' H' s' ∧ D.nx σ' H'
  | .brk => ∃ σ' H', Inv X pins σ' H' s' ∧ D.bk σ' H'
  | .cont => ∃ σ' H', Inv X pins σ' H' s' ∧ D.ct σ' H'
  | .ret u => ∃ v σ' H', Inv X pins σ' H' s' ∧ RelV v u ∧ D.rt v H'

def PE (X : Cx) (e : Expr) (t : TE) : Prop :=
  ∀ (pins : List (Addr × Obj)) (s : Shared) (σ : St) (H : Hp) (Q : VK), Inv X pins σ H s → t σ H Q → wpAny (model X.prog X.w) X.A (eval e X.env) (EP X pins σ Q) X.xe s
def PT (X : Cx) (e : Expr) (t : TT) : Prop :=
  ∀ (pins : List (Addr × Obj)) (s : Shared) (σ : St) (H : Hp) (Q : Bool → Hp → Prop), Inv X pins σ H s → t σ H Q → wpAny (model X.prog X.w) X.A (isTrue e X.env (eval e X.env)) (TP X pins σ Q) X.xe s
/-- a test whatever its 'whole' is (and, or) -/
def PW (X : Cx) (e : Expr) (t : TT) : Prop :=
  ∀ (whole : Sem Value) (pins : List (Addr × Obj)) (s : Shared) (σ : St) (H : Hp) (Q : Bool → Hp → Prop), Inv X pins σ H s → t σ H Q → wpAny (model X.prog X.w) X.A (isTrue e X.env whole) (TP X pins σ Q) X.xe s
theorem PW.pt {X : Cx} {e : Expr} {t : TT} (h : PW X e t) : PT X e t := h _
/-- an argument list (no star), from the left -/
def PA (X : Cx) (es : List Expr) (t : TA) : Prop :=
  ∀ (pos : Pos) (pins : List (Addr × Obj)) (s : Shared) (σ : St) (H : Hp) (Q : List V → Hp → Prop), Inv X pins σ H s → t σ H Q → wpAny (model X.prog X.w) X.A (spliced (backTo pos (starEach es X.env))) (AP X pins σ Q) X.xe s
def PS (X : Cx) (st : Stmt) (t : TS) : Prop :=
  ∀ (pins : List (Addr × Obj)) (s : Shared) (σ : St) (H : Hp) (D : Ends), Inv X pins σ H s → t D σ H → wpAny (model X.prog X.w) X.A (exec st X.env) (SP X pins D) X.xe s
def PSs (X : Cx) (st : List Stmt) (t : TS) : Prop :=
  ∀ (pins : List (Addr × Obj)) (s : Shared) (σ : St) (H : Hp) (D : Ends), Inv X pins σ H s → t D σ H → wpAny (model X.prog X.w) X.A (execs st X.env) (SP X pins D) X.xe s
/-- weaken the end -/
theorem thn {α : Type} {t : Sem α} {Q Q' : α → Shared → Prop} {M : Model} {A : Around} {E : Value → Shared → Prop} {s : Shared} (h : wpAny M A t Q E s) (hQ : ∀ a s, Q a s → Q' a s) : wpAny M A t Q' E s := wpAny_mono h hQ fun _ _ x => x
end L2

namespace L2
open PySem PySem.Spec PyProof.Rows
section
variable {X : Cx}


/-! ### names and constants -/
def tVar (i : Nat) : TE := fun σ H Q => ∃ v, σ[i]? = some (some v) ∧ Q v H
def tC (v : V) : TE := fun _ H Q => Q v H
theorem pe_var {i : Nat} {x : Str} {pos : Pos} (hN : X.N[i]? = some x) (hv : Vis X.env.scope x) (hd : (x == ("__debug__" : Str)) = false := by decide) (hcd : (x == ("__classdict__" : Str)) = false := by decide) : PE X (.Name x pos) (tVar i) := by
  intro pins s σ H Q I h
  obtain ⟨v, e, h⟩ := h
  obtain ⟨m, hn, hl⟩ := I.loc
  obtain ⟨u, r, l⟩ := hl i x v hN e hv
  have fin : EP X pins σ Q u s := ⟨v, H, I, r, h⟩
  rcases l with ⟨hk, hm⟩ | ⟨hk, c, hc, hcell⟩
  · exact wpAny_Name (wpAny_loadName_local I.ok.kind hk hn hm fin) hd
  · rcases hk with hk | hk
    · exact wpAny_Name (wpAny_loadName_cell I.ok.kind hk hc hcell fin) hd
    · exact wpAny_Name (wpAny_loadName_free I.ok.kind hk hc hcell fin hcd) hd
theorem pe_int {i j pos} : PE X (.Constant (.int i) j pos) (tC (.int i)) := fun _ _ _ H _ I h => wpAny_Constant_int ⟨.int i, H, I.tok _, ⟨_, rfl⟩, h⟩
theorem pe_bl {b j pos} : PE X (.Constant (.bool b) j pos) (tC (.bl b)) := fun _ _ _ H _ I h => Constant_bool ⟨.bl b, H, I, rfl, h⟩
theorem pe_str {x j pos} : PE X (.Constant (.str x) j pos) (tC (.str x)) := fun _ _ _ H _ I h => Calls.Constant_str ⟨.str x, H, I.tok _, ⟨_, rfl⟩, h⟩

/-- a global name of the def -/
def Gl (X : Cx) (x : Str) : Prop := X.env.kindOf x = some .globalImplicit
theorem ld_glob {E : Value → Shared → Prop} {pins : List (Addr × Obj)} {s : Shared} {σ : St} {H : Hp} {x : Str} {u : Value} {pos : Pos} {Q : Value → Shared → Prop} (I : Inv X pins σ H s) (hg : Gl X x) (hm : X.mg x = some u) (h : Q u s)
    (hd : (x == ("__debug__" : Str)) = false := by decide) : wpAny (model X.prog X.w) X.A (eval (.Name x pos) X.env) Q E s :=
  Calls.Name_function_global I.ok.kind hg (Calls.loadGlobal_global (by rw [I.ok.glob]; exact I.mod.glob.keeps I.bk) hm h) hd
theorem ld_blt {E : Value → Shared → Prop} {pins : List (Addr × Obj)} {s : Shared} {σ : St} {H : Hp} {x : Str} {u : Value} {pos : Pos} {Q : Value → Shared → Prop} (I : Inv X pins σ H s) (hg : Gl X x) (hm : X.mg x = none) (hv : bootBuiltins x = some u) (h : Q u s)
    (hn : x ≠ "__name__" := by decide) (hd : (x == ("__debug__" : Str)) = false := by decide) : wpAny (model X.prog X.w) X.A (eval (.Name x pos) X.env) Q E s := by
  obtain ⟨mb, h1, h2⟩ := I.mod.blt
  exact Calls.Name_function_global I.ok.kind hg (Calls.loadGlobal_builtin (by rw [I.ok.glob]; exact I.mod.glob.keeps I.bk) hm (by rw [I.ok.blt]; exact h1.keeps I.bk) ((h2 x hn).trans hv) h) hd
theorem pe_bltn {x : Str} {v : V} {u : Value} {pos : Pos} (hg : Gl X x) (hm : X.mg x = none) (hv : bootBuiltins x = some u) (r : RelV v u) (hn : x ≠ "__name__" := by decide) (hd : (x == ("__debug__" : Str)) = false := by decide) : PE X (.Name x pos) (tC v) :=
  fun _ _ _ H _ I h => ld_blt I hg hm hv ⟨v, H, I, r, h⟩ hn hd

/-! ### arithmetic -/
/-- two ints -/
def t2I (ta tb : TE) (k : Int → Int → Hp → Prop) : St → Hp → Prop := fun σ H => ta σ H fun x H1 => tb σ H1 fun y H2 => ∃ i j, x = .int i ∧ y = .int j ∧ k i j H2
def tAdd (ta tb : TE) : TE := fun σ H Q => t2I ta tb (fun i j H2 => Q (.int (i + j)) H2) σ H
def tSub (ta tb : TE) : TE := fun σ H Q => t2I ta tb (fun i j H2 => Q (.int (i - j)) H2) σ H
/-- the left factor below 2^64 -/
def tMul (ta tb : TE) : TE := fun σ H Q => t2I ta tb (fun i j H2 => (-(2 ^ 64) < i ∧ i < 2 ^ 64) ∧ Q (.int (i * j)) H2) σ H
variable {a b : Expr} {ta tb : TE} {pos : Pos}

/-! ### comparisons -/
def PC (X : Cx) (op : CmpOp) (a b : Expr) (t : TE) : Prop :=
  ∀ (pins : List (Addr × Obj)) (s : Shared) (σ : St) (H : Hp) (Q : VK), Inv X pins σ H s → t σ H Q →
    wpAny (model X.prog X.w) X.A (eval a X.env) (fun v s₁ => wpAny (model X.prog X.w) X.A (eval b X.env) (fun u s₂ => wpAny (model X.prog X.w) X.A (compareOp op v u) (EP X pins σ Q) X.xe s₂) X.xe s₁) X.xe s
def tCmp (p : Int → Int → Bool) (ta tb : TE) : TE := fun σ H Q => t2I ta tb (fun i j H2 => Q (.bl (p i j)) H2) σ H
abbrev tLt : TE → TE → TE := tCmp fun i j => decide (i < j)
abbrev tLe : TE → TE → TE := tCmp fun i j => decide (i ≤ j)
abbrev tGt : TE → TE → TE := tCmp fun i j => decide (j < i)
abbrev tGe : TE → TE → TE := tCmp fun i j => decide (j ≤ i)
abbrev tEqI : TE → TE → TE := tCmp fun i j => decide (i = j)
abbrev tNeI : TE → TE → TE := tCmp fun i j => !decide (i = j)
/-- is None -/
def tIsN (ta : TE) : TE := fun σ H Q => ta σ H fun x H1 => Q (.bl (decide (x = .non))) H1
def tNotN (ta : TE) : TE := fun σ H Q => ta σ H fun x H1 => Q (.bl (!decide (x = .non))) H1
/-- a comparison as a value, as a test -/
def tB (t : TE) : TT := fun σ H Q => t σ H fun x H1 => ∃ c, x = .bl c ∧ Q c H1
/-- an expression whose value is a bool, as a test -/
theorem pt_val {e : Expr} {t : TE} (h : PE X e t) (he : ∀ whole, isTrue e X.env whole = (do let v ← whole; standAt e.pos; holding [v] (truthy v)) := by intro _; rfl) : PT X e (tB t) := by
  intro pins s σ H Q I hw
  refine isTrue_plain (thn (h pins s σ H _ I hw) fun v s1 ⟨x, H1, I1, r1, q1⟩ => ?_) (he _)
  obtain ⟨d, rfl, q⟩ := q1
  cases r1
  exact wpAny_truthy_bool ⟨H1, I1, q⟩

/-! ### and, or, not -/
variable {tA tB' : TT} {rest : List Expr}
def tAnd (t u : TT) : TT := fun σ H Q => t σ H fun c H1 => if c = true then u σ H1 Q else Q false H1
def tOr (t u : TT) : TT := fun σ H Q => t σ H fun c H1 => if c = true then Q true H1 else u σ H1 Q
def tNot (t : TT) : TT := fun σ H Q => t σ H fun c H1 => Q (!c) H1
theorem pw_and1 (ha : PT X a tA) : PW X (.BoolOp .And [a] pos) tA := by
  intro wh pins s σ H Q I h
  refine isTrue_and (thn (ha pins s σ H Q I h) fun c s1 e => ?_)
  cases c with
  | true => exact isTrue_and_nil e
  | false => exact e
theorem pw_or1 (ha : PT X a tA) : PW X (.BoolOp .Or [a] pos) tA := by
  intro wh pins s σ H Q I h
  refine isTrue_or (thn (ha pins s σ H Q I h) fun c s1 e => ?_)
  cases c with
  | false => exact isTrue_or_nil e
  | true => exact e
theorem pw_and (ha : PT X a tA) (hb : PW X (.BoolOp .And (b :: rest) pos) tB') : PW X (.BoolOp .And (a :: b :: rest) pos) (tAnd tA tB') := by
  intro wh pins s σ H Q I h
  refine isTrue_and (thn (ha pins s σ H _ I h) fun c s1 ⟨H1, I1, q1⟩ => ?_)
  cases c with
  | true => exact hb wh pins s1 σ H1 Q I1 q1
  | false => exact ⟨H1, I1, q1⟩
theorem pw_or (ha : PT X a tA) (hb : PW X (.BoolOp .Or (b :: rest) pos) tB') : PW X (.BoolOp .Or (a :: b :: rest) pos) (tOr tA tB') := by
  intro wh pins s σ H Q I h
  refine isTrue_or (thn (ha pins s σ H _ I h) fun c s1 ⟨H1, I1, q1⟩ => ?_)
  cases c with
  | true => exact ⟨H1, I1, q1⟩
  | false => exact hb wh pins s1 σ H1 Q I1 q1
theorem pt_not (ha : PT X a tA) : PT X (.UnaryOp .Not a pos) (tNot tA) := by
  intro pins s σ H Q I h
  exact isTrue_not (ha pins s σ H (fun c H1 => Q (!c) H1) I h)
/-- .. as values (bools) -/
def tAndV (ta tb : TE) : TE := fun σ H Q => ta σ H fun x H1 => ∃ c, x = .bl c ∧ if c = true then tb σ H1 Q else Q (.bl false) H1
def tOrV (ta tb : TE) : TE := fun σ H Q => ta σ H fun x H1 => ∃ c, x = .bl c ∧ if c = true then Q (.bl true) H1 else tb σ H1 Q
def tNotV (ta : TE) : TE := fun σ H Q => ta σ H fun x H1 => ∃ c, x = .bl c ∧ Q (.bl (!c)) H1
theorem pe_one {op} {t : TE} (h : PE X a t) : PE X (.BoolOp op [a] pos) t := fun pins s σ H Q I hw => BoolOp_one (h pins s σ H Q I hw)
theorem pe_and (ha : PE X a ta) (hb : PE X (.BoolOp .And (b :: rest) pos) tb) : PE X (.BoolOp .And (a :: b :: rest) pos) (tAndV ta tb) := by
  intro pins s σ H Q I h
  refine BoolOp_and (thn (ha pins s σ H _ I h) fun v s1 ⟨x, H1, I1, r1, q1⟩ => ?_)
  obtain ⟨c, rfl, q1⟩ := q1
  cases r1
  refine wpAny_truthy_bool ?_
  cases c with
  | true => exact hb pins s1 σ H1 Q I1 q1
  | false => exact ⟨.bl false, H1, I1, rfl, q1⟩
/-- a if t else b -/
def tIf (t : TT) (ta tb : TE) : TE := fun σ H Q => t σ H fun c H1 => if c = true then ta σ H1 Q else tb σ H1 Q
end
end L2

namespace L2
open PySem PySem.Spec PyProof.Rows

/-! ### a list, a tuple that is read: tracked, frozen, or an object of the module -/
def SqL (K : PySem.W.Frag) (H : Hp) (a : Addr) (xs : List V) : Prop :=
  Rd H a (.lst xs) ∨
    ∃ (o : Obj) (its : Array Value) (n : Nat), K.lookup a = some o ∧ o.cls = .type "list" ∧ o.dict = none ∧ o.data = .seq its n ∧ its.size ≤ sizeLine ∧ Vals xs its.toList
def SqT (K : PySem.W.Frag) (H : Hp) (a : Addr) (xs : List V) : Prop :=
  Rd H a (.tup xs) ∨
    ∃ (o : Obj) (its : Array Value) (n : Nat), K.lookup a = some o ∧ o.cls = .type "tuple" ∧ o.data = .seq its n ∧ its.size ≤ sizeLine ∧ Vals xs its.toList
def absV : Value → Option V
  | .none => some .non
  | .bool b => some (.bl b)
  | .int i _ => some (.int i)
  | .str x _ => some (.str x)
  | .bytes b _ => some (.byt b)
  | .float b _ => some (.flt b)
  | .ref a => some (.ref a)
  | .type n => some (.ty n)
  | _ => none
theorem RelV.abs {x : V} {u : Value} (r : RelV x u) : absV u = some x := by
  cases x with
  | non => cases r; rfl
  | bl _ => cases r; rfl
  | int _ => obtain ⟨t, rfl⟩ := r; rfl
  | str _ => obtain ⟨t, rfl⟩ := r; rfl
  | byt _ => obtain ⟨t, rfl⟩ := r; rfl
  | flt _ => obtain ⟨t, rfl⟩ := r; rfl
  | ref _ => cases r; rfl
  | ty _ => cases r; rfl
theorem RelV.inj {x y : V} {u : Value} (r : RelV x u) (q : RelV y u) : x = y := Option.some.inj (r.abs.symm.trans q.abs)
theorem Vals.inj : ∀ {xs ys : List V} {us : List Value}, Vals xs us → Vals ys us → xs = ys
  | _, _, _, .nil, .nil => rfl
  | _, _, _, .cons r t, .cons r' t' => by rw [r.inj r', Vals.inj t t']
section
variable {X : Cx} {pins : List (Addr × Obj)} {σ : St} {H : Hp} {s : Shared} {a : Addr} {xs ys : List V}
theorem SqL.of {K : PySem.W.Frag} (h : H a = some (.lst xs)) : SqL K H a xs := .inl (.inl h)
theorem SqT.of {K : PySem.W.Frag} (h : H a = some (.tup xs)) : SqT K H a xs := .inl (.inl h)
theorem Inv.list (I : Inv X pins σ H s) (h : SqL X.K H a xs) : ∃ its : List Value, Vals xs its ∧ PlainL s.heap a its.toArray ∧ xs.length ≤ sizeLine := by
  rcases h with h | ⟨o, its, n, hk, hc, hd, hs, hz, r⟩
  · obtain ⟨z, its, n, r, e⟩ := h.ok I.hok
    exact ⟨its, r, ⟨_, n, e, rfl, rfl, rfl⟩, z⟩
  · refine ⟨its.toList, r, ⟨o, n, I.kIn a o hk, hc, hd, by simpa using hs⟩, ?_⟩
    have e := r.length
    simp only [Array.length_toList] at e
    omega
theorem Inv.tuple (I : Inv X pins σ H s) (h : SqT X.K H a xs) : ∃ its : List Value, Vals xs its ∧ IsTup s.heap a its.toArray ∧ xs.length ≤ sizeLine := by
  rcases h with h | ⟨o, its, n, hk, hc, hs, hz, r⟩
  · obtain ⟨z, its, r, p⟩ := h.ok I.hok
    exact ⟨its, r, p, z⟩
  · refine ⟨its.toList, r, ⟨o, I.kIn a o hk, hc, n, by simpa using hs⟩, ?_⟩
    have e := r.length
    simp only [Array.length_toList] at e
    omega
theorem Inv.list_inj (I : Inv X pins σ H s) (h : SqL X.K H a xs) (h' : SqL X.K H a ys) : xs = ys := by
  obtain ⟨its, r, ⟨o, n, e, _, _, d⟩, _⟩ := I.list h
  obtain ⟨its', r', ⟨o', n', e', _, _, d'⟩, _⟩ := I.list h'
  rw [e] at e'; cases e'
  rw [d] at d'
  injection d' with d1 _
  have : its = its' := by simpa using congrArg Array.toList d1
  subst this
  exact r.inj r'
end

/-! ### another wish about exceptions -/
abbrev Cx.wish (X : Cx) (E : Value → Shared → Prop) : Cx := { X with xe := E }
/-- no exception leaves -/
abbrev Cx.nox (X : Cx) : Cx := X.wish fun _ _ => False
theorem Cx.Ok.wish {X : Cx} (ok : X.Ok) (E : Value → Shared → Prop) : (X.wish E).Ok :=
  ⟨ok.mod, ok.kind, ok.glob, ok.blt, ok.above, ok.inj, ok.has, ok.cab, ok.hd, ok.frames, ok.stk, ok.exf, ok.bs, ok.bsz, ok.noex, ok.exfs, ok.funs, ok.frf⟩
theorem Cx.Ok.unwish {X : Cx} {E : Value → Shared → Prop} (ok : (X.wish E).Ok) : X.Ok :=
  ⟨ok.mod, ok.kind, ok.glob, ok.blt, ok.above, ok.inj, ok.has, ok.cab, ok.hd, ok.frames, ok.stk, ok.exf, ok.bs, ok.bsz, ok.noex, ok.exfs, ok.funs, ok.frf⟩
section
variable {X : Cx} {pins : List (Addr × Obj)} {σ : St} {H : Hp} {s : Shared} {E : Value → Shared → Prop}
theorem Inv.wish (I : Inv X pins σ H s) (E : Value → Shared → Prop) : Inv (X.wish E) pins σ H s := ⟨I.ok.wish E, I.os, I.bare, I.base, I.loc, I.cell, I.free, I.freeC, I.pin, I.hok, I.len⟩
theorem Inv.unwish (I : Inv (X.wish E) pins σ H s) : Inv X pins σ H s := ⟨I.ok.unwish, I.os, I.bare, I.base, I.loc, I.cell, I.free, I.freeC, I.pin, I.hok, I.len⟩
theorem SP.unwish {D : Ends} {f : Flow} {s' : Shared} (h : SP (X.wish E) pins D f s') : SP X pins D f s' := by
  cases f with
  | next => obtain ⟨σ', H', I, q⟩ := h; exact ⟨σ', H', I.unwish, q⟩
  | brk => obtain ⟨σ', H', I, q⟩ := h; exact ⟨σ', H', I.unwish, q⟩
  | cont => obtain ⟨σ', H', I, q⟩ := h; exact ⟨σ', H', I.unwish, q⟩
  | ret u => obtain ⟨v, σ', H', I, r, q⟩ := h; exact ⟨v, σ', H', I.unwish, r, q⟩
theorem PSs.nox {st : List Stmt} {t : TS} (h : PSs X.nox st t) : PSs X st t := fun pins s σ H D I hw =>
  wpAny_mono (h pins s σ H D (I.wish _) hw) (fun _ _ q => q.unwish) fun _ _ z => False.elim z
end

/-! ### blocks and small statements -/
section
variable {X : Cx} {st : Stmt} {rest : List Stmt} {t u : TS} {e : Expr} {te : TE} {pos : Pos}
def tNext : TS := fun D σ H => D.nx σ H
def tSeq (t u : TS) : TS := fun D σ H => t { D with nx := u D } σ H
theorem pss_nil : PSs X [] tNext := fun _ _ σ H _ I h => wpAny_execs_nil ⟨σ, H, I, h⟩
theorem pss_cons (h1 : PS X st t) (h2 : PSs X rest u) : PSs X (st :: rest) (tSeq t u) := by
  intro pins s σ H D I h
  refine wpAny_execs_cons (thn (h1 pins s σ H { D with nx := u D } I h) fun f s1 q => ?_)
  cases f with
  | next =>
    obtain ⟨σ', H', I', q⟩ := q
    exact h2 pins s1 σ' H' D I' q
  | ret v => exact q
  | brk => exact q
  | cont => exact q
theorem pss_one (h1 : PS X st t) : PSs X [st] t := by
  intro pins s σ H D I h
  refine wpAny_execs_cons (thn (h1 pins s σ H D I h) fun f s1 q => ?_)
  cases f with
  | next => exact wpAny_execs_nil q
  | ret v => exact q
  | brk => exact q
  | cont => exact q
def tBreak : TS := fun D σ H => D.bk σ H
def tCont : TS := fun D σ H => D.ct σ H
/-- in a def's body nothing is shown -/
theorem Inv.quiet {pins : List (Addr × Obj)} {σ : St} {H : Hp} {s : Shared} (I : Inv X pins σ H s) : interactive X.env = false := by simp [interactive, I.ok.kind]
/-- an expression whose value is dropped -/
def tDrop (te : TE) : TS := fun D σ H => te σ H fun _ H1 => D.nx σ H1
theorem ps_expr (he : PE X e te) (hs : swapsWith e none pos.line X.env = pure false := by rfl) : PS X (.Expr e pos) (tDrop te) := by
  intro pins s σ H D I h
  exact wpAny_Expr_any (thn (he pins s σ H _ I h) fun v s1 ⟨x, H1, I1, r1, q1⟩ => ⟨σ, H1, I1, q1⟩) I.quiet hs
def tRet (te : TE) : TS := fun D σ H => te σ H D.rt
theorem ps_ret (he : PE X e te) : PS X (.Return (some e) pos) (tRet te) := by
  intro pins s σ H D I h
  exact wpAny_Return_some (thn (he pins s σ H _ I h) fun v s1 ⟨x, H1, I1, r1, q1⟩ => ⟨x, σ, H1, I1, r1, q1⟩)
def tRetN : TS := fun D _ H => D.rt .non H
def tIfS (c : TT) (t u : TS) : TS := fun D σ H => c σ H fun b H1 => if b = true then t D σ H1 else u D σ H1
theorem ps_if {c : Expr} {a b : List Stmt} {tc : TT} (hc : PT X c tc) (ha : PSs X a t) (hb : PSs X b u) : PS X (.If c a b pos) (tIfS tc t u) := by
  intro pins s σ H D I h
  refine wpAny_If (thn (hc pins s σ H _ I h) fun d s1 ⟨H1, I1, q1⟩ => ?_)
  cases d with
  | true => exact ha pins s1 σ H1 D I1 q1
  | false => exact hb pins s1 σ H1 D I1 q1
/-- code that the proof never comes to -/
def tNever : TS := fun _ _ _ => False
end

/-! ### targets -/
abbrev TG := V → St → Hp → (St → Hp → Prop) → Prop
abbrev TGs := List V → St → Hp → (St → Hp → Prop) → Prop
def PG (X : Cx) (target : Expr) (t : TG) : Prop :=
  ∀ (pins : List (Addr × Obj)) (s : Shared) (σ : St) (H : Hp) (v : V) (u : Value) (Q : St → Hp → Prop), Inv X pins σ H s → RelV v u → t v σ H Q →
    wpAny (model X.prog X.w) X.A (assign target X.env u) (fun _ s' => ∃ σ' H', Inv X pins σ' H' s' ∧ Q σ' H') X.xe s
/-- several targets, one after another -/
def PGs (X : Cx) (ts : List Expr) (t : TGs) : Prop :=
  ∀ (pins : List (Addr × Obj)) (s : Shared) (σ : St) (H : Hp) (vs : List V) (us : List Value) (Q : St → Hp → Prop), Inv X pins σ H s → Vals vs us → t vs σ H Q →
    wpAny (model X.prog X.w) X.A (assignInOrder ((assignEach ts X.env).map (·.2)) us) (fun _ s' => ∃ σ' H', Inv X pins σ' H' s' ∧ Q σ' H') X.xe s
/-- o[i] = v, by values -/
abbrev TSet := V → V → V → Hp → (Hp → Prop) → Prop
def PSet (X : Cx) (t : TSet) : Prop :=
  ∀ (pins : List (Addr × Obj)) (s : Shared) (σ : St) (H : Hp) (o i v : V) (ov iv u : Value) (Q : Hp → Prop), Inv X pins σ H s → RelV o ov → RelV i iv → RelV v u → t o i v H Q →
    wpAny (model X.prog X.w) X.A (setItem ov iv u) (fun _ s' => ∃ H', Inv X pins σ H' s' ∧ Q H') X.xe s
/-- a op= b, by values -/
abbrev TIp := V → V → Hp → VK → Prop
def PIp (X : Cx) (op : Operator) (t : TIp) : Prop :=
  ∀ (pins : List (Addr × Obj)) (s : Shared) (σ : St) (H : Hp) (x y : V) (v u : Value) (Q : VK), Inv X pins σ H s → RelV x v → RelV y u → t x y H Q →
    wpAny (model X.prog X.w) X.A (inplaceOp op v u) (EP X pins σ Q) X.xe s
section
variable {X : Cx} {pos : Pos}
def gName (i : Nat) : TG := fun v σ H Q => Q (σ.set i (some v)) H
theorem pg_name {i : Nat} {x : Str} (hN : X.N.Nodup) (hi : X.N[i]? = some x) (hx : Loc X.env.scope x) (hf : X.fn x = true ∨ X.env.scope.names.lookup x = some .local := by first | exact .inl rfl | exact .inr rfl | assumption) : PG X (.Name x pos) (gName i) := by
  intro pins s σ H v u Q I r h
  exact wpAny_assign_Name (store_ok I hN hi hx r (fun s' I' => ⟨_, H, I', h⟩) hf)
def gNil : TGs := fun vs σ H Q => vs = [] ∧ Q σ H
def gCons (t : TG) (u : TGs) : TGs := fun vs σ H Q => ∃ v r, vs = v :: r ∧ t v σ H fun σ' H' => u r σ' H' Q
theorem pgs_nil : PGs X [] gNil := by
  intro pins s σ H vs us Q I r h
  obtain ⟨e, h⟩ := h
  subst e
  cases r
  exact assignInOrder_nil ⟨σ, H, I, h⟩
theorem pgs_cons {e : Expr} {es : List Expr} {t : TG} {u : TGs} (h1 : PG X e t) (h2 : PGs X es u)
    (hs : (assignEach (e :: es) X.env).map (·.2) = assign e X.env :: (assignEach es X.env).map (·.2) := by rfl) : PGs X (e :: es) (gCons t u) := by
  intro pins s σ H vs us Q I r h
  obtain ⟨v, vr, e1, h⟩ := h
  subst e1
  cases r with
  | cons r rr =>
    rw [hs]
    refine assignInOrder_cons (thn (h1 pins s σ H _ _ _ I r h) fun _ s1 ⟨σ1, H1, I1, q1⟩ => ?_)
    exact h2 pins s1 σ1 H1 _ _ Q I1 rr q1
/-- (a, b, ..) = a tuple of that length -/
def gTup (K : PySem.W.Frag) (n : Nat) (t : TGs) : TG := fun v σ H Q => ∃ a xs, v = .ref a ∧ SqT K H a xs ∧ xs.length = n ∧ t xs σ H Q
theorem pg_tup {es : List Expr} {k : Nat} {t : TGs} {n : Nat} (hc : X.calm = true) (h : PGs X es t)
    (hn : (assignEach es X.env).length = n := by rfl) (hst : (assignEach es X.env).findIdx? (·.1) = none := by rfl) : PG X (.Tuple es k pos) (gTup X.K n t) := by
  intro pins s σ H v u Q I r hw
  obtain ⟨a, xs, e1, hq, hl, hw⟩ := hw
  subst e1
  cases r
  obtain ⟨its, rv, ht, hz⟩ := I.tuple hq
  refine assign_Tuple_tuple (I.ok.hd hc) ht (by simp [hn, ← hl, rv.length]) hst fun h' hx => ?_
  have I1 : Inv X pins σ H { s with heap := h' } := I.kept (t' := s.toks) fun b o e => hx b o (Nat.ne_of_lt (Heap.lt_size e)) e
  exact h pins _ σ H xs _ Q I1 (by simpa using rv) hw
/-- o[i] = .. -/
def gSub (to ti : TE) (t : TSet) : TG := fun v σ H Q => to σ H fun o H1 => ti σ H1 fun i H2 => t o i v H2 fun H3 => Q σ H3
theorem pg_sub {o i : Expr} {to ti : TE} {t : TSet} (ho : PE X o to) (hi : PE X i ti) (hs : PSet X t)
    (ha : ∀ v, assign (.Subscript o i pos) X.env v = (do
      let ov ← holding [v] (eval o X.env)
      let iv ← holding [v, ov] (eval i X.env)
      standAt pos
      holding [v, ov, iv] (setItem ov iv v)
      release [v, ov, iv] []) := by intro _; rfl) : PG X (.Subscript o i pos) (gSub to ti t) := by
  intro pins s σ H v u Q I r h
  rw [ha]
  refine wpAny_bind (wpAny_holding (thn (ho pins s σ H _ I h) fun ov s1 ⟨x, H1, I1, r1, q1⟩ => ?_))
  refine wpAny_bind (wpAny_holding (thn (hi pins s1 σ H1 _ I1 q1) fun iv s2 ⟨y, H2, I2, r2, q2⟩ => ?_))
  refine wpAny_bind (wpAny_standAt (wpAny_bind (wpAny_holding (thn (hs pins s2 σ H2 x y v ov iv u _ I2 r1 r2 r q2) fun _ s3 ⟨H3, I3, q3⟩ => ?_))))
  exact wpAny_release ⟨σ, H3, I3, q3⟩
/-- target = value -/
def tAsg (te : TE) (g : TG) : TS := fun D σ H => te σ H fun x H1 => g x σ H1 D.nx
theorem ps_asg {tg e : Expr} {te : TE} {g : TG} (he : PE X e te) (hg : PG X tg g) (hs : swapsWithSole [tg] e pos.line X.env = pure false := by rfl) (hw : swappedStores [tg] e X.env = pure none := by rfl)
    (h1 : (assignEach [tg] X.env).map (·.2) = [assign tg X.env] := by rfl) : PS X (.Assign [tg] e pos) (tAsg te g) := by
  intro pins s σ H D I h
  refine wpAny_Assign_stores (thn (he pins s σ H _ I h) fun v s1 ⟨x, H1, I1, r1, q1⟩ => ?_) hs hw
  rw [h1]
  exact thn (hg pins s1 σ H1 x v _ I1 r1 q1) fun _ s2 q => q
/-- name = value -/
theorem ps_set {i : Nat} {x : Str} {e : Expr} {te : TE} {pos' : Pos} (hN : X.N.Nodup) (hi : X.N[i]? = some x) (hx : Loc X.env.scope x) (he : PE X e te) (hs : swapsWith e (some (.Name x pos')) pos.line X.env = pure false := by rfl) (hf : X.fn x = true ∨ X.env.scope.names.lookup x = some .local := by first | exact .inl rfl | exact .inr rfl | assumption) :
    PS X (.Assign [.Name x pos'] e pos) (tAsg te (gName i)) := by
  intro pins s σ H D I h
  refine wpAny_Assign_Name (thn (he pins s σ H _ I h) fun v s1 ⟨y, H1, I1, r1, q1⟩ => ?_) hs
  exact store_ok I1 hN hi hx r1 (fun s2 I2 => ⟨_, H1, I2, q1⟩) hf
/-- a, b = x, y with plain local names: stored from the right; the pair itself is not tracked (the opening rows as in PyProof/Rows/TupAssign.lean:23) -/
def tPar (i j : Nat) (ta : TA) : TS := fun D σ H => ta σ H fun vs H1 => ∃ v w, vs = [v, w] ∧ D.nx ((σ.set i (some v)).set j (some w)) H1
/-- name op= e -/
def tAug (i : Nat) (te : TE) (ti : TIp) : TS := fun D σ H => ∃ x, σ[i]? = some (some x) ∧ te σ H fun y H1 => ti x y H1 fun z H2 => D.nx (σ.set i (some z)) H2
/-- o[i] op= e -/
def tAugS (to ti te : TE) (tget : V → V → Hp → VK → Prop) (tip : TIp) (tset : TSet) : TS := fun D σ H => to σ H fun o H1 => ti σ H1 fun i H2 => tget o i H2 fun x H3 => te σ H3 fun y H4 => tip x y H4 fun z H5 => tset o i z H5 fun H6 => D.nx σ H6
/-- o[i], by values -/
def PGet (X : Cx) (t : V → V → Hp → VK → Prop) : Prop :=
  ∀ (pins : List (Addr × Obj)) (s : Shared) (σ : St) (H : Hp) (o i : V) (ov iv : Value) (Q : VK), Inv X pins σ H s → RelV o ov → RelV i iv → t o i H Q →
    wpAny (model X.prog X.w) X.A (getItem ov iv) (EP X pins σ Q) X.xe s
/-- ints -/
def ipI (f : Int → Int → Int) : TIp := fun x y H Q => ∃ i j, x = .int i ∧ y = .int j ∧ Q (.int (f i j)) H
end

/-! ### while -/
section
variable {X : Cx} {pos : Pos}
/-- the invariant W with its measure -/
def tWhile (c : TT) (tb : TS) : TS := fun D σ H => ∃ W : Nat → St → Hp → Prop, (∃ m, W m σ H) ∧ ∀ m σ H, W m σ H →
  c σ H fun b H1 => if b = true then ∃ N : St → Hp → Prop, (∀ σ' H', N σ' H' → ∃ m', m' < m ∧ W m' σ' H') ∧ tb { D with nx := N, ct := N, bk := D.nx } σ H1 else D.nx σ H1
theorem ps_while {c : Expr} {body : List Stmt} {tc : TT} {tb : TS} (hp : PassesOwn (model X.prog X.w) X.A X.env X.xe) (hc : PT X c tc) (hb : PSs X body tb) : PS X (.While c body [] pos) (tWhile tc tb) := by
  intro pins s σ H D I h
  obtain ⟨W, ⟨m0, w0⟩, turn⟩ := h
  refine wpAny_While (codeAny_whileLoop (fun n s' => ∃ σ' H', Inv X pins σ' H' s' ∧ W n σ' H') ?_ m0 ⟨σ, H, I, w0⟩)
  rintro n s1 ⟨σ1, H1, I1, w1⟩
  refine wpAny_passesOwn hp (thn (hc pins s1 σ1 H1 _ I1 (turn n σ1 H1 w1)) fun b s2 ⟨H2, I2, q2⟩ => ?_)
  cases b with
  | true =>
    obtain ⟨N, hN, q2⟩ := q2
    rw [if_pos rfl]
    refine wpAny_passesOwn hp (thn (hb pins s2 σ1 H2 _ I2 q2) fun f s3 q3 => ?_)
    cases f with
    | next =>
      obtain ⟨σ3, H3, I3, n3⟩ := q3
      obtain ⟨m', hm, w3⟩ := hN σ3 H3 n3
      exact ⟨m', hm, σ3, H3, I3, w3⟩
    | cont =>
      obtain ⟨σ3, H3, I3, n3⟩ := q3
      obtain ⟨m', hm, w3⟩ := hN σ3 H3 n3
      exact ⟨m', hm, σ3, H3, I3, w3⟩
    | brk => exact q3
    | ret v => exact q3
  | false =>
    rw [if_neg Bool.false_ne_true]
    exact wpAny_execs_nil ⟨σ1, H2, I2, q2⟩
end

/-! ### what a loop or a comprehension walks -/
/-- at turn i: it yields x (the heap may grow), or it stops -/
structure It where
  go : Nat → Hp → Prop
  yld : Nat → Hp → V → Hp → Prop
  stop : Nat → Hp → Prop
/-- the iterator's own objects may turn: they are not the frame's, not pinned, younger than the entry (or a comprehension's own) -/
def FpOk (X : Cx) (pins : List (Addr × Obj)) (H : Hp) (b : Addr) : Prop :=
  H b = none ∧ b ≠ X.env.locals ∧ b ∉ X.fs ∧ (b ∈ X.ex ∨ X.s₀.heap.objs.size ≤ b) ∧ (∀ x c, X.env.cells.lookup x = some c → c ≠ b) ∧ ∀ p ∈ X.pn ++ pins, p.1 ≠ b
theorem Inv.fpOk {X : Cx} {pins : List (Addr × Obj)} {σ : St} {H H' : Hp} {s : Shared} {b : Addr} (I : Inv X pins σ H s) (hb : s.heap.objs.size ≤ b) (hn : H' b = none) : FpOk X pins H' b := by
  refine ⟨hn, Nat.ne_of_gt (Nat.lt_of_lt_of_le I.lt hb), I.nofs hb, .inr (Nat.le_trans I.sz hb), fun x c e z => ?_, fun p hp z => ?_⟩
  · obtain ⟨v, q⟩ := I.cell x c e
    exact absurd (Nat.lt_of_lt_of_le q.lt (by rw [z]; exact hb)) (Nat.lt_irrefl _)
  · exact absurd (Nat.lt_of_lt_of_le (Heap.lt_size (I.pin p hp).1) (by rw [z]; exact hb)) (Nat.lt_irrefl _)
structure Turn (P : Program) (w : World) (K : PySem.W.Frag) (tg : Expr) (J : It) (fp : List Addr) (it : Addr) (tn : Nat → Heap → Prop) : Prop where
  mem : it ∈ fp
  obj : ∀ i h, tn i h → ∀ b ∈ fp, ∃ o, h.get? b = some o ∧ ∀ v, o.data ≠ .cell v
  keep : ∀ i h h', tn i h → (∀ b ∈ fp, ∀ o, h.get? b = some o → h'.get? b = some o) → tn i h'
  item : ∀ (X : Cx), X.prog = P → X.w = w → X.K = K → X.calm = true → ∀ (i : Nat) (pins : List (Addr × Obj)) (s : Shared) (σ : St) (H : Hp) (E : Value → Shared → Prop), Inv X pins σ H s → (∀ b ∈ fp, FpOk X pins H b) → tn i s.heap → J.go i H →
    wpAny (model P w) X.A (pyNext (.ref it)) (fun r s1 => ∃ u, r = some u ∧
      wpAny (model P w) X.A (letOwnedTupleGo tg (.ref it) u) (fun _ s2 => ∃ x H', Inv X pins σ H' s2 ∧ RelV x u ∧ J.yld i H x H' ∧ tn (i + 1) s2.heap ∧ ∀ b ∈ fp, H' b = none) E s1) E s
  done : ∀ (X : Cx), X.prog = P → X.w = w → X.K = K → X.calm = true → ∀ (i : Nat) (pins : List (Addr × Obj)) (s : Shared) (σ : St) (H : Hp) (E : Value → Shared → Prop), Inv X pins σ H s → (∀ b ∈ fp, FpOk X pins H b) → tn i s.heap → J.stop i H →
    wpAny (model P w) X.A (pyNext (.ref it)) (fun r s1 => r = none ∧ Inv X pins σ H s1) E s
  self : ∀ (A : Around) (i : Nat) (s : Shared) (Q : Value → Shared → Prop) (E : Value → Shared → Prop), tn i s.heap → Q (.ref it) s → wpAny (model P w) A (pyIter (.ref it)) Q E s
abbrev TI := St → Hp → (It → Hp → Prop) → Prop
/-- an iterator has come -/
def PIE (X : Cx) (pins : List (Addr × Obj)) (σ : St) (tg : Expr) (R : It → Hp → Prop) (itv : Value) (s2 : Shared) : Prop :=
  ∃ (it : Addr) (fp : List Addr) (tn : Nat → Heap → Prop) (J : It) (H' : Hp), itv = .ref it ∧ Inv X pins σ H' s2 ∧ Turn X.prog X.w X.K tg J fp it tn ∧ tn 0 s2.heap ∧ (∀ b ∈ fp, FpOk X pins H' b) ∧ R J H'
def PI (X : Cx) (tg iter : Expr) (wi : TI) : Prop :=
  ∀ (pins : List (Addr × Obj)) (s : Shared) (σ : St) (H : Hp) (R : It → Hp → Prop), Inv X pins σ H s → wi σ H R →
    wpAny (model X.prog X.w) X.A (eval iter X.env) (fun v s1 => wpAny (model X.prog X.w) X.A (pyIter v) (PIE X pins σ tg R) X.xe s1) X.xe s

/-- the step ahead of the store is nothing for an iterator that keeps no tuple -/
theorem go_of {M : Model} {A : Around} {E : Value → Shared → Prop} {s : Shared} {tg : Expr} {it : Addr} {u : Value} {o : Obj} {n : String} {vs : Array Value} {Q : Unit → Shared → Prop} (ho : s.heap.get? it = some o) (hc : o.cls = .type n) (hd : o.data = .fields vs)
    (hn : ["enumerate", "zip", "dict_itemiterator", "dict_reverseitemiterator", "odict_iterator", "itertools.zip_longest", "itertools.pairwise"].contains n = false) (hQ : Q () s) : wpAny M A (letOwnedTupleGo tg (.ref it) u) Q E s := by
  unfold letOwnedTupleGo
  cases tg <;> first
    | exact wpAny_pure hQ
    | (cases u <;> first
        | exact wpAny_pure hQ
        | (refine wpAny_bind (wpAny_load ho ?_)
           rw [hc, hd]
           show wpAny M A (if (["enumerate", "zip", "dict_itemiterator", "dict_reverseitemiterator", "odict_iterator", "itertools.zip_longest", "itertools.pairwise"].contains n && vs[0]? == some (rawInt _)) = true then _ else _) Q E s
           rw [if_neg (by intro h; rw [hn, Bool.false_and] at h; cases h)]
           exact wpAny_pure hQ))

/-- the list at a, as it stands at each turn (a loop may append to it) -/
def Itl (K : PySem.W.Frag) (a : Addr) : It :=
  ⟨fun i H => ∃ xs x, SqL K H a xs ∧ xs[i]? = some x, fun i H x H' => H' = H ∧ ∀ xs, SqL K H a xs → xs[i]? = some x, fun i H => ∃ xs, SqL K H a xs ∧ xs.length ≤ i⟩
def Itt (K : PySem.W.Frag) (a : Addr) : It :=
  ⟨fun i H => ∃ xs x, SqT K H a xs ∧ xs[i]? = some x, fun i H x H' => H' = H ∧ ∀ xs, SqT K H a xs → xs[i]? = some x, fun i H => ∃ xs, SqT K H a xs ∧ xs.length ≤ i⟩
/-- lo, lo + 1, .. (n of them) -/
def Itr (lo : Int) (n : Nat) : It := ⟨fun i _ => i < n, fun i H x H' => H' = H ∧ x = .int (lo + i), fun i _ => n ≤ i⟩
theorem turn_list {P : Program} {w : World} {K : PySem.W.Frag} {tg : Expr} (a it : Addr) : Turn P w K tg (Itl K a) [it] it (fun i h => h.IsListIter it a i) where
  mem := by simp
  obj := fun i h st b hb => by
    have e : b = it := by simpa using hb
    subst e
    obtain ⟨o, e, c, d⟩ := st
    exact ⟨o, e, fun v z => by rw [d] at z; cases z⟩
  keep := fun i h h' st k => st.at fun o e => k it (by simp) o e
  item := by
    intro X hP hw hK hc i pins s σ H E I hf st hg
    subst hP hw hK
    obtain ⟨xs, x, hq, hx⟩ := hg
    obtain ⟨its, rv, p, hz⟩ := I.list hq
    obtain ⟨u, hu, ru⟩ := rv.get hx
    obtain ⟨f0, f1, f2, f3, f4, f5⟩ := hf it (by simp)
    refine wpAny_pyNext_list_item st p.isList (x := u) (by simpa using hu) fun h' st' sb => ?_
    have I1 : Inv X pins σ H { s with heap := h' } := I.turned (t' := s.toks) (fun b o hb e => (sb.2 b hb).trans e) f0 f1 f3 f4 f5
    obtain ⟨o, e, c, d⟩ := id st'
    exact ⟨u, rfl, go_of (s := { s with heap := h' }) e c d (by decide) ⟨x, H, I1, ru, ⟨rfl, fun ys hy => by rw [I.list_inj hy hq]; exact hx⟩, st', fun b hb => (hf b hb).1⟩⟩
  done := by
    intro X hP hw hK hc i pins s σ H E I hf st hg
    subst hP hw hK
    obtain ⟨xs, hq, hx⟩ := hg
    obtain ⟨its, rv, p, hz⟩ := I.list hq
    obtain ⟨f0, f1, f2, f3, f4, f5⟩ := hf it (by simp)
    have hl := rv.length
    exact wpAny_pyNext_list_end (I.ok.hd hc) st p.isList (by simp; omega) fun h' eb => ⟨rfl, I.turned (t' := s.toks) (fun b o hb e => eb b o hb e) f0 f1 f3 f4 f5⟩
  self := fun _ _ _ _ _ st h => wpAny_pyIter_listiter st h
theorem turn_range {P : Program} {w : World} {K : PySem.W.Frag} {tg : Expr} (it : Addr) (lo : Int) (n : Nat) : Turn P w K tg (Itr lo n) [it] it (fun i h => IsRangeIter h it (lo + (i : Nat) * 1) ((n : Int) - (i : Nat)) 1) where
  mem := by simp
  obj := fun i h st b hb => by
    have e : b = it := by simpa using hb
    subst e
    exact ⟨_, st, fun v z => by
      have z' : Data.fields _ = Data.cell v := z
      cases z'⟩
  keep := fun i h h' st k => k it (by simp) _ st
  item := by
    intro X hP hw hK hc i pins s σ H E I hf st hg
    subst hP hw hK
    obtain ⟨f0, f1, f2, f3, f4, f5⟩ := hf it (by simp)
    have W := Walks.range (prog := X.prog) (w := X.w) (I.ok.hd hc) it lo 1 n
    refine W.item i s _ _ hg st fun v h' tk hv st' kk => ?_
    obtain ⟨t, rfl⟩ := hv
    have I1 : Inv X pins σ H { s with heap := h', toks := tk } := I.turned (fun b o hb e => kk b o (by simpa using hb) e) f0 f1 f3 f4 f5
    refine ⟨_, rfl, go_of (s := { s with heap := h', toks := tk }) (n := "range_iterator") st' rfl rfl (by decide) ⟨.int (lo + i), H, I1, ⟨t, ?_⟩, ⟨rfl, rfl⟩, st', fun b hb => (hf b hb).1⟩⟩
    rw [Int.mul_one]
  done := by
    intro X hP hw hK hc i pins s σ H E I hf st hg
    subst hP hw hK
    obtain ⟨f0, f1, f2, f3, f4, f5⟩ := hf it (by simp)
    exact wpAny_pyNext_range_end (I.ok.hd hc) st (by have : n ≤ i := hg; omega) fun h' eb => ⟨rfl, I.turned (t' := s.toks) (fun b o hb e => eb b o hb e) f0 f1 f3 f4 f5⟩
  self := fun _ _ _ _ _ st h => wpAny_pyIter_rangeiter st h
end L2

namespace L2
open PySem PySem.Spec PyProof.Rows
section
variable {X : Cx} {tg : Expr}
def iList (K : PySem.W.Frag) (tl : TE) : TI := fun σ H R => tl σ H fun x H1 => ∃ a, x = .ref a ∧ (∃ xs, SqL K H1 a xs) ∧ R (Itl K a) H1
def iTup (K : PySem.W.Frag) (tl : TE) : TI := fun σ H R => tl σ H fun x H1 => ∃ a, x = .ref a ∧ (∃ xs, SqT K H1 a xs) ∧ R (Itt K a) H1
theorem pi_list {l : Expr} {tl : TE} (hl : PE X l tl) : PI X tg l (iList X.K tl) := by
  intro pins s σ H R I h
  refine thn (hl pins s σ H _ I h) fun v s1 ⟨x, H1, I1, r1, q1⟩ => ?_
  obtain ⟨a, e, ⟨xs, hq⟩, q⟩ := q1
  subst e
  cases r1
  obtain ⟨its, rv, p, hz⟩ := I1.list hq
  refine wpAny_pyIter_list p.isList ?_
  refine ⟨s1.heap.objs.size, [s1.heap.objs.size], _, _, H1, rfl, I1.kept (t' := s1.toks) fun b o e => Heap.get?_push_of_some _ e, turn_list a _, ⟨_, Heap.get?_push_size _ rfl, rfl, rfl⟩, fun b hb => ?_, q⟩
  have e : b = s1.heap.objs.size := by simpa using hb
  subst e
  exact I1.fpOk (Nat.le_refl _) (I1.hok.fresh (Nat.le_refl _))
/-- a range object just made, walked -/
theorem range_it {pins : List (Addr × Obj)} {σ : St} {H : Hp} {s : Shared} {R : It → Hp → Prop} {E : Value → Shared → Prop} {lo hi : Int} {t u v : Tok} {tk : Nat} (I : Inv X pins σ H s) (h1 : -(2 ^ 62) ≤ lo) (h2 : lo < 2 ^ 62) (h3 : -(2 ^ 62) ≤ hi) (h4 : hi < 2 ^ 62)
    (q : R (Itr lo (hi - lo).toNat) H) : wpAny (model X.prog X.w) X.A (pyIter (.ref s.heap.objs.size)) (PIE X pins σ tg R) E { s with heap := s.heap.push { cls := .type "range", data := .fields #[.int lo t, .int hi u, .int 1 v] }, toks := tk } := by
  refine wpAny_pyIter_range (IsRange.new ..) (small_one h1 h2 h3 h4) ?_
  have I1 : Inv X pins σ H { s with heap := s.heap.push { cls := .type "range", data := .fields #[.int lo t, .int hi u, .int 1 v] }, toks := tk } := I.kept fun b o e => Heap.get?_push_of_some _ e
  refine ⟨(s.heap.push { cls := .type "range", data := .fields #[.int lo t, .int hi u, .int 1 v] }).objs.size, [(s.heap.push { cls := .type "range", data := .fields #[.int lo t, .int hi u, .int 1 v] }).objs.size], _, _, H, rfl,
    I1.kept (t' := tk) fun b o e => Heap.get?_push_of_some _ e, turn_range _ lo (hi - lo).toNat, ?_, fun b hb => ?_, q⟩
  · have e1 : lo + ((0 : Nat) : Int) * 1 = lo := by simp
    have e2 : (((hi - lo).toNat : Nat) : Int) - ((0 : Nat) : Int) = Builtin.Range.rangeSize lo hi 1 := by rw [rangeSize_one]; split <;> omega
    show IsRangeIter _ _ (lo + ((0 : Nat) : Int) * 1) ((((hi - lo).toNat : Nat) : Int) - ((0 : Nat) : Int)) 1
    rw [e1, e2]
    exact Heap.get?_push_size _ rfl
  · have e : b = (s.heap.push { cls := .type "range", data := .fields #[.int lo t, .int hi u, .int 1 v] }).objs.size := by simpa using hb
    subst e
    exact I1.fpOk (Nat.le_refl _) (I1.hok.fresh (Nat.le_refl _))
def iRng1 (ta : TA) : TI := fun σ H R => ta σ H fun vs H1 => ∃ j : Int, vs = [.int j] ∧ -(2 ^ 62) ≤ j ∧ j < 2 ^ 62 ∧ R (Itr 0 j.toNat) H1
def iRng2 (ta : TA) : TI := fun σ H R => ta σ H fun vs H1 => ∃ i j : Int, vs = [.int i, .int j] ∧ (-(2 ^ 62) ≤ i ∧ i < 2 ^ 62 ∧ -(2 ^ 62) ≤ j ∧ j < 2 ^ 62) ∧ R (Itr i (j - i).toNat) H1
theorem pi_range1 {a : Expr} {ta : TA} {p pos : Pos} (hg : Gl X "range") (hm : X.mg "range" = none) (ha : PA X [a] ta) (hs : starEach [a] X.env = [(false, eval a X.env)] := by rfl) : PI X tg (.Call (.Name "range" p) [a] [] pos) (iRng1 ta) := by
  intro pins s σ H R I h
  refine Call_ (ld_blt I hg hm boot_range (PyProof.Rows.callWith_type1 (thn (ha pos pins s σ H _ I h) fun us s1 ⟨vs, H1, I1, r1, q1⟩ => ?_) hs rfl))
  obtain ⟨j, e, q1, q2, q⟩ := q1
  subst e
  cases r1 with
  | cons r rr =>
    cases rr
    obtain ⟨t, rfl⟩ := r
    exact call_range_1 (range_it I1 (by omega) (by omega) q1 q2 (by simpa using q))

/-! ### for -/
/-- W: the invariant by the turn and a measure; N: what the body is to reach -/
def tFor (wi : TI) (g : TG) (tb : TS) : TS := fun D σ H => wi σ H fun J H1 => ∃ W : Nat → Nat → St → Hp → Prop, (∃ m, W 0 m σ H1) ∧ ∀ i m σ H, W i m σ H →
  (J.stop i H ∧ D.nx σ H) ∨ (J.go i H ∧ ∃ N : St → Hp → Prop, (∀ σ' H', N σ' H' → ∃ m', m' < m ∧ W (i + 1) m' σ' H') ∧ ∀ x H', J.yld i H x H' → g x σ H' fun σ2 H2 => tb { D with nx := N, ct := N, bk := D.nx } σ2 H2)
/-- the records at fp as they stand -/
def pinsAt (fp : List Addr) (h : Heap) : List (Addr × Obj) := fp.filterMap fun b => (h.get? b).map fun o => (b, o)
theorem mem_pinsAt {fp : List Addr} {h : Heap} {b : Addr} {o : Obj} (hb : b ∈ fp) (e : h.get? b = some o) : (b, o) ∈ pinsAt fp h := List.mem_filterMap.mpr ⟨b, hb, by rw [e]; rfl⟩
theorem of_pinsAt {fp : List Addr} {h : Heap} {p : Addr × Obj} (hp : p ∈ pinsAt fp h) : p.1 ∈ fp ∧ h.get? p.1 = some p.2 := by
  obtain ⟨b, hb, e⟩ := List.mem_filterMap.mp hp
  cases q : h.get? b with
  | none => rw [q] at e; cases e
  | some o =>
    rw [q] at e
    have e' : (b, o) = p := Option.some.inj e
    subst e'
    exact ⟨hb, q⟩
theorem Inv.pinned {pins : List (Addr × Obj)} {σ : St} {H : Hp} {s : Shared} {fp : List Addr} (I : Inv X pins σ H s) (hf : ∀ b ∈ fp, FpOk X pins H b) (ho : ∀ b ∈ fp, ∃ o, s.heap.get? b = some o ∧ ∀ v, o.data ≠ .cell v) : Inv X (pins ++ pinsAt fp s.heap) σ H s :=
  I.pins_of fun p hp => (List.mem_append.mp hp).elim (fun z => I.pin p (List.mem_append_right _ z)) fun z => by
    obtain ⟨hb, e⟩ := of_pinsAt z
    obtain ⟨f0, f1, f2, _⟩ := hf p.1 hb
    obtain ⟨o, e', d⟩ := ho p.1 hb
    rw [e] at e'; cases e'
    exact ⟨e, f0, f1, f2, d⟩
theorem Inv.unpinned {pins pl : List (Addr × Obj)} {σ : St} {H : Hp} {s : Shared} (I : Inv X (pins ++ pl) σ H s) : Inv X pins σ H s := I.pins_of fun p hp => I.pin p (List.mem_append_right _ (List.mem_append_left _ hp))
theorem ps_for {iter : Expr} {body : List Stmt} {wi : TI} {g : TG} {tb : TS} {pos : Pos} (hp : PassesOwn (model X.prog X.w) X.A X.env X.xe) (hc : X.calm = true) (hi : PI X tg iter wi) (hg : PG X tg g) (hb : PSs X body tb)
    (hs : ∀ x, foldedSetIterable iter X.env x = pure x := by intro _; rfl) : PS X (.For tg iter body [] pos) (tFor wi g tb) := by
  intro pins s σ H D I h
  refine wpAny_For (thn (hi pins s σ H _ I h) fun v s1 h1 => thn h1 fun itv s2 h2 => ?_) hs
  obtain ⟨it, fp, tn, J, H2, e, I2, T, st2, f2, W, ⟨m0, w0⟩, turn⟩ := h2
  subst e
  -- what stays true of the iterator's objects through the loop
  have stat : ∀ {H' : Hp}, (∀ b ∈ fp, H' b = none) → ∀ b ∈ fp, FpOk X pins H' b := fun hn b hb => ⟨hn b hb, (f2 b hb).2⟩
  refine codeAny_forLoop_any (fun n s' => ∃ i σ' H', Inv X pins σ' H' s' ∧ tn i s'.heap ∧ (∀ b ∈ fp, H' b = none) ∧ W i n σ' H') ?_ m0 ⟨0, σ, H2, I2, st2, fun b hb => (f2 b hb).1, w0⟩
  rintro n s3 ⟨i, σ3, H3, I3, st3, fr3, w3⟩
  rcases turn i n σ3 H3 w3 with ⟨stop, qn⟩ | ⟨go, N, hN, step⟩
  · refine wpAny_passesOwn hp (thn (T.done X rfl rfl rfl hc i pins s3 σ3 H3 X.xe I3 (stat fr3) st3 stop) fun r s4 ⟨hr, I4⟩ => ?_)
    subst hr
    exact wpAny_execs_nil ⟨σ3, H3, I4, qn⟩
  · refine wpAny_passesOwn hp (thn (T.item X rfl rfl rfl hc i pins s3 σ3 H3 X.xe I3 (stat fr3) st3 go) fun r s4 ⟨u, hr, h4⟩ => ?_)
    subst hr
    refine wpAny_passesOwn hp (thn h4 fun _ s5 ⟨x, H5, I5, r5, y5, st5, fr5⟩ => ?_)
    have I5' := I5.pinned (stat fr5) (T.obj _ _ st5)
    refine wpAny_passesOwn hp (thn (hg _ s5 σ3 H5 x u _ I5' r5 (step x H5 y5)) fun _ s6 ⟨σ6, H6, I6, q6⟩ => ?_)
    refine wpAny_passesOwn hp (thn (hb _ s6 σ6 H6 _ I6 q6) fun f s7 q7 => ?_)
    have again : ∀ {σ7 : St} {H7 : Hp}, Inv X (pins ++ pinsAt fp s5.heap) σ7 H7 s7 → N σ7 H7 → ∃ m, m < n ∧ ∃ i σ' H', Inv X pins σ' H' s7 ∧ tn i s7.heap ∧ (∀ b ∈ fp, H' b = none) ∧ W i m σ' H' := fun {σ7 H7} I7 n7 => by
      obtain ⟨m', hm, w7⟩ := hN σ7 H7 n7
      refine ⟨m', hm, i + 1, σ7, H7, I7.unpinned, T.keep _ _ _ st5 fun b hb o e => (I7.pin (b, o) (List.mem_append_right _ (List.mem_append_right _ (mem_pinsAt hb e)))).1, fun b hb => ?_, w7⟩
      obtain ⟨o, e, d⟩ := T.obj _ _ st5 b hb
      exact (I7.pin (b, o) (List.mem_append_right _ (List.mem_append_right _ (mem_pinsAt hb e)))).2.1
    cases f with
    | next => obtain ⟨σ7, H7, I7, n7⟩ := q7; exact again I7 n7
    | cont => obtain ⟨σ7, H7, I7, n7⟩ := q7; exact again I7 n7
    | brk => obtain ⟨σ7, H7, I7, q7⟩ := q7; exact ⟨σ7, H7, I7.unpinned, q7⟩
    | ret v => obtain ⟨x7, σ7, H7, I7, r7, q7⟩ := q7; exact ⟨x7, σ7, H7, I7.unpinned, r7, q7⟩
end

/-! ### the forms one uses -/
theorem for_range {lo : Int} {n : Nat} {g : TG} {tb : TS} {D : Ends} {σ : St} {H : Hp} (Pv : Nat → St → Hp → Prop) (h0 : Pv 0 σ H)
    (hs : ∀ i σ H, i < n → Pv i σ H → g (.int (lo + i)) σ H fun σ2 H2 => tb { D with nx := Pv (i + 1), ct := Pv (i + 1), bk := D.nx } σ2 H2) (hd : ∀ σ H, Pv n σ H → D.nx σ H) :
    ∃ W : Nat → Nat → St → Hp → Prop, (∃ m, W 0 m σ H) ∧ ∀ i m σ H, W i m σ H →
      ((Itr lo n).stop i H ∧ D.nx σ H) ∨ ((Itr lo n).go i H ∧ ∃ N : St → Hp → Prop, (∀ σ' H', N σ' H' → ∃ m', m' < m ∧ W (i + 1) m' σ' H') ∧ ∀ x H', (Itr lo n).yld i H x H' → g x σ H' fun σ2 H2 => tb { D with nx := N, ct := N, bk := D.nx } σ2 H2) := by
  refine ⟨fun i m σ H => m = n - i ∧ i ≤ n ∧ Pv i σ H, ⟨n, by simp, Nat.zero_le _, h0⟩, ?_⟩
  rintro i m σ H ⟨rfl, hi, p⟩
  by_cases hlt : i < n
  · refine .inr ⟨hlt, Pv (i + 1), fun σ' H' p' => ⟨n - (i + 1), by omega, rfl, hlt, p'⟩, fun x H' y => ?_⟩
    obtain ⟨e, y⟩ := y
    subst e y
    exact hs i σ _ hlt p
  · have e : i = n := by omega
    subst e
    exact .inl ⟨Nat.le_refl _, hd σ H p⟩
end L2

namespace L2
open PySem PySem.Spec PyProof.Rows

abbrev R2 := V → V → Hp → VK → Prop
/-- a two-place operation on values: f is binaryOp op, inplaceOp op or compareOp op -/
def OpR (X : Cx) (f : Value → Value → Sem Value) (r : R2) : Prop :=
  ∀ (pins : List (Addr × Obj)) (s : Shared) (σ : St) (H : Hp) (x y : V) (v u : Value) (Q : VK), Inv X pins σ H s → RelV x v → RelV y u → r x y H Q →
    wpAny (model X.prog X.w) X.A (f v u) (EP X pins σ Q) X.xe s
/-- a one-place operation -/
def UnR (X : Cx) (f : Value → Sem Value) (r : V → Hp → VK → Prop) : Prop :=
  ∀ (pins : List (Addr × Obj)) (s : Shared) (σ : St) (H : Hp) (x : V) (v : Value) (Q : VK), Inv X pins σ H s → RelV x v → r x H Q →
    wpAny (model X.prog X.w) X.A (f v) (EP X pins σ Q) X.xe s
/-- a call of a value that is known (a builtin, a type) with values -/
def CallR (X : Cx) (f : Value) (r : List V → Hp → VK → Prop) : Prop :=
  ∀ (pins : List (Addr × Obj)) (s : Shared) (σ : St) (H : Hp) (xs : List V) (us : List Value) (Q : VK), Inv X pins σ H s → Vals xs us → r xs H Q →
    wpAny (model X.prog X.w) X.A (call f us) (EP X pins σ Q) X.xe s
/-- a value's truth -/
def TruR (X : Cx) (r : V → Hp → (Bool → Hp → Prop) → Prop) : Prop :=
  ∀ (pins : List (Addr × Obj)) (s : Shared) (σ : St) (H : Hp) (x : V) (v : Value) (Q : Bool → Hp → Prop), Inv X pins σ H s → RelV x v → r x H Q →
    wpAny (model X.prog X.w) X.A (truthy v) (TP X pins σ Q) X.xe s

def tOp (r : R2) (ta tb : TE) : TE := fun σ H Q => ta σ H fun x H1 => tb σ H1 fun y H2 => r x y H2 Q
def tUn (r : V → Hp → VK → Prop) (ta : TE) : TE := fun σ H Q => ta σ H fun x H1 => r x H1 Q
/-- ints in, under C, and a value out -/
def rI (C : Int → Int → Prop) (g : Int → Int → V) : R2 := fun x y H Q => ∃ i j, x = .int i ∧ y = .int j ∧ C i j ∧ Q (g i j) H
def rI0 (g : Int → Int → V) : R2 := fun x y H Q => ∃ i j, x = .int i ∧ y = .int j ∧ Q (g i j) H
def rU (g : Int → V) : V → Hp → VK → Prop := fun x H Q => ∃ i, x = .int i ∧ Q (g i) H

section
variable {X : Cx} {a b c : Expr} {ta tb tc : TE} {pos : Pos}

theorem binT (ha : PE X a ta) (hb : PE X b tb) {pins : List (Addr × Obj)} {s : Shared} {σ : St} {H : Hp} {R : V → V → Hp → Prop} (I : Inv X pins σ H s)
    (h : ta σ H fun x H1 => tb σ H1 fun y H2 => R x y H2) {Q : Value → Shared → Prop} {f : Value → Value → Sem Value}
    (hf : ∀ v u s2 x y H2, Inv X pins σ H2 s2 → RelV x v → RelV y u → R x y H2 → wpAny (model X.prog X.w) X.A (f v u) Q X.xe s2) :
    wpAny (model X.prog X.w) X.A (eval a X.env) (fun v s₁ => wpAny (model X.prog X.w) X.A (eval b X.env) (fun u s₂ => wpAny (model X.prog X.w) X.A (f v u) Q X.xe s₂) X.xe s₁) X.xe s := by
  refine thn (ha pins s σ H _ I h) fun v s1 ⟨x, H1, I1, r1, q1⟩ => ?_
  refine thn (hb pins s1 σ H1 _ I1 q1) fun u s2 ⟨y, H2, I2, r2, q2⟩ => ?_
  exact hf v u s2 x y H2 I2 r1 r2 q2

theorem pe_op {op : Operator} {r : R2} (ho : OpR X (binaryOp op) r) (ha : PE X a ta) (hb : PE X b tb) : PE X (.BinOp a op b pos) (tOp r ta tb) := by
  intro pins s σ H Q I h
  exact wpAny_BinOp (binT ha hb I h fun v u s2 x y H2 I2 rx ry q => ho pins s2 σ H2 x y v u Q I2 rx ry q)
theorem pe_un {op : UnaryOp} {r : V → Hp → VK → Prop} (ho : UnR X (unaryOp op) r) (ha : PE X a ta) : PE X (.UnaryOp op a pos) (tUn r ta) := by
  intro pins s σ H Q I h
  exact UnaryOp_ (thn (ha pins s σ H _ I h) fun v s1 ⟨x, H1, I1, r1, q1⟩ => ho pins s1 σ H1 x v Q I1 r1 q1)

/-! ### ints -/
theorem opI {f : Value → Value → Sem Value} {C : Int → Int → Prop} {g : Int → Int → Int}
    (rule : ∀ (i j : Int) (t u : Tok) (s : Shared) (Q : Value → Shared → Prop) (E : Value → Shared → Prop), C i j → Q (.int (g i j) s.toks) { s with toks := s.toks + 1 } → wpAny (model X.prog X.w) X.A (f (.int i t) (.int j u)) Q E s) :
    OpR X f (rI C fun i j => .int (g i j)) := by
  intro pins s σ H x y v u Q I rx ry h
  obtain ⟨i, j, rfl, rfl, hc, q⟩ := h
  obtain ⟨t, rfl⟩ := rx
  obtain ⟨t', rfl⟩ := ry
  exact rule i j t t' s _ _ hc ⟨.int (g i j), H, I.tok _, ⟨_, rfl⟩, q⟩
theorem opI0 {f : Value → Value → Sem Value} {g : Int → Int → Int}
    (rule : ∀ (i j : Int) (t u : Tok) (s : Shared) (Q : Value → Shared → Prop) (E : Value → Shared → Prop), Q (.int (g i j) s.toks) { s with toks := s.toks + 1 } → wpAny (model X.prog X.w) X.A (f (.int i t) (.int j u)) Q E s) :
    OpR X f (rI0 fun i j => .int (g i j)) := by
  intro pins s σ H x y v u Q I rx ry h
  obtain ⟨i, j, rfl, rfl, q⟩ := h
  obtain ⟨t, rfl⟩ := rx
  obtain ⟨t', rfl⟩ := ry
  exact rule i j t t' s _ _ ⟨.int (g i j), H, I.tok _, ⟨_, rfl⟩, q⟩
theorem opB0 {f : Value → Value → Sem Value} {g : Int → Int → Bool}
    (rule : ∀ (i j : Int) (t u : Tok) (s : Shared) (Q : Value → Shared → Prop) (E : Value → Shared → Prop), Q (.bool (g i j)) s → wpAny (model X.prog X.w) X.A (f (.int i t) (.int j u)) Q E s) :
    OpR X f (rI0 fun i j => .bl (g i j)) := by
  intro pins s σ H x y v u Q I rx ry h
  obtain ⟨i, j, rfl, rfl, q⟩ := h
  obtain ⟨t, rfl⟩ := rx
  obtain ⟨t', rfl⟩ := ry
  exact rule i j t t' s _ _ ⟨.bl (g i j), H, I, rfl, q⟩

def CDiv (i j : Int) : Prop := 0 < j ∧ j < 1073741824
def CDivN (i j : Int) : Prop := j ≠ 0 ∧ j.natAbs < 1073741824
def CPow (i j : Int) : Prop := 0 ≤ j ∧ j ≤ 1000000 ∧ i.natAbs < 2 ^ 64
def CMul (i j : Int) : Prop := (-(2 ^ 64) < i ∧ i < 2 ^ 64) ∨ (-(2 ^ 64) < j ∧ j < 2 ^ 64)
theorem CMul.ok {i j : Int} (h : CMul i j) : IntMulOk i j := by
  rcases h with ⟨h1, h2⟩ | ⟨h1, h2⟩
  · exact .of_left (intBits_le_64 h1 h2)
  · exact .of_right (intBits_le_64 h1 h2)

theorem op_add : OpR X (binaryOp .Add) (rI0 fun i j => .int (i + j)) := opI0 fun _ _ _ _ _ _ _ q => add_int q
theorem op_sub : OpR X (binaryOp .Sub) (rI0 fun i j => .int (i - j)) := opI0 fun _ _ _ _ _ _ _ q => sub_int q
theorem op_mul : OpR X (binaryOp .Mult) (rI CMul fun i j => .int (i * j)) := opI fun _ _ _ _ _ _ _ hc q => mul_int q hc.ok
/-- // by a positive divisor -/
theorem op_fdiv : OpR X (binaryOp .FloorDiv) (rI CDiv fun i j => .int (i / j)) := opI fun i j _ _ _ _ _ hc q => by
  have h1 : (0 : Int) < j := hc.1
  have h2 : j < 1073741824 := hc.2
  exact floordiv_int (by omega) (by rw [Int.fdiv_eq_ediv_of_nonneg i (by omega)]; exact q) (.inl (PyProof.noPylong_small (by omega)))
/-- % by a positive divisor of any size -/
theorem op_mod : OpR X (binaryOp .Mod) (rI (fun _ j => 0 < j) fun i j => .int (i % j)) := opI fun i j _ _ _ _ _ hc q => by
  have h1 : (0 : Int) < j := hc
  exact mod_int' (by omega) (by rw [Int.fmod_eq_emod_of_nonneg i (by omega)]; exact q)
theorem op_pow : OpR X (binaryOp .Pow) (rI CPow fun i j => .int (i ^ j.toNat)) := opI fun _ _ _ _ _ _ _ hc q => pow_int_small hc.1 hc.2.1 hc.2.2 q
theorem op_shl : OpR X (binaryOp .LShift) (rI CPow fun i j => .int (i * 2 ^ j.toNat)) := opI fun _ _ _ _ _ _ _ hc q => lshift_int_small hc.1 hc.2.1 hc.2.2 q


theorem unI {f : Value → Sem Value} {g : Int → Int}
    (rule : ∀ (i : Int) (t : Tok) (s : Shared) (Q : Value → Shared → Prop) (E : Value → Shared → Prop), Q (.int (g i) s.toks) { s with toks := s.toks + 1 } → wpAny (model X.prog X.w) X.A (f (.int i t)) Q E s) :
    UnR X f (rU fun i => .int (g i)) := by
  intro pins s σ H x v Q I rx h
  obtain ⟨i, rfl, q⟩ := h
  obtain ⟨t, rfl⟩ := rx
  exact rule i t s _ _ ⟨.int (g i), H, I.tok _, ⟨_, rfl⟩, q⟩
theorem un_neg : UnR X (unaryOp .USub) (rU fun i => .int (-i)) := unI fun _ _ _ _ _ q => neg_int q

/-! ### bools among ints: n += (a < b) -/
end

/-! ### comparisons -/
/-- the scalars that == tells apart as data does -/
def scal : V → V → Bool
  | .non, .non => true | .non, .int _ => true | .int _, .non => true | .non, .bl _ => true | .bl _, .non => true | .non, .str _ => true | .str _, .non => true
  | .int _, .int _ => true | .bl _, .bl _ => true | .str _, .str _ => true | .byt _, .byt _ => true
  | .int _, .str _ => true | .str _, .int _ => true | .bl _, .str _ => true | .str _, .bl _ => true
  | _, _ => false
def rEq : R2 := fun x y H Q => scal x y = true ∧ Q (.bl (decide (x = y))) H
def rNe : R2 := fun x y H Q => scal x y = true ∧ Q (.bl (!decide (x = y))) H

theorem dec_int {i j : Int} : decide (V.int i = V.int j) = (i == j) := by
  rw [Bool.eq_iff_iff]
  simp
theorem dec_bl {i j : Bool} : decide (V.bl i = V.bl j) = (i == j) := by
  rw [Bool.eq_iff_iff]
  simp
theorem dec_str {i j : Str} : decide (V.str i = V.str j) = (i == j) := by
  rw [Bool.eq_iff_iff]
  simp
theorem dec_byt {i j : Array UInt8} : decide (V.byt i = V.byt j) = (i.toList == j.toList) := by
  rw [Bool.eq_iff_iff]
  cases i
  cases j
  simp

section
variable {X : Cx} {a b c : Expr} {ta tb tc : TE} {pos : Pos}
theorem fin_bl {pins : List (Addr × Obj)} {σ : St} {H : Hp} {s : Shared} {Q : VK} {k k' : Bool} (I : Inv X pins σ H s) (q : Q (.bl k) H) (e : k = k') : EP X pins σ Q (.bool k') s := by
  subst e
  exact ⟨.bl k, H, I, rfl, q⟩
theorem op_eq : OpR X (compareOp .Eq) rEq := by
  intro pins s σ H x y v u Q I rx ry h
  obtain ⟨hs, q⟩ := h
  cases x with
  | non =>
    cases rx
    cases y with
    | non => cases ry; exact PySem.EqNone.eq_none_none (fin_bl I q (by simp))
    | bl j => cases ry; exact PySem.EqNone.eq_none_bool (fin_bl I q (by simp))
    | int j => obtain ⟨t', rfl⟩ := ry; exact PySem.EqNone.eq_none_int (fin_bl I q (by simp))
    | str j => obtain ⟨t', rfl⟩ := ry; exact PySem.EqNone.eq_none_str (fin_bl I q (by simp))
    | _ => exact absurd (show false = true from hs) Bool.false_ne_true
  | bl i =>
    cases rx
    cases y with
    | non => cases ry; exact PySem.EqNone.eq_bool_none (fin_bl I q (by simp))
    | bl j => cases ry; exact eq_bool (fin_bl I q dec_bl)
    | str j => obtain ⟨t', rfl⟩ := ry; exact PySem.EqMixed.eq_bool_str (fin_bl I q (by simp))
    | _ => exact absurd (show false = true from hs) Bool.false_ne_true
  | int i =>
    obtain ⟨t, rfl⟩ := rx
    cases y with
    | non => cases ry; exact PySem.EqNone.eq_int_none (fin_bl I q (by simp))
    | int j => obtain ⟨t', rfl⟩ := ry; exact eq_int (fin_bl I q dec_int)
    | str j => obtain ⟨t', rfl⟩ := ry; exact PySem.EqMixed.eq_int_str (fin_bl I q (by simp))
    | _ => exact absurd (show false = true from hs) Bool.false_ne_true
  | str i =>
    obtain ⟨t, rfl⟩ := rx
    cases y with
    | non => cases ry; exact PySem.EqNone.eq_str_none (fin_bl I q (by simp))
    | bl j => cases ry; exact PySem.EqMixed.eq_str_bool (fin_bl I q (by simp))
    | int j => obtain ⟨t', rfl⟩ := ry; exact PySem.EqMixed.eq_str_int (fin_bl I q (by simp))
    | str j => obtain ⟨t', rfl⟩ := ry; exact eq_str (fin_bl I q dec_str)
    | _ => exact absurd (show false = true from hs) Bool.false_ne_true
  | byt i =>
    obtain ⟨t, rfl⟩ := rx
    cases y with
    | byt j => obtain ⟨t', rfl⟩ := ry; exact PySem.W.eq_bytes (fin_bl I q dec_byt)
    | _ => exact absurd (show false = true from hs) Bool.false_ne_true
  | _ => cases y <;> exact absurd (show false = true from hs) Bool.false_ne_true
theorem op_ne : OpR X (compareOp .NotEq) rNe := by
  intro pins s σ H x y v u Q I rx ry h
  obtain ⟨hs, q⟩ := h
  cases x with
  | non =>
    cases rx
    cases y with
    | non => cases ry; exact PySem.EqNone.ne_none_none (fin_bl I q (by simp))
    | bl j => cases ry; exact PySem.EqNone.ne_none_bool (fin_bl I q (by simp))
    | int j => obtain ⟨t', rfl⟩ := ry; exact PySem.EqNone.ne_none_int (fin_bl I q (by simp))
    | str j => obtain ⟨t', rfl⟩ := ry; exact PySem.EqNone.ne_none_str (fin_bl I q (by simp))
    | _ => exact absurd (show false = true from hs) Bool.false_ne_true
  | bl i =>
    cases rx
    cases y with
    | non => cases ry; exact PySem.EqNone.ne_bool_none (fin_bl I q (by simp))
    | bl j => cases ry; exact ne_bool (fin_bl I q (congrArg not dec_bl))
    | str j => obtain ⟨t', rfl⟩ := ry; exact PySem.EqMixed.ne_bool_str (fin_bl I q (by simp))
    | _ => exact absurd (show false = true from hs) Bool.false_ne_true
  | int i =>
    obtain ⟨t, rfl⟩ := rx
    cases y with
    | non => cases ry; exact PySem.EqNone.ne_int_none (fin_bl I q (by simp))
    | int j => obtain ⟨t', rfl⟩ := ry; exact ne_int (fin_bl I q (congrArg not dec_int))
    | str j => obtain ⟨t', rfl⟩ := ry; exact PySem.EqMixed.ne_int_str (fin_bl I q (by simp))
    | _ => exact absurd (show false = true from hs) Bool.false_ne_true
  | str i =>
    obtain ⟨t, rfl⟩ := rx
    cases y with
    | non => cases ry; exact PySem.EqNone.ne_str_none (fin_bl I q (by simp))
    | bl j => cases ry; exact PySem.EqMixed.ne_str_bool (fin_bl I q (by simp))
    | int j => obtain ⟨t', rfl⟩ := ry; exact PySem.EqMixed.ne_str_int (fin_bl I q (by simp))
    | str j => obtain ⟨t', rfl⟩ := ry; exact ne_str (fin_bl I q (congrArg not dec_str))
    | _ => exact absurd (show false = true from hs) Bool.false_ne_true
  | byt i =>
    obtain ⟨t, rfl⟩ := rx
    cases y with
    | byt j => obtain ⟨t', rfl⟩ := ry; exact PySem.W.ne_bytes (fin_bl I q (congrArg not dec_byt))
    | _ => exact absurd (show false = true from hs) Bool.false_ne_true
  | _ => cases y <;> exact absurd (show false = true from hs) Bool.false_ne_true

theorem op_lt : OpR X (compareOp .Lt) (rI0 fun i j => .bl (decide (i < j))) := opB0 fun _ _ _ _ _ _ _ q => lt_int q
theorem op_le : OpR X (compareOp .LtE) (rI0 fun i j => .bl (decide (i ≤ j))) := opB0 fun _ _ _ _ _ _ _ q => le_int q
theorem op_gt : OpR X (compareOp .Gt) (rI0 fun i j => .bl (decide (j < i))) := opB0 fun _ _ _ _ _ _ _ q => gt_int q
theorem op_ge : OpR X (compareOp .GtE) (rI0 fun i j => .bl (decide (j ≤ i))) := opB0 fun _ _ _ _ _ _ _ q => ge_int q


/-- is, is not of two objects that are tracked lists or instances -/
def isObj : HO → Bool
  | .lst _ => true
  | .ins _ _ _ => true
  | _ => false


theorem nomark (b : Expr) {op : CmpOp} (h : op ≠ .In := by decide) (h2 : op ≠ .NotIn := by decide) : behindInMarks op b = false := by
  have e1 : (op == CmpOp.In) = false := by cases op <;> first | rfl | exact absurd rfl h
  have e2 : (op == CmpOp.NotIn) = false := by cases op <;> first | rfl | exact absurd rfl h2
  cases b <;> simp [behindInMarks, e1, e2]
/-- a comparison as a value; hm: nomark b, or (for in, not in) by with_unfolding_all rfl -/
theorem pe_cmpR {op : CmpOp} {r : R2} (ho : OpR X (compareOp op) r) (ha : PE X a ta) (hb : PE X b tb) (hm : behindInMarks op b = false) : PE X (.Compare a [op] [b] pos) (tOp r ta tb) := by
  intro pins s σ H Q I h
  exact wpAny_Compare1 (binT ha hb I h fun v u s2 x y H2 I2 rx ry q => ho pins s2 σ H2 x y v u Q I2 rx ry q) hm
/-- a reading of a value as a test -/
def tTest (t : TE) : TT := fun σ H Q => t σ H fun x H' => ∃ k, x = .bl k ∧ Q k H'
theorem pt_cmpR {op : CmpOp} {r : R2} (ho : OpR X (compareOp op) r) (ha : PE X a ta) (hb : PE X b tb) (hm : behindInMarks op b = false) : PT X (.Compare a [op] [b] pos) (tTest (tOp r ta tb)) := by
  intro pins s σ H Q I h
  refine wpAny_isTrue_Compare1 (thn (ha pins s σ H _ I h) fun v s1 ⟨x, H1, I1, r1, q1⟩ => thn (hb pins s1 σ H1 _ I1 q1) fun u s2 ⟨y, H2, I2, r2, q2⟩ =>
    thn (ho pins s2 σ H2 x y v u _ I2 r1 r2 q2) fun c s3 ⟨z, H3, I3, r3, k, e, q3⟩ => ?_) hm
  subst e
  cases r3
  exact wpAny_truthy_bool ⟨H3, I3, q3⟩
/-- a op1 b op2 c -/
def tChain (r r' : R2) (ta tb tc : TE) : TE := fun σ H Q => ta σ H fun x H1 => tb σ H1 fun y H2 => r x y H2 fun z H3 => ∃ k, z = .bl k ∧
  (if k = true then tc σ H3 fun w' H4 => r' y w' H4 Q else Q (.bl false) H3)
theorem pt_chain {op op' : CmpOp} {r r' : R2} (ho : OpR X (compareOp op) r) (ho' : OpR X (compareOp op') r') (ha : PE X a ta) (hb : PE X b tb) (hc : PE X c tc)
    (hm : lastMarks [op, op'] [b, c] = false := by with_unfolding_all rfl) : PT X (.Compare a [op, op'] [b, c] pos) (tTest (tChain r r' ta tb tc)) := by
  intro pins s σ H Q I h
  refine isTrue_chain (thn (ha pins s σ H _ I h) fun v s1 ⟨x, H1, I1, r1, q1⟩ => test_link (thn (hb pins s1 σ H1 _ I1 q1) fun u s2 ⟨y, H2, I2, r2, q2⟩ =>
    thn (ho pins s2 σ H2 x y v u _ I2 r1 r2 q2) fun d s3 ⟨z, H3, I3, r3, k, e, q3⟩ => ?_)) hm
  subst e
  cases r3
  refine wpAny_truthy_bool ?_
  cases k with
  | false =>
    obtain ⟨k', e', q'⟩ := q3
    cases e'
    exact ite_ff ⟨H3, I3, q'⟩
  | true =>
    refine ite_tt (test_last (thn (hc pins s3 σ H3 _ I3 q3) fun w' s4 ⟨z', H4, I4, r4, q4⟩ => thn (ho' pins s4 σ H4 y z' u w' _ I4 r2 r4 q4) fun d' s5 ⟨z2, H5, I5, r5, k2, e2, q5⟩ => ?_))
    subst e2
    cases r5
    exact wpAny_truthy_bool ⟨H5, I5, q5⟩

/-! ### truth -/
/-- a value's truth by the abstract heap -/
def TruV (K : PySem.W.Frag) (x : V) (H : Hp) (k : Bool) : Prop :=
  match x with
  | .non => k = false
  | .bl b => k = b
  | .int i => k = (i != 0)
  | .str y => y.length ≤ sizeLine ∧ k = ((y.length : Int) != 0)
  | .byt y => y.size ≤ sizeLine ∧ k = ((y.size : Int) != 0)
  | .ref p => (∃ xs, SqL K H p xs ∧ k = !xs.isEmpty) ∨ (∃ xs, SqT K H p xs ∧ k = !xs.isEmpty) ∨ ∃ kvs, H p = some (.dK kvs) ∧ k = !kvs.isEmpty
  | _ => False
theorem line63 : (sizeLine : Nat) < 2 ^ 63 := by rw [sizeLine_eq]; decide

/-! ### strs and bytes -/

def PlainIxT (b : Expr) : Prop := ∀ o i, subscripted b false o i = operate [o, i] (getItem o i)

/-! ### scalar builtins, by CallR -/
theorem vals1 {x : V} {us : List Value} (r : Vals [x] us) : ∃ u, us = [u] ∧ RelV x u := by
  cases r with
  | cons r1 r2 => cases r2; exact ⟨_, rfl, r1⟩
theorem call_abs : CallR X (.builtin "abs") (fun xs H Q => ∃ i, xs = [.int i] ∧ Q (.int (if i < 0 then -i else i)) H) := by
  intro pins s σ H xs us Q I r h
  obtain ⟨i, rfl, q⟩ := h
  obtain ⟨u, rfl, t, rfl⟩ := vals1 r
  exact call_abs_int fun u tk => ⟨.int (if i < 0 then -i else i), H, I.tok _, ⟨_, rfl⟩, q⟩
theorem call_int1 : CallR X (.type "int") (fun xs H Q => (∃ i, xs = [.int i] ∧ Q (.int i) H) ∨ ∃ k, xs = [.bl k] ∧ Q (.int (if k then 1 else 0)) H) := by
  intro pins s σ H xs us Q I r h
  rcases h with ⟨i, rfl, q⟩ | ⟨k, rfl, q⟩
  · obtain ⟨u, rfl, t, rfl⟩ := vals1 r
    exact call_int_int ⟨.int i, H, I, ⟨_, rfl⟩, q⟩
  · obtain ⟨u, rfl, r1⟩ := vals1 r
    cases r1
    exact call_int_bool ⟨.int (if k then 1 else 0), H, I.tok _, ⟨_, rfl⟩, q⟩
/-- len of a str, a bytes, a list, a tuple -/
def LenV (K : PySem.W.Frag) (x : V) (H : Hp) (n : Nat) : Prop :=
  match x with
  | .str y => y.length ≤ sizeLine ∧ n = y.length
  | .byt y => y.size ≤ sizeLine ∧ n = y.size
  | .ref p => (∃ xs, SqL K H p xs ∧ n = xs.length) ∨ ∃ xs, SqT K H p xs ∧ n = xs.length
  | _ => False
end
end L2

namespace L2
open PySem PySem.Spec PyProof.Rows

/-! ### an instance, its attributes a map -/
structure ObjM (h : Heap) (x dx C : Addr) (mA : Str → Option Value) : Prop where
  obj : h.get? x = some (PySem.W.instObj C dx)
  ns : h.Ns1 dx mA
  ne : dx ≠ x

theorem lookIn_ns {h : Heap} {dx : Addr} {mA : Str → Option Value} (n : h.Ns1 dx mA) : ∃ od, h.get? dx = some od ∧ ∀ name, PySem.W.lookIn name od = some (mA name) := by
  obtain ⟨o, es, ep, ho, hd, hk, _, hm⟩ := n
  refine ⟨o, ho, fun name => ?_⟩
  have e := hm name
  unfold nsFind findBy at e
  rw [← Array.find?_toList] at e
  unfold PySem.W.lookIn
  rw [hd]
  dsimp only
  split
  · rename_i y q
    rw [q] at e
    exact congrArg some e
  · rename_i q
    rw [q] at e
    have a : es.toList.any (·.refKey) = false := by
      rw [List.any_eq_false]
      intro y hy
      obtain ⟨z, t, hkey⟩ := hk y (Array.mem_toList_iff.mp hy)
      simp [DictEntry.refKey, hkey]
    have a' : ¬ es.toList.any (·.refKey) = true := by rw [a]; exact Bool.false_ne_true
    rw [if_neg a']
    exact congrArg some e

theorem ObjM.look {h : Heap} {x dx C : Addr} {mA : Str → Option Value} (I : ObjM h x dx C mA) : ∃ od, PySem.W.InstAt h x (PySem.W.instObj C dx) C (some od) ∧ ∀ name, PySem.W.lookIn name od = some (mA name) :=
  let ⟨od, ho, hl⟩ := lookIn_ns I.ns
  ⟨od, ⟨I.obj, rfl, rfl, ho⟩, hl⟩

section
variable {prog : Program} {w : World} {A : Around} {E : Value → Shared → Prop} {s : Shared} {K : PySem.W.Frag} {x dx C f : Addr} {mA : Str → Option Value} {name : Str} {v : Value}

theorem get_map {expr : Bool} {Q : Value → Shared → Prop} (X : K.In s.heap) (I : ObjM s.heap x dx C mA) (hg : PySem.W.plainGet K C name = true) (hh : PySem.W.hasDictIn K C = true)
    (ha : PySem.W.findIn K (.ref C) name = some none) (hv : mA name = some v) (hv' : PySem.W.handedIn v = true) (h : Q v { s with toks := s.toks + 1 }) :
    wpAny (model prog w) A (getAttr (.ref x) name expr) Q E s := by
  obtain ⟨od, J, hl⟩ := I.look
  exact PySem.W.get_value X J (PySem.W.plainGet_of hg).1 (PySem.W.findObj_own hh ha rfl (by rw [hl, hv])) hv' h


theorem get_meth {pl : Sem Bool} {Q : Value × List Value → Shared → Prop} (X : K.In s.heap) (I : ObjM s.heap x dx C mA) (hg : PySem.W.plainGet K C name = true)
    (hf : PySem.W.findIn K (.ref C) name = some (some (.ref f))) (ht : PySem.W.isFn K (.ref f) = true) (hv : mA name = none) (h : Q (.ref f, [.ref x]) s) :
    wpAny (model prog w) A (getMethod (.ref x) name pl) Q E s := by
  obtain ⟨od, J, hl⟩ := I.look
  exact PySem.W.method_fn X J (PySem.W.plainGet_of hg).1 (PySem.W.plainGet_of hg).2 hf (beq_iff_eq.mp ht) (by show (PySem.W.lookIn name od).map (·.isSome) = some false; rw [hl, hv]; rfl) h

theorem set_map {ns : List Str} {Q : Unit → Shared → Prop} (X : K.In s.heap) (I : ObjM s.heap x dx C mA)
    (hs : PySem.W.findIn K (.ref C) "__setattr__" = some (some (.builtin "object.__setattr__"))) (hp : PySem.W.plainOver K C = true) (ht : PySem.W.takerIn K C name = some none) (hh : PySem.W.hasDictIn K C = true)
    (hw : PySem.Within mA ns) (hsz : ns.length ≤ sizeLine)
    (h : ∀ h', ObjM h' x dx C (fun y => if y = name then some v else mA y) → Heap.SameBut dx s.heap h' → Q () { s with heap := h', toks := s.toks + 2 }) :
    wpAny (model prog w) A (setAttr (.ref x) name v) Q E s := by
  obtain ⟨od, J, hl⟩ := I.look
  refine PySem.W.set_plain X J hs (PySem.W.osa_open (s := { s with toks := s.toks + 1 }) (r := none) X J hp ht fun b => ?_)
  obtain ⟨cd, hc, hd'⟩ := PySem.W.any_some hh
  have hx : s.heap.get? x = some ⟨.ref C, some dx, .plain, #[]⟩ := I.obj
  refine wpAny_bind (wpAny_pure (wpAny_bind (wpAny_bind (wpAny_loadPart hx (wpAny_bind (PySem.W.Looks.here (s := { s with toks := s.toks + 1 }) (PySem.W.looks_clsIn X hc) ?_))))))
  rw [hd']
  refine wpAny_pure (a := some dx) (wpAny_bind (wpAny_pure (wpAny_bind ?_)))
  refine wpAny_nsSet1 (s := { s with toks := s.toks + 1 }) I.ns fun h' hn2 hs2 => ?_
  obtain ⟨oD, esD, epD, hoD, hdD, hcD⟩ := hn2.count (PySem.Within.cons name v hw)
  refine wpAny_bind (wpAny_lookBehind hoD (by rw [hdD]; exact pastItsLine_dict (Nat.le_trans hcD (by rw [List.length_cons]; omega))) ?_)
  exact wpAny_pure (h _ ⟨(hs2.2 _ (Ne.symm I.ne)).trans I.obj, hn2, I.ne⟩ hs2)

/-- C(..): the dict at the heap's end, the instance behind it; then its __init__ -/
theorem make_map {R : Result → Shared → Prop} {vs : List Value} {kw : List (Str × Value)} (X : K.In s.heap) (hm : PySem.W.makesIn K C = true)
    (hi : PySem.W.findIn K (.ref C) "__init__" = some (some (.ref f))) (hf : PySem.W.typeIn K (.ref f) = some (.type "function"))
    (h : codeAny (model prog w) (A.under (.builtin "type.__call__" ⟨.ref C :: vs, kw⟩)) (.call (.ref f) ⟨.ref (s.heap.objs.size + 1) :: vs, kw⟩) (PySem.W.InitBack (s.heap.objs.size + 1) R)
      { s with heap := (s.heap.push PySem.W.emptyDict).push (PySem.W.instObj C s.heap.objs.size) }) :
    codeAny (model prog w) A (.call (.ref C) ⟨vs, kw⟩) R s := by
  obtain ⟨hh, g, d, t, os⟩ := s
  exact PySem.W.make_core (PySem.W.makes_of X hm) (PySem.W.looks_findIn X hi) (fun self => PySem.W.bind_fn X self hf) (.inl rfl) h
end

/-! ### the attributes as a list of pairs -/
def putF (f : Str) (v : V) : List (Str × V) → List (Str × V)
  | [] => [(f, v)]
  | (g, x) :: r => if g = f then (g, v) :: r else (g, x) :: putF f v r
theorem lookup_putF (f g : Str) (v : V) : ∀ fs : List (Str × V), (putF f v fs).lookup g = if g = f then some v else fs.lookup g
  | [] => by
    show List.lookup g [(f, v)] = _
    by_cases h : g = f
    · have hb : (g == f) = true := beq_iff_eq.mpr h
      simp only [List.lookup, hb, if_pos h]
    · have hb : (g == f) = false := beq_eq_false_iff_ne.mpr h
      simp only [List.lookup, hb, if_neg h]
  | (k, x) :: r => by
    have ih := lookup_putF f g v r
    rw [show putF f v ((k, x) :: r) = (if k = f then (k, v) :: r else (k, x) :: putF f v r) from rfl]
    by_cases hk : k = f
    · rw [if_pos hk]
      by_cases h : g = k
      · have hb : (g == k) = true := beq_iff_eq.mpr h
        simp only [List.lookup, hb, if_pos (h.trans hk)]
      · have hb : (g == k) = false := beq_eq_false_iff_ne.mpr h
        simp only [List.lookup, hb, if_neg (fun e : g = f => h (e.trans hk.symm))]
    · rw [if_neg hk]
      by_cases h : g = k
      · have hb : (g == k) = true := beq_iff_eq.mpr h
        simp only [List.lookup, hb, if_neg (fun e : g = f => hk (h.symm.trans e))]
      · have hb : (g == k) = false := beq_eq_false_iff_ne.mpr h
        simp only [List.lookup, hb]
        exact ih
theorem keys_putF (f : Str) (v : V) : ∀ fs : List (Str × V), f ∈ (putF f v fs).map (·.1) ∧ ∀ g, g ∈ fs.map (·.1) → g ∈ (putF f v fs).map (·.1)
  | [] => ⟨by simp [putF], fun g h => by simp at h⟩
  | (k, x) :: r => by
    obtain ⟨i1, i2⟩ := keys_putF f v r
    rw [show putF f v ((k, x) :: r) = (if k = f then (k, v) :: r else (k, x) :: putF f v r) from rfl]
    by_cases hk : k = f
    · rw [if_pos hk]
      subst hk
      exact ⟨by simp, fun g h => by simpa using h⟩
    · rw [if_neg hk]
      refine ⟨?_, fun g h => ?_⟩
      · rw [List.map_cons]
        exact List.mem_cons_of_mem _ i1
      · rw [List.map_cons] at h ⊢
        rcases List.mem_cons.mp h with e | e
        · exact List.mem_cons.mpr (.inl e)
        · exact List.mem_cons_of_mem _ (i2 g e)
theorem length_putF (f : Str) (v : V) : ∀ fs : List (Str × V), (putF f v fs).length ≤ fs.length + 1
  | [] => by simp [putF]
  | (k, x) :: r => by
    have ih := length_putF f v r
    rw [show putF f v ((k, x) :: r) = (if k = f then (k, v) :: r else (k, x) :: putF f v r) from rfl]
    by_cases hk : k = f
    · rw [if_pos hk, List.length_cons, List.length_cons]; omega
    · rw [if_neg hk, List.length_cons, List.length_cons]; omega

theorem RelO.some_of {v : V} {o : Option Value} (r : RelO (some v) o) : ∃ u, o = some u ∧ RelV v u := by
  cases o with
  | none => exact (show False from r).elim
  | some u => exact ⟨u, rfl, r⟩
theorem RelO.none_of {o : Option Value} (r : RelO none o) : o = none := by
  cases o with
  | none => rfl
  | some u => exact (show False from r).elim
theorem handed_of {v : V} {u : Value} (r : RelV v u) : PySem.W.handedIn u = true := by
  cases v with
  | non => cases (show u = Value.none from r); rfl
  | bl b => cases (show u = Value.bool b from r); rfl
  | int i => obtain ⟨t, e⟩ := (show ∃ t, u = Value.int i t from r); cases e; rfl
  | str x => obtain ⟨t, e⟩ := (show ∃ t, u = Value.str x t from r); cases e; rfl
  | byt b => obtain ⟨t, e⟩ := (show ∃ t, u = Value.bytes b t from r); cases e; rfl
  | flt b => obtain ⟨t, e⟩ := (show ∃ t, u = Value.float b t from r); cases e; rfl
  | ref a => cases (show u = Value.ref a from r); rfl
  | ty n => cases (show u = Value.type n from r); rfl

section
variable {P : Program} {w : World} {H H' : Hp} {h h' : Heap} {a C dx : Addr} {fs fs' : List (Str × V)}
theorem ins_get (hok : HOk P w H h) (e : H a = some (.ins C dx fs)) : ∃ mA, ObjM h a dx C mA ∧ (∀ f, RelO (fs.lookup f) (mA f)) ∧ PySem.Within mA (fs.map (·.1)) ∧ fs.length ≤ 1000 ∧ H dx = some (.own a) := by
  obtain ⟨d, z, ne, ob, mA, n, r, q⟩ := (show ObjOk P w H h a (.ins C dx fs) from hok a _ e)
  exact ⟨mA, ⟨ob, n, ne⟩, r, q, z, d⟩
end

/-! ### what of the text a class must have -/
structure Cls (K : PySem.W.Frag) (C : Addr) : Prop where
  pg : PySem.W.plainGet K C Str.empty = true
  hd : PySem.W.hasDictIn K C = true
  po : PySem.W.plainOver K C = true
  sa : PySem.W.findIn K (.ref C) "__setattr__" = some (some (.builtin "object.__setattr__"))
theorem Cls.get {K : PySem.W.Frag} {C : Addr} (c : Cls K C) (f : Str) : PySem.W.plainGet K C f = true := c.pg
/-- no class of it has the name -/
def NoAttr (K : PySem.W.Frag) (C : Addr) (f : Str) : Prop := PySem.W.findIn K (.ref C) f = some none
theorem NoAttr.taker {K : PySem.W.Frag} {C : Addr} {f : Str} (n : NoAttr K C f) : PySem.W.takerIn K C f = some none := by
  unfold PySem.W.takerIn
  rw [show PySem.W.findIn K (.ref C) f = some none from n]
  rfl
/-- a constant of the class -/
structure Con (K : PySem.W.Frag) (C : Addr) (f : Str) (v : V) (u : Value) : Prop where
  at_ : PySem.W.findIn K (.ref C) f = some (some u)
  rel : RelV v u
  get : PySem.W.specialIn K u "__get__" = some none
  cp : PySem.W.copiedNames.contains f = false
/-- a method: a plain def of the class or of one above it -/
structure Meth (K : PySem.W.Frag) (C : Addr) (m : Str) (f : Addr) : Prop where
  at_ : PySem.W.findIn K (.ref C) m = some (some (.ref f))
  fn : PySem.W.isFn K (.ref f) = true
  kp : PySem.W.keepIn K (.ref f) = true

section
variable {X : Cx} {pins : List (Addr × Obj)} {σ : St} {H : Hp} {s : Shared} {a C dx : Addr} {fs : List (Str × V)} {f : Str} {v : V} {A : Around} {E : Value → Shared → Prop}

theorem getattr_ok {b : Bool} {Q : Value → Shared → Prop} (I : Inv X pins σ H s) (e : H a = some (.ins C dx fs)) (c : Cls X.K C) (n : NoAttr X.K C f) (l : fs.lookup f = some v)
    (h : ∀ u s', Inv X pins σ H s' → RelV v u → Q u s') : wpAny (model X.prog X.w) A (getAttr (.ref a) f b) Q E s := by
  obtain ⟨mA, O, r, _, _, _⟩ := ins_get I.hok e
  obtain ⟨u, hu, ru⟩ := RelO.some_of (v := v) (o := mA f) (by rw [← l]; exact r f)
  exact get_map I.kIn O (c.get f) c.hd n hu (handed_of ru) (h u _ (I.tok _) ru)


theorem getmeth_ok {m : Str} {g : Addr} {pl : Sem Bool} {Q : Value × List Value → Shared → Prop} (I : Inv X pins σ H s) (e : H a = some (.ins C dx fs)) (c : Cls X.K C) (k : Meth X.K C m g) (l : fs.lookup m = none)
    (h : Q (.ref g, [.ref a]) s) : wpAny (model X.prog X.w) A (getMethod (.ref a) m pl) Q E s := by
  obtain ⟨mA, O, r, _, _, _⟩ := ins_get I.hok e
  have hn : mA m = none := RelO.none_of (by rw [← l]; exact r m)
  exact get_meth I.kIn O (c.get m) k.at_ k.fn hn h

theorem setattr_ok {y : V} {u : Value} {Q : Unit → Shared → Prop} (I : Inv X pins σ H s) (e : H a = some (.ins C dx fs)) (c : Cls X.K C) (n : NoAttr X.K C f) (hl : fs.length < 1000) (ry : RelV y u)
    (h : ∀ s', Inv X pins σ (upd H a (.ins C dx (putF f y fs))) s' → Q () s') : wpAny (model X.prog X.w) A (setAttr (.ref a) f u) Q E s := by
  obtain ⟨mA, O, r, wi, _, ho⟩ := ins_get I.hok e
  have hz : (fs.map (·.1)).length ≤ sizeLine := by rw [List.length_map, sizeLine_eq]; omega
  refine set_map I.kIn O c.sa c.po n.taker c.hd wi hz fun h' O' sb => h _ ?_
  have hd : ∃ o, h'.get? dx = some o := let ⟨o, _, _, e', _⟩ := O'.ns; ⟨o, e'⟩
  refine I.write (x := a) (e := dx) (by rw [e]; exact True.intro) (.inr ho) (fun b q hb z => (sb.2 b hb).trans z) hd ?_
  refine ⟨by rw [upd_ne O.ne]; exact ho, ?_, O.ne, O'.obj, _, O'.ns, fun g => ?_, fun g hg => ?_⟩
  · have := length_putF f y fs; omega
  · show RelO ((putF f y fs).lookup g) (if g = f then some u else mA g)
    rw [lookup_putF]
    by_cases q : g = f
    · rw [if_pos q, if_pos q]; exact ry
    · rw [if_neg q, if_neg q]; exact r g
  · by_cases q : g = f
    · rw [q]; exact (keys_putF f y fs).1
    · refine (keys_putF f y fs).2 g (wi g fun z => hg ?_)
      show (if g = f then some u else mA g) = none
      rw [if_neg q]; exact z

/-- a new instance, tracked, without attributes -/
theorem Inv.made (I : Inv X pins σ H s) : Inv X pins σ (upd (upd H s.heap.objs.size (.own (s.heap.objs.size + 1))) (s.heap.objs.size + 1) (.ins C s.heap.objs.size []))
    { s with heap := (s.heap.push PySem.W.emptyDict).push (PySem.W.instObj C s.heap.objs.size) } := by
  have e1 : (s.heap.push PySem.W.emptyDict).get? s.heap.objs.size = some PySem.W.emptyDict := Heap.get?_push_size s.heap rfl
  have e2 : ((s.heap.push PySem.W.emptyDict).push (PySem.W.instObj C s.heap.objs.size)).get? (s.heap.objs.size + 1) = some (PySem.W.instObj C s.heap.objs.size) := by
    have := Heap.get?_push_size (s.heap.push PySem.W.emptyDict) (o := PySem.W.instObj C s.heap.objs.size) rfl
    rwa [Heap.size_push] at this
  have e3 : (s.heap.push PySem.W.emptyDict).Ns s.heap.objs.size (fun _ => none) := ⟨PySem.W.emptyDict, #[], _, e1, rfl, (fun e he => absurd he (by simp)), fun _ => rfl⟩
  have I1 := I.laid (a := s.heap.objs.size) (o := .own (s.heap.objs.size + 1)) (h' := s.heap.push PySem.W.emptyDict) (t' := s.toks) (fun b u q => Heap.get?_push_of_some _ q) (Nat.le_refl _) ⟨_, e1⟩
  refine I1.laid (a := s.heap.objs.size + 1) (o := .ins C s.heap.objs.size []) (t' := s.toks) (fun b u q => Heap.get?_push_of_some _ q) (Nat.le_of_eq (Heap.size_push _ _)) ?_
  have ne : s.heap.objs.size ≠ s.heap.objs.size + 1 := Nat.ne_of_lt (Nat.lt_succ_self _)
  refine ⟨by rw [upd_ne ne, upd_same], Nat.zero_le _, ne, e2, fun _ => none, (Heap.Ns1.of_empty e3).at fun o q => Heap.get?_push_of_some _ q, fun _ => True.intro, fun y hy => absurd rfl hy⟩

/-- e.f where nothing but the object is asked: through attributeBase (super) and the last hold -/
theorem attr_of {prog : Program} {w : World} {env : Env} {e : Expr} {f : Str} {pos : Pos} {s : Shared} {Q : Value → Shared → Prop} (hb : attributeBase e f env (eval e env) = eval e env)
    (h : wpAny (model prog w) A (eval e env) (fun o s₁ => wpAny (model prog w) A (getAttr o f true) Q E s₁) E s) : wpAny (model prog w) A (eval (.Attribute e f pos) env) Q E s :=
  Attribute_any_ h (by rw [arm_eval_Attribute, hb])
end

/-! ### readings and rules -/
/-- e.f, an attribute of the instance -/
def tFld (K : PySem.W.Frag) (ta : TE) (f : Str) : TE := fun σ H Q => ta σ H fun x H1 => ∃ a C dx fs v, x = .ref a ∧ H1 a = some (.ins C dx fs) ∧ Cls K C ∧ NoAttr K C f ∧ fs.lookup f = some v ∧ Q v H1
/-- e.f, a constant of the class -/
def tCon (K : PySem.W.Frag) (ta : TE) (f : Str) : TE := fun σ H Q => ta σ H fun x H1 => ∃ a C dx fs v u, x = .ref a ∧ H1 a = some (.ins C dx fs) ∧ Cls K C ∧ Con K C f v u ∧ fs.lookup f = none ∧ Q v H1
/-- e.f = value -/
def sFld (K : PySem.W.Frag) (ta tv : TE) (f : Str) : TS := fun D σ H => tv σ H fun y H1 => ta σ H1 fun x H2 => ∃ a C dx fs, x = .ref a ∧ H2 a = some (.ins C dx fs) ∧ Cls K C ∧ NoAttr K C f ∧ fs.length < 1000 ∧
  D.nx σ (upd H2 a (.ins C dx (putF f y fs)))
/-- an augmented operator on two values -/
def InOp (X : Cx) (op : Operator) (rd : V → V → Hp → VK → Prop) : Prop :=
  ∀ (pins : List (Addr × Obj)) (s : Shared) (σ : St) (H : Hp) (x y : V) (u v : Value) (Q : VK), Inv X pins σ H s → RelV x u → RelV y v → rd x y H Q → wpAny (model X.prog X.w) X.A (inplaceOp op u v) (EP X pins σ Q) X.xe s
/-- e.f op= value -/
def sFldAug (K : PySem.W.Frag) (ta tv : TE) (rd : V → V → Hp → VK → Prop) (f : Str) : TS := fun D σ H => ta σ H fun x H1 => ∃ a C dx fs v, x = .ref a ∧ H1 a = some (.ins C dx fs) ∧ Cls K C ∧ NoAttr K C f ∧ fs.lookup f = some v ∧
  tv σ H1 fun y H2 => rd v y H2 fun z H3 => ∃ dx' fs', H3 a = some (.ins C dx' fs') ∧ fs'.length < 1000 ∧ D.nx σ (upd H3 a (.ins C dx' (putF f z fs')))

section
variable {X : Cx} {o e value : Expr} {f : Str} {pos pos' tpos : Pos} {ta tv : TE}
theorem pe_fld (he : PE X e ta) (hb : attributeBase e f X.env (eval e X.env) = eval e X.env) : PE X (.Attribute e f pos) (tFld X.K ta f) := by
  intro pins s σ H Q I h
  refine attr_of hb (thn (he pins s σ H _ I h) fun u s1 ⟨x, H1, I1, rx, a, C, dx, fs, v, ex, ea, c, n, l, q⟩ => ?_)
  subst ex
  obtain rfl : u = Value.ref a := rx
  exact getattr_ok I1 ea c n l fun u' s2 I2 ru => ⟨v, H1, I2, ru, q⟩
theorem ps_fld (ha : PE X o ta) (hv : PE X value tv) (hs : swapsWith value (some (.Attribute o f pos')) pos.line X.env = pure false) : PS X (.Assign [.Attribute o f pos'] value pos) (sFld X.K ta tv f) := by
  intro pins s σ H D I h
  refine plainObj_wpAny_Assign_Attribute (thn (hv pins s σ H _ I h) fun u s1 ⟨y, H1, I1, ry, q⟩ => thn (ha pins s1 σ H1 _ I1 q) fun ov s2 ⟨x, H2, I2, rx, a, C, dx, fs, ex, ea, c, n, l, q2⟩ => ?_) hs
  subst ex
  obtain rfl : ov = Value.ref a := rx
  exact setattr_ok I2 ea c n l ry fun s3 I3 => ⟨σ, _, I3, q2⟩
def rAdd : V → V → Hp → VK → Prop := fun x y H Q => ∃ i j, x = .int i ∧ y = .int j ∧ Q (.int (i + j)) H
def rSub : V → V → Hp → VK → Prop := fun x y H Q => ∃ i j, x = .int i ∧ y = .int j ∧ Q (.int (i - j)) H

end

/-! ### isinstance -/
section
variable {X : Cx} {pins : List (Addr × Obj)} {σ : St} {H : Hp} {s : Shared} {A : Around} {E : Value → Shared → Prop} {Q : Value → Shared → Prop} {c : Value} {b : Bool}
/-- the type of a value, as the fragment's deciders take it; for an instance its class -/
inductive TyOf (K : PySem.W.Frag) (H : Hp) : V → Value → Prop where
  | non : TyOf K H .non (.type "NoneType")
  | bl (x : Bool) : TyOf K H (.bl x) (.type "bool")
  | int (i : Int) : TyOf K H (.int i) (.type "int")
  | str (x : Str) : TyOf K H (.str x) (.type "str")
  | flt (x : UInt64) : TyOf K H (.flt x) (.type "float")
  | lst {a : Addr} {xs : List V} (e : H a = some (.lst xs)) : TyOf K H (.ref a) (.type "list")
  | frz {a : Addr} {o : Obj} {xs : List V} (e : H a = some (.frz o (.lst xs))) : TyOf K H (.ref a) (.type "list")
  | tup {a : Addr} {xs : List V} (e : H a = some (.tup xs)) : TyOf K H (.ref a) (.type "tuple")
  | dK {a : Addr} {kvs : List (Key × V)} (e : H a = some (.dK kvs)) : TyOf K H (.ref a) (.type "dict")
  | dT {a : Addr} {kvs : List (List Key × V)} (e : H a = some (.dT kvs)) : TyOf K H (.ref a) (.type "dict")
  | ins {a C dx : Addr} {fs : List (Str × V)} (e : H a = some (.ins C dx fs)) (cl : Cls K C) (ha : PySem.W.findIn K (.ref C) "__class__" = some (some (.builtin "object.__class__")))
      (hn : PySem.W.specialIn K (.builtin "object.__class__") "__get__" = some (some (.builtin "getset_descriptor.__get__"))) (htk : PySem.W.takesIn K (.builtin "object.__class__") = some true)
      (hm : PySem.W.mroIn K C (.type "object") = some true) : TyOf K H (.ref a) (.ref C)
/-- isinstance(x, c) for one class c, a built-in or an own one: kitOne's answer -/
theorem isinst_ok {x : V} {u t : Value} (I : Inv X pins σ H s) (rx : RelV x u) (ty : TyOf X.K H x t) (e : PySem.W.kitOne X.K t c = some b) (h : ∀ tk, Q (.bool b) { s with toks := tk }) :
    wpAny (model X.prog X.w) A (call (.builtin "isinstance") [u, c]) Q E s := by
  cases ty with
  | non => cases (show u = Value.none from rx); exact PySem.W.kia_one PySem.W.kitx_none I.kIn True.intro e (fun z => nomatch z) h
  | bl y => cases (show u = Value.bool y from rx); exact PySem.W.kia_one PySem.W.kitx_bool I.kIn True.intro e (fun z => nomatch z) h
  | int i => obtain ⟨t, q⟩ := (show ∃ t, u = Value.int i t from rx); cases q; exact PySem.W.kia_one PySem.W.kitx_int I.kIn True.intro e (fun z => nomatch z) h
  | str y => obtain ⟨t, q⟩ := (show ∃ t, u = Value.str y t from rx); cases q; exact PySem.W.kia_one PySem.W.kitx_str I.kIn True.intro e (fun z => nomatch z) h
  | flt y => obtain ⟨t, q⟩ := (show ∃ t, u = Value.float y t from rx); cases q; exact PySem.W.kia_one PySem.W.kitx_float I.kIn True.intro e (fun z => nomatch z) h
  | @lst a xs ea =>
    cases (show u = Value.ref a from rx)
    obtain ⟨_, _, n, _, h1⟩ := (show ObjOk X.prog X.w H s.heap a (.lst xs) from I.hok a _ ea)
    exact PySem.W.kia_one PySem.W.kitx_list I.kIn ⟨_, h1, rfl⟩ e (fun z => nomatch z) h
  | @frz a ob xs ea =>
    cases (show u = Value.ref a from rx)
    obtain ⟨_, _, _, n, _, h1⟩ := (show ObjOk X.prog X.w H s.heap a (.frz ob (.lst xs)) from I.hok a _ ea)
    exact PySem.W.kia_one PySem.W.kitx_list I.kIn ⟨_, h1, rfl⟩ e (fun z => nomatch z) h
  | @tup a xs ea =>
    cases (show u = Value.ref a from rx)
    obtain ⟨_, _, _, p⟩ := (show ObjOk X.prog X.w H s.heap a (.tup xs) from I.hok a _ ea)
    obtain ⟨o, h1, h2, _⟩ := p
    exact PySem.W.kia_one PySem.W.kitx_tuple I.kIn ⟨o, h1, h2⟩ e (fun z => nomatch z) h
  | @dK a kvs ea =>
    cases (show u = Value.ref a from rx)
    obtain ⟨_, _, vs, _, p⟩ := (show ObjOk X.prog X.w H s.heap a (.dK kvs) from I.hok a _ ea)
    obtain ⟨o, es, ep, h1, h2, _⟩ := p
    exact PySem.W.kia_one PySem.W.kitx_dict I.kIn ⟨o, h1, h2.1⟩ e (fun z => nomatch z) h
  | @dT a kvs ea =>
    cases (show u = Value.ref a from rx)
    obtain ⟨_, _, xs, _, o, es, ep, h1, h2, _⟩ := (show ObjOk X.prog X.w H s.heap a (.dT kvs) from I.hok a _ ea)
    exact PySem.W.kia_one PySem.W.kitx_dict I.kIn ⟨o, h1, h2.1⟩ e (fun z => nomatch z) h
  | @ins a C dx fs ea cl ha hn htk hm =>
    cases (show u = Value.ref a from rx)
    obtain ⟨mA, O, _⟩ := ins_get I.hok ea
    obtain ⟨od, J, _⟩ := O.look
    exact PySem.W.kia_one (PySem.W.kitx_own (cl.get _) cl.hd ha hn htk hm) I.kIn J e (fun z => nomatch z) h
end
end L2

namespace L2
open PySem PySem.Spec PyProof.Rows

/-! ### room -/
structure Room (k : Nat) (A : Around) : Prop where
  hd : A.handled = none
  dp : A.depth + 3 * k + 5 < recursionLimit
  un : A.units + 16 * k + 200 < cLine
theorem Room.mono {j k : Nat} {A : Around} (r : Room k A) (h : j ≤ k) : Room j A := ⟨r.hd, by have := r.dp; omega, by have := r.un; omega⟩
theorem Room.deeper {k : Nat} {A : Around} (r : Room (k + 1) A) (env : Env) : Room k (A.deeper env) :=
  ⟨r.hd, by have := r.dp; show A.depth + 1 + 3 * k + 5 < _; omega, by have := r.un; show A.units + 3 + 16 * k + 200 < _; omega⟩
theorem make_depth {A : Around} {C : Addr} {us : List Value} {kw : List (Str × Value)} : (A.under (.builtin "type.__call__" ⟨.ref C :: us, kw⟩)).depth = A.depth + 1 := by
  first | rfl | simp [Around.under, Code.weight, Code.isCreation, Code.isGuard, Code.isCaller, Code.frames, Code.isFrame, guardIds]
theorem make_units {A : Around} {C : Addr} {us : List Value} {kw : List (Str × Value)} : (A.under (.builtin "type.__call__" ⟨.ref C :: us, kw⟩)).units = A.units + 1 := by
  first | rfl | simp [Around.under, Code.cUnits, Code.frames, Code.isFrame]
theorem Room.make {k : Nat} {A : Around} (r : Room (k + 1) A) (C : Addr) (us : List Value) (kw : List (Str × Value)) : Room k (A.under (.builtin "type.__call__" ⟨.ref C :: us, kw⟩)) :=
  ⟨r.hd, by have := r.dp; rw [make_depth]; omega, by have := r.un; rw [make_units]; omega⟩
theorem Room.depth {k : Nat} {A : Around} (r : Room k A) : A.depth < recursionLimit := by have := r.dp; omega

/-! ### argument lists and displays -/
def tNil : TA := fun _ H Q => Q [] H
def tCons (ta : TE) (tr : TA) : TA := fun σ H Q => ta σ H fun x H1 => tr σ H1 fun xs H2 => Q (x :: xs) H2
section
variable {X : Cx} {e : Expr} {es : List Expr} {te : TE} {t : TA} {pos : Pos}
theorem pa_nil : PA X [] tNil := fun _ _ _ _ H Q I h => Calls.spliced_nil ⟨[], H, I, .nil, h⟩
theorem pa_cons (ha : PE X e te) (hr : PA X es t) (hs : starEach (e :: es) X.env = (false, eval e X.env) :: starEach es X.env := by rfl) : PA X (e :: es) (tCons te t) := by
  intro pos pins s σ H Q I h
  rw [hs]
  show wpAny _ _ (spliced ((false, eval e X.env) :: backTo pos (starEach es X.env))) _ _ s
  refine Calls.spliced_cons (thn (ha pins s σ H _ I h) fun u s1 ⟨x, H1, I1, r1, q1⟩ => ?_)
  exact thn (hr pos pins s1 σ H1 _ I1 q1) fun us s2 ⟨xs, H2, I2, r2, q2⟩ => ⟨x :: xs, H2, I2, .cons r1 r2, q2⟩

/-- a tuple, a list of written items -/
def tTup (t : TA) : TE := fun σ H Q => t σ H fun xs H1 => xs.length ≤ sizeLine ∧ ∀ p, H1 p = none → Q (.ref p) (upd H1 p (.tup xs))
def tLst (t : TA) : TE := fun σ H Q => t σ H fun xs H1 => xs.length ≤ sizeLine ∧ ∀ p, H1 p = none → Q (.ref p) (upd H1 p (.lst xs))
theorem pe_tup {x1} (h : PA X es t) : PE X (.Tuple es x1 pos) (tTup t) := by
  intro pins s σ H Q I hq
  refine wpAny_Tuple_spliced (thn (h pos pins s σ H _ I hq) fun us s1 ⟨xs, H1, I1, r, z, q⟩ => ⟨by rw [← r.length]; exact z, ?_⟩)
  have hf : H1 s1.heap.objs.size = none := I1.hok.fresh (Nat.le_refl _)
  refine ⟨.ref s1.heap.objs.size, upd H1 s1.heap.objs.size (.tup xs), I1.laid (t' := s1.toks) (fun b u e => Heap.get?_push_of_some _ e) (Nat.le_refl _) ?_, rfl, q _ hf⟩
  exact ⟨z, us, r, ⟨_, Heap.get?_push_size _ rfl, rfl, _, rfl⟩⟩
theorem pe_lst (h : PA X es t) : PE X (.List es pos) (tLst t) := by
  intro pins s σ H Q I hq
  refine wpAny_List_spliced (thn (h pos pins s σ H _ I hq) fun us s1 ⟨xs, H1, I1, r, z, q⟩ => ⟨by rw [← r.length]; exact z, ?_⟩)
  have hf : H1 s1.heap.objs.size = none := I1.hok.fresh (Nat.le_refl _)
  refine ⟨.ref s1.heap.objs.size, upd H1 s1.heap.objs.size (.lst xs), I1.laid (t' := s1.toks) (fun b u e => Heap.get?_push_of_some _ e) (Nat.le_refl _) ?_, rfl, q _ hf⟩
  exact ⟨z, us, 0, r, Heap.get?_push_size _ rfl⟩
end

/-! ### what a def promises -/
/-- a def's promise: the bound arguments in the parameters' order, the heap, the wanted end, the wanted exception -/
abbrev Sp := List V → Hp → VK → XK → Prop
/-- how an exception lies behind a call (file 08 gives it): the callers' frames, abstract heap and state ahead of the call, the wish, the exception, the state -/
abbrev CXT := List Env → Hp → Shared → XK → Value → Shared → Prop

/-- the state at a call -/
structure Env0 (P : Program) (w : World) (K : PySem.W.Frag) (mg : Str → Option Value) (base : Heap) (A : Around) (outer : List Env) (s : Shared) (H : Hp) : Prop where
  frames : A.frames = some outer
  mod : Mod K mg base
  bs : ∀ b o, base.get? b = some o → s.heap.get? b = some o ∧ H b = none
  bsz : base.objs.size ≤ s.heap.objs.size
  funs : s.heap.FunFrames base outer
  frf : ∀ b ∈ frs outer, H b = none
  hok : HOk P w H s.heap
  bare : AllBare s.gens
/-- a call's end -/
def CE (outer : List Env) (P : Program) (w : World) (H : Hp) (s : Shared) (Q : VK) (u : Value) (s' : Shared) : Prop :=
  ∃ v H', s'.os = s.os ∧ AllBare s'.gens ∧ Un (frs outer) [] H H' s.heap s'.heap ∧ HOk P w H' s'.heap ∧ RelV v u ∧ Q v H'
def CR (CX : CXT) (outer : List Env) (P : Program) (w : World) (H : Hp) (s : Shared) (Q : VK) (E : XK) (r : Result) (s' : Shared) : Prop :=
  match r with
  | .ok (.ret u) => CE outer P w H s Q u s'
  | .ok _ => False
  | .error e => CX outer H s E e s'
structure FnOk (P : Program) (w : World) (K : PySem.W.Frag) (mg : Str → Option Value) (base : Heap) (CX : CXT) (k : Nat) (f : Addr) (fd : FuncData) (ps : List Str) (sp : Sp) : Prop where
  len : ∀ vs H Q E, sp vs H Q E → vs.length = ps.length
  run : ∀ (A : Around) (outer : List Env) (s : Shared) (H : Hp) (args : Args) (us : List Value) (vs : List V) (Q : VK) (E : XK), Room k A → Env0 P w K mg base A outer s H → BindsTo s fd args (ps.zip us) → Vals vs us → sp vs H Q E →
    codeAny (model P w) A (.call (.ref f) args) (CR CX outer P w H s Q E) s

theorem Env0.make {P : Program} {w : World} {K : PySem.W.Frag} {mg : Str → Option Value} {base : Heap} {A : Around} {outer : List Env} {s : Shared} {H : Hp} (e : Env0 P w K mg base A outer s H) (C : Addr) (us : List Value) (kw : List (Str × Value)) :
    Env0 P w K mg base (A.under (.builtin "type.__call__" ⟨.ref C :: us, kw⟩)) outer s H := ⟨by first | exact e.frames | (simpa [Around.under, Code.envs, Code.isFrame, pushEnvs] using e.frames), e.mod, e.bs, e.bsz, e.funs, e.frf, e.hok, e.bare⟩

section
variable {X : Cx} {pins : List (Addr × Obj)} {σ : St} {H : Hp} {s s' : Shared}
/-- from a body: what a callee wants -/
theorem Inv.env0 (I : Inv X pins σ H s) : Env0 X.prog X.w X.K X.mg X.base X.A X.stack s H :=
  ⟨I.ok.frames, I.ok.mod, I.bs, Nat.le_trans I.ok.bsz I.sz, I.stack, I.stkFree, I.hok, I.bare⟩
/-- behind a call -/
theorem Inv.after {Q : VK} {u : Value} (I : Inv X pins σ H s) (h : CE X.stack X.prog X.w H s Q u s') : EP X pins σ Q u s' := by
  obtain ⟨v, H', os, bare, un, hok, r, q⟩ := h
  obtain ⟨hh, g, d, t, os'⟩ := s'
  obtain rfl : os' = s.os := os
  exact ⟨v, H', I.call (h' := hh) (g' := g) (d' := d) (t' := t) (ch := []) un hok bare (fun b z => absurd z (by simp)), r, q⟩
end

/-! ### calls -/
/-- f(..): the written arguments, then the defaults dvs; E: what is wanted of an exception -/
def tCall (sp : Sp) (dvs : List V) (E : XK) (t : TA) : TE := fun σ H Q => t σ H fun vs H1 => sp (vs ++ dvs) H1 Q E
/-- o.m(..) of an instance of the class at C -/
def tMeth (C : Addr) (m : Str) (sp : Sp) (dvs : List V) (E : XK) (ta : TE) (t : TA) : TE := fun σ H Q => ta σ H fun x H1 => ∃ a dx fs, x = .ref a ∧ H1 a = some (.ins C dx fs) ∧ fs.lookup m = none ∧
  t σ H1 fun vs H2 => sp (x :: (vs ++ dvs)) H2 Q E
/-- C(..): a new instance and its dict, then __init__ -/
def tMake (C : Addr) (sp : Sp) (dvs : List V) (E : XK) (t : TA) : TE := fun σ H Q => t σ H fun vs H1 => ∀ x dx, H1 x = none → H1 dx = none → dx ≠ x →
  sp (.ref x :: (vs ++ dvs)) (upd (upd H1 dx (.own x)) x (.ins C dx [])) (fun v H2 => v = .non ∧ Q (.ref x) H2) E

/-- how the parameters are bound: us the positional arguments, kw the keywords' values by name, ds the defaults that fill up -/
def Binds (K : PySem.W.Frag) (fd : FuncData) (ps : List Str) (ds : List Value) : Prop :=
  ∀ (s : Shared) (us : List Value), K.In s.heap → (us ++ ds).length = ps.length → BindsTo s fd ⟨us, []⟩ (ps.zip (us ++ ds))
/-- every parameter is given -/
theorem Binds.all {K : PySem.W.Frag} {fd : FuncData} {ps : List Str} (h : ∀ us : List Value, us.length = ps.length → bindArgs fd ⟨us, []⟩ = pure (ps.zip us)) : Binds K fd ps [] := fun s us _ hl => by
  rw [List.append_nil] at hl ⊢
  exact .of_eq (h us hl)

/-- an exception of a callee reaches what this body wants of exceptions -/
def Passes (CX : CXT) (X : Cx) (E : XK) : Prop := ∀ (pins : List (Addr × Obj)) (σ : St) (H : Hp) (s : Shared) (e : Value) (s' : Shared), Inv X pins σ H s → CX X.stack H s E e s' → X.xe e s'

section
variable {X : Cx} {CX : CXT} {k : Nat} {f C : Addr} {fd : FuncData} {ps : List Str} {sp : Sp} {dvs : List V} {ds : List Value} {E : XK} {x m : Str} {p pos apos : Pos} {e o : Expr} {es : List Expr} {ta : TE} {t : TA}

/-- the callee runs -/
theorem run_fn {pins : List (Addr × Obj)} {σ : St} {H : Hp} {s : Shared} {Q : VK} {us : List Value} {vs : List V} (F : FnOk X.prog X.w X.K X.mg X.base CX k f fd ps sp) (hr : Room k X.A) (hb : Binds X.K fd ps ds) (hd : Vals dvs ds) (hx : Passes CX X E)
    (I : Inv X pins σ H s) (r : Vals vs us) (h : sp (vs ++ dvs) H Q E) : wpAny (model X.prog X.w) X.A (call (.ref f) us) (EP X pins σ Q) X.xe s := by
  have r2 : Vals (vs ++ dvs) (us ++ ds) := r.append hd
  have hl : (us ++ ds).length = ps.length := by rw [← r2.length]; exact F.len _ _ _ _ h
  refine wpAny_call (codeAny_mono (F.run X.A X.stack s H ⟨us, []⟩ (us ++ ds) (vs ++ dvs) Q E hr I.env0 (hb s us I.kIn hl) r2 h) fun r s' hq => ?_)
  cases r with
  | error e => exact hx pins σ H s e s' I hq
  | ok fl =>
    cases fl with
    | ret u => exact I.after hq
    | next => exact False.elim hq
    | brk => exact False.elim hq
    | cont => exact False.elim hq

theorem pe_call (F : FnOk X.prog X.w X.K X.mg X.base CX k f fd ps sp) (hr : Room k X.A) (hg : Gl X x) (hm : X.mg x = some (.ref f)) (hk : PySem.W.keepIn X.K (.ref f) = true) (hb : Binds X.K fd ps ds) (hd : Vals dvs ds) (hx : Passes CX X E)
    (ha : PA X (e :: es) t) (hdb : (x == ("__debug__" : Str)) = false := by decide) (he : starEach (e :: es) X.env = (false, eval e X.env) :: starEach es X.env := by rfl) (hpl : (backTo pos (starEach es X.env)).any (·.1) = false := by rfl) :
    PE X (.Call (.Name x p) (e :: es) [] pos) (tCall sp dvs E t) := by
  intro pins s σ H Q I h
  refine wpAny_Call_Name_kw (ld_glob I hg hm ?_ hdb)
  refine PySem.W.callWith_K (h₀ := X.base) I.ok.mod.kin hk (thn (ha pos pins s σ H _ I h) fun us s1 ⟨vs, H1, I1, r, q⟩ => ⟨I1.kIn, ?_⟩) he hpl
  exact run_fn F hr hb hd hx I1 r q

/-- o.m(e, ..) -/
theorem pe_meth {pl : Sem Bool} (he : PE X o ta) (c : Cls X.K C) (hm : Meth X.K C m f) (F : FnOk X.prog X.w X.K X.mg X.base CX k f fd ps sp) (hr : Room k X.A) (hb : Binds X.K fd ps ds) (hd : Vals dvs ds) (hx : Passes CX X E) (ha : PA X (e :: es) t)
    (hst : starEach (e :: es) X.env = (false, eval e X.env) :: starEach es X.env := by rfl) (hpl : (backTo pos (starEach es X.env)).any (·.1) = false := by rfl)
    (ht : eval (.Call (.Attribute o m apos) (e :: es) [] pos) X.env = (do
      let ov ← eval o X.env
      standAt apos.atName
      let (f, first) ← holding [ov] (getMethod ov m pl)
      callWith pos f first (backTo pos (starEach (e :: es) X.env)) (backToKw pos (keywordEach [] X.env))) := by rfl) :
    PE X (.Call (.Attribute o m apos) (e :: es) [] pos) (tMeth C m sp dvs E ta t) := by
  intro pins s σ H Q I h
  refine PySem.W.methodCall_KW (pl := pl) (thn (he pins s σ H _ I h) fun u s1 ⟨x, H1, I1, rx, a, dx, fs, ex, ea, l, q⟩ => ?_) ht
  subst ex
  obtain rfl : u = Value.ref a := rx
  refine getmeth_ok I1 ea c hm l ?_
  refine PySem.W.callWith_K (first := [.ref a]) (h₀ := X.base) I.ok.mod.kin hm.kp (thn (ha pos pins s1 σ H1 _ I1 q) fun us s2 ⟨vs, H2, I2, r, q2⟩ => ⟨I2.kIn, ?_⟩) hst hpl
  exact run_fn (us := .ref a :: us) (vs := .ref a :: vs) F hr hb hd hx I2 (.cons rfl r) q2
/-- o.m() -/
theorem pe_meth0 {pl : Sem Bool} (he : PE X o ta) (c : Cls X.K C) (hm : Meth X.K C m f) (F : FnOk X.prog X.w X.K X.mg X.base CX k f fd ps sp) (hr : Room k X.A) (hb : Binds X.K fd ps ds) (hd : Vals dvs ds) (hx : Passes CX X E)
    (ht : eval (.Call (.Attribute o m apos) [] [] pos) X.env = (do
      let ov ← eval o X.env
      standAt apos.atName
      let (f, first) ← holding [ov] (getMethod ov m pl)
      callWith pos f first (backTo pos (starEach [] X.env)) (backToKw pos (keywordEach [] X.env))) := by rfl) :
    PE X (.Call (.Attribute o m apos) [] [] pos) (tMeth C m sp dvs E ta tNil) := by
  intro pins s σ H Q I h
  refine PySem.W.methodCall_KW (pl := pl) (thn (he pins s σ H _ I h) fun u s1 ⟨x, H1, I1, rx, a, dx, fs, ex, ea, l, q⟩ => ?_) ht
  subst ex
  obtain rfl : u = Value.ref a := rx
  refine getmeth_ok I1 ea c hm l ?_
  exact PySem.W.callWith_K0 (first := [.ref a]) I1.kIn hm.kp (run_fn (us := [.ref a]) (vs := [.ref a]) F hr hb hd hx I1 (.cons rfl .nil) q)

/-- what a class must have to be made -/
structure Mk (K : PySem.W.Frag) (C f : Addr) : Prop where
  makes : PySem.W.makesIn K C = true
  init : PySem.W.findIn K (.ref C) "__init__" = some (some (.ref f))
  fn : PySem.W.isFn K (.ref f) = true
  kp : PySem.W.keepIn K (.ref C) = true

theorem run_make {pins : List (Addr × Obj)} {σ : St} {H : Hp} {s : Shared} {Q : VK} {us : List Value} {vs : List V} (M : Mk X.K C f) (F : FnOk X.prog X.w X.K X.mg X.base CX k f fd ps sp) (hr : Room (k + 1) X.A) (hb : Binds X.K fd ps ds) (hd : Vals dvs ds)
    (hx : Passes CX X E) (I : Inv X pins σ H s) (r : Vals vs us)
    (h : ∀ x dx, H x = none → H dx = none → dx ≠ x → sp (.ref x :: (vs ++ dvs)) (upd (upd H dx (.own x)) x (.ins C dx [])) (fun v H2 => v = .non ∧ Q (.ref x) H2) E) :
    wpAny (model X.prog X.w) X.A (call (.ref C) us) (EP X pins σ Q) X.xe s := by
  have hq := h (s.heap.objs.size + 1) s.heap.objs.size (I.hok.fresh (Nat.le_succ _)) (I.hok.fresh (Nat.le_refl _)) (Nat.ne_of_lt (Nat.lt_succ_self _))
  have I2 := Inv.made (C := C) I
  have r2 : Vals (V.ref (s.heap.objs.size + 1) :: (vs ++ dvs)) (Value.ref (s.heap.objs.size + 1) :: (us ++ ds)) := .cons rfl (r.append hd)
  have hl : (Value.ref (s.heap.objs.size + 1) :: us ++ ds).length = ps.length := by
    have e := r2.length
    rw [F.len _ _ _ _ hq] at e
    exact e.symm
  refine wpAny_call (make_map (f := f) I.kIn M.makes M.init (beq_iff_eq.mp M.fn) (codeAny_mono (F.run _ X.stack _ _ ⟨Value.ref (s.heap.objs.size + 1) :: us, []⟩ (Value.ref (s.heap.objs.size + 1) :: (us ++ ds)) _ _ E (hr.make C us [])
    (I2.env0.make C us []) (hb _ (Value.ref (s.heap.objs.size + 1) :: us) I2.kIn hl) r2 hq) fun r s' hq' => ?_))
  cases r with
  | error e => exact hx pins σ _ _ e s' I2 hq'
  | ok fl =>
    cases fl with
    | ret u =>
      obtain ⟨v, H', I3, rv, ev, q3⟩ := I2.after hq'
      subst ev
      exact ⟨rv, ⟨V.ref (s.heap.objs.size + 1), H', I3, rfl, q3⟩⟩
    | next => exact False.elim hq'
    | brk => exact False.elim hq'
    | cont => exact False.elim hq'
theorem pe_make (M : Mk X.K C f) (F : FnOk X.prog X.w X.K X.mg X.base CX k f fd ps sp) (hr : Room (k + 1) X.A) (hg : Gl X x) (hm : X.mg x = some (.ref C)) (hb : Binds X.K fd ps ds) (hd : Vals dvs ds) (hx : Passes CX X E)
    (ha : PA X (e :: es) t) (hdb : (x == ("__debug__" : Str)) = false := by decide) (he : starEach (e :: es) X.env = (false, eval e X.env) :: starEach es X.env := by rfl) (hpl : (backTo pos (starEach es X.env)).any (·.1) = false := by rfl) :
    PE X (.Call (.Name x p) (e :: es) [] pos) (tMake C sp dvs E t) := by
  intro pins s σ H Q I h
  refine wpAny_Call_Name_kw (ld_glob I hg hm ?_ hdb)
  refine PySem.W.callWith_K (h₀ := X.base) I.ok.mod.kin M.kp (thn (ha pos pins s σ H _ I h) fun us s1 ⟨vs, H1, I1, r, q⟩ => ⟨I1.kIn, ?_⟩) he hpl
  exact run_make M F hr hb hd hx I1 r q
end

/-! ### keywords -/
/-- the values of the keywords, from the left -/
def PK (X : Cx) (kws : List Keyword) (t : TA) : Prop :=
  ∀ (pos : Pos) (pins : List (Addr × Obj)) (s : Shared) (σ : St) (H : Hp) (Q : List V → Hp → Prop), Inv X pins σ H s → t σ H Q → wpAny (model X.prog X.w) X.A (evalAll ((backToKw pos (keywordEach kws X.env)).map (·.2))) (AP X pins σ Q) X.xe s
section
variable {X : Cx} {CX : CXT} {k : Nat} {f C : Addr} {fd : FuncData} {ps ks : List Str} {sp : Sp} {E : XK} {x m : Str} {p pos apos kpos : Pos} {e o : Expr} {es : List Expr} {kws : List Keyword} {te ta : TE} {t tk : TA} {nm : Option Str}

/-- how a call with keywords binds: g puts the positional values us and the keywords' values ws (names ks) in the parameters' order, defaults among them -/
structure KBinds (K : PySem.W.Frag) (fd : FuncData) (ps ks : List Str) (g : List Value → List Value → List Value) (gV : List V → List V → List V) : Prop where
  to : ∀ (s : Shared) (us ws : List Value), K.In s.heap → (g us ws).length = ps.length → BindsTo s fd ⟨us, ks.zip ws⟩ (ps.zip (g us ws))
  rel : ∀ {vs : List V} {us : List Value} {zs : List V} {ws : List Value}, Vals vs us → Vals zs ws → Vals (gV vs zs) (g us ws)
def tCallK (sp : Sp) (gV : List V → List V → List V) (E : XK) (t tk : TA) : TE := fun σ H Q => t σ H fun vs H1 => tk σ H1 fun zs H2 => sp (gV vs zs) H2 Q E
variable {g : List Value → List Value → List Value} {gV : List V → List V → List V}
end

/-! ### a def's body keeps its promise -/
/-- names: the parameters first -/
structure FnScope (N P : List Str) (sc : Scope) : Prop where
  kind : sc.kind = .function
  co : sc.isCoroutine = false
  gen : sc.isGenerator = false
  nd : N.Nodup
  pre : N.take P.length = P
  par : ∀ x ∈ P, sc.names.lookup x = some .local ∨ sc.names.lookup x = some .cell
  nofree : ∀ y ∈ sc.names, y.2 ≠ .free

theorem bindL_out {kindOf : Str → Option NameKind} {x : Str} : ∀ {binds : List (Str × Value)} {m : Str → Option Value}, (∀ v, (x, v) ∉ binds) → bindL kindOf binds m x = m x
  | [], _, _ => rfl
  | (n, v) :: r, m, h => by
    unfold bindL
    rw [bindL_out fun w hw => h w (List.mem_cons_of_mem _ hw)]
    split
    · have : x ≠ n := by rintro rfl; exact h v List.mem_cons_self
      simp [this]
    · rfl
theorem bindC_out {kindOf : Str → Option NameKind} {x : Str} : ∀ {binds : List (Str × Value)} {m : Str → Option Value}, (∀ v, (x, v) ∉ binds) → bindC kindOf binds m x = m x
  | [], _, _ => rfl
  | (n, v) :: r, m, h => by
    unfold bindC
    rw [bindC_out fun w hw => h w (List.mem_cons_of_mem _ hw)]
    split
    · rfl
    · have : x ≠ n := by rintro rfl; exact h v List.mem_cons_self
      simp [this]
theorem bindL_get {kindOf : Str → Option NameKind} {x : Str} {v : Value} : ∀ {P : List Str} {vs : List Value} {i : Nat} {m : Str → Option Value}, P.Nodup → P[i]? = some x → vs[i]? = some v → kindOf x = some .local →
    bindL kindOf (P.zip vs) m x = some v
  | [], _, _, _, _, h, _, _ => by simp at h
  | _ :: _, [], _, _, _, _, h, _ => by simp at h
  | p :: P, w :: vs, 0, m, nd, h1, h2, hk => by
    simp at h1 h2; subst h1; subst h2
    show bindL kindOf ((p, w) :: P.zip vs) m p = _
    unfold bindL
    rw [bindL_out fun v hv => (List.nodup_cons.mp nd).1 (List.of_mem_zip hv).1, if_pos hk]
    simp
  | p :: P, w :: vs, i + 1, m, nd, h1, h2, hk => by
    show bindL kindOf ((p, w) :: P.zip vs) m x = _
    unfold bindL
    exact bindL_get (i := i) (List.nodup_cons.mp nd).2 (by simpa using h1) (by simpa using h2) hk
theorem bindC_get {kindOf : Str → Option NameKind} {x : Str} {v : Value} : ∀ {P : List Str} {vs : List Value} {i : Nat} {m : Str → Option Value}, P.Nodup → P[i]? = some x → vs[i]? = some v → kindOf x ≠ some .local →
    bindC kindOf (P.zip vs) m x = some v
  | [], _, _, _, _, h, _, _ => by simp at h
  | _ :: _, [], _, _, _, _, h, _ => by simp at h
  | p :: P, w :: vs, 0, m, nd, h1, h2, hk => by
    simp at h1 h2; subst h1; subst h2
    show bindC kindOf ((p, w) :: P.zip vs) m p = _
    unfold bindC
    rw [bindC_out fun v hv => (List.nodup_cons.mp nd).1 (List.of_mem_zip hv).1, if_neg hk]
    simp
  | p :: P, w :: vs, i + 1, m, nd, h1, h2, hk => by
    show bindC kindOf ((p, w) :: P.zip vs) m x = _
    unfold bindC
    exact bindC_get (i := i) (List.nodup_cons.mp nd).2 (by simpa using h1) (by simpa using h2) hk

/-- the names' values at the entry -/
def start (N : List Str) (vs : List V) : St := vs.map some ++ List.replicate (N.length - vs.length) none

/-- the context of a def's body, at its entry; an exception leaves the frame, then lies as CX says -/
def cxOf (CX : CXT) (P : Program) (w : World) (K : PySem.W.Frag) (mg : Str → Option Value) (base : Heap) (N : List Str) (qual : Str) (scope : Scope) (f : Addr) (cd : Value) (A : Around) (outer : List Env) (s : Shared) (H : Hp) (E : XK) : Cx where
  prog := P
  w := w
  K := K
  mg := mg
  base := base
  A := A.deeper (envOfC qual scope s.heap.objs.size f cd)
  N := N
  s₀ := s
  H₀ := H
  env := envOfC qual scope s.heap.objs.size f cd
  outer := outer
  stack := envOfC qual scope s.heap.objs.size f cd :: outer
  ex := []
  calm := true
  fn := fun _ => true
  pn := []
  xe := fun e s' => wpAny (model P w) (A.deeper (envOfC qual scope s.heap.objs.size f cd)) (leaving (envOfC qual scope s.heap.objs.size f cd) e) (fun _ s'' => CX outer H s E e s'') (fun e' s'' => CX outer H s E e' s'') s'

theorem cell_has {sc : Scope} {n : Nat} {x : Str} (h : sc.names.lookup x = some .cell) : ∃ c, (cellsFrom n sc.names []).lookup x = some c := by
  have q := PySem.W.cellsFrom_some sc.names n [] (.inl h)
  exact Option.isSome_iff_exists.mp q

theorem inv_start {CX : CXT} {P : Program} {w : World} {K : PySem.W.Frag} {mg : Str → Option Value} {base : Heap} {N ps : List Str} {qual : Str} {scope : Scope} {f : Addr} {cd : Value} {A : Around} {outer : List Env} {s s1 : Shared} {H : Hp} {E : XK} {us : List Value} {vs : List V}
    (S : FnScope N ps scope) (hd : A.handled = none) (e0 : Env0 P w K mg base A outer s H) (hl : vs.length = ps.length) (r : Vals vs us)
    (x : InCallC s s.heap.objs.size (bindL (envOfC qual scope s.heap.objs.size f cd).kindOf (ps.zip us) fun _ => none) (cellsFrom (s.heap.objs.size + 1) scope.names []) (bindC (envOfC qual scope s.heap.objs.size f cd).kindOf (ps.zip us) fun _ => none) s1) :
    Inv (cxOf CX P w K mg base N qual scope f cd A outer s H E) [] (start N vs) H s1 := by
  have hpl : ps.length ≤ N.length := by have := congrArg List.length S.pre; rw [List.length_take] at this; omega
  obtain ⟨h1, tk, rfl, hk⟩ := x.done
  have noA : ∀ b : Addr, b ∉ (cxOf CX P w K mg base N qual scope f cd A outer s H E).ex := fun b z => absurd (show b ∈ ([] : List Addr) from z) (by simp)
  refine ⟨⟨e0.mod, S.kind, rfl, rfl, Nat.le_refl _, fun y z c h1 h2 => ?_, fun y hy => ?_, fun y c _ h => ?_, fun _ => hd, Around.frames_deeper e0.frames, .inr ⟨rfl, rfl⟩, fun b z => absurd z (noA b), e0.bs, e0.bsz, fun b _ _ => noA b, fun b z => absurd z (noA b), e0.funs, e0.frf⟩,
    rfl, e0.bare, Un.kept hk, ⟨_, x.toInCall.ns, fun i y v h1 h2 h3 => ?_⟩, fun y c h => ⟨_, x.cell y c h⟩, e0.hok.fresh (Nat.le_refl _), fun y c h => ?_, fun p hp => absurd (show p ∈ ([] : List (Addr × Obj)) from hp) (by simp), e0.hok.kept hk, ?_⟩
  · exact name_of_addr x.apart (PySem.mem_of_lookup h1) (PySem.mem_of_lookup h2)
  · have hy : scope.names.lookup y = some .cell ∨ scope.names.lookup y = some .free := hy
    rcases hy with hy | hy
    · exact cell_has hy
    · exact absurd rfl (S.nofree _ (PySem.mem_of_lookup hy))
  · exact Nat.le_of_lt (x.above y c (PySem.mem_of_lookup h))
  · have hi : i < vs.length := by
      unfold start at h2
      by_cases hi : i < vs.length
      · exact hi
      · rw [List.getElem?_append_right (by simpa using hi)] at h2
        rw [List.getElem?_replicate] at h2
        split at h2 <;> cases h2
    have ha : vs[i]? = some v := by
      unfold start at h2
      rw [List.getElem?_append_left (by simpa using hi), List.getElem?_map] at h2
      cases e : vs[i]? with
      | none => rw [e] at h2; cases h2
      | some a => rw [e] at h2; cases h2; rfl
    obtain ⟨u, hu, rv⟩ := r.get ha
    have hp : ps[i]? = some y := by
      rw [← S.pre, List.getElem?_take_of_lt (by omega)]; exact h1
    have ndP : ps.Nodup := by rw [← S.pre]; exact S.nd.sublist (List.take_sublist _ _)
    refine ⟨u, rv, ?_⟩
    rcases S.par y (List.mem_of_getElem? hp) with k | k
    · exact .inl ⟨k, bindL_get ndP hp hu k⟩
    · obtain ⟨c, e⟩ := cell_has (n := s.heap.objs.size + 1) k
      refine .inr ⟨.inl k, c, e, ?_⟩
      have q := x.cell y c e
      rw [bindC_get ndP hp hu (by show scope.names.lookup y ≠ _; rw [k]; decide)] at q
      exact q
  · exact e0.hok.fresh (Nat.le_of_lt (x.above y c (PySem.mem_of_lookup h)))
  · unfold start
    show _ = N.length
    rw [List.length_append, List.length_map, List.length_replicate]
    omega

/-- THE RULE: a def (or a method) of the text, by its body. The body's reading t is chosen for each entry; it is run at the parameters' values -/
theorem fn_of {CX : CXT} {P : Program} {w : World} {K : PySem.W.Frag} {mg : Str → Option Value} {base : Heap} {k : Nat} {f : Addr} {name qual : Str} {params : Arguments} {body : List Stmt} {scope : Scope} {dV kV doc pm cdv ct oc : Value} {an od : Option Addr}
    {osl : Array (Option Value)} {N ps : List Str} {sp : Sp} (lk : K.lookup f = some ⟨oc, od, .func (PySem.W.fnOf name qual params body scope dV kV doc pm an cdv ct), osl⟩) (hcd : PySem.W.codeIn K cdv qual = true) (S : FnScope N ps scope)
    (len : ∀ vs H Q E, sp vs H Q E → vs.length = ps.length)
    (hbody : ∀ (A : Around) (outer : List Env) (s : Shared) (H : Hp) (vs : List V) (Q : VK) (E : XK), Room k (A.deeper (envOfC qual scope s.heap.objs.size f cdv)) → sp vs H Q E →
      ∃ t, PSs (cxOf CX P w K mg base N qual scope f cdv A outer s H E) body t ∧ t { nx := fun _ H' => Q .non H', rt := Q } (start N vs) H) :
    FnOk P w K mg base CX (k + 1) f (PySem.W.fnOf name qual params body scope dV kV doc pm an cdv ct) ps sp := by
  refine ⟨len, fun A outer s H args us vs Q E hr e0 hb r hsp => ?_⟩
  have hl := len _ _ _ _ hsp
  have KX : K.In s.heap := e0.mod.kin.keeps fun b o e => (e0.bs b o e).1
  have lim : s.heap.NoLimit := e0.mod.nolimit.keeps fun b o e => (e0.bs b o e).1
  have hkind : ∀ y ∈ ps.zip us, scope.names.lookup y.1 = some .local ∨ (scope.names.lookup y.1 = some .cell ∧ ((cellsFrom (s.heap.objs.size + 1) scope.names []).lookup y.1).isSome = true) := fun ⟨n, v⟩ hy => by
    rcases S.par n (List.of_mem_zip hy).1 with q | q
    · exact .inl q
    · exact .inr ⟨q, PySem.W.cellsFrom_some _ _ _ (.inl q)⟩
  refine codeAny_call_function hr.depth (KX _ _ lk) rfl S.co S.gen rfl (PySem.W.codeRec_of KX hcd) (hb _ _ _ _ ?_)
  refine wpAny_newFunctionEnv_cells S.kind hkind fun env he s1 x => ?_
  subst he
  refine ⟨lim.keeps x.toInCall.keep, codeAny_func ?_⟩
  obtain ⟨t, ht, hq⟩ := hbody A outer s H vs Q E (hr.deeper _) hsp
  have I : Inv (cxOf CX P w K mg base N qual scope f cdv A outer s H E) [] (start N vs) H s1 := inv_start S hr.hd e0 hl r x
  refine wpAny_mono (ht [] s1 (start N vs) H _ I hq) (fun fl s' hs => ?_) fun e s' hs => hs
  have fin : ∀ {σ' : St} {H' : Hp} {v : V} {u : Value}, Inv (cxOf CX P w K mg base N qual scope f cdv A outer s H E) [] σ' H' s' → RelV v u → Q v H' → CE outer P w H s Q u s' :=
    fun {σ' H' v u} J rv q => ⟨v, H', J.os, J.bare, J.base, J.hok, rv, q⟩
  cases fl with
  | ret u =>
    obtain ⟨v, σ', H', J, rv, q⟩ := hs
    exact fin J rv q
  | next =>
    obtain ⟨σ', H', J, q⟩ := hs
    exact fin (v := V.non) (u := Value.none) J rfl q
  | brk =>
    obtain ⟨_, _, _, q⟩ := hs
    exact False.elim q
  | cont =>
    obtain ⟨_, _, _, q⟩ := hs
    exact False.elim q
end L2

namespace L2
open PySem PySem.Spec PyProof.Rows
section
variable {X : Cx} {x : Str} {p pos : Pos} {e : Expr} {es : List Expr} {t : TA} {id T : String} {r : List V → Hp → VK → Prop}

def tCB (r : List V → Hp → VK → Prop) (t : TA) : TE := fun σ H Q => t σ H fun vs H1 => r vs H1 Q
/-- f(e, ..), f a built-in function -/
theorem pe_callB (hc : CallR X (.builtin id) r) (hg : Gl X x) (hm : X.mg x = none) (hv : bootBuiltins x = some (.builtin id)) (ha : PA X (e :: es) t) (hn : x ≠ "__name__" := by decide) (hdb : (x == ("__debug__" : Str)) = false := by decide)
    (he : starEach (e :: es) X.env = (false, eval e X.env) :: starEach es X.env := by rfl) (hpl : (backTo pos (starEach es X.env)).any (·.1) = false := by rfl) : PE X (.Call (.Name x p) (e :: es) [] pos) (tCB r t) := by
  intro pins s σ H Q I h
  refine wpAny_Call_Name_kw (ld_blt I hg hm hv ?_ hn hdb)
  exact PyProof.Rows.callWith_builtin1 (thn (ha pos pins s σ H _ I h) fun us s1 ⟨vs, H1, I1, r1, q1⟩ => hc pins s1 σ H1 vs us Q I1 r1 q1) he hpl
/-- T(e, ..), T a built-in type -/
theorem pe_callTy (hc : CallR X (.type T) r) (hg : Gl X x) (hm : X.mg x = none) (hv : bootBuiltins x = some (.type T)) (ha : PA X (e :: es) t) (hn : x ≠ "__name__" := by decide) (hdb : (x == ("__debug__" : Str)) = false := by decide)
    (he : starEach (e :: es) X.env = (false, eval e X.env) :: starEach es X.env := by rfl) (hpl : (backTo pos (starEach es X.env)).any (·.1) = false := by rfl) : PE X (.Call (.Name x p) (e :: es) [] pos) (tCB r t) := by
  intro pins s σ H Q I h
  refine wpAny_Call_Name_kw (ld_blt I hg hm hv ?_ hn hdb)
  exact PyProof.Rows.callWith_type1 (thn (ha pos pins s σ H _ I h) fun us s1 ⟨vs, H1, I1, r1, q1⟩ => hc pins s1 σ H1 vs us Q I1 r1 q1) he hpl
end
end L2

namespace HT
open PySem PyProof.Rows

/-- t < u of tuples of ints -/
def lexLt : List Int → List Int → Bool
  | [], [] => false
  | [], _ :: _ => true
  | _ :: _, [] => false
  | x :: xs, y :: ys => if x = y then lexLt xs ys else decide (x < y)


section
open PySem.SeqAt
open PySem.AutoSeq1 (wpAny_loadPart')
open PySem.MeetsSeq PySem.MeetsSeq2 PySem.MeetsSeq3

end

section
variable {prog : Program} {w : World} {A : Around} {E : Value → Shared → Prop} {s : Shared}



/-! ### t[a:b], not the whole -/
/-- a slice's bound as a place among n (d where it is left out) -/
def sIx (n d : Nat) : Option Int → Nat
  | none => d
  | some v => if v < 0 then (v + (n : Int)).toNat else min v.toNat n

end
end HT

namespace L2
open PySem PySem.Spec PyProof.Rows

/-! ### the parts of a slice -/
abbrev TO := St → Hp → (Option Int → Hp → Prop) → Prop
/-- a slice's part (left out, or an int) -/
def PO (X : Cx) (e : Option Expr) (t : TO) : Prop :=
  ∀ (pins : List (Addr × Obj)) (s : Shared) (σ : St) (H : Hp) (Q : Option Int → Hp → Prop), Inv X pins σ H s → t σ H Q →
    wpAny (model X.prog X.w) X.A (evalPart e X.env) (fun u s' => ∃ o H', Inv X pins σ H' s' ∧ IsPart u o ∧ Q o H') X.xe s
def tNoPart : TO := fun _ H Q => Q none H
def tPart (t : TE) : TO := fun σ H Q => t σ H fun x H1 => ∃ i, x = .int i ∧ Q (some i) H1


section
variable {X : Cx} {e : Expr} {te : TE} {lo hi : Option Expr} {tl th : TO} {pos p2 : Pos}


/-- what a slice of a value is, by values: the slice object stands at sl -/
def SlR (X : Cx) (r : V → Option Int → Option Int → Hp → VK → Prop) : Prop :=
  ∀ (pins : List (Addr × Obj)) (s : Shared) (σ : St) (H : Hp) (x : V) (v vl vu : Value) (lo hi : Option Int) (sl : Addr) (Q : VK), Inv X pins σ H s → RelV x v → s.heap.IsSliceOf sl vl vu .none → IsPart vl lo → IsPart vu hi → r x lo hi H Q →
    ∃ T id, typeLookup (.type T) "__getitem__" = pure (some (.builtin id)) ∧ s.TypeIs v T ∧ wpAny (model X.prog X.w) X.A (getItem v (.ref sl)) (EP X pins σ Q) X.xe s
def tSl (r : V → Option Int → Option Int → Hp → VK → Prop) (te : TE) (tl th : TO) : TE := fun σ H Q => te σ H fun x H1 => tl σ H1 fun l H2 => th σ H2 fun u H3 => r x l u H3 Q

/-- the items of xs[lo:hi] -/
def cutV (xs : List V) (lo hi : Option Int) : List V := (xs.drop (HT.sIx xs.length 0 lo)).take (HT.sIx xs.length xs.length hi - HT.sIx xs.length 0 lo)
/-- t[lo:hi], not the whole of it (the whole would be t itself) -/
def rSlT (K : PySem.W.Frag) : V → Option Int → Option Int → Hp → VK → Prop := fun x lo hi H Q => ∃ a xs, x = .ref a ∧ SqT K H a xs ∧
  ¬ (HT.sIx xs.length 0 lo = 0 ∧ HT.sIx xs.length xs.length hi = xs.length) ∧ ∀ p, H p = none → Q (.ref p) (upd H p (.tup (cutV xs lo hi)))

/-! ### t < u, t + u -/
def rLtT (K : PySem.W.Frag) : R2 := fun x y H Q => ∃ a b ns ms, x = .ref a ∧ y = .ref b ∧ SqT K H a (ns.map V.int) ∧ SqT K H b (ms.map V.int) ∧ Q (.bl (HT.lexLt ns ms)) H
/-- t + u, t not empty: u empty gives t itself -/
def rCatT (K : PySem.W.Frag) : R2 := fun x y H Q => ∃ a b xs ys, x = .ref a ∧ y = .ref b ∧ SqT K H a xs ∧ SqT K H b ys ∧ xs ≠ [] ∧ xs.length + ys.length ≤ sizeLine ∧
  (ys = [] → Q (.ref a) H) ∧ (ys ≠ [] → ∀ p, H p = none → Q (.ref p) (upd H p (.tup (xs ++ ys))))
end
end L2

namespace L2
open PySem PySem.Spec PyProof.Rows

/-! ### places -/
/-- the place that an index of any sign means -/
def ixN (n : Nat) (i : Int) : Option Nat := if 0 ≤ i then (if i < n then some i.toNat else none) else if -(n : Int) ≤ i then some (i + n).toNat else none
def atI {α : Type} (xs : List α) (i : Int) : Option α := (ixN xs.length i).bind fun j => xs[j]?
theorem ixN_seq {n : Nat} {i : Int} {j : Nat} (h : ixN n i = some j) : seqIndex? i n = some j ∧ j < n ∧ -(n : Int) ≤ i ∧ i < n := by
  unfold ixN at h
  by_cases h0 : 0 ≤ i
  · rw [if_pos h0] at h
    by_cases h1 : i < n
    · rw [if_pos h1] at h
      have e : i.toNat = j := Option.some.inj h
      exact ⟨by rw [seqIndex_of h0 h1, e], by omega, by omega, h1⟩
    · rw [if_neg h1] at h; cases h
  · rw [if_neg h0] at h
    by_cases h1 : -(n : Int) ≤ i
    · rw [if_pos h1] at h
      have e : (i + n).toNat = j := Option.some.inj h
      exact ⟨by rw [seqIndex_neg (by omega) h1, e], by omega, h1, by omega⟩
    · rw [if_neg h1] at h; cases h
theorem atI_get {α : Type} {xs : List α} {i : Int} {v : α} (h : atI xs i = some v) : ∃ j, seqIndex? i xs.length = some j ∧ xs[j]? = some v ∧ j < xs.length ∧ -(xs.length : Int) ≤ i ∧ i < xs.length := by
  unfold atI at h
  cases e : ixN xs.length i with
  | none => rw [e] at h; cases h
  | some j =>
    rw [e] at h
    obtain ⟨h1, h2, h3, h4⟩ := ixN_seq e
    exact ⟨j, h1, h, h2, h3, h4⟩
theorem atI_nat {α : Type} {xs : List α} {j : Nat} {v : α} (h : xs[j]? = some v) : atI xs (j : Int) = some v := by
  have hj : j < xs.length := (List.getElem?_eq_some_iff.mp h).1
  have e : ixN xs.length (j : Int) = some j := by
    unfold ixN
    rw [if_pos (by omega), if_pos (by omega)]; simp
  unfold atI; rw [e]; exact h

/-! ### what may be subscripted -/
/-- what stands as an index of a plain subscript -/
def PlainIx (b : Expr) : Prop := ∀ o i, subscripted b false o i = operate [o, i] (getItem o i)
/-- a subscript by values -/
def IxR (X : Cx) (r : R2) : Prop :=
  ∀ (value slice : Expr) (pins : List (Addr × Obj)) (s : Shared) (σ : St) (H : Hp) (x y : V) (v u : Value) (Q : VK), Inv X pins σ H s → RelV x v → RelV y u → r x y H Q →
    subscripted slice false v u = operate [v, u] (getItem v u) → wpAny (model X.prog X.w) X.A (subscriptTail value slice v u) (EP X pins σ Q) X.xe s
/-- a call of a builtin's method by values: the receiver, the arguments -/
def MtR (X : Cx) (id : String) (r : V → List V → Hp → VK → Prop) : Prop :=
  ∀ (pins : List (Addr × Obj)) (s : Shared) (σ : St) (H : Hp) (x : V) (xs : List V) (v : Value) (us : List Value) (Q : VK), Inv X pins σ H s → RelV x v → Vals xs us → r x xs H Q →
    wpAny (model X.prog X.w) X.A (call (.builtin id) (v :: us)) (EP X pins σ Q) X.xe s
section
variable {X : Cx} {a b : Expr} {ta tb : TE} {pos : Pos}
/-- a[b] -/
theorem pe_ix {r : R2} (hr : IxR X r) (ha : PE X a ta) (hb : PE X b tb) (hs : PlainIx b) : PE X (.Subscript a b pos) (tOp r ta tb) := by
  intro pins s σ H Q I h
  exact Subscript_ (binT ha hb I h fun v u s2 x y H2 I2 rx ry q => hr a b pins s2 σ H2 x y v u Q I2 rx ry q (hs _ _))

def rIxL (K : PySem.W.Frag) : R2 := fun x y H Q => ∃ p xs i v, x = .ref p ∧ y = .int i ∧ SqL K H p xs ∧ atI xs i = some v ∧ Q v H
def rIxT (K : PySem.W.Frag) : R2 := fun x y H Q => ∃ p xs i v, x = .ref p ∧ y = .int i ∧ SqT K H p xs ∧ atI xs i = some v ∧ Q v H
def rIxS : R2 := fun x y H Q => ∃ z i c, x = .str z ∧ y = .int i ∧ z.length ≤ sizeLine ∧ atI z.cps.toList i = some c ∧ Q (.str ⟨#[c]⟩) H
theorem ix_list : IxR X (rIxL X.K) := by
  intro value slice pins s σ H x y v u Q I rx ry h hs
  obtain ⟨p, xs, i, z, rfl, rfl, hq, he, q⟩ := h
  cases rx
  obtain ⟨t, rfl⟩ := ry
  obtain ⟨its, r, pl, hz⟩ := I.list hq
  obtain ⟨j, h1, h2, h3, h4, h5⟩ := atI_get he
  obtain ⟨w, ew, rw'⟩ := r.get h2
  have hl := r.length
  have hn := line63
  have fin : EP X pins σ Q w s := ⟨z, H, I, rw', q⟩
  by_cases h0 : 0 ≤ i
  · have hj : i.toNat = j := by
      rw [seqIndex_of h0 h5] at h1
      exact Option.some.inj h1
    exact item_listR pl.isList h0 (by omega) (by rw [hj]; simpa using ew) fin hs
  · have hj : (i + (its.toArray.size : Int)).toNat = j := by
      rw [seqIndex_neg (by omega) h4] at h1
      rw [List.size_toArray, ← hl]
      exact Option.some.inj h1
    exact subscriptTail_builtinR (x := w) pl.isList.typeIs slot_list_getitem.lookup
      (wpAny_getItem_list_neg (Q := fun r s' => r = w ∧ EP X pins σ Q r s') pl.isList (by omega) (by rw [List.size_toArray] <;> omega) (by omega) (by rw [hj]; simpa using ew) ⟨rfl, fin⟩) hs
theorem ix_tup : IxR X (rIxT X.K) := by
  intro value slice pins s σ H x y v u Q I rx ry h hs
  obtain ⟨p, xs, i, z, rfl, rfl, hq, he, q⟩ := h
  cases rx
  obtain ⟨t, rfl⟩ := ry
  obtain ⟨its, r, pl, hz⟩ := I.tuple hq
  obtain ⟨j, h1, h2, h3, h4, h5⟩ := atI_get he
  obtain ⟨w, ew, rw'⟩ := r.get h2
  have hl := r.length
  have hn := line63
  have fin : EP X pins σ Q w s := ⟨z, H, I, rw', q⟩
  exact subscriptTail_builtinR (x := w) pl.typeIs slot_tuple_getitem.lookup
    (getItem_tuple (j := j) (Q := fun r s' => r = w ∧ EP X pins σ Q r s') pl (by omega) (by omega) (by rw [List.size_toArray, ← hl]; exact h1) (by simpa using ew) ⟨rfl, fin⟩) hs
/-- list, tuple or str -/
def rIx (K : PySem.W.Frag) : R2 := fun x y H Q => rIxL K x y H Q ∨ rIxT K x y H Q ∨ rIxS x y H Q

/-! ### xs[i] = v, any sign -/
/-- the list's object behind a store -/
theorem mapSeq_set (its : List Value) (n j : Nat) (u : Value) : Obj.mapSeq (·.setIfInBounds j u) { cls := .type "list", data := .seq its.toArray n } = { cls := .type "list", data := .seq (its.set j u).toArray n } := by
  simp [Obj.mapSeq]
theorem Inv.lst {pins : List (Addr × Obj)} {σ : St} {H : Hp} {s : Shared} {p : Addr} {xs : List V} (I : Inv X pins σ H s) (h : H p = some (.lst xs)) :
    ∃ (its : List Value) (n : Nat), Vals xs its ∧ s.heap.get? p = some { cls := .type "list", data := .seq its.toArray n } ∧ xs.length ≤ sizeLine := by
  obtain ⟨z, its, n, r, e⟩ := I.hok p _ h
  exact ⟨its, n, r, e, z⟩
/-- the list at p is written by an update of its object -/
theorem Inv.lstUpd {pins : List (Addr × Obj)} {σ : St} {H : Hp} {s : Shared} {p : Addr} {xs ys : List V} {its its' : List Value} {n n' : Nat} {f : Obj → Obj} (I : Inv X pins σ H s) (h : H p = some (.lst xs))
    (ho : s.heap.get? p = some { cls := .type "list", data := .seq its.toArray n }) (hf : f { cls := .type "list", data := .seq its.toArray n } = { cls := .type "list", data := .seq its'.toArray n' }) (r : Vals ys its') (hz : ys.length ≤ sizeLine) (t : Nat) :
    Inv X pins σ (upd H p (.lst ys)) { s with heap := s.heap.update p f, toks := t } := by
  have e : (s.heap.update p f).get? p = some { cls := .type "list", data := .seq its'.toArray n' } := by
    rw [Heap.get?_update_self f ho (by rw [hf] <;> rfl), hf]
  refine I.write (x := p) (e := p) (by rw [h]; trivial) (.inl rfl) (fun b u hb q => (Heap.get?_update_other _ _ (Ne.symm hb)).trans q) ⟨_, e⟩ ?_
  exact ⟨hz, its', n', r, e⟩
def rSetL : V → V → V → Hp → (Hp → Prop) → Prop := fun o i v H Q => ∃ p xs k j, o = .ref p ∧ i = .int k ∧ H p = some (.lst xs) ∧ ixN xs.length k = some j ∧ Q (upd H p (.lst (xs.set j v)))
theorem set_list : PSet X rSetL := by
  intro pins s σ H o i v ov iv u Q I ro ri rv h
  obtain ⟨p, xs, k, j, rfl, rfl, hp, hj, q⟩ := h
  cases ro
  obtain ⟨t, rfl⟩ := ri
  obtain ⟨its, n, r, ho, hz⟩ := I.lst hp
  obtain ⟨h1, h2, h3, h4⟩ := ixN_seq hj
  have hl := r.length
  have hn := line63
  have I' : Inv X pins σ (upd H p (.lst (xs.set j v))) { s with heap := s.heap.update p (Obj.mapSeq (·.setIfInBounds j u)) } :=
    I.lstUpd hp ho (mapSeq_set its n j u) (r.set rv j) (by rw [List.length_set]; exact hz) s.toks
  by_cases h0 : 0 ≤ k
  · have hk : k.toNat = j := by
      rw [seqIndex_of h0 h4] at h1
      exact Option.some.inj h1
    exact PySem.W.ki_setAt ho h0 (by omega) (by rw [List.size_toArray, ← hl]; exact h4) (by rw [hk]; exact ⟨_, I', q⟩)
  · have hk : (k + (its.toArray.size : Int)).toNat = j := by
      rw [seqIndex_neg (by omega) h3] at h1
      rw [List.size_toArray, ← hl]
      exact Option.some.inj h1
    exact PySem.W.ki_setBack ho (by omega) (by rw [List.size_toArray, ← hl]; exact h3) (by omega) (by rw [hk]; exact ⟨_, I', q⟩)

/-! ### slices -/
/-- xs[lo:hi] of a list: a new list -/
def rSlL (K : PySem.W.Frag) : V → Option Int → Option Int → Hp → VK → Prop := fun x lo hi H Q => ∃ a xs, x = .ref a ∧ SqL K H a xs ∧ ∀ p, H p = none → Q (.ref p) (upd H p (.lst (cutV xs lo hi)))

/-! ### in, not in: flat items -/
def flatV : V → Bool
  | .non => true
  | .bl _ => true
  | .int _ => true
  | .str _ => true
  | _ => false
/-- == of flat values -/
def eqV : V → V → Bool
  | .non, .non => true
  | .bl a, .bl b => a == b
  | .bl a, .int b => (if a then 1 else 0) == b
  | .int a, .bl b => a == (if b then 1 else 0)
  | .int a, .int b => a == b
  | .str a, .str b => a == b
  | _, _ => false
/-- the items' answers, read off the values (a value's own answer does not lean on its token) -/
def eqU (x : V) (u : Value) : Bool := match u with
  | .none => eqV .non x
  | .bool b => eqV (.bl b) x
  | .int i _ => eqV (.int i) x
  | .str z _ => eqV (.str z) x
  | _ => false
def inV (x : V) (xs : List V) : Bool := xs.any fun y => eqV y x
/-- x in a list or tuple of flat items -/
def rIn (K : PySem.W.Frag) (neg : Bool) : R2 := fun x y H Q => ∃ p xs, y = .ref p ∧ (SqL K H p xs ∨ SqT K H p xs) ∧ flatV x = true ∧ xs.all flatV = true ∧ Q (.bl (if neg then !inV x xs else inV x xs)) H

/-! ### len, list(x), tuple(x) of any list or tuple that is read -/
theorem call_len_seq : CallR X (.builtin "len") (fun xs H Q => ∃ p ys, xs = [.ref p] ∧ (SqL X.K H p ys ∨ SqT X.K H p ys) ∧ Q (.int ys.length) H) := by
  intro pins s σ H xs us Q I r h
  obtain ⟨p, ys, rfl, hq, q⟩ := h
  obtain ⟨u, rfl, rx⟩ := vals1 r
  cases rx
  have hn := line63
  rcases hq with hq | hq
  · obtain ⟨its, r', pl, hz⟩ := I.list hq
    have hlen := r'.length
    exact Calls.call_len_list pl.isList (by simp only [List.size_toArray] <;> omega) ⟨.int ys.length, H, I.tok _, ⟨s.toks + 1, by rw [List.size_toArray, hlen]⟩, q⟩
  · obtain ⟨its, r', pl, hz⟩ := I.tuple hq
    have hlen := r'.length
    exact len_tuple pl (by simp only [List.size_toArray] <;> omega) ⟨.int ys.length, H, I.tok _, ⟨s.toks + 1, by rw [List.size_toArray, hlen]⟩, q⟩
theorem call_list_of : CallR X (.type "list") (fun xs H Q => ∃ p ys, xs = [.ref p] ∧ (SqL X.K H p ys ∨ SqT X.K H p ys) ∧ ∀ l, H l = none → Q (.ref l) (upd H l (.lst ys))) := by
  intro pins s σ H xs us Q I r h
  obtain ⟨p, ys, rfl, hq, q⟩ := h
  obtain ⟨u, rfl, rx⟩ := vals1 r
  cases rx
  have fin : ∀ (its : List Value), Vals ys its → ys.length ≤ sizeLine → ∀ (h' : Heap) (c' : Nat), (∀ b o', s.heap.get? b = some o' → h'.get? b = some o') →
      h'.get? s.heap.objs.size = some { cls := .type "list", dict := none, data := .seq its.toArray c', slots := #[] } → EP X pins σ Q (.ref s.heap.objs.size) { s with heap := h' } := fun its r' hz h' c' kp e =>
    ⟨.ref s.heap.objs.size, _, I.laid (t' := s.toks) kp (Nat.le_refl _) (show ObjOk X.prog X.w _ h' _ (.lst ys) from ⟨hz, its, c', r', e⟩), rfl, q _ (I.hok.fresh (Nat.le_refl _))⟩
  rcases hq with hq | hq
  · obtain ⟨its, r', pl, hz⟩ := I.list hq
    have hlen := r'.length
    obtain ⟨o, ho, hc, n, hd⟩ := pl.isList
    exact call_list_seq p (.inl rfl) ho hc hd (fun h' c' kp e => fin its r' hz h' c' kp e) (by simp only [List.size_toArray] <;> omega)
  · obtain ⟨its, r', pl, hz⟩ := I.tuple hq
    have hlen := r'.length
    obtain ⟨o, ho, hc, n, hd⟩ := pl
    exact call_list_seq p (.inr rfl) ho hc hd (fun h' c' kp e => fin its r' hz h' c' kp e) (by simp only [List.size_toArray] <;> omega)

/-! ### the call of a builtin's method: o.m(..) -/
/-- the value is of that builtin type -/
def tyV (K : PySem.W.Frag) (T : String) (x : V) (H : Hp) : Prop := match x with
  | .str _ => T = "str"
  | .int _ => T = "int"
  | .ref p => (T = "list" ∧ ∃ xs, SqL K H p xs) ∨ (T = "tuple" ∧ ∃ o, K.lookup p = some o ∧ o.cls = .type "tuple" ∧ o.dict = none) ∨
      (T = "dict" ∧ ((∃ kvs, H p = some (.dK kvs)) ∨ ∃ kvs, H p = some (.dT kvs))) ∨ (T = "set" ∧ ∃ S n, H p = some (.set S n))
  | _ => False
theorem tyV_is {pins : List (Addr × Obj)} {σ : St} {H : Hp} {s : Shared} {T : String} {x : V} {v : Value} (I : Inv X pins σ H s) (r : RelV x v) (ty : tyV X.K T x H) :
    s.TypeIs v T ∧ ∀ a, v = .ref a → ∃ ob, s.heap.get? a = some ob ∧ ob.dict = none := by
  cases x with
  | str z =>
    obtain ⟨t, rfl⟩ := r
    cases (show T = "str" from ty)
    exact ⟨typeIs_str s z t, fun _ e => nomatch e⟩
  | int i =>
    obtain ⟨t, rfl⟩ := r
    cases (show T = "int" from ty)
    exact ⟨typeIs_int s i t, fun _ e => nomatch e⟩
  | ref p =>
    cases r
    rcases ty with ⟨rfl, xs, hq⟩ | ⟨rfl, o, hk, hc, hd⟩ | ⟨rfl, hk⟩ | ⟨rfl, S, n, hk⟩
    · obtain ⟨its, _, pl, _⟩ := I.list hq
      refine ⟨pl.isList.typeIs, fun a e => ?_⟩
      cases e
      obtain ⟨o, n, e, c, hd, _⟩ := pl
      exact ⟨o, e, hd⟩
    · refine ⟨⟨o, I.kIn p o hk, hc⟩, fun a e => ?_⟩
      cases e
      exact ⟨o, I.kIn _ o hk, hd⟩
    · have z : ∃ o, s.heap.get? p = some o ∧ o.ExactDict := by
        rcases hk with ⟨kvs, hk⟩ | ⟨kvs, hk⟩
        · obtain ⟨_, _, _, _, o, _, _, e, ex, _⟩ := I.hok p _ hk
          exact ⟨o, e, ex⟩
        · obtain ⟨_, _, _, _, o, _, _, e, ex, _⟩ := I.hok p _ hk
          exact ⟨o, e, ex⟩
      obtain ⟨o, e, ex⟩ := z
      refine ⟨⟨o, e, ex.1⟩, fun a e2 => ?_⟩
      cases e2
      exact ⟨o, e, ex.2.1⟩
    · obtain ⟨o, _, _, _, e, ex, _⟩ := I.hok p _ hk
      refine ⟨⟨o, e, ex.1⟩, fun a e2 => ?_⟩
      cases e2
      exact ⟨o, e, ex.2.1⟩
  | _ => exact False.elim ty
def tBM0 (K : PySem.W.Frag) (T : String) (r : V → List V → Hp → VK → Prop) (to : TE) : TE := fun σ H Q => to σ H fun x H1 => tyV K T x H1 ∧ r x [] H1 Q
def tBM (K : PySem.W.Frag) (T : String) (r : V → List V → Hp → VK → Prop) (to : TE) (t : TA) : TE := fun σ H Q => to σ H fun x H1 => tyV K T x H1 ∧ t σ H1 fun xs H2 => r x xs H2 Q
variable {o e : Expr} {es : List Expr} {to : TE} {t : TA} {name : Str} {apos cpos : Pos} {T id : String} {r : V → List V → Hp → VK → Prop}
theorem pe_bm0 (pa : PlainAttrs T) (slot : Slot T name id) (hty : typeOf (.builtin id) = pure (.type "method_descriptor")) (hm : MtR X id r) (ho : PE X o to)
    (hbase : attributeBase o name X.env (eval o X.env) = eval o X.env := by rfl) (hline : (apos.endLine == cpos.line) = true := by rfl) : PE X (.Call (.Attribute o name apos) [] [] cpos) (tBM0 X.K T r to) := by
  intro pins s σ H Q I h
  refine wpAny_Call_method0_late hbase hline (thn (ho pins s σ H _ I h) fun v s1 ⟨x, H1, I1, r1, ty, q1⟩ => ?_)
  obtain ⟨h1, h2⟩ := tyV_is I1 r1 ty
  exact ⟨T, id, pa, slot, hty, h1, h2, Calls.callWith_builtin rfl (PySem.evalArgs_none (hm pins s1 σ H1 x [] v [] Q I1 r1 .nil q1))⟩
theorem pe_bm (pa : PlainAttrs T) (slot : Slot T name id) (hty : typeOf (.builtin id) = pure (.type "method_descriptor")) (hm : MtR X id r) (ho : PE X o to) (ha : PA X (e :: es) t)
    (hbase : attributeBase o name X.env (eval o X.env) = eval o X.env := by rfl)
    (hfew : ((backTo cpos (starEach (e :: es) X.env)).all (fun x => !x.1) && (backToKw cpos (keywordEach [] X.env)).all (fun x => x.1.isSome)
      && decide ((e :: es).length + ([] : List Keyword).length + (if ([] : List Keyword).isEmpty then 0 else 1) < 30)) = true := by rfl)
    (hline : (apos.endLine == cpos.line) = true := by rfl) (hs : starEach (e :: es) X.env = (false, eval e X.env) :: starEach es X.env := by rfl) (hplain : (backTo cpos (starEach es X.env)).any (·.1) = false := by rfl) :
    PE X (.Call (.Attribute o name apos) (e :: es) [] cpos) (tBM X.K T r to t) := by
  intro pins s σ H Q I h
  refine wpAny_Call_method_late hbase hfew hline rfl (thn (ho pins s σ H _ I h) fun v s1 ⟨x, H1, I1, r1, ty, q1⟩ => ?_)
  obtain ⟨h1, h2⟩ := tyV_is I1 r1 ty
  refine ⟨T, id, pa, slot, hty, h1, h2, ?_⟩
  have hA := ha cpos pins s1 σ H1 _ I1 q1
  rw [hs] at hA ⊢
  refine Calls.callWith_builtin (by show (false || (backTo cpos (starEach es X.env)).any (·.1)) = false; rw [hplain] <;> rfl) (Calls.evalArgs_plain ?_)
  exact thn hA fun us s2 ⟨vs, H2, I2, r2, q2⟩ => hm pins s2 σ H2 x vs v us Q I2 r1 r2 q2
/- xs.append(e), list.index on a module's tuple .. are MtR facts of 06m -/
end
end L2

namespace L2
open PySem PySem.Spec PyProof.Rows

def MtM (X : Cx) (id : String) (r : V → List V → Hp → VK → Prop) : Prop :=
  ∀ (pins : List (Addr × Obj)) (s : Shared) (σ : St) (H : Hp) (x : V) (xs : List V) (v : Value) (us : List Value) (Q : VK), Inv X pins σ H s → RelV x v → Vals xs us → r x xs H Q →
    wpAny (model X.prog X.w) X.A (call (.builtin id) (v :: us)) (EP X pins σ Q) X.xe s

/-! ### lists of values -/
theorem Vals.one : ∀ {x : V} {us : List Value}, Vals [x] us → ∃ u, us = [u] ∧ RelV x u
  | _, _, .cons r .nil => ⟨_, rfl, r⟩
theorem Vals.zero : ∀ {us : List Value}, Vals [] us → us = []
  | _, .nil => rfl
theorem Vals.eraseIdx : ∀ {xs : List V} {us : List Value} (i : Nat), Vals xs us → Vals (xs.eraseIdx i) (us.eraseIdx i)
  | _, _, _, .nil => .nil
  | _, _, 0, .cons _ t => t
  | _, _, i + 1, .cons r t => .cons r (Vals.eraseIdx i t)
theorem len_erase {α : Type} : ∀ (l : List α) (i : Nat), (l.eraseIdx i).length ≤ l.length
  | [], _ => Nat.le_refl _
  | _ :: _, 0 => Nat.le_succ _
  | _ :: r, i + 1 => Nat.succ_le_succ (len_erase r i)

section
variable {X : Cx} {pins : List (Addr × Obj)} {σ : St} {H : Hp} {s : Shared} {l b : Addr} {xs ys zs : List V}

/-! ### the two steps: a tracked list is rewritten, a new list is laid -/
theorem Inv.lset {its its' : List Value} {n : Nat} {f : Array Value → Array Value} {t' : Nat} (I : Inv X pins σ H s) (hH : H l = some (.lst xs))
    (e : s.heap.get? l = some { cls := .type "list", data := .seq its.toArray n }) (hf : f its.toArray = its'.toArray) (hv : Vals ys its') (hz : ys.length ≤ sizeLine) :
    Inv X pins σ (upd H l (.lst ys)) { s with heap := s.heap.update l (Obj.mapSeq f), toks := t' } := by
  have q := PySem.IsL.update e f
  rw [hf] at q
  refine I.write (x := l) (e := l) (by rw [hH]; exact trivial) (.inl rfl) (fun b' u hb hu => (Heap.get?_update_other s.heap (Obj.mapSeq f) (Ne.symm hb)).trans hu) ⟨_, q⟩ ?_
  exact ⟨hz, its', _, hv, q⟩
theorem Inv.lstM (I : Inv X pins σ H s) (hH : H l = some (.lst xs)) : xs.length ≤ sizeLine ∧ ∃ (its : List Value) (n : Nat), Vals xs its ∧ xs.length = its.length ∧ s.heap.get? l = some { cls := .type "list", data := .seq its.toArray n } := by
  obtain ⟨z, its, n, r, e⟩ := I.hok l _ hH
  exact ⟨z, its, n, r, r.length, e⟩

end

section
variable {X : Cx}

/-! ### methods -/
def rAppend : V → List V → Hp → VK → Prop := fun x vs H Q => ∃ l xs y, x = .ref l ∧ vs = [y] ∧ H l = some (.lst xs) ∧ xs.length < sizeLine ∧ Q .non (upd H l (.lst (xs ++ [y])))
theorem mt_append : MtM X "list.append" rAppend := by
  intro pins s σ H x vs v us Q I rx rv h
  obtain ⟨l, xs, y, rfl, rfl, hH, hz, q⟩ := h
  cases rx
  obtain ⟨u, rfl, ru⟩ := rv.one
  obtain ⟨z, its, n, r, hl, e⟩ := I.lstM hH
  refine call_meets F.slot_list_append ⟨_, e, rfl⟩ F.entry_list_append (F.args_list_append_2 _ _) (PySem.list_append l its.toArray n u (by rw [List.size_toArray]; omega)) ⟨e, ?_⟩
  refine ⟨.non, _, I.lset (its' := its ++ [u]) hH e (by simp) (r.append (.cons ru .nil)) ?_, rfl, q⟩
  rw [List.length_append, List.length_singleton]
  omega

def rExtend : V → List V → Hp → VK → Prop := fun x vs H Q => ∃ l b xs zs, x = .ref l ∧ vs = [.ref b] ∧ H l = some (.lst xs) ∧ H b = some (.lst zs) ∧ xs.length + zs.length ≤ sizeLine ∧ Q .non (upd H l (.lst (xs ++ zs)))

def rPop : V → List V → Hp → VK → Prop := fun x vs H Q => ∃ l xs y, x = .ref l ∧ vs = [] ∧ H l = some (.lst xs) ∧ xs[xs.length - 1]? = some y ∧ Q y (upd H l (.lst xs.dropLast))

def rPopAt : V → List V → Hp → VK → Prop := fun x vs H Q => ∃ l xs i k y, x = .ref l ∧ vs = [.int i] ∧ H l = some (.lst xs) ∧ -(2 ^ 63) ≤ i ∧ i < 2 ^ 63 ∧ seqIndex? i xs.length = some k ∧ xs[k]? = some y ∧ Q y (upd H l (.lst (xs.eraseIdx k)))
theorem mt_popAt : MtM X "list.pop" rPopAt := by
  intro pins s σ H x vs v us Q I rx rv h
  obtain ⟨l, xs, i, k, y, rfl, rfl, hH, h1, h2, hk, hy, q⟩ := h
  cases rx
  obtain ⟨u, rfl, ru⟩ := rv.one
  obtain ⟨t, rfl⟩ := ru
  obtain ⟨z, its, n, r, hl, e⟩ := I.lstM hH
  obtain ⟨w, hw, rw'⟩ := r.get hy
  refine call_meets F.slot_list_pop ⟨_, e, rfl⟩ F.entry_list_pop (F.args_list_pop_2 _ _)
    (MeetsSeq.list_pop_at l its.toArray n i t k w (fitsIndex_both h1 h2) (by rw [List.size_toArray, ← hl]; exact hk) (by rw [← Array.getElem?_toList]; exact hw) (by rw [List.size_toArray]; omega)) ⟨e, ?_⟩
  refine ⟨y, _, I.lset (its' := its.eraseIdx k) hH e ?_ (r.eraseIdx k) ?_, rw', q⟩
  · show its.toArray.eraseIdxIfInBounds k = (its.eraseIdx k).toArray
    rw [List.eraseIdxIfInBounds_toArray]
  · have := len_erase xs k
    omega

def rReverse : V → List V → Hp → VK → Prop := fun x vs H Q => ∃ l xs, x = .ref l ∧ vs = [] ∧ H l = some (.lst xs) ∧ Q .non (upd H l (.lst xs.reverse))

def rClear : V → List V → Hp → VK → Prop := fun x vs H Q => ∃ l xs, x = .ref l ∧ vs = [] ∧ H l = some (.lst xs) ∧ Q .non (upd H l (.lst []))
theorem mt_clear : MtM X "list.clear" rClear := by
  intro pins s σ H x vs v us Q I rx rv h
  obtain ⟨l, xs, rfl, rfl, hH, q⟩ := h
  cases rx
  have hus := rv.zero
  subst hus
  obtain ⟨z, its, n, r, hl, e⟩ := I.lstM hH
  refine call_meets F.slot_list_clear ⟨_, e, rfl⟩ F.entry_list_clear (F.args_list_clear_1 _) (AutoSeq1.list_clear_list_0 l its.toArray n (by rw [List.size_toArray]; omega)) ⟨e, ?_⟩
  exact ⟨.non, _, I.lset (its' := []) (ys := []) hH e rfl .nil (Nat.zero_le _), rfl, q⟩

/-! ### list + list, list += list, list * int -/
def rCat : R2 := fun x y H Q => ∃ l b xs zs, x = .ref l ∧ y = .ref b ∧ H l = some (.lst xs) ∧ H b = some (.lst zs) ∧ xs.length + zs.length ≤ sizeLine ∧ ∀ p, H p = none → Q (.ref p) (upd H p (.lst (xs ++ zs)))
/-- a list times an int (a negative one is nothing) -/
def rRep : R2 := fun x y H Q => ∃ l k xs, x = .ref l ∧ y = .int k ∧ H l = some (.lst xs) ∧ -(2 ^ 63) ≤ k ∧ k < 2 ^ 63 ∧ xs.length * k.toNat ≤ sizeLine ∧
  ∀ p, H p = none → Q (.ref p) (upd H p (.lst (List.replicate k.toNat xs).flatten))

/-! ### del xs[i] -/
end

/-! ### xs[a:b] = ys -/
section
variable {prog : Program} {w : World} {A : Around} {E : Value → Shared → Prop} {s : Shared}
set_option maxRecDepth 100000 in
end

section
variable {X : Cx}
end
end L2

namespace Att
open PySem PySem.W PySem.Calls PyProof.Rows

/-! ### the script -/
theorem ints_of_wellAll {P : Params} {h : Heap} : ∀ (ns : List Int) (vs : List Value), WellAll P h vs (ns.map WData.int) → IntsAre vs ns := by
  intro ns
  induction ns with
  | nil =>
    intro vs w
    rw [List.map_nil] at w
    cases w
    exact .nil
  | cons n ns ih =>
    intro vs w
    rw [List.map_cons] at w
    cases w with
    | cons a b =>
      cases a
      exact .cons _ _ (ih _ b)

theorem script_of {l : OpenLaw} {n : Nat} (hn : l.most = some n) {P : Params} {h : Heap} {args : List WData} {vals : List Value}
    (hpre : l.row.toRowW.claim.pre args = true) (hwl : WellAll P h vals args) :
    ∃ a vs ns, vals = [Value.ref a] ∧ args = [WData.list (ns.map WData.int)] ∧ h.get? a = some { cls := .type "list", data := .seq vs.toArray } ∧ IntsAre vs ns ∧ ns.length ≤ n := by
  have hsh : WShape.hasAll [] args [.list .int] = true := (pre_splitW hpre).1
  have hc : l.pre.holds [] { args := args } = true := (pre_splitW hpre).2
  obtain ⟨d, r, rfl, h1, h2⟩ := hasAllW_cons hsh
  obtain rfl := hasAllW_nil h2
  obtain ⟨xs, rfl, h3⟩ := hasW_list h1
  obtain ⟨ns, rfl⟩ := items_int h3
  have hlen : ns.length ≤ n := by
    unfold OpenLaw.pre at hc
    have h4 : (WTm.not (.lt (.lit (.int (n : Int))) (.len (.arg 0)))).holds [] { args := [.list (ns.map .int)] } = true := by
      have h4 := (holds_andW hc).1
      rw [hn] at h4
      exact h4
    have h5 := condW_of h4 (w_not (w_lt w_lit (w_len_list (w_arg rfl))))
    rw [List.length_map] at h5
    refine Nat.le_of_not_lt fun q => ?_
    have q' : (n : Int) < ((ns.length : Nat) : Int) := by omega
    first
      | (rw [decide_eq_true q'] at h5; exact absurd h5 (by decide))
      | (simp at h5; omega)
  cases hwl with
  | cons w1 w2 =>
    cases w2
    cases w1 with
    | list ho hall => exact ⟨_, _, ns, rfl, rfl, ho, ints_of_wellAll ns _ hall, hlen⟩

theorem post_true (l : OpenLaw) (args : List WData) : l.row.toRowW.claim.post args (.bool true) args = true :=
  postW_of (r := l.row.toRowW) (X := (true == true))
    (show WShape.has [] (.bool true) .bool = true by first | rfl | decide | simp [WShape.has, WShape.arms, WShape.armsAll])
    (show (WTm.eq .res (.lit (.bool true))).value [] { args := args, res := some (.bool true), after := args } = some (.bool (true == true)) from w_eq_bool (w_res rfl) w_lit) rfl

/-! ### the attachment: holds_open's last premise (the goal 'hc' behind k_head) from a wpAny of the law's body -/

/-- the same from a codeAny of the CALL (for a layer whose function contracts speak of calls) -/
theorem attach_call {l : OpenLaw} {n : Nat} {q : Program} {loose : List Str} {XP : (Str → Option Value) → Heap → Prop} {YP : World → Heap → Prop} {d : DefRec}
    (hn : l.most = some n) (hdf : d.params.defaults = [])
    (call : ∀ (w : World) (s₀ s₁ : Shared) (mg mb : Str → Option Value) (fa : Addr) (o : Obj) (pm cd doc : Value) (a : Addr) (vs : List Value) (ns : List Int),
      Ground q loose [] XP w s₀ mg mb s₁.heap → YP w s₁.heap →
      s₁.heap.get? fa = some o → o.data = .func (docDef d.name d.params d.body d.scope pm cd doc) → s₁.heap.CodeRec cd d.name → mg d.name = some (.ref fa) →
      s₁.heap.get? a = some { cls := .type "list", data := .seq vs.toArray } → IntsAre vs ns → ns.length ≤ n → s₁.gens = #[] →
      codeAny (model l.prog w) callerA (.call (.ref fa) ⟨[.ref a], []⟩) (fun r s' => r = .ok (.ret (.bool true)) ∧ OldK s₁.heap s'.heap ∧ s'.os = s₁.os ∧ AllBare s'.gens) s₁) :
    WalkO q loose XP YP l.row.toRowW d [] (fun f vs => PySem.call f vs) := by
  intro w s₀ s₁ mg mb G Y fa o pm cd doc dV kV ho hd hcd hD hmg hg args vals as hpre hlay hrd hwl hlo
  obtain rfl : dV = .none := Dflts.none hD hdf
  obtain rfl : kV = .none := Dflts.noKw hD
  obtain ⟨a, vs, ns, rfl, rfl, hobj, hints, hlen⟩ := script_of hn hpre hwl
  refine enter_call (codeAny_mono (call w s₀ s₁ mg mb fa o pm cd doc a vs ns G Y ho (fd_plain hd) hcd hmg hobj hints hlen hg) fun r s' hq => ?_)
  obtain ⟨rfl, h2, h3, h4⟩ := hq
  exact ⟨.inl ⟨.bool true, .bool true, [], rfl, fun _ => rfl, .bool true, post_true l _, fun _ => ⟨List.Pairwise.nil, fun _ hm => (nomatch hm)⟩⟩, h2, h3, h4⟩


/-! ### rules over ANY heap (no ledger) from facts about the written part K: the library's own take a ledger (News) for what they write -/
section
variable {prog : Program} {w : World} {A : Around} {E : Value → Shared → Prop} {s : Shared} {K : Frag}





/-! the whole heap as the ledger: makes every rule that writes through a ledger a rule over any heap -/
def noObjs (h : Heap) : Heap := { h with objs := #[] }
def ledger (h : Heap) (L d : Addr) : List (Addr × Obj) := (List.range h.objs.size).filterMap fun a => if a = L ∨ a = d then none else (h.get? a).map fun o => (a, o)

end
end Att

namespace L2
open PySem PySem.Spec PyProof.Rows

theorem vals_ints : ∀ {vs : List Value} {ns : List Int}, IntsAre vs ns → Vals (ns.map V.int) vs
  | _, _, .nil => .nil
  | _, _, .cons n t h => .cons ⟨t, rfl⟩ (vals_ints h)

/-- nothing is tracked but the script, known to the object (or it is an object of the module) -/
def Only (H : Hp) : Prop := ∀ b, H b = none ∨ ∃ o xs, H b = some (.frz o (.lst xs))

end L2

namespace L2
open PySem PySem.Spec PyProof.Rows

abbrev KOf {K : PySem.W.Frag} {h : Heap} (_ : K.In h) : PySem.W.Frag := K

end L2

/- THE LAST THEOREM (shape; LID, My.* are yours):
   My.Adr: a structure of the addresses that your layer names (classes, functions); My.Txt K t: a structure (Prop) of the equations over K;
   My.txt_mk : {K} {implicit addresses ..} (e1 : nsIn K mainGlobals "law" = some (some (.ref f))) (e2 : K.lookup f = some ⟨oc, od, .func (fnOf "law" "law" params body scope dV kV doc pm an cdv ct), sl⟩) (e3 : codeIn K cdv "law" = true) .. : ∃ t, My.Txt K t

set_option maxRecDepth 100000 in
set_option maxHeartbeats 0 in
theorem PySem.Challenge.cw_LID_holds : PySem.Challenge.rw_LID.Holds := by
  w_on; o_law; k_head; (case hw => w_witness2)
  k_fill
  refine L2.walk_of (l := PySem.Challenge.rw_LID) (n := 63) (k := 40) (x := "script") (CX := fun w => ..) (sp := fun _ => My.sp_law) rfl (by decide) rfl ⟨rfl, by decide, by decide⟩ (fun w h Y => PySem.W.kIn_of Y) ?F ?S ?C
  case F =>
    intro w mg fa h KX G hmg
    have T : ∃ t, My.Txt (L2.KOf KX) t := by
      dsimp only [L2.KOf]                          -- K must stand as «<heap const> w.params» for k_is
      refine' My.txt_mk ?e1 ?e2 ?e3 ..
      (case e1 => PySem.W.k_is)                    -- in the order: a name -> its address -> its object -> its parts
      (case e2 => PySem.W.k_is)
      ..
    obtain ⟨t, T⟩ := T
    have e0 := hmg.symm.trans (PySem.W.mg_of KX G T.law)
    cases e0                                       -- fa is the law's own address
    exact ⟨_, fun s u => .of_eq rfl, fun base kb nb => My.law_fn T kb nb⟩     -- if «.of_eq rfl» comes too early: refine' ⟨_, ?b, fun base kb nb => My.law_fn T kb nb⟩; exact fun s u => .of_eq rfl
  case S => exact fun w H a ns hl hO hS => ..
  case C => exact ..
(the tactic k_is has no namespace: write k_is) -/

/-! SHORT WORDS over the layer: a def of the text, its body, what a loop and a test want. -/
namespace L2
open PySem PySem.Spec PyProof.Rows

/-! ### the text by places -/
/-- the j-th statement of a class's body -/
def inClass (s : Stmt) (j : Nat) : Stmt := match s with
  | .ClassDef _ _ _ body _ _ _ _ _ _ _ => body.getD j (.Pass ⟨0, 0, 0, 0⟩)
  | _ => .Pass ⟨0, 0, 0, 0⟩
def defArgs (s : Stmt) : Arguments := match s with
  | .FunctionDef _ a _ _ _ _ _ _ _ _ => a
  | _ => { posonlyargs := [], args := [], vararg := none, kwonlyargs := [], kw_defaults := [], kwarg := none, defaults := [] }
def defBody (s : Stmt) : List Stmt := match s with
  | .FunctionDef _ _ b _ _ _ _ _ _ _ => b
  | _ => []
def defScope (s : Stmt) : Scope := match s with
  | .FunctionDef _ _ _ _ _ _ sc _ _ _ => sc
  | _ => { kind := .function, names := [], isGenerator := false, isCoroutine := false }

/-! ### no exception leaves a def -/
abbrev CX0 : CXT := fun _ _ _ _ _ _ => False
abbrev E0 : XK := fun _ _ _ => False
theorem pass0 {X : Cx} : Passes CX0 X E0 := fun _ _ _ _ _ _ _ h => h.elim

/-! ### a def (or method) of the text as it stands behind the top -/
structure Fun (K : PySem.W.Frag) (x qual : Str) (st : Stmt) (f : Addr) (fd : FuncData) : Prop where
  ex : ∃ (oc : Value) (od : Option Addr) (kV doc pm : Value) (an : Option Addr) (cdv ct : Value) (osl : Array (Option Value)),
    fd = PySem.W.fnOf x qual (defArgs st) (defBody st) (defScope st) .none kV doc pm an cdv ct ∧ K.lookup f = some ⟨oc, od, .func fd, osl⟩ ∧ PySem.W.codeIn K cdv qual = true
  kp : PySem.W.keepIn K (.ref f) = true
section
variable {P : Program} {w : World} {K : PySem.W.Frag} {mg : Str → Option Value} {base : Heap}
/-- THE RULE for a def: its body as a term of rules, and the reading of that term -/
theorem Fun.ok {x qual : Str} {st : Stmt} {f : Addr} {fd : FuncData} {N ps : List Str} {k : Nat} {sp : Sp} (F : Fun K x qual st f fd) (S : FnScope N ps (defScope st)) (len : ∀ vs H Q E, sp vs H Q E → vs.length = ps.length)
    (hbody : ∀ (cdv : Value) (A : Around) (outer : List Env) (s : Shared) (H : Hp) (vs : List V) (Q : VK) (E : XK), Room k (A.deeper (envOfC qual (defScope st) s.heap.objs.size f cdv)) → sp vs H Q E →
      ∃ t, PSs (cxOf CX0 P w K mg base N qual (defScope st) f cdv A outer s H E).nox (defBody st) t ∧ t { nx := fun _ H' => Q .non H', rt := Q } (start N vs) H) : FnOk P w K mg base CX0 (k + 1) f fd ps sp := by
  obtain ⟨oc, od, kV, doc, pm, an, cdv, ct, osl, rfl, lk, hcd⟩ := F.ex
  refine fn_of lk hcd S len fun A outer s H vs Q E hr hsp => ?_
  obtain ⟨t, h, q⟩ := hbody cdv A outer s H vs Q E hr hsp
  exact ⟨t, h.nox, q⟩
/-- how its arguments bind (no defaults): h is «fun _ _ _ _ _ _ us hl => match us, hl with | [_, _], _ => rfl», one _ a parameter -/
theorem Fun.binds {x qual : Str} {st : Stmt} {f : Addr} {fd : FuncData} {ps : List Str} (F : Fun K x qual st f fd)
    (h : ∀ (kV doc pm : Value) (an : Option Addr) (cdv ct : Value) (us : List Value), us.length = ps.length → bindArgs (PySem.W.fnOf x qual (defArgs st) (defBody st) (defScope st) .none kV doc pm an cdv ct) ⟨us, []⟩ = pure (ps.zip us)) : Binds K fd ps [] := by
  obtain ⟨oc, od, kV, doc, pm, an, cdv, ct, osl, rfl, lk, hcd⟩ := F.ex
  exact .all (h kV doc pm an cdv ct)
theorem fun_mk {x qual : Str} {st : Stmt} {f : Addr} {oc : Value} {od an : Option Addr} {osl : Array (Option Value)} {kV doc pm cdv ct : Value} (l : K.lookup f = some ⟨oc, od, .func (PySem.W.fnOf x qual (defArgs st) (defBody st) (defScope st) .none kV doc pm an cdv ct), osl⟩)
    (c : PySem.W.codeIn K cdv qual = true) (k : PySem.W.keepIn K (.ref f) = true) : Fun K x qual st f (PySem.W.fnOf x qual (defArgs st) (defBody st) (defScope st) .none kV doc pm an cdv ct) := ⟨⟨oc, od, kV, doc, pm, an, cdv, ct, osl, rfl, l, c⟩, k⟩
end

/-! ### expressions in short: the name that stands in the i-th slot -/
section
variable {X : Cx}
theorem pv (i : Nat) {x : Str} {pos : Pos} (hN : X.N[i]? = some x := by rfl) (hv : Vis X.env.scope x := by first | exact Or.inl rfl | exact Or.inr (Or.inl rfl) | exact Or.inr (Or.inr rfl)) (hd : (x == ("__debug__" : Str)) = false := by decide)
    (hcd : (x == ("__classdict__" : Str)) = false := by decide) : PE X (.Name x pos) (tVar i) := pe_var hN hv hd hcd
end

/-! ### tests -/
theorem iteF {A B : Prop} (h : B) : if false = true then A else B := by
  rw [if_neg Bool.false_ne_true]
  exact h
theorem iteT {A B : Prop} (h : A) : if true = true then A else B := by
  rw [if_pos rfl]
  exact h

/-! ### heaps -/
/-- all that was tracked is as it was -/
def Same (H H' : Hp) : Prop := ∀ b o, H b = some o → H' b = some o
theorem Same.trans {H H1 H2 : Hp} (a : Same H H1) (b : Same H1 H2) : Same H H2 := fun c o h => b c o (a c o h)
theorem Same.seq {K : PySem.W.Frag} {H H' : Hp} {a : Addr} {xs : List V} (e : Same H H') (h : SqL K H a xs) : SqL K H' a xs := by
  rcases h with (h | ⟨o, h⟩) | h
  · exact .inl (.inl (e _ _ h))
  · exact .inl (.inr ⟨o, e _ _ h⟩)
  · exact .inr h

end L2

set_option maxHeartbeats 4000000
namespace YM
/-! ### orders -/
structure Ord {α : Type} (f : α → α → Int) (D : α → Prop) : Prop where
  rfl' : ∀ x, D x → f x x = 0
  anti : ∀ x y, D x → D y → (0 < f x y ↔ f y x < 0)
  trans : ∀ x y z, D x → D y → D z → f x y ≤ 0 → f y z ≤ 0 → f x z ≤ 0
section
variable {α : Type} {f : α → α → Int} {D : α → Prop}
theorem Ord.zero (O : Ord f D) {x y : α} (hx : D x) (hy : D y) : f x y = 0 ↔ f y x = 0 := by
  have h1 := O.anti x y hx hy
  have h2 := O.anti y x hy hx
  constructor <;> intro h <;> omega
def Srt (f : α → α → Int) (l : List α) : Prop := l.Pairwise fun x y => f x y ≤ 0
def cls (f : α → α → Int) (z : α) (l : List α) : List α := l.filter fun x => f z x == 0
theorem cls_append (z : α) (a b : List α) : cls f z (a ++ b) = cls f z a ++ cls f z b := List.filter_append ..


/-! ### the law's own sort: from behind -/
def insAt (f : α → α → Int) (e : α) (l : List α) : Nat → Nat
  | 0 => 0
  | p + 1 => match l[p]? with
    | some y => if f y e > 0 then insAt f e l p else p + 1
    | none => p + 1
def ins (f : α → α → Int) (l : List α) (e : α) : List α := l.take (insAt f e l l.length) ++ e :: l.drop (insAt f e l l.length)
def sortS (f : α → α → Int) (l : List α) : List α := l.foldl (ins f) []
theorem insAt_le (e : α) (l : List α) : ∀ p, insAt f e l p ≤ p
  | 0 => Nat.le_refl 0
  | p + 1 => by
    unfold insAt
    split
    · split
      · exact Nat.le_succ_of_le (insAt_le e l p)
      · exact Nat.le_refl _
    · exact Nat.le_refl _
theorem insAt_hi (e : α) (l : List α) : ∀ p, p ≤ l.length → ∀ i, insAt f e l p ≤ i → i < p → ∃ y, l[i]? = some y ∧ f y e > 0
  | 0, _, i, _, h => by omega
  | p + 1, hp, i, h1, h2 => by
    have hlt : p < l.length := by omega
    have e0 : l[p]? = some l[p] := by simp [hlt]
    unfold insAt at h1
    rw [e0] at h1
    simp only at h1
    split at h1
    · rename_i hc
      by_cases hi : i = p
      · subst hi; exact ⟨_, e0, hc⟩
      · exact insAt_hi e l p (by omega) i h1 (by omega)
    · omega
theorem insAt_lo (e : α) (l : List α) : ∀ p, p ≤ l.length → insAt f e l p = 0 ∨ ∃ y, l[insAt f e l p - 1]? = some y ∧ f y e ≤ 0
  | 0, _ => .inl rfl
  | p + 1, hp => by
    have hlt : p < l.length := by omega
    have e0 : l[p]? = some l[p] := by simp [hlt]
    unfold insAt
    rw [e0]
    simp only
    split
    · exact insAt_lo e l p (by omega)
    · rename_i hc
      right
      refine ⟨l[p], by simp [hlt], ?_⟩
      omega
theorem ins_mem (l : List α) (e x : α) : x ∈ ins f l e ↔ x ∈ l ∨ x = e := by
  unfold ins
  have h := List.take_append_drop (insAt f e l l.length) l
  constructor
  · intro hx
    rcases List.mem_append.mp hx with h1 | h1
    · exact .inl (List.mem_of_mem_take h1)
    · rcases List.mem_cons.mp h1 with h2 | h2
      · exact .inr h2
      · exact .inl (List.mem_of_mem_drop h2)
  · rintro (hx | rfl)
    · rw [← h] at hx
      rcases List.mem_append.mp hx with h1 | h1
      · exact List.mem_append_left _ h1
      · exact List.mem_append_right _ (List.mem_cons_of_mem _ h1)
    · exact List.mem_append_right _ List.mem_cons_self
theorem ins_length (l : List α) (e : α) : (ins f l e).length = l.length + 1 := by
  unfold ins
  rw [List.length_append, List.length_cons, List.length_take, List.length_drop]
  have := insAt_le (f := f) e l l.length
  omega
theorem ins_perm (l : List α) (e : α) : (ins f l e).Perm (e :: l) := by
  unfold ins
  refine List.perm_middle.trans ?_
  rw [List.take_append_drop]
theorem Srt.take_le (O : Ord f D) {l : List α} {e : α} (d : ∀ x ∈ l, D x) (he : D e) (s : Srt f l) : ∀ x ∈ l.take (insAt f e l l.length), f x e ≤ 0 := by
  intro x hx
  rcases insAt_lo (f := f) e l l.length (Nat.le_refl _) with h0 | ⟨y, hy, hle⟩
  · rw [h0] at hx; simp at hx
  · obtain ⟨i, hi⟩ := List.getElem?_of_mem hx
    have hil : i < insAt f e l l.length := by
      have := (List.getElem?_eq_some_iff.mp hi).1
      rw [List.length_take] at this
      omega
    rw [List.getElem?_take_of_lt hil] at hi
    have hxl := List.mem_of_getElem? hi
    have hyl := List.mem_of_getElem? hy
    by_cases hEq : i = insAt f e l l.length - 1
    · rw [hEq, hy] at hi
      cases hi
      exact hle
    · have hlt : i < insAt f e l l.length - 1 := by omega
      obtain ⟨hb1, hb2⟩ := List.getElem?_eq_some_iff.mp hi
      obtain ⟨hc1, hc2⟩ := List.getElem?_eq_some_iff.mp hy
      have := List.pairwise_iff_getElem.mp s i _ hb1 hc1 hlt
      rw [hb2, hc2] at this
      exact O.trans x y e (d x hxl) (d y hyl) he this hle
theorem Srt.drop_gt {l : List α} {e : α} : ∀ x ∈ l.drop (insAt f e l l.length), f x e > 0 := by
  intro x hx
  obtain ⟨i, hi⟩ := List.getElem?_of_mem hx
  rw [List.getElem?_drop] at hi
  obtain ⟨hb1, _⟩ := List.getElem?_eq_some_iff.mp hi
  obtain ⟨y, h1, h2⟩ := insAt_hi (f := f) e l l.length (Nat.le_refl _) _ (Nat.le_add_right _ i) hb1
  rw [hi] at h1; cases h1
  exact h2
theorem Srt.ins (O : Ord f D) {l : List α} {e : α} (d : ∀ x ∈ l, D x) (he : D e) (s : Srt f l) : Srt f (ins f l e) := by
  have h1 := Srt.take_le O d he s
  have h2 := Srt.drop_gt (f := f) (l := l) (e := e)
  have s' : (l.take (insAt f e l l.length) ++ l.drop (insAt f e l l.length)).Pairwise fun x y => f x y ≤ 0 := by rw [List.take_append_drop]; exact s
  obtain ⟨a1, a2, a3⟩ := List.pairwise_append.mp s'
  unfold YM.ins
  refine List.pairwise_append.mpr ⟨a1, List.pairwise_cons.mpr ⟨fun y hy => ?_, a2⟩, fun x hx y hy => ?_⟩
  · have := h2 y hy
    have := (O.anti y e (d y (List.mem_of_mem_drop hy)) he).mp (h2 y hy)
    omega
  · rcases List.mem_cons.mp hy with rfl | hy
    · exact h1 x hx
    · exact a3 x hx y hy
theorem cls_ins (O : Ord f D) {l : List α} {e z : α} (d : ∀ x ∈ l, D x) (he : D e) (hz : D z) (s : Srt f l) : cls f z (ins f l e) = cls f z l ++ cls f z [e] := by
  have h2 := Srt.drop_gt (f := f) (l := l) (e := e)
  have hl := List.take_append_drop (insAt f e l l.length) l
  by_cases hze : f z e = 0
  · have hnil : cls f z (l.drop (insAt f e l l.length)) = [] := by
      unfold cls
      rw [List.filter_eq_nil_iff]
      intro x hx hc
      have hx0 : f z x = 0 := by simpa using hc
      have hxl := d x (List.mem_of_mem_drop hx)
      have g := h2 x hx
      have xz : f x z ≤ 0 := by
        have := (O.zero hz hxl).mp hx0
        omega
      have := O.trans x z e hxl hz he xz (by omega)
      omega
    have e1 : cls f z l = cls f z (l.take (insAt f e l l.length)) := by
      conv => lhs; rw [← hl]
      rw [cls_append, hnil, List.append_nil]
    unfold YM.ins
    rw [cls_append, e1]
    congr 1
    show cls f z ([e] ++ _) = _
    rw [cls_append, hnil, List.append_nil]
  · have hc : cls f z [e] = [] := by simp [cls, hze]
    unfold YM.ins
    rw [cls_append, hc, List.append_nil]
    have : cls f z (e :: l.drop (insAt f e l l.length)) = cls f z (l.drop (insAt f e l l.length)) := by simp [cls, hze]
    rw [this, ← cls_append, hl]

theorem sortS_go (O : Ord f D) : ∀ (l acc : List α), (∀ x ∈ l, D x) → (∀ x ∈ acc, D x) → Srt f acc →
    Srt f (l.foldl (ins f) acc) ∧ (∀ x, x ∈ l.foldl (ins f) acc ↔ x ∈ acc ∨ x ∈ l) ∧ (∀ z, D z → cls f z (l.foldl (ins f) acc) = cls f z acc ++ cls f z l) := by
  intro l
  induction l with
  | nil => intro acc _ _ s; exact ⟨s, by simp, by simp [cls]⟩
  | cons e r ih =>
    intro acc dl da s
    have he := dl e List.mem_cons_self
    have da' : ∀ x ∈ ins f acc e, D x := fun x hx => by
      rcases (ins_mem acc e x).mp hx with h | h
      · exact da x h
      · rw [h]; exact he
    obtain ⟨h1, h2, h3⟩ := ih (ins f acc e) (fun x hx => dl x (List.mem_cons_of_mem _ hx)) da' (Srt.ins O da he s)
    refine ⟨h1, fun x => ?_, fun z hz => ?_⟩
    · rw [List.foldl_cons, h2 x, ins_mem, List.mem_cons]
      constructor
      · rintro ((h | h) | h) <;> simp_all
      · rintro (h | h | h) <;> simp_all
    · rw [List.foldl_cons, h3 z hz, cls_ins O da he hz s, List.append_assoc, ← cls_append]
      rfl
theorem sortS_srt (O : Ord f D) {l : List α} (d : ∀ x ∈ l, D x) : Srt f (sortS f l) := (sortS_go O l [] d (by simp) List.Pairwise.nil).1
theorem sortS_perm (l : List α) : (sortS f l).Perm l := by
  have go : ∀ (l acc : List α), (l.foldl (ins f) acc).Perm (l ++ acc) := by
    intro l
    induction l with
    | nil => intro acc; exact List.Perm.refl _
    | cons e r ih =>
      intro acc
      rw [List.foldl_cons]
      refine (ih _).trans ?_
      refine ((ins_perm acc e).append_left r).trans ?_
      exact List.perm_middle
  have := go l []
  rw [List.append_nil] at this
  exact this
end

/-! ### log -/
def clog (n : Nat) : Nat := if n ≤ 1 then 0 else clog ((n + 1) / 2) + 1
termination_by n
decreasing_by omega
theorem clog_le {n : Nat} (h : n ≤ 1) : clog n = 0 := by unfold clog; rw [if_pos h]
theorem clog_gt {n : Nat} (h : 1 < n) : clog n = clog ((n + 1) / 2) + 1 := by rw [clog, if_neg (by omega)]
theorem clog_pow (n : Nat) : n ≤ 2 ^ clog n := by
  induction n using Nat.strongRecOn with
  | _ n ih =>
    by_cases h : n ≤ 1
    · rw [clog_le h]; simpa using h
    · rw [clog_gt (by omega), Nat.pow_succ]
      have := ih ((n + 1) / 2) (by omega)
      omega
theorem clog_least : ∀ (k n : Nat), n ≤ 2 ^ k → clog n ≤ k
  | 0, n, h => by rw [clog_le (by simpa using h)]; exact Nat.le_refl 0
  | k + 1, n, h => by
    by_cases hn : n ≤ 1
    · rw [clog_le hn]; exact Nat.zero_le _
    · rw [clog_gt (by omega)]
      have : (n + 1) / 2 ≤ 2 ^ k := by rw [Nat.pow_succ] at h; omega
      have := clog_least k _ this
      omega
theorem clog_unique {n k : Nat} (h1 : n ≤ 2 ^ k) (h2 : ∀ j, j < k → 2 ^ j < n) : clog n = k := by
  have a := clog_least k n h1
  by_cases hk : clog n = k
  · exact hk
  · have := h2 (clog n) (by omega)
    have := clog_pow n
    omega
theorem clog_mono {m n : Nat} (h : m ≤ n) : clog m ≤ clog n := clog_least _ _ (Nat.le_trans h (clog_pow n))

/-! ### the search -/
section
variable {α : Type} (F : List (α × α) → α → α → Int) (t : Int → Bool) (xs : List α) (key : α)
def bis (L : List (α × α)) (lo hi : Nat) : Nat × List (α × α) :=
  if h : lo < hi then
    match xs[(lo + hi) / 2]? with
    | some x => if t (F L x key) then bis (L ++ [(x, key)]) ((lo + hi) / 2 + 1) hi else bis (L ++ [(x, key)]) lo ((lo + hi) / 2)
    | none => (lo, L)
  else (lo, L)
termination_by hi - lo
decreasing_by all_goals omega
variable {F t xs key}
theorem bis_stop {L : List (α × α)} {lo hi : Nat} (h : ¬ lo < hi) : bis F t xs key L lo hi = (lo, L) := by rw [bis, dif_neg h]
theorem bis_step {L : List (α × α)} {lo hi : Nat} {x : α} (h : lo < hi) (e : xs[(lo + hi) / 2]? = some x) :
    bis F t xs key L lo hi = if t (F L x key) then bis F t xs key (L ++ [(x, key)]) ((lo + hi) / 2 + 1) hi else bis F t xs key (L ++ [(x, key)]) lo ((lo + hi) / 2) := by
  rw [bis, dif_pos h, e]
theorem bis_all : ∀ (k : Nat) (L : List (α × α)) (lo hi : Nat), lo ≤ hi → hi ≤ xs.length → hi - lo + 1 ≤ 2 ^ k →
    lo ≤ (bis F t xs key L lo hi).1 ∧ (bis F t xs key L lo hi).1 ≤ hi ∧ (∃ M, (bis F t xs key L lo hi).2 = L ++ M ∧ M.length ≤ k ∧ ∀ p ∈ M, p.1 ∈ xs ∧ p.2 = key)
  | 0, L, lo, hi, h1, h2, h3 => by
    rw [bis_stop (by simp at h3; omega)]
    exact ⟨Nat.le_refl _, h1, [], by simp, Nat.le_refl _, by simp⟩
  | k + 1, L, lo, hi, h1, h2, h3 => by
    by_cases h : lo < hi
    · have hm : (lo + hi) / 2 < xs.length := by omega
      have e : xs[(lo + hi) / 2]? = some xs[(lo + hi) / 2] := by simp [hm]
      rw [bis_step h e]
      rw [Nat.pow_succ] at h3
      split
      · obtain ⟨a, b, M, c, d, g⟩ := bis_all k (L ++ [(xs[(lo + hi) / 2], key)]) ((lo + hi) / 2 + 1) hi (by omega) h2 (by omega)
        refine ⟨by omega, b, (xs[(lo + hi) / 2], key) :: M, by rw [c]; simp, by simp; omega, ?_⟩
        intro p hp
        rcases List.mem_cons.mp hp with rfl | hp
        · exact ⟨List.getElem_mem hm, rfl⟩
        · exact g p hp
      · obtain ⟨a, b, M, c, d, g⟩ := bis_all k (L ++ [(xs[(lo + hi) / 2], key)]) lo ((lo + hi) / 2) (by omega) (by omega) (by omega)
        refine ⟨a, by omega, (xs[(lo + hi) / 2], key) :: M, by rw [c]; simp, by simp; omega, ?_⟩
        intro p hp
        rcases List.mem_cons.mp hp with rfl | hp
        · exact ⟨List.getElem_mem hm, rfl⟩
        · exact g p hp
    · rw [bis_stop h]
      exact ⟨Nat.le_refl _, h1, [], by simp, Nat.zero_le _, by simp⟩
/-- by a test that holds of a front part alone -/
theorem bis_count {p : α → Bool} (hF : ∀ L x, x ∈ xs → t (F L x key) = p x) (c : Nat) (hc : c ≤ xs.length) (h1 : ∀ i x, xs[i]? = some x → (p x = true ↔ i < c)) :
    ∀ (n : Nat) (L : List (α × α)) (lo hi : Nat), hi - lo = n → lo ≤ c → c ≤ hi → hi ≤ xs.length → (bis F t xs key L lo hi).1 = c := by
  intro n
  induction n using Nat.strongRecOn with
  | _ n ih =>
    intro L lo hi hn hl hh hx
    by_cases h : lo < hi
    · have hm : (lo + hi) / 2 < xs.length := by omega
      have e : xs[(lo + hi) / 2]? = some xs[(lo + hi) / 2] := by simp [hm]
      rw [bis_step h e, hF _ _ (List.getElem_mem hm)]
      have q := h1 _ _ e
      split
      · rename_i ht
        exact ih _ (by omega) _ _ _ rfl (by have := q.mp ht; omega) hh hx
      · rename_i ht
        refine ih _ (by omega) _ _ _ rfl hl ?_ (by omega)
        by_cases hlt : (lo + hi) / 2 < c
        · exact absurd (q.mpr hlt) ht
        · omega
    · rw [bis_stop h]
      show lo = c
      omega
end
/-- a test that holds of a front part: its count -/
theorem front_count {α : Type} {p : α → Bool} : ∀ {xs : List α}, xs.Pairwise (fun x y => p y = true → p x = true) → ∀ (i : Nat) (x : α), xs[i]? = some x → (p x = true ↔ i < (xs.filter p).length)
  | [], _, i, x, e => by simp at e
  | y :: r, h, i, x, e => by
    obtain ⟨h1, h2⟩ := List.pairwise_cons.mp h
    cases hp : p y with
    | true =>
      rw [List.filter_cons, hp, if_pos rfl, List.length_cons]
      cases i with
      | zero => simp at e; subst e; simp [hp]
      | succ i =>
        have := front_count h2 i x (by simpa using e)
        rw [this]; omega
    | false =>
      have hr : r.filter p = [] := by
        rw [List.filter_eq_nil_iff]
        intro z hz hpz
        have := h1 z hz hpz
        rw [hp] at this; cases this
      rw [List.filter_cons, hp, if_neg Bool.false_ne_true, hr]
      simp only [List.length_nil, Nat.not_lt_zero, iff_false, Bool.not_eq_true]
      cases i with
      | zero => simp at e; subst e; exact hp
      | succ i =>
        have hm := List.mem_of_getElem? (by simpa using e : r[i]? = some x)
        cases hx : p x with
        | false => rfl
        | true => have := h1 x hm hx; rw [hp] at this; cases this
theorem Ord.lt_trans {β : Type} {f : β → β → Int} {D : β → Prop} (O : Ord f D) {x y z : β} (hx : D x) (hy : D y) (hz : D z) (h1 : f x y ≤ 0) (h2 : f y z < 0) : f x z < 0 := by
  have a := O.trans x y z hx hy hz h1 (by omega)
  rcases Int.lt_or_eq_of_le a with h | h
  · exact h
  · exfalso
    have zx : f z x ≤ 0 := by have := (O.zero hx hz).mp h; omega
    have zy := O.trans z x y hz hx hy zx h1
    have := (O.anti z y hz hy).mpr h2
    omega
end YM

namespace YM
section
variable {α : Type} (F : List (α × α) → α → α → Int)
/-! ### merged -/
def mrg (L : List (α × α)) : List α → List α → List α × List (α × α)
  | [], ys => (ys, L)
  | x :: xs, [] => (x :: xs, L)
  | x :: xs, y :: ys =>
    if F L x y > 0 then (y :: (mrg (L ++ [(x, y)]) (x :: xs) ys).1, (mrg (L ++ [(x, y)]) (x :: xs) ys).2)
    else (x :: (mrg (L ++ [(x, y)]) xs (y :: ys)).1, (mrg (L ++ [(x, y)]) xs (y :: ys)).2)
termination_by xs ys => xs.length + ys.length
variable {F}
theorem mrg_nil {L : List (α × α)} {ys : List α} : mrg F L [] ys = (ys, L) := by rw [mrg]
theorem mrg_nil2 {L : List (α × α)} {xs : List α} : mrg F L xs [] = (xs, L) := by cases xs <;> rw [mrg]
theorem mrg_gt {L : List (α × α)} {x y : α} {xs ys : List α} (h : F L x y > 0) : mrg F L (x :: xs) (y :: ys) = (y :: (mrg F (L ++ [(x, y)]) (x :: xs) ys).1, (mrg F (L ++ [(x, y)]) (x :: xs) ys).2) := by
  rw [mrg, if_pos h]
theorem mrg_le {L : List (α × α)} {x y : α} {xs ys : List α} (h : ¬ F L x y > 0) : mrg F L (x :: xs) (y :: ys) = (x :: (mrg F (L ++ [(x, y)]) xs (y :: ys)).1, (mrg F (L ++ [(x, y)]) xs (y :: ys)).2) := by
  rw [mrg, if_neg h]
/-- by any function -/
structure Mrg (L : List (α × α)) (xs ys : List α) (r : List α × List (α × α)) : Prop where
  perm : r.1.Perm (xs ++ ys)
  one : xs.Sublist r.1
  other : ys.Sublist r.1
  log : ∃ M, r.2 = L ++ M ∧ (∀ p ∈ M, p.1 ∈ xs ∧ p.2 ∈ ys) ∧ M.length ≤ xs.length + ys.length - 1 ∧ (xs = [] ∨ ys = [] → M = [])
theorem mrg_any : ∀ (n : Nat) (L : List (α × α)) (xs ys : List α), xs.length + ys.length = n → Mrg L xs ys (mrg F L xs ys) := by
  intro n
  induction n with
  | zero =>
    intro L xs ys h
    have hx : xs = [] := List.length_eq_zero_iff.mp (by omega)
    have hy : ys = [] := List.length_eq_zero_iff.mp (by omega)
    subst hx; subst hy
    rw [mrg_nil]
    exact ⟨List.Perm.refl _, List.Sublist.refl _, List.Sublist.refl _, [], by simp, by simp, by simp, fun _ => rfl⟩
  | succ n ih =>
    intro L xs ys h
    cases xs with
    | nil =>
      rw [mrg_nil]
      exact ⟨List.Perm.refl _, List.nil_sublist _, List.Sublist.refl _, [], by simp, by simp, by simp, fun _ => rfl⟩
    | cons x xs =>
      cases ys with
      | nil =>
        rw [mrg_nil2]
        exact ⟨by rw [List.append_nil], List.Sublist.refl _, List.nil_sublist _, [], by simp, by simp, by simp, fun _ => rfl⟩
      | cons y ys =>
        by_cases hc : F L x y > 0
        · rw [mrg_gt hc]
          obtain ⟨p, o1, o2, M, e, hm, hl, hz⟩ := ih (L ++ [(x, y)]) (x :: xs) ys (by simp at h ⊢; omega)
          refine ⟨(p.cons y).trans List.perm_middle.symm, o1.cons _, o2.cons_cons _, (x, y) :: M, by rw [e]; simp, ?_, ?_, by simp⟩
          · intro q hq
            rcases List.mem_cons.mp hq with rfl | hq
            · exact ⟨List.mem_cons_self, List.mem_cons_self⟩
            · exact ⟨(hm q hq).1, List.mem_cons_of_mem _ (hm q hq).2⟩
          · cases ys with
            | nil => rw [hz (.inr rfl)]; simp
            | cons z zs => simp at hl ⊢; omega
        · rw [mrg_le hc]
          obtain ⟨p, o1, o2, M, e, hm, hl, hz⟩ := ih (L ++ [(x, y)]) xs (y :: ys) (by simp at h ⊢; omega)
          refine ⟨p.cons x, o1.cons_cons _, o2.cons _, (x, y) :: M, by rw [e]; simp, ?_, ?_, by simp⟩
          · intro q hq
            rcases List.mem_cons.mp hq with rfl | hq
            · exact ⟨List.mem_cons_self, List.mem_cons_self⟩
            · exact ⟨List.mem_cons_of_mem _ (hm q hq).1, (hm q hq).2⟩
          · cases xs with
            | nil => rw [hz (.inl rfl)]; simp
            | cons z zs => simp at hl ⊢; omega
theorem mrg_is (L : List (α × α)) (xs ys : List α) : Mrg L xs ys (mrg F L xs ys) := mrg_any _ L xs ys rfl

/-! ### by twos -/
variable (F)
def twos (L : List (α × α)) : List (List α) → List (List α) × List (α × α)
  | a :: b :: r => ((mrg F L a b).1 :: (twos (mrg F L a b).2 r).1, (twos (mrg F L a b).2 r).2)
  | [a] => ([a], L)
  | [] => ([], L)
variable {F}
theorem twos_len : ∀ (L : List (α × α)) (ps : List (List α)), (twos F L ps).1.length = (ps.length + 1) / 2
  | L, a :: b :: r => by rw [twos]; simp only [List.length_cons]; rw [twos_len]; omega
  | L, [a] => by simp [twos]
  | L, [] => by simp [twos]
variable (F)
def rounds (L : List (α × α)) (ps : List (List α)) : List (List α) × List (α × α) :=
  if ps.length > 1 then rounds (twos F L ps).2 (twos F L ps).1 else (ps, L)
termination_by ps.length
decreasing_by rw [twos_len]; omega
variable {F}


/-! ### ahead -/
variable (F)
def ahd (L : List (α × α)) : List α → Nat × List (α × α)
  | x :: y :: r => if F L x y > 0 then (1, L ++ [(x, y)]) else ((ahd (L ++ [(x, y)]) (y :: r)).1 + 1, (ahd (L ++ [(x, y)]) (y :: r)).2)
  | [_] => (1, L)
  | [] => (0, L)
def stb (L : List (α × α)) (xs : List α) : List α × List (α × α) :=
  if (ahd F L xs).1 = xs.length then (xs, (ahd F L xs).2) else (((rounds F (ahd F L xs).2 (xs.map fun x => [x])).1.headD []), (rounds F (ahd F L xs).2 (xs.map fun x => [x])).2)
variable {F}
end

/-! ### by an order -/
section
variable {α : Type} {F : List (α × α) → α → α → Int} {f : α → α → Int} {D : α → Prop}
/-- the function answers by f -/
def By (F : List (α × α) → α → α → Int) (f : α → α → Int) (D : α → Prop) : Prop := ∀ L x y, D x → D y → F L x y = f x y
theorem mrg_srt (O : Ord f D) (B : By F f D) : ∀ (n : Nat) (L : List (α × α)) (xs ys : List α), xs.length + ys.length = n → (∀ x ∈ xs, D x) → (∀ y ∈ ys, D y) → Srt f xs → Srt f ys →
    Srt f (mrg F L xs ys).1 ∧ ∀ z, D z → cls f z (mrg F L xs ys).1 = cls f z (xs ++ ys) := by
  intro n
  induction n with
  | zero =>
    intro L xs ys h _ _ _ _
    have hx : xs = [] := List.length_eq_zero_iff.mp (by omega)
    have hy : ys = [] := List.length_eq_zero_iff.mp (by omega)
    subst hx; subst hy
    rw [mrg_nil]
    exact ⟨List.Pairwise.nil, fun _ _ => rfl⟩
  | succ n ih =>
    intro L xs ys h dx dy sx sy
    cases xs with
    | nil => rw [mrg_nil]; exact ⟨sy, fun _ _ => rfl⟩
    | cons x xs =>
      cases ys with
      | nil => rw [mrg_nil2]; exact ⟨sx, fun _ _ => by rw [List.append_nil]⟩
      | cons y ys =>
        have hx := dx x List.mem_cons_self
        have hy := dy y List.mem_cons_self
        have sx' := List.pairwise_cons.mp sx
        have sy' := List.pairwise_cons.mp sy
        have eB := B L x y hx hy
        have mm := mrg_is (F := F)
        by_cases hc : F L x y > 0
        · rw [mrg_gt hc]
          obtain ⟨s, c⟩ := ih (L ++ [(x, y)]) (x :: xs) ys (by simp at h ⊢; omega) dx (fun z hz => dy z (List.mem_cons_of_mem _ hz)) sx sy'.2
          have hyx : f y x ≤ 0 := by
            have := (O.anti x y hx hy).mp (by omega)
            omega
          refine ⟨List.pairwise_cons.mpr ⟨fun z hz => ?_, s⟩, fun z hz => ?_⟩
          · have hz' := (mm (L ++ [(x, y)]) (x :: xs) ys).perm.mem_iff.mp hz
            rcases List.mem_append.mp hz' with h1 | h1
            · rcases List.mem_cons.mp h1 with rfl | h1
              · exact hyx
              · exact O.trans y x z hy hx (dx z (List.mem_cons_of_mem _ h1)) hyx (sx'.1 z h1)
            · exact sy'.1 z h1
          · -- like y: none of the first row is
            have e1 : cls f z (y :: (mrg F (L ++ [(x, y)]) (x :: xs) ys).1) = cls f z [y] ++ cls f z (mrg F (L ++ [(x, y)]) (x :: xs) ys).1 := by rw [← cls_append]; rfl
            have e2 : cls f z (y :: ys) = cls f z [y] ++ cls f z ys := by rw [← cls_append]; rfl
            rw [e1, c z hz, cls_append, cls_append, e2]
            by_cases hzy : f z y = 0
            · have hn : cls f z (x :: xs) = [] := by
                unfold cls
                rw [List.filter_eq_nil_iff]
                intro w hw hcw
                have hw0 : f z w = 0 := by simpa using hcw
                have dw := dx w hw
                have xw : f x w ≤ 0 := by
                  rcases List.mem_cons.mp hw with rfl | hw
                  · rw [O.rfl' w dw]; exact Int.le_refl 0
                  · exact sx'.1 w hw
                have wz : f w z ≤ 0 := by
                  have := (O.zero hz dw).mp hw0
                  omega
                have xz := O.trans x w z hx dw hz xw wz
                have xy := O.trans x z y hx hz hy xz (by omega)
                omega
              rw [hn]; simp
            · have : cls f z [y] = [] := by simp [cls, hzy]
              rw [this]; simp
        · rw [mrg_le hc]
          obtain ⟨s, c⟩ := ih (L ++ [(x, y)]) xs (y :: ys) (by simp at h ⊢; omega) (fun z hz => dx z (List.mem_cons_of_mem _ hz)) dy sx'.2 sy
          have hxy : f x y ≤ 0 := by omega
          refine ⟨List.pairwise_cons.mpr ⟨fun z hz => ?_, s⟩, fun z hz => ?_⟩
          · have hz' := (mm (L ++ [(x, y)]) xs (y :: ys)).perm.mem_iff.mp hz
            rcases List.mem_append.mp hz' with h1 | h1
            · exact sx'.1 z h1
            · rcases List.mem_cons.mp h1 with rfl | h1
              · exact hxy
              · exact O.trans x y z hx hy (dy z (List.mem_cons_of_mem _ h1)) hxy (sy'.1 z h1)
          · have e1 : cls f z (x :: (mrg F (L ++ [(x, y)]) xs (y :: ys)).1) = cls f z [x] ++ cls f z (mrg F (L ++ [(x, y)]) xs (y :: ys)).1 := by rw [← cls_append]; rfl
            have e2 : cls f z ((x :: xs) ++ (y :: ys)) = cls f z [x] ++ cls f z (xs ++ (y :: ys)) := by rw [← cls_append]; rfl
            rw [e1, c z hz, e2]
end
end YM

namespace L2
open PySem PySem.Spec PyProof.Rows

/-! ### a comprehension: its block -/
def closGo (env : Env) : List (Str × NameKind) → List (Str × Addr) → List (Str × Addr)
  | [], cs => cs
  | (n, k) :: r, cs => closGo env r (if k == .free then (n, (env.cells.lookup n).getD 0) :: cs else cs)
def closOf (scope : Scope) (env : Env) : List (Str × Addr) := closGo env scope.names []

theorem closGo_mono {env : Env} {x : Str} : ∀ (l : List (Str × NameKind)) (cs : List (Str × Addr)), (∃ c, cs.lookup x = some c) → ∃ c, (closGo env l cs).lookup x = some c
  | [], _, h => h
  | (n, k) :: r, cs, h => by
    unfold closGo
    refine closGo_mono r _ ?_
    split
    · rw [List.lookup_cons]
      split
      · exact ⟨_, rfl⟩
      · exact h
    · exact h
theorem closGo_has {env : Env} {x : Str} : ∀ (l : List (Str × NameKind)) (cs : List (Str × Addr)), (x, NameKind.free) ∈ l → ∃ c, (closGo env l cs).lookup x = some c
  | (n, k) :: r, cs, h => by
    unfold closGo
    rcases List.mem_cons.mp h with e | h
    · cases e
      refine closGo_mono r _ ⟨(env.cells.lookup x).getD 0, ?_⟩
      simp [List.lookup_cons]
    · exact closGo_has r _ h
theorem closGo_of {env : Env} {x : Str} {c : Addr} : ∀ (l : List (Str × NameKind)) (cs : List (Str × Addr)), (closGo env l cs).lookup x = some c →
    cs.lookup x = some c ∨ ((x, NameKind.free) ∈ l ∧ c = (env.cells.lookup x).getD 0)
  | [], _, h => .inl h
  | (n, k) :: r, cs, h => by
    unfold closGo at h
    have hg := closGo_of r _ h
    clear h
    rcases hg with h | ⟨h1, h2⟩
    · split at h
      · rename_i hk
        have hk' : k = .free := by simpa using hk
        subst hk'
        rw [List.lookup_cons] at h
        split at h
        · rename_i hx
          have hx' : x = n := by simpa using hx
          subst hx'
          exact .inr ⟨List.mem_cons_self, (Option.some.inj h).symm⟩
        · exact .inl h
      · exact .inl h
    · exact .inr ⟨List.mem_cons_of_mem _ h1, h2⟩
theorem closureFor_eq {scope : Scope} {env : Env} (h : ∀ x ∈ scope.names, x.2 = .free → ∃ c, env.cells.lookup x.1 = some c) : closureFor scope env = pure (closOf scope env) := by
  have go : ∀ (l : List (Str × NameKind)) (cs : List (Str × Addr)), (∀ x ∈ l, x.2 = .free → ∃ c, env.cells.lookup x.1 = some c) →
      (forIn l cs fun (x : Str × NameKind) (r : List (Str × Addr)) => (if x.2 == .free then (do let a ← cellOf env x.1; pure (ForInStep.yield ((x.1, a) :: r))) else pure (ForInStep.yield r) : Sem _)) = (pure (closGo env l cs) : Sem _) := by
    intro l
    induction l with
    | nil => intro cs _; rfl
    | cons x r ih =>
      intro cs hl
      obtain ⟨n, k⟩ := x
      rw [List.forIn_cons]
      unfold closGo
      by_cases hk : (k == NameKind.free) = true
      · obtain ⟨c, hc⟩ := hl (n, k) List.mem_cons_self (by simpa using hk)
        have hc' : env.cells.lookup n = some c := hc
        simp only [hk, if_true, cellOf, hc', pure_bind, Option.getD_some]
        exact ih _ fun x hx => hl x (List.mem_cons_of_mem _ hx)
      · simp only [hk, if_false, pure_bind, Bool.false_eq_true]
        exact ih _ fun x hx => hl x (List.mem_cons_of_mem _ hx)
  unfold closureFor closOf
  rw [← go scope.names [] h]
  simp only [bind_pure]

/-- the block's context: names N', the objects at fp its iterator's -/
def Cx.blk (X : Cx) (scope : Scope) (N' : List Str) (C : Addr) (s₂ : Shared) (H₂ : Hp) (fp : List Addr) : Cx :=
  { X with N := N', s₀ := s₂, H₀ := H₂, env := compEnvC scope (closOf scope X.env) C X.env, outer := X.stack, ex := fp, fn := fun _ => false, xe := fun _ _ => False }

/-- each slot of the block is its own (none) or the frame's slot j -/
def SrcOk (X : Cx) (scope : Scope) : List Str → List (Option Nat) → Prop
  | [], [] => True
  | _ :: xs, none :: ss => SrcOk X scope xs ss
  | x :: xs, some j :: ss => (X.N[j]? = some x ∧ scope.names.lookup x = some .free) ∧ SrcOk X scope xs ss
  | _, _ => False
def carry (src : List (Option Nat)) (σ : St) : St := src.map fun o => match o with | none => none | some j => (σ[j]?).getD none
def keepOf : List (Option Nat) → St → St
  | none :: r, _ :: σ => none :: keepOf r σ
  | some _ :: r, v :: σ => v :: keepOf r σ
  | _, _ => []
theorem SrcOk.len {X : Cx} {scope : Scope} : ∀ {N : List Str} {src : List (Option Nat)}, SrcOk X scope N src → src.length = N.length
  | [], [], _ => rfl
  | _ :: xs, none :: ss, h => by simp [SrcOk.len (N := xs) (src := ss) h]
  | _ :: xs, some j :: ss, h => by simp [SrcOk.len (N := xs) (src := ss) h.2]
  | [], none :: _, h => h.elim
  | [], some _ :: _, h => h.elim
  | _ :: _, [], h => h.elim
theorem SrcOk.get {X : Cx} {scope : Scope} {x : Str} {v : V} {σ : St} : ∀ {N : List Str} {src : List (Option Nat)} {i : Nat}, SrcOk X scope N src → N[i]? = some x → (carry src σ)[i]? = some (some v) →
    ∃ j : Nat, X.N[j]? = some x ∧ scope.names.lookup x = some .free ∧ σ[j]? = some (some v)
  | [], [], _, _, e, _ => by simp at e
  | _ :: xs, none :: ss, 0, _, _, e2 => by simp [carry] at e2
  | _ :: xs, none :: ss, i + 1, h, e, e2 => SrcOk.get (N := xs) (src := ss) (i := i) h (by simpa using e) (by simpa [carry] using e2)
  | y :: xs, some j :: ss, 0, h, e, e2 => by
    simp at e
    subst e
    refine ⟨j, h.1.1, h.1.2, ?_⟩
    simp [carry] at e2
    cases q : σ[j]? with
    | none => rw [q] at e2; simp at e2
    | some o => rw [q] at e2; simp at e2; rw [e2]
  | _ :: xs, some j :: ss, i + 1, h, e, e2 => SrcOk.get (N := xs) (src := ss) (i := i) h.2 (by simpa using e) (by simpa [carry] using e2)
  | [], none :: _, _, h, _, _ => h.elim
  | [], some _ :: _, _, h, _, _ => h.elim
  | _ :: _, [], _, h, _, _ => h.elim
theorem keepOf_get {v : V} : ∀ {src : List (Option Nat)} {σ : St} {i : Nat}, (keepOf src σ)[i]? = some (some v) → σ[i]? = some (some v)
  | none :: r, _ :: σ, 0, h => by simp [keepOf] at h
  | none :: r, _ :: σ, i + 1, h => by simpa using keepOf_get (src := r) (σ := σ) (i := i) (by simpa [keepOf] using h)
  | some _ :: r, w :: σ, 0, h => by simpa [keepOf] using h
  | some _ :: r, w :: σ, i + 1, h => by simpa using keepOf_get (src := r) (σ := σ) (i := i) (by simpa [keepOf] using h)
  | [], _, _, h => by simp [keepOf] at h
  | none :: _, [], _, h => by simp [keepOf] at h
  | some _ :: _, [], _, h => by simp [keepOf] at h

/-- what the text's scope of a block must show (each by rfl) -/
structure Blk (X : Cx) (scope : Scope) (N' : List Str) (src : List (Option Nat)) : Prop where
  kind : scope.kind = .function
  nocell : (scope.names.all fun y => y.2 != .cell) = true
  names : (scope.names.all fun y => y.2 != .local || scope.names.lookup y.1 == some .local) = true
  frees : (scope.names.all fun y => y.2 != .free || X.env.scope.names.lookup y.1 == some .cell || X.env.scope.names.lookup y.1 == some .free) = true
  src : SrcOk X scope N' src

section
variable {X : Cx} {scope : Scope} {N' : List Str} {src : List (Option Nat)}
theorem Blk.cell (B : Blk X scope N' src) : ∀ y ∈ scope.names, y.2 ≠ .cell := fun y hy => by
  have := List.all_eq_true.mp B.nocell y hy
  simpa using this
theorem Blk.loc (B : Blk X scope N' src) : ∀ y ∈ scope.names, y.2 = .local → scope.names.lookup y.1 = some .local := fun y hy h => by
  have := List.all_eq_true.mp B.names y hy
  simpa [h] using this
theorem Blk.free (B : Blk X scope N' src) : ∀ y ∈ scope.names, y.2 = .free → X.env.kindOf y.1 = some .cell ∨ X.env.kindOf y.1 = some .free := fun y hy h => by
  have := List.all_eq_true.mp B.frees y hy
  simp [h] at this
  exact this
theorem Blk.cells (B : Blk X scope N' src) (ok : X.Ok) : ∀ y ∈ scope.names, y.2 = .free → ∃ c, X.env.cells.lookup y.1 = some c := fun y hy h => ok.has y.1 (B.free y hy h)
theorem Blk.lookup (B : Blk X scope N' src) (ok : X.Ok) {x : Str} {c : Addr} (h : (closOf scope X.env).lookup x = some c) : X.env.cells.lookup x = some c ∧ (x, NameKind.free) ∈ scope.names := by
  rcases closGo_of _ _ h with h | ⟨h1, h2⟩
  · simp at h
  · obtain ⟨c', e⟩ := B.cells ok _ h1 rfl
    have e' : X.env.cells.lookup x = some c' := e
    rw [e'] at h2 ⊢
    exact ⟨by rw [h2]; rfl, h1⟩
/-- a kind in the relabelled scope -/
theorem relabel_look {env : Env} {x : Str} {k : NameKind} : ∀ {names : List (Str × NameKind)},
    (names.map fun (n, k) => if (k == NameKind.free && env.scope.kind == .function && env.kindOf n == some .cell) then (n, NameKind.cell) else (n, k)).lookup x = some k →
    names.lookup x = some k ∨ (k = .cell ∧ names.lookup x = some .free)
  | [], h => by simp at h
  | (n, k') :: r, h => by
    rw [List.map_cons] at h
    cases hx : x == n with
    | true =>
      by_cases hc : (k' == NameKind.free && env.scope.kind == .function && env.kindOf n == some .cell) = true
      · simp only [hc, if_true, List.lookup_cons, hx] at h
        have hk : k' = .free := by
          simp only [Bool.and_eq_true] at hc
          simpa using hc.1.1
        subst hk
        refine .inr ⟨(Option.some.inj h).symm, ?_⟩
        simp [List.lookup_cons, hx]
      · simp only [hc, List.lookup_cons, hx, Bool.false_eq_true, if_false] at h
        exact .inl (by simp [List.lookup_cons, hx]; exact Option.some.inj h)
    | false =>
      have h' : (r.map fun (n, k) => if (k == NameKind.free && env.scope.kind == .function && env.kindOf n == some .cell) then (n, NameKind.cell) else (n, k)).lookup x = some k := by
        by_cases hc : (k' == NameKind.free && env.scope.kind == .function && env.kindOf n == some .cell) = true
        · simp only [hc, if_true, List.lookup_cons, hx] at h
          exact h
        · simp only [hc, List.lookup_cons, hx, Bool.false_eq_true, if_false] at h
          exact h
      rcases relabel_look h' with h2 | h2
      · exact .inl (by simp only [List.lookup_cons, hx]; exact h2)
      · exact .inr (by simp only [List.lookup_cons, hx]; exact h2)
theorem relabel_free {env : Env} {x : Str} : ∀ {names : List (Str × NameKind)}, names.lookup x = some .free →
    (names.map fun (n, k) => if (k == NameKind.free && env.scope.kind == .function && env.kindOf n == some .cell) then (n, NameKind.cell) else (n, k)).lookup x = some .cell ∨
    (names.map fun (n, k) => if (k == NameKind.free && env.scope.kind == .function && env.kindOf n == some .cell) then (n, NameKind.cell) else (n, k)).lookup x = some .free
  | [], h => by simp at h
  | (n, k') :: r, h => by
    rw [List.map_cons]
    cases hx : x == n with
    | true =>
      simp only [List.lookup_cons, hx] at h
      cases h
      by_cases hc : (NameKind.free == NameKind.free && env.scope.kind == .function && env.kindOf n == some .cell) = true
      · exact .inl (by simp only [hc, if_true, List.lookup_cons, hx])
      · exact .inr (by simp only [hc, List.lookup_cons, hx, Bool.false_eq_true, if_false])
    | false =>
      simp only [List.lookup_cons, hx] at h
      have ih := relabel_free (env := env) h
      by_cases hc : (k' == NameKind.free && env.scope.kind == .function && env.kindOf n == some .cell) = true
      · simp only [hc, if_true, List.lookup_cons, hx]; exact ih
      · simp only [hc, List.lookup_cons, hx, Bool.false_eq_true, if_false]; exact ih

/-- the block is entered: an empty list at D, the block's names at C -/
theorem blk_inv {pins : List (Addr × Obj)} {σ : St} {H : Hp} {s : Shared} {fp : List Addr} {D C : Addr} {h₁ : Heap} {t₁ : Nat} (I : Inv X pins σ H s) (B : Blk X scope N' src) (hf : ∀ b ∈ fp, FpOk X pins H b) (hfl : ∀ b ∈ fp, b < s.heap.objs.size)
    (hD : s.heap.objs.size ≤ D) (hC : D < C) (keep : ∀ b o, s.heap.get? b = some o → h₁.get? b = some o) (hacc : h₁.get? D = some { cls := .type "list", data := .seq #[] 0 })
    (hns : h₁.Ns C fun _ => none) : Inv (X.blk scope N' C s H fp) pins (carry src σ) (upd H D (.lst [])) { s with heap := h₁, toks := t₁ } := by
  have lk : ∀ {x : Str} {c : Addr}, (X.blk scope N' C s H fp).env.cells.lookup x = some c → X.env.cells.lookup x = some c := fun e => (B.lookup I.ok e).1
  have clt : ∀ {x : Str} {c : Addr}, X.env.cells.lookup x = some c → c < s.heap.objs.size := fun e => by obtain ⟨v, z⟩ := I.cell _ _ e; exact z.lt
  have hDf : H D = none := I.hok.fresh hD
  have ltC : ∀ b : Nat, b < s.heap.objs.size → b ≠ C := fun b hb => Nat.ne_of_lt (Nat.lt_trans (Nat.lt_of_lt_of_le hb hD) hC)
  have ltD : ∀ b : Nat, b < s.heap.objs.size → b ≠ D := fun b hb => Nat.ne_of_lt (Nat.lt_of_lt_of_le hb hD)
  have stk : ∀ b ∈ frs X.stack, b < s.heap.objs.size := fun b hb => by
    obtain ⟨_, o, ho, _⟩ := I.stack.mem hb
    exact Heap.lt_size ho
  refine ⟨⟨I.ok.mod, B.kind, I.ok.glob, I.ok.blt, ?_, ?_, ?_, fun _ _ z => (Bool.noConfusion z), I.ok.hd, I.ok.frames, .inl rfl, ?_, I.bs, Nat.le_trans I.ok.bsz I.sz, ?_, ?_, I.stack, I.stkFree⟩,
    rfl, I.bare, Un.laid keep hD hDf, ?_, ?_, ?_, ?_, ?_, ?_, ?_⟩
  · exact Nat.le_trans hD (Nat.le_of_lt hC)
  · intro x y c e1 e2
    exact I.ok.inj x y c (lk e1) (lk e2)
  · intro x hx
    have hx : (relabel scope X.env).names.lookup x = some .cell ∨ (relabel scope X.env).names.lookup x = some .free := hx
    have hfree : scope.names.lookup x = some .free := by
      rcases hx with h | h
      · rcases relabel_look h with h | h
        · exact absurd rfl (B.cell _ (PySem.mem_of_lookup h))
        · exact h.2
      · rcases relabel_look h with h | h
        · exact h
        · exact absurd h.1 (by decide)
    exact closGo_has _ _ (PySem.mem_of_lookup hfree)
  · intro b hb
    exact ⟨ltC b (hfl b hb), fun x c e z => (hf b hb).2.2.2.2.1 x c (lk e) z⟩
  · intro b o e hb
    rcases (hf b hb).2.2.2.1 with h | h
    · exact I.ok.noex b o e h
    · exact absurd (Nat.lt_of_lt_of_le (Heap.lt_size e) (Nat.le_trans I.ok.bsz h)) (Nat.lt_irrefl _)
  · intro b hb z
    have z' : b ∈ frs X.stack := z
    rcases List.mem_cons.mp (I.stkSub b z') with e | e
    · exact (hf b hb).2.1 e
    · exact (hf b hb).2.2.1 e
  · refine ⟨_, hns, fun i x v e1 e2 e3 => ?_⟩
    obtain ⟨j, g1, g2, g3⟩ := SrcOk.get B.src e1 e2
    obtain ⟨m, hn, hl⟩ := I.loc
    have hk := B.free _ (PySem.mem_of_lookup g2) rfl
    obtain ⟨u, r, l⟩ := hl j x v g1 g3 (.inr hk)
    rcases l with ⟨z, _⟩ | ⟨_, c, hc, hcell⟩
    · rcases hk with h | h <;> (have h' : X.env.kindOf x = _ := h; rw [z] at h'; cases h')
    · refine ⟨u, r, .inr ⟨relabel_free g2, c, ?_, hcell.keeps keep⟩⟩
      obtain ⟨c', e'⟩ := closGo_has (env := X.env) scope.names [] (PySem.mem_of_lookup g2)
      have e'' : (closOf scope X.env).lookup x = some c' := e'
      have := (B.lookup I.ok e'').1
      rw [hc] at this
      cases this
      exact e''
  · intro x c e
    obtain ⟨v, z⟩ := I.cell x c (lk e)
    exact ⟨v, z.keeps keep⟩
  · show upd H D (.lst []) C = none
    rw [upd_ne (Nat.ne_of_gt hC)]
    exact I.hok.fresh (Nat.le_trans hD (Nat.le_of_lt hC))
  · intro x c e
    rw [upd_ne (ltD c (clt (lk e)))]
    exact I.freeC x c (lk e)
  · intro p hp
    obtain ⟨e, n, ne, nf, d⟩ := I.pin p hp
    have hlt := Heap.lt_size e
    refine ⟨keep _ _ e, by rw [upd_ne (ltD _ hlt)]; exact n, ltC _ hlt, ?_, d⟩
    · intro z
      have z' : p.1 ∈ frs X.stack := z
      rcases List.mem_cons.mp (I.stkSub _ z') with e | e
      · exact ne e
      · exact nf e
  · exact I.hok.laid keep hD ⟨Nat.zero_le _, [], 0, .nil, hacc⟩
  · show (carry src σ).length = N'.length
    rw [← B.src.len]
    simp [carry]
end

/-! ### the turns -/
theorem codeAny_compLoop_any {prog : Program} {w : World} {A : Around} {R : Result → Shared → Prop} {s : Shared} {elt target iter : Expr} {ifs : List Expr} {scope : Scope} {pos : Pos} {it acc : Value} {env : Env} (I : Nat → Shared → Prop)
    (turn : ∀ n s, I n s → wpAny (model prog w) A (pyNext it) (fun r s₁ => match r with
      | none => R (.ok .next) s₁
      | some v => wpAny (model prog w) A (letOwnedTupleGo target it v) (fun _ s₁ => wpAny (model prog w) A (assign target env v) (fun _ s₂ =>
          wpAny (model prog w) A (forIn ifs true fun c r => if r = true then do let ok ← isTrue c env (eval c env); pure (ForInStep.yield ok) else pure (ForInStep.yield r)) (fun ok s₃ =>
            if ok = true then wpAny (model prog w) A (eval elt env) (fun x s₄ =>
              wpAny (model prog w) A (call (.builtin "list.append") [acc, x]) (fun _ s₅ => ∃ m, m < n ∧ I m s₅) (fun _ _ => False) s₄) (fun _ _ => False) s₃
            else ∃ m, m < n ∧ I m s₃) (fun _ _ => False) s₂) (fun _ _ => False) s₁) (fun _ _ => False) s₁) (fun _ _ => False) s)
    (n : Nat) (h : I n s) :
    codeAny (model prog w) A (.compLoop (.ListComp elt [⟨target, iter, ifs, 0⟩] scope pos) 0 it acc env) R s := by
  refine codeAny_loop rfl I (fun n s hI => ?_) n h
  show wpAny _ A ((compTurn (.ListComp elt [⟨target, iter, ifs, 0⟩] scope pos) 0 it acc env).onRaise (fun x => do noteFrame x env; theTreesLotGoes x)) _ _ s
  refine wpAny_noted ?_
  rw [compTurn_list]
  refine wpAny_bind (wpAny_standAt (wpAny_bind (wpAny_mono (turn n s hI) (fun r s₁ h₁ => ?_) fun _ _ h' => h'.elim)))
  cases r with
  | none => exact wpAny_pure h₁
  | some v =>
    refine wpAny_bind (wpAny_mono h₁ (fun _ s₁ h₁ => ?_) fun _ _ h' => h'.elim)
    refine wpAny_bind (wpAny_mono h₁ (fun _ s₂ h₂ => wpAny_bind (wpAny_mono h₂ (fun ok s₃ h₃ => ?_) fun _ _ h' => h'.elim)) fun _ _ h' => h'.elim)
    cases ok with
    | false => exact wpAny_pure ⟨rfl, h₃⟩
    | true =>
      exact wpAny_bind (wpAny_bind (wpAny_mono h₃ (fun x s₄ h₄ => wpAny_bind (wpAny_mono h₄ (fun _ s₅ h₅ => wpAny_pure (wpAny_pure ⟨rfl, h₅⟩)) fun _ _ h' => h'.elim)) fun _ _ h' => h'.elim))

/-- the tests of a comprehension -/
def PTs (X : Cx) (cs : List Expr) (t : TT) : Prop :=
  ∀ (pins : List (Addr × Obj)) (s : Shared) (σ : St) (H : Hp) (Q : Bool → Hp → Prop), Inv X pins σ H s → t σ H Q →
    wpAny (model X.prog X.w) X.A (forIn cs true fun c r => if r = true then do let ok ← isTrue c X.env (eval c X.env); pure (ForInStep.yield ok) else pure (ForInStep.yield r)) (TP X pins σ Q) X.xe s
def tYes : TT := fun _ H Q => Q true H
theorem pts_nil {X : Cx} : PTs X [] tYes := fun _ _ _ H _ I h => wpAny_pure ⟨H, I, h⟩

/-- what a comprehension wants: W by the turn, a measure, the items so far, the heap -/
def CompW (src : List (Option Nat)) (g : TG) (tc : TT) (te : TE) (σ : St) (J : It) (H1 : Hp) (D : Addr) (F : Hp → Prop) : Prop :=
  ∃ W : Nat → Nat → List V → Hp → Prop, (∃ m, W 0 m [] (upd H1 D (.lst []))) ∧ ∀ i m ys H, W i m ys H →
    (J.stop i H ∧ F H) ∨ (J.go i H ∧ ∀ x H', J.yld i H x H' → g x (carry src σ) H' fun σ2 H2 => keepOf src σ2 = carry src σ ∧ tc σ2 H2 fun b H3 =>
      if b = true then te σ2 H3 fun y H4 => ∃ zs, H4 D = some (.lst zs) ∧ zs.length < sizeLine ∧ ∃ m', m' < m ∧ W (i + 1) m' (ys ++ [y]) (upd H4 D (.lst (zs ++ [y])))
      else ∃ m', m' < m ∧ W (i + 1) m' ys H3)
def tComp (src : List (Option Nat)) (wi : TI) (g : TG) (tc : TT) (te : TE) : TE := fun σ H Q => wi σ H fun J H1 => ∀ D, H1 D = none → CompW src g tc te σ J H1 D fun H' => Q (.ref D) H'
/-- name = [..] -/
def sComp (i : Nat) (src : List (Option Nat)) (wi : TI) (g : TG) (tc : TT) (te : TE) : TS := fun E σ H => wi σ H fun J H1 => ∀ D, H1 D = none → CompW src g tc te σ J H1 D fun H' => E.nx (σ.set i (some (.ref D))) H'

section
variable {X : Cx} {elt tg iter : Expr} {ifs : List Expr} {scope : Scope} {pos : Pos} {wi : TI} {g : TG} {tc : TT} {te : TE} {N' : List Str} {src : List (Option Nat)}
theorem Inv.block_ne {pins : List (Addr × Obj)} {σ : St} {H : Hp} {s : Shared} {C : Addr} (I : Inv X pins σ H s) (h : s.heap.objs.size ≤ C) :
    C ≠ X.env.locals ∧ (C ∈ X.ex ∨ X.s₀.heap.objs.size ≤ C) ∧ (∀ x c, X.env.cells.lookup x = some c → c ≠ C) ∧ ∀ p ∈ X.pn ++ pins, p.1 ≠ C := by
  refine ⟨?_, .inr (Nat.le_trans I.sz h), fun x c e z => ?_, fun p hp z => ?_⟩
  · exact Nat.ne_of_gt (Nat.lt_of_lt_of_le I.lt h)
  · obtain ⟨v, q⟩ := I.cell x c e
    exact absurd (Nat.lt_of_lt_of_le q.lt (by rw [z]; exact h)) (Nat.lt_irrefl _)
  · exact absurd (Nat.lt_of_lt_of_le (Heap.lt_size (I.pin p hp).1) (by rw [z]; exact h)) (Nat.lt_irrefl _)
/-- the block's run, from an iterator to its end -/
theorem comp_block {RR : Value → Addr → Result → Shared → Prop} {E : Value → Shared → Prop} {F : Addr → Hp → Prop} {pins : List (Addr × Obj)} {σ : St} {H : Hp} {s : Shared} {it : Addr} {fp : List Addr} {tn : Nat → Heap → Prop} {J : It}
    (hc : X.calm = true) (B : Blk X scope N' src) (hg : ∀ C s2 H2 fp, PG (X.blk scope N' C s2 H2 fp) tg g) (ht : ∀ C s2 H2 fp, PTs (X.blk scope N' C s2 H2 fp) ifs tc) (he : ∀ C s2 H2 fp, PE (X.blk scope N' C s2 H2 fp) elt te)
    (I : Inv X pins σ H s) (T : Turn X.prog X.w X.K tg J fp it tn) (st : tn 0 s.heap) (hf : ∀ b ∈ fp, FpOk X pins H b) (hw : ∀ D, H D = none → CompW src g tc te σ J H D (F D))
    (hR : ∀ (D C : Addr) (H' : Hp) (s' : Shared), H D = none → s.heap.objs.size ≤ C → D ≠ C → Inv X pins σ H' s' → H' C = none → (∃ m, s'.heap.Ns C m) → F D H' → RR (.ref D) C (.ok .next) s') :
    wpAny (model X.prog X.w) X.A (newList []) (fun acc s₃ => wpAny (model X.prog X.w) X.A (newFunctionEnv scope X.env.globals (closOf scope X.env) [] X.env.qual none .none (some X.env)) (fun cenv s₄ =>
      codeAny (model X.prog X.w) X.A (.compStart (.ListComp elt [⟨tg, iter, ifs, 0⟩] scope pos) 0 (.ref it) acc { cenv with scope := relabel scope X.env }) (RR acc cenv.locals) s₄) E s₃) E s := by
  have hfl : ∀ b ∈ fp, b < s.heap.objs.size := fun b hb => by obtain ⟨o, e, _⟩ := T.obj 0 _ st b hb; exact Heap.lt_size e
  refine wpAny_newObj_type (wpAny_newFunctionEnv B.cell (by intro y hy; simp at hy) (fun h₁ hns₁ hsb₁ => ?_) B.kind)
  dsimp only at hns₁ hsb₁ ⊢
  generalize hH2 : s.heap.push { cls := .type "list", dict := none, data := .seq ([] : List Value).toArray } = h2 at hns₁ hsb₁ ⊢
  have hC : h2.objs.size = s.heap.objs.size + 1 := by rw [← hH2, Heap.size_push]
  have hDC : s.heap.objs.size < h2.objs.size := by rw [hC]; exact Nat.lt_succ_self _
  have old2 : ∀ b o, s.heap.get? b = some o → h2.get? b = some o := fun b o e => hH2 ▸ Heap.get?_push_of_some _ e
  have old : ∀ b o, h2.get? b = some o → h₁.get? b = some o := fun b o e => hsb₁.extBut b o (Nat.ne_of_lt (Heap.lt_size e)) (Heap.get?_push_of_some _ e)
  have keep : ∀ b o, s.heap.get? b = some o → h₁.get? b = some o := fun b o e => old b o (old2 b o e)
  have hacc : h₁.get? s.heap.objs.size = some { cls := .type "list", data := .seq #[] 0 } := old _ _ (hH2 ▸ Heap.get?_push_size _ rfl)
  have ID := blk_inv (D := s.heap.objs.size) (C := h2.objs.size) (t₁ := s.toks + ([] : List (Str × Value)).length) I B hf hfl (Nat.le_refl _) hDC keep hacc (by simpa using hns₁)
  have hDn : H s.heap.objs.size = none := I.hok.fresh (Nat.le_refl _)
  obtain ⟨W, ⟨m0, w0⟩, turn⟩ := hw _ hDn
  have stat : ∀ {H' : Hp}, (∀ b ∈ fp, H' b = none) → ∀ b ∈ fp, FpOk (X.blk scope N' h2.objs.size s H fp) pins H' b := fun hn b hb => by
    obtain ⟨f0, f1, f2, f3, f4, f5⟩ := hf b hb
    have hlt := hfl b hb
    refine ⟨hn b hb, ?_, ?_, .inl hb, fun x c e => f4 x c (B.lookup I.ok e).1, f5⟩
    · exact Nat.ne_of_lt (Nat.lt_trans hlt hDC)
    · intro z
      have z' : b ∈ frs X.stack := z
      rcases List.mem_cons.mp (I.stkSub b z') with e | e
      · exact f1 e
      · exact f2 e
  have fin : ∀ {i : Nat} {σ' : St} {H' : Hp} {s' : Shared}, Inv (X.blk scope N' h2.objs.size s H fp) pins σ' H' s' → Inv X pins σ H' s' ∧ H' h2.objs.size = none ∧ ∃ m, s'.heap.Ns h2.objs.size m := fun {i σ' H' s'} J' => by
    refine ⟨I.call' J'.os J'.base J'.hok J'.bare fun b hb => ?_, J'.free, ?_⟩
    · obtain ⟨f0, f1, f2, f3, f4, f5⟩ := hf b hb
      exact ⟨f3, f1, f4, f5⟩
    · obtain ⟨m, hn, _⟩ := J'.loc
      exact ⟨m, hn⟩
  have loop : ∀ s₃ : Shared, s₃ = { s with heap := h₁, toks := s.toks + ([] : List (Str × Value)).length } →
      codeAny (model X.prog X.w) X.A (.compLoop (.ListComp elt [⟨tg, iter, ifs, 0⟩] scope pos) 0 (.ref it) (.ref s.heap.objs.size) (compEnvC scope (closOf scope X.env) h2.objs.size X.env))
        (RR (.ref s.heap.objs.size) h2.objs.size) s₃ := by
    rintro s₃ rfl
    refine codeAny_compLoop_any (fun n s' => ∃ i ys H', Inv (X.blk scope N' h2.objs.size s H fp) pins (carry src σ) H' s' ∧ tn i s'.heap ∧ (∀ b ∈ fp, H' b = none) ∧ W i n ys H') ?_ m0
      ⟨0, [], _, ID, T.keep 0 _ _ st (fun b _ o e => keep b o e), fun b hb => by rw [upd_ne (Nat.ne_of_lt (hfl b hb))]; exact (hf b hb).1, w0⟩
    rintro n s3 ⟨i, ys, H3, I3, st3, fr3, w3⟩
    rcases turn i n ys H3 w3 with ⟨stop, qn⟩ | ⟨go, step⟩
    · refine wpAny_mono (T.done (X.blk scope N' h2.objs.size s H fp) rfl rfl rfl hc i pins s3 _ H3 (fun _ _ => False) I3 (stat fr3) st3 stop) (fun r s4 ⟨hr, I4⟩ => ?_) fun _ _ z => z
      subst hr
      obtain ⟨a1, a2, a3⟩ := fin (i := i) I4
      exact hR _ _ H3 s4 hDn (Nat.le_of_lt hDC) (Nat.ne_of_lt hDC) a1 a2 a3 qn
    · refine wpAny_mono (T.item (X.blk scope N' h2.objs.size s H fp) rfl rfl rfl hc i pins s3 _ H3 (fun _ _ => False) I3 (stat fr3) st3 go) (fun r s4 ⟨u, hr, h4⟩ => ?_) fun _ _ z => z
      subst hr
      refine wpAny_mono h4 (fun _ s5 ⟨x, H5, I5, r5, y5, st5, fr5⟩ => ?_) fun _ _ z => z
      have I5' := I5.pinned (stat fr5) (T.obj _ _ st5)
      refine wpAny_mono (hg _ _ _ _ _ s5 _ H5 x u _ I5' r5 (step x H5 y5)) (fun _ s6 ⟨σ6, H6, I6, k6, q6⟩ => ?_) fun _ _ z => z
      have again : ∀ {H7 : Hp} {s7 : Shared} {ys' : List V} {m' : Nat}, Inv (X.blk scope N' h2.objs.size s H fp) (pins ++ pinsAt fp s5.heap) σ6 H7 s7 → m' < n → W (i + 1) m' ys' H7 →
          ∃ m, m < n ∧ ∃ i ys H', Inv (X.blk scope N' h2.objs.size s H fp) pins (carry src σ) H' s7 ∧ tn i s7.heap ∧ (∀ b ∈ fp, H' b = none) ∧ W i m ys H' := fun {H7 s7 ys' m'} I7 hm w7 => by
        refine ⟨m', hm, i + 1, ys', H7, (I7.unpinned).weak ?_ ?_, T.keep _ _ _ st5 fun b hb o e => (I7.pin (b, o) (List.mem_append_right _ (List.mem_append_right _ (mem_pinsAt hb e)))).1, fun b hb => ?_, w7⟩
        · rw [I7.len]
          exact ID.len
        · intro j v e
          rw [← k6] at e
          exact keepOf_get e
        · obtain ⟨o, e, d⟩ := T.obj _ _ st5 b hb
          exact (I7.pin (b, o) (List.mem_append_right _ (List.mem_append_right _ (mem_pinsAt hb e)))).2.1
      refine wpAny_mono (ht _ _ _ _ _ s6 σ6 H6 _ I6 q6) (fun ok s7 ⟨H7, I7, q7⟩ => ?_) fun _ _ z => z
      cases ok with
      | false =>
        rw [if_neg Bool.false_ne_true] at q7 ⊢
        obtain ⟨m', hm, w7⟩ := q7
        exact again I7 hm w7
      | true =>
        rw [if_pos rfl] at q7 ⊢
        refine wpAny_mono (he _ _ _ _ _ s7 σ6 H7 _ I7 q7) (fun y s8 ⟨yv, H8, I8, r8, zs, d8, l8, m', hm, w8⟩ => ?_) fun _ _ z => z
        refine wpAny_mono (mt_append (X := X.blk scope N' h2.objs.size s H fp) _ s8 σ6 H8 (.ref s.heap.objs.size) [yv] (.ref s.heap.objs.size) [y] (fun _ H9 => H9 = upd H8 s.heap.objs.size (.lst (zs ++ [yv]))) I8 rfl (.cons r8 .nil) ⟨_, zs, yv, rfl, rfl, d8, l8, rfl⟩) (fun _ s9 ⟨_, H9, I9, _, e9⟩ => ?_) fun _ _ z => z
        subst e9
        exact again I9 hm w8
  exact codeAny_compStart_list (loop _ rfl) (T.self X.A 0 _ _ _ (T.keep 0 _ _ st fun b _ o e => keep b o e) (loop _ rfl))

theorem pe_comp (N' : List Str) (src : List (Option Nat)) (hc : X.calm = true) (B : Blk X scope N' src) (hi : PI X tg iter wi) (hg : ∀ C s2 H2 fp, PG (X.blk scope N' C s2 H2 fp) tg g)
    (ht : ∀ C s2 H2 fp, PTs (X.blk scope N' C s2 H2 fp) ifs tc) (he : ∀ C s2 H2 fp, PE (X.blk scope N' C s2 H2 fp) elt te) (hs : ∀ x, foldedSetIterable iter X.env x = pure x := by intro _; rfl) :
    PE X (.ListComp elt [⟨tg, iter, ifs, 0⟩] scope pos) (tComp src wi g tc te) := by
  intro pins s σ H Q I h
  rw [eval_ListComp]
  refine wpAny_comprehension_free (use := none) rfl hs (closureFor_eq (B.cells I.ok)) B.kind B.loc (wpAny_mono (hi pins s σ H _ I h) (fun xv s₁ h₁ => wpAny_mono h₁ (fun itv s₂ h₂ => ?_) fun _ _ e => e) fun _ _ e => e)
  obtain ⟨it, fp, tn, J, H2, rfl, I2, T, st, hf, hw⟩ := h₂
  refine comp_block (RR := fun acc C => compPost (model X.prog X.w) X.A X.xe none (EP X pins σ Q) acc C) (F := fun D H' => Q (.ref D) H') hc B hg ht he I2 T st hf hw ?_
  intro D C H' s' hD hC hDC I' hCn hm q
  obtain ⟨m, hn⟩ := hm
  obtain ⟨b1, b2, b3, b4⟩ := I2.block_ne hC
  exact ⟨m, hn, fun h' hs' => ⟨.ref D, H', I'.turned (t' := s'.toks) (fun b o hb e => (hs'.2 b hb).trans e) hCn b1 b2 b3 b4, rfl, q⟩⟩
end
end L2

namespace L2
open PySem PySem.Spec PyProof.Rows

/-! ### functions as values: a lambda and what it has caught -/
/-- an object known to the last bit -/
abbrev Fz (o : Obj) : HO := .frz o (.own 0)
def CodeIs (qual : Str) (oc : Obj) : Prop := ∃ vs t, oc.data = .fields vs ∧ vs[1]? = some (.str qual t)
/-- the table of a def's code object: each code in it is that of a lambda of this name -/
def TabOk (H : Hp) (P : Addr) (qual : Str) : Prop :=
  ∃ ps, H P = some (.tbl ps) ∧ TriplesOk ps.toList ∧ ∀ pos cv, codeAmong pos ps.toList = some cv → ∃ c oc, cv = .ref c ∧ H c = some (Fz oc) ∧ CodeIs qual oc
def LamAt (H : Hp) (f : Addr) (qual : Str) (params : Arguments) (body : Expr) (scope : Scope) (cl : List (Str × Addr)) : Prop :=
  ∃ pm c ctv oc, H f = some (Fz (PySem.W.kla_obj "<lambda>" qual params body scope cl pm c ctv)) ∧ H c = some (Fz oc) ∧ CodeIs qual oc
def CellAt (H : Hp) (c : Addr) (v : V) : Prop := ∃ o u, H c = some (Fz o) ∧ o.data = .cell (some u) ∧ RelV v u
theorem codeAmong_snoc' {pos pos' : Pos} {c cv : Value} : ∀ (l : List Value), TriplesOk l → codeAmong pos (l ++ [rawInt pos'.line, rawInt pos'.col, c]) = some cv → codeAmong pos l = some cv ∨ cv = c := by
  intro l h
  fun_induction TriplesOk l with
  | case1 =>
    intro e
    simp only [List.nil_append, codeAmong, rawInt] at e
    split at e
    · exact .inr (Option.some.inj e).symm
    · cases e
  | case2 a t b u x rest ih =>
    intro e
    simp only [List.cons_append, codeAmong] at e ⊢
    split at e
    · rename_i hc
      rw [if_pos hc]
      exact .inl e
    · rename_i hc
      rw [if_neg hc]
      exact ih h e
  | case3 l h1 h2 => exact h.elim

/-- the module __builtins__ stands -/
def BMain (mg : Str → Option Value) (h : Heap) : Prop :=
  ∃ bm ob, mg "__builtins__" = some (.ref bm) ∧ bm ≠ builtinsNs ∧ h.get? bm = some ob ∧ ob.cls = .type "module" ∧ ob.dict = some builtinsNs ∧ ob.data = .plain

def tLam (X : Cx) (P : Addr) (params : Arguments) (body : Expr) (scope : Scope) : TE := fun _ H Q => TabOk H P (X.env.qual ++ "<lambda>") ∧
  ∀ f H', X.Ok → H f = none → LamAt H' f (X.env.qual ++ "<lambda>") params body scope (closOf scope X.env) → TabOk H' P (X.env.qual ++ "<lambda>") → (∀ b o, H b = some o → b ≠ P → H' b = some o) → Q (.ref f) H'

section
variable {X : Cx} {params : Arguments} {body : Expr} {scope : Scope} {pos : Pos} {c P : Addr}
theorem pe_lam (hcd : X.env.code = .ref c) (C : PySem.W.CodeHd X.base c P) (bm : BMain X.mg X.base)
    (hfr : (scope.names.all fun y => y.2 != .free || X.env.scope.names.lookup y.1 == some .cell || X.env.scope.names.lookup y.1 == some .free) = true) (hdef : defaultsOf params X.env = ([], []) := by rfl) :
    PE X (.Lambda params body scope pos) (tLam X P params body scope) := by
  intro pins s σ H Q I h
  obtain ⟨⟨ps, hP, ht, hall⟩, k⟩ := h
  have hcells : ∀ y ∈ scope.names, y.2 = .free → ∃ c, X.env.cells.lookup y.1 = some c := fun y hy h => by
    have := List.all_eq_true.mp hfr y hy
    simp [h] at this
    exact I.ok.has y.1 this
  have hcl := closureFor_eq hcells
  refine PySem.W.kla_eval hdef ?_
  have hPo : s.heap.get? P = some (PySem.W.tabObj ps) := I.hok P _ hP
  have hgs := I.mod.glob.keeps I.bk
  obtain ⟨bmd, ob, b1, b2, b3, b4, b5, b6⟩ := bm
  have b3' := I.bk _ _ b3
  have hgP : mainGlobals ≠ P := fun q => by
    obtain ⟨o, es, ep, e, hd, _⟩ := hgs
    rw [q, hPo] at e; cases e; cases hd
  have hbP : bmd ≠ P := fun q => by
    rw [q, hPo] at b3'; cases b3'; cases b4
  have hbG : bmd ≠ mainGlobals := fun q => by
    obtain ⟨o, es, ep, e, hd, _⟩ := I.mod.glob
    rw [q, e] at b3; cases b3; rw [hd] at b6; cases b6
  have hBA : s.heap.BuiltinsAt X.mg P := ⟨bmd, ob, b1, b2, hbG, hbP, b3', b4, b5, b6⟩
  cases hcase : codeAmong pos ps.toList with
  | some cv =>
    obtain ⟨c', oc, rfl, hc', ci⟩ := hall pos cv hcase
    refine PySem.W.kla_makeFunctionHit (mg := X.mg) hcl I.ok.glob hgs hcd (C.keeps I.bk) hPo ht hcase hBA fun ctv h' tk hk hsz => ?_
    have hfn : H h'.objs.size = none := I.hok.fresh hsz
    refine ⟨.ref h'.objs.size, upd H h'.objs.size (Fz _), I.laid (t' := tk) (fun b u e => Heap.get?_push_of_some _ (hk b u e)) hsz ⟨Heap.get?_push_size _ rfl, ⟨_, Heap.get?_push_size _ rfl⟩⟩, rfl, ?_⟩
    have old : ∀ b o, H b = some o → upd H h'.objs.size (Fz (PySem.W.kla_obj "<lambda>" (X.env.qual ++ "<lambda>") params body scope (closOf scope X.env) ((X.mg "__name__").getD .none) c' ctv)) b = some o := fun b o e => by
      rw [upd_ne (ne_of_none e hfn)]; exact e
    refine k _ _ I.ok hfn ⟨_, c', ctv, oc, upd_same, old _ _ hc', ci⟩ ⟨ps, old _ _ hP, ht, fun pos' cv e => ?_⟩ fun b o e _ => old b o e
    obtain ⟨c2, oc2, e1, e2, e3⟩ := hall pos' cv e
    exact ⟨c2, oc2, e1, old _ _ e2, e3⟩
  | none =>
    refine PySem.W.kla_makeFunction (mg := X.mg) hcl I.ok.glob hgs hcd (C.keeps I.bk) hPo ht hcase hgP hBA fun c' ctv h' tk hx hge hlt hrec htb => ?_
    obtain ⟨c2, oc, vs, t, ec, hoc, hd, hv⟩ := hrec
    cases ec
    have hPlt := Heap.lt_size hPo
    have hsz : s.heap.objs.size ≤ h'.objs.size := Nat.le_trans hge (Nat.le_of_lt hlt)
    have hfn : H h'.objs.size = none := I.hok.fresh hsz
    have hcn : H c' = none := I.hok.fresh hge
    have ncP : c' ≠ P := Nat.ne_of_gt (Nat.lt_of_lt_of_le hPlt hge)
    have nfP : h'.objs.size ≠ P := Nat.ne_of_gt (Nat.lt_of_lt_of_le hPlt hsz)
    have nfc : h'.objs.size ≠ c' := Nat.ne_of_gt hlt
    generalize hob : PySem.W.kla_obj "<lambda>" (X.env.qual ++ "<lambda>") params body scope (closOf scope X.env) ((X.mg "__name__").getD .none) c' ctv = obj
    have sl : obj.isFreed = false := by rw [← hob]; rfl
    let H' : Hp := upd (upd (upd H P (.tbl (ps ++ #[rawInt pos.line, rawInt pos.col, .ref c']))) c' (Fz oc)) h'.objs.size (Fz obj)
    have eP : H' P = some (.tbl (ps ++ #[rawInt pos.line, rawInt pos.col, .ref c'])) := by
      show upd (upd (upd H P _) c' _) h'.objs.size _ P = _
      rw [upd_ne nfP.symm, upd_ne ncP.symm, upd_same]
    have eC : H' c' = some (Fz oc) := by
      show upd (upd (upd H P _) c' _) h'.objs.size _ c' = _
      rw [upd_ne nfc.symm, upd_same]
    have eF : H' h'.objs.size = some (Fz obj) := upd_same
    have eO : ∀ b o, H b = some o → b ≠ P → H' b = some o := fun b o e hb => by
      show upd (upd (upd H P _) c' _) h'.objs.size _ b = _
      rw [upd_ne (ne_of_none e hfn), upd_ne (ne_of_none e hcn), upd_ne hb]
      exact e
    have eN : ∀ b, b < s.heap.objs.size → H b = none → H' b = none := fun b hb e => by
      have nP : b ≠ P := fun z => by rw [z, hP] at e; cases e
      show upd (upd (upd H P _) c' _) h'.objs.size _ b = _
      rw [upd_ne (Nat.ne_of_lt (Nat.lt_of_lt_of_le hb hsz)), upd_ne (Nat.ne_of_lt (Nat.lt_of_lt_of_le hb hge)), upd_ne nP]
      exact e
    have kp : ∀ b o, b ≠ P → s.heap.get? b = some o → (h'.push obj).get? b = some o := fun b o hb e => Heap.get?_push_of_some _ (hx b o hb e)
    have nP : ∀ b, H b = none → b ≠ P := fun b e z => by rw [z, hP] at e; cases e
    have hun : Un X.fs [] H H' s.heap (h'.push obj) := by
      refine ⟨fun b o e n _ _ => kp b o (nP b n) e, fun b o e n _ _ => ⟨o.slots, kp b o (nP b n) e⟩, fun b o e n _ => eN b (Heap.lt_size e) n, fun b o e _ => ?_, fun b xs e => eO b _ e ?_, fun b o u e => eO b _ e ?_, fun b ps' e => ?_⟩
      · by_cases hb : b = P
        · exact ⟨_, by rw [hb]; exact Heap.get?_push_of_some _ htb⟩
        · exact ⟨o, kp b o hb e⟩
      · intro z; rw [z, hP] at e; cases e
      · intro z; rw [z, hP] at e; cases e
      · by_cases hb : b = P
        · subst hb
          rw [hP] at e; cases e
          exact ⟨_, eP⟩
        · exact ⟨#[], by rw [eO b _ e hb]; simp⟩
    have hok : HOk X.prog X.w H' (h'.push obj) := by
      intro a o e
      by_cases h1 : a = h'.objs.size
      · subst h1
        rw [eF] at e; cases e
        exact ⟨Heap.get?_push_size _ sl, ⟨_, Heap.get?_push_size _ sl⟩⟩
      by_cases h2 : a = c'
      · subst h2
        rw [eC] at e; cases e
        exact ⟨Heap.get?_push_of_some _ hoc, ⟨_, Heap.get?_push_of_some _ hoc⟩⟩
      by_cases h3 : a = P
      · subst h3
        rw [eP] at e; cases e
        exact Heap.get?_push_of_some _ htb
      have e' : H a = some o := by
        have e2 : upd (upd (upd H P (.tbl (ps ++ #[rawInt pos.line, rawInt pos.col, .ref c']))) c' (Fz oc)) h'.objs.size (Fz obj) a = some o := e
        rw [upd_ne h1, upd_ne h2, upd_ne h3] at e2
        exact e2
      refine (I.hok a o e').stay (fun b u hb q => kp b u ?_ q) (fun b q => eO b _ q fun z => ?_) fun b xs q => eO b _ q fun z => ?_
      · rcases hb with rfl | hb
        · exact h3
        · intro z; rw [z, hP] at hb; cases hb
      · rw [z, hP] at q; cases q
      · rw [z, hP] at q; cases q
    refine ⟨.ref h'.objs.size, H', I.un (t' := tk) hun hok, rfl, ?_⟩
    have hl : (ps ++ #[rawInt pos.line, rawInt pos.col, Value.ref c']).toList = ps.toList ++ [rawInt pos.line, rawInt pos.col, .ref c'] := by simp
    refine k _ _ I.ok hfn ⟨_, c', ctv, oc, by rw [eF, ← hob], eC, ⟨vs, t, hd, hv⟩⟩ ⟨_, eP, by rw [hl]; exact TriplesOk_snoc _ _ _ _ ht, fun pos' cv e => ?_⟩ eO
    rw [hl] at e
    rcases codeAmong_snoc' _ ht e with e | e
    · obtain ⟨c3, oc3, e1, e2, e3⟩ := hall pos' cv e
      refine ⟨c3, oc3, e1, eO _ _ e2 fun z => ?_, e3⟩
      rw [z, hP] at e2; cases e2
    · exact ⟨c', oc, e, eC, ⟨vs, t, hd, hv⟩⟩
end

/-! ### a function value, by what it promises -/
structure FV (P : Program) (w : World) (K : PySem.W.Frag) (mg : Str → Option Value) (base : Heap) (k : Nat) (f : Addr) (sp : Sp) : Prop where
  run : ∀ (A : Around) (outer : List Env) (s : Shared) (H : Hp) (us : List Value) (vs : List V) (Q : VK), Room k A → Env0 P w K mg base A outer s H → Vals vs us → sp vs H Q E0 →
    PySem.W.FnAt f s.heap ∧ codeAny (model P w) A (.call (.ref f) ⟨us, []⟩) (CR CX0 outer P w H s Q E0) s
theorem FV.imp {P : Program} {w : World} {K : PySem.W.Frag} {mg : Str → Option Value} {base : Heap} {k : Nat} {f : Addr} {sp sp' : Sp} (F : FV P w K mg base k f sp) (h : ∀ vs H Q, sp' vs H Q E0 → sp vs H Q E0) : FV P w K mg base k f sp' :=
  ⟨fun A outer s H us vs Q hr he hv hs => F.run A outer s H us vs Q hr he hv (h _ _ _ hs)⟩
def CallV (X : Cx) (f : Addr) (sp : Sp) : Prop :=
  ∀ (pins : List (Addr × Obj)) (s : Shared) (σ : St) (H : Hp) (us : List Value) (vs : List V) (Q : VK), Inv X pins σ H s → Vals vs us → sp vs H Q E0 →
    PySem.W.FnAt f s.heap ∧ wpAny (model X.prog X.w) X.A (call (.ref f) us) (EP X pins σ Q) X.xe s
theorem FV.callV {X : Cx} {k : Nat} {f : Addr} {sp : Sp} (F : FV X.prog X.w X.K X.mg X.base k f sp) (hr : Room k X.A) : CallV X f sp := by
  intro pins s σ H us vs Q I r h
  obtain ⟨h1, h2⟩ := F.run X.A X.stack s H us vs Q hr I.env0 r h
  refine ⟨h1, wpAny_call (codeAny_mono h2 fun r s' hq => ?_)⟩
  cases r with
  | error e => exact False.elim hq
  | ok fl =>
    cases fl with
    | ret u => exact I.after hq
    | next => exact False.elim hq
    | brk => exact False.elim hq
    | cont => exact False.elim hq
def tCallV (X : Cx) (tf : TE) (t : TA) : TE := fun σ H Q => tf σ H fun v H1 => ∃ f sp, v = .ref f ∧ CallV X f sp ∧ t σ H1 fun vs H2 => sp vs H2 Q E0
theorem callWith_F' {M : Model} {A : Around} {E : Value → Shared → Prop} {s : Shared} {env : Env} {pos : Pos} {first : List Value} {Q : Value → Shared → Prop} {q : Addr} {e : Expr} {rest : List Expr}
    (h : wpAny M A (spliced (backTo pos (starEach (e :: rest) env))) (fun vs s₁ => PySem.W.FnAt q s₁.heap ∧ wpAny M A (call (.ref q) (first ++ vs)) Q E s₁) E s)
    (he : starEach (e :: rest) env = (false, eval e env) :: starEach rest env := by rfl) (hplain : (backTo pos (starEach rest env)).any (·.1) = false := by rfl) :
    wpAny M A (callWith pos (.ref q) first (backTo pos (starEach (e :: rest) env)) []) Q E s := by
  rw [he] at h ⊢
  exact PySem.W.callWith_of (by show ((false || (backTo pos (starEach rest env)).any (·.1)) || false) = false; rw [hplain]; rfl) PySem.W.keeps_F (PySem.Calls.evalArgs_plain h)
section
variable {X : Cx} {x : Str} {p pos : Pos} {e : Expr} {es : List Expr} {tf : TE} {t : TA}
theorem pe_callV (hf : PE X (.Name x p) tf) (ha : PA X (e :: es) t) (he : starEach (e :: es) X.env = (false, eval e X.env) :: starEach es X.env := by rfl) (hpl : (backTo pos (starEach es X.env)).any (·.1) = false := by rfl) :
    PE X (.Call (.Name x p) (e :: es) [] pos) (tCallV X tf t) := by
  intro pins s σ H Q I h
  refine wpAny_Call_Name_kw (thn (hf pins s σ H _ I h) fun v s1 ⟨y, H1, I1, r1, f, sp, ef, cv, q⟩ => ?_)
  subst ef
  cases r1
  refine callWith_F' (thn (ha pos pins s1 σ H1 _ I1 q) fun us s2 ⟨vs, H2, I2, r2, q2⟩ => ?_) he hpl
  exact cv pins s2 σ H2 us vs Q I2 r2 q2
end

/-! ### the cells of a frame, known while a callee runs -/
open Classical in
noncomputable def hid (H : Hp) (p : Addr → Prop) : Hp := fun b => if p b then none else H b
open Classical in
noncomputable def unhid (H H' : Hp) (p : Addr → Prop) : Hp := fun b => if p b then H b else H' b
theorem hid_in {H : Hp} {p : Addr → Prop} {b : Addr} (h : p b) : hid H p b = none := if_pos h
theorem hid_out {H : Hp} {p : Addr → Prop} {b : Addr} (h : ¬ p b) : hid H p b = H b := if_neg h
theorem unhid_in {H H' : Hp} {p : Addr → Prop} {b : Addr} (h : p b) : unhid H H' p b = H b := if_pos h
theorem unhid_out {H H' : Hp} {p : Addr → Prop} {b : Addr} (h : ¬ p b) : unhid H H' p b = H' b := if_neg h
def CellOf (cl : List (Str × Addr)) (b : Addr) : Prop := ∃ x, cl.lookup x = some b

structure Froz (X : Cx) (σ : St) (H Hf : Hp) : Prop where
  ok : X.Ok
  val : ∀ (i : Nat) (x : Str) (v : V) (c : Addr), X.N[i]? = some x → σ[i]? = some (some v) → X.env.kindOf x = some .cell ∨ X.env.kindOf x = some .free → X.env.cells.lookup x = some c → CellAt Hf c v
  cell : ∀ b, CellOf X.env.cells b → H b = none ∧ ∃ o v, Hf b = some (Fz o) ∧ o.data = .cell v
  same : ∀ b, ¬ CellOf X.env.cells b → Hf b = H b
def tCallF (X : Cx) (sp : Sp) (t : TA) : TE := fun σ H Q => t σ H fun vs H1 => ∀ Hf, Froz X σ H1 Hf → sp vs Hf (fun v Hf' => Q v (hid Hf' (CellOf X.env.cells))) E0
section
variable {X : Cx} {k : Nat} {f : Addr} {fd : FuncData} {ps : List Str} {sp : Sp} {x : Str} {p pos : Pos} {e : Expr} {es : List Expr} {t : TA}
theorem run_fnF {pins : List (Addr × Obj)} {σ : St} {H : Hp} {s : Shared} {Q : VK} {us : List Value} {vs : List V} (F : FnOk X.prog X.w X.K X.mg X.base CX0 k f fd ps sp) (hr : Room k X.A) (hb : Binds X.K fd ps []) (hfn : ∀ x, X.fn x = true)
    (I : Inv X pins σ H s) (r : Vals vs us) (h : ∀ Hf, Froz X σ H Hf → sp vs Hf (fun v Hf' => Q v (hid Hf' (CellOf X.env.cells))) E0) : wpAny (model X.prog X.w) X.A (call (.ref f) us) (EP X pins σ Q) X.xe s := by
  classical
  let Hf : Hp := fun b => if CellOf X.env.cells b then (s.heap.get? b).map (fun o => Fz o) else H b
  have hin : ∀ b, CellOf X.env.cells b → ∃ o v, s.heap.get? b = some o ∧ o.data = .cell v ∧ Hf b = some (Fz o) := fun b hb => by
    obtain ⟨x, hx⟩ := id hb
    obtain ⟨v, o, ho, hd⟩ := I.cell x b hx
    refine ⟨o, v, ho, hd, ?_⟩
    show (if CellOf X.env.cells b then (s.heap.get? b).map (fun o => Fz o) else H b) = _
    rw [if_pos hb, ho]
    rfl
  have hout : ∀ b, ¬ CellOf X.env.cells b → Hf b = H b := fun b hb => if_neg hb
  have hHn : ∀ b, CellOf X.env.cells b → H b = none := fun b ⟨x, hx⟩ => I.freeC x b hx
  have tr : ∀ b o, H b = some o → Hf b = some o := fun b o e => by
    rw [hout b fun z => by rw [hHn b z] at e; cases e]
    exact e
  have hge : ∀ b, CellOf X.env.cells b → X.s₀.heap.objs.size ≤ b := fun b ⟨x, hx⟩ => I.ok.cab x b (hfn x) hx
  have fz : Froz X σ H Hf := by
    refine ⟨I.ok, fun i x v c e1 e2 e3 e4 => ?_, fun b hb => ⟨hHn b hb, ?_⟩, hout⟩
    · obtain ⟨m, hn, hl⟩ := I.loc
      obtain ⟨u, ru, l⟩ := hl i x v e1 e2 (.inr e3)
      rcases l with ⟨z, _⟩ | ⟨_, c', hc', hcell⟩
      · rcases e3 with h | h <;> (rw [z] at h; cases h)
      · rw [e4] at hc'; cases hc'
        obtain ⟨o, w', ho, hd, e⟩ := hin c ⟨x, e4⟩
        obtain ⟨o', ho', hd'⟩ := hcell
        rw [ho] at ho'; cases ho'
        exact ⟨o, u, e, hd', ru⟩
    · obtain ⟨o, v, _, hd, e⟩ := hin b hb
      exact ⟨o, v, e, hd⟩
  have hokf : HOk X.prog X.w Hf s.heap := fun a o e => by
    by_cases ha : CellOf X.env.cells a
    · obtain ⟨o', v, ho, _, e'⟩ := hin a ha
      rw [e'] at e; cases e
      exact ⟨ho, ⟨_, ho⟩⟩
    · rw [hout a ha] at e
      exact (I.hok a o e).stay (fun _ _ _ q => q) (fun b q => tr b _ q) fun b xs q => tr b _ q
  have e0 := I.env0
  have ef : Env0 X.prog X.w X.K X.mg X.base X.A X.stack s Hf := by
    refine ⟨e0.frames, e0.mod, fun b o e => ⟨(e0.bs b o e).1, ?_⟩, e0.bsz, e0.funs, fun b hb => ?_, hokf, e0.bare⟩
    · rw [hout b fun z => ?_]
      · exact (e0.bs b o e).2
      · exact absurd (Nat.lt_of_lt_of_le (Heap.lt_size e) (Nat.le_trans I.ok.bsz (hge b z))) (Nat.lt_irrefl _)
    · rw [hout b fun z => ?_]
      · exact I.stkFree b hb
      · rcases List.mem_cons.mp (I.stkSub b hb) with q | q
        · obtain ⟨x, hx⟩ := z
          exact I.cne x b hx q
        · obtain ⟨_, o, ho, _⟩ := I.ok.funs.mem q
          exact absurd (Nat.lt_of_lt_of_le (Heap.lt_size ho) (hge b z)) (Nat.lt_irrefl _)
  have hq := h Hf fz
  have hl : (us ++ ([] : List Value)).length = ps.length := by rw [List.append_nil, ← r.length]; exact F.len _ _ _ _ hq
  refine wpAny_call (codeAny_mono (F.run X.A X.stack s Hf ⟨us, []⟩ us vs _ E0 hr ef (by simpa using hb s us I.kIn hl) r hq) fun r' s' hq' => ?_)
  cases r' with
  | error e => exact False.elim hq'
  | ok fl =>
    cases fl with
    | next => exact False.elim hq'
    | brk => exact False.elim hq'
    | cont => exact False.elim hq'
    | ret u =>
      obtain ⟨v, Hf', os, bare, un, hok', rv, q⟩ := hq'
      have cl' : ∀ b, CellOf X.env.cells b → ∃ o, s.heap.get? b = some o ∧ Hf' b = some (Fz o) ∧ s'.heap.get? b = some o := fun b hb => by
        obtain ⟨o, w', ho, _, e⟩ := hin b hb
        have e' := un.frzs b o _ e
        exact ⟨o, ho, e', (hok' b _ e').1⟩
      have nfs : ∀ b, b ∈ frs X.stack → ¬ CellOf X.env.cells b := fun b hb z => by
        obtain ⟨o, _, _, _, e⟩ := hin b z
        rw [ef.frf b hb] at e; cases e
      have nof : ∀ b o, Hf' b = some o → (∀ o', o ≠ Fz o') → ¬ CellOf X.env.cells b := fun b o e hn z => by
        obtain ⟨o', _, e', _⟩ := cl' b z
        rw [e'] at e
        exact hn o' (Option.some.inj e).symm
      have un2 : Un (frs X.stack) [] H (hid Hf' (CellOf X.env.cells)) s.heap s'.heap := by
        refine ⟨fun b o e n hb hx => ?_, fun b o e n hb hx => ?_, fun b o e n hx => ?_, un.there, fun b xs e => ?_, fun b o u e => ?_, fun b ps' e => ?_⟩
        · by_cases hc : CellOf X.env.cells b
          · obtain ⟨o', h1, _, h3⟩ := cl' b hc
            rw [e] at h1; cases h1
            exact h3
          · exact un.keep b o e (by rw [hout b hc]; exact n) hb hx
        · exact un.slot b o e (by rw [hout b (nfs b hb)]; exact n) hb hx
        · by_cases hc : CellOf X.env.cells b
          · exact hid_in hc
          · rw [hid_out hc]
            exact un.free b o e (by rw [hout b hc]; exact n) hx
        · have e' := un.tups b xs (tr b _ e)
          rw [hid_out (nof b _ e' fun o' z => by cases z)]
          exact e'
        · have hc : ¬ CellOf X.env.cells b := fun z => by rw [hHn b z] at e; cases e
          rw [hid_out hc]
          exact un.frzs b o u (tr b _ e)
        · have hc : ¬ CellOf X.env.cells b := fun z => by rw [hHn b z] at e; cases e
          rw [hid_out hc]
          exact un.tbls b ps' (tr b _ e)
      have hok2 : HOk X.prog X.w (hid Hf' (CellOf X.env.cells)) s'.heap := fun a o e => by
        have hc : ¬ CellOf X.env.cells a := fun z => by rw [hid_in z] at e; cases e
        rw [hid_out hc] at e
        refine (hok' a o e).stay (fun _ _ _ q => q) (fun b q => ?_) fun b xs q => ?_
        · rw [hid_out (nof b _ q fun o' z => by cases z)]; exact q
        · rw [hid_out (nof b _ q fun o' z => by cases z)]; exact q
      exact I.after ⟨v, _, os, bare, un2, hok2, rv, q⟩
theorem pe_callF (F : FnOk X.prog X.w X.K X.mg X.base CX0 k f fd ps sp) (hr : Room k X.A) (hg : Gl X x) (hm : X.mg x = some (.ref f)) (hk : PySem.W.keepIn X.K (.ref f) = true) (hb : Binds X.K fd ps []) (ha : PA X (e :: es) t)
    (hfn : ∀ x, X.fn x = true := by intro _; rfl) (hdb : (x == ("__debug__" : Str)) = false := by decide) (he : starEach (e :: es) X.env = (false, eval e X.env) :: starEach es X.env := by rfl) (hpl : (backTo pos (starEach es X.env)).any (·.1) = false := by rfl) :
    PE X (.Call (.Name x p) (e :: es) [] pos) (tCallF X sp t) := by
  intro pins s σ H Q I h
  refine wpAny_Call_Name_kw (ld_glob I hg hm ?_ hdb)
  refine PySem.W.callWith_K (h₀ := X.base) I.ok.mod.kin hk (thn (ha pos pins s σ H _ I h) fun us s1 ⟨vs, H1, I1, r, q⟩ => ⟨I1.kIn, ?_⟩) he hpl
  exact run_fnF F hr hb hfn I1 r q
end

/-! ### a lambda's body keeps its promise -/
structure LamScope (N P : List Str) (sc : Scope) : Prop where
  kind : sc.kind = .function
  co : sc.isCoroutine = false
  gen : sc.isGenerator = false
  nd : N.Nodup
  pre : N.take P.length = P
  par : ∀ x ∈ P, sc.names.lookup x = some .local
  nocell : ∀ y ∈ sc.names, y.2 ≠ .cell
  fre : ∀ x ∈ N.drop P.length, sc.names.lookup x = some .free
def cxLam (P : Program) (w : World) (K : PySem.W.Frag) (mg : Str → Option Value) (base : Heap) (N : List Str) (qual : Str) (scope : Scope) (f : Addr) (cd : Value) (cl : List (Str × Addr)) (A : Around) (outer : List Env) (s : Shared) (H : Hp) : Cx where
  prog := P
  w := w
  K := K
  mg := mg
  base := base
  A := A.deeper (PySem.W.envX qual scope s.heap.objs.size f cd cl)
  N := N
  s₀ := s
  H₀ := H
  env := PySem.W.envX qual scope s.heap.objs.size f cd cl
  outer := outer
  stack := PySem.W.envX qual scope s.heap.objs.size f cd cl :: outer
  ex := []
  calm := true
  fn := fun _ => false
  pn := []
  xe := fun _ _ => False
/-- the caught names' values -/
def CatchAt (H : Hp) (cl : List (Str × Addr)) (xs : List Str) (fvs : List V) : Prop := Paired (fun (x : Str) (v : V) => ∃ c, cl.lookup x = some c ∧ CellAt H c v) xs fvs
theorem CatchAt.get {H : Hp} {cl : List (Str × Addr)} : ∀ {xs : List Str} {fvs : List V} {i : Nat} {x : Str} {v : V}, CatchAt H cl xs fvs → xs[i]? = some x → fvs[i]? = some v → ∃ c, cl.lookup x = some c ∧ CellAt H c v
  | _, _, _, _, _, .nil, e, _ => by simp at e
  | _, _, 0, _, _, .cons r _, e, e2 => by simp at e e2; subst e; subst e2; exact r
  | _, _, i + 1, x, v, .cons _ t, e, e2 => CatchAt.get (i := i) (x := x) (v := v) t (by simpa using e) (by simpa using e2)
theorem lookup_zip_rev {x : Str} {v : Value} : ∀ {ps : List Str} {us : List Value} {i : Nat}, ps.Nodup → ps[i]? = some x → us[i]? = some v → (ps.zip us).reverse.lookup x = some v := by
  intro ps
  induction ps with
  | nil => intro us i _ e _; simp at e
  | cons p r ih =>
    intro us i nd e1 e2
    cases us with
    | nil => simp at e2
    | cons u us =>
      rw [List.zip_cons_cons, List.reverse_cons, List.lookup_append]
      cases i with
      | zero =>
        simp at e1 e2
        subst e1; subst e2
        have hn : (r.zip us).reverse.lookup p = none := by
          rw [List.lookup_eq_none_iff]
          intro q hq
          have hq' := List.of_mem_zip (List.mem_reverse.mp hq)
          simp only [bne_iff_ne, ne_eq, beq_eq_false_iff_ne]
          intro z
          exact (List.nodup_cons.mp nd).1 (z ▸ hq'.1)
        rw [hn]
        simp [List.lookup_cons]
      | succ i =>
        have := ih (us := us) (i := i) (List.nodup_cons.mp nd).2 (by simpa using e1) (by simpa using e2)
        rw [this]
        rfl

theorem lam_fv {P : Program} {w : World} {K : PySem.W.Frag} {mg : Str → Option Value} {base : Heap} {k : Nat} {f : Addr} {qual : Str} {params : Arguments} {body : Expr} {scope : Scope} {cl : List (Str × Addr)} {N ps : List Str} {fvs : List V} {spb : List V → Hp → VK → Prop}
    (S : LamScope N ps scope) (inj : ∀ x y c, cl.lookup x = some c → cl.lookup y = some c → x = y) (has : ∀ x, scope.names.lookup x = some .free → ∃ c, cl.lookup x = some c) (hcells : ∀ x c, cl.lookup x = some c → x ∈ N.drop ps.length)
    (hbind : ∀ (pm cdv ctv : Value) (us : List Value), us.length = ps.length → bindArgs (PySem.W.kla_fn "<lambda>" qual params body scope cl pm cdv ctv) ⟨us, []⟩ = pure (ps.zip us))
    (hbody : ∀ (cdv : Value) (A : Around) (outer : List Env) (s : Shared) (H : Hp) (vs : List V) (Q : VK), Room k (A.deeper (PySem.W.envX qual scope s.heap.objs.size f cdv cl)) → spb vs H Q → CatchAt H cl (N.drop ps.length) fvs →
      ∃ t, PE (cxLam P w K mg base N qual scope f cdv cl A outer s (hid H (CellOf cl))) body t ∧ t (vs.map some ++ fvs.map some) (hid H (CellOf cl)) fun v H' => (∀ b, CellOf cl b → H' b = none) → Q v (unhid H H' (CellOf cl))) :
    FV P w K mg base (k + 1) f (fun vs H Q _ => vs.length = ps.length ∧ LamAt H f qual params body scope cl ∧ CatchAt H cl (N.drop ps.length) fvs ∧ spb vs H Q) := by
  refine ⟨fun A outer s H us vs Q hr e0 r hsp => ?_⟩
  obtain ⟨hl, ⟨pm, c', ctv, oc, hF, hC, ci⟩, hca, hspb⟩ := hsp
  obtain ⟨hfo, _⟩ := e0.hok f _ hF
  obtain ⟨hco, _⟩ := e0.hok c' _ hC
  obtain ⟨cvs, ct, hd1, hd2⟩ := ci
  have hcode : s.heap.CodeRec (.ref c') qual := ⟨c', oc, cvs, ct, rfl, hco, hd1, hd2⟩
  refine ⟨⟨_, _, _, _, hfo⟩, ?_⟩
  have ul : us.length = ps.length := by rw [← r.length]; exact hl
  have hpl : ps.length ≤ N.length := by have := congrArg List.length S.pre; rw [List.length_take] at this; omega
  have ndP : ps.Nodup := by rw [← S.pre]; exact S.nd.sublist (List.take_sublist _ _)
  have lim : s.heap.NoLimit := e0.mod.nolimit.keeps fun b o e => (e0.bs b o e).1
  have cin : ∀ x c, cl.lookup x = some c → ∃ o u, H c = some (Fz o) ∧ o.data = .cell (some u) ∧ s.heap.get? c = some o := fun x c e => by
    obtain ⟨i, hi⟩ := List.getElem?_of_mem (hcells x c e)
    have hlen := Paired.length hca
    obtain ⟨v, hv⟩ : ∃ v, fvs[i]? = some v := by
      have := (List.getElem?_eq_some_iff.mp hi).1
      exact ⟨fvs[i]'(by omega), by simp⟩
    obtain ⟨c2, e2, o, u, h1, h2, _⟩ := hca.get hi hv
    rw [e] at e2; cases e2
    exact ⟨o, u, h1, h2, (e0.hok c _ h1).1⟩
  have clt : ∀ x c, cl.lookup x = some c → c < s.heap.objs.size := fun x c e => by obtain ⟨o, u, _, _, h⟩ := cin x c e; exact Heap.lt_size h
  have nfz : ∀ b o, H b = some o → (∀ o', o ≠ Fz o') → ¬ CellOf cl b := fun b o e hn z => by
    obtain ⟨x, hx⟩ := z
    obtain ⟨o', u, h1, _⟩ := cin x b hx
    rw [e] at h1
    exact hn o' (Option.some.inj h1)
  have ncn : ∀ b, H b = none → ¬ CellOf cl b := fun b e z => by
    obtain ⟨x, hx⟩ := z
    obtain ⟨o', u, h1, _⟩ := cin x b hx
    rw [e] at h1; cases h1
  have hn0 : ∀ b, H b = none → hid H (CellOf cl) b = none := fun b e => by rw [hid_out (ncn b e)]; exact e
  refine PySem.W.kla_callFunE hr.depth hfo rfl S.co S.gen rfl hcode ?_
  rw [hbind pm (.ref c') ctv us ul]
  refine wpAny_pure (wpAny_newFunctionEnv S.nocell (fun y hy => S.par _ (List.of_mem_zip hy).1) (fun h₁ hns hsb => ?_) S.kind)
  have hk₁ : ∀ b o, s.heap.get? b = some o → h₁.get? b = some o := fun b o e => hsb.extBut b o (Nat.ne_of_lt (Heap.lt_size e)) (Heap.get?_push_of_some _ e)
  refine ⟨lim.keeps hk₁, ?_⟩
  show codeAny _ _ (.expr body (PySem.W.envX qual scope s.heap.objs.size f (.ref c') cl)) _ _
  obtain ⟨t, ht, hq⟩ := hbody (.ref c') A outer s H vs Q (hr.deeper _) hspb hca
  have hok0 : HOk P w (hid H (CellOf cl)) h₁ := fun a o e => by
    have hc : ¬ CellOf cl a := fun z => by rw [hid_in z] at e; cases e
    rw [hid_out hc] at e
    refine (e0.hok a o e).stay (fun b u _ q => hk₁ b u q) (fun b q => ?_) fun b xs q => ?_
    · rw [hid_out (nfz b _ q fun o' z => by cases z)]; exact q
    · rw [hid_out (nfz b _ q fun o' z => by cases z)]; exact q
  have I : Inv (cxLam P w K mg base N qual scope f (.ref c') cl A outer s (hid H (CellOf cl))) [] (vs.map some ++ fvs.map some) (hid H (CellOf cl)) { s with heap := h₁, toks := s.toks + (ps.zip us).length } := by
    refine ⟨⟨e0.mod, S.kind, rfl, rfl, Nat.le_refl _, inj, fun x hx => ?_, fun _ _ z => (Bool.noConfusion z), fun _ => hr.hd, Around.frames_deeper e0.frames, .inr ⟨rfl, rfl⟩, fun b z => absurd (show b ∈ ([] : List Addr) from z) (by simp),
        fun b o e => ⟨(e0.bs b o e).1, hn0 b (e0.bs b o e).2⟩, e0.bsz, fun b _ _ z => absurd (show b ∈ ([] : List Addr) from z) (by simp), fun b z => absurd (show b ∈ ([] : List Addr) from z) (by simp), e0.funs, fun b hb => hn0 b (e0.frf b hb)⟩,
      rfl, e0.bare, Un.kept hk₁, ⟨_, hns, fun i x v e1 e2 e3 => ?_⟩, fun x c e => ?_, ?_, fun x c e => hid_in ⟨x, e⟩, fun p hp => absurd (show p ∈ ([] : List (Addr × Obj)) from hp) (by simp), hok0, ?_⟩
    · have hx : scope.names.lookup x = some .cell ∨ scope.names.lookup x = some .free := hx
      rcases hx with h | h
      · exact absurd rfl (S.nocell _ (PySem.mem_of_lookup h))
      · exact has x h
    · have e1 : N[i]? = some x := e1
      by_cases hi : i < vs.length
      · rw [List.getElem?_append_left (by simpa using hi), List.getElem?_map] at e2
        obtain ⟨v', hv', rfl⟩ : ∃ v', vs[i]? = some v' ∧ v' = v := by
          cases q : vs[i]? with
          | none => rw [q] at e2; cases e2
          | some a => rw [q] at e2; exact ⟨a, rfl, Option.some.inj (Option.some.inj e2)⟩
        obtain ⟨u, hu, ru⟩ := r.get hv'
        have hp : ps[i]? = some x := by rw [← S.pre, List.getElem?_take_of_lt (by omega)]; exact e1
        exact ⟨u, ru, .inl ⟨S.par x (List.mem_of_getElem? hp), lookup_zip_rev ndP hp hu⟩⟩
      · rw [List.getElem?_append_right (by simpa using hi), List.length_map, List.getElem?_map] at e2
        obtain ⟨v', hv', rfl⟩ : ∃ v', fvs[i - vs.length]? = some v' ∧ v' = v := by
          cases q : fvs[i - vs.length]? with
          | none => rw [q] at e2; cases e2
          | some a => rw [q] at e2; exact ⟨a, rfl, Option.some.inj (Option.some.inj e2)⟩
        have hd : (N.drop ps.length)[i - vs.length]? = some x := by
          rw [List.getElem?_drop, hl]
          have : ps.length + (i - ps.length) = i := by omega
          rw [this]; exact e1
        obtain ⟨c, hc, o, u, h1, h2, ru⟩ := hca.get hd hv'
        exact ⟨u, ru, .inr ⟨.inr (S.fre x (List.mem_of_getElem? hd)), c, hc, ⟨o, hk₁ _ _ (e0.hok c _ h1).1, h2⟩⟩⟩
    · obtain ⟨o, u, _, h2, h3⟩ := cin x c e
      exact ⟨_, o, hk₁ _ _ h3, h2⟩
    · exact hn0 _ (e0.hok.fresh (Nat.le_refl _))
    · show (vs.map some ++ fvs.map some).length = N.length
      have hlen := Paired.length hca
      rw [List.length_append, List.length_map, List.length_map, ← hlen, List.length_drop]
      omega
  refine PySem.W.kla_codeExpr (wpAny_mono (ht [] _ _ _ _ I hq) (fun u s' hs => ?_) fun _ _ z => z.elim)
  obtain ⟨v, H', J, rv, q⟩ := hs
  have un := J.base
  have cnone : ∀ b, CellOf cl b → H' b = none := fun b hb => by
    obtain ⟨x, hx⟩ := id hb
    obtain ⟨o, _, _, _, h3⟩ := cin x b hx
    exact un.free b o h3 (hid_in hb) (by intro z; exact absurd (show b ∈ ([] : List Addr) from z) (by simp))
  have nof : ∀ b o, H' b = some o → ¬ CellOf cl b := fun b o e z => by rw [cnone b z] at e; cases e
  refine ⟨v, _, J.os, J.bare, ⟨fun b o e n hb hx => un.keep b o e (hn0 b n) hb hx, fun b o e n hb hx => un.slot b o e (hn0 b n) hb hx, fun b o e n hx => ?_, un.there, fun b xs e => ?_, fun b o u' e => ?_, fun b ps' e => ?_⟩, fun a o e => ?_, rv, q cnone⟩
  · rw [unhid_out (ncn b n)]
    exact un.free b o e (hn0 b n) hx
  · have hc := nfz b _ e fun o' z => by cases z
    rw [unhid_out hc]
    exact un.tups b xs (by show hid H (CellOf cl) b = _; rw [hid_out hc]; exact e)
  · by_cases hc : CellOf cl b
    · rw [unhid_in hc]; exact e
    · rw [unhid_out hc]
      exact un.frzs b o u' (by show hid H (CellOf cl) b = _; rw [hid_out hc]; exact e)
  · have hc := nfz b _ e fun o' z => by cases z
    rw [unhid_out hc]
    exact un.tbls b ps' (by show hid H (CellOf cl) b = _; rw [hid_out hc]; exact e)
  · by_cases hc : CellOf cl a
    · rw [unhid_in hc] at e
      obtain ⟨x, hx⟩ := id hc
      obtain ⟨o', u', h1, _, h3⟩ := cin x a hx
      rw [h1] at e; cases e
      have nfs : a ∉ (cxLam P w K mg base N qual scope f (.ref c') cl A outer s (hid H (CellOf cl))).fs := fun z => by
        have z' : a ∈ frs outer := z
        rw [e0.frf a z'] at h1; cases h1
      have := un.keep a o' h3 (hid_in hc) nfs (by intro z; exact absurd (show a ∈ ([] : List Addr) from z) (by simp))
      exact ⟨this, ⟨_, this⟩⟩
    · rw [unhid_out hc] at e
      refine (J.hok a o e).stay (fun _ _ _ q => q) (fun b q => ?_) fun b xs q => ?_
      · rw [unhid_out (nof b _ q)]; exact q
      · rw [unhid_out (nof b _ q)]; exact q

/-! ### what a lambda catches -/
section
variable {X : Cx} {scope : Scope}
theorem clos_look (hfr : (scope.names.all fun y => y.2 != .free || X.env.scope.names.lookup y.1 == some .cell || X.env.scope.names.lookup y.1 == some .free) = true) (ok : X.Ok) {x : Str} {c : Addr} (h : (closOf scope X.env).lookup x = some c) :
    X.env.cells.lookup x = some c ∧ (x, NameKind.free) ∈ scope.names := by
  rcases closGo_of _ _ h with h | ⟨h1, h2⟩
  · simp at h
  · have := List.all_eq_true.mp hfr _ h1
    simp at this
    obtain ⟨c', e⟩ := ok.has x this
    rw [e] at h2 ⊢
    exact ⟨by rw [h2]; rfl, h1⟩
theorem clos_inj (hfr : (scope.names.all fun y => y.2 != .free || X.env.scope.names.lookup y.1 == some .cell || X.env.scope.names.lookup y.1 == some .free) = true) (ok : X.Ok) :
    ∀ x y c, (closOf scope X.env).lookup x = some c → (closOf scope X.env).lookup y = some c → x = y := fun x y c h1 h2 => ok.inj x y c (clos_look hfr ok h1).1 (clos_look hfr ok h2).1
theorem clos_has {env : Env} : ∀ x, scope.names.lookup x = some .free → ∃ c, (closOf scope env).lookup x = some c := fun _ h => closGo_has _ _ (PySem.mem_of_lookup h)
theorem clos_cells (hfr : (scope.names.all fun y => y.2 != .free || X.env.scope.names.lookup y.1 == some .cell || X.env.scope.names.lookup y.1 == some .free) = true) (ok : X.Ok) {xs : List Str} (hx : ∀ y ∈ scope.names, y.2 = .free → y.1 ∈ xs) :
    ∀ x c, (closOf scope X.env).lookup x = some c → x ∈ xs := fun x c h => hx _ (clos_look hfr ok h).2 rfl
theorem Froz.caught {σ : St} {H Hf : Hp} (Z : Froz X σ H Hf) (hfr : (scope.names.all fun y => y.2 != .free || X.env.scope.names.lookup y.1 == some .cell || X.env.scope.names.lookup y.1 == some .free) = true) :
    ∀ {xs : List Str} {vs : List V}, Paired (fun (x : Str) (v : V) => ∃ i : Nat, X.N[i]? = some x ∧ σ[i]? = some (some v) ∧ scope.names.lookup x = some .free) xs vs → CatchAt Hf (closOf scope X.env) xs vs
  | _, _, .nil => .nil
  | _, _, .cons ⟨i, h1, h2, h3⟩ t => by
    refine .cons ?_ (Froz.caught Z hfr t)
    obtain ⟨c, hc⟩ := clos_has (env := X.env) _ h3
    have hk := List.all_eq_true.mp hfr _ (PySem.mem_of_lookup h3)
    simp at hk
    exact ⟨c, hc, Z.val i _ _ c h1 h2 hk (clos_look hfr Z.ok hc).1⟩
/-- the caught cells are the frame's own -/
theorem Froz.own {σ : St} {H Hf : Hp} (Z : Froz X σ H Hf) (hfr : (scope.names.all fun y => y.2 != .free || X.env.scope.names.lookup y.1 == some .cell || X.env.scope.names.lookup y.1 == some .free) = true) {b : Addr} (h : CellOf (closOf scope X.env) b) :
    CellOf X.env.cells b := let ⟨x, hx⟩ := h; ⟨x, (clos_look hfr Z.ok hx).1⟩
end
end L2

namespace L2
open PySem PySem.Spec PyProof.Rows

/-! ### deep data: ints, tuples, lists -/
inductive Dd where
  | int (i : Int)
  | tup (xs : List Dd)
  | lst (xs : List Dd)
mutual
def eqD : Dd → Dd → Bool
  | .int i, .int j => i == j
  | .tup xs, .tup ys => eqDL xs ys
  | .lst xs, .lst ys => eqDL xs ys
  | _, _ => false
def eqDL : List Dd → List Dd → Bool
  | [], [] => true
  | x :: xs, y :: ys => eqD x y && eqDL xs ys
  | _, _ => false
end
mutual
theorem eqD_iff : ∀ (d e : Dd), eqD d e = true ↔ d = e
  | .int i, .int j => by simp [eqD]
  | .tup xs, .tup ys => by simp [eqD, eqDL_iff xs ys]
  | .lst xs, .lst ys => by simp [eqD, eqDL_iff xs ys]
  | .int _, .tup _ => by simp [eqD]
  | .int _, .lst _ => by simp [eqD]
  | .tup _, .int _ => by simp [eqD]
  | .tup _, .lst _ => by simp [eqD]
  | .lst _, .int _ => by simp [eqD]
  | .lst _, .tup _ => by simp [eqD]
theorem eqDL_iff : ∀ (d e : List Dd), eqDL d e = true ↔ d = e
  | [], [] => by simp [eqDL]
  | x :: xs, y :: ys => by simp [eqDL, eqD_iff x y, eqDL_iff xs ys]
  | [], _ :: _ => by simp [eqDL]
  | _ :: _, [] => by simp [eqDL]
end
theorem eqD_self (d : Dd) : eqD d d = true := (eqD_iff d d).mpr rfl
theorem eqDL_len : ∀ {d e : List Dd}, d.length ≠ e.length → eqDL d e = false
  | [], [], h => absurd rfl h
  | [], _ :: _, _ => rfl
  | _ :: _, [], _ => rfl
  | x :: xs, y :: ys, h => by
    show (eqD x y && eqDL xs ys) = false
    rw [eqDL_len (d := xs) (e := ys) (fun z => h (by simp [z])), Bool.and_false]
theorem eqDL_all : ∀ {d e : List Dd}, d.length = e.length → eqDL d e = (List.range d.length).all fun j => eqD (d.getD j (.int 0)) (e.getD j (.int 0))
  | [], [], _ => rfl
  | x :: xs, y :: ys, h => by
    show (eqD x y && eqDL xs ys) = _
    rw [eqDL_all (d := xs) (e := ys) (by simpa using h), List.length_cons, List.range_succ_eq_map, List.all_cons, List.all_map]
    rfl
mutual
def depD : Dd → Nat
  | .int _ => 0
  | .tup xs => depDL xs + 1
  | .lst xs => depDL xs + 1
def depDL : List Dd → Nat
  | [] => 0
  | x :: xs => max (depD x) (depDL xs)
end
/-! over the heap -/
mutual
def Hd (h : Heap) : Dd → Value → Prop
  | .int i, u => ∃ t, u = .int i t
  | .tup ds, u => ∃ a its, u = .ref a ∧ h.IsTuple a its ∧ HdL h ds its.toList
  | .lst ds, u => ∃ a its, u = .ref a ∧ h.IsList a its ∧ HdL h ds its.toList
def HdL (h : Heap) : List Dd → List Value → Prop
  | [], [] => True
  | d :: ds, u :: us => Hd h d u ∧ HdL h ds us
  | _, _ => False
end
theorem HdL.len {h : Heap} : ∀ {ds : List Dd} {us : List Value}, HdL h ds us → ds.length = us.length
  | [], [], _ => rfl
  | _ :: ds, _ :: us, r => by simp [HdL.len (ds := ds) (us := us) r.2]
  | [], _ :: _, r => r.elim
  | _ :: _, [], r => r.elim
theorem HdL.get {h : Heap} : ∀ {ds : List Dd} {us : List Value} {j : Nat} {u : Value}, HdL h ds us → us[j]? = some u → Hd h (ds.getD j (.int 0)) u
  | [], [], _, _, _, e => by simp at e
  | d :: ds, v :: us, 0, u, r, e => by simp at e; subst e; exact r.1
  | d :: ds, v :: us, j + 1, u, r, e => by
    have := HdL.get (ds := ds) (us := us) (j := j) r.2 (by simpa using e)
    simpa using this
  | [], _ :: _, _, _, r, _ => r.elim
  | _ :: _, [], _, _, r, _ => r.elim
theorem isTuple_inj {h : Heap} {a : Addr} {x y : Array Value} (h1 : h.IsTuple a x) (h2 : h.IsTuple a y) : x = y := by
  obtain ⟨o, e, _, n, d⟩ := h1
  obtain ⟨o', e', _, n', d'⟩ := h2
  rw [e] at e'; cases e'
  rw [d] at d'
  injection d'
theorem isList_inj {h : Heap} {a : Addr} {x y : Array Value} (h1 : h.IsList a x) (h2 : h.IsList a y) : x = y := by
  obtain ⟨o, e, _, n, d⟩ := h1
  obtain ⟨o', e', _, n', d'⟩ := h2
  rw [e] at e'; cases e'
  rw [d] at d'
  injection d'
theorem list_not_tuple {h : Heap} {a : Addr} {x y : Array Value} (h1 : h.IsList a x) (h2 : h.IsTuple a y) : False := by
  obtain ⟨o, e, c, _⟩ := h1
  obtain ⟨o', e', c', _⟩ := h2
  rw [e] at e'; cases e'
  rw [c] at c'
  exact absurd (Value.type.inj c') (by decide)
mutual
theorem Hd.inj {h : Heap} : ∀ (d e : Dd) (u : Value), Hd h d u → Hd h e u → d = e
  | .int i, .int j, u, h1, h2 => by
    obtain ⟨t, rfl⟩ := h1
    obtain ⟨t', e⟩ := h2
    injection e with e1
    rw [e1]
  | .tup xs, .tup ys, u, h1, h2 => by
    obtain ⟨a, its, rfl, q, r⟩ := h1
    obtain ⟨a', its', e, q', r'⟩ := h2
    cases e
    rw [isTuple_inj q' q] at r'
    rw [HdL.inj xs ys _ r r']
  | .lst xs, .lst ys, u, h1, h2 => by
    obtain ⟨a, its, rfl, q, r⟩ := h1
    obtain ⟨a', its', e, q', r'⟩ := h2
    cases e
    rw [isList_inj q' q] at r'
    rw [HdL.inj xs ys _ r r']
  | .int _, .tup _, u, h1, h2 => by obtain ⟨t, rfl⟩ := h1; obtain ⟨a, its, e, _⟩ := h2; cases e
  | .int _, .lst _, u, h1, h2 => by obtain ⟨t, rfl⟩ := h1; obtain ⟨a, its, e, _⟩ := h2; cases e
  | .tup _, .int _, u, h1, h2 => by obtain ⟨t, rfl⟩ := h2; obtain ⟨a, its, e, _⟩ := h1; cases e
  | .lst _, .int _, u, h1, h2 => by obtain ⟨t, rfl⟩ := h2; obtain ⟨a, its, e, _⟩ := h1; cases e
  | .tup _, .lst _, u, h1, h2 => by
    obtain ⟨a, its, rfl, q, r⟩ := h1
    obtain ⟨a', its', e, q', r'⟩ := h2
    cases e
    exact (list_not_tuple q' q).elim
  | .lst _, .tup _, u, h1, h2 => by
    obtain ⟨a, its, rfl, q, r⟩ := h1
    obtain ⟨a', its', e, q', r'⟩ := h2
    cases e
    exact (list_not_tuple q q').elim
theorem HdL.inj {h : Heap} : ∀ (d e : List Dd) (us : List Value), HdL h d us → HdL h e us → d = e
  | [], [], _, _, _ => rfl
  | x :: xs, y :: ys, u :: us, h1, h2 => by rw [Hd.inj x y u h1.1 h2.1, HdL.inj xs ys us h1.2 h2.2]
  | [], _ :: _, [], _, h2 => h2.elim
  | [], _ :: _, _ :: _, h1, _ => h1.elim
  | _ :: _, [], [], h1, _ => h1.elim
  | _ :: _, [], _ :: _, _, h2 => h2.elim
  | _ :: _, _ :: _, [], h1, _ => h1.elim
end
theorem in1_units {A : Around} : A.in1.units = A.units + 1 := rfl
theorem depDL_get {d : Dd} : ∀ {ds : List Dd} {j : Nat}, ds[j]? = some d → depD d ≤ depDL ds
  | [], _, e => by simp at e
  | x :: xs, 0, e => by simp at e; subst e; exact Nat.le_max_left _ _
  | x :: xs, j + 1, e => Nat.le_trans (depDL_get (ds := xs) (j := j) (by simpa using e)) (Nat.le_max_right _ _)
theorem depDL_getD {ds : List Dd} {j : Nat} : depD (ds.getD j (.int 0)) ≤ depDL ds := by
  cases e : ds[j]? with
  | some d =>
    have : ds.getD j (.int 0) = d := by rw [List.getD_eq_getElem?_getD, e]; rfl
    rw [this]
    exact depDL_get e
  | none =>
    have : ds.getD j (.int 0) = .int 0 := by rw [List.getD_eq_getElem?_getD, e]; rfl
    rw [this]
    exact Nat.zero_le _
theorem eqAt_D {s : Shared} : ∀ (n : Nat) (A : Around) (d e : Dd) (u v : Value), depD d ≤ n → A.units + n < cLine → Hd s.heap d u → Hd s.heap e v → SeqAt.EqAt A s u v (eqD d e) := by
  intro n
  induction n with
  | zero =>
    intro A d e u v hn hu h1 h2
    cases d with
    | tup xs => simp [depD] at hn
    | lst xs => simp [depD] at hn
    | int i =>
      obtain ⟨t, rfl⟩ := h1
      cases e with
      | int j => obtain ⟨t', rfl⟩ := h2; exact SeqAt.EqAt.int_int i t j t'
      | tup ys => obtain ⟨a, its, rfl, q, r⟩ := h2; exact SeqAt.EqAt.int_tuple i t q (by omega)
      | lst ys => obtain ⟨a, its, rfl, q, r⟩ := h2; exact SeqAt.EqAt.int_list i t q (by omega)
  | succ n ih =>
    intro A d e u v hn hu h1 h2
    cases d with
    | int i =>
      obtain ⟨t, rfl⟩ := h1
      cases e with
      | int j => obtain ⟨t', rfl⟩ := h2; exact SeqAt.EqAt.int_int i t j t'
      | tup ys => obtain ⟨a, its, rfl, q, r⟩ := h2; exact SeqAt.EqAt.int_tuple i t q (by omega)
      | lst ys => obtain ⟨a, its, rfl, q, r⟩ := h2; exact SeqAt.EqAt.int_list i t q (by omega)
    | tup xs =>
      obtain ⟨a, its, rfl, q, r⟩ := h1
      cases e with
      | int j => obtain ⟨t, rfl⟩ := h2; exact SeqAt.EqAt.tuple_int j t q (by omega)
      | lst ys => obtain ⟨b, its', rfl, q', r'⟩ := h2; exact SeqAt.EqAt.tuple_list q q' (by omega)
      | tup ys =>
        obtain ⟨b, its', rfl, q', r'⟩ := h2
        have hd : depDL xs ≤ n := by simp only [depD] at hn; omega
        by_cases hab : a = b
        · subst hab
          rw [isTuple_inj q' q] at r'
          rw [HdL.inj xs ys _ r r', eqD_self]
          exact SeqAt.EqAt.same _
        · have he : ∀ j (g1 : j < its.size) (g2 : j < its'.size), SeqAt.EqAt A.in1 s its[j] its'[j] (eqD (xs.getD j (.int 0)) (ys.getD j (.int 0))) := fun j g1 g2 =>
            ih A.in1 _ _ _ _ (Nat.le_trans depDL_getD hd) (by rw [in1_units]; omega) (r.get (by simp [g1])) (r'.get (by simp [g2]))
          have := SeqAt.EqAt.of_refs hab (SeqAt.RcAt.tuples q q' (by omega) he)
          have l1 := r.len
          have l2 := r'.len
          replace l1 : xs.length = its.size := by simpa using l1
          replace l2 : ys.length = its'.size := by simpa using l2
          have ee : eqD (.tup xs) (.tup ys) = ((List.range (min its.size its'.size)).all (fun j => eqD (xs.getD j (.int 0)) (ys.getD j (.int 0))) && its.size == its'.size) := by
            show eqDL xs ys = _
            by_cases hl : xs.length = ys.length
            · rw [eqDL_all hl, ← l1, ← l2, hl]; simp
            · rw [eqDL_len hl, ← l1, ← l2]; simp [hl]
          rw [ee]
          exact this
    | lst xs =>
      obtain ⟨a, its, rfl, q, r⟩ := h1
      cases e with
      | int j => obtain ⟨t, rfl⟩ := h2; exact SeqAt.EqAt.list_int j t q (by omega)
      | tup ys => obtain ⟨b, its', rfl, q', r'⟩ := h2; exact SeqAt.EqAt.list_tuple q q' (by omega)
      | lst ys =>
        obtain ⟨b, its', rfl, q', r'⟩ := h2
        have hd : depDL xs ≤ n := by simp only [depD] at hn; omega
        have l1 := r.len
        have l2 := r'.len
        replace l1 : xs.length = its.size := by simpa using l1
        replace l2 : ys.length = its'.size := by simpa using l2
        by_cases hab : a = b
        · subst hab
          rw [isList_inj q' q] at r'
          rw [HdL.inj xs ys _ r r', eqD_self]
          exact SeqAt.EqAt.same _
        · have he : ∀ j (g1 : j < its.size) (g2 : j < its'.size), SeqAt.EqAt A.in1 s its[j] its'[j] (eqD (xs.getD j (.int 0)) (ys.getD j (.int 0))) := fun j g1 g2 =>
            ih A.in1 _ _ _ _ (Nat.le_trans depDL_getD hd) (by rw [in1_units]; omega) (r.get (by simp [g1])) (r'.get (by simp [g2]))
          refine SeqAt.EqAt.of_refs hab ?_
          show SeqAt.RcAt A s _ _ (eqDL xs ys)
          by_cases hl : xs.length = ys.length
          · rw [eqDL_all hl, l1]
            exact SeqAt.RcAt.lists q q' (by omega) (by omega) he
          · rw [eqDL_len hl]
            exact SeqAt.RcAt.lists_lengths q q' (by simp; omega) (by omega)

/-! ### over the abstract heap -/
mutual
def Dp (K : PySem.W.Frag) (H : Hp) : Dd → V → Prop
  | .int i, x => x = .int i
  | .tup ds, x => ∃ a xs, x = .ref a ∧ SqT K H a xs ∧ DpL K H ds xs
  | .lst ds, x => ∃ a xs, x = .ref a ∧ SqL K H a xs ∧ DpL K H ds xs
def DpL (K : PySem.W.Frag) (H : Hp) : List Dd → List V → Prop
  | [], [] => True
  | d :: ds, x :: xs => Dp K H d x ∧ DpL K H ds xs
  | _, _ => False
end
section
variable {X : Cx} {pins : List (Addr × Obj)} {σ : St} {H : Hp} {s : Shared}
mutual
theorem Inv.hd (I : Inv X pins σ H s) : ∀ (d : Dd) (x : V) (u : Value), RelV x u → Dp X.K H d x → Hd s.heap d u
  | .int i, x, u, r, h => by
    have h' : x = .int i := h
    subst h'
    exact r
  | .tup ds, x, u, r, h => by
    obtain ⟨a, xs, e, q, l⟩ := h
    subst e
    cases r
    obtain ⟨its, rv, ht, hz⟩ := I.tuple q
    exact ⟨a, its.toArray, rfl, ht, by rw [List.toList_toArray]; exact Inv.hdl I ds xs its rv l⟩
  | .lst ds, x, u, r, h => by
    obtain ⟨a, xs, e, q, l⟩ := h
    subst e
    cases r
    obtain ⟨its, rv, ht, hz⟩ := I.list q
    exact ⟨a, its.toArray, rfl, ht.isList, by rw [List.toList_toArray]; exact Inv.hdl I ds xs its rv l⟩
theorem Inv.hdl (I : Inv X pins σ H s) : ∀ (ds : List Dd) (xs : List V) (us : List Value), Vals xs us → DpL X.K H ds xs → HdL s.heap ds us
  | [], [], us, r, _ => by cases r; exact trivial
  | d :: ds, x :: xs, us, r, h => by
    cases r with
    | cons r1 r2 => exact ⟨Inv.hd I d x _ r1 h.1, Inv.hdl I ds xs _ r2 h.2⟩
  | [], _ :: _, _, _, h => h.elim
  | _ :: _, [], _, _, h => h.elim
end
end

/-- == and != of deep data (two lists, two tuples, two ints) -/
def likeD : Dd → Dd → Bool
  | .int _, .int _ => true
  | .tup _, .tup _ => true
  | .lst _, .lst _ => true
  | _, _ => false
def rEqD (K : PySem.W.Frag) : R2 := fun x y H Q => ∃ d e, Dp K H d x ∧ Dp K H e y ∧ likeD d e = true ∧ depD d ≤ 100 ∧ Q (.bl (eqD d e)) H
def rNeD (K : PySem.W.Frag) : R2 := fun x y H Q => ∃ d e, Dp K H d x ∧ Dp K H e y ∧ likeD d e = true ∧ depD d ≤ 100 ∧ Q (.bl (!eqD d e)) H
def rInD (K : PySem.W.Frag) (neg : Bool) : R2 := fun x y H Q => ∃ d p xs ds, Dp K H d x ∧ y = .ref p ∧ SqL K H p xs ∧ DpL K H ds xs ∧ depDL ds ≤ 100 ∧ Q (.bl (if neg then !ds.any fun e => eqD e d else ds.any fun e => eqD e d)) H
section
variable {X : Cx}
theorem op_eqD (hu : X.A.units + 150 < cLine) : OpR X (compareOp .Eq) (rEqD X.K) := by
  intro pins s σ H x y u v Q I rx ry h
  obtain ⟨d, e, h1, h2, hlk, hn, q⟩ := h
  have g1 := I.hd d x u rx h1
  have g2 := I.hd e y v ry h2
  cases d with
  | int i =>
    cases e with
    | int j =>
      obtain ⟨t, rfl⟩ := g1
      obtain ⟨t', rfl⟩ := g2
      exact EqBoolInt.of_rc (SeqAt.RcAt.int_int i t j t') ⟨.bl _, H, I, rfl, q⟩
    | tup _ => cases hlk
    | lst _ => cases hlk
  | tup xs =>
    cases e with
    | tup ys =>
      obtain ⟨a, its, rfl, qa, r⟩ := g1
      obtain ⟨b, its', rfl, qb, r'⟩ := g2
      have hd : depDL xs ≤ 99 := by simp only [depD] at hn; omega
      have he : ∀ j (g1 : j < its.size) (g2 : j < its'.size), SeqAt.EqAt X.A.in1 s its[j] its'[j] (eqD (xs.getD j (.int 0)) (ys.getD j (.int 0))) := fun j g1 g2 =>
        eqAt_D 99 X.A.in1 _ _ _ _ (Nat.le_trans depDL_getD hd) (by rw [in1_units]; omega) (r.get (by simp [g1])) (r'.get (by simp [g2]))
      have l1 := r.len
      have l2 := r'.len
      replace l1 : xs.length = its.size := by simpa using l1
      replace l2 : ys.length = its'.size := by simpa using l2
      have ee : eqD (.tup xs) (.tup ys) = ((List.range (min its.size its'.size)).all (fun j => eqD (xs.getD j (.int 0)) (ys.getD j (.int 0))) && its.size == its'.size) := by
        show eqDL xs ys = _
        by_cases hl : xs.length = ys.length
        · rw [eqDL_all hl, ← l1, ← l2, hl]; simp
        · rw [eqDL_len hl, ← l1, ← l2]; simp [hl]
      refine EqBoolInt.of_rc (SeqAt.RcAt.tuples qa qb (by omega) he) ⟨.bl _, H, I, rfl, ?_⟩
      rw [← ee]; exact q
    | int _ => cases hlk
    | lst _ => cases hlk
  | lst xs =>
    cases e with
    | lst ys =>
      obtain ⟨a, its, rfl, qa, r⟩ := g1
      obtain ⟨b, its', rfl, qb, r'⟩ := g2
      have hd : depDL xs ≤ 99 := by simp only [depD] at hn; omega
      have he : ∀ j (g1 : j < its.size) (g2 : j < its'.size), SeqAt.EqAt X.A.in1 s its[j] its'[j] (eqD (xs.getD j (.int 0)) (ys.getD j (.int 0))) := fun j g1 g2 =>
        eqAt_D 99 X.A.in1 _ _ _ _ (Nat.le_trans depDL_getD hd) (by rw [in1_units]; omega) (r.get (by simp [g1])) (r'.get (by simp [g2]))
      have l1 := r.len
      have l2 := r'.len
      replace l1 : xs.length = its.size := by simpa using l1
      replace l2 : ys.length = its'.size := by simpa using l2
      have q' : Q (.bl (eqDL xs ys)) H := q
      by_cases hl : xs.length = ys.length
      · refine EqBoolInt.of_rc (SeqAt.RcAt.lists qa qb (by omega) (by omega) he) ⟨.bl _, H, I, rfl, ?_⟩
        rw [← l1, ← eqDL_all hl]; exact q'
      · refine EqBoolInt.of_rc (SeqAt.RcAt.lists_lengths qa qb (by simp; omega) (by omega)) ⟨.bl _, H, I, rfl, ?_⟩
        rw [eqDL_len hl] at q'; exact q'
    | int _ => cases hlk
    | tup _ => cases hlk
theorem op_neD (hu : X.A.units + 150 < cLine) : OpR X (compareOp .NotEq) (rNeD X.K) := by
  intro pins s σ H x y u v Q I rx ry h
  obtain ⟨d, e, h1, h2, hlk, hn, q⟩ := h
  have g1 := I.hd d x u rx h1
  have g2 := I.hd e y v ry h2
  cases d with
  | int i =>
    cases e with
    | int j =>
      obtain ⟨t, rfl⟩ := g1
      obtain ⟨t', rfl⟩ := g2
      exact EqBoolInt.of_rcne (SeqAt.RcNeAt.int_int i t j t') ⟨.bl _, H, I, rfl, q⟩
    | tup _ => cases hlk
    | lst _ => cases hlk
  | tup xs =>
    cases e with
    | tup ys =>
      obtain ⟨a, its, rfl, qa, r⟩ := g1
      obtain ⟨b, its', rfl, qb, r'⟩ := g2
      have hd : depDL xs ≤ 99 := by simp only [depD] at hn; omega
      have he : ∀ j (g1 : j < its.size) (g2 : j < its'.size), SeqAt.EqAt X.A.in1 s its[j] its'[j] (eqD (xs.getD j (.int 0)) (ys.getD j (.int 0))) := fun j g1 g2 =>
        eqAt_D 99 X.A.in1 _ _ _ _ (Nat.le_trans depDL_getD hd) (by rw [in1_units]; omega) (r.get (by simp [g1])) (r'.get (by simp [g2]))
      have l1 := r.len
      have l2 := r'.len
      replace l1 : xs.length = its.size := by simpa using l1
      replace l2 : ys.length = its'.size := by simpa using l2
      have ee : eqD (.tup xs) (.tup ys) = ((List.range (min its.size its'.size)).all (fun j => eqD (xs.getD j (.int 0)) (ys.getD j (.int 0))) && its.size == its'.size) := by
        show eqDL xs ys = _
        by_cases hl : xs.length = ys.length
        · rw [eqDL_all hl, ← l1, ← l2, hl]; simp
        · rw [eqDL_len hl, ← l1, ← l2]; simp [hl]
      refine EqBoolInt.of_rcne (SeqAt.RcNeAt.tuples qa qb (by omega) he) ⟨.bl _, H, I, rfl, ?_⟩
      rw [← ee]; exact q
    | int _ => cases hlk
    | lst _ => cases hlk
  | lst xs =>
    cases e with
    | lst ys =>
      obtain ⟨a, its, rfl, qa, r⟩ := g1
      obtain ⟨b, its', rfl, qb, r'⟩ := g2
      have hd : depDL xs ≤ 99 := by simp only [depD] at hn; omega
      have he : ∀ j (g1 : j < its.size) (g2 : j < its'.size), SeqAt.EqAt X.A.in1 s its[j] its'[j] (eqD (xs.getD j (.int 0)) (ys.getD j (.int 0))) := fun j g1 g2 =>
        eqAt_D 99 X.A.in1 _ _ _ _ (Nat.le_trans depDL_getD hd) (by rw [in1_units]; omega) (r.get (by simp [g1])) (r'.get (by simp [g2]))
      have l1 := r.len
      have l2 := r'.len
      replace l1 : xs.length = its.size := by simpa using l1
      replace l2 : ys.length = its'.size := by simpa using l2
      have q' : Q (.bl (!eqDL xs ys)) H := q
      by_cases hl : xs.length = ys.length
      · refine EqBoolInt.of_rcne (SeqAt.RcNeAt.lists qa qb (by omega) (by omega) he) ⟨.bl _, H, I, rfl, ?_⟩
        rw [← l1, ← eqDL_all hl]; exact q'
      · refine EqBoolInt.of_rcne (SeqAt.RcNeAt.lists_lengths qa qb (by simp; omega) (by omega)) ⟨.bl _, H, I, rfl, ?_⟩
        rw [eqDL_len hl] at q'; exact q'
    | int _ => cases hlk
    | tup _ => cases hlk
open Classical in
theorem any_D {h : Heap} {d : Dd} : ∀ {ds : List Dd} {us : List Value}, HdL h ds us → (us.any fun y => decide (∃ e, Hd h e y ∧ eqD e d = true)) = ds.any fun e => eqD e d
  | [], [], _ => rfl
  | x :: xs, u :: us, r => by
    rw [List.any_cons, List.any_cons, any_D (ds := xs) (us := us) r.2]
    congr 1
    cases q : eqD x d with
    | true => exact decide_eq_true ⟨x, r.1, q⟩
    | false =>
      refine decide_eq_false fun ⟨e, h1, h2⟩ => ?_
      rw [Hd.inj e x u h1 r.1, q] at h2
      cases h2
  | [], _ :: _, r => r.elim
  | _ :: _, [], r => r.elim
theorem HdL.mem {h : Heap} {u : Value} : ∀ {ds : List Dd} {us : List Value}, HdL h ds us → u ∈ us → ∃ d ∈ ds, Hd h d u
  | [], [], _, m => by simp at m
  | x :: xs, v :: us, r, m => by
    rcases List.mem_cons.mp m with rfl | m
    · exact ⟨x, List.mem_cons_self, r.1⟩
    · obtain ⟨d, h1, h2⟩ := HdL.mem (ds := xs) (us := us) r.2 m
      exact ⟨d, List.mem_cons_of_mem _ h1, h2⟩
  | [], _ :: _, r, _ => r.elim
  | _ :: _, [], r, _ => r.elim
theorem depDL_mem {d : Dd} {ds : List Dd} (h : d ∈ ds) : depD d ≤ depDL ds := by
  obtain ⟨j, hj⟩ := List.getElem?_of_mem h
  exact depDL_get hj
open Classical in
theorem eqAt_in {s : Shared} {A : Around} {d : Dd} {ds : List Dd} {us : List Value} {v : Value} (hu : A.units + 120 < cLine) (hn : depDL ds ≤ 100) (h1 : HdL s.heap ds us) (h2 : Hd s.heap d v) :
    ∀ y ∈ us, SeqAt.EqAt A.in1 s y v (decide (∃ e, Hd s.heap e y ∧ eqD e d = true)) := fun y hy => by
  obtain ⟨e, he, hd⟩ := h1.mem hy
  have := eqAt_D 100 A.in1 e d y v (Nat.le_trans (depDL_mem he) hn) (by rw [in1_units]; omega) hd h2
  have ee : decide (∃ e, Hd s.heap e y ∧ eqD e d = true) = eqD e d := by
    cases q : eqD e d with
    | true => exact decide_eq_true ⟨e, hd, q⟩
    | false =>
      refine decide_eq_false fun ⟨e', h1, h2⟩ => ?_
      rw [Hd.inj e' e y h1 hd, q] at h2
      cases h2
  rw [ee]
  exact this
theorem op_inD (hu : X.A.units + 150 < cLine) : OpR X (compareOp .In) (rInD X.K false) := by
  intro pins s σ H x y u v Q I rx ry h
  obtain ⟨d, p, xs, ds, h1, e, hq, hl, hn, q⟩ := h
  subst e
  cases ry
  obtain ⟨its, rv, ht, hz⟩ := I.list hq
  have g := I.hdl ds xs its rv hl
  have g1 := I.hd d x u rx h1
  refine SeqAt.in_listAt _ ht.isList (fun y hy => eqAt_in (by omega) hn g g1 y (by simpa using hy)) ⟨.bl _, H, I, rfl, ?_⟩
  rw [List.any_toArray, any_D g]
  exact q
end
theorem units150 {A : Around} {k : Nat} (hr : Room k A) : A.units + 150 < cLine := by have := hr.un; omega

/-! ### big products -/
theorem intBits_le {k : Int} {n : Nat} (h : k.natAbs < 2 ^ n) : Builtin.Int.intBits k ≤ n := by
  unfold Builtin.Int.intBits
  split
  · exact Nat.zero_le _
  · rename_i h0
    have hp : k.natAbs ≠ 0 := by
      intro z
      have : k = 0 := by omega
      simp [this] at h0
    have : k.natAbs.log2 < n := (Nat.log2_lt hp).mpr h
    omega
def CMulB (i j : Int) : Prop := i.natAbs < 2 ^ 200 ∧ j.natAbs < 2 ^ 200
theorem op_mulB {X : Cx} : OpR X (binaryOp .Mult) (rI CMulB fun i j => .int (i * j)) := opI fun _ _ _ _ _ _ _ hc q =>
  mul_int q (.of_bits (Nat.le_trans (intBits_le hc.1) (by decide)) (Nat.le_trans (intBits_le hc.2) (by decide)))
end L2

namespace L2
open PySem PySem.Spec PyProof.Rows

/-! ### the head, where defs make functions: their code objects' tables are tracked -/
/-- a list that is never written -/
def SqF (K : PySem.W.Frag) (H : Hp) (a : Addr) (xs : List V) : Prop :=
  (∃ o, H a = some (.frz o (.lst xs))) ∨ ∃ (o : Obj) (its : Array Value) (n : Nat), K.lookup a = some o ∧ o.cls = .type "list" ∧ o.dict = none ∧ o.data = .seq its n ∧ its.size ≤ sizeLine ∧ Vals xs its.toList
/-- classes and namespaces stay -/
def KeptC (h base : Heap) : Prop := ∀ b o, h.get? b = some o → ((∃ cd, o.data = .cls cd) ∨ ∃ es ep, o.data = .dict es ep) → base.get? b = some o
theorem law_callT {P : Program} {w : World} {K : PySem.W.Frag} {mg mb : Str → Option Value} {k : Nat} {fa a : Addr} {fd : FuncData} {x : Str} {sp : Sp} {s₁ : Shared} {vs : List Value} {ns : List Int} {tabs : List (Addr × Addr)}
    (KX : K.In s₁.heap) (hns : s₁.heap.Ns mainGlobals mg) (hb : s₁.heap.Ns builtinsNs mb) (hbb : ∀ x : Str, x ≠ "__name__" → mb x = bootBuiltins x) (hlim : s₁.heap.NoLimit) (hg : s₁.gens = #[])
    (ha : s₁.heap.get? a = some { cls := .type "list", data := .seq vs.toArray }) (hi : IntsAre vs ns) (hl : ns.length ≤ sizeLine) (hr : Room k callerA)
    (hT : PySem.W.TabsAt tabs s₁.heap) (hKt : PySem.W.noTabs K = true) (bm : BMain mg s₁.heap)
    (F : ∀ base : Heap, K.In base → base.Ns mainGlobals mg → BMain mg base → (∀ q ∈ tabs, PySem.W.CodeHd base q.1 q.2) → KeptC s₁.heap base → FnOk P w K mg base CX0 k fa fd [x] sp) (hbind : ∀ (s : Shared) (u : Value), BindsTo s fd ⟨[u], []⟩ [(x, u)])
    (hsp : ∀ H : Hp, (∀ q ∈ tabs, H q.2 = some (.tbl #[])) → SqF K H a (ns.map V.int) → sp [.ref a] H (fun v _ => v = .bl true) E0) :
    codeAny (model P w) callerA (.call (.ref fa) ⟨[.ref a], []⟩) (fun r s' => r = .ok (.ret (.bool true)) ∧ OldK s₁.heap s'.heap ∧ s'.os = s₁.os ∧ AllBare s'.gens) s₁ := by
  classical
  have rv := vals_ints hi
  have lenV := hi.length
  let isT : Addr → Prop := fun b => ∃ q ∈ tabs, q.2 = b
  let scr : HO := .frz { cls := .type "list", data := .seq vs.toArray } (.lst (ns.map V.int))
  let H : Hp := fun b => if isT b then some (.tbl #[]) else if b = a ∧ K.lookup a = none then some scr else none
  have tget : ∀ b, isT b → s₁.heap.get? b = some (PySem.W.tabObj #[]) := fun b ⟨q, hq, e⟩ => by rw [← e]; exact (hT q hq).2
  have naT : ¬ isT a := fun z => by
    have := tget a z
    rw [ha] at this
    cases this
  have hTab : ∀ b, isT b → H b = some (.tbl #[]) := fun b z => if_pos z
  have hKn : ∀ b o, K.lookup b = some o → ¬ isT b := fun b o e z => by
    have e1 := KX b o e
    rw [tget b z] at e1
    have h2 := List.all_eq_true.mp hKt (b, o) (PySem.W.mem_of_lookupK e)
    cases e1
    exact absurd (show false = true from h2) Bool.false_ne_true
  have cases_ : ∀ b u, H b = some u → (isT b ∧ u = .tbl #[]) ∨ (b = a ∧ K.lookup a = none ∧ u = scr) := fun b u e => by
    have e : (if isT b then some (HO.tbl #[]) else if b = a ∧ K.lookup a = none then some scr else none) = some u := e
    split at e
    · rename_i h; exact .inl ⟨h, (Option.some.inj e).symm⟩
    · split at e
      · rename_i h; exact .inr ⟨h.1, h.2, (Option.some.inj e).symm⟩
      · cases e
  have noT : ∀ {b : Addr} {o : Obj}, s₁.heap.get? b = some o → o.cls ≠ .none → (∀ xs n, o.data ≠ .seq xs n) → H b = none := fun {b o} e hc hd => by
    cases q : H b with
    | none => rfl
    | some u =>
      rcases cases_ b u q with ⟨z, _⟩ | ⟨z, _⟩
      · rw [tget b z] at e; cases e
        exact absurd rfl hc
      · subst z
        rw [ha] at e; cases e
        exact absurd rfl (hd _ _)
  have noD : ∀ {b : Addr} {o : Obj} {es : Array DictEntry} {ep : Nat}, s₁.heap.get? b = some o → o.data = .dict es ep → H b = none := fun {b o es ep} e d => by
    cases q : H b with
    | none => rfl
    | some u =>
      rcases cases_ b u q with ⟨z, _⟩ | ⟨z, _⟩
      · rw [tget b z] at e; cases e; cases d
      · subst z
        rw [ha] at e; cases e; cases d
  have nsK : ∀ {b : Addr} {m : Str → Option Value}, s₁.heap.Ns b m → (hidT s₁.heap H).Ns b m := fun {b m} ⟨o, es, ep, e, d, r⟩ => ⟨o, es, ep, hidT_get e (noD e d), d, r⟩
  have hKb : K.In (hidT s₁.heap H) := fun b o e => hidT_get (KX b o e) (by
    cases q : H b with
    | none => rfl
    | some u =>
      rcases cases_ b u q with ⟨z, _⟩ | ⟨z1, z2, _⟩
      · exact absurd z (hKn b o e)
      · subst z1
        rw [z2] at e; cases e)
  have hM : Mod K mg (hidT s₁.heap H) := ⟨hKb, nsK hns, ⟨mb, nsK hb, hbb⟩, let ⟨mc, h1, h2⟩ := hlim; ⟨mc, nsK h1, h2⟩⟩
  have hBM : BMain mg (hidT s₁.heap H) := by
    obtain ⟨b, ob, h1, h2, h3, h4, h5, h6⟩ := bm
    exact ⟨b, ob, h1, h2, hidT_get h3 (noT h3 (by rw [h4]; nofun) (by rw [h6]; nofun)), h4, h5, h6⟩
  have hCH : ∀ q ∈ tabs, PySem.W.CodeHd (hidT s₁.heap H) q.1 q.2 := fun q hq => by
    obtain ⟨o, vs', file, tf, flags, tg, inF, text, tt, e1, r1, r2, r3⟩ := (hT q hq).1
    exact ⟨o, vs', file, tf, flags, tg, inF, text, tt, hidT_get e1 (noT e1 (by rw [r1]; nofun) (by rw [r2]; nofun)), r1, r2, r3⟩
  have hok : HOk P w H s₁.heap := fun b u e => by
    rcases cases_ b u e with ⟨z, rfl⟩ | ⟨z1, z2, rfl⟩
    · exact tget b z
    · subst z1
      exact ⟨ha, by rw [List.length_map]; exact hl, vs, _, rv, ha⟩
  have e0 : Env0 P w K mg (hidT s₁.heap H) callerA [] s₁ H := ⟨rfl, hM, fun b o e => of_hidT e, Nat.le_of_eq (hidT_size _ _), trivial, fun b hb => absurd (show b ∈ ([] : List Addr) from hb) (by simp), hok, .of_eq hg⟩
  have hS : SqF K H a (ns.map V.int) := by
    cases hk : K.lookup a with
    | some o =>
      have e := KX a o hk
      rw [ha] at e
      cases e
      exact .inr ⟨_, vs.toArray, _, hk, rfl, rfl, rfl, by rw [List.size_toArray, lenV]; exact hl, by simpa using rv⟩
    | none =>
      refine .inl ⟨{ cls := .type "list", data := .seq vs.toArray }, ?_⟩
      show (if isT a then some (HO.tbl #[]) else if a = a ∧ K.lookup a = none then some scr else none) = _
      rw [if_neg naT, if_pos ⟨rfl, hk⟩]
  have hKC : KeptC s₁.heap (hidT s₁.heap H) := fun b o e hd => hidT_get e (by
    cases q : H b with
    | none => rfl
    | some u =>
      rcases cases_ b u q with ⟨z, _⟩ | ⟨z, _⟩
      · rw [tget b z] at e; cases e
        rcases hd with ⟨cd, hd⟩ | ⟨es, ep, hd⟩ <;> cases hd
      · subst z
        rw [ha] at e; cases e
        rcases hd with ⟨cd, hd⟩ | ⟨es, ep, hd⟩ <;> cases hd)
  refine codeAny_mono ((F _ hKb (nsK hns) hBM hCH hKC).run callerA [] s₁ H ⟨[.ref a], []⟩ [.ref a] [.ref a] _ _ hr e0 (hbind s₁ (.ref a)) (.cons rfl .nil) (hsp H (fun q hq => hTab _ ⟨q, hq, rfl⟩) hS)) fun r s' h => ?_
  cases r with
  | error e => exact False.elim h
  | ok fl =>
    cases fl with
    | next => exact False.elim h
    | brk => exact False.elim h
    | cont => exact False.elim h
    | ret u =>
      obtain ⟨v, H', os, bare, un, hok', r', q⟩ := h
      have q' : v = .bl true := q
      subst q'
      obtain rfl : u = Value.bool true := r'
      have tab' : ∀ b, isT b → ∃ ps, s'.heap.get? b = some (PySem.W.tabObj ps) := fun b z => by
        obtain ⟨more, e⟩ := un.tbls b _ (hTab b z)
        exact ⟨_, hok' b _ e⟩
      have keep : ∀ b o, ¬ isT b → s₁.heap.get? b = some o → s'.heap.get? b = some o := fun b o hb e => by
        cases q : H b with
        | none => exact un.keep b o e q (by intro z; exact absurd (show b ∈ ([] : List Addr) from z) (by simp)) (by simp)
        | some u =>
          rcases cases_ b u q with ⟨z, _⟩ | ⟨z1, z2, rfl⟩
          · exact absurd z hb
          · have z3 := un.frzs b _ _ q
            obtain ⟨e2, _⟩ := hok' b _ z3
            obtain ⟨e1, _⟩ := hok b _ q
            rw [e] at e1; cases e1
            exact e2
      refine ⟨rfl, ⟨fun b o e => ?_, fun b o e => ?_⟩, os, bare⟩
      · by_cases hb : isT b
        · obtain ⟨ps, hP⟩ := tab' b hb
          have e1 := tget b hb
          rw [e] at e1; cases e1
          obtain ⟨q, hq, rfl⟩ := hb
          exact .inr (.inl ⟨((hT q hq).1.tab (hT q hq).2).isCodeTable, rfl, #[], ps, rfl, by rw [Array.empty_append]; exact hP⟩)
        · exact .inl (keep b o hb e)
      · by_cases hb : isT b
        · obtain ⟨ps, hP⟩ := tab' b hb
          exact ⟨_, hP⟩
        · exact ⟨o, keep b o hb e⟩

end L2

namespace L2
open PySem PySem.Spec PyProof.Rows
theorem vals_bools : ∀ {bs : List Bool} {us : List Value}, Vals (bs.map V.bl) us → us = bs.map Value.bool
  | [], _, .nil => rfl
  | b :: bs, _, .cons r t => by
    have r' : _ = Value.bool b := r
    rw [r', vals_bools t]
    rfl
theorem range_all {bs : List Bool} : (List.range bs.length).all (fun i => bs.getD i false) = bs.all id := by
  rw [Bool.eq_iff_iff, List.all_eq_true, List.all_eq_true]
  constructor
  · intro h b hb
    obtain ⟨i, hi⟩ := List.getElem?_of_mem hb
    have := h i (List.mem_range.mpr (List.getElem?_eq_some_iff.mp hi).1)
    rw [List.getD_eq_getElem?_getD, hi] at this
    exact this
  · intro h i hi
    have hi' := List.mem_range.mp hi
    rw [List.getD_eq_getElem?_getD, List.getElem?_eq_getElem hi']
    exact h _ (List.getElem_mem hi')
section
variable {X : Cx}
theorem call_all (hc : X.calm = true) : CallR X (.builtin "all") (fun xs H Q => ∃ (p : Addr) (bs : List Bool), xs = [.ref p] ∧ SqL X.K H p (bs.map V.bl) ∧ Q (.bl (bs.all id)) H) := by
  intro pins s σ H xs us Q I rv h
  obtain ⟨p, bs, rfl, hq, q⟩ := h
  obtain ⟨u, rfl, ru⟩ := rv.one
  cases ru
  obtain ⟨its, rl, pl, hz⟩ := I.list hq
  have hu := vals_bools rl
  subst hu
  have hne : p ≠ s.heap.objs.size := Nat.ne_of_lt (by obtain ⟨o, e, _⟩ := pl.isList; exact Heap.lt_size e)
  refine call_all_walk (wpAny_pyIter_list pl.isList ?_)
  refine ⟨s.heap.objs.size, [s.heap.objs.size, p], [s.heap.objs.size], (bs.map Value.bool).toArray.size, _, _, (fun i => bs.getD i false), rfl, Walks.list (A := X.A.in1) (show X.A.in1.handled = none from I.ok.hd hc) _ p hne (bs.map Value.bool).toArray,
    ⟨⟨_, Heap.get?_push_size _ rfl, rfl, rfl⟩, pl.isList.push _⟩, ?_, fun h' tk hk => ?_⟩
  · intro i v s' Q' E' hP hQ'
    have hP' : (bs.map Value.bool)[i]? = some v := by simpa using hP
    rw [List.getElem?_map] at hP'
    cases e : bs[i]? with
    | none => rw [e] at hP'; cases hP'
    | some b =>
      rw [e] at hP'
      cases hP'
      have eb : bs.getD i false = b := by rw [List.getD_eq_getElem?_getD, e]; rfl
      dsimp only at hQ'
      rw [eb] at hQ'
      exact wpAny_truthy_bool hQ'
  · have el : (bs.map Value.bool).toArray.size = bs.length := by simp
    rw [el, range_all]
    refine ⟨.bl _, H, I.kept (t' := tk) fun b u e => hk b u (by simp; exact Nat.ne_of_lt (Heap.lt_size e)) (Heap.get?_push_of_some _ e), rfl, q⟩
end
end L2

namespace L2
open PySem PySem.Spec PyProof.Rows
/-- .. with the code object known -/
theorem Fun.okC {P : Program} {w : World} {K : PySem.W.Frag} {mg : Str → Option Value} {base : Heap} {x qual : Str} {st : Stmt} {f : Addr} {fd : FuncData} {N ps : List Str} {k : Nat} {sp : Sp} (F : Fun K x qual st f fd) (S : FnScope N ps (defScope st)) (len : ∀ vs H Q E, sp vs H Q E → vs.length = ps.length)
    (hbody : ∀ (cdv : Value), fd.code = cdv → ∀ (A : Around) (outer : List Env) (s : Shared) (H : Hp) (vs : List V) (Q : VK) (E : XK), Room k (A.deeper (envOfC qual (defScope st) s.heap.objs.size f cdv)) → sp vs H Q E →
      ∃ t, PSs (cxOf CX0 P w K mg base N qual (defScope st) f cdv A outer s H E).nox (defBody st) t ∧ t { nx := fun _ H' => Q .non H', rt := Q } (start N vs) H) : FnOk P w K mg base CX0 (k + 1) f fd ps sp := by
  obtain ⟨oc, od, kV, doc, pm, an, cdv, ct, osl, rfl, lk, hcd⟩ := F.ex
  refine fn_of lk hcd S len fun A outer s H vs Q E hr hsp => ?_
  obtain ⟨t, h, q⟩ := hbody cdv rfl A outer s H vs Q E hr hsp
  exact ⟨t, h.nox, q⟩
theorem tab_at {K : PySem.W.Frag} {x : Str} {f c P : Addr} {oc o2 : Value} {od o3 : Option Addr} {fd : FuncData} {sl o4 : Array (Option Value)} {vs : Array Value} (a : PySem.W.nsIn K mainGlobals x = some (some (.ref f))) (l : K.lookup f = some ⟨oc, od, .func fd, sl⟩)
    (hc : fd.code = .ref c) (lc : K.lookup c = some ⟨o2, o3, .fields vs, o4⟩) (hv : vs[11]? = some (.ref P)) : PySem.W.tabIn K x = some (c, P) := by
  unfold PySem.W.tabIn
  simp only [a, l, hc, lc, hv]
theorem iteD {c A B : Prop} [Decidable c] (h1 : c → A) (h2 : ¬ c → B) : if decide c = true then A else B := by
  by_cases h : c
  · rw [decide_eq_true h]; exact iteT (h1 h)
  · rw [decide_eq_false h]; exact iteF (h2 h)
theorem iteB {b : Bool} {A B : Prop} (h1 : b = true → A) (h2 : b = false → B) : if b = true then A else B := by
  cases b
  · exact iteF (h2 rfl)
  · exact iteT (h1 rfl)
/-- the next turn of n -/
def Nxt (n i : Nat) (P : Prop) : Prop := ∃ m, m < n - i ∧ m = n - (i + 1) ∧ i + 1 ≤ n ∧ P
theorem Nxt.of {n i : Nat} {P : Prop} (h : i < n) (p : P) : Nxt n i P := ⟨n - (i + 1), by omega, rfl, h, p⟩
/-- a comprehension over a list that stays -/
theorem comp_list {K : PySem.W.Frag} {a : Addr} {xs : List V} {src : List (Option Nat)} {g : TG} {tc : TT} {te : TE} {σ : St} {H : Hp} {D : Addr} {F : Hp → Prop} (Pv : Nat → List V → Hp → Prop) (h0 : Pv 0 [] (upd H D (.lst [])))
    (hl : ∀ i ys H, i ≤ xs.length → Pv i ys H → SqL K H a xs)
    (hs : ∀ i x ys H, i < xs.length → xs[i]? = some x → Pv i ys H → g x (carry src σ) H fun σ2 H2 => keepOf src σ2 = carry src σ ∧ tc σ2 H2 fun b H3 =>
      if b = true then te σ2 H3 fun y H4 => ∃ zs, H4 D = some (.lst zs) ∧ zs.length < sizeLine ∧ Nxt xs.length i (Pv (i + 1) (ys ++ [y]) (upd H4 D (.lst (zs ++ [y])))) else Nxt xs.length i (Pv (i + 1) ys H3))
    (hd : ∀ ys H, Pv xs.length ys H → F H) : CompW src g tc te σ (Itl K a) H D F := by
  refine ⟨fun i m ys H => m = xs.length - i ∧ i ≤ xs.length ∧ Pv i ys H, ⟨xs.length, by simp, Nat.zero_le _, h0⟩, ?_⟩
  rintro i m ys H ⟨rfl, hi, p⟩
  have q := hl i ys H hi p
  by_cases hlt : i < xs.length
  · refine .inr ⟨⟨xs, xs[i], q, by simp [hlt]⟩, fun x H' y => ?_⟩
    obtain ⟨e, y⟩ := y
    subst e
    exact hs i x ys _ hlt (y xs q) p
  · have e : i = xs.length := by omega
    subst e
    exact .inl ⟨⟨xs, q, Nat.le_refl _⟩, hd ys H p⟩
end L2

namespace YO
open PySem PySem.Spec PyProof.Rows L2

/-! ### how heaps go on -/
def imm : HO → Prop
  | .tup _ => True
  | .frz _ _ => True
  | _ => False
/-- all but what M names is as it was; tuples and known things always -/
def Evo (M : Addr → Prop) (H H' : Hp) : Prop := ∀ b o, H b = some o → (¬ M b ∨ imm o) → H' b = some o
theorem Evo.refl {M : Addr → Prop} {H : Hp} : Evo M H H := fun _ _ e _ => e
theorem Evo.trans {M : Addr → Prop} {H H1 H2 : Hp} (a : Evo M H H1) (b : Evo M H1 H2) : Evo M H H2 := fun c o e h => b c o (a c o e h) h
theorem Evo.mono {M N : Addr → Prop} {H H' : Hp} (a : Evo M H H') (h : ∀ b, M b → N b) : Evo N H H' := fun c o e q => a c o e (q.imp (fun z y => z (h c y)) id)
theorem Evo.new {M : Addr → Prop} {H : Hp} {p : Addr} {o : HO} (h : H p = none) : Evo M H (upd H p o) := fun c u e _ => by rw [upd_ne (ne_of_none e h)]; exact e
theorem Evo.put {M : Addr → Prop} {H : Hp} {p : Addr} {xs : List V} {o : HO} (hl : H p = some (.lst xs)) (h : M p) : Evo M H (upd H p o) := fun c u e q => by
  by_cases hc : c = p
  · subst hc
    rw [hl] at e; cases e
    rcases q with z | z
    · exact absurd h z
    · exact z.elim
  · rw [upd_ne hc]; exact e
theorem Same.evo {M : Addr → Prop} {H H' : Hp} (a : Same H H') : Evo M H H' := fun c o e _ => a c o e
theorem Same.new {H : Hp} {p : Addr} {o : HO} (h : H p = none) : Same H (upd H p o) := fun c u e => by rw [upd_ne (ne_of_none e h)]; exact e
theorem Evo.tup {M : Addr → Prop} {H H' : Hp} (a : Evo M H H') {p : Addr} {xs : List V} (h : H p = some (.tup xs)) : H' p = some (.tup xs) := a p _ h (.inr trivial)
theorem Evo.lst {M : Addr → Prop} {H H' : Hp} (a : Evo M H H') {p : Addr} {xs : List V} (h : H p = some (.lst xs)) (hm : ¬ M p) : H' p = some (.lst xs) := a p _ h (.inl hm)
theorem Evo.fz {M : Addr → Prop} {H H' : Hp} (a : Evo M H H') {p : Addr} {o : Obj} {u : HO} (h : H p = some (.frz o u)) : H' p = some (.frz o u) := a p _ h (.inr trivial)
theorem Evo.sqL {K : PySem.W.Frag} {M : Addr → Prop} {H H' : Hp} (a : Evo M H H') {p : Addr} {xs : List V} (h : SqL K H p xs) (hm : ¬ M p) : SqL K H' p xs := by
  rcases h with (h | ⟨o, h⟩) | h
  · exact .inl (.inl (a.lst h hm))
  · exact .inl (.inr ⟨o, a.fz h⟩)
  · exact .inr h

/-! ### elements: pairs of ints -/
def El (H : Hp) (x : V) (e : Int × Int) : Prop := ∃ p, x = .ref p ∧ H p = some (.tup [.int e.1, .int e.2])
theorem El.evo {M : Addr → Prop} {H H' : Hp} {x : V} {e : Int × Int} (h : El H x e) (a : Evo M H H') : El H' x e := let ⟨p, h1, h2⟩ := h; ⟨p, h1, a.tup h2⟩
abbrev Els (H : Hp) : List V → List (Int × Int) → Prop := Paired (El H)
theorem Els.evo {M : Addr → Prop} {H H' : Hp} : ∀ {xs : List V} {es : List (Int × Int)}, Els H xs es → Evo M H H' → Els H' xs es
  | _, _, .nil, _ => .nil
  | _, _, .cons h t, a => .cons (h.evo a) (Els.evo t a)
theorem Paired.getl {α β : Type} {F : α → β → Prop} : ∀ {l₁ : List α} {l₂ : List β} {i : Nat} {x : α}, Paired F l₁ l₂ → l₁[i]? = some x → ∃ y, l₂[i]? = some y ∧ F x y
  | _, _, _, _, .nil, e => by simp at e
  | _, _, 0, _, .cons r _, e => by simp at e; subst e; exact ⟨_, rfl, r⟩
  | _, _, i + 1, x, .cons _ t, e => by
    obtain ⟨y, h1, h2⟩ := Paired.getl (i := i) t (by simpa using e)
    exact ⟨y, by simpa using h1, h2⟩
theorem Paired.getr {α β : Type} {F : α → β → Prop} : ∀ {l₁ : List α} {l₂ : List β} {i : Nat} {y : β}, Paired F l₁ l₂ → l₂[i]? = some y → ∃ x, l₁[i]? = some x ∧ F x y
  | _, _, _, _, .nil, e => by simp at e
  | _, _, 0, _, .cons r _, e => by simp at e; subst e; exact ⟨_, rfl, r⟩
  | _, _, i + 1, x, .cons _ t, e => by
    obtain ⟨y, h1, h2⟩ := Paired.getr (i := i) t (by simpa using e)
    exact ⟨y, by simpa using h1, h2⟩
theorem Paired.app {α β : Type} {F : α → β → Prop} : ∀ {l₁ : List α} {l₂ : List β} {m₁ : List α} {m₂ : List β}, Paired F l₁ l₂ → Paired F m₁ m₂ → Paired F (l₁ ++ m₁) (l₂ ++ m₂)
  | _, _, _, _, .nil, s => s
  | _, _, _, _, .cons r t, s => .cons r (Paired.app t s)
theorem Paired.tak {α β : Type} {F : α → β → Prop} : ∀ {l₁ : List α} {l₂ : List β} (n : Nat), Paired F l₁ l₂ → Paired F (l₁.take n) (l₂.take n)
  | _, _, 0, _ => by simp; exact .nil
  | _, _, _ + 1, .nil => .nil
  | _, _, n + 1, .cons r t => .cons r (Paired.tak n t)
theorem Paired.drp {α β : Type} {F : α → β → Prop} : ∀ {l₁ : List α} {l₂ : List β} (n : Nat), Paired F l₁ l₂ → Paired F (l₁.drop n) (l₂.drop n)
  | _, _, 0, r => r
  | _, _, _ + 1, .nil => .nil
  | _, _, n + 1, .cons _ t => Paired.drp n t
theorem Paired.meml {α β : Type} {F : α → β → Prop} {l₁ : List α} {l₂ : List β} {x : α} (h : Paired F l₁ l₂) (hx : x ∈ l₁) : ∃ y ∈ l₂, F x y := by
  obtain ⟨i, hi⟩ := List.getElem?_of_mem hx
  obtain ⟨y, h1, h2⟩ := Paired.getl h hi
  exact ⟨y, List.mem_of_getElem? h1, h2⟩
/-- an element's content, at a heap -/
def ct (H : Hp) : V → Int × Int
  | .ref p => match H p with
    | some (.tup [.int a, .int b]) => (a, b)
    | _ => (0, 0)
  | _ => (0, 0)
theorem El.ct {H : Hp} {x : V} {e : Int × Int} (h : El H x e) : ct H x = e := by
  obtain ⟨p, rfl, h⟩ := h
  unfold YO.ct
  simp only [h]
abbrev dE (e : Int × Int) : Dd := .tup [.int e.1, .int e.2]
theorem El.dp {K : PySem.W.Frag} {H : Hp} {x : V} {e : Int × Int} (h : El H x e) : Dp K H (dE e) x := by
  obtain ⟨p, rfl, h⟩ := h
  exact ⟨p, _, rfl, SqT.of h, rfl, rfl, trivial⟩
theorem Els.dp {K : PySem.W.Frag} {H : Hp} : ∀ {xs : List V} {es : List (Int × Int)}, Els H xs es → DpL K H (es.map dE) xs
  | _, _, .nil => trivial
  | _, _, .cons h t => ⟨h.dp, Els.dp t⟩
theorem dep_els : ∀ es : List (Int × Int), depDL (es.map dE) ≤ 1
  | [] => Nat.zero_le _
  | e :: es => by
    show max (depD (dE e)) (depDL (es.map dE)) ≤ 1
    have h1 : depD (dE e) = 1 := rfl
    have := dep_els es
    omega
theorem dE_inj {a b : Int × Int} (h : dE a = dE b) : a = b := by
  obtain ⟨a1, a2⟩ := a
  obtain ⟨b1, b2⟩ := b
  injection h with h
  injection h with h1 h2
  injection h2 with h2 _
  injection h1 with h1
  injection h2 with h2
  have h1' : a1 = b1 := h1
  have h2' : a2 = b2 := h2
  rw [h1', h2']
theorem any_dE {e : Int × Int} : ∀ {es : List (Int × Int)}, ((es.map dE).any fun d => eqD d (dE e)) = decide (e ∈ es)
  | [] => by simp
  | x :: es => by
    rw [List.map_cons, List.any_cons, any_dE (es := es)]
    by_cases h : x = e
    · subst h
      rw [eqD_self]
      simp
    · have : eqD (dE x) (dE e) = false := by
        cases q : eqD (dE x) (dE e) with
        | false => rfl
        | true => exact absurd (dE_inj ((eqD_iff _ _).mp q)) h
      rw [this]
      simp [Ne.symm h]
theorem dints {K : PySem.W.Frag} {H : Hp} : ∀ {ns : List Int}, DpL K H (ns.map Dd.int) (ns.map V.int)
  | [] => trivial
  | _ :: ns => ⟨rfl, dints (ns := ns)⟩
theorem dep_ints : ∀ ns : List Int, depDL (ns.map Dd.int) = 0
  | [] => rfl
  | n :: ns => by
    show max (depD (Dd.int n)) (depDL (ns.map Dd.int)) = 0
    rw [dep_ints ns]; rfl

/-! ### the cells -/
def cellF (ns : List Int) (k : Int) : Int := if ns.isEmpty then k * 7919 else (ns.getD (k % (ns.length : Int)).toNat 0) + k / (ns.length : Int) * 104729
def drawnF (c k : Int) : Int := ((c * 6364136223846793005 + (k + 1) * 1442695040888963407) % 340282366920938463463374607431768211507) * ((c * 6364136223846793005 + (k + 1) * 1442695040888963407) % 340282366920938463463374607431768211507) % 340282366920938463463374607431768211297
def sg (g : Int) : Int := (if g > 0 then 1 else 0) - (if g < 0 then 1 else 0)
def absI (i : Int) : Int := if i < 0 then -i else i
def ansF (way : Int) (x y : Int × Int) : Int :=
  if way = 1 then 0 - (x.1 - y.1) else if way = 2 then x.1 / 3 - y.1 / 3 else if way = 3 then sg (x.1 - y.1) * (1 + absI x.2 % 9)
  else if way = 4 then (x.1 - y.1) * 10 ^ 20 else if way = 5 then absI (x.1 - 4) - absI (y.1 - 4) else x.1 - y.1
theorem sg_pos {g c : Int} (hc : 0 < c) : (0 < sg g * c ↔ 0 < g) ∧ (sg g * c < 0 ↔ g < 0) ∧ (sg g * c ≤ 0 ↔ g ≤ 0) ∧ (sg g * c = 0 ↔ g = 0) := by
  unfold sg
  rcases Int.lt_trichotomy g 0 with h | h | h
  · have e : ((if g > 0 then (1 : Int) else 0) - (if g < 0 then 1 else 0)) = -1 := by rw [if_neg (by omega), if_pos h]; rfl
    rw [e]; omega
  · subst h
    simp
  · have e : ((if g > 0 then (1 : Int) else 0) - (if g < 0 then 1 else 0)) = 1 := by rw [if_pos h, if_neg (by omega)]; rfl
    rw [e]; omega
theorem ans_ord (way : Int) : YM.Ord (ansF way) (fun _ => True) := by
  have key : ∃ g : Int × Int → Int, ∀ x y, (0 < ansF way x y ↔ 0 < g x - g y) ∧ (ansF way x y < 0 ↔ g x - g y < 0) ∧ (ansF way x y ≤ 0 ↔ g x - g y ≤ 0) ∧ (ansF way x y = 0 ↔ g x - g y = 0) := by
    by_cases h1 : way = 1
    · refine ⟨fun x => - x.1, fun x y => ?_⟩
      unfold ansF; rw [if_pos h1]; dsimp only; omega
    by_cases h2 : way = 2
    · refine ⟨fun x => x.1 / 3, fun x y => ?_⟩
      unfold ansF; rw [if_neg h1, if_pos h2]; dsimp only; omega
    by_cases h3 : way = 3
    · refine ⟨fun x => x.1, fun x y => ?_⟩
      unfold ansF; rw [if_neg h1, if_neg h2, if_pos h3]
      exact sg_pos (by unfold absI; split <;> omega)
    by_cases h4 : way = 4
    · refine ⟨fun x => x.1, fun x y => ?_⟩
      unfold ansF; rw [if_neg h1, if_neg h2, if_neg h3, if_pos h4]
      have : (10 : Int) ^ 20 = 100000000000000000000 := by decide
      rw [this]; dsimp only; omega
    by_cases h5 : way = 5
    · refine ⟨fun x => absI (x.1 - 4), fun x y => ?_⟩
      unfold ansF; rw [if_neg h1, if_neg h2, if_neg h3, if_neg h4, if_pos h5]; dsimp only; omega
    · refine ⟨fun x => x.1, fun x y => ?_⟩
      unfold ansF; rw [if_neg h1, if_neg h2, if_neg h3, if_neg h4, if_neg h5]; dsimp only; omega
  obtain ⟨g, hg⟩ := key
  refine ⟨fun x _ => ?_, fun x y _ _ => ?_, fun x y z _ _ _ h1 h2 => ?_⟩
  · exact (hg x x).2.2.2.mpr (by omega)
  · have a := hg x y
    have b := hg y x
    constructor
    · intro h; exact b.2.1.mpr (by have := a.1.mp h; omega)
    · intro h; exact a.1.mpr (by have := b.2.1.mp h; omega)
  · have a := (hg x y).2.2.1.mp h1
    have b := (hg y z).2.2.1.mp h2
    exact (hg x z).2.2.1.mpr (by omega)
theorem upd_old {H : Hp} {p b : Addr} {o u : HO} (hf : H p = none) (hb : H b = some u) : upd H p o b = some u := by rw [upd_ne (ne_of_none hb hf)]; exact hb
theorem Els.same {H H' : Hp} {xs : List V} {es : List (Int × Int)} (h : Els H xs es) (s : Same H H') : Els H' xs es := h.evo (M := fun _ => False) (Same.evo s)
theorem El.same {H H' : Hp} {x : V} {e : Int × Int} (h : El H x e) (s : Same H H') : El H' x e := h.evo (M := fun _ => False) (Same.evo s)
theorem yb_len : bootBuiltins "len" = some (.builtin "len") := by decide +kernel
theorem yb_int : bootBuiltins "int" = some (.type "int") := by decide +kernel
theorem yb_abs : bootBuiltins "abs" = some (.builtin "abs") := by decide +kernel
theorem yb_list : bootBuiltins "list" = some (.type "list") := by decide +kernel
theorem yb_all : bootBuiltins "all" = some (.builtin "all") := by decide +kernel
theorem yb_isinstance : bootBuiltins "isinstance" = some (.builtin "isinstance") := by decide +kernel
theorem yb_bool : bootBuiltins "bool" = some (.type "bool") := by decide +kernel
end YO

namespace YO
open PySem PySem.Spec PyProof.Rows L2
/-! ### a function that is handed in: S what it leans on, M what it changes, Lg what is known of its questions so far, F its answers -/
abbrev Lg0 := List (V × V) → Hp → Prop
def spO (M : Addr → Prop) (Lg : Lg0) (Dom : Hp → V → Prop) (F : List (V × V) → V → V → Int) (cap : Nat) : Sp := fun vs H Q _ => ∃ (x y : V) (L : List (V × V)), vs = [x, y] ∧ Lg L H ∧ Dom H x ∧ Dom H y ∧ L.length < cap ∧
  ∀ H', Lg (L ++ [(x, y)]) H' → Evo M H H' → Q (.int (F L x y)) H'
structure OraK (M S : Addr → Prop) (Lg : Lg0) (Dom : Hp → V → Prop) : Prop where
  sub : ∀ b, M b → S b
  keep : ∀ L H H', Lg L H → (∀ b o, H b = some o → (S b ∨ ∃ xs, o = .tup xs) → H' b = some o) → Lg L H'
  there : ∀ L H b, Lg L H → S b → ∃ o, H b = some o
  dom : ∀ H H' x, Dom H x → (∀ b xs, H b = some (.tup xs) → H' b = some (.tup xs)) → Dom H' x
structure Ora (P : Program) (w : World) (K : PySem.W.Frag) (mg : Str → Option Value) (base : Heap) (k : Nat) (f : Addr) (M S : Addr → Prop) (Lg : Lg0) (Dom : Hp → V → Prop) (F : List (V × V) → V → V → Int) (cap : Nat) : Prop where
  fv : FV P w K mg base k f (spO M Lg Dom F cap)
  ok : OraK M S Lg Dom
/-- a test of one element, by the function and a key -/
def spO1 (M : Addr → Prop) (Lg : Lg0) (Dom : Hp → V → Prop) (F : List (V × V) → V → V → Int) (t : Int → Bool) (key : V) (cap : Nat) : Sp := fun vs H Q _ => ∃ (x : V) (L : List (V × V)), vs = [x] ∧ Lg L H ∧ Dom H x ∧ L.length < cap ∧
  ∀ H', Lg (L ++ [(x, key)]) H' → Evo M H H' → Q (.bl (t (F L x key))) H'
structure Ora1 (P : Program) (w : World) (K : PySem.W.Frag) (mg : Str → Option Value) (base : Heap) (k : Nat) (f : Addr) (M S : Addr → Prop) (Lg : Lg0) (Dom : Hp → V → Prop) (F : List (V × V) → V → V → Int) (t : Int → Bool) (key : V) (cap : Nat) : Prop where
  fv : FV P w K mg base k f (spO1 M Lg Dom F t key cap)
  ok : OraK M S Lg Dom
theorem OraK.no {M S : Addr → Prop} {Lg : Lg0} {Dom : Hp → V → Prop} (O : OraK M S Lg Dom) {L : List (V × V)} {H : Hp} (h : Lg L H) {b : Addr} (hb : H b = none) : ¬ S b := fun z => by
  obtain ⟨o, e⟩ := O.there L H b h z
  rw [hb] at e; cases e
theorem OraK.evo0 {M S : Addr → Prop} {Lg : Lg0} {Dom : Hp → V → Prop} (O : OraK M S Lg Dom) {L : List (V × V)} {H H' : Hp} (h : Lg L H) (a : Same H H') : Lg L H' := O.keep L H H' h fun b o e _ => a b o e
theorem OraK.put {M S : Addr → Prop} {Lg : Lg0} {Dom : Hp → V → Prop} (O : OraK M S Lg Dom) {L : List (V × V)} {H : Hp} {p : Addr} {xs : List V} {o : HO} (h : Lg L H) (hl : H p = some (.lst xs)) (hp : ¬ S p) : Lg L (upd H p o) :=
  O.keep L H _ h fun b u e q => by
    rw [upd_ne ?_]
    · exact e
    · intro z
      subst z
      rcases q with q | ⟨ys, q⟩
      · exact hp q
      · rw [hl] at e; cases e; cases q
theorem OraK.domE {M S N : Addr → Prop} {Lg : Lg0} {Dom : Hp → V → Prop} (O : OraK M S Lg Dom) {H H' : Hp} {x : V} (h : Dom H x) (a : Evo N H H') : Dom H' x := O.dom H H' x h fun b xs e => a.tup e
theorem _root_.L2.TabOk.evo {M : Addr → Prop} {H H' : Hp} {t : Addr} {q : Str} (h : TabOk H t q) (a : Evo M H H') (hm : ¬ M t) : TabOk H' t q := by
  obtain ⟨ps, h1, h2, h3⟩ := h
  refine ⟨ps, a _ _ h1 (.inl hm), h2, fun pos cv e => ?_⟩
  obtain ⟨c, oc, g1, g2, g3⟩ := h3 pos cv e
  exact ⟨c, oc, g1, a.fz g2, g3⟩
theorem _root_.L2.TabOk.nil {H : Hp} {t : Addr} {q : Str} (h : H t = some (.tbl #[])) : TabOk H t q := ⟨#[], h, trivial, fun pos cv e => by simp [codeAmong] at e⟩
abbrev qL (n : Str) : Str := (n ++ ".<locals>.") ++ "<lambda>"

/-! ### a list that is never written -/
theorem _root_.L2.SqF.sq {K : PySem.W.Frag} {H : Hp} {a : Addr} {xs : List V} (h : SqF K H a xs) : SqL K H a xs := by
  rcases h with ⟨o, h⟩ | h
  · exact .inl (.inr ⟨o, h⟩)
  · exact .inr h
theorem _root_.L2.SqF.evo {K : PySem.W.Frag} {M : Addr → Prop} {H H' : Hp} {a : Addr} {xs : List V} (h : SqF K H a xs) (e : Evo M H H') : SqF K H' a xs := by
  rcases h with ⟨o, h⟩ | h
  · exact .inl ⟨o, e.fz h⟩
  · exact .inr h
theorem _root_.L2.SqF.same {K : PySem.W.Frag} {H H' : Hp} {a : Addr} {xs : List V} (h : SqF K H a xs) (e : Same H H') : SqF K H' a xs := h.evo (M := fun _ => False) (Same.evo e)

/-! ### the log of a function that notes its questions -/
def LogAt (la : Addr) (L : List (V × V)) (H : Hp) : Prop := ∃ ts, H la = some (.lst ts) ∧ Paired (fun (t : V) (p : V × V) => ∃ q, t = .ref q ∧ H q = some (.tup [p.1, p.2])) ts L
theorem LogAt.keep {la : Addr} {L : List (V × V)} {H H' : Hp} (h : LogAt la L H) (k : ∀ b o, H b = some o → (b = la ∨ ∃ xs, o = .tup xs) → H' b = some o) : LogAt la L H' := by
  obtain ⟨ts, h1, h2⟩ := h
  exact ⟨ts, k _ _ h1 (.inl rfl), Paired.mapP h2 fun t p ⟨q, e1, e2⟩ => ⟨q, e1, k _ _ e2 (.inr ⟨_, rfl⟩)⟩⟩
theorem LogAt.evo {M : Addr → Prop} {la : Addr} {L : List (V × V)} {H H' : Hp} (h : LogAt la L H) (e : Evo M H H') (hm : ¬ M la) : LogAt la L H' := h.keep fun b o e1 q => e b o e1 (by
  rcases q with rfl | ⟨xs, rfl⟩
  · exact .inl hm
  · exact .inr trivial)
theorem LogAt.same {la : Addr} {L : List (V × V)} {H H' : Hp} (h : LogAt la L H) (e : Same H H') : LogAt la L H' := h.keep fun b o e1 _ => e b o e1
theorem LogAt.add {la q : Addr} {L : List (V × V)} {H : Hp} {ts : List V} {x y : V} (h : LogAt la L H) (e : H la = some (.lst ts)) (hq : H q = none) : LogAt la (L ++ [(x, y)]) (upd (upd H q (.tup [x, y])) la (.lst (ts ++ [.ref q]))) := by
  obtain ⟨ts', h1, h2⟩ := h
  rw [e] at h1; cases h1
  have nq : q ≠ la := (ne_of_none e hq).symm
  refine ⟨_, upd_same, Paired.app (Paired.mapP h2 fun t p ⟨r, e1, e2⟩ => ⟨r, e1, ?_⟩) (.cons ⟨q, rfl, by rw [upd_ne nq, upd_same]⟩ .nil)⟩
  have nr : r ≠ la := fun z => by rw [z, e] at e2; cases e2
  rw [upd_ne nr, upd_ne (ne_of_none e2 hq)]
  exact e2

/-! ### cells hidden, cells known -/
theorem Evo.unhid {M : Addr → Prop} {H H' : Hp} {p : Addr → Prop} (a : Evo M (hid H p) H') : Evo M H (unhid H H' p) := fun b o e q => by
  by_cases hb : p b
  · rw [unhid_in hb]; exact e
  · rw [unhid_out hb]
    exact a b o (by rw [hid_out hb]; exact e) q
theorem _root_.L2.Froz.to {X : Cx} {σ : L2.St} {H Hf : Hp} (Z : Froz X σ H Hf) {b : Addr} {o : HO} (e : H b = some o) : Hf b = some o := by
  rw [Z.same b fun z => by rw [(Z.cell b z).1] at e; cases e]
  exact e
theorem _root_.L2.Froz.back {X : Cx} {σ : L2.St} {M : Addr → Prop} {H Hf Hf' : Hp} (Z : Froz X σ H Hf) (a : Evo M Hf Hf') : Evo M H (hid Hf' (CellOf X.env.cells)) := fun b o e q => by
  have hb : ¬ CellOf X.env.cells b := fun z => by rw [(Z.cell b z).1] at e; cases e
  rw [hid_out hb]
  exact a b o (Z.to e) q
/-- what leans on S goes over to the known cells and back -/
theorem OraK.froz {M S : Addr → Prop} {Lg : Lg0} {Dom : Hp → V → Prop} (O : OraK M S Lg Dom) {X : Cx} {σ : L2.St} {H Hf : Hp} (Z : Froz X σ H Hf) {L : List (V × V)} (h : Lg L H) : Lg L Hf := O.keep L H Hf h fun b o e _ => Z.to e
theorem OraK.unfroz {M S N : Addr → Prop} {Lg : Lg0} {Dom : Hp → V → Prop} (O : OraK M S Lg Dom) {X : Cx} {σ : L2.St} {H Hf Hf' : Hp} (Z : Froz X σ H Hf) (a : Evo N Hf Hf') {L L' : List (V × V)} (h0 : Lg L' H) (h : Lg L Hf') : Lg L (hid Hf' (CellOf X.env.cells)) :=
  O.keep L Hf' _ h fun b o e q => by
    rw [hid_out ?_]
    · exact e
    · intro z
      obtain ⟨h1, ob, v, h2, _⟩ := Z.cell b z
      rcases q with q | ⟨xs, rfl⟩
      · obtain ⟨o', e'⟩ := O.there L' H b h0 q
        rw [h1] at e'; cases e'
      · rw [a.fz h2] at e; cases e
theorem OraK.hid {M S : Addr → Prop} {Lg : Lg0} {Dom : Hp → V → Prop} (O : OraK M S Lg Dom) {H : Hp} {p : Addr → Prop} {L : List (V × V)} (h : Lg L H) (hp : ∀ b, p b → ¬ S b ∧ ∃ o, H b = some (Fz o)) : Lg L (L2.hid H p) :=
  O.keep L H _ h fun b o e q => by
    rw [hid_out ?_]
    · exact e
    · intro z
      obtain ⟨h1, ob, h2⟩ := hp b z
      rcases q with q | ⟨xs, rfl⟩
      · exact h1 q
      · rw [h2] at e; cases e
theorem OraK.unhid {M S : Addr → Prop} {Lg : Lg0} {Dom : Hp → V → Prop} (O : OraK M S Lg Dom) {H H' : Hp} {p : Addr → Prop} {L : List (V × V)} (h : Lg L H') (hp : ∀ b, p b → H' b = none) : Lg L (L2.unhid H H' p) :=
  O.keep L H' _ h fun b o e _ => by
    rw [unhid_out fun z => by rw [hp b z] at e; cases e]
    exact e
theorem tup_hid {H : Hp} {p : Addr → Prop} (hp : ∀ b, p b → ∃ o, H b = some (Fz o)) : ∀ b xs, H b = some (.tup xs) → L2.hid H p b = some (.tup xs) := fun b xs e => by
  rw [hid_out ?_]
  · exact e
  · intro z
    obtain ⟨o, h⟩ := hp b z
    rw [h] at e; cases e
theorem _root_.L2.Froz.out {X : Cx} {σ : L2.St} {M : Addr → Prop} {H Hf Hf' : Hp} (Z : Froz X σ H Hf) (a : Evo M Hf Hf') {b : Addr} {o : HO} (e : Hf' b = some o) (hn : ∀ ob u, o ≠ .frz ob u) : L2.hid Hf' (CellOf X.env.cells) b = some o := by
  rw [hid_out ?_]
  · exact e
  · intro z
    obtain ⟨_, ob, v, h2, _⟩ := Z.cell b z
    rw [a.fz h2] at e
    exact hn _ _ (Option.some.inj e).symm
theorem _root_.L2.Froz.same' {X : Cx} {σ : L2.St} {H Hf : Hp} (Z : Froz X σ H Hf) : Same H Hf := fun b o e => Z.to e
end YO

namespace L2
open PySem PySem.Spec PyProof.Rows
/-! ### the rules inside a comprehension's block: the frame's fragment by its own letter -/
section
variable {X : Cx} {K : PySem.W.Frag}
theorem op_eqDK (hu : X.A.units + 150 < cLine) (hK : X.K = K := by rfl) : OpR X (compareOp .Eq) (rEqD K) := hK ▸ op_eqD hu
theorem op_inDK (hu : X.A.units + 150 < cLine) (hK : X.K = K := by rfl) : OpR X (compareOp .In) (rInD K false) := hK ▸ op_inD hu
theorem ix_tupK (hK : X.K = K := by rfl) : IxR X (rIxT K) := hK ▸ ix_tup
theorem pg_tupK {es : List Expr} {k : Nat} {t : TGs} {n : Nat} {pos : Pos} (hc : X.calm = true) (h : PGs X es t) (hK : X.K = K := by rfl)
    (hn : (assignEach es X.env).length = n := by rfl) (hst : (assignEach es X.env).findIdx? (·.1) = none := by rfl) : PG X (.Tuple es k pos) (gTup K n t) := hK ▸ pg_tup hc h hn hst
end

/-! ### comprehensions that only make new things -/
/-- the list so far at D; all else as it was -/
def CI (H1 : Hp) (D : Addr) (P : Nat → List V → Hp → Prop) (i : Nat) (ys : List V) (H : Hp) : Prop := H D = some (.lst ys) ∧ ys.length ≤ i ∧ Same H1 H ∧ P i ys H
theorem ci_put {H1 H H4 : Hp} {D : Addr} {P : Nat → List V → Hp → Prop} {n i : Nat} {ys : List V} {y : V} (hD : H1 D = none) (hi : i < n) (hn : n ≤ 1000000) (c : H D = some (.lst ys)) (cl : ys.length ≤ i) (s0 : Same H1 H) (s : Same H H4)
    (p : ∀ H', (∀ b o, H4 b = some o → b ≠ D → H' b = some o) → P (i + 1) (ys ++ [y]) H') :
    ∃ zs, H4 D = some (.lst zs) ∧ zs.length < sizeLine ∧ Nxt n i (CI H1 D P (i + 1) (ys ++ [y]) (upd H4 D (.lst (zs ++ [y])))) := by
  refine ⟨ys, s _ _ c, Nat.lt_of_lt_of_le (show ys.length < 1000000 by omega) (by decide), Nxt.of hi ⟨upd_same, by rw [List.length_append, List.length_singleton]; omega, fun b o e => ?_, p _ fun b o e z => ?_⟩⟩
  · rw [upd_ne (ne_of_none e hD)]; exact s _ _ (s0 b o e)
  · rw [upd_ne z]; exact e
theorem compS_list {K : PySem.W.Frag} {a : Addr} {xs : List V} {src : List (Option Nat)} {g : TG} {tc : TT} {te : TE} {σ : St} {H : Hp} {D : Addr} {F : Hp → Prop} (P : Nat → List V → Hp → Prop) (hD : H D = none) (hl : SqL K H a xs) (h0 : P 0 [] (upd H D (.lst [])))
    (hs : ∀ i x ys H', i < xs.length → xs[i]? = some x → H' D = some (.lst ys) → ys.length ≤ i → Same H H' → P i ys H' → g x (carry src σ) H' fun σ2 H2 => keepOf src σ2 = carry src σ ∧ tc σ2 H2 fun b H3 =>
      if b = true then te σ2 H3 fun y H4 => ∃ zs, H4 D = some (.lst zs) ∧ zs.length < sizeLine ∧ Nxt xs.length i (CI H D P (i + 1) (ys ++ [y]) (upd H4 D (.lst (zs ++ [y])))) else Nxt xs.length i (CI H D P (i + 1) ys H3))
    (hd : ∀ ys H', H' D = some (.lst ys) → Same H H' → P xs.length ys H' → F H') : CompW src g tc te σ (Itl K a) H D F :=
  comp_list (K := K) (a := a) (xs := xs) (CI H D P) ⟨upd_same, Nat.le_refl _, fun b o e => by rw [upd_ne (ne_of_none e hD)]; exact e, h0⟩ (fun _ _ _ _ c => c.2.2.1.seq hl) (fun i x ys H' hi hx ⟨c1, c2, c3, c4⟩ => hs i x ys H' hi hx c1 c2 c3 c4) (fun ys H' ⟨c1, _, c3, c4⟩ => hd ys H' c1 c3 c4)
end L2

namespace YM
section
variable {α β : Type} (F : List (α × α) → α → α → Int)
/-! ### unique -/
def unq (L : List (α × α)) (x : α) : List α → List α × List (α × α)
  | [] => ([], L)
  | y :: r => if F L x y = 0 then unq (L ++ [(x, y)]) x r else (y :: (unq (L ++ [(x, y)]) y r).1, (unq (L ++ [(x, y)]) y r).2)
def unqS (f : α → α → Int) (x : α) : List α → List α
  | [] => []
  | y :: r => if f x y = 0 then unqS f x r else y :: unqS f y r
variable {F}
/-! ### a row's picture -/
/-! ### ahead, as a law looks -/
def ahdS (f : α → α → Int) : List α → Nat
  | x :: y :: r => if f x y > 0 then 1 else ahdS f (y :: r) + 1
  | [_] => 1
  | [] => 0
/-- the questions: each and the next one, from the left -/
def prs (l : List α) : List (α × α) := l.zip l.tail
end
end YM

namespace YM
section
variable {α β : Type} (F : List (α × α) → α → α → Int)
/-! ### two rows walked together -/
def wlk (L : List (α × α)) : List α → List α → List (Int × α) × List (α × α)
  | [], ys => (ys.map fun y => (1, y), L)
  | x :: xs, [] => ((x :: xs).map fun x => (-1, x), L)
  | x :: xs, y :: ys =>
    if F L x y > 0 then ((F L x y, y) :: (wlk (L ++ [(x, y)]) (x :: xs) ys).1, (wlk (L ++ [(x, y)]) (x :: xs) ys).2)
    else if F L x y = 0 then ((F L x y, x) :: (wlk (L ++ [(x, y)]) xs ys).1, (wlk (L ++ [(x, y)]) xs ys).2)
    else ((F L x y, x) :: (wlk (L ++ [(x, y)]) xs (y :: ys)).1, (wlk (L ++ [(x, y)]) xs (y :: ys)).2)
termination_by xs ys => xs.length + ys.length
variable {F}
/-- by any function -/
structure Wlk (L : List (α × α)) (xs ys : List α) (r : List (Int × α) × List (α × α)) : Prop where
  one : xs.Sublist (r.1.map (·.2))
  mem : ∀ p ∈ r.1, p.2 ∈ xs ∨ p.2 ∈ ys
  le : ((r.1.filter fun p => decide (p.1 ≤ 0)).map (·.2)) = xs
  gt : ((r.1.filter fun p => decide (p.1 > 0)).map (·.2)).Sublist ys
  len : r.1.length ≤ xs.length + ys.length
  log : ∃ M, r.2 = L ++ M ∧ (∀ p ∈ M, p.1 ∈ xs ∧ p.2 ∈ ys) ∧ M.length ≤ xs.length + ys.length - 1 ∧ (xs = [] ∨ ys = [] → M = [])
end
section
variable {α : Type} {F : List (α × α) → α → α → Int} {f : α → α → Int}
/-! ### by an order, of rows each of whose elements is unlike the next one -/
def StS (f : α → α → Int) (l : List α) : Prop := l.Pairwise fun x y => f x y < 0
/-- like one of a row -/
def amg (f : α → α → Int) (l : List α) (e : α) : Bool := l.any fun x => f x e == 0
theorem Ord.lt_of {D : α → Prop} (O : Ord f D) {x y z : α} (hx : D x) (hy : D y) (hz : D z) (h1 : f x y < 0) (h2 : f y z ≤ 0) : f x z < 0 := by
  have h3 := O.trans x y z hx hy hz (by omega) h2
  rcases Int.lt_or_eq_of_le h3 with h | h
  · exact h
  · have h4 := (O.zero hx hz).mp h
    have h5 := O.trans y z x hy hz hx h2 (by omega)
    have h6 := (O.anti y x hy hx).mpr h1
    omega
end
end YM

namespace YM
section
variable {α : Type} (F : List (α × α) → α → α → Int)
/-! ### least -/
def lst (L : List (α × α)) (x : α) : List α → α × List (α × α)
  | [] => (x, L)
  | e :: r => if F L e x < 0 then lst (L ++ [(e, x)]) e r else lst (L ++ [(e, x)]) x r
variable {F}
/-! ### kept in order, searched from behind -/
variable (F)
/-- one more: behind those that don't stand behind it -/
def insU (L : List (α × α)) (kept : List α) (e : α) : List α × List (α × α) :=
  (kept.take (bis F (fun i => decide (i ≤ 0)) kept e L 0 kept.length).1 ++ e :: kept.drop (bis F (fun i => decide (i ≤ 0)) kept e L 0 kept.length).1, (bis F (fun i => decide (i ≤ 0)) kept e L 0 kept.length).2)
def bst (many : Nat) (L : List (α × α)) (kept : List α) : List α → List α × List (α × α)
  | [] => (kept, L)
  | e :: r => bst many (insU F L kept e).2 (if (insU F L kept e).1.length > many then (insU F L kept e).1.dropLast else (insU F L kept e).1) r
def trn (L : List (α × α)) (kept : List α) (m : Nat) : List α → Nat × List (α × α)
  | [] => (m, L)
  | e :: r => trn (insU F L kept e).2 (insU F L kept e).1 (m + (kept.length - (bis F (fun i => decide (i ≤ 0)) kept e L 0 kept.length).1)) r
variable {F}
theorem insU_len {L : List (α × α)} {kept : List α} {e : α} : (insU F L kept e).1.length = kept.length + 1 := by
  unfold insU
  simp only [List.length_append, List.length_cons, List.length_take, List.length_drop]
  obtain ⟨_, h, _⟩ := bis_all (F := F) (t := fun i => decide (i ≤ 0)) (xs := kept) (key := e) (clog (kept.length + 1)) L 0 kept.length (Nat.zero_le _) (Nat.le_refl _) (clog_pow _)
  omega
theorem insU_perm {L : List (α × α)} {kept : List α} {e : α} : (insU F L kept e).1.Perm (e :: kept) := by
  unfold insU
  refine List.perm_middle.trans ?_
  rw [List.take_append_drop]
theorem insU_log {L : List (α × α)} {kept : List α} {e : α} : ∃ M, (insU F L kept e).2 = L ++ M ∧ M.length ≤ clog (kept.length + 1) := by
  obtain ⟨_, _, M, h1, h2, _⟩ := bis_all (F := F) (t := fun i => decide (i ≤ 0)) (xs := kept) (key := e) (clog (kept.length + 1)) L 0 kept.length (Nat.zero_le _) (Nat.le_refl _) (clog_pow _)
  exact ⟨M, h1, h2⟩
end
section
variable {α : Type} {F : List (α × α) → α → α → Int} {f : α → α → Int} {D : α → Prop}
/-- the place of one more -/
theorem insAt_count (O : Ord f D) {l : List α} {e : α} (d : ∀ x ∈ l, D x) (he : D e) (s : Srt f l) : insAt f e l l.length = (l.filter fun x => decide (f x e ≤ 0)).length := by
  have h1 := Srt.take_le O d he s
  have h2 : ∀ x ∈ l.drop (insAt f e l l.length), f x e > 0 := Srt.drop_gt
  have hle := insAt_le (f := f) e l l.length
  have e1 : l.filter (fun x => decide (f x e ≤ 0)) = l.take (insAt f e l l.length) := by
    have e0 : l.filter (fun x => decide (f x e ≤ 0)) = (l.take (insAt f e l l.length) ++ l.drop (insAt f e l l.length)).filter (fun x => decide (f x e ≤ 0)) := by rw [List.take_append_drop]
    rw [e0, List.filter_append, List.filter_eq_self.mpr, List.filter_eq_nil_iff.mpr, List.append_nil]
    · intro x hx; have := h2 x hx; simp; omega
    · intro x hx; have := h1 x hx; simp; omega
  rw [e1, List.length_take]
  omega
theorem bis_up (O : Ord f D) (B : By F f D) {l : List α} {e : α} (d : ∀ x ∈ l, D x) (he : D e) (s : Srt f l) (L : List (α × α)) : (bis F (fun i => decide (i ≤ 0)) l e L 0 l.length).1 = (l.filter fun x => decide (f x e ≤ 0)).length := by
  have := bis_count (F := F) (t := fun i => decide (i ≤ 0)) (xs := l) (key := e) (p := fun x => decide (f x e ≤ 0)) (fun L x hx => by rw [B L x e (d x hx) he]) (l.filter fun x => decide (f x e ≤ 0)).length (List.length_filter_le _ _)
    (front_count (List.Pairwise.imp_of_mem (fun {x y} hx hy h hp => decide_eq_true (O.trans x y e (d x hx) (d y hy) he h (of_decide_eq_true hp))) s))
  exact this _ L 0 l.length rfl (Nat.zero_le _) (List.length_filter_le _ _) (Nat.le_refl _)
theorem insU_ins (O : Ord f D) (B : By F f D) {l : List α} {e : α} (d : ∀ x ∈ l, D x) (he : D e) (s : Srt f l) (L : List (α × α)) : (insU F L l e).1 = ins f l e := by
  unfold insU ins
  rw [bis_up O B d he s, insAt_count O d he s]
theorem take_mid {l X : List α} {e : α} {u k : Nat} (h : l.length = u) : (l ++ e :: X).take (u + (k + 1)) = l ++ e :: X.take k := by
  subst h
  rw [List.take_length_add_append]; rfl
theorem Srt.take {l : List α} (s : Srt f l) (n : Nat) : Srt f (l.take n) := List.Pairwise.sublist (List.take_sublist n l) s
end
end YM

namespace YM
section
variable {α : Type} (F : List (α × α) → α → α → Int)
abbrev sw (p : α × α) : α × α := (p.2, p.1)
/-! ### both ends -/
def spl (L : List (α × α)) : List α → (List α × List α) × List (α × α)
  | x :: y :: r => if F L x y > 0 then ((y :: (spl (L ++ [(x, y)]) r).1.1, x :: (spl (L ++ [(x, y)]) r).1.2), (spl (L ++ [(x, y)]) r).2) else ((x :: (spl (L ++ [(x, y)]) r).1.1, y :: (spl (L ++ [(x, y)]) r).1.2), (spl (L ++ [(x, y)]) r).2)
  | [x] => (([x], [x]), L)
  | [] => (([], []), L)
def flp : List (α × α) → α → α → Int := fun L x y => F (L.map sw) y x
variable {F}
end
section
variable {α : Type} {F : List (α × α) → α → α → Int} {f : α → α → Int} {D : α → Prop}
end
end YM

namespace YM
section
variable {α : Type} (F : List (α × α) → α → α → Int)
/-! ### rising -/
def las (d : α) (row : List α) (lg : List (List Nat)) : List α := lg.tail.map fun ps => (row[ps.getLast?.getD 0]?).getD d
/-- one more place -/
def rsLen (d : α) (row : List α) (L : List (α × α)) (lg : List (List Nat)) (e : α) : Nat := (bis F (fun i => decide (i < 0)) (las d row lg) e L 0 (las d row lg).length).1
def rsLog (d : α) (row : List α) (L : List (α × α)) (lg : List (List Nat)) (e : α) : List (α × α) := (bis F (fun i => decide (i < 0)) (las d row lg) e L 0 (las d row lg).length).2
def rsPut (lg : List (List Nat)) (len k : Nat) : List (List Nat) := lg.take (len + 1) ++ [(lg[len]?).getD [] ++ [k]] ++ lg.drop (len + 2)
def rsg (d : α) (row : List α) (L : List (α × α)) (lg : List (List Nat)) (k : Nat) : List α → List (List Nat) × List (α × α)
  | [] => (lg, L)
  | e :: r => rsg d row (rsLog F d row L lg e) (rsPut lg (rsLen F d row L lg e) k) (k + 1) r
variable {F}
theorem rsPut_get {lg : List (List Nat)} {len k : Nat} (h : len < lg.length) (l : Nat) : (rsPut lg len k)[l]? = if l = len + 1 then some ((lg[len]?).getD [] ++ [k]) else lg[l]? := by
  unfold rsPut
  have lt : (lg.take (len + 1)).length = len + 1 := by rw [List.length_take]; omega
  rcases Nat.lt_trichotomy l (len + 1) with hl | hl | hl
  · rw [if_neg (by omega), List.append_assoc, List.getElem?_append_left (by omega), List.getElem?_take, if_pos hl]
  · rw [if_pos hl, List.append_assoc, List.getElem?_append_right (by omega), hl, lt, Nat.sub_self]; rfl
  · rw [if_neg (by omega), List.getElem?_append_right (by rw [List.length_append, lt]; simp only [List.length_cons, List.length_nil]; omega), List.getElem?_drop]
    congr 1
    rw [List.length_append, lt]; simp only [List.length_cons, List.length_nil]; omega
theorem rsPut_len {lg : List (List Nat)} {len k : Nat} (h : len < lg.length) : (rsPut lg len k).length = max lg.length (len + 2) := by
  unfold rsPut
  rw [List.length_append, List.length_append, List.length_take, List.length_drop]
  simp only [List.length_cons, List.length_nil]; omega
/-- by any function -/
structure Rs (k : Nat) (lg : List (List Nat)) : Prop where
  pos : 0 < lg.length
  len : lg.length ≤ k + 1
  each : ∀ (l : Nat) (ps : List Nat), lg[l]? = some ps → ps.length = l ∧ ps.Pairwise (· < ·) ∧ ∀ p ∈ ps, p < k
theorem las_len {d : α} {row : List α} {lg : List (List Nat)} : (las d row lg).length = lg.length - 1 := by unfold las; rw [List.length_map, List.length_tail]
theorem rsLen_lt {d : α} {row : List α} {L : List (α × α)} {lg : List (List Nat)} {e : α} (h : 0 < lg.length) : rsLen F d row L lg e < lg.length := by
  obtain ⟨_, h2, _⟩ := bis_all (F := F) (t := fun i => decide (i < 0)) (xs := las d row lg) (key := e) (clog ((las d row lg).length + 1)) L 0 (las d row lg).length (Nat.zero_le _) (Nat.le_refl _) (clog_pow _)
  have := las_len (d := d) (row := row) (lg := lg)
  unfold rsLen
  omega
theorem rsLog_any {d : α} {row : List α} {L : List (α × α)} {lg : List (List Nat)} {e : α} : ∃ M, rsLog F d row L lg e = L ++ M ∧ M.length ≤ clog (lg.length - 1 + 1) := by
  obtain ⟨_, _, M, h3, h4, _⟩ := bis_all (F := F) (t := fun i => decide (i < 0)) (xs := las d row lg) (key := e) (clog ((las d row lg).length + 1)) L 0 (las d row lg).length (Nat.zero_le _) (Nat.le_refl _) (clog_pow _)
  rw [las_len] at h4
  exact ⟨M, h3, h4⟩
theorem Rs.step {k len : Nat} {lg : List (List Nat)} (h : Rs k lg) (hl : len < lg.length) : Rs (k + 1) (rsPut lg len k) := by
  refine ⟨by rw [rsPut_len hl]; omega, by rw [rsPut_len hl]; have := h.len; omega, fun l ps e => ?_⟩
  rw [rsPut_get hl] at e
  split at e
  · rename_i hq
    have e := Option.some.inj e
    obtain ⟨q, hq'⟩ : ∃ q, lg[len]? = some q := ⟨lg[len], by simp [hl]⟩
    rw [hq'] at e
    obtain ⟨a, b, c⟩ := h.each len q hq'
    have e' : q ++ [k] = ps := e
    subst e'
    refine ⟨by rw [List.length_append, a, hq]; rfl, List.pairwise_append.mpr ⟨b, by simp, fun x hx y hy => by rw [List.mem_singleton.mp hy]; exact c x hx⟩, fun p hp => ?_⟩
    rcases List.mem_append.mp hp with z | z
    · have := c p z; omega
    · rw [List.mem_singleton.mp z]; omega
  · obtain ⟨a, b, c⟩ := h.each l ps e
    exact ⟨a, b, fun p hp => by have := c p hp; omega⟩
end
/-! ### the longest, as a law finds it -/
def mxl (l : List Nat) : Nat := l.foldr max 0
theorem mxl_le {l : List Nat} {n : Nat} : mxl l ≤ n ↔ ∀ x ∈ l, x ≤ n := by
  induction l with
  | nil => simp [mxl]
  | cons a l ih =>
    show max a (mxl l) ≤ n ↔ _
    rw [Nat.max_le, ih]
    simp
theorem mxl_mem {l : List Nat} {x : Nat} (h : x ∈ l) : x ≤ mxl l := mxl_le.mp (Nat.le_refl _) x h
section
variable {α : Type} {F : List (α × α) → α → α → Int} {f : α → α → Int} {D : α → Prop}
/-- how long a rising row ends at a place -/
def mdOf (f : α → α → Int) (d : α) (row : List α) (md : List Nat) (e : α) : Nat := 1 + mxl (((List.range md.length).filter fun j => decide (f ((row[j]?).getD d) e < 0)).map fun j => md.getD j 0)
def mdS (f : α → α → Int) (d : α) (row : List α) : Nat → List Nat
  | 0 => []
  | k + 1 => mdS f d row k ++ [mdOf f d row (mdS f d row k) ((row[k]?).getD d)]
structure Ro (f : α → α → Int) (d : α) (row : List α) (k : Nat) (lg : List (List Nat)) (md : List Nat) : Prop where
  rs : Rs k lg
  ml : md.length = k
  up : ∀ (l : Nat) (ps : List Nat), lg[l]? = some ps → ps.Pairwise fun p q => f ((row[p]?).getD d) ((row[q]?).getD d) < 0
  low : ∀ (l : Nat) (ps : List Nat), lg[l + 1]? = some ps → ∃ p, ps.getLast? = some p ∧ l + 1 ≤ md.getD p 0 ∧ ∀ j, j < k → l + 1 ≤ md.getD j 0 → f ((row[p]?).getD d) ((row[j]?).getD d) ≤ 0
  top : ∀ j, j < k → md.getD j 0 < lg.length
theorem Ro.las_get {d : α} {row : List α} {k l : Nat} {lg : List (List Nat)} {md : List Nat} {x : α} (R : Ro f d row k lg md) (h : (las d row lg)[l]? = some x) :
    ∃ ps p, lg[l + 1]? = some ps ∧ ps.getLast? = some p ∧ x = (row[p]?).getD d ∧ l + 1 ≤ md.getD p 0 ∧ p < k ∧ ∀ j, j < k → l + 1 ≤ md.getD j 0 → f x ((row[j]?).getD d) ≤ 0 := by
  unfold las at h
  rw [List.getElem?_map, List.getElem?_tail] at h
  cases hq : lg[l + 1]? with
  | none => rw [hq] at h; simp at h
  | some ps =>
    rw [hq] at h
    obtain ⟨p, h1, h2, h3⟩ := R.low l ps hq
    have hx : (row[ps.getLast?.getD 0]?).getD d = x := Option.some.inj h
    rw [h1] at hx
    have hx' : (row[p]?).getD d = x := hx
    refine ⟨ps, p, rfl, h1, hx'.symm, h2, (R.rs.each _ ps hq).2.2 p (List.mem_of_getLast? h1), ?_⟩
    rw [← hx']; exact h3
theorem Ro.step (O : Ord f D) (B : By F f D) {d : α} {row : List α} {k : Nat} {lg : List (List Nat)} {md : List Nat} {L : List (α × α)} (hD : ∀ j : Nat, D ((row[j]?).getD d)) (R : Ro f d row k lg md) :
    Ro f d row (k + 1) (rsPut lg (rsLen F d row L lg ((row[k]?).getD d)) k) (md ++ [mdOf f d row md ((row[k]?).getD d)]) := by
  have he := hD k
  have hll := las_len (d := d) (row := row) (lg := lg)
  have hlt := rsLen_lt (F := F) (d := d) (row := row) (L := L) (e := (row[k]?).getD d) R.rs.pos
  -- the last ones stand in order
  have hlD : ∀ x ∈ las d row lg, D x := fun x hx => by
    obtain ⟨i, hi⟩ := List.getElem?_of_mem hx
    obtain ⟨_, p, _, _, e, _⟩ := R.las_get hi
    rw [e]; exact hD p
  have hsrt : Srt f (las d row lg) := by
    refine List.pairwise_iff_getElem.mpr fun i j hi hj hij => ?_
    obtain ⟨ps, p, a1, a2, a3, a4, a5, a6⟩ := R.las_get (l := i) (x := (las d row lg)[i]) (by simp [hi])
    obtain ⟨qs, q, b1, b2, b3, b4, b5, b6⟩ := R.las_get (l := j) (x := (las d row lg)[j]) (by simp [hj])
    rw [b3]
    exact a6 q b5 (by omega)
  have hcnt : rsLen F d row L lg ((row[k]?).getD d) = ((las d row lg).filter fun x => decide (f x ((row[k]?).getD d) < 0)).length := by
    unfold rsLen
    exact bis_count (F := F) (t := fun i => decide (i < 0)) (xs := las d row lg) (key := (row[k]?).getD d) (p := fun x => decide (f x ((row[k]?).getD d) < 0)) (fun L x hx => by rw [B L x _ (hlD x hx) he]) _ (List.length_filter_le _ _)
      (front_count (List.Pairwise.imp_of_mem (fun {x y} hx hy h hp => decide_eq_true (O.lt_trans (hlD x hx) (hlD y hy) he h (of_decide_eq_true hp))) hsrt)) _ L 0 _ rfl (Nat.zero_le _) (List.length_filter_le _ _) (Nat.le_refl _)
  have hfr := front_count (p := fun x => decide (f x ((row[k]?).getD d) < 0)) (List.Pairwise.imp_of_mem (fun {x y} hx hy h hp => decide_eq_true (O.lt_trans (hlD x hx) (hlD y hy) he h (of_decide_eq_true hp))) hsrt)
  rw [← hcnt] at hfr
  generalize rsLen F d row L lg ((row[k]?).getD d) = len at hlt hfr hcnt
  generalize hee : (row[k]?).getD d = e at he hfr hcnt
  -- how long it is here
  have hmd : mdOf f d row md e = len + 1 := by
    unfold mdOf
    rw [Nat.add_comm]
    congr 1
    refine Nat.le_antisymm (mxl_le.mpr fun x hx => ?_) ?_
    · obtain ⟨j, hj, rfl⟩ := List.mem_map.mp hx
      obtain ⟨hj1, hj2⟩ := List.mem_filter.mp hj
      rw [List.mem_range, R.ml] at hj1
      have hj2 := of_decide_eq_true hj2
      rcases Nat.eq_zero_or_pos (md.getD j 0) with h0 | h0
      · omega
      have ht := R.top j hj1
      obtain ⟨x, hx⟩ : ∃ x, (las d row lg)[md.getD j 0 - 1]? = some x := ⟨(las d row lg)[md.getD j 0 - 1]'(by omega), by simp⟩
      obtain ⟨ps, p, a1, a2, a3, a4, a5, a6⟩ := R.las_get hx
      have h6 := a6 j hj1 (by omega)
      have := (hfr _ x hx).mp (decide_eq_true (O.lt_trans (by rw [a3]; exact hD p) (hD j) he h6 hj2))
      omega
    · rcases Nat.eq_zero_or_pos len with h0 | h0
      · omega
      obtain ⟨x, hx⟩ : ∃ x, (las d row lg)[len - 1]? = some x := ⟨(las d row lg)[len - 1]'(by omega), by simp⟩
      obtain ⟨ps, p, a1, a2, a3, a4, a5, a6⟩ := R.las_get hx
      have hx2 := of_decide_eq_true ((hfr _ x hx).mpr (by omega))
      refine Nat.le_trans (show len ≤ md.getD p 0 by omega) (mxl_mem (List.mem_map.mpr ⟨p, List.mem_filter.mpr ⟨List.mem_range.mpr (by rw [R.ml]; exact a5), decide_eq_true (by rw [← a3]; exact hx2)⟩, rfl⟩))
  have gO : ∀ j, j < k → (md ++ [mdOf f d row md e]).getD j 0 = md.getD j 0 := fun j hj => by
    rw [List.getD_eq_getElem?_getD, List.getD_eq_getElem?_getD, List.getElem?_append_left (by rw [R.ml]; exact hj)]
  have gN : (md ++ [mdOf f d row md e]).getD k 0 = len + 1 := by
    rw [List.getD_eq_getElem?_getD, List.getElem?_append_right (by rw [R.ml]; exact Nat.le_refl _), R.ml, Nat.sub_self, hmd]; rfl
  obtain ⟨q, hq⟩ : ∃ q, lg[len]? = some q := ⟨lg[len], by simp [hlt]⟩
  obtain ⟨qa, qb, qc⟩ := R.rs.each len q hq
  refine ⟨R.rs.step hlt, by rw [List.length_append, R.ml]; rfl, fun l ps hp => ?_, fun l ps hp => ?_, fun j hj => ?_⟩
  · rw [rsPut_get hlt] at hp
    split at hp
    · have hp := Option.some.inj hp
      rw [hq] at hp
      have hp' : q ++ [k] = ps := hp
      subst hp'
      refine List.pairwise_append.mpr ⟨R.up len q hq, by simp, fun a ha b hb => ?_⟩
      rw [List.mem_singleton.mp hb, hee]
      rcases Nat.eq_zero_or_pos len with h0 | h0
      · rw [h0] at qa
        rw [List.length_eq_zero_iff.mp qa] at ha
        exact absurd ha List.not_mem_nil
      obtain ⟨x, hx⟩ : ∃ x, (las d row lg)[len - 1]? = some x := ⟨(las d row lg)[len - 1]'(by omega), by simp⟩
      obtain ⟨ps, p, a1, a2, a3, a4, a5, a6⟩ := R.las_get hx
      rw [show len - 1 + 1 = len by omega, hq] at a1
      have a1 := Option.some.inj a1
      subst a1
      have hx2 := of_decide_eq_true ((hfr _ x hx).mpr (by omega))
      have hal : f ((row[a]?).getD d) ((row[p]?).getD d) ≤ 0 := by
        obtain ⟨i, hi⟩ := List.getElem?_of_mem ha
        obtain ⟨hil, hie⟩ := List.getElem?_eq_some_iff.mp hi
        rw [List.getLast?_eq_getElem?] at a2
        obtain ⟨hjl, hje⟩ := List.getElem?_eq_some_iff.mp a2
        rcases Nat.lt_or_ge i (q.length - 1) with h | h
        · have := List.pairwise_iff_getElem.mp (R.up len q hq) i (q.length - 1) hil hjl h
          rw [hie, hje] at this
          omega
        · have : i = q.length - 1 := by omega
          subst this
          rw [hie] at hje
          rw [hje, O.rfl' _ (hD p)]; exact Int.le_refl _
      exact O.lt_trans (hD a) (hD p) he hal (by rw [← a3]; exact hx2)
    · exact R.up l ps hp
  · rw [rsPut_get hlt] at hp
    split at hp
    · rename_i hl
      have hp := Option.some.inj hp
      rw [hq] at hp
      have hp' : q ++ [k] = ps := hp
      subst hp'
      have hl' : l = len := by omega
      subst hl'
      refine ⟨k, by simp, by rw [gN]; exact Nat.le_refl _, fun j hj hm => ?_⟩
      rw [hee]
      rcases Nat.lt_or_ge j k with h | h
      · rw [gO j h] at hm
        have ht := R.top j h
        obtain ⟨x, hx⟩ : ∃ x, (las d row lg)[l]? = some x := ⟨(las d row lg)[l]'(by omega), by simp⟩
        obtain ⟨ps, p, a1, a2, a3, a4, a5, a6⟩ := R.las_get hx
        have nx : ¬ f x e < 0 := fun z => by
          have := (hfr l x hx).mp (decide_eq_true z)
          omega
        have dx : D x := by rw [a3]; exact hD p
        have an := O.anti x e dx he
        have an2 := O.anti e x he dx
        exact O.trans e x _ he dx (hD j) (by omega) (a6 j h hm)
      · have : j = k := by omega
        rw [this, hee, O.rfl' e he]; exact Int.le_refl _
    · rename_i hl
      obtain ⟨p, h1, h2, h3⟩ := R.low l ps hp
      have hpk : p < k := (R.rs.each _ ps hp).2.2 p (List.mem_of_getLast? h1)
      refine ⟨p, h1, by rw [gO p hpk]; exact h2, fun j hj hm => ?_⟩
      rcases Nat.lt_or_ge j k with h | h
      · rw [gO j h] at hm
        exact h3 j h hm
      · have hjk : j = k := by omega
        rw [hjk, gN] at hm
        rw [hjk, hee]
        have hlen : l < len := by omega
        have hx : (las d row lg)[l]? = some ((row[p]?).getD d) := by
          unfold las
          rw [List.getElem?_map, List.getElem?_tail, hp]
          show some ((row[ps.getLast?.getD 0]?).getD d) = some _
          rw [h1]; rfl
        have := of_decide_eq_true ((hfr l _ hx).mpr hlen)
        omega
  · rw [rsPut_len hlt]
    rcases Nat.lt_or_ge j k with h | h
    · rw [gO j h]; have := R.top j h; omega
    · have : j = k := by omega
      rw [this, gN]; omega
end
end YM

namespace YM
section
variable {α : Type} {F : List (α × α) → α → α → Int} {f : α → α → Int} {D : α → Prop}
/-! ### the pairs that stand the wrong way -/
def tpc (f : α → α → Int) (p : List α) : List α → Nat
  | [] => 0
  | e :: r => (p.filter fun x => decide (f x e > 0)).length + tpc f (p ++ [e]) r
theorem filt_two (l : List α) (p q : α → Bool) (h : ∀ x ∈ l, p x = !q x) : (l.filter p).length + (l.filter q).length = l.length := by
  induction l with
  | nil => rfl
  | cons a l ih =>
    have i := ih fun x hx => h x (List.mem_cons_of_mem _ hx)
    have ha := h a List.mem_cons_self
    rw [List.filter_cons, List.filter_cons, ha]
    cases q a <;> simp <;> omega
def tpu (f : α → α → Int) (d : α) (row : List α) : Nat → Nat
  | 0 => 0
  | k + 1 => tpu f d row k + ((List.range k).filter fun j => decide (f ((row[j]?).getD d) ((row[k]?).getD d) > 0)).length
theorem range_take {d : α} {row : List α} : ∀ {k : Nat}, k ≤ row.length → row.take k = (List.range k).map fun j => (row[j]?).getD d
  | 0, _ => rfl
  | k + 1, h => by
    rw [List.range_succ, List.map_append, ← range_take (d := d) (k := k) (by omega), List.take_add_one]
    rw [List.getElem?_eq_getElem (by omega : k < row.length)]
    simp [List.getElem?_eq_getElem (by omega : k < row.length)]
theorem mdOf_map {β : Type} {f : β → β → Int} {c : α → β} {d : α} {row : List α} {md : List Nat} {e : α} : mdOf f (c d) (row.map c) md (c e) = mdOf (fun x y => f (c x) (c y)) d row md e := by
  unfold mdOf
  congr 3
  refine List.filter_congr fun j _ => ?_
  rw [List.getElem?_map]
  cases row[j]? <;> rfl
end
end YM

namespace YM
section
variable {α : Type}
/-! ### heaps by any function -/
def gtD (d : α) (t : List α) (k : Nat) : α := (t[k]?).getD d
/-- two places change -/
def swp (d : α) (t : List α) (i j : Nat) : List α := (t.set i (gtD d t j)).set j (gtD d t i)
theorem swp_len {d : α} {t : List α} {i j : Nat} : (swp d t i j).length = t.length := by unfold swp; rw [List.length_set, List.length_set]
theorem gtD_set {d : α} {t : List α} {i k : Nat} {x : α} (h : i < t.length) : gtD d (t.set i x) k = if k = i then x else gtD d t k := by
  unfold gtD
  rw [List.getElem?_set]
  by_cases hk : i = k
  · rw [if_pos hk, if_pos h, if_pos hk.symm]; rfl
  · rw [if_neg hk, if_neg (Ne.symm hk)]
theorem swap_perm : ∀ {t : List α} {i j : Nat} (hi : i < t.length) (hj : j < t.length), ((t.set i t[j]).set j t[i]).Perm t := fun {t i j} hi hj => List.set_set_perm hi hj
theorem swp_perm {d : α} {t : List α} {i j : Nat} (hi : i < t.length) (hj : j < t.length) : (swp d t i j).Perm t := by
  have e1 : gtD d t j = t[j] := by unfold gtD; rw [List.getElem?_eq_getElem hj]; rfl
  have e2 : gtD d t i = t[i] := by unfold gtD; rw [List.getElem?_eq_getElem hi]; rfl
  unfold swp
  rw [e1, e2]
  exact swap_perm hi hj
section
variable (F : List (α × α) → α → α → Int) (d : α)
/-- a new one rises from the place k -/
def psh (new : α) : Nat → List (α × α) → List α → Nat → List α × List (α × α)
  | 0, L, t, k => (t.set k new, L)
  | n + 1, L, t, k =>
    if k = 0 then (t.set k new, L)
    else if F L new (gtD d t ((k - 1) / 2)) < 0 then psh new n (L ++ [(new, gtD d t ((k - 1) / 2))]) (t.set k (gtD d t ((k - 1) / 2))) ((k - 1) / 2)
    else (t.set k new, L ++ [(new, gtD d t ((k - 1) / 2))])
/-- the child that stands ahead -/
def chd (L : List (α × α)) (t : List α) (k : Nat) : Nat × List (α × α) :=
  if 2 * k + 2 < t.length then (if F L (gtD d t (2 * k + 2)) (gtD d t (2 * k + 1)) < 0 then 2 * k + 2 else 2 * k + 1, L ++ [(gtD d t (2 * k + 2), gtD d t (2 * k + 1))]) else (2 * k + 1, L)
def snk : Nat → List (α × α) → List α → Nat → List α × List (α × α)
  | 0, L, t, _ => (t, L)
  | n + 1, L, t, k =>
    if (chd F d L t k).1 < t.length then
      if F (chd F d L t k).2 (gtD d t (chd F d L t k).1) (gtD d t k) < 0 then snk n ((chd F d L t k).2 ++ [(gtD d t (chd F d L t k).1, gtD d t k)]) (swp d t k (chd F d L t k).1) (chd F d L t k).1
      else (t, (chd F d L t k).2 ++ [(gtD d t (chd F d L t k).1, gtD d t k)])
    else (t, (chd F d L t k).2)
/-- from the place m - 1 down to the first -/
def hpd : Nat → List (α × α) → List α → List α × List (α × α)
  | 0, L, t => (t, L)
  | m + 1, L, t => hpd m (snk F d (t.length + 1) L t m).2 (snk F d (t.length + 1) L t m).1
/-- from the place k on: whether none stands ahead of its parent -/
def ish (t : List α) : Nat → Nat → List (α × α) → Bool × List (α × α)
  | 0, _, L => (true, L)
  | n + 1, k, L => if F L (gtD d t k) (gtD d t ((k - 1) / 2)) < 0 then (false, L ++ [(gtD d t k, gtD d t ((k - 1) / 2))]) else ish t n (k + 1) (L ++ [(gtD d t k, gtD d t ((k - 1) / 2))])
end
variable {F : List (α × α) → α → α → Int} {d : α}
theorem chd_ge {L : List (α × α)} {t : List α} {k : Nat} : 2 * k + 1 ≤ (chd F d L t k).1 ∧ (chd F d L t k).1 ≤ 2 * k + 2 := by
  unfold chd
  split
  · dsimp only; split <;> omega
  · dsimp only; omega
theorem chd_any {L : List (α × α)} {t : List α} {k : Nat} : ∃ M, (chd F d L t k).2 = L ++ M ∧ M.length ≤ (if 2 * k + 1 < t.length then 1 else 0) := by
  unfold chd
  split
  · rename_i h
    exact ⟨_, rfl, by rw [if_pos (by omega)]; exact Nat.le_refl _⟩
  · exact ⟨[], by simp, Nat.zero_le _⟩
/-- how far down it goes -/
def hgt (m k : Nat) : Nat := if h : k + 1 ≤ m / 2 then 1 + hgt (m / 2) k else 0
termination_by m
decreasing_by omega
theorem hgt_eq (m k : Nat) : hgt m k = if k + 1 ≤ m / 2 then 1 + hgt (m / 2) k else 0 := by
  rw [hgt]; split <;> rfl
theorem hgt_left : ∀ (m k : Nat), hgt m (2 * k + 1) = hgt (m / 2) k := by
  intro m
  induction m using Nat.strongRecOn with
  | _ m ih =>
    intro k
    rw [hgt_eq m (2 * k + 1), hgt_eq (m / 2) k]
    by_cases h : k + 1 ≤ m / 2 / 2
    · rw [if_pos h, if_pos (by omega), ih (m / 2) (by omega)]
    · rw [if_neg h, if_neg (by omega)]
theorem hgt_anti : ∀ (m k : Nat), hgt m (k + 1) ≤ hgt m k := by
  intro m
  induction m using Nat.strongRecOn with
  | _ m ih =>
    intro k
    rw [hgt_eq m (k + 1), hgt_eq m k]
    by_cases h : k + 1 + 1 ≤ m / 2
    · rw [if_pos h, if_pos (by omega)]
      have := ih (m / 2) (by omega) k
      omega
    · rw [if_neg h]; exact Nat.zero_le _
theorem hgt_step {m k c : Nat} (h : 2 * k + 1 < m) (h1 : 2 * k + 1 ≤ c) (h2 : c ≤ 2 * k + 2) : hgt m c + 1 ≤ hgt m k := by
  have e : hgt m k = 1 + hgt m (2 * k + 1) := by rw [hgt_eq m k, if_pos (by omega), hgt_left]
  rcases Nat.lt_or_ge (2 * k + 1) c with z | z
  · have := hgt_anti m (2 * k + 1)
    rw [show c = 2 * k + 1 + 1 by omega]; omega
  · rw [show c = 2 * k + 1 by omega]; omega
def hsum (m : Nat) : Nat → Nat
  | 0 => 0
  | j + 1 => hgt m j + hsum m j
/-- the others, the last one in front -/
def pot (t : List α) : List α := (t.drop (t.length - 1) ++ t.drop 1).dropLast
theorem snk_any : ∀ (n : Nat) (L : List (α × α)) (t : List α) (k : Nat),
    (snk F d n L t k).1.Perm t ∧ ∃ M, (snk F d n L t k).2 = L ++ M ∧ M.length ≤ 2 * hgt t.length k
  | 0, L, t, k => ⟨List.Perm.refl _, [], by simp [snk], Nat.zero_le _⟩
  | n + 1, L, t, k => by
    rw [snk]
    have g := chd_ge (F := F) (d := d) (L := L) (t := t) (k := k)
    obtain ⟨M1, m1, m2⟩ := chd_any (F := F) (d := d) (L := L) (t := t) (k := k)
    generalize chd F d L t k = c at g m1
    split
    · rename_i hc
      rw [if_pos (by omega)] at m2
      have hs := hgt_step (m := t.length) (k := k) (c := c.1) (by omega) g.1 g.2
      split
      · obtain ⟨i1, M2, i2, i3⟩ := snk_any n (c.2 ++ [(gtD d t c.1, gtD d t k)]) (swp d t k c.1) c.1
        rw [swp_len] at i3
        refine ⟨i1.trans (swp_perm (by omega) hc), M1 ++ [(gtD d t c.1, gtD d t k)] ++ M2, by rw [i2, m1]; simp, by rw [List.length_append, List.length_append, List.length_singleton]; omega⟩
      · exact ⟨List.Perm.refl _, M1 ++ [(gtD d t c.1, gtD d t k)], by rw [m1]; simp, by rw [List.length_append, List.length_singleton]; omega⟩
    · rename_i hc
      refine ⟨List.Perm.refl _, M1, m1, ?_⟩
      split at m2
      · rename_i h
        have hs := hgt_step (m := t.length) (k := k) (c := 2 * k + 1) h (Nat.le_refl _) (by omega)
        omega
      · omega
end
end YM

namespace YM
section
variable {α β : Type}
theorem bis_map {F : List (β × β) → β → β → Int} {t : Int → Bool} {c1 : α → β} {c : α × α → β × β} {F' : List (α × α) → α → α → Int} {L0 : List (β × β)} {xs : List α} {key : α} {key' : β} (hc : ∀ x, c (x, key) = (c1 x, key')) (hF : ∀ L x, x ∈ xs → F' L x key = F (L0 ++ L.map c) (c1 x) key') :
    ∀ (n : Nat) (L : List (α × α)) (lo hi : Nat), hi - lo ≤ n → hi ≤ xs.length → (bis F' t xs key L lo hi).1 = (bis F t (xs.map c1) key' (L0 ++ L.map c) lo hi).1 ∧ L0 ++ (bis F' t xs key L lo hi).2.map c = (bis F t (xs.map c1) key' (L0 ++ L.map c) lo hi).2
  | 0, L, lo, hi, h, _ => by rw [bis_stop (by omega), bis_stop (by omega)]; exact ⟨rfl, rfl⟩
  | n + 1, L, lo, hi, h, h2 => by
    by_cases hlt : lo < hi
    · have hm : (lo + hi) / 2 < xs.length := by omega
      have e : xs[(lo + hi) / 2]? = some xs[(lo + hi) / 2] := by simp [hm]
      have e' : (xs.map c1)[(lo + hi) / 2]? = some (c1 xs[(lo + hi) / 2]) := by rw [List.getElem?_map, e]; rfl
      rw [bis_step hlt e, bis_step hlt e', hF L _ (List.getElem_mem _)]
      have el : L0 ++ (L ++ [(xs[(lo + hi) / 2], key)]).map c = L0 ++ L.map c ++ [(c1 xs[(lo + hi) / 2], key')] := by rw [List.map_append, List.append_assoc, List.map_singleton, hc]
      have i1 := bis_map (t := t) hc hF n (L ++ [(xs[(lo + hi) / 2], key)]) ((lo + hi) / 2 + 1) hi (by omega) h2
      have i2 := bis_map (t := t) hc hF n (L ++ [(xs[(lo + hi) / 2], key)]) lo ((lo + hi) / 2) (by omega) (by omega)
      rw [el] at i1 i2
      split
      · exact i1
      · exact i2
    · rw [bis_stop hlt, bis_stop hlt]; exact ⟨rfl, rfl⟩
/-! ### maps: where a key lies, and whether it is like the one there -/
def rkM (F : List (α × α) → α → α → Int) (L : List (α × α)) (ks : List α) (key : α) : Nat × List (α × α) := bis F (fun i => decide (i < 0)) ks key L 0 ks.length
def fnd (F : List (α × α) → α → α → Int) (L : List (α × α)) (ks : List α) (key : α) : Bool × List (α × α) :=
  match ks[(rkM F L ks key).1]? with
  | some k => (decide (F (rkM F L ks key).2 k key = 0), (rkM F L ks key).2 ++ [(k, key)])
  | none => (false, (rkM F L ks key).2)
theorem rkM_le {F : List (α × α) → α → α → Int} {L : List (α × α)} {ks : List α} {key : α} : (rkM F L ks key).1 ≤ ks.length := by
  obtain ⟨_, h, _⟩ := bis_all (F := F) (t := fun i => decide (i < 0)) (xs := ks) (key := key) (clog (ks.length + 1)) L 0 ks.length (Nat.zero_le _) (Nat.le_refl _) (clog_pow _)
  exact h
theorem rkM_log {F : List (α × α) → α → α → Int} {L : List (α × α)} {ks : List α} {key : α} : ∃ M, (rkM F L ks key).2 = L ++ M ∧ M.length ≤ clog (ks.length + 1) ∧ ∀ p ∈ M, p.1 ∈ ks ∧ p.2 = key := by
  obtain ⟨_, _, M, h1, h2, h3⟩ := bis_all (F := F) (t := fun i => decide (i < 0)) (xs := ks) (key := key) (clog (ks.length + 1)) L 0 ks.length (Nat.zero_le _) (Nat.le_refl _) (clog_pow _)
  exact ⟨M, h1, h2, h3⟩
theorem fnd_log {F : List (α × α) → α → α → Int} {L : List (α × α)} {ks : List α} {key : α} : ∃ M, (fnd F L ks key).2 = L ++ M ∧ M.length ≤ clog (ks.length + 1) + 1 ∧ ∀ p ∈ M, p.1 ∈ ks ∧ p.2 = key := by
  obtain ⟨M, h1, h2, h3⟩ := rkM_log (F := F) (L := L) (ks := ks) (key := key)
  unfold fnd
  cases e : ks[(rkM F L ks key).1]? with
  | none => exact ⟨M, h1, by omega, h3⟩
  | some k =>
    refine ⟨M ++ [(k, key)], by show (rkM F L ks key).2 ++ [(k, key)] = _; rw [h1, List.append_assoc], by rw [List.length_append, List.length_singleton]; omega, fun p hp => ?_⟩
    rcases List.mem_append.mp hp with z | z
    · exact h3 p z
    · rw [List.mem_singleton.mp z]; exact ⟨List.mem_of_getElem? e, rfl⟩
theorem fnd_lt {F : List (α × α) → α → α → Int} {L : List (α × α)} {ks : List α} {key : α} (h : (fnd F L ks key).1 = true) : (rkM F L ks key).1 < ks.length := by
  unfold fnd at h
  cases e : ks[(rkM F L ks key).1]? with
  | none => rw [e] at h; simp at h
  | some k => exact (List.getElem?_eq_some_iff.mp e).1
/-- put, drop: what is kept -/
def ptM (pl : Nat) (found : Bool) (ens : List (α × α)) (key held : α) (dk : α) : List (α × α) := if found = true then ens.set pl (((ens[pl]?).map (·.1)).getD dk, held) else ens.take pl ++ (key, held) :: ens.drop pl
def dpM (pl : Nat) (found : Bool) (ens : List (α × α)) : List (α × α) := if found = true then ens.eraseIdx pl else ens
end
end YM

namespace YM
section
variable {α : Type} {f : α → α → Int} {D : α → Prop}
/-- strictly in order -/
def Sst (f : α → α → Int) (l : List α) : Prop := l.Pairwise fun x y => f x y < 0
def rkS (f : α → α → Int) (l : List α) (e : α) : Nat := (l.filter fun x => decide (f x e < 0)).length
theorem rkS_le {l : List α} {e : α} : rkS f l e ≤ l.length := List.length_filter_le _ _
theorem rkS_front (O : Ord f D) {l : List α} {e : α} (d : ∀ x ∈ l, D x) (he : D e) (s : Sst f l) : ∀ i x, l[i]? = some x → (decide (f x e < 0) = true ↔ i < rkS f l e) := by
  refine front_count (List.Pairwise.imp_of_mem (fun {x y} hx hy h hp => decide_eq_true ?_) s)
  have hp := of_decide_eq_true hp
  have h1 := O.trans x y e (d x hx) (d y hy) he (by omega) (by omega)
  have h2 := O.zero (d x hx) he
  have h3 := O.anti e y he (d y hy)
  have h4 := O.trans e x y he (d x hx) (d y hy)
  omega
theorem rkM_rkS {β : Type} {F : List (β × β) → β → β → Int} {c : β → α} {L : List (β × β)} {ks : List β} {key : β} {e : α} (O : Ord f D) (hF : ∀ L x, x ∈ ks → F L x key = f (c x) e) (d : ∀ x ∈ ks, D (c x)) (he : D e) (s : Sst f (ks.map c)) :
    (rkM F L ks key).1 = rkS f (ks.map c) e := by
  have hfr := rkS_front O (l := ks.map c) (e := e) (fun x hx => by
    obtain ⟨y, hy, rfl⟩ := List.mem_map.mp hx
    exact d y hy) he s
  have hle := rkS_le (f := f) (l := ks.map c) (e := e)
  rw [List.length_map] at hle
  exact bis_count (F := F) (t := fun i => decide (i < 0)) (xs := ks) (key := key) (p := fun x => decide (f (c x) e < 0)) (fun L x hx => by rw [hF L x hx]) (rkS f (ks.map c) e) hle
    (fun i x hi => hfr i (c x) (by rw [List.getElem?_map, hi]; rfl)) _ L 0 ks.length rfl (Nat.zero_le _) hle (Nat.le_refl _)
theorem like_unique (O : Ord f D) {l : List α} {e : α} (d : ∀ x ∈ l, D x) (he : D e) (s : Sst f l) {i : Nat} {x : α} (hi : l[i]? = some x) (h0 : f x e = 0) : i = rkS f l e := by
  have hfr := rkS_front O d he s
  have h1 := hfr i x hi
  rw [decide_eq_true_eq] at h1
  have hge : rkS f l e ≤ i := by omega
  apply Nat.le_antisymm _ hge
  apply Nat.le_of_not_lt
  intro hlt
  have hi' := (List.getElem?_eq_some_iff.mp hi).1
  have hr : l[rkS f l e]? = some (l[rkS f l e]'(by omega)) := List.getElem?_eq_getElem _
  have h2 := hfr _ _ hr
  rw [decide_eq_true_eq] at h2
  have hxy := (List.pairwise_iff_getElem.mp s) (rkS f l e) i (by omega) hi' hlt
  rw [(List.getElem?_eq_some_iff.mp hi).2] at hxy
  have dx := d x (List.mem_of_getElem? hi)
  have dy := d _ (List.mem_of_getElem? hr)
  have h3 := O.trans _ _ _ dy dx he (by omega) (by omega)
  have h4 := O.zero dy he
  have h5 := O.trans _ _ _ dx he dy (by omega)
  have h6 := O.anti x _ dx dy
  omega
/-- a key that is like none goes in at its rank -/
theorem Sst.insert (O : Ord f D) {l : List α} {e : α} (d : ∀ x ∈ l, D x) (he : D e) (s : Sst f l) (hn : ∀ x, l[rkS f l e]? = some x → f x e ≠ 0) : Sst f (l.take (rkS f l e) ++ e :: l.drop (rkS f l e)) := by
  have hfr := rkS_front O d he s
  have h0 : (l.take (rkS f l e) ++ l.drop (rkS f l e)).Pairwise fun x y => f x y < 0 := by rw [List.take_append_drop]; exact s
  obtain ⟨p1, p2, p3⟩ := List.pairwise_append.mp h0
  have hd : ∀ y ∈ l.drop (rkS f l e), f e y < 0 := fun y hy => by
    obtain ⟨j, hj⟩ := List.mem_iff_getElem?.mp hy
    rw [List.getElem?_drop] at hj
    have h1 := hfr _ _ hj
    rw [decide_eq_true_eq] at h1
    have h2 : f y e ≠ 0 := fun z => by
      have := like_unique O d he s hj z
      exact hn y (by rw [this] at hj; exact hj) z
    have h3 := O.anti y e (d y (List.mem_of_getElem? hj)) he
    omega
  have ht : ∀ x ∈ l.take (rkS f l e), f x e < 0 := fun x hx => by
    obtain ⟨j, hj⟩ := List.mem_iff_getElem?.mp hx
    rw [List.getElem?_take] at hj
    split at hj
    · rename_i hlt
      have h1 := hfr _ _ hj
      rw [decide_eq_true_eq] at h1
      omega
    · cases hj
  refine List.pairwise_append.mpr ⟨p1, List.pairwise_cons.mpr ⟨hd, p2⟩, fun x hx y hy => ?_⟩
  rcases List.mem_cons.mp hy with rfl | hy
  · exact ht x hx
  · exact p3 x hx y hy
end
end YM
namespace YM
section
variable {α : Type} {f : α → α → Int} {D : α → Prop}
/-- the place of the last that is like e among the first i; else -1 -/
def fdN (f : α → α → Int) (l : List α) (e : α) : Nat → Int
  | 0 => -1
  | i + 1 => match l[i]? with
    | some x => if f x e = 0 then (i : Int) else fdN f l e i
    | none => fdN f l e i
/-- whether one is like e, where e would lie -/
def lkS (f : α → α → Int) (l : List α) (e : α) : Bool := match l[rkS f l e]? with
  | some x => decide (f x e = 0)
  | none => false
theorem fdN_eq (O : Ord f D) {l : List α} {e : α} (d : ∀ x ∈ l, D x) (he : D e) (s : Sst f l) : ∀ i, i ≤ l.length → fdN f l e i = if lkS f l e = true ∧ rkS f l e < i then (rkS f l e : Int) else -1
  | 0, _ => by rw [if_neg (by omega)]; rfl
  | i + 1, hi => by
    have hx : l[i]? = some (l[i]'(by omega)) := List.getElem?_eq_getElem _
    unfold fdN
    rw [hx]
    show (if f (l[i]'(by omega)) e = 0 then (i : Int) else fdN f l e i) = _
    by_cases h0 : f (l[i]'(by omega)) e = 0
    · have hr := like_unique O d he s hx h0
      rw [if_pos h0, if_pos, hr]
      refine ⟨?_, by omega⟩
      unfold lkS
      rw [← hr, hx]
      exact decide_eq_true h0
    · rw [if_neg h0, fdN_eq O d he s i (by omega)]
      by_cases hl : lkS f l e = true ∧ rkS f l e < i
      · rw [if_pos hl, if_pos ⟨hl.1, by omega⟩]
      · rw [if_neg hl, if_neg]
        rintro ⟨h1, h2⟩
        have hri : rkS f l e = i := by
          apply Nat.le_antisymm (by omega)
          apply Nat.le_of_not_lt
          intro z
          exact hl ⟨h1, z⟩
        unfold lkS at h1
        rw [hri, hx] at h1
        exact h0 (of_decide_eq_true h1)
theorem lkS_lt {l : List α} {e : α} (h : lkS f l e = true) : rkS f l e < l.length := by
  unfold lkS at h
  cases q : l[rkS f l e]? with
  | none => rw [q] at h; cases h
  | some x => exact (List.getElem?_eq_some_iff.mp q).1
theorem fdN_all (O : Ord f D) {l : List α} {e : α} (d : ∀ x ∈ l, D x) (he : D e) (s : Sst f l) : fdN f l e l.length = if lkS f l e = true then (rkS f l e : Int) else -1 := by
  rw [fdN_eq O d he s _ (Nat.le_refl _)]
  by_cases h : lkS f l e = true
  · rw [if_pos ⟨h, lkS_lt h⟩, if_pos h]
  · rw [if_neg (fun z => h z.1), if_neg h]
theorem rkS_take {l : List α} {e : α} {i : Nat} {x : α} (hx : l[i]? = some x) : ((l.take (i + 1)).filter fun x => decide (f x e < 0)).length = ((l.take i).filter fun x => decide (f x e < 0)).length + (if f x e < 0 then 1 else 0) := by
  rw [List.take_add_one, hx, List.filter_append, List.length_append]
  congr 1
  by_cases h : f x e < 0
  · rw [if_pos h]; simp [h]
  · rw [if_neg h]; simp [h]
theorem fnd_lkS {β : Type} {F : List (β × β) → β → β → Int} {c : β → α} {L : List (β × β)} {ks : List β} {key : β} {e : α} (O : Ord f D) (hF : ∀ L x, x ∈ ks → F L x key = f (c x) e) (d : ∀ x ∈ ks, D (c x)) (he : D e) (s : Sst f (ks.map c)) :
    (fnd F L ks key).1 = lkS f (ks.map c) e := by
  have hr := rkM_rkS (L := L) O hF d he s
  unfold fnd lkS
  rw [hr]
  cases q : ks[rkS f (ks.map c) e]? with
  | none => rw [List.getElem?_map, q]; rfl
  | some x =>
    rw [List.getElem?_map, q]
    show decide (F _ x key = 0) = decide (f (c x) e = 0)
    rw [hF _ x (List.mem_of_getElem? q)]
end
end YM

namespace YO
open PySem PySem.Spec PyProof.Rows L2
/-! ### a function that is handed in, as one letter -/
structure OE where
  M : Addr → Prop
  S : Addr → Prop
  Lg : Lg0
  Dom : Hp → V → Prop
  F : List (V × V) → V → V → Int
  cap : Nat
abbrev OE.At (o : OE) (P : Program) (w : World) (K : PySem.W.Frag) (mg : Str → Option Value) (base : Heap) (k : Nat) (f : Addr) : Prop := Ora P w K mg base k f o.M o.S o.Lg o.Dom o.F o.cap
theorem get_lt {α : Type} {l : List α} {i : Nat} (h : i < l.length) : ∃ x, l[i]? = some x := ⟨l[i], by simp [h]⟩
end YO

namespace L2
open PySem PySem.Spec PyProof.Rows
/-- one statement, then the rest, by what holds between them -/
theorem seq_via {t u : TS} {D : Ends} {σ : St} {H : Hp} (I : St → Hp → Prop) (h1 : ∀ N : St → Hp → Prop, (∀ σ H, I σ H → N σ H) → t { D with nx := N } σ H) (h2 : ∀ σ H, I σ H → u D σ H) : tSeq t u D σ H := h1 _ h2
/-- a call with known cells, by what it is worth -/
def tCallG (X : Cx) (sp : Sp) (t : TA) : TE := fun σ H Q => t σ H fun vs H1 => ∃ R : V → Hp → Prop, (∀ Hf, Froz X σ H1 Hf → sp vs Hf (fun v Hf' => R v (hid Hf' (CellOf X.env.cells))) E0) ∧ ∀ v H', R v H' → Q v H'
section
variable {X : Cx} {k : Nat} {f : Addr} {fd : FuncData} {ps : List Str} {sp : Sp} {x : Str} {p pos : Pos} {e : Expr} {es : List Expr} {t : TA}
theorem pe_callG (F : FnOk X.prog X.w X.K X.mg X.base CX0 k f fd ps sp) (hr : Room k X.A) (hg : Gl X x) (hm : X.mg x = some (.ref f)) (hk : PySem.W.keepIn X.K (.ref f) = true) (hb : Binds X.K fd ps []) (ha : PA X (e :: es) t)
    (hfn : ∀ x, X.fn x = true := by intro _; rfl) (hdb : (x == ("__debug__" : Str)) = false := by decide) (he : starEach (e :: es) X.env = (false, eval e X.env) :: starEach es X.env := by rfl) (hpl : (backTo pos (starEach es X.env)).any (·.1) = false := by rfl) :
    PE X (.Call (.Name x p) (e :: es) [] pos) (tCallG X sp t) := by
  intro pins s σ H Q I h
  refine wpAny_Call_Name_kw (ld_glob I hg hm ?_ hdb)
  refine PySem.W.callWith_K (h₀ := X.base) I.ok.mod.kin hk (thn (ha pos pins s σ H _ I h) fun us s1 ⟨vs, H1, I1, r, q⟩ => ⟨I1.kIn, ?_⟩) he hpl
  obtain ⟨R, q1, q2⟩ := q
  exact thn (run_fnF F hr hb hfn I1 r q1) fun u s2 ⟨v, H', I2, r2, z⟩ => ⟨v, H', I2, r2, q2 v H' z⟩
end
end L2
namespace YO
open PySem PySem.Spec PyProof.Rows L2
theorem use_call {X : Cx} {σ : L2.St} {H1 : Hp} {sp : Sp} {vs : List V} {Q : VK} {facts : V → Hp → Prop} (h : ∃ R : V → Hp → Prop, (∀ Hf, Froz X σ H1 Hf → sp vs Hf (fun v Hf' => R v (hid Hf' (CellOf X.env.cells))) E0) ∧ ∀ v H', R v H' → facts v H') (k : ∀ v H', facts v H' → Q v H') :
    ∃ R : V → Hp → Prop, (∀ Hf, Froz X σ H1 Hf → sp vs Hf (fun v Hf' => R v (hid Hf' (CellOf X.env.cells))) E0) ∧ ∀ v H', R v H' → Q v H' := by
  obtain ⟨R, h1, h2⟩ := h
  exact ⟨R, h1, fun v H' r => k v H' (h2 v H' r)⟩
theorem El.of_ct {H : Hp} {x : V} {e : Int × Int} (h : El H x e) : El H x (YO.ct H x) := by rw [h.ct]; exact h
theorem Els.mem' {H : Hp} {xs : List V} {es : List (Int × Int)} (h : Els H xs es) : ∀ x ∈ xs, ∃ e ∈ es, El H x e := fun x hx => Paired.meml h hx
/-- the pictures of a log -/
abbrev dP (c : V → Int × Int) (p : V × V) : Dd := .tup [dE (c p.1), dE (c p.2)]
/-! ### behind a call with known cells -/
theorem _root_.L2.Froz.lstB {X : Cx} {σ : L2.St} {M : Addr → Prop} {H Hf Hf' : Hp} (Z : Froz X σ H Hf) (a : Evo M Hf Hf') {b : Addr} {xs : List V} (e : Hf' b = some (.lst xs)) : L2.hid Hf' (CellOf X.env.cells) b = some (.lst xs) := Z.out a e fun _ _ z => by cases z
theorem _root_.L2.Froz.tupB {X : Cx} {σ : L2.St} {M : Addr → Prop} {H Hf Hf' : Hp} (Z : Froz X σ H Hf) (a : Evo M Hf Hf') {b : Addr} {xs : List V} (e : Hf' b = some (.tup xs)) : L2.hid Hf' (CellOf X.env.cells) b = some (.tup xs) := Z.out a e fun _ _ z => by cases z
theorem LogAt.back {X : Cx} {σ : L2.St} {M : Addr → Prop} {H Hf Hf' : Hp} {la : Addr} {L : List (V × V)} (Z : Froz X σ H Hf) (a : Evo M Hf Hf') (h : LogAt la L Hf') : LogAt la L (L2.hid Hf' (CellOf X.env.cells)) := by
  obtain ⟨ts, h1, h2⟩ := h
  exact ⟨ts, Z.lstB a h1, Paired.mapP h2 fun t p ⟨q, e1, e2⟩ => ⟨q, e1, Z.tupB a e2⟩⟩
theorem El.back {X : Cx} {σ : L2.St} {M : Addr → Prop} {H Hf Hf' : Hp} {x : V} {e : Int × Int} (Z : Froz X σ H Hf) (a : Evo M Hf Hf') (h : El Hf' x e) : El (L2.hid Hf' (CellOf X.env.cells)) x e := by
  obtain ⟨p, h1, h2⟩ := h
  exact ⟨p, h1, Z.tupB a h2⟩
theorem tab_back {X : Cx} {σ : L2.St} {M : Addr → Prop} {H Hf Hf' : Hp} {tb : Addr} {q : Str} (Z : Froz X σ H Hf) (ev : Evo M Hf Hf') (hT' : TabOk Hf' tb q) : TabOk (L2.hid Hf' (CellOf X.env.cells)) tb q := by
  obtain ⟨ps, h1, h2, h3⟩ := hT'
  refine ⟨ps, Z.out ev h1 (fun ob u y => by cases y), h2, fun pos cv e => ?_⟩
  obtain ⟨c, oc, g1, g2, g3⟩ := h3 pos cv e
  refine ⟨c, oc, g1, ?_, g3⟩
  rw [hid_out ?_]
  · exact g2
  · intro z
    obtain ⟨_, ob, v, y1, y2⟩ := Z.cell c z
    rw [ev.fz y1] at g2
    have : ob = oc := by injection g2 with g2; injection g2
    subst this
    obtain ⟨vs, tk, d1, _⟩ := g3
    rw [y2] at d1; cases d1
end YO

namespace L2
open PySem PySem.Spec PyProof.Rows
/-! ### range(a, b, c) -/
def Its (lo c : Int) (n : Nat) : It := ⟨fun i _ => i < n, fun i H x H' => H' = H ∧ x = .int (lo + (i : Nat) * c), fun i _ => n ≤ i⟩
section
variable {X : Cx} {tg : Expr}
def iRng3 (ta : TA) : TI := fun σ H R => ta σ H fun vs H1 => ∃ (i j c : Int) (n : Nat), vs = [.int i, .int j, .int c] ∧ c ≠ 0 ∧ c.natAbs < 2 ^ 20 ∧ Builtin.Range.small i j c = true ∧ Builtin.Range.rangeSize i j c = (n : Int) ∧ R (Its i c n) H1
end
/-! ### isinstance(x, c), c a type -/
theorem call_isinst {X : Cx} : CallR X (.builtin "isinstance") (fun xs H Q => ∃ x T, xs = [x, .ty T] ∧ TyOf X.K H x (.type T) ∧ Q (.bl true) H) := by
  intro pins s σ H xs us Q I r h
  obtain ⟨x, T, rfl, ty, q⟩ := h
  cases r with
  | cons r rr =>
    cases rr with
    | cons r' rr =>
      cases rr
      cases (show _ = Value.type T from r')
      refine isinst_ok (b := true) I r ty ?_ fun tk => ⟨.bl true, H, I.tok tk, rfl, q⟩
      unfold PySem.W.kitOne
      rw [if_pos (beq_self_eq_true _)]
end L2

namespace L2
open PySem PySem.Spec PyProof.Rows
theorem iteDF {c A B : Prop} [Decidable c] (h : ¬ c) (b : B) : if decide c = true then A else B := by rw [decide_eq_false h]; exact iteF b
/-! ### list.remove, list.count, by deep equality; list.insert -/
section
open AutoSeq1 (wpAny_loadPart')
open MeetsSeq SeqAt
end
section
variable {X : Cx}
/-- l.remove(x): the first one that is equal -/
def rRemD (K : PySem.W.Frag) : V → List V → Hp → VK → Prop := fun x vs H Q => ∃ l xs y d ds j, x = .ref l ∧ vs = [y] ∧ H l = some (.lst xs) ∧ Dp K H d y ∧ DpL K H ds xs ∧ depDL ds ≤ 100 ∧ ds[j]? = some d ∧ (∀ i, i < j → ds[i]? ≠ some d) ∧ Q .non (upd H l (.lst (xs.eraseIdx j)))
open Classical in
def rCountD (K : PySem.W.Frag) : V → List V → Hp → VK → Prop := fun x vs H Q => ∃ l xs y d ds, x = .ref l ∧ vs = [y] ∧ H l = some (.lst xs) ∧ Dp K H d y ∧ DpL K H ds xs ∧ depDL ds ≤ 100 ∧ Q (.int ((ds.countP fun e => eqD e d) : Nat)) H
open Classical in
open Classical in
def rInsert : V → List V → Hp → VK → Prop := fun x vs H Q => ∃ (l : Addr) (xs : List V) (i : Nat) (y : V), x = .ref l ∧ vs = [.int i, y] ∧ H l = some (.lst xs) ∧ i ≤ xs.length ∧ xs.length < sizeLine ∧ Q .non (upd H l (.lst (xs.take i ++ y :: xs.drop i)))
theorem call_insert {M : World} {prog : Program} {A : Around} {E : Value → Shared → Prop} {s : Shared} {l : Addr} {items : Array Value} {n : Nat} {x : Int} {t : Tok} {y : Value} {Q : Value → Shared → Prop} (hc0 : ¬(!Builtin.List.listFitsIndex x) = true) (hsz : items.size ≤ sizeLine) (e : s.heap.get? l = some { cls := .type "list", dict := none, data := .seq items n, slots := #[] })
    (f : Array Value → Array Value) (hf : f = fun xs => (xs.extract 0 (if x < 0 then (x + ((xs.size : Nat) : Int)).toNat else min x.toNat xs.size)).push y ++ xs.extract (if x < 0 then (x + ((xs.size : Nat) : Int)).toNat else min x.toNat xs.size))
    (h : Q .none { s with heap := s.heap.update l (Obj.mapSeq f) }) : wpAny (model prog M) A (call (.builtin "list.insert") [.ref l, .int x t, y]) Q E s := by
  subst hf
  exact call_meets F.slot_list_insert ⟨_, e, rfl⟩ F.entry_list_insert (F.args_list_insert_3 _ _ _) (AutoSeq1.list_insert_list_int_val_1 l items n x t y hc0 hsz) ⟨e, h⟩
theorem mt_insert : MtM X "list.insert" rInsert := by
  intro pins s σ H x vs v us Q I rx rv h
  obtain ⟨l, xs, i, y, rfl, rfl, hH, hi, hz, q⟩ := h
  cases rx
  obtain ⟨u1, us1, e1, r1, rr⟩ : ∃ u1 us1, us = u1 :: us1 ∧ RelV (.int (i : Int)) u1 ∧ Vals [y] us1 := by cases rv with | cons r rr => exact ⟨_, _, rfl, r, rr⟩
  obtain ⟨u2, rfl, r2⟩ := rr.one
  subst e1
  obtain ⟨t, rfl⟩ := r1
  obtain ⟨z, its, n, r, hl, e⟩ := I.lstM hH
  have sl : sizeLine < 2 ^ 62 := by rw [sizeLine_eq]; decide
  generalize hix : (i : Int) = ii
  have hc0 : ¬(!Builtin.List.listFitsIndex ii) = true := by
    have h1 : Builtin.List.listFitsIndex ii = true := by
      unfold Builtin.List.listFitsIndex
      simp only [Bool.and_eq_true, decide_eq_true_eq]
      omega
    rw [h1]; decide
  have hsz : its.toArray.size ≤ sizeLine := by rw [List.size_toArray]; omega
  have hm : (if ii < 0 then (ii + ((its.toArray.size : Nat) : Int)).toNat else min ii.toNat its.toArray.size) = i := by
    rw [if_neg (by omega), List.size_toArray, ← hix, Int.toNat_natCast]
    omega
  refine call_insert hc0 hsz e _ rfl ⟨.non, _, I.lset (its' := its.take i ++ u2 :: its.drop i) hH e ?_ ((Vals.take i r).append (.cons r2 (Vals.drop i r))) ?_, rfl, q⟩
  · show (its.toArray.extract 0 (if ii < 0 then (ii + ((its.toArray.size : Nat) : Int)).toNat else min ii.toNat its.toArray.size)).push u2 ++ its.toArray.extract (if ii < 0 then (ii + ((its.toArray.size : Nat) : Int)).toNat else min ii.toNat its.toArray.size) = _
    rw [hm]
    apply Array.toList_inj.mp
    simp [List.take_of_length_le]
  · rw [List.length_append, List.length_cons, List.length_take, List.length_drop]
    omega
end
end L2

namespace L2
open PySem PySem.Spec PyProof.Rows
/-! ### for (i, x) in enumerate(list) -/
section
variable {X : Cx} {pins : List (Addr × Obj)} {σ : St} {H : Hp} {s : Shared} {h' : Heap}
end
/-- place and item of the list at a -/
def Ite (K : PySem.W.Frag) (a : Addr) : It :=
  ⟨fun i H => ∃ xs x, SqL K H a xs ∧ xs[i]? = some x, fun i H x H' => ∃ p y, x = .ref p ∧ H p = none ∧ H' = upd H p (.tup [.int (i : Nat), y]) ∧ ∀ xs, SqL K H a xs → xs[i]? = some y, fun i H => ∃ xs, SqL K H a xs ∧ xs.length ≤ i⟩
section
variable {X : Cx} {elts : List Expr} {k1 : Nat} {tp : Pos}
def iEnum (K : PySem.W.Frag) (ta : TA) : TI := fun σ H R => ta σ H fun vs H1 => ∃ a, vs = [.ref a] ∧ (∃ xs, SqL K H1 a xs) ∧ R (Ite K a) H1
end
end L2

namespace L2
open PySem PySem.Spec PyProof.Rows
/-! ### max(list of counts, default=0) -/
def mxk (val : Nat → Nat) : Nat → Nat
  | 0 => 0
  | j + 1 => max (mxk val j) (val j)
section
variable {prog : Program} {w : World} {A : Around} {I : Addr} {fp wr : List Addr} {n : Nat} {Pv : Nat → Value → Prop} {St : Nat → Heap → Prop}
/-- what the record of the best one holds behind j items -/
def MxAt (val : Nat → Nat) (S j : Nat) (h : Heap) : Prop := ∃ its c, h.get? S = some { cls := .type "list", dict := none, data := .seq its c, slots := #[] } ∧ ((j = 0 ∧ its = #[]) ∨ (0 < j ∧ ∃ t, its = #[.int (mxk val j : Nat) t, .int (mxk val j : Nat) t]))
end
section
variable {X : Cx} {a d : Expr} {ta : TA} {td : TE} {p kp pos : Pos}
def tMaxd (K : PySem.W.Frag) (ta : TA) (td : TE) : TE := fun σ H Q => ta σ H fun vs H1 => td σ H1 fun y H2 => ∃ (l : Addr) (ns : List Nat), vs = [.ref l] ∧ y = .int 0 ∧ SqL K H2 l (ns.map fun n => V.int (n : Nat)) ∧ Q (.int (YM.mxl ns : Nat)) H2
end
end L2

namespace L2
open PySem PySem.Spec PyProof.Rows
/-! ### a method's call with the cells known -/
def tMethG (X : Cx) (C : Addr) (m : Str) (sp : Sp) (ta : TE) (t : TA) : TE := fun σ H Q => ta σ H fun x H1 => ∃ a dx fs, x = .ref a ∧ H1 a = some (.ins C dx fs) ∧ fs.lookup m = none ∧
  t σ H1 fun vs H2 => ∃ R : V → Hp → Prop, (∀ Hf, Froz X σ H2 Hf → sp (x :: vs) Hf (fun v Hf' => R v (hid Hf' (CellOf X.env.cells))) E0) ∧ ∀ v H', R v H' → Q v H'
section
variable {X : Cx} {k : Nat} {C f : Addr} {fd : FuncData} {ps : List Str} {sp : Sp} {m : Str} {p pos apos : Pos} {o e : Expr} {es : List Expr} {ta : TE} {t : TA}
theorem pe_methG {pl : Sem Bool} (he : PE X o ta) (c : Cls X.K C) (hm : Meth X.K C m f) (F : FnOk X.prog X.w X.K X.mg X.base CX0 k f fd ps sp) (hr : Room k X.A) (hb : Binds X.K fd ps []) (ha : PA X (e :: es) t) (hfn : ∀ x, X.fn x = true := by intro _; rfl)
    (hst : starEach (e :: es) X.env = (false, eval e X.env) :: starEach es X.env := by rfl) (hpl : (backTo pos (starEach es X.env)).any (·.1) = false := by rfl)
    (ht : eval (.Call (.Attribute o m apos) (e :: es) [] pos) X.env = (do
      let ov ← eval o X.env
      standAt apos.atName
      let (f, first) ← holding [ov] (getMethod ov m pl)
      callWith pos f first (backTo pos (starEach (e :: es) X.env)) (backToKw pos (keywordEach [] X.env))) := by rfl) :
    PE X (.Call (.Attribute o m apos) (e :: es) [] pos) (tMethG X C m sp ta t) := by
  intro pins s σ H Q I h
  refine PySem.W.methodCall_KW (pl := pl) (thn (he pins s σ H _ I h) fun u s1 ⟨x, H1, I1, rx, a, dx, fs, ex, ea, l, q⟩ => ?_) ht
  subst ex
  obtain rfl : u = Value.ref a := rx
  refine getmeth_ok I1 ea c hm l ?_
  refine PySem.W.callWith_K (first := [.ref a]) (h₀ := X.base) I.ok.mod.kin hm.kp (thn (ha pos pins s1 σ H1 _ I1 q) fun us s2 ⟨vs, H2, I2, r, q2⟩ => ⟨I2.kIn, ?_⟩) hst hpl
  obtain ⟨R, q1, q3⟩ := q2
  exact thn (run_fnF (us := .ref a :: us) (vs := .ref a :: vs) F hr hb hfn I2 (.cons rfl r) q1) fun u s3 ⟨v, H', I3, r3, z⟩ => ⟨v, H', I3, r3, q3 v H' z⟩
end
end L2

namespace L2
open PySem PySem.Spec PyProof.Rows
/-! ### exceptions of the text's own classes -/
/-- behind a call that raised: the exception flies over all but the frames -/
def CXE (P : Program) (w : World) : CXT := fun outer H s E e s' => ∃ (x C t : Addr) (B : Heap) (H' : Hp), e = .ref x ∧ s'.os = s.os ∧ AllBare s'.gens ∧ Heap.FlyingW B outer x (.ref C) (.ref t) s'.heap ∧
  (∀ h4 : Heap, B.StaysIn h4 → s'.heap.UpToSlots h4 → Un (frs outer) [] H H' s.heap h4 ∧ HOk P w H' h4) ∧ E e (some C) H'
/-- an exception that is made here goes where E says -/
def RaisesTo (X : Cx) (E : XK) : Prop := ∀ (pins : List (Addr × Obj)) (σ : St) (H : Hp) (s1 : Shared) (h' : Heap) (x C : Addr) (vs : List Value), Inv X pins σ H s1 → Heap.MadeExcOf s1.heap h' x (.ref C) vs → E (.ref x) (some C) H → X.xe (.ref x) { s1 with heap := h' }
theorem raises_cxOf {P : Program} {w : World} {K : PySem.W.Frag} {mg : Str → Option Value} {base : Heap} {N : List Str} {qual : Str} {scope : Scope} {f : Addr} {cd : Value} {A : Around} {outer : List Env} {s : Shared} {H : Hp} {E : XK} :
    RaisesTo (cxOf (CXE P w) P w K mg base N qual scope f cd A outer s H E) E := by
  intro pins σ H1 s1 h' x C vs I hx hE
  show wpAny (model P w) (A.deeper (envOfC qual scope s.heap.objs.size f cd)) (leaving (envOfC qual scope s.heap.objs.size f cd) (.ref x)) (fun _ s'' => CXE P w outer H s E (.ref x) s'') (fun e' s'' => CXE P w outer H s E e' s'') _
  have hl := I.stack
  have hin : ∀ env ∈ (envOfC qual scope s.heap.objs.size f cd :: outer), ∀ b, env.frame = some b → b ∈ frs (envOfC qual scope s.heap.objs.size f cd :: outer) := fun env he b hb => List.mem_filterMap.mpr ⟨env, he, hb⟩
  have sub := I.stkSub
  have hfree := I.stkFree
  generalize hfrs : frs (envOfC qual scope s.heap.objs.size f cd :: outer) = fr at hin
  have hkb : (PySem.W.hideAll s1.heap fr).StaysIn s1.heap := fun b o q => PySem.W.of_hideAll _ q
  have frD : ∀ b ∈ fr, ∃ o, s1.heap.get? b = some o ∧ ∀ vs, o.data ≠ .fields vs := fun b hb => by
    obtain ⟨_, o, h1, h2⟩ := hl.mem (b := b) (by rw [← hfrs] at hb; exact hb)
    exact ⟨o, h1, h2⟩
  refine wpAny_leaves_madeW (base := PySem.W.hideAll s1.heap fr) I.ok.frames rfl hkb (PySem.W.funFrames_hide hl hin) hx fun h2 t x1 _ _ x4 => ?_
  have up : s1.heap.UpToSlots h2 := (Heap.UpToSlots.of_keeps hx.keeps).trans x4
  refine ⟨x, C, t, PySem.W.hideAll s1.heap fr, H1, rfl, I.os, I.bare, x1, fun h4 st sm => ?_, hE⟩
  have up4 := up.trans sm
  have getB : ∀ b o, s1.heap.get? b = some o → b ∉ fr → h4.get? b = some o := fun b o e n => st b o (PySem.W.hideAll_get _ e n)
  have old : ∀ b o, s.heap.get? b = some o → b ∉ frs outer → b ∉ fr := fun b o e n z => by
    rw [← hfrs] at z
    rcases List.mem_cons.mp (sub b z) with y | y
    · have h1 := Heap.lt_size e
      have h2 : s.heap.objs.size ≤ b := by rw [y]; exact I.ok.above
      exact absurd (Nat.lt_of_lt_of_le h1 h2) (Nat.lt_irrefl _)
    · exact n y
  have nx : ∀ b : Addr, b ∉ (cxOf (CXE P w) P w K mg base N qual scope f cd A outer s H E).ex := fun b z => absurd (show b ∈ ([] : List Addr) from z) (by simp)
  refine ⟨⟨fun b o e n hb _ => getB b o (I.base.keep b o e n hb (nx b)) (old b o e hb), fun b o e n hb _ => ?_, fun b o e n _ => I.base.free b o e n (nx b), fun b o e _ => ?_, I.base.tups, I.base.frzs, I.base.tbls⟩, fun a u e => ?_⟩
  · obtain ⟨sl, e1⟩ := I.base.slot b o e n hb (nx b)
    have hm : b ∈ fr := by
      rw [← hfrs]
      unfold frs at hb ⊢
      rw [List.filterMap_cons]
      split
      · exact hb
      · exact List.mem_cons_of_mem _ hb
    obtain ⟨o', h1, h2⟩ := frD b hm
    rw [e1] at h1
    cases h1
    obtain ⟨sl', e2⟩ := up4 b _ e1 h2
    exact ⟨sl', e2⟩
  · obtain ⟨o', e1⟩ := I.base.there b o e (nx b)
    by_cases hm : b ∈ fr
    · obtain ⟨o2, h1, h2⟩ := frD b hm
      obtain ⟨sl', e2⟩ := up4 b _ h1 h2
      exact ⟨_, e2⟩
    · exact ⟨o', getB b o' e1 hm⟩
  · refine (I.hok a u e).stay (fun b v hb q => getB b v q fun hm => ?_) (fun _ q => q) fun _ _ q => q
    have hn : H1 b = none := hfree b (by show b ∈ frs (envOfC qual scope s.heap.objs.size f cd :: outer); rw [hfrs]; exact hm)
    rcases hb with rfl | hb
    · rw [hn] at e; cases e
    · rw [hn] at hb; cases hb
/-- raise C(..) -/
def tRaise (E : XK) (C : Addr) (t : TA) : TS := fun _ σ H => t σ H fun vs H1 => vs.length ≤ sizeLine ∧ ∀ x, E (.ref x) (some C) H1
section
variable {X : Cx} {E : XK} {n : Str} {C : Addr} {bm : List Value} {newId initId B : String} {np cpos pos hpos : Pos} {e : Expr} {es : List Expr} {t : TA}
theorem ps_raise (R : RaisesTo X E) (O : OwnCls n C bm newId X.mg X.base) (FB : ExcBaseFacts B newId initId bm) (hg : Gl X n) (hc : X.calm = true) (ha : PA X (e :: es) t)
    (hd : (n == ("__debug__" : Str)) = false := by decide) (he : starEach (e :: es) X.env = (false, eval e X.env) :: starEach es X.env := by rfl) (hpl : (backTo cpos (starEach es X.env)).any (·.1) = false := by rfl) :
    PS X (.Raise (some (.Call (.Name n np) (e :: es) [] cpos)) none pos) (tRaise E C t) := by
  intro pins s σ H D I h
  obtain ⟨tl, N, nm, q, bs, hdct, sn, sub, ab, col, dd, k0, k1, k2, k3, k5, mN, hC, hN, hni, T⟩ := O.obj
  refine wpAny_Raise_call_subT (C := C) (nm := nm) (q := q) (N := N) (bs := bs) (bm := tl) (hdct := hdct) (sn := sn) (sub := sub) (ab := ab) (col := col) (dd := dd) (k0 := k0) (k1 := k1) (k2 := k2) (k3 := k3) (k5 := k5)
    FB (mN := mN) (T.hasType FB.hasBase) (I.ok.hd hc) (by rw [he]; show (false || (backTo cpos (starEach es X.env)).any (·.1)) = false; rw [hpl]; rfl) hni (ld_glob I hg O.bound ⟨rfl, ?_⟩ hd)
  have ha' := ha cpos pins s σ H _ I h
  rw [he] at ha' ⊢
  exact Calls.evalArgs_plain (wpAny_mono ha' (fun us s2 ⟨vs, H2, I2, r, hl, q2⟩ => ⟨rfl, by rw [← r.length]; exact hl, I2.bk _ _ hC, hN.keeps I2.bk, T.keeps I2.bk, fun h' x hm => R pins σ H2 s2 h' x C us I2 hm (q2 x)⟩) fun _ _ y => y)
end
/-! ### try .. except -/
abbrev Cx.tryC (X : Cx) (W : Value → Shared → Prop) (pn : List (Addr × Obj)) : Cx := { X with xe := W, pn := pn }
abbrev Cx.within (X : Cx) (x : Addr) : Cx := { X with A := X.A.mark (some (.ref x)), calm := false }
section
variable {X : Cx} {pins pins' : List (Addr × Obj)} {σ : St} {H : Hp} {s : Shared} {W : Value → Shared → Prop} {x : Addr}
theorem Inv.tryC (I : Inv X pins σ H s) : Inv (X.tryC W (X.pn ++ pins)) [] σ H s :=
  ⟨⟨I.ok.mod, I.ok.kind, I.ok.glob, I.ok.blt, I.ok.above, I.ok.inj, I.ok.has, I.ok.cab, I.ok.hd, I.ok.frames, I.ok.stk, I.ok.exf, I.ok.bs, I.ok.bsz, I.ok.noex, I.ok.exfs, I.ok.funs, I.ok.frf⟩, I.os, I.bare, I.base, I.loc, I.cell, I.free, I.freeC, fun p hp => I.pin p (by
    have hp : p ∈ (X.pn ++ pins) ++ [] := hp
    rw [List.append_nil] at hp
    exact hp), I.hok, I.len⟩
theorem Inv.untry (I : Inv (X.tryC W (X.pn ++ pins)) pins' σ H s) : Inv X pins σ H s :=
  ⟨⟨I.ok.mod, I.ok.kind, I.ok.glob, I.ok.blt, I.ok.above, I.ok.inj, I.ok.has, I.ok.cab, I.ok.hd, I.ok.frames, I.ok.stk, I.ok.exf, I.ok.bs, I.ok.bsz, I.ok.noex, I.ok.exfs, I.ok.funs, I.ok.frf⟩, I.os, I.bare, I.base, I.loc, I.cell, I.free, I.freeC, fun p hp => I.pin p (List.mem_append_left _ hp), I.hok, I.len⟩
theorem Inv.within (I : Inv X pins σ H s) (x : Addr) : Inv (X.within x) pins σ H s :=
  ⟨⟨I.ok.mod, I.ok.kind, I.ok.glob, I.ok.blt, I.ok.above, I.ok.inj, I.ok.has, I.ok.cab, fun z => absurd z Bool.false_ne_true, I.ok.frames, I.ok.stk, I.ok.exf, I.ok.bs, I.ok.bsz, I.ok.noex, I.ok.exfs, I.ok.funs, I.ok.frf⟩, I.os, I.bare, I.base, I.loc, I.cell, I.free, I.freeC, I.pin, I.hok, I.len⟩
theorem Inv.unwithin (hc : X.A.handled = none) (I : Inv (X.within x) pins σ H s) : Inv X pins σ H s :=
  ⟨⟨I.ok.mod, I.ok.kind, I.ok.glob, I.ok.blt, I.ok.above, I.ok.inj, I.ok.has, I.ok.cab, fun _ => hc, I.ok.frames, I.ok.stk, I.ok.exf, I.ok.bs, I.ok.bsz, I.ok.noex, I.ok.exfs, I.ok.funs, I.ok.frf⟩, I.os, I.bare, I.base, I.loc, I.cell, I.free, I.freeC, I.pin, I.hok, I.len⟩
theorem SP.untry {D : Ends} {f : Flow} {s' : Shared} (h : SP (X.tryC W (X.pn ++ pins)) pins' D f s') : SP X pins D f s' := by
  cases f with
  | next => obtain ⟨σ', H', I, q⟩ := h; exact ⟨σ', H', I.untry, q⟩
  | brk => obtain ⟨σ', H', I, q⟩ := h; exact ⟨σ', H', I.untry, q⟩
  | cont => obtain ⟨σ', H', I, q⟩ := h; exact ⟨σ', H', I.untry, q⟩
  | ret u => obtain ⟨v, σ', H', I, r, q⟩ := h; exact ⟨v, σ', H', I.untry, r, q⟩
theorem SP.unwithin {D : Ends} {f : Flow} {s' : Shared} (hc : X.A.handled = none) (h : SP (X.within x) pins D f s') : SP X pins D f s' := by
  cases f with
  | next => obtain ⟨σ', H', I, q⟩ := h; exact ⟨σ', H', I.unwithin hc, q⟩
  | brk => obtain ⟨σ', H', I, q⟩ := h; exact ⟨σ', H', I.unwithin hc, q⟩
  | cont => obtain ⟨σ', H', I, q⟩ := h; exact ⟨σ', H', I.unwithin hc, q⟩
  | ret u => obtain ⟨v, σ', H', I, r, q⟩ := h; exact ⟨v, σ', H', I.unwithin hc, r, q⟩
end
/-- try: body; except C: suite -/
def tTry (E : XK) (C : Addr) (tb ts : TS) : TS := fun D σ H => tb D σ H ∧ ∀ x c H' σ', E (.ref x) c H' → c = some C ∧ ts D σ' H'
section
variable {X : Cx} {E : XK} {n : Str} {C L : Addr} {bm : List Value} {newId : String} {np pos hpos : Pos} {body suite : List Stmt} {b₀ : Stmt} {tb ts : TS}
theorem ps_try (hb : ∀ (W : Value → Shared → Prop) (pn : List (Addr × Obj)), Passes (CXE X.prog X.w) (X.tryC W pn) E → PSs (X.tryC W pn) body tb) (O : OwnCls n C bm newId X.mg X.base) (hBE : bm.contains (.type "BaseException") = true) (hg : Gl X n) (hc : X.calm = true)
    (hs : ∀ x, PSs (X.within x) (b₀ :: suite) ts) (hp : ∀ x, PassesOwnAt (model X.prog X.w) (X.A.mark (some (.ref x))) X.A X.env X.xe) (hst : X.stack = X.env :: X.outer) (hf : X.env.frame = some L) (hd : (n == ("__debug__" : Str)) = false := by decide) :
    PS X (.Try body [.ExceptHandler (some (.Name n np)) none (b₀ :: suite) hpos] [] [] pos) (tTry E C tb ts) := by
  intro pins s σ H D I h
  obtain ⟨h1, h2⟩ := h
  refine wpAny_Try_except ?_
  have hP : Passes (CXE X.prog X.w) (X.tryC (fun e s' => ∃ (x C' t : Addr) (B : Heap) (σ' : St) (H' : Hp), e = .ref x ∧ Heap.FlyingW B X.stack x (.ref C') (.ref t) s'.heap ∧ (∀ h4 : Heap, B.StaysIn h4 → s'.heap.UpToSlots h4 → Inv X pins σ' H' { s' with heap := h4 }) ∧ E e (some C') H') (X.pn ++ pins)) E := by
    intro pins' σ' H' s0 e s' I' hC
    obtain ⟨x, C', t, B, H2, rfl, os, bare, fl, un, hE⟩ := hC
    obtain ⟨hh, g, d, tk, os'⟩ := s'
    obtain rfl : os' = s0.os := os
    refine ⟨x, C', t, B, σ', H2, rfl, fl, fun h4 st sm => ?_, hE⟩
    obtain ⟨u1, u2⟩ := un h4 st sm
    have I1 : Inv X pins σ' H' s0 := I'.untry
    have u1' : Un (frs X.stack) [] H' H2 s0.heap h4 := u1
    have J := I1.call (h' := h4) (g' := g) (d' := d) (t' := tk) (ch := []) u1' u2 bare (fun b z => absurd z (by simp))
    exact J
  refine wpAny_mono (hb _ _ hP [] s σ H D I.tryC h1) (fun fl s1 q => ?_) (fun e s1 hW => ?_)
  · have q := q.untry
    cases fl with
    | next => obtain ⟨σ', H', I', q⟩ := q; exact wpAny_execs_nil ⟨σ', H', I', q⟩
    | brk => exact q
    | cont => exact q
    | ret u => exact q
  · obtain ⟨x, C', t, B, σ', H', rfl, fl, inv, hE⟩ := hW
    obtain ⟨hCC, hts⟩ := h2 x _ H' σ' hE
    obtain rfl : C' = C := Option.some.inj hCC
    have hh := I.ok.hd hc
    rw [hst] at fl
    have hfr : X.A.frames = some (X.env :: X.outer) := by rw [← hst]; exact I.ok.frames
    refine wpAny_looks_onW hfr hf fl fun h4 hheld4 hsm4 => ?_
    refine wpAny_landsW hheld4 fun h5 hheld hsm5 => ?_
    have hsm := hsm4.trans hsm5
    have I5 := (inv h5 hheld.1 hsm).within x
    obtain ⟨ob, hob, hobc⟩ := hheld.there
    obtain ⟨tl, N, nm, q, bs, hdct, sn, sub, ab, col, dd, k0, k1, k2, k3, k5, mN, hC, hN, hni, T⟩ := O.obj
    refine wpAny_handleBy_cons (codeAny_handlers_test (ld_glob I5 hg O.bound ?_ hd)) (by intro q; cases q)
    refine wpAny_excMatches_sub_self (I5.bk _ _ hC) hob hobc (T.hasType hBE) (codeAny_handlers_suite ?_)
    refine lands_againW hheld fun h6 hfl6 hsm6 => ?_
    have I6 := (inv h6 hfl6.1 (hsm.trans hsm6)).within x
    exact wpAny_passesOwnAt (hp x) (wpAny_mono (hs x pins _ σ' H' D I6 hts) (fun f s2 q => q.unwithin hh) fun _ _ z => z)
end
/-! ### a def that may raise -/
theorem Fun.okX {P : Program} {w : World} {K : PySem.W.Frag} {mg : Str → Option Value} {base : Heap} {x qual : Str} {st : Stmt} {f : Addr} {fd : FuncData} {N ps : List Str} {k : Nat} {sp : Sp} (F : Fun K x qual st f fd) (S : FnScope N ps (defScope st)) (len : ∀ vs H Q E, sp vs H Q E → vs.length = ps.length)
    (hbody : ∀ (cdv : Value) (A : Around) (outer : List Env) (s : Shared) (H : Hp) (vs : List V) (Q : VK) (E : XK), Room k (A.deeper (envOfC qual (defScope st) s.heap.objs.size f cdv)) → sp vs H Q E →
      ∃ t, PSs (cxOf (CXE P w) P w K mg base N qual (defScope st) f cdv A outer s H E) (defBody st) t ∧ t { nx := fun _ H' => Q .non H', rt := Q } (start N vs) H) : FnOk P w K mg base (CXE P w) (k + 1) f fd ps sp := by
  obtain ⟨oc, od, kV, doc, pm, an, cdv, ct, osl, rfl, lk, hcd⟩ := F.ex
  exact fn_of lk hcd S len fun A outer s H vs Q E hr hsp => hbody cdv A outer s H vs Q E hr hsp
/-! ### own exception classes, over the base -/
theorem ns_keptC {h base : Heap} (k : KeptC h base) {a : Addr} {m : Str → Option Value} (x : h.Ns a m) : base.Ns a m := by
  obtain ⟨o, es, ep, e, d, r⟩ := x
  exact ⟨o, es, ep, k a o e (.inr ⟨es, ep, d⟩), d, r⟩
theorem tail_keptC {h base : Heap} (k : KeptC h base) {bmB tl : List Value} (T : OwnTail h bmB tl) : OwnTail base bmB tl := by
  induction T with
  | base => exact .base
  | own hA hN hi _ ih => exact .own (k _ _ hA (.inl ⟨_, rfl⟩)) (ns_keptC k hN) hi ih
theorem own_keptC {h base : Heap} (k : KeptC h base) {x : Str} {C : Addr} {bm : List Value} {newId : String} {mg : Str → Option Value} (O : OwnCls x C bm newId mg h) : OwnCls x C bm newId mg base :=
  let ⟨bm', N, nm, q, bs, hdct, sn, sub, ab, col, dd, k0, k1, k2, k3, k5, mN, hC, hN, hni, T⟩ := O.obj
  ⟨O.bound, bm', N, nm, q, bs, hdct, sn, sub, ab, col, dd, k0, k1, k2, k3, k5, mN, k _ _ hC (.inl ⟨_, rfl⟩), ns_keptC k hN, hni, tail_keptC k T⟩
/-- the walk, with the classes kept -/
theorem walk_ofZ {l : PySem.W.OpenLaw} {n k : Nat} {q : Program} {loose : List Str} {XP : (Str → Option Value) → Heap → Prop} {YP : World → Heap → Prop} {d : DefRec} {K : Params → PySem.W.Frag} {x : Str}
    (hn : l.most = some n) (hn2 : n ≤ sizeLine) (hdf : d.params.defaults = []) (hr : Room k callerA)
    (hY : ∀ (w : World) (h : Heap), YP w h → (K w.params).In h) (hKt : ∀ w : World, PySem.W.noTabs (K w.params) = true)
    (F : ∀ (w : World) (mean : ExcName → Option Value) (mg mb : Str → Option Value) (fa : Addr) (h : Heap), YP w h → Top q (PySem.W.looseW q loose) mean mg mb h → (K w.params).In h → mg d.name = some (.ref fa) →
      ∃ (fd : FuncData) (tabs : List (Addr × Addr)) (sp : Sp), PySem.W.TabsAt tabs h ∧ (∀ (s : Shared) (u : Value), BindsTo s fd ⟨[u], []⟩ [(x, u)]) ∧
        (∀ base : Heap, (K w.params).In base → base.Ns mainGlobals mg → BMain mg base → (∀ q ∈ tabs, PySem.W.CodeHd base q.1 q.2) → KeptC h base → FnOk l.prog w (K w.params) mg base CX0 k fa fd [x] sp) ∧
        ∀ (H : Hp) (a : Addr) (ns : List Int), ns.length ≤ n → (∀ q ∈ tabs, H q.2 = some (.tbl #[])) → SqF (K w.params) H a (ns.map V.int) → sp [.ref a] H (fun v _ => v = .bl true) E0) :
    PySem.W.WalkO q loose XP YP l.row.toRowW d [] (fun f vs => PySem.call f vs) := by
  refine Att.attach_call hn hdf fun w s₀ s₁ mg mb fa o pm cd doc a vs ns G Y ho hd hcd hmg hobj hints hlen hg => ?_
  have KX := hY w _ Y
  obtain ⟨fd, tabs, sp, hT, hb, hF, hsp⟩ := F w _ mg mb fa _ Y G.T KX hmg
  exact law_callT KX G.T.g G.T.b G.T.builtins G.T.nolimit hg hobj hints (Nat.le_trans hlen hn2) hr hT (hKt w) G.T.bmain hF hb fun H hO hS => hsp H a ns hlen hO hS
end L2

namespace L2
open PySem PySem.Spec PyProof.Rows
section
variable {X : Cx}
/-- == and != of two of one kind: plain, or deep -/
def rEqU (K : PySem.W.Frag) : R2 := fun x y H Q => rEq x y H Q ∨ rEqD K x y H Q
def rNeU (K : PySem.W.Frag) : R2 := fun x y H Q => rNe x y H Q ∨ rNeD K x y H Q
theorem op_neU (hu : X.A.units + 150 < cLine) : OpR X (compareOp .NotEq) (rNeU X.K) := fun pins s σ H x y u v Q I rx ry h => h.elim (op_ne pins s σ H x y u v Q I rx ry) (op_neD hu pins s σ H x y u v Q I rx ry)
/-- a text with an int at its end -/
def tFInt (x : Str) (te : TE) : TE := fun σ H Q => te σ H fun v H1 => ∃ i : Int, v = .int i ∧ i.natAbs.log2 < 1920 ∧ ((Str.empty ++ x) ++ (toString i : Str)).length ≤ sizeLine ∧ ∀ y, Q (.str y) H1
end
section
variable {X : Cx} {K : PySem.W.Frag} {T : String} {name : Str} {id : String} {r : V → List V → Hp → VK → Prop} {o e : Expr} {es : List Expr} {apos cpos : Pos} {to : TE} {t : TA}
end
end L2

namespace LW
open PySem PySem.Spec PyProof.Rows L2 YO
def top (i : Nat) : Stmt := PySem.Challenge.pw_yourorder_k18_whole_maps.main.body.getD i (.Pass ⟨0, 0, 0, 0⟩)
abbrev s_lower : Stmt := top 6
abbrev s_count_in_front : Stmt := top 7
abbrev s_Map___init__ : Stmt := inClass (top 9) 0
abbrev s_Map_put : Stmt := inClass (top 9) 1
abbrev s_Map_drop : Stmt := inClass (top 9) 2
abbrev s_Map_get : Stmt := inClass (top 9) 3
abbrev s_Map_has : Stmt := inClass (top 9) 4
abbrev s_Map_size : Stmt := inClass (top 9) 5
abbrev s_Map_at : Stmt := inClass (top 9) 6
abbrev s_Map_pairs : Stmt := inClass (top 9) 7
abbrev s_Map_rank : Stmt := inClass (top 9) 8
abbrev s_Map_is_like : Stmt := inClass (top 9) 10
abbrev s__law_cell : Stmt := top 11
abbrev s__law_drawn : Stmt := top 12
abbrev s__law_answer : Stmt := top 13
abbrev s__law_ask : Stmt := top 14
abbrev s__law_log : Stmt := top 15
abbrev s__law_find : Stmt := top 16
abbrev s__law_got : Stmt := top 17
abbrev s__law_at : Stmt := top 18
abbrev s__law_deed : Stmt := top 19
abbrev s_law : Stmt := top 20
theorem sc_lower : FnScope ["row", "key", "order"] ["row", "key", "order"] (defScope s_lower) := ⟨rfl, rfl, rfl, by decide +kernel, rfl, by decide +kernel, by decide +kernel⟩
theorem sc_count_in_front : FnScope ["row", "is_in_front", "low", "high", "middle"] ["row", "is_in_front"] (defScope s_count_in_front) := ⟨rfl, rfl, rfl, by decide +kernel, rfl, by decide +kernel, by decide +kernel⟩
theorem sc_Map___init__ : FnScope ["self", "order"] ["self", "order"] (defScope s_Map___init__) := ⟨rfl, rfl, rfl, by decide +kernel, rfl, by decide +kernel, by decide +kernel⟩
theorem sc_Map_put : FnScope ["self", "key", "held", "place", "elder"] ["self", "key", "held"] (defScope s_Map_put) := ⟨rfl, rfl, rfl, by decide +kernel, rfl, by decide +kernel, by decide +kernel⟩
theorem sc_Map_drop : FnScope ["self", "key", "place"] ["self", "key"] (defScope s_Map_drop) := ⟨rfl, rfl, rfl, by decide +kernel, rfl, by decide +kernel, by decide +kernel⟩
theorem sc_Map_get : FnScope ["self", "key", "place"] ["self", "key"] (defScope s_Map_get) := ⟨rfl, rfl, rfl, by decide +kernel, rfl, by decide +kernel, by decide +kernel⟩
theorem sc_Map_has : FnScope ["self", "key"] ["self", "key"] (defScope s_Map_has) := ⟨rfl, rfl, rfl, by decide +kernel, rfl, by decide +kernel, by decide +kernel⟩
theorem sc_Map_size : FnScope ["self"] ["self"] (defScope s_Map_size) := ⟨rfl, rfl, rfl, by decide +kernel, rfl, by decide +kernel, by decide +kernel⟩
theorem sc_Map_at : FnScope ["self", "place"] ["self", "place"] (defScope s_Map_at) := ⟨rfl, rfl, rfl, by decide +kernel, rfl, by decide +kernel, by decide +kernel⟩
theorem sc_Map_pairs : FnScope ["self"] ["self"] (defScope s_Map_pairs) := ⟨rfl, rfl, rfl, by decide +kernel, rfl, by decide +kernel, by decide +kernel⟩
theorem sc_Map_rank : FnScope ["self", "key", "order"] ["self", "key"] (defScope s_Map_rank) := ⟨rfl, rfl, rfl, by decide +kernel, rfl, by decide +kernel, by decide +kernel⟩
theorem sc_Map_is_like : FnScope ["self", "place", "key", "order"] ["self", "place", "key"] (defScope s_Map_is_like) := ⟨rfl, rfl, rfl, by decide +kernel, rfl, by decide +kernel, by decide +kernel⟩
theorem sc__law_cell : FnScope ["_law_script", "_law_k"] ["_law_script", "_law_k"] (defScope s__law_cell) := ⟨rfl, rfl, rfl, by decide +kernel, rfl, by decide +kernel, by decide +kernel⟩
theorem sc__law_drawn : FnScope ["_law_cell_here", "_law_k", "_law_more"] ["_law_cell_here", "_law_k"] (defScope s__law_drawn) := ⟨rfl, rfl, rfl, by decide +kernel, rfl, by decide +kernel, by decide +kernel⟩
theorem sc__law_answer : FnScope ["_law_way", "_law_one", "_law_other", "_law_gap"] ["_law_way", "_law_one", "_law_other"] (defScope s__law_answer) := ⟨rfl, rfl, rfl, by decide +kernel, rfl, by decide +kernel, by decide +kernel⟩
theorem sc__law_ask : FnScope ["_law_asked", "_law_way", "_law_one", "_law_other"] ["_law_asked", "_law_way", "_law_one", "_law_other"] (defScope s__law_ask) := ⟨rfl, rfl, rfl, by decide +kernel, rfl, by decide +kernel, by decide +kernel⟩
theorem sc__law_log : FnScope ["_law_many", "_law_found"] ["_law_many"] (defScope s__law_log) := ⟨rfl, rfl, rfl, by decide +kernel, rfl, by decide +kernel, by decide +kernel⟩
theorem sc__law_find : FnScope ["_law_model", "_law_key", "_law_way", "_law_found", "_law_ahead_of", "_law_k", "_law_side"] ["_law_model", "_law_key", "_law_way"] (defScope s__law_find) := ⟨rfl, rfl, rfl, by decide +kernel, rfl, by decide +kernel, by decide +kernel⟩
theorem sc__law_got : FnScope ["_law_tree", "_law_key"] ["_law_tree", "_law_key"] (defScope s__law_got) := ⟨rfl, rfl, rfl, by decide +kernel, rfl, by decide +kernel, by decide +kernel⟩
theorem sc__law_at : FnScope ["_law_tree", "_law_place"] ["_law_tree", "_law_place"] (defScope s__law_at) := ⟨rfl, rfl, rfl, by decide +kernel, rfl, by decide +kernel, by decide +kernel⟩
theorem sc__law_deed : FnScope ["_law_tree", "_law_model", "_law_way", "_law_more", "_law_key", "_law_found", "_law_passed", "_law_told", "_law_due"] ["_law_tree", "_law_model", "_law_way", "_law_more", "_law_key"] (defScope s__law_deed) := ⟨rfl, rfl, rfl, by decide +kernel, rfl, by decide +kernel, by decide +kernel⟩
theorem sc_law : FnScope ["_law_script", "_law_way", "_law_spread", "_law_asked", "_law_tree", "_law_model", "_law_k", "_law_more", "_law_key", "_law_keys", "_law_place", "_law_due"] ["_law_script"] (defScope s_law) := ⟨rfl, rfl, rfl, by decide +kernel, rfl, by decide +kernel, by decide +kernel⟩
structure Adr where
  C_Map : Addr
  X_NoElement : Addr
  X_NoPlace : Addr
  f_lower : Addr
  d_lower : FuncData
  c_lower : Addr
  t_lower : Addr
  f_count_in_front : Addr
  d_count_in_front : FuncData
  f_Map___init__ : Addr
  d_Map___init__ : FuncData
  f_Map_put : Addr
  d_Map_put : FuncData
  f_Map_drop : Addr
  d_Map_drop : FuncData
  f_Map_get : Addr
  d_Map_get : FuncData
  f_Map_has : Addr
  d_Map_has : FuncData
  f_Map_size : Addr
  d_Map_size : FuncData
  f_Map_at : Addr
  d_Map_at : FuncData
  f_Map_pairs : Addr
  d_Map_pairs : FuncData
  f_Map_rank : Addr
  d_Map_rank : FuncData
  c_Map_rank : Addr
  t_Map_rank : Addr
  f_Map_is_like : Addr
  d_Map_is_like : FuncData
  f__law_cell : Addr
  d__law_cell : FuncData
  f__law_drawn : Addr
  d__law_drawn : FuncData
  f__law_answer : Addr
  d__law_answer : FuncData
  f__law_ask : Addr
  d__law_ask : FuncData
  f__law_log : Addr
  d__law_log : FuncData
  f__law_find : Addr
  d__law_find : FuncData
  f__law_got : Addr
  d__law_got : FuncData
  f__law_at : Addr
  d__law_at : FuncData
  f__law_deed : Addr
  d__law_deed : FuncData
  f_law : Addr
  d_law : FuncData
  c_law : Addr
  t_law : Addr
structure Txt (K : PySem.W.Frag) (mg : Str → Option Value) (A : Adr) : Prop where
  cl_Map : Cls K A.C_Map
  mgC_Map : mg "Map" = some (.ref A.C_Map)
  mk_Map : Mk K A.C_Map A.f_Map___init__
  n_Map_kept : NoAttr K A.C_Map "kept"
  n_Map_order : NoAttr K A.C_Map "order"
  fn_lower : Fun K "lower" "lower" s_lower A.f_lower A.d_lower
  mg_lower : mg "lower" = some (.ref A.f_lower)
  b_lower : Binds K A.d_lower ["row", "key", "order"] []
  cd_lower : A.d_lower.code = .ref A.c_lower
  fn_count_in_front : Fun K "count_in_front" "count_in_front" s_count_in_front A.f_count_in_front A.d_count_in_front
  mg_count_in_front : mg "count_in_front" = some (.ref A.f_count_in_front)
  b_count_in_front : Binds K A.d_count_in_front ["row", "is_in_front"] []
  fn_Map___init__ : Fun K "__init__" "Map.__init__" s_Map___init__ A.f_Map___init__ A.d_Map___init__
  m_Map___init__ : Meth K A.C_Map "__init__" A.f_Map___init__
  b_Map___init__ : Binds K A.d_Map___init__ ["self", "order"] []
  fn_Map_put : Fun K "put" "Map.put" s_Map_put A.f_Map_put A.d_Map_put
  m_Map_put : Meth K A.C_Map "put" A.f_Map_put
  b_Map_put : Binds K A.d_Map_put ["self", "key", "held"] []
  fn_Map_drop : Fun K "drop" "Map.drop" s_Map_drop A.f_Map_drop A.d_Map_drop
  m_Map_drop : Meth K A.C_Map "drop" A.f_Map_drop
  b_Map_drop : Binds K A.d_Map_drop ["self", "key"] []
  fn_Map_get : Fun K "get" "Map.get" s_Map_get A.f_Map_get A.d_Map_get
  m_Map_get : Meth K A.C_Map "get" A.f_Map_get
  b_Map_get : Binds K A.d_Map_get ["self", "key"] []
  fn_Map_has : Fun K "has" "Map.has" s_Map_has A.f_Map_has A.d_Map_has
  m_Map_has : Meth K A.C_Map "has" A.f_Map_has
  b_Map_has : Binds K A.d_Map_has ["self", "key"] []
  fn_Map_size : Fun K "size" "Map.size" s_Map_size A.f_Map_size A.d_Map_size
  m_Map_size : Meth K A.C_Map "size" A.f_Map_size
  b_Map_size : Binds K A.d_Map_size ["self"] []
  fn_Map_at : Fun K "at" "Map.at" s_Map_at A.f_Map_at A.d_Map_at
  m_Map_at : Meth K A.C_Map "at" A.f_Map_at
  b_Map_at : Binds K A.d_Map_at ["self", "place"] []
  fn_Map_pairs : Fun K "pairs" "Map.pairs" s_Map_pairs A.f_Map_pairs A.d_Map_pairs
  m_Map_pairs : Meth K A.C_Map "pairs" A.f_Map_pairs
  b_Map_pairs : Binds K A.d_Map_pairs ["self"] []
  fn_Map_rank : Fun K "rank" "Map.rank" s_Map_rank A.f_Map_rank A.d_Map_rank
  m_Map_rank : Meth K A.C_Map "rank" A.f_Map_rank
  b_Map_rank : Binds K A.d_Map_rank ["self", "key"] []
  cd_Map_rank : A.d_Map_rank.code = .ref A.c_Map_rank
  fn_Map_is_like : Fun K "is_like" "Map.is_like" s_Map_is_like A.f_Map_is_like A.d_Map_is_like
  m_Map_is_like : Meth K A.C_Map "is_like" A.f_Map_is_like
  b_Map_is_like : Binds K A.d_Map_is_like ["self", "place", "key"] []
  fn__law_cell : Fun K "_law_cell" "_law_cell" s__law_cell A.f__law_cell A.d__law_cell
  mg__law_cell : mg "_law_cell" = some (.ref A.f__law_cell)
  b__law_cell : Binds K A.d__law_cell ["_law_script", "_law_k"] []
  fn__law_drawn : Fun K "_law_drawn" "_law_drawn" s__law_drawn A.f__law_drawn A.d__law_drawn
  mg__law_drawn : mg "_law_drawn" = some (.ref A.f__law_drawn)
  b__law_drawn : Binds K A.d__law_drawn ["_law_cell_here", "_law_k"] []
  fn__law_answer : Fun K "_law_answer" "_law_answer" s__law_answer A.f__law_answer A.d__law_answer
  mg__law_answer : mg "_law_answer" = some (.ref A.f__law_answer)
  b__law_answer : Binds K A.d__law_answer ["_law_way", "_law_one", "_law_other"] []
  fn__law_ask : Fun K "_law_ask" "_law_ask" s__law_ask A.f__law_ask A.d__law_ask
  mg__law_ask : mg "_law_ask" = some (.ref A.f__law_ask)
  b__law_ask : Binds K A.d__law_ask ["_law_asked", "_law_way", "_law_one", "_law_other"] []
  fn__law_log : Fun K "_law_log" "_law_log" s__law_log A.f__law_log A.d__law_log
  mg__law_log : mg "_law_log" = some (.ref A.f__law_log)
  b__law_log : Binds K A.d__law_log ["_law_many"] []
  fn__law_find : Fun K "_law_find" "_law_find" s__law_find A.f__law_find A.d__law_find
  mg__law_find : mg "_law_find" = some (.ref A.f__law_find)
  b__law_find : Binds K A.d__law_find ["_law_model", "_law_key", "_law_way"] []
  fn__law_got : Fun K "_law_got" "_law_got" s__law_got A.f__law_got A.d__law_got
  mg__law_got : mg "_law_got" = some (.ref A.f__law_got)
  b__law_got : Binds K A.d__law_got ["_law_tree", "_law_key"] []
  fn__law_at : Fun K "_law_at" "_law_at" s__law_at A.f__law_at A.d__law_at
  mg__law_at : mg "_law_at" = some (.ref A.f__law_at)
  b__law_at : Binds K A.d__law_at ["_law_tree", "_law_place"] []
  fn__law_deed : Fun K "_law_deed" "_law_deed" s__law_deed A.f__law_deed A.d__law_deed
  mg__law_deed : mg "_law_deed" = some (.ref A.f__law_deed)
  b__law_deed : Binds K A.d__law_deed ["_law_tree", "_law_model", "_law_way", "_law_more", "_law_key"] []
  fn_law : Fun K "law" "law" s_law A.f_law A.d_law
  mg_law : mg "law" = some (.ref A.f_law)
  b_law : Binds K A.d_law ["_law_script"] []
  cd_law : A.d_law.code = .ref A.c_law
  bt_law : ∀ (s : Shared) (u : Value), BindsTo s A.d_law ⟨[u], []⟩ [("_law_script", u)]
  bl_len : mg "len" = none
  bl_list : mg "list" = none
  bl_int : mg "int" = none
  bl_abs : mg "abs" = none
  bl_range : mg "range" = none
  bl_isinstance : mg "isinstance" = none
  bl_bool : mg "bool" = none
  bl_all : mg "all" = none
  ne_lower_Map_rank : A.t_lower ≠ A.t_Map_rank
  ne_lower_law : A.t_lower ≠ A.t_law
  ne_Map_rank_law : A.t_Map_rank ≠ A.t_law
def tabs (A : Adr) : List (Addr × Addr) := [(A.c_lower, A.t_lower), (A.c_Map_rank, A.t_Map_rank), (A.c_law, A.t_law)]
abbrev bmV : List Value := [.type "ValueError", .type "Exception", .type "BaseException", .type "object"]
structure Own (mg : Str → Option Value) (base : Heap) (A : Adr) : Prop where
  NoElement : OwnCls "NoElement" A.X_NoElement bmV "ValueError.__new__" mg base
  NoPlace : OwnCls "NoPlace" A.X_NoPlace bmV "ValueError.__new__" mg base
def spLaw (K : PySem.W.Frag) (A : Adr) : Sp := fun vs H Q _ => ∃ (a : Addr) (ns : List Int), vs = [.ref a] ∧ SqF K H a (ns.map V.int) ∧ ns.length ≤ 63 ∧ TabOk H A.t_lower (qL "lower") ∧ TabOk H A.t_Map_rank (qL "Map.rank") ∧ TabOk H A.t_law (qL "law") ∧ ∀ H', Q (.bl true) H'
/-! ### the law's cells -/
def small (e : Int × Int) : Prop := -(2 ^ 40) < e.1 ∧ e.1 < 2 ^ 40
def spCell (K : PySem.W.Frag) : Sp := fun vs H Q _ => ∃ (a : Addr) (ns : List Int) (k : Int), vs = [.ref a, .int k] ∧ SqL K H a (ns.map V.int) ∧ ns.length ≤ 63 ∧ 0 ≤ k ∧ ∀ H', Same H H' → Q (.int (cellF ns k)) H'
def spDrawn : Sp := fun vs H Q _ => ∃ c k : Int, vs = [.int c, .int k] ∧ Q (.int (drawnF c k)) H
section
variable {P : Program} {w : World} {K : PySem.W.Frag} {mg : Str → Option Value} {base : Heap} {A : Adr}
theorem ok__law_drawn (T : Txt K mg A) : FnOk P w K mg base CX0 1 A.f__law_drawn A.d__law_drawn ["_law_cell_here", "_law_k"] spDrawn := by
  refine T.fn__law_drawn.ok sc__law_drawn (fun vs H Q E h => ?_) (fun cdv Ar outer s H vs Q E hr h => ?_)
  · obtain ⟨c, k, rfl, _⟩ := h
    rfl
  · obtain ⟨c, k, rfl, q⟩ := h
    have nd := sc__law_drawn.nd
    refine ⟨_, (pss_cons (ps_set (i := 2) nd rfl (Or.inl rfl) (pe_op op_mod (pe_op op_add (pe_op op_mul (pv 0) pe_int) (pe_op op_mul (pe_op op_add (pv 1) pe_int) pe_int)) pe_int))
      (pss_one (ps_ret (pe_op op_mod (pe_op op_mulB (pv 2) (pv 2)) pe_int)))), ?_⟩
    refine ⟨_, rfl, ⟨_, _, rfl, rfl, .inr ⟨by omega, by omega⟩, ⟨_, rfl, ⟨_, _, rfl, rfl, ⟨_, _, rfl, rfl, .inr ⟨by omega, by omega⟩, ⟨_, _, rfl, rfl, ⟨_, _, rfl, rfl, by omega, ⟨_, rfl, ⟨_, rfl, ⟨_, _, rfl, rfl, ?mul, ⟨_, _, rfl, rfl, by omega, q⟩⟩⟩⟩⟩⟩⟩⟩⟩⟩⟩
    have h1 := Int.emod_nonneg (c * 6364136223846793005 + (k + 1) * 1442695040888963407) (show (340282366920938463463374607431768211507 : Int) ≠ 0 by decide)
    have h2 := Int.emod_lt_of_pos (c * 6364136223846793005 + (k + 1) * 1442695040888963407) (show (0 : Int) < 340282366920938463463374607431768211507 by decide)
    have h3 : (340282366920938463463374607431768211507 : Int) < 2 ^ 200 := by decide
    constructor <;> omega
theorem ok__law_cell (T : Txt K mg A) : FnOk P w K mg base CX0 1 A.f__law_cell A.d__law_cell ["_law_script", "_law_k"] (spCell K) := by
  refine T.fn__law_cell.ok sc__law_cell (fun vs H Q E h => ?_) (fun cdv Ar outer s H vs Q E hr h => ?_)
  · obtain ⟨a, ns, k, rfl, _⟩ := h
    rfl
  · obtain ⟨a, ns, k, rfl, hS, hl, hk, q⟩ := h
    have nd := sc__law_cell.nd
    have hu := units150 hr
    refine ⟨_, (pss_cons (ps_if (pt_cmpR (op_eqD hu) (pv 0) (pe_lst pa_nil) (nomark _)) (pss_one (ps_ret (pe_op op_mul (pv 1) pe_int))) pss_nil)
      (pss_one (ps_ret (pe_op op_add (pe_ix ix_list (pv 0) (pe_op op_mod (pv 1) (pe_callB call_len_seq (by rfl) T.bl_len YO.yb_len (pa_cons (pv 0) pa_nil))) (fun _ _ => rfl)) (pe_op op_mul (pe_op op_fdiv (pv 1) (pe_callB call_len_seq (by rfl) T.bl_len YO.yb_len (pa_cons (pv 0) pa_nil))) pe_int))))), ?_⟩
    refine ⟨_, rfl, ⟨Nat.zero_le _, fun p hp => ⟨.lst (ns.map Dd.int), .lst [], ⟨a, _, rfl, (Same.new hp).seq hS, dints⟩, ⟨p, [], rfl, SqL.of upd_same, trivial⟩, rfl, ?dep, ⟨_, rfl, ?_⟩⟩⟩⟩
    case dep =>
      show depDL (ns.map Dd.int) + 1 ≤ 100
      rw [dep_ints]
      decide
    have s1 : Same H (upd H p (.lst [])) := Same.new hp
    have hS1 : SqL K (upd H p (.lst [])) a (ns.map V.int) := s1.seq hS
    cases ns with
    | nil =>
      refine iteT ?_
      refine ⟨_, rfl, ⟨_, _, rfl, rfl, .inr ⟨by omega, by omega⟩, ?_⟩⟩
      exact q _ s1
    | cons n ns =>
      refine iteF ?_
      have hlen : (((n :: ns).map V.int).length : Int) = ((n :: ns).length : Int) := by rw [List.length_map]
      have hpos : (0 : Int) < ((n :: ns).length : Int) := by rw [List.length_cons]; omega
      have hm1 := Int.emod_nonneg k (Int.ne_of_gt hpos)
      have hm2 := Int.emod_lt_of_pos k hpos
      have hat : atI ((n :: ns).map V.int) (k % ((n :: ns).length : Int)) = some (.int ((n :: ns).getD (k % ((n :: ns).length : Int)).toNat 0)) := by
        have e1 : k % ((n :: ns).length : Int) = (((k % ((n :: ns).length : Int)).toNat : Nat) : Int) := by omega
        rw [e1]
        refine atI_nat ?_
        have hlt : (k % ((n :: ns).length : Int)).toNat < (n :: ns).length := by omega
        have e2 : (n :: ns)[(k % ((n :: ns).length : Int)).toNat]? = some (n :: ns)[(k % ((n :: ns).length : Int)).toNat] := List.getElem?_eq_getElem hlt
        simp only [Int.toNat_natCast]
        rw [List.getElem?_map, List.getD_eq_getElem?_getD, e2]
        rfl
      refine ⟨_, rfl, ⟨_, rfl, ⟨_, rfl, ⟨_, _, rfl, .inl hS1, ⟨_, _, rfl, rfl, ?m1, ⟨_, _, _, .int ((n :: ns).getD (k % ((n :: ns).length : Int)).toNat 0), rfl, rfl, hS1, ?at1, ⟨_, rfl, ⟨_, rfl, ⟨_, _, rfl, .inl hS1, ⟨_, _, rfl, rfl, ?d1, ⟨_, _, rfl, rfl, .inr ⟨by omega, by omega⟩, ⟨_, _, rfl, rfl, ?_⟩⟩⟩⟩⟩⟩⟩⟩⟩⟩⟩⟩
      case m1 => rw [hlen]; exact hpos
      case at1 => rw [hlen]; exact hat
      case d1 =>
        rw [hlen]
        exact ⟨hpos, by omega⟩
      rw [hlen]
      exact q _ s1
end

/-! ### the law's answers -/
def spAnswer : Sp := fun vs H Q _ => ∃ (way : Int) (x y : V) (e1 e2 : Int × Int), vs = [.int way, x, y] ∧ El H x e1 ∧ El H y e2 ∧ small e1 ∧ small e2 ∧ Q (.int (ansF way e1 e2)) H
def spAsk : Sp := fun vs H Q _ => ∃ (la : Addr) (way : Int) (x y : V) (e1 e2 : Int × Int) (ts : List V), vs = [.ref la, .int way, x, y] ∧ H la = some (.lst ts) ∧ ts.length < sizeLine ∧ El H x e1 ∧ El H y e2 ∧ small e1 ∧ small e2 ∧
  ∀ p, H p = none → Q (.int (ansF way e1 e2)) (upd (upd H p (.tup [x, y])) la (.lst (ts ++ [.ref p])))
section
variable {P : Program} {w : World} {K : PySem.W.Frag} {mg : Str → Option Value} {base : Heap} {A : Adr}
theorem ok__law_answer (T : Txt K mg A) : FnOk P w K mg base CX0 1 A.f__law_answer A.d__law_answer ["_law_way", "_law_one", "_law_other"] spAnswer := by
  refine T.fn__law_answer.ok sc__law_answer (fun vs H Q E h => ?_) (fun cdv Ar outer s H vs Q E hr h => ?_)
  · obtain ⟨way, x, y, e1, e2, rfl, _⟩ := h
    rfl
  · obtain ⟨way, x, y, e1, e2, rfl, ⟨p1, rfl, h1⟩, ⟨p2, rfl, h2⟩, sm1, sm2, q⟩ := h
    have nd := sc__law_answer.nd
    have q1 : SqT K H p1 [.int e1.1, .int e1.2] := SqT.of h1
    have q2 : SqT K H p2 [.int e2.1, .int e2.2] := SqT.of h2
    have a0 : ∀ a b : Int, atI [V.int a, V.int b] 0 = some (.int a) := fun _ _ => rfl
    have a1 : ∀ a b : Int, atI [V.int a, V.int b] 1 = some (.int b) := fun _ _ => rfl
    unfold ansF at q
    refine ⟨_, (pss_cons (ps_set (i := 3) nd rfl (Or.inl rfl) (pe_op op_sub (pe_ix ix_tup (pv 1) pe_int (fun _ _ => rfl)) (pe_ix ix_tup (pv 2) pe_int (fun _ _ => rfl))))
      (pss_cons (ps_if (pt_cmpR op_eq (pv 0) pe_int (nomark _)) (pss_one (ps_ret (pe_op op_sub pe_int (pv 3)))) pss_nil)
      (pss_cons (ps_if (pt_cmpR op_eq (pv 0) pe_int (nomark _)) (pss_one (ps_ret (pe_op op_sub (pe_op op_fdiv (pe_ix ix_tup (pv 1) pe_int (fun _ _ => rfl)) pe_int) (pe_op op_fdiv (pe_ix ix_tup (pv 2) pe_int (fun _ _ => rfl)) pe_int)))) pss_nil)
      (pss_cons (ps_if (pt_cmpR op_eq (pv 0) pe_int (nomark _)) (pss_one (ps_ret (pe_op op_mul (pe_op op_sub (pe_callTy call_int1 (by rfl) T.bl_int YO.yb_int (pa_cons (pe_cmpR op_gt (pv 3) pe_int (nomark _)) pa_nil)) (pe_callTy call_int1 (by rfl) T.bl_int YO.yb_int (pa_cons (pe_cmpR op_lt (pv 3) pe_int (nomark _)) pa_nil))) (pe_op op_add pe_int (pe_op op_mod (pe_callB call_abs (by rfl) T.bl_abs YO.yb_abs (pa_cons (pe_ix ix_tup (pv 1) pe_int (fun _ _ => rfl)) pa_nil)) pe_int))))) pss_nil)
      (pss_cons (ps_if (pt_cmpR op_eq (pv 0) pe_int (nomark _)) (pss_one (ps_ret (pe_op op_mul (pv 3) (pe_op op_pow pe_int pe_int)))) pss_nil)
      (pss_cons (ps_if (pt_cmpR op_eq (pv 0) pe_int (nomark _)) (pss_one (ps_ret (pe_op op_sub (pe_callB call_abs (by rfl) T.bl_abs YO.yb_abs (pa_cons (pe_op op_sub (pe_ix ix_tup (pv 1) pe_int (fun _ _ => rfl)) pe_int) pa_nil)) (pe_callB call_abs (by rfl) T.bl_abs YO.yb_abs (pa_cons (pe_op op_sub (pe_ix ix_tup (pv 2) pe_int (fun _ _ => rfl)) pe_int) pa_nil))))) pss_nil)
      (pss_one (ps_ret (pv 3))))))))), ?_⟩
    refine ⟨_, rfl, ⟨_, _, _, _, rfl, rfl, q1, a0 _ _, ⟨_, rfl, ⟨_, _, _, _, rfl, rfl, q2, a0 _ _, ⟨_, _, rfl, rfl, ⟨_, rfl, ⟨rfl, ⟨_, rfl, ?_⟩⟩⟩⟩⟩⟩⟩⟩
    refine iteD (fun hw => ?_) (fun hw => ?_)
    · have hw : way = 1 := V.int.inj hw
      rw [if_pos hw] at q
      exact ⟨_, rfl, ⟨_, _, rfl, rfl, q⟩⟩
    have hw : ¬ way = 1 := fun z => hw (by rw [z])
    rw [if_neg hw] at q
    refine ⟨_, rfl, ⟨rfl, ⟨_, rfl, ?_⟩⟩⟩
    refine iteD (fun hw => ?_) (fun hw => ?_)
    · have hw : way = 2 := V.int.inj hw
      rw [if_pos hw] at q
      exact ⟨_, rfl, ⟨_, _, _, _, rfl, rfl, q1, a0 _ _, ⟨_, _, rfl, rfl, ⟨by omega, by omega⟩, ⟨_, rfl, ⟨_, _, _, _, rfl, rfl, q2, a0 _ _, ⟨_, _, rfl, rfl, ⟨by omega, by omega⟩, ⟨_, _, rfl, rfl, q⟩⟩⟩⟩⟩⟩⟩
    have hw : ¬ way = 2 := fun z => hw (by rw [z])
    rw [if_neg hw] at q
    refine ⟨_, rfl, ⟨rfl, ⟨_, rfl, ?_⟩⟩⟩
    refine iteD (fun hw => ?_) (fun hw => ?_)
    · have hw : way = 3 := V.int.inj hw
      rw [if_pos hw] at q
      refine ⟨_, rfl, ⟨_, _, rfl, rfl, (.inr ⟨_, rfl, ⟨_, rfl, ⟨_, _, rfl, rfl, (.inr ⟨_, rfl, ⟨_, _, rfl, rfl, ⟨_, rfl, ⟨_, _, _, _, rfl, rfl, q1, a1 _ _, ⟨_, rfl, ⟨_, _, rfl, rfl, by omega, ⟨_, _, rfl, rfl, ⟨_, _, rfl, rfl, ?mul, ?_⟩⟩⟩⟩⟩⟩⟩⟩)⟩⟩⟩)⟩⟩
      · left
        constructor <;> (split <;> split <;> omega)
      · unfold sg absI at q
        simpa only [decide_eq_true_eq] using q
    have hw : ¬ way = 3 := fun z => hw (by rw [z])
    rw [if_neg hw] at q
    refine ⟨_, rfl, ⟨rfl, ⟨_, rfl, ?_⟩⟩⟩
    refine iteD (fun hw => ?_) (fun hw => ?_)
    · have hw : way = 4 := V.int.inj hw
      rw [if_pos hw] at q
      obtain ⟨b1, b2⟩ := sm1
      obtain ⟨b3, b4⟩ := sm2
      refine ⟨_, rfl, ⟨_, _, rfl, rfl, ⟨by omega, by omega, by decide⟩, ⟨_, _, rfl, rfl, .inl ⟨by omega, by omega⟩, ?_⟩⟩⟩
      exact q
    have hw : ¬ way = 4 := fun z => hw (by rw [z])
    rw [if_neg hw] at q
    refine ⟨_, rfl, ⟨rfl, ⟨_, rfl, ?_⟩⟩⟩
    refine iteD (fun hw => ?_) (fun hw => ?_)
    · have hw : way = 5 := V.int.inj hw
      rw [if_pos hw] at q
      exact ⟨_, rfl, ⟨_, _, _, _, rfl, rfl, q1, a0 _ _, ⟨_, _, rfl, rfl, ⟨_, rfl, ⟨_, rfl, ⟨_, _, _, _, rfl, rfl, q2, a0 _ _, ⟨_, _, rfl, rfl, ⟨_, rfl, ⟨_, _, rfl, rfl, q⟩⟩⟩⟩⟩⟩⟩⟩⟩
    have hw : ¬ way = 5 := fun z => hw (by rw [z])
    rw [if_neg hw] at q
    exact ⟨_, rfl, q⟩
theorem ok__law_ask (T : Txt K mg A) : FnOk P w K mg base CX0 2 A.f__law_ask A.d__law_ask ["_law_asked", "_law_way", "_law_one", "_law_other"] spAsk := by
  have G__law_answer : FnOk P w K mg base CX0 1 A.f__law_answer A.d__law_answer _ spAnswer := ok__law_answer T
  refine T.fn__law_ask.ok sc__law_ask (fun vs H Q E h => ?_) (fun cdv Ar outer s H vs Q E hr h => ?_)
  · obtain ⟨la, way, x, y, e1, e2, ts, rfl, _⟩ := h
    rfl
  · obtain ⟨la, way, x, y, e1, e2, ts, rfl, hla, hlen, h1, h2, sm1, sm2, q⟩ := h
    have nd := sc__law_ask.nd
    refine ⟨_, (pss_cons (ps_expr (pe_bm PySem.F.plainAttrs_list PySem.F.slot_list_append PySem.F.type_list_append mt_append (pv 0) (pa_cons (pe_tup (pa_cons (pv 2) (pa_cons (pv 3) pa_nil))) pa_nil)))
      (pss_one (ps_ret (pe_call G__law_answer (hr.mono (by omega)) rfl T.mg__law_answer T.fn__law_answer.kp T.b__law_answer .nil pass0 (pa_cons (pv 1) (pa_cons (pv 2) (pa_cons (pv 3) pa_nil))))))), ?_⟩
    refine ⟨_, rfl, ⟨.inl ⟨rfl, _, SqL.of hla⟩, ⟨_, rfl, ⟨_, rfl, ⟨(by show 2 ≤ sizeLine; decide), fun p hp => ⟨_, ts, _, rfl, rfl, ?l1, hlen, ⟨_, rfl, ⟨_, rfl, ⟨_, rfl, ?_⟩⟩⟩⟩⟩⟩⟩⟩⟩
    case l1 => rw [upd_ne (ne_of_none hla hp)]; exact hla
    have ev : Evo (fun b => b = la) H (upd (upd H p (.tup [x, y])) la (.lst (ts ++ [.ref p]))) := (Evo.new hp).trans (Evo.put (xs := ts) (by rw [upd_ne (ne_of_none hla hp)]; exact hla) rfl)
    exact ⟨way, x, y, e1, e2, rfl, h1.evo ev, h2.evo ev, sm1, sm2, q p hp⟩
end

def spLog : Sp := fun vs H Q _ => ∃ n : Nat, vs = [.int n] ∧ n ≤ 2 ^ 60 ∧ Q (.int (YM.clog n : Nat)) H
section
variable {P : Program} {w : World} {K : PySem.W.Frag} {mg : Str → Option Value} {base : Heap} {A : Adr}
theorem pow_cast (k : Nat) : ((2 : Int) ^ k) = ((2 ^ k : Nat) : Int) := by
  rw [Int.natCast_pow]; rfl
theorem ok__law_log (T : Txt K mg A) : FnOk P w K mg base CX0 1 A.f__law_log A.d__law_log ["_law_many"] spLog := by
  refine T.fn__law_log.ok sc__law_log (fun vs H Q E h => ?_) (fun cdv Ar outer s H vs Q E hr h => ?_)
  · obtain ⟨n, rfl, _⟩ := h
    rfl
  · obtain ⟨n, rfl, hn, q⟩ := h
    have nd := sc__law_log.nd
    refine ⟨_, (pss_cons (ps_set (i := 1) nd rfl (Or.inl rfl) pe_int)
      (pss_cons (ps_while PassesOwn.never (pt_cmpR op_lt (pe_op op_shl pe_int (pv 1)) (pv 0) (nomark _)) (pss_one (ps_set (i := 1) nd rfl (Or.inl rfl) (pe_op op_add (pv 1) pe_int))))
      (pss_one (ps_ret (pv 1))))), ?_⟩
    refine ⟨fun m σ H' => ∃ f : Nat, σ = [some (.int n), some (.int f)] ∧ H' = H ∧ m = 61 - f ∧ f ≤ 60 ∧ ∀ j, j < f → 2 ^ j < n, ⟨61, 0, rfl, rfl, rfl, Nat.zero_le _, fun j hj => absurd hj (Nat.not_lt_zero j)⟩, ?_⟩
    rintro m σ H' ⟨f, rfl, rfl, rfl, hf, hlt⟩
    refine ⟨_, rfl, ⟨_, _, rfl, rfl, ⟨by omega, by omega, by decide⟩, ⟨_, rfl, ⟨_, _, rfl, rfl, ⟨_, rfl, ?_⟩⟩⟩⟩⟩
    have e : (1 : Int) * 2 ^ (Int.toNat (f : Int)) = ((2 ^ f : Nat) : Int) := by rw [Int.one_mul, Int.toNat_natCast, pow_cast]
    rw [e]
    refine iteD (fun hc => ?_) (fun hc => ?_)
    · have hc' : 2 ^ f < n := by omega
      have hf' : f < 60 := by
        rcases Nat.lt_or_ge f 60 with h | h
        · exact h
        · have := Nat.pow_le_pow_right (show 0 < 2 by decide) h
          omega
      refine ⟨_, fun _ _ h => h, ?_⟩
      refine ⟨_, rfl, ⟨_, _, rfl, rfl, ?_⟩⟩
      refine ⟨61 - (f + 1), by omega, f + 1, rfl, rfl, rfl, by omega, fun j hj => ?_⟩
      rcases Nat.lt_or_ge j f with h | h
      · exact hlt j h
      · have : j = f := by omega
        rw [this]; exact hc'
    · refine ⟨_, rfl, ?_⟩
      have hc' : n ≤ 2 ^ f := by omega
      have := YM.clog_unique hc' hlt
      rw [this] at q
      exact q
end

theorem tab_evo {H H1 : Hp} {tb : Addr} {qn : Str} (h : TabOk H tb qn) (hold : ∀ b o, H b = some o → b ≠ tb → H1 b = some o) : Evo (fun b => b = tb) H H1 := fun b o e q => by
  refine hold b o e fun z => ?_
  subst z
  rcases q with q | q
  · exact q rfl
  · obtain ⟨ps, h1, _⟩ := h
    rw [h1] at e; cases e
    exact q
theorem tab_ne {H : Hp} {t b : Addr} {q : Str} {xs : List V} (h : TabOk H t q) (e : H b = some (.lst xs)) : b ≠ t := fun z => by
  obtain ⟨ps, h1, _⟩ := h
  rw [z, h1] at e; cases e

/-! ### what stands still in the law: the script, the row, the table of its lambdas -/
structure LS (K : PySem.W.Frag) (A : Adr) (a : Addr) (ns : List Int) (r : Addr) (xs : List V) (es : List (Int × Int)) (H : Hp) : Prop where
  s : SqF K H a (ns.map V.int)
  r : H r = some (.lst xs)
  e : Els H xs es
  t : TabOk H A.t_law (qL "law")
theorem tabS {H H' : Hp} {t : Addr} {q : Str} (h : TabOk H t q) (s : Same H H') : TabOk H' t q := h.evo (M := fun _ => False) (Same.evo s) id
theorem _root_.YO.LogAt.lam {H H' : Hp} {t la : Addr} {q : Str} {L : List (V × V)} (h : LogAt la L H) (ht : TabOk H t q) (hold : ∀ b o, H b = some o → b ≠ t → H' b = some o) : LogAt la L H' := by
  have ev : Evo (fun b => b = t) H H' := tab_evo ht hold
  obtain ⟨ts, h1, h2⟩ := id h
  exact h.evo ev (tab_ne ht h1)
theorem _root_.YO.LogAt.nt {H : Hp} {t la : Addr} {q : Str} {L : List (V × V)} (h : LogAt la L H) (ht : TabOk H t q) : t ≠ la := fun z => by
  obtain ⟨ts, h1, _⟩ := h
  exact tab_ne ht h1 z.symm

/-! ### the law's function: it notes its questions and answers by the way -/
def DomA (H0 : Hp) (H : Hp) (x : V) : Prop := ∃ e, El H x e ∧ El H0 x e ∧ small e
def LgA (H0 : Hp) (la : Addr) : Lg0 := fun L H => (∀ b o u, H0 b = some (.frz o u) → H b = some (.frz o u)) ∧ LogAt la L H
abbrev SA (H0 : Hp) (la : Addr) : Addr → Prop := fun b => b = la ∨ ∃ o u, H0 b = some (.frz o u)
abbrev FA (H0 : Hp) (way : Int) : List (V × V) → V → V → Int := fun _ x y => ansF way (ct H0 x) (ct H0 y)
theorem oraK_ask (H0 : Hp) (la : Addr) : OraK (fun b => b = la) (SA H0 la) (LgA H0 la) (DomA H0) where
  sub := fun b hb => .inl hb
  keep := fun L H H' ⟨h1, h2⟩ hk => ⟨fun b o u e => hk b _ (h1 b o u e) (.inl (.inr ⟨o, u, e⟩)), h2.keep fun b o e q => hk b o e (q.imp .inl id)⟩
  there := fun L H b ⟨h1, ts, h2, _⟩ hb => by
    rcases hb with rfl | ⟨o, u, hb⟩
    · exact ⟨_, h2⟩
    · exact ⟨_, h1 b o u hb⟩
  dom := fun H H' x ⟨e, ⟨p, h1, h2⟩, h3, h4⟩ hk => ⟨e, ⟨p, h1, hk _ _ h2⟩, h3, h4⟩
theorem ora_ask {P : Program} {w : World} {K : PySem.W.Frag} {mg : Str → Option Value} {base : Heap} {k : Nat} {f la : Addr} {way : Int} {cap : Nat} {qual : Str} {params : Arguments} {body : Expr} {scope : Scope} {cl : List (Str × Addr)} {N : List Str} {pa pb : Str} {H0 : Hp}
    (hlam : LamAt H0 f qual params body scope cl) (Sc : LamScope N [pa, pb] scope) (inj : ∀ x y c, cl.lookup x = some c → cl.lookup y = some c → x = y) (has : ∀ x, scope.names.lookup x = some .free → ∃ c, cl.lookup x = some c) (hcells : ∀ x c, cl.lookup x = some c → x ∈ N.drop 2)
    (hbind : ∀ (pm cdv ctv : Value) (us : List Value), us.length = 2 → bindArgs (PySem.W.kla_fn "<lambda>" qual params body scope cl pm cdv ctv) ⟨us, []⟩ = pure ([pa, pb].zip us))
    (ht : ∀ (cdv : Value) (A : Around) (outer : List Env) (s : Shared) (H : Hp), Room k (A.deeper (PySem.W.envX qual scope s.heap.objs.size f cdv cl)) →
      ∃ tt, PE (cxLam P w K mg base N qual scope f cdv cl A outer s H) body tt ∧ ∀ (x y : V) (H1 : Hp) (Q : VK), spAsk [.ref la, .int way, x, y] H1 Q E0 → tt [some x, some y, some (.ref la), some (.int way)] H1 Q)
    (hcat : CatchAt H0 cl (N.drop 2) [.ref la, .int way]) (hcl : ∀ b, CellOf cl b → ∃ o, H0 b = some (Fz o)) (hcap : cap ≤ sizeLine) :
    Ora P w K mg base (k + 1) f (fun b => b = la) (SA H0 la) (LgA H0 la) (DomA H0) (FA H0 way) cap := by
  refine ⟨?_, oraK_ask H0 la⟩
  have fzl : ∀ H, (∀ b o u, H0 b = some (.frz o u) → H b = some (.frz o u)) → LamAt H f qual params body scope cl ∧ CatchAt H cl (N.drop 2) [.ref la, .int way] := fun H hz => by
    refine ⟨?_, ?_⟩
    · obtain ⟨pm, c, ctv, oc, h1, h2, h3⟩ := hlam
      exact ⟨pm, c, ctv, oc, hz _ _ _ h1, hz _ _ _ h2, h3⟩
    · exact Paired.mapP hcat fun x v ⟨c, h1, o, u, h2, h3⟩ => ⟨c, h1, o, u, hz _ _ _ h2, h3⟩
  have FVl := lam_fv (P := P) (w := w) (K := K) (mg := mg) (base := base) (k := k) (f := f) (fvs := [.ref la, .int way]) (spb := fun vs H Q => spO (fun b => b = la) (LgA H0 la) (DomA H0) (FA H0 way) cap vs H Q E0) Sc inj has hcells hbind ?_
  · refine FVl.imp fun vs H Q h => ?_
    obtain ⟨x, y, L, rfl, hL, _⟩ := id h
    obtain ⟨h1, h2⟩ := fzl H hL.1
    exact ⟨rfl, h1, h2, h⟩
  · intro cdv A outer s H vs Q hr hsp hca
    obtain ⟨x, y, L, rfl, ⟨hz, hlog⟩, ⟨e1, hx, hx0, sx⟩, ⟨e2, hy, hy0, sy⟩, hc, q⟩ := hsp
    obtain ⟨tt, hp, hrd⟩ := ht cdv A outer s (hid H (CellOf cl)) hr
    refine ⟨tt, hp, ?_⟩
    have hcl' : ∀ b, CellOf cl b → ∃ o, H b = some (Fz o) := fun b hb => by
      obtain ⟨o, h2⟩ := hcl b hb
      exact ⟨o, hz _ _ _ h2⟩
    have tu := tup_hid hcl'
    obtain ⟨ts, hla, hts⟩ := id hlog
    have nla : ¬ CellOf cl la := fun z => by
      obtain ⟨o, h2⟩ := hcl' la z
      rw [hla] at h2; cases h2
    have hla' : hid H (CellOf cl) la = some (.lst ts) := by rw [hid_out nla]; exact hla
    refine hrd x y _ _ ⟨la, way, x, y, e1, e2, ts, rfl, hla', ?_, ?_, ?_, sx, sy, fun p hpn hn => ?_⟩
    · rw [Paired.length hts]; omega
    · obtain ⟨p, h1, h2⟩ := hx; exact ⟨p, h1, tu _ _ h2⟩
    · obtain ⟨p, h1, h2⟩ := hy; exact ⟨p, h1, tu _ _ h2⟩
    · have ev : Evo (fun b => b = la) (hid H (CellOf cl)) (upd (upd (hid H (CellOf cl)) p (.tup [x, y])) la (.lst (ts ++ [.ref p]))) := (Evo.new hpn).trans (Evo.put (xs := ts) (by rw [upd_ne (ne_of_none hla' hpn)]; exact hla') rfl)
      have ev2 := ev.unhid
      have hlog' : LogAt la L (hid H (CellOf cl)) := hlog.keep fun b o e q => by
        rw [hid_out ?_]
        · exact e
        · intro z
          obtain ⟨ob, h2⟩ := hcl' b z
          rw [h2] at e
          rcases q with rfl | ⟨xs, rfl⟩
          · exact nla z
          · cases e
      have ef : ansF way e1 e2 = FA H0 way L x y := by
        show _ = ansF way (ct H0 x) (ct H0 y)
        rw [hx0.ct, hy0.ct]
      rw [ef]
      refine q _ ⟨fun b o u e => ev2.fz (hz b o u e), ?_⟩ ev2
      have hadd := hlog'.add (x := x) (y := y) hla' hpn
      exact hadd.keep fun b o e _ => by
        rw [unhid_out fun z => by rw [hn b z] at e; cases e]
        exact e
abbrev oeA (H0 : Hp) (la : Addr) (way : Int) : OE := ⟨fun b => b = la, SA H0 la, LgA H0 la, DomA H0, FA H0 way, 100000⟩
/-! ### a function that answers and notes nothing -/
def LgN (H0 : Hp) : Lg0 := fun _ H => ∀ b o u, H0 b = some (.frz o u) → H b = some (.frz o u)
abbrev SN (H0 : Hp) : Addr → Prop := fun b => ∃ o u, H0 b = some (.frz o u)
abbrev oeN (H0 : Hp) (way : Int) : OE := ⟨fun _ => False, SN H0, LgN H0, DomA H0, FA H0 way, 100000⟩

/-! ### the search -/
def spCif (P : Program) (w : World) (K : PySem.W.Frag) (mg : Str → Option Value) (base : Heap) (k : Nat) : Sp := fun vs H Q _ => ∃ (a f : Addr) (xs : List V) (M S : Addr → Prop) (Lg : Lg0) (Dom : Hp → V → Prop) (F : List (V × V) → V → V → Int) (t : Int → Bool) (key : V) (cap : Nat) (L : List (V × V)),
  vs = [.ref a, .ref f] ∧ Ora1 P w K mg base k f M S Lg Dom F t key cap ∧ SqL K H a xs ∧ xs.length ≤ 1000 ∧ ¬ M a ∧ (∀ x ∈ xs, Dom H x) ∧ Lg L H ∧ L.length + xs.length ≤ cap ∧
  ∀ H', Lg (YM.bis F t xs key L 0 xs.length).2 H' → Evo M H H' → Q (.int ((YM.bis F t xs key L 0 xs.length).1 : Nat)) H'
section
variable {P : Program} {w : World} {K : PySem.W.Frag} {mg : Str → Option Value} {base : Heap} {A : Adr}
theorem ok_count_in_front {k : Nat} (T : Txt K mg A) : FnOk P w K mg base CX0 (k + 1) A.f_count_in_front A.d_count_in_front ["row", "is_in_front"] (spCif P w K mg base k) := by
  refine T.fn_count_in_front.ok sc_count_in_front (fun vs H Q E h => ?_) (fun cdv Ar outer s H vs Q E hr h => ?_)
  · obtain ⟨a, f, xs, M, S, Lg, Dom, F, t, key, cap, L, rfl, _⟩ := h
    rfl
  · obtain ⟨a, f, xs, M, S, Lg, Dom, F, t, key, cap, L, rfl, O, hS, hlen, hMa, hD, hL, hcap, q⟩ := h
    have nd := sc_count_in_front.nd
    refine ⟨_, (pss_cons (ps_set (i := 2) nd rfl (Or.inl rfl) pe_int)
      (pss_cons (ps_set (i := 3) nd rfl (Or.inl rfl) (pe_callB call_len_seq (by rfl) T.bl_len YO.yb_len (pa_cons (pv 0) pa_nil)))
      (pss_cons (ps_while PassesOwn.never (pt_cmpR op_lt (pv 2) (pv 3) (nomark _)) (pss_cons (ps_set (i := 4) nd rfl (Or.inl rfl) (pe_op op_fdiv (pe_op op_add (pv 2) (pv 3)) pe_int))
      (pss_one (ps_if (pt_val (pe_callV (pv 1) (pa_cons (pe_ix ix_list (pv 0) (pv 4) (fun _ _ => rfl)) pa_nil))) (pss_one (ps_set (i := 2) nd rfl (Or.inl rfl) (pe_op op_add (pv 4) pe_int))) (pss_one (ps_set (i := 3) nd rfl (Or.inl rfl) (pv 4)))))))
      (pss_one (ps_ret (pv 2)))))), ?_⟩
    refine ⟨_, rfl, ⟨_, _, rfl, .inl hS, ?_⟩⟩
    refine ⟨fun m σ H' => ∃ (lo hi : Nat) (o : Option V) (L' : List (V × V)), σ = [some (.ref a), some (.ref f), some (.int lo), some (.int hi), o] ∧ m = hi - lo ∧ lo ≤ hi ∧ hi ≤ xs.length ∧ Lg L' H' ∧ Evo M H H' ∧
      YM.bis F t xs key L' lo hi = YM.bis F t xs key L 0 xs.length ∧ L'.length + (hi - lo) ≤ cap, ⟨xs.length, 0, xs.length, none, L, rfl, rfl, Nat.zero_le _, Nat.le_refl _, hL, Evo.refl, rfl, by omega⟩, ?_⟩
    rintro m σ H' ⟨lo, hi, o, L', rfl, rfl, h1, h2, hL', ev, hb, hc⟩
    refine ⟨_, rfl, ⟨_, rfl, ⟨_, _, rfl, rfl, ⟨_, rfl, ?_⟩⟩⟩⟩
    refine iteD (fun hlt => ?_) (fun hlt => ?_)
    · have hlt : lo < hi := by omega
      have hm : (lo + hi) / 2 < xs.length := by omega
      obtain ⟨x, hx⟩ : ∃ x, xs[(lo + hi) / 2]? = some x := ⟨xs[(lo + hi) / 2], by simp [hm]⟩
      have em : ((lo : Int) + (hi : Int)) / 2 = (((lo + hi) / 2 : Nat) : Int) := by omega
      have hat : atI xs (((lo : Int) + (hi : Int)) / 2) = some x := by rw [em]; exact atI_nat hx
      refine ⟨_, fun _ _ h => h, ?_⟩
      refine ⟨_, rfl, ⟨_, rfl, ⟨_, _, rfl, rfl, ⟨_, _, rfl, rfl, ⟨by omega, by omega⟩, ⟨_, rfl, ⟨f, _, rfl, O.fv.callV hr, ⟨_, rfl, ⟨_, rfl, ⟨_, _, _, x, rfl, rfl, ev.sqL hS hMa, hat, ?_⟩⟩⟩⟩⟩⟩⟩⟩⟩
      refine ⟨x, L', rfl, hL', O.ok.domE (hD x (List.mem_of_getElem? hx)) ev, by omega, fun H1 hL1 ev1 => ⟨_, rfl, ?_⟩⟩
      have hstep := YM.bis_step (F := F) (t := t) (key := key) (L := L') hlt hx
      refine iteB (fun hc1 => ?_) (fun hc1 => ?_)
      · rw [hc1, if_pos rfl] at hstep
        refine ⟨_, rfl, ⟨_, _, rfl, rfl, ?_⟩⟩
        refine ⟨hi - ((lo + hi) / 2 + 1), by omega, (lo + hi) / 2 + 1, hi, some (.int (((lo + hi) / 2 : Nat) : Int)), L' ++ [(x, key)], ?_, rfl, by omega, h2, hL1, ev.trans ev1, by rw [← hstep, hb], by rw [List.length_append, List.length_singleton]; omega⟩
        show [some (V.ref a), some (V.ref f), some (V.int (((lo : Int) + (hi : Int)) / 2 + 1)), some (V.int hi), some (V.int (((lo : Int) + (hi : Int)) / 2))] = _
        rw [em]
        rfl
      · rw [hc1, if_neg Bool.false_ne_true] at hstep
        refine ⟨_, rfl, ?_⟩
        refine ⟨(lo + hi) / 2 - lo, by omega, lo, (lo + hi) / 2, some (.int (((lo + hi) / 2 : Nat) : Int)), L' ++ [(x, key)], ?_, rfl, by omega, by omega, hL1, ev.trans ev1, by rw [← hstep, hb], by rw [List.length_append, List.length_singleton]; omega⟩
        show [some (V.ref a), some (V.ref f), some (V.int lo), some (V.int (((lo : Int) + (hi : Int)) / 2)), some (V.int (((lo : Int) + (hi : Int)) / 2))] = _
        rw [em]
    · refine ⟨_, rfl, ?_⟩
      rw [YM.bis_stop (by omega)] at hb
      rw [← hb] at q
      exact q H' hL' ev
end
def spSearch (P : Program) (w : World) (K : PySem.W.Frag) (mg : Str → Option Value) (base : Heap) (k : Nat) (tb : Addr) (qn : Str) (t : Int → Bool) : Sp := fun vs H Q _ => ∃ (a f : Addr) (xs : List V) (M S : Addr → Prop) (Lg : Lg0) (Dom : Hp → V → Prop) (F : List (V × V) → V → V → Int) (key : V) (cap : Nat) (L : List (V × V)),
  vs = [.ref a, key, .ref f] ∧ Ora P w K mg base k f M S Lg Dom F cap ∧ SqL K H a xs ∧ xs.length ≤ 1000 ∧ ¬ M a ∧ (∀ x ∈ xs, Dom H x) ∧ Dom H key ∧ Lg L H ∧ L.length + xs.length ≤ cap ∧ TabOk H tb (qL qn) ∧ ¬ S tb ∧ a ≠ tb ∧
  ∀ H', Lg (YM.bis F t xs key L 0 xs.length).2 H' → TabOk H' tb (qL qn) → Evo (fun b => M b ∨ b = tb) H H' → Q (.int ((YM.bis F t xs key L 0 xs.length).1 : Nat)) H'


/-! ### a function of two kinds of arguments -/
def spO2 (M : Addr → Prop) (Lg : Lg0) (DX DY : Hp → V → Prop) (F : List (V × V) → V → V → Int) (cap : Nat) : Sp := fun vs H Q _ => ∃ (x y : V) (L : List (V × V)), vs = [x, y] ∧ Lg L H ∧ DX H x ∧ DY H y ∧ L.length < cap ∧
  ∀ H', Lg (L ++ [(x, y)]) H' → Evo M H H' → Q (.int (F L x y)) H'
structure Ora2 (P : Program) (w : World) (K : PySem.W.Frag) (mg : Str → Option Value) (base : Heap) (k : Nat) (f : Addr) (M S : Addr → Prop) (Lg : Lg0) (DX DY : Hp → V → Prop) (F : List (V × V) → V → V → Int) (cap : Nat) : Prop where
  fv : FV P w K mg base k f (spO2 M Lg DX DY F cap)
  ok : OraK M S Lg DX
  oy : OraK M S Lg DY
theorem ora_lam2 {P : Program} {w : World} {K : PySem.W.Frag} {mg : Str → Option Value} {base : Heap} {k : Nat} {f g : Addr} {M S : Addr → Prop} {Lg : Lg0} {DX DY : Hp → V → Prop} {F : List (V × V) → V → V → Int} {cap : Nat} {t : Int → Bool} {qual : Str} {params : Arguments} {body : Expr} {scope : Scope} {cl : List (Str × Addr)} {N : List Str} {key : V} {Hf : Hp}
    (hlam : LamAt Hf g qual params body scope cl) (O : Ora2 P w K mg base k f M S Lg DX DY F cap) (Sc : LamScope N ["element"] scope) (inj : ∀ x y c, cl.lookup x = some c → cl.lookup y = some c → x = y) (has : ∀ x, scope.names.lookup x = some .free → ∃ c, cl.lookup x = some c) (hcells : ∀ x c, cl.lookup x = some c → x ∈ N.drop 1)
    (hbind : ∀ (pm cdv ctv : Value) (us : List Value), us.length = 1 → bindArgs (PySem.W.kla_fn "<lambda>" qual params body scope cl pm cdv ctv) ⟨us, []⟩ = pure ((["element"] : List Str).zip us))
    (ht : ∀ (cdv : Value) (A : Around) (outer : List Env) (s : Shared) (H : Hp), Room k (A.deeper (PySem.W.envX qual scope s.heap.objs.size g cdv cl)) →
      ∃ tt, PE (cxLam P w K mg base N qual scope g cdv cl A outer s H) body tt ∧ ∀ (x : V) (H1 : Hp) (Q : VK), (∃ sp, CallV (cxLam P w K mg base N qual scope g cdv cl A outer s H) f sp ∧ ∀ Q' : VK, (∀ i H2, Q (.bl (t i)) H2 → Q' (.int i) H2) → sp [x, key] H1 Q' E0) → tt [some x, some key, some (.ref f)] H1 Q)
    (hcat : CatchAt Hf cl (N.drop 1) [key, .ref f]) (hkey : DY Hf key) (hcl : ∀ b, CellOf cl b → ¬ S b ∧ ∃ o, Hf b = some (Fz o)) :
    Ora1 P w K mg base (k + 1) g M (fun b => S b ∨ ∃ o u, Hf b = some (.frz o u)) (fun L H => Lg L H ∧ (∀ b o u, Hf b = some (.frz o u) → H b = some (.frz o u)) ∧ DY H key) DX F t key cap := by
  have fzl : ∀ H, (∀ b o u, Hf b = some (.frz o u) → H b = some (.frz o u)) → LamAt H g qual params body scope cl ∧ CatchAt H cl (N.drop 1) [key, .ref f] := fun H hz => by
    refine ⟨?_, ?_⟩
    · obtain ⟨pm, c, ctv, oc, h1, h2, h3⟩ := hlam
      exact ⟨pm, c, ctv, oc, hz _ _ _ h1, hz _ _ _ h2, h3⟩
    · exact Paired.mapP hcat fun x v ⟨c, h1, o, u, h2, h3⟩ => ⟨c, h1, o, u, hz _ _ _ h2, h3⟩
  refine ⟨?_, ?_⟩
  · have FVl := lam_fv (P := P) (w := w) (K := K) (mg := mg) (base := base) (k := k) (f := g) (fvs := [key, .ref f]) (spb := fun vs H Q => spO1 M (fun L H => Lg L H ∧ (∀ b o u, Hf b = some (.frz o u) → H b = some (.frz o u)) ∧ DY H key) DX F t key cap vs H Q E0) Sc inj has hcells hbind ?_
    · refine FVl.imp fun vs H Q h => ?_
      obtain ⟨x, L, rfl, ⟨hL, hz, hk⟩, hx, hc, q⟩ := id h
      obtain ⟨h1, h2⟩ := fzl H hz
      exact ⟨rfl, h1, h2, h⟩
    · intro cdv A outer s H vs Q hr hsp hca
      obtain ⟨x, L, rfl, ⟨hL, hz, hk⟩, hx, hc, q⟩ := hsp
      obtain ⟨tt, hp, hrd⟩ := ht cdv A outer s (hid H (CellOf cl)) hr
      refine ⟨tt, hp, ?_⟩
      have hcl' : ∀ b, CellOf cl b → ¬ S b ∧ ∃ o, H b = some (Fz o) := fun b hb => by
        obtain ⟨h1, o, h2⟩ := hcl b hb
        exact ⟨h1, o, hz _ _ _ h2⟩
      have tu := tup_hid fun b hb => (hcl' b hb).2
      refine hrd x _ _ ⟨_, O.fv.callV hr, fun Q' hQ' => ⟨x, key, L, rfl, O.ok.hid hL hcl', O.ok.dom _ _ _ hx tu, O.oy.dom _ _ _ hk tu, hc, fun H1 hL1 ev1 => hQ' _ _ fun hn => ?_⟩⟩
      have ev2 := ev1.unhid
      exact q _ ⟨O.ok.unhid hL1 hn, fun b o u e => ev2.fz (hz b o u e), O.oy.domE hk ev2⟩ ev2
  · refine ⟨fun b hb => .inl (O.ok.sub b hb), fun L H H' ⟨h1, h2, h3⟩ hk => ⟨O.ok.keep L H H' h1 fun b o e q => hk b o e (q.imp .inl id), fun b o u e => hk b _ (h2 b o u e) (.inl (.inr ⟨o, u, e⟩)), O.oy.dom H H' _ h3 fun b xs e => hk b _ e (.inr ⟨xs, rfl⟩)⟩,
      fun L H b ⟨h1, h2, h3⟩ hb => ?_, O.ok.dom⟩
    rcases hb with hb | ⟨o, u, hb⟩
    · exact O.ok.there L H b h1 hb
    · exact ⟨_, h2 b o u hb⟩
def spSearch2 (P : Program) (w : World) (K : PySem.W.Frag) (mg : Str → Option Value) (base : Heap) (k : Nat) (tb : Addr) (qn : Str) (t : Int → Bool) : Sp := fun vs H Q _ => ∃ (a f : Addr) (xs : List V) (M S : Addr → Prop) (Lg : Lg0) (DX DY : Hp → V → Prop) (F : List (V × V) → V → V → Int) (key : V) (cap : Nat) (L : List (V × V)),
  vs = [.ref a, key, .ref f] ∧ Ora2 P w K mg base k f M S Lg DX DY F cap ∧ SqL K H a xs ∧ xs.length ≤ 1000 ∧ ¬ M a ∧ (∀ x ∈ xs, DX H x) ∧ DY H key ∧ Lg L H ∧ L.length + xs.length ≤ cap ∧ TabOk H tb (qL qn) ∧ ¬ S tb ∧ a ≠ tb ∧
  ∀ H', Lg (YM.bis F t xs key L 0 xs.length).2 H' → TabOk H' tb (qL qn) → Evo (fun b => M b ∨ b = tb) H H' → Q (.int ((YM.bis F t xs key L 0 xs.length).1 : Nat)) H'
section
variable {P : Program} {w : World} {K : PySem.W.Frag} {mg : Str → Option Value} {base : Heap} {A : Adr}
theorem ok_lower2 {k : Nat} (T : Txt K mg A) (CH : PySem.W.CodeHd base A.c_lower A.t_lower) (bm : BMain mg base) : FnOk P w K mg base CX0 (k + 3) A.f_lower A.d_lower ["row", "key", "order"] (spSearch2 P w K mg base k A.t_lower "lower" fun i => decide (i < 0)) := by
  have G_count_in_front : FnOk P w K mg base CX0 (k + 2) A.f_count_in_front A.d_count_in_front _ (spCif P w K mg base (k + 1)) := ok_count_in_front T
  refine T.fn_lower.okC sc_lower (fun vs H Q E h => ?_) (fun cdv hcdv Ar outer s H vs Q E hr h => ?_)
  · obtain ⟨a, f, xs, M, S, Lg, DX, DY, F, key, cap, L, rfl, _⟩ := h
    rfl
  · obtain ⟨a, f, xs, M, S, Lg, DX, DY, F, key, cap, L, rfl, O, hS, hlen, hMa, hD, hDk, hL, hcap, hTab, hSt, hat, q⟩ := h
    have nd := sc_lower.nd
    have hcd : cdv = .ref A.c_lower := hcdv.symm.trans T.cd_lower
    refine ⟨_, (pss_one (ps_ret (pe_callF G_count_in_front (hr.mono (by omega)) rfl T.mg_count_in_front T.fn_count_in_front.kp T.b_count_in_front (pa_cons (pv 0) (pa_cons (pe_lam hcd CH bm rfl) pa_nil))))), ?_⟩
    refine ⟨_, rfl, ⟨hTab, fun g H1 ok hgn hlam htab hold Hf Z => ?_⟩⟩
    have ev1 := tab_evo hTab hold
    have hMt : ¬ M A.t_lower := fun z => hSt (O.ok.sub _ z)
    have hL1 : Lg L H1 := O.ok.keep L H H1 hL fun b o e z => hold b o e fun y => by
      subst y
      rcases z with z | ⟨ys, rfl⟩
      · exact hSt z
      · obtain ⟨ps, h1, _⟩ := hTab
        rw [h1] at e; cases e
    have hDk1 : DY H1 key := O.oy.domE hDk ev1
    have hlf : LamAt Hf g _ _ _ _ _ := (by obtain ⟨pm, c, ctv, oc, h1, h2, h3⟩ := hlam; exact ⟨pm, c, ctv, oc, Z.to h1, Z.to h2, h3⟩)
    have hO := ora_lam2 (Hf := Hf) (t := fun i => decide (i < 0)) (N := ["element", "key", "order"]) (key := key) hlf O ⟨rfl, rfl, rfl, by decide +kernel, rfl, by decide +kernel, by decide +kernel, by decide +kernel⟩ (clos_inj rfl ok) clos_has (clos_cells rfl ok (by decide +kernel))
      (fun _ _ _ us hl => match us, hl with | [_], _ => rfl)
      (fun cdv A outer s H hr => ⟨_, pe_cmpR op_lt (pe_callV (pv 2) (pa_cons (pv 0) (pa_cons (pv 1) pa_nil))) pe_int (nomark _), fun x H1 Q ⟨sp, hc, hs⟩ => ⟨_, rfl, ⟨f, sp, rfl, hc, ⟨_, rfl, ⟨_, rfl, hs _ fun i H2 hq => ⟨_, _, rfl, rfl, hq⟩⟩⟩⟩⟩⟩)
      (Z.caught rfl (.cons ⟨1, rfl, rfl, rfl⟩ (.cons ⟨2, rfl, rfl, rfl⟩ .nil)))
      (O.oy.dom _ _ _ hDk1 fun b xs e => Z.to e)
      (fun b hb => by
        obtain ⟨h1, o, v, h2, _⟩ := Z.cell b (Z.own rfl hb)
        exact ⟨O.ok.no hL1 h1, o, h2⟩)
    refine ⟨a, g, xs, M, _, _, DX, F, _, key, cap, L, rfl, hO, ?_, hlen, hMa, fun x hx => O.ok.dom _ _ _ (O.ok.domE (hD x hx) ev1) fun b xs e => Z.to e, ⟨O.ok.froz Z hL1, fun b o u e => e, O.oy.dom _ _ _ hDk1 fun b xs e => Z.to e⟩, hcap, fun Hf' hL' ev => ?_⟩
    · have : SqL K H1 a xs := ev1.sqL hS hat
      rcases this with (h | ⟨o, h⟩) | h
      · exact .inl (.inl (Z.to h))
      · exact .inl (.inr ⟨o, Z.to h⟩)
      · exact .inr h
    · have evb := Z.back ev
      exact q _ (O.ok.unfroz Z ev hL1 hL'.1) (htab.evo evb hMt) ((ev1.mono fun b z => .inr z).trans (evb.mono fun b z => .inl z))
end
/-! ### the lambda of rank: order(pair[0], wanted) -/
def DPair (Dom : Hp → V → Prop) (c1 : V → V) : Hp → V → Prop := fun H x => ∃ p kv hv, x = .ref p ∧ H p = some (.tup [kv, hv]) ∧ Dom H kv ∧ c1 x = kv
def c2 (c1 : V → V) : V × V → V × V := fun p => (c1 p.1, p.2)
theorem ora_pair {P : Program} {w : World} {K : PySem.W.Frag} {mg : Str → Option Value} {base : Heap} {k : Nat} {f g : Addr} {M S : Addr → Prop} {Lg : Lg0} {Dom : Hp → V → Prop} {F : List (V × V) → V → V → Int} {cap : Nat} {qual : Str} {params : Arguments} {body : Expr} {scope : Scope} {cl : List (Str × Addr)} {N : List Str} {Hf : Hp} (L0 : List (V × V)) (c1 : V → V)
    (hlam : LamAt Hf g qual params body scope cl) (O : Ora P w K mg base k f M S Lg Dom F cap) (Sc : LamScope N ["pair", "wanted"] scope) (inj : ∀ x y c, cl.lookup x = some c → cl.lookup y = some c → x = y) (has : ∀ x, scope.names.lookup x = some .free → ∃ c, cl.lookup x = some c) (hcells : ∀ x c, cl.lookup x = some c → x ∈ N.drop 2)
    (hbind : ∀ (pm cdv ctv : Value) (us : List Value), us.length = 2 → bindArgs (PySem.W.kla_fn "<lambda>" qual params body scope cl pm cdv ctv) ⟨us, []⟩ = pure ((["pair", "wanted"] : List Str).zip us))
    (ht : ∀ (cdv : Value) (A : Around) (outer : List Env) (s : Shared) (H : Hp), Room k (A.deeper (PySem.W.envX qual scope s.heap.objs.size g cdv cl)) →
      ∃ tt, PE (cxLam P w K mg base N qual scope g cdv cl A outer s H) body tt ∧ ∀ (p : Addr) (kv hv y : V) (H1 : Hp) (Q : VK), H1 p = some (.tup [kv, hv]) → (∃ sp, CallV (cxLam P w K mg base N qual scope g cdv cl A outer s H) f sp ∧ sp [kv, y] H1 Q E0) → tt [some (.ref p), some y, some (.ref f)] H1 Q)
    (hcat : CatchAt Hf cl (N.drop 2) [.ref f]) (hcl : ∀ b, CellOf cl b → ¬ S b ∧ ∃ o, Hf b = some (Fz o)) :
    Ora2 P w K mg base (k + 1) g M (fun b => S b ∨ ∃ o u, Hf b = some (.frz o u)) (fun L H => Lg (L0 ++ L.map (c2 c1)) H ∧ (∀ b o u, Hf b = some (.frz o u) → H b = some (.frz o u))) (DPair Dom c1) Dom (fun L x y => F (L0 ++ L.map (c2 c1)) (c1 x) y) (cap - L0.length) := by
  have fzl : ∀ H, (∀ b o u, Hf b = some (.frz o u) → H b = some (.frz o u)) → LamAt H g qual params body scope cl ∧ CatchAt H cl (N.drop 2) [.ref f] := fun H hz => by
    refine ⟨?_, ?_⟩
    · obtain ⟨pm, c, ctv, oc, h1, h2, h3⟩ := hlam
      exact ⟨pm, c, ctv, oc, hz _ _ _ h1, hz _ _ _ h2, h3⟩
    · exact Paired.mapP hcat fun x v ⟨c, h1, o, u, h2, h3⟩ => ⟨c, h1, o, u, hz _ _ _ h2, h3⟩
  have keep : ∀ (L : List (V × V)) (H H' : Hp), (Lg (L0 ++ L.map (c2 c1)) H ∧ ∀ b o u, Hf b = some (.frz o u) → H b = some (.frz o u)) → (∀ b o, H b = some o → ((S b ∨ ∃ o u, Hf b = some (.frz o u)) ∨ ∃ xs, o = .tup xs) → H' b = some o) → (Lg (L0 ++ L.map (c2 c1)) H' ∧ ∀ b o u, Hf b = some (.frz o u) → H' b = some (.frz o u)) :=
    fun L H H' ⟨h1, h2⟩ hk => ⟨O.ok.keep _ H H' h1 fun b o e q => hk b o e (q.imp .inl id), fun b o u e => hk b _ (h2 b o u e) (.inl (.inr ⟨o, u, e⟩))⟩
  have there : ∀ (L : List (V × V)) (H : Hp) (b : Addr), (Lg (L0 ++ L.map (c2 c1)) H ∧ ∀ b o u, Hf b = some (.frz o u) → H b = some (.frz o u)) → (S b ∨ ∃ o u, Hf b = some (.frz o u)) → ∃ o, H b = some o := fun L H b ⟨h1, h2⟩ hb => by
    rcases hb with hb | ⟨o, u, hb⟩
    · exact O.ok.there _ H b h1 hb
    · exact ⟨_, h2 b o u hb⟩
  refine ⟨?_, ⟨fun b hb => .inl (O.ok.sub b hb), keep, there, fun H H' x ⟨p, kv, hv, e, h1, h2, h3⟩ hk => ⟨p, kv, hv, e, hk _ _ h1, O.ok.dom H H' kv h2 hk, h3⟩⟩, ⟨fun b hb => .inl (O.ok.sub b hb), keep, there, O.ok.dom⟩⟩
  have FVl := lam_fv (P := P) (w := w) (K := K) (mg := mg) (base := base) (k := k) (f := g) (fvs := [.ref f]) (spb := fun vs H Q => spO2 M (fun L H => Lg (L0 ++ L.map (c2 c1)) H ∧ (∀ b o u, Hf b = some (.frz o u) → H b = some (.frz o u))) (DPair Dom c1) Dom (fun L x y => F (L0 ++ L.map (c2 c1)) (c1 x) y) (cap - L0.length) vs H Q E0) Sc inj has hcells hbind ?_
  · refine FVl.imp fun vs H Q h => ?_
    obtain ⟨x, y, L, rfl, ⟨hL, hz⟩, hx, hy, hc, q⟩ := id h
    obtain ⟨h1, h2⟩ := fzl H hz
    exact ⟨rfl, h1, h2, h⟩
  · intro cdv A outer s H vs Q hr hsp hca
    obtain ⟨x, y, L, rfl, ⟨hL, hz⟩, ⟨p, kv, hv, rfl, hp, hkv, hck⟩, hy, hc, q⟩ := hsp
    obtain ⟨tt, hpe, hrd⟩ := ht cdv A outer s (hid H (CellOf cl)) hr
    refine ⟨tt, hpe, ?_⟩
    have hcl' : ∀ b, CellOf cl b → ¬ S b ∧ ∃ o, H b = some (Fz o) := fun b hb => by
      obtain ⟨h1, o, h2⟩ := hcl b hb
      exact ⟨h1, o, hz _ _ _ h2⟩
    have tu := tup_hid fun b hb => (hcl' b hb).2
    refine hrd p kv hv y _ _ (tu _ _ hp) ⟨_, O.fv.callV hr, kv, y, L0 ++ L.map (c2 c1), rfl, O.ok.hid hL hcl', O.ok.dom _ _ _ hkv tu, O.ok.dom _ _ _ hy tu, by rw [List.length_append, List.length_map]; omega, fun H1 hL1 ev1 => ?_⟩
    intro hn
    have ev2 := ev1.unhid
    have := q _ ⟨?_, fun b o u e => ev2.fz (hz b o u e)⟩ ev2
    · have this' : Q (V.int (F (L0 ++ L.map (c2 c1)) (c1 (V.ref p)) y)) _ := this
      rw [hck] at this'; exact this'
    · have e1 : L0 ++ (L ++ [(V.ref p, y)]).map (c2 c1) = L0 ++ L.map (c2 c1) ++ [(kv, y)] := by
        rw [List.map_append, ← List.append_assoc]
        show _ ++ [(c1 (V.ref p), y)] = _
        rw [hck]
      rw [e1]
      exact O.ok.unhid hL1 hn

/-! ### maps -/
def mfl (f kl : Addr) : List (Str × V) := [("order", V.ref f), ("kept", V.ref kl)]
theorem mfl_order (f kl : Addr) : (mfl f kl).lookup ("order" : Str) = some (.ref f) := by unfold mfl; rw [List.lookup_cons]; rfl
theorem ko : (("kept" : Str) == "order") = false := by decide +kernel
theorem mfl_kept (f kl : Addr) : (mfl f kl).lookup ("kept" : Str) = some (.ref kl) := by
  unfold mfl
  rw [List.lookup_cons, ko, List.lookup_cons]
  simp
theorem mfl_no (f kl : Addr) {m : Str} (h1 : (m == "order") = false) (h2 : (m == "kept") = false) : (mfl f kl).lookup m = none := by
  unfold mfl
  rw [List.lookup_cons, h1, List.lookup_cons, h2]
  rfl
theorem mfl_mk (f kl : Addr) : putF "kept" (.ref kl) (putF "order" (.ref f) []) = mfl f kl := by
  show (if ("order" : Str) = "kept" then _ else _ :: _) = _
  rw [if_neg (by decide +kernel)]; rfl
def MapAt (C : Addr) (H : Hp) (p f kl : Addr) (ens : List (V × V)) : Prop := (∃ dx, H p = some (.ins C dx (mfl f kl))) ∧ LogAt kl ens H
theorem MapAt.same {C : Addr} {H H' : Hp} {p f kl : Addr} {ens : List (V × V)} (h : MapAt C H p f kl ens) (s : Same H H') : MapAt C H' p f kl ens := ⟨h.1.imp fun _ e => s _ _ e, h.2.same s⟩
theorem MapAt.evo {M : Addr → Prop} {C : Addr} {H H' : Hp} {p f kl : Addr} {ens : List (V × V)} (h : MapAt C H p f kl ens) (ev : Evo M H H') (n1 : ¬ M p) (n2 : ¬ M kl) : MapAt C H' p f kl ens := ⟨h.1.imp fun _ e => ev _ _ e (.inl n1), h.2.evo ev n2⟩
/-- the key of an entry -/
def keyV (H : Hp) : V → V
  | .ref q => match H q with
    | some (.tup [k, _]) => k
    | _ => .non
  | _ => .non
theorem keyV_of {H : Hp} {q : Addr} {k h : V} (e : H q = some (.tup [k, h])) : keyV H (.ref q) = k := by
  show (match H q with | some (.tup [k, _]) => k | _ => V.non) = k
  rw [e]
theorem keys_map {H : Hp} : ∀ {ts : List V} {ens : List (V × V)}, Paired (fun t p => ∃ q, t = V.ref q ∧ H q = some (.tup [p.1, p.2])) ts ens → ts.map (keyV H) = ens.map (·.1)
  | _, _, .nil => rfl
  | _, _, .cons ⟨q, e1, e2⟩ r => by rw [List.map_cons, List.map_cons, keys_map r, e1, keyV_of e2]
/-- what an operation on a map may change besides -/
abbrev mT (A : Adr) (M : Addr → Prop) : Addr → Prop := fun b => M b ∨ b = A.t_lower ∨ b = A.t_Map_rank
structure MapIn (P : Program) (w : World) (K : PySem.W.Frag) (mg : Str → Option Value) (base : Heap) (A : Adr) (k : Nat) (o : OE) (p f kl : Addr) (ens : List (V × V)) (L : List (V × V)) (H : Hp) : Prop where
  O : o.At P w K mg base k f
  m : MapAt A.C_Map H p f kl ens
  len : ens.length ≤ 900
  nS : ¬ o.S kl
  dom : ∀ e ∈ ens, o.Dom H e.1
  lg : o.Lg L H
  cap : L.length + ens.length + 10 ≤ o.cap
  t1 : TabOk H A.t_lower (qL "lower")
  t2 : TabOk H A.t_Map_rank (qL "Map.rank")
  n1 : ¬ o.S A.t_lower
  n2 : ¬ o.S A.t_Map_rank
section
variable {P : Program} {w : World} {K : PySem.W.Frag} {mg : Str → Option Value} {base : Heap} {A : Adr} {k : Nat} {o : OE} {p f kl : Addr} {ens L : List (V × V)} {H : Hp}
theorem MapIn.kl1 (h : MapIn P w K mg base A k o p f kl ens L H) : ¬ mT A o.M kl := by
  obtain ⟨ts, h1, _⟩ := h.m.2
  rintro (z | z | z)
  · exact h.nS (h.O.ok.sub _ z)
  · exact tab_ne h.t1 h1 z
  · exact tab_ne h.t2 h1 z
theorem MapIn.p1 (h : MapIn P w K mg base A k o p f kl ens L H) (hM : ¬ o.M p) : ¬ mT A o.M p := by
  obtain ⟨dx, h1⟩ := h.m.1
  rintro (z | z | z)
  · exact hM z
  · obtain ⟨ps, h2, _⟩ := h.t1
    rw [← z, h1] at h2; cases h2
  · obtain ⟨ps, h2, _⟩ := h.t2
    rw [← z, h1] at h2; cases h2
end
def spMInit (A : Adr) : Sp := fun vs H Q _ => ∃ (p dx f : Addr), vs = [.ref p, .ref f] ∧ H p = some (.ins A.C_Map dx []) ∧ ∀ kl H', H kl = none → H' p = some (.ins A.C_Map dx (mfl f kl)) → H' kl = some (.lst []) → (∀ b u, H b = some u → b ≠ p → H' b = some u) → Q .non H'
def spRank (P : Program) (w : World) (K : PySem.W.Frag) (mg : Str → Option Value) (base : Heap) (A : Adr) (k : Nat) : Sp := fun vs H Q _ => ∃ (o : OE) (p f kl : Addr) (ens : List (V × V)) (key : V) (L : List (V × V)),
  vs = [.ref p, key] ∧ MapIn P w K mg base A k o p f kl ens L H ∧ o.Dom H key ∧
  ∀ H', o.Lg (YM.rkM o.F L (ens.map (·.1)) key).2 H' → TabOk H' A.t_lower (qL "lower") → TabOk H' A.t_Map_rank (qL "Map.rank") → Evo (mT A o.M) H H' → Q (.int ((YM.rkM o.F L (ens.map (·.1)) key).1 : Nat)) H'
def likeM (F : List (V × V) → V → V → Int) (L : List (V × V)) (ks : List V) (pl : Nat) (key : V) : Bool × List (V × V) := match ks[pl]? with
  | some k => (decide (F L k key = 0), L ++ [(k, key)])
  | none => (false, L)
def spMLike (P : Program) (w : World) (K : PySem.W.Frag) (mg : Str → Option Value) (base : Heap) (A : Adr) (k : Nat) : Sp := fun vs H Q _ => ∃ (o : OE) (p f kl : Addr) (ens : List (V × V)) (pl : Nat) (key : V) (L : List (V × V)),
  vs = [.ref p, .int pl, key] ∧ o.At P w K mg base k f ∧ MapAt A.C_Map H p f kl ens ∧ (∀ e ∈ ens, o.Dom H e.1) ∧ o.Dom H key ∧ o.Lg L H ∧ L.length < o.cap ∧
  ∀ H', o.Lg (likeM o.F L (ens.map (·.1)) pl key).2 H' → Evo o.M H H' → Q (.bl (likeM o.F L (ens.map (·.1)) pl key).1) H'
def spPut (P : Program) (w : World) (K : PySem.W.Frag) (mg : Str → Option Value) (base : Heap) (A : Adr) (k : Nat) : Sp := fun vs H Q _ => ∃ (o : OE) (p f kl : Addr) (ens : List (V × V)) (key held : V) (L : List (V × V)),
  vs = [.ref p, key, held] ∧ MapIn P w K mg base A k o p f kl ens L H ∧ ¬ o.M p ∧ o.Dom H key ∧
  ∀ H', MapAt A.C_Map H' p f kl (YM.ptM (YM.rkM o.F L (ens.map (·.1)) key).1 (YM.fnd o.F L (ens.map (·.1)) key).1 ens key held .non) → o.Lg (YM.fnd o.F L (ens.map (·.1)) key).2 H' → TabOk H' A.t_lower (qL "lower") → TabOk H' A.t_Map_rank (qL "Map.rank") → Evo (fun b => mT A o.M b ∨ b = kl) H H' → Q (.bl (!(YM.fnd o.F L (ens.map (·.1)) key).1)) H'
def spDrop (P : Program) (w : World) (K : PySem.W.Frag) (mg : Str → Option Value) (base : Heap) (A : Adr) (k : Nat) : Sp := fun vs H Q _ => ∃ (o : OE) (p f kl : Addr) (ens : List (V × V)) (key : V) (L : List (V × V)),
  vs = [.ref p, key] ∧ MapIn P w K mg base A k o p f kl ens L H ∧ ¬ o.M p ∧ o.Dom H key ∧
  ∀ H', MapAt A.C_Map H' p f kl (YM.dpM (YM.rkM o.F L (ens.map (·.1)) key).1 (YM.fnd o.F L (ens.map (·.1)) key).1 ens) → o.Lg (YM.fnd o.F L (ens.map (·.1)) key).2 H' → TabOk H' A.t_lower (qL "lower") → TabOk H' A.t_Map_rank (qL "Map.rank") → Evo (fun b => mT A o.M b ∨ b = kl) H H' → Q (.bl (YM.fnd o.F L (ens.map (·.1)) key).1) H'
def spMSize (A : Adr) : Sp := fun vs H Q _ => ∃ (p f kl : Addr) (ens : List (V × V)), vs = [.ref p] ∧ MapAt A.C_Map H p f kl ens ∧ Q (.int (ens.length : Nat)) H
def spMPairs (A : Adr) : Sp := fun vs H Q _ => ∃ (p f kl : Addr) (ens : List (V × V)) , vs = [.ref p] ∧ MapAt A.C_Map H p f kl ens ∧ ∀ q H', H q = none → LogAt q ens H' → Same H H' → Q (.ref q) H'
def spMCopy (A : Adr) : Sp := fun vs H Q _ => ∃ (p f kl : Addr) (ens : List (V × V)), vs = [.ref p] ∧ MapAt A.C_Map H p f kl ens ∧ ∀ q kl2 H', H q = none → H kl2 = none → q ≠ kl2 → MapAt A.C_Map H' q f kl2 ens → Same H H' → Q (.ref q) H'
section
variable {P : Program} {w : World} {K : PySem.W.Frag} {mg : Str → Option Value} {base : Heap} {A : Adr}
theorem ok_Map___init__ {k : Nat} (T : Txt K mg A) : FnOk P w K mg base CX0 (k + 1) A.f_Map___init__ A.d_Map___init__ ["self", "order"] (spMInit A) := by
  refine T.fn_Map___init__.ok sc_Map___init__ (fun vs H Q E h => ?_) (fun cdv Ar outer s H vs Q E hr h => ?_)
  · obtain ⟨p, dx, f, rfl, _⟩ := h
    rfl
  · obtain ⟨p, dx, f, rfl, hp, q⟩ := h
    have nd := sc_Map___init__.nd
    refine ⟨_, (pss_cons (ps_fld (pv 0) (pv 1) rfl)
      (pss_one (ps_fld (pv 0) (pe_lst pa_nil) rfl))), ?_⟩
    refine ⟨_, rfl, ⟨_, rfl, ⟨p, A.C_Map, dx, [], rfl, hp, T.cl_Map, T.n_Map_order, (by show 0 < 1000; decide), ?_⟩⟩⟩
    refine ⟨Nat.zero_le _, fun kl hkl => ⟨_, rfl, ⟨p, A.C_Map, dx, _, rfl, upd_old hkl upd_same, T.cl_Map, T.n_Map_kept, (by show 1 < 1000; decide), ?_⟩⟩⟩
    rw [mfl_mk]
    have npk : p ≠ kl := fun z => by rw [z, upd_same] at hkl; cases hkl
    have hkl0 : H kl = none := by rw [upd_ne npk.symm] at hkl; exact hkl
    refine q kl _ hkl0 upd_same (by rw [upd_ne npk.symm, upd_same]) fun b u e hb => ?_
    rw [upd_ne hb, upd_ne (ne_of_none e hkl0), upd_ne hb]; exact e
theorem ok_Map_size {k : Nat} (T : Txt K mg A) : FnOk P w K mg base CX0 (k + 1) A.f_Map_size A.d_Map_size ["self"] (spMSize A) := by
  refine T.fn_Map_size.ok sc_Map_size (fun vs H Q E h => ?_) (fun cdv Ar outer s H vs Q E hr h => ?_)
  · obtain ⟨p, f, kl, ens, rfl, _⟩ := h
    rfl
  · obtain ⟨p, f, kl, ens, rfl, ⟨⟨dx, hp⟩, ts, hts, hP⟩, q⟩ := h
    have nd := sc_Map_size.nd
    have lt := Paired.length hP
    refine ⟨_, (pss_one (ps_ret (pe_callB call_len_seq (by rfl) T.bl_len YO.yb_len (pa_cons (pe_fld (pv 0) rfl) pa_nil)))), ?_⟩
    refine ⟨_, rfl, ⟨p, _, dx, _, _, rfl, hp, T.cl_Map, T.n_Map_kept, mfl_kept _ _, ⟨_, _, rfl, .inl (SqL.of hts), ?_⟩⟩⟩
    rw [lt]; exact q
theorem ok_Map_pairs {k : Nat} (T : Txt K mg A) : FnOk P w K mg base CX0 (k + 1) A.f_Map_pairs A.d_Map_pairs ["self"] (spMPairs A) := by
  refine T.fn_Map_pairs.ok sc_Map_pairs (fun vs H Q E h => ?_) (fun cdv Ar outer s H vs Q E hr h => ?_)
  · obtain ⟨p, f, kl, ens, rfl, _⟩ := h
    rfl
  · obtain ⟨p, f, kl, ens, rfl, ⟨⟨dx, hp⟩, ts, hts, hP⟩, q⟩ := h
    have nd := sc_Map_pairs.nd
    refine ⟨_, (pss_one (ps_ret (pe_callTy call_list_of (by rfl) T.bl_list YO.yb_list (pa_cons (pe_fld (pv 0) rfl) pa_nil)))), ?_⟩
    refine ⟨_, rfl, ⟨p, _, dx, _, _, rfl, hp, T.cl_Map, T.n_Map_kept, mfl_kept _ _, ⟨_, _, rfl, .inl (SqL.of hts), fun q1 hq1 => ?_⟩⟩⟩
    have s1 := Same.new (o := .lst ts) hq1
    exact q q1 _ hq1 ⟨ts, upd_same, Paired.mapP hP fun t e ⟨r, e1, e2⟩ => ⟨r, e1, s1 _ _ e2⟩⟩ s1
end

section
variable {P : Program} {w : World} {K : PySem.W.Frag} {mg : Str → Option Value} {base : Heap} {A : Adr}
theorem ok_Map_rank {k : Nat} (T : Txt K mg A) (CH1 : PySem.W.CodeHd base A.c_lower A.t_lower) (CH : PySem.W.CodeHd base A.c_Map_rank A.t_Map_rank) (bm : BMain mg base) : FnOk P w K mg base CX0 (k + 5) A.f_Map_rank A.d_Map_rank ["self", "key"] (spRank P w K mg base A k) := by
  have G_lower : FnOk P w K mg base CX0 (k + 4) A.f_lower A.d_lower _ (spSearch2 P w K mg base (k + 1) A.t_lower "lower" fun i => decide (i < 0)) := ok_lower2 T CH1 bm
  refine T.fn_Map_rank.okC sc_Map_rank (fun vs H Q E h => ?_) (fun cdv hcdv Ar outer s H vs Q E hr h => ?_)
  · obtain ⟨o, p, f, kl, ens, key, L, rfl, _⟩ := h
    rfl
  · obtain ⟨o, p, f, kl, ens, key, L, rfl, I, hDk, q⟩ := h
    have nd := sc_Map_rank.nd
    have hcd : cdv = .ref A.c_Map_rank := hcdv.symm.trans T.cd_Map_rank
    have nkl := I.kl1
    obtain ⟨O, ⟨⟨dx, hp⟩, ts, hts, hP⟩, hlen, hnS, hdom, hL, hcap, hT1, hT2, hn1, hn2⟩ := I
    have lt := Paired.length hP
    refine ⟨_, (pss_cons (ps_set (i := 2) nd rfl (Or.inr rfl) (pe_fld (pv 0) rfl))
      (pss_one (ps_ret (pe_callF G_lower (hr.mono (by omega)) rfl T.mg_lower T.fn_lower.kp T.b_lower (pa_cons (pe_fld (pv 0) rfl) (pa_cons (pv 1) (pa_cons (pe_lam hcd CH bm rfl) pa_nil))))))), ?_⟩
    refine ⟨_, rfl, ⟨p, _, dx, _, _, rfl, hp, T.cl_Map, T.n_Map_order, mfl_order _ _, ?_⟩⟩
    refine ⟨_, rfl, ⟨p, _, dx, _, _, rfl, hp, T.cl_Map, T.n_Map_kept, mfl_kept _ _, ⟨_, rfl, ⟨hT2, fun g H1 ok hgn hlam htab hold Hf Z => ?_⟩⟩⟩⟩
    have ev1 := tab_evo hT2 hold
    have hL1 : o.Lg L H1 := O.ok.keep L H H1 hL fun b u e z => hold b u e fun y => by
      subst y
      rcases z with z | ⟨ys, rfl⟩
      · exact hn2 z
      · obtain ⟨ps, h1, _⟩ := hT2
        rw [h1] at e; cases e
    have S1 : Same H1 Hf := Z.same'
    have hlf : LamAt Hf g _ _ _ _ _ := (by obtain ⟨pm, c, ctv, oc, h1, h2, h3⟩ := hlam; exact ⟨pm, c, ctv, oc, Z.to h1, Z.to h2, h3⟩)
    have nkt : kl ≠ A.t_Map_rank := fun z => nkl (.inr (.inr z))
    have nkt1 : kl ≠ A.t_lower := fun z => nkl (.inr (.inl z))
    have hO := ora_pair (Hf := Hf) (N := ["pair", "wanted", "order"]) L (keyV H) hlf O ⟨rfl, rfl, rfl, by decide +kernel, rfl, by decide +kernel, by decide +kernel, by decide +kernel⟩ (clos_inj rfl ok) clos_has (clos_cells rfl ok (by decide +kernel))
      (fun _ _ _ us hl => match us, hl with | [_, _], _ => rfl)
      (fun cdv A outer s H hr => ⟨_, pe_callV (pv 2) (pa_cons (pe_ix ix_tup (pv 0) pe_int (fun _ _ => rfl)) (pa_cons (pv 1) pa_nil)), fun p kv hv y H1 Q hp ⟨sp, hc, hs⟩ => ⟨_, rfl, ⟨f, sp, rfl, hc, ⟨_, rfl, ⟨_, _, _, _, rfl, rfl, SqT.of hp, atI_nat (j := 0) (by rfl), ⟨_, rfl, hs⟩⟩⟩⟩⟩⟩)
      (Z.caught rfl (.cons ⟨2, rfl, rfl, rfl⟩ .nil))
      (fun b hb => by
        obtain ⟨h1, u, v, h2, _⟩ := Z.cell b (Z.own rfl hb)
        exact ⟨O.ok.no hL1 h1, u, h2⟩)
    have hk1 : H1 kl = some (.lst ts) := ev1.lst hts nkt
    have hPf : Paired (fun t e => ∃ r, t = V.ref r ∧ Hf r = some (.tup [e.1, e.2])) ts ens := Paired.mapP hP fun t e ⟨r, e1, e2⟩ => ⟨r, e1, Z.to (ev1.tup e2)⟩
    have hTf1 : TabOk Hf A.t_lower (qL "lower") := tabS (hT1.evo ev1 (fun z => T.ne_lower_Map_rank z)) S1
    refine ⟨kl, g, ts, _, _, _, _, _, _, key, _, [], rfl, hO, SqL.of (Z.to hk1), by omega, fun z => hnS (O.ok.sub _ z), fun x hx => ?_, O.ok.dom _ _ _ (O.ok.domE hDk ev1) fun b xs e => Z.to e, ⟨?_, fun b u v e => e⟩, ?_, hTf1, ?_, nkt1, fun Hf' hL' hT' ev => ?_⟩
    · obtain ⟨e, he, r, rfl, hr'⟩ := Paired.meml hP hx
      exact ⟨r, e.1, e.2, rfl, Z.to (ev1.tup hr'), O.ok.dom _ _ _ (O.ok.domE (hdom e he) ev1) (fun b xs e => Z.to e), keyV_of hr'⟩
    · rw [List.map_nil, List.append_nil]; exact O.ok.froz Z hL1
    · rw [List.length_nil]; omega
    · rintro (z | ⟨u, v, z⟩)
      · exact hn1 z
      · obtain ⟨ps, h1, _⟩ := hTf1
        rw [h1] at z; cases z
    · have hb := YM.bis_map (F := o.F) (t := fun i => decide (i < 0)) (c1 := keyV H) (c := c2 (keyV H)) (F' := fun L' x y => o.F (L ++ L'.map (c2 (keyV H))) (keyV H x) y) (L0 := L) (xs := ts) (key := key) (key' := key) (fun _ => rfl) (fun _ _ _ => rfl) ts.length [] 0 ts.length (by omega) (Nat.le_refl _)
      rw [List.map_nil, List.append_nil, keys_map hP] at hb
      have el : (ens.map (·.1)).length = ts.length := by rw [List.length_map, lt]
      have hb1 := hb.1
      have hb2 := hb.2
      have evb := Z.back ev
      have hLf := hL'.1
      rw [hb2] at hLf
      have q' := q _ (by unfold YM.rkM; rw [el]; exact O.ok.unfroz Z ev hL1 hLf) (tab_back Z ev hT') (htab.evo evb (fun z => z.elim (fun y => hn2 (O.ok.sub _ y)) fun y => T.ne_lower_Map_rank y.symm)) ((ev1.mono fun b z => .inr (.inr z)).trans (evb.mono fun b z => z.elim .inl fun y => .inr (.inl y)))
      unfold YM.rkM at q'
      rw [el, ← hb1] at q'
      exact q'
theorem ok_Map_is_like {k : Nat} (T : Txt K mg A) : FnOk P w K mg base CX0 (k + 1) A.f_Map_is_like A.d_Map_is_like ["self", "place", "key"] (spMLike P w K mg base A k) := by
  refine T.fn_Map_is_like.ok sc_Map_is_like (fun vs H Q E h => ?_) (fun cdv Ar outer s H vs Q E hr h => ?_)
  · obtain ⟨o, p, f, kl, ens, pl, key, L, rfl, _⟩ := h
    rfl
  · obtain ⟨o, p, f, kl, ens, pl, key, L, rfl, O, ⟨⟨dx, hp⟩, ts, hts, hP⟩, hdom, hDk, hL, hcap, q⟩ := h
    have nd := sc_Map_is_like.nd
    have lt := Paired.length hP
    refine ⟨_, (pss_cons (ps_set (i := 3) nd rfl (Or.inl rfl) (pe_fld (pv 0) rfl))
      (pss_one (ps_ret (pe_and (pe_cmpR op_lt (pv 1) (pe_callB call_len_seq (by rfl) T.bl_len YO.yb_len (pa_cons (pe_fld (pv 0) rfl) pa_nil)) (nomark _)) (pe_one (pe_cmpR op_eq (pe_callV (pv 3) (pa_cons (pe_ix ix_tup (pe_ix ix_list (pe_fld (pv 0) rfl) (pv 1) (fun _ _ => rfl)) pe_int (fun _ _ => rfl)) (pa_cons (pv 2) pa_nil))) pe_int (nomark _))))))), ?_⟩
    refine ⟨_, rfl, ⟨p, _, dx, _, _, rfl, hp, T.cl_Map, T.n_Map_order, mfl_order _ _, ?_⟩⟩
    refine ⟨_, rfl, ⟨_, rfl, ⟨p, _, dx, _, _, rfl, hp, T.cl_Map, T.n_Map_kept, mfl_kept _ _, ⟨_, _, rfl, .inl (SqL.of hts), ⟨_, _, rfl, rfl, ⟨_, rfl, ?_⟩⟩⟩⟩⟩⟩
    unfold likeM at q
    refine iteD (fun hc => ?_) (fun hc => ?_)
    · obtain ⟨e, he⟩ := get_lt (l := ens) (i := pl) (by omega)
      obtain ⟨t, ht, r, rfl, hr'⟩ := Paired.getr hP he
      rw [List.getElem?_map, he] at q
      refine ⟨_, rfl, ⟨f, _, rfl, O.fv.callV hr, ⟨_, rfl, ⟨p, _, dx, _, _, rfl, hp, T.cl_Map, T.n_Map_kept, mfl_kept _ _, ⟨_, rfl, ⟨_, _, _, _, rfl, rfl, SqL.of hts, atI_nat ht, ⟨_, _, _, _, rfl, rfl, SqT.of hr', atI_nat (j := 0) (by rfl), ⟨_, rfl, ?_⟩⟩⟩⟩⟩⟩⟩⟩
      refine ⟨e.1, key, L, rfl, hL, hdom e (List.mem_of_getElem? he), hDk, hcap, fun H2 hL2 ev2 => ⟨rfl, ?_⟩⟩
      have := q H2 hL2 ev2
      have e1 : decide (V.int (o.F L e.1 key) = V.int 0) = decide (o.F L e.1 key = 0) := by
        by_cases hz : o.F L e.1 key = 0
        · rw [hz, decide_eq_true rfl, decide_eq_true rfl]
        · rw [decide_eq_false hz, decide_eq_false fun z => hz (V.int.inj z)]
      show Q (V.bl (decide (V.int (o.F L e.1 key) = V.int 0))) H2
      rw [e1]; exact this
    · rw [List.getElem?_eq_none (by rw [List.length_map]; omega)] at q
      exact q H hL Evo.refl
end

theorem fnd_like {F : List (V × V) → V → V → Int} {L : List (V × V)} {ks : List V} {key : V} : YM.fnd F L ks key = likeM F (YM.rkM F L ks key).2 ks (YM.rkM F L ks key).1 key := by
  unfold YM.fnd likeM
  cases ks[(YM.rkM F L ks key).1]? <;> rfl
theorem Paired.set {α β : Type} {F : α → β → Prop} {x : α} {y : β} (h : F x y) : ∀ {l₁ : List α} {l₂ : List β} (j : Nat), Paired F l₁ l₂ → Paired F (l₁.set j x) (l₂.set j y)
  | _, _, _, .nil => .nil
  | _, _, 0, .cons r t => .cons h t
  | _, _, j + 1, .cons r t => .cons r (Paired.set h j t)
theorem Paired.era {α β : Type} {F : α → β → Prop} : ∀ {l₁ : List α} {l₂ : List β} (j : Nat), Paired F l₁ l₂ → Paired F (l₁.eraseIdx j) (l₂.eraseIdx j)
  | _, _, _, .nil => .nil
  | _, _, 0, .cons r t => t
  | _, _, j + 1, .cons r t => .cons r (Paired.era j t)
theorem ixN_nat {n j : Nat} (h : j < n) : ixN n (j : Int) = some j := by
  unfold ixN
  rw [if_pos (by omega), if_pos (by omega), Int.toNat_natCast]
theorem seqIx_nat {n j : Nat} (h : j < n) : seqIndex? (j : Int) n = some j := (ixN_seq (ixN_nat h)).1
section
variable {P : Program} {w : World} {K : PySem.W.Frag} {mg : Str → Option Value} {base : Heap} {A : Adr}
theorem ok_Map_put {k : Nat} (T : Txt K mg A) (CH1 : PySem.W.CodeHd base A.c_lower A.t_lower) (CH : PySem.W.CodeHd base A.c_Map_rank A.t_Map_rank) (bm : BMain mg base) : FnOk P w K mg base CX0 (k + 6) A.f_Map_put A.d_Map_put ["self", "key", "held"] (spPut P w K mg base A k) := by
  have G_Map_rank : FnOk P w K mg base CX0 (k + 5) A.f_Map_rank A.d_Map_rank _ (spRank P w K mg base A k) := ok_Map_rank T CH1 CH bm
  have G_Map_is_like : FnOk P w K mg base CX0 (k + 1) A.f_Map_is_like A.d_Map_is_like _ (spMLike P w K mg base A k) := ok_Map_is_like T
  refine T.fn_Map_put.ok sc_Map_put (fun vs H Q E h => ?_) (fun cdv Ar outer s H vs Q E hr h => ?_)
  · obtain ⟨o, p, f, kl, ens, key, held, L, rfl, _⟩ := h
    rfl
  · obtain ⟨o, p, f, kl, ens, key, held, L, rfl, I, hMp, hDk, q⟩ := h
    have nd := sc_Map_put.nd
    have O := I.O
    have nkl := I.kl1
    have np := I.p1 hMp
    have hm0 := I.m
    obtain ⟨dx, hp⟩ := I.m.1
    refine ⟨_, (pss_cons (ps_set (i := 3) nd rfl (Or.inl rfl) (pe_meth (pv 0) T.cl_Map T.m_Map_rank G_Map_rank (hr.mono (by omega)) T.b_Map_rank .nil pass0 (pa_cons (pv 1) pa_nil)))
      (pss_cons (ps_if (pt_val (pe_meth (pv 0) T.cl_Map T.m_Map_is_like G_Map_is_like (hr.mono (by omega)) T.b_Map_is_like .nil pass0 (pa_cons (pv 3) (pa_cons (pv 1) pa_nil)))) (pss_cons (ps_set (i := 4) nd rfl (Or.inl rfl) (pe_ix ix_tup (pe_ix ix_list (pe_fld (pv 0) rfl) (pv 3) (fun _ _ => rfl)) pe_int (fun _ _ => rfl)))
      (pss_cons (ps_asg (pe_tup (pa_cons (pv 4) (pa_cons (pv 2) pa_nil))) (pg_sub (pe_fld (pv 0) rfl) (pv 3) set_list))
      (pss_one (ps_ret pe_bl)))) pss_nil)
      (pss_cons (ps_expr (pe_bm PySem.F.plainAttrs_list PySem.F.slot_list_insert PySem.F.type_list_insert mt_insert (pe_fld (pv 0) rfl) (pa_cons (pv 3) (pa_cons (pe_tup (pa_cons (pv 1) (pa_cons (pv 2) pa_nil))) pa_nil))))
      (pss_one (ps_ret pe_bl))))), ?_⟩
    refine ⟨_, rfl, p, dx, _, rfl, hp, mfl_no _ _ (by decide +kernel) (by decide +kernel), ⟨_, rfl, ?_⟩⟩
    refine ⟨o, p, f, kl, ens, key, L, rfl, I, hDk, fun H1 hL1 t1 t2 ev1 => ?_⟩
    have hle := YM.rkM_le (F := o.F) (L := L) (ks := ens.map (·.1)) (key := key)
    rw [List.length_map] at hle
    obtain ⟨M1, lm1, lm2, _⟩ := YM.rkM_log (F := o.F) (L := L) (ks := ens.map (·.1)) (key := key)
    have lm2 : M1.length ≤ YM.clog (ens.length + 1) := by rw [List.length_map] at lm2; exact lm2
    have hcl : YM.clog (ens.length + 1) ≤ ens.length + 1 := YM.clog_least _ _ (Nat.le_of_lt Nat.lt_two_pow_self)
    have hlt := YM.fnd_lt (F := o.F) (L := L) (ks := ens.map (·.1)) (key := key)
    rw [fnd_like] at q hlt
    rw [List.length_map] at hlt
    generalize YM.rkM o.F L (ens.map (·.1)) key = R at q hle hL1 lm1 hlt
    have hm1 := hm0.evo ev1 np nkl
    refine seq_via (I := fun σ H' => H' = H1 ∧ σ = [some (V.ref p), some key, some held, some (V.int (R.1 : Nat)), none]) (fun N hN => hN _ _ ⟨rfl, rfl⟩) ?_
    rintro σ H1' ⟨e1, rfl⟩
    rw [← e1] at hL1 t1 t2 ev1 hm1
    clear e1
    obtain ⟨dx1, hp1⟩ := hm1.1
    refine ⟨_, rfl, p, dx1, _, rfl, hp1, mfl_no _ _ (by decide +kernel) (by decide +kernel), ⟨_, rfl, ⟨_, rfl, ?_⟩⟩⟩
    refine ⟨o, p, f, kl, ens, R.1, key, R.2, rfl, O, hm1, fun e he => O.ok.domE (I.dom e he) ev1, O.ok.domE hDk ev1, hL1, by rw [lm1, List.length_append]; have := I.cap; omega, fun H2 hL2 ev2 => ?_⟩
    have nkM : ¬ o.M kl := fun z => nkl (.inl z)
    have hm2 := hm1.evo ev2 hMp nkM
    have ev02 : Evo (mT A o.M) H H2 := ev1.trans (ev2.mono fun b z => .inl z)
    have t12 := t1.evo ev2 fun z => I.n1 (O.ok.sub _ z)
    have t22 := t2.evo ev2 fun z => I.n2 (O.ok.sub _ z)
    obtain ⟨⟨dx2, hp2⟩, ts, hts, hP⟩ := id hm2
    have lt := Paired.length hP
    have hlen := I.len
    generalize likeM o.F R.2 (ens.map (·.1)) R.1 key = W at q hL2 hlt
    refine ⟨_, rfl, ?_⟩
    refine iteB (fun hc => ?_) (fun hc => ?_)
    · have hlt := hlt hc
      obtain ⟨e, he⟩ := get_lt (l := ens) (i := R.1) hlt
      obtain ⟨t, ht, r, rfl, hr'⟩ := Paired.getr hP he
      refine ⟨_, rfl, ⟨p, _, dx2, _, _, rfl, hp2, T.cl_Map, T.n_Map_kept, mfl_kept _ _, ⟨_, rfl, ⟨_, _, _, _, rfl, rfl, SqL.of hts, atI_nat ht, ⟨_, _, _, _, rfl, rfl, SqT.of hr', atI_nat (j := 0) (by rfl), ?_⟩⟩⟩⟩⟩
      refine ⟨_, rfl, ⟨_, rfl, ⟨(by show 2 ≤ sizeLine; decide), fun r2 hr2 => ?_⟩⟩⟩
      have s3 := Same.new (o := .tup [e.1, held]) hr2
      have h3r : (upd H2 r2 (.tup [e.1, held])) r2 = some (.tup [e.1, held]) := upd_same
      have hr2n : r2 ≠ kl := (ne_of_none hts hr2).symm
      generalize upd H2 r2 (.tup [e.1, held]) = H3 at s3 h3r
      refine ⟨_, rfl, ⟨p, _, dx2, _, _, rfl, s3 _ _ hp2, T.cl_Map, T.n_Map_kept, mfl_kept _ _, ⟨_, rfl, ⟨_, _, _, _, rfl, rfl, s3 _ _ hts, ixN_nat (by omega), ?_⟩⟩⟩⟩
      have npk : p ≠ kl := fun z => by rw [z, hts] at hp2; cases hp2
      rw [hc] at q
      have ev4 : Evo (fun b => b = kl) H3 (upd H3 kl (.lst (ts.set R.1 (.ref r2)))) := Evo.put (s3 _ _ hts) rfl
      refine q _ ⟨⟨dx2, by rw [upd_ne npk]; exact s3 _ _ hp2⟩, _, upd_same, ?_⟩ (O.ok.put (O.ok.evo0 hL2 s3) (s3 _ _ hts) I.nS) ((t12.evo (M := fun _ => False) (Same.evo s3) id).evo ev4 (tab_ne t12 hts).symm) ((t22.evo (M := fun _ => False) (Same.evo s3) id).evo ev4 (tab_ne t22 hts).symm) ((ev02.mono fun b z => .inl z).trans ((Same.evo s3).trans (ev4.mono fun b z => .inr z)))
      unfold YM.ptM
      rw [if_pos rfl, he]
      exact Paired.set ⟨r2, rfl, ev4.tup h3r⟩ R.1 (Paired.mapP hP fun t e ⟨r, e1, e2⟩ => ⟨r, e1, ev4.tup (s3 _ _ e2)⟩)
    · refine ⟨_, rfl, ⟨p, _, dx2, _, _, rfl, hp2, T.cl_Map, T.n_Map_kept, mfl_kept _ _, ⟨.inl ⟨rfl, _, SqL.of hts⟩, ⟨_, rfl, ⟨_, rfl, ⟨_, rfl, ⟨(by show 2 ≤ sizeLine; decide), fun r2 hr2 => ?_⟩⟩⟩⟩⟩⟩⟩
      have s3 := Same.new (o := .tup [key, held]) hr2
      have h3r : (upd H2 r2 (.tup [key, held])) r2 = some (.tup [key, held]) := upd_same
      generalize upd H2 r2 (.tup [key, held]) = H3 at s3 h3r
      refine ⟨kl, ts, R.1, .ref r2, rfl, rfl, s3 _ _ hts, by omega, Nat.lt_of_lt_of_le (show ts.length < 1001 by omega) (by decide), ?_⟩
      have npk : p ≠ kl := fun z => by rw [z, hts] at hp2; cases hp2
      rw [hc] at q
      have ev4 : Evo (fun b => b = kl) H3 (upd H3 kl (.lst (ts.take R.1 ++ V.ref r2 :: ts.drop R.1))) := Evo.put (s3 _ _ hts) rfl
      refine q _ ⟨⟨dx2, by rw [upd_ne npk]; exact s3 _ _ hp2⟩, _, upd_same, ?_⟩ (O.ok.put (O.ok.evo0 hL2 s3) (s3 _ _ hts) I.nS) ((t12.evo (M := fun _ => False) (Same.evo s3) id).evo ev4 (tab_ne t12 hts).symm) ((t22.evo (M := fun _ => False) (Same.evo s3) id).evo ev4 (tab_ne t22 hts).symm) ((ev02.mono fun b z => .inl z).trans ((Same.evo s3).trans (ev4.mono fun b z => .inr z)))
      unfold YM.ptM
      rw [if_neg Bool.false_ne_true]
      have hP4 : Paired (fun (t : V) (e : V × V) => ∃ q, t = V.ref q ∧ (upd H3 kl (.lst (ts.take R.1 ++ V.ref r2 :: ts.drop R.1))) q = some (.tup [e.1, e.2])) ts ens := Paired.mapP hP fun t e ⟨r, e1, e2⟩ => ⟨r, e1, ev4.tup (s3 _ _ e2)⟩
      exact Paired.app (Paired.tak R.1 hP4) (.cons ⟨r2, rfl, ev4.tup h3r⟩ (Paired.drp R.1 hP4))
theorem ok_Map_drop {k : Nat} (T : Txt K mg A) (CH1 : PySem.W.CodeHd base A.c_lower A.t_lower) (CH : PySem.W.CodeHd base A.c_Map_rank A.t_Map_rank) (bm : BMain mg base) : FnOk P w K mg base CX0 (k + 6) A.f_Map_drop A.d_Map_drop ["self", "key"] (spDrop P w K mg base A k) := by
  have G_Map_rank : FnOk P w K mg base CX0 (k + 5) A.f_Map_rank A.d_Map_rank _ (spRank P w K mg base A k) := ok_Map_rank T CH1 CH bm
  have G_Map_is_like : FnOk P w K mg base CX0 (k + 1) A.f_Map_is_like A.d_Map_is_like _ (spMLike P w K mg base A k) := ok_Map_is_like T
  refine T.fn_Map_drop.ok sc_Map_drop (fun vs H Q E h => ?_) (fun cdv Ar outer s H vs Q E hr h => ?_)
  · obtain ⟨o, p, f, kl, ens, key, L, rfl, _⟩ := h
    rfl
  · obtain ⟨o, p, f, kl, ens, key, L, rfl, I, hMp, hDk, q⟩ := h
    have nd := sc_Map_drop.nd
    have O := I.O
    have nkl := I.kl1
    have np := I.p1 hMp
    have hm0 := I.m
    obtain ⟨dx, hp⟩ := I.m.1
    refine ⟨_, (pss_cons (ps_set (i := 2) nd rfl (Or.inl rfl) (pe_meth (pv 0) T.cl_Map T.m_Map_rank G_Map_rank (hr.mono (by omega)) T.b_Map_rank .nil pass0 (pa_cons (pv 1) pa_nil)))
      (pss_cons (ps_if (pt_val (pe_meth (pv 0) T.cl_Map T.m_Map_is_like G_Map_is_like (hr.mono (by omega)) T.b_Map_is_like .nil pass0 (pa_cons (pv 2) (pa_cons (pv 1) pa_nil)))) (pss_cons (ps_expr (pe_bm PySem.F.plainAttrs_list PySem.F.slot_list_pop PySem.F.type_list_pop mt_popAt (pe_fld (pv 0) rfl) (pa_cons (pv 2) pa_nil)))
      (pss_one (ps_ret pe_bl))) pss_nil)
      (pss_one (ps_ret pe_bl)))), ?_⟩
    refine ⟨_, rfl, p, dx, _, rfl, hp, mfl_no _ _ (by decide +kernel) (by decide +kernel), ⟨_, rfl, ?_⟩⟩
    refine ⟨o, p, f, kl, ens, key, L, rfl, I, hDk, fun H1 hL1 t1 t2 ev1 => ?_⟩
    have hle := YM.rkM_le (F := o.F) (L := L) (ks := ens.map (·.1)) (key := key)
    rw [List.length_map] at hle
    obtain ⟨M1, lm1, lm2, _⟩ := YM.rkM_log (F := o.F) (L := L) (ks := ens.map (·.1)) (key := key)
    have lm2 : M1.length ≤ YM.clog (ens.length + 1) := by rw [List.length_map] at lm2; exact lm2
    have hcl : YM.clog (ens.length + 1) ≤ ens.length + 1 := YM.clog_least _ _ (Nat.le_of_lt Nat.lt_two_pow_self)
    have hlt := YM.fnd_lt (F := o.F) (L := L) (ks := ens.map (·.1)) (key := key)
    rw [fnd_like] at q hlt
    rw [List.length_map] at hlt
    generalize YM.rkM o.F L (ens.map (·.1)) key = R at q hle hL1 lm1 hlt
    have hm1 := hm0.evo ev1 np nkl
    refine seq_via (I := fun σ H' => H' = H1 ∧ σ = [some (V.ref p), some key, some (V.int (R.1 : Nat))]) (fun N hN => hN _ _ ⟨rfl, rfl⟩) ?_
    rintro σ H1' ⟨e1, rfl⟩
    rw [← e1] at hL1 t1 t2 ev1 hm1
    clear e1
    obtain ⟨dx1, hp1⟩ := hm1.1
    refine ⟨_, rfl, p, dx1, _, rfl, hp1, mfl_no _ _ (by decide +kernel) (by decide +kernel), ⟨_, rfl, ⟨_, rfl, ?_⟩⟩⟩
    refine ⟨o, p, f, kl, ens, R.1, key, R.2, rfl, O, hm1, fun e he => O.ok.domE (I.dom e he) ev1, O.ok.domE hDk ev1, hL1, by rw [lm1, List.length_append]; have := I.cap; omega, fun H2 hL2 ev2 => ?_⟩
    have nkM : ¬ o.M kl := fun z => nkl (.inl z)
    have hm2 := hm1.evo ev2 hMp nkM
    have ev02 : Evo (mT A o.M) H H2 := ev1.trans (ev2.mono fun b z => .inl z)
    have t12 := t1.evo ev2 fun z => I.n1 (O.ok.sub _ z)
    have t22 := t2.evo ev2 fun z => I.n2 (O.ok.sub _ z)
    obtain ⟨⟨dx2, hp2⟩, ts, hts, hP⟩ := id hm2
    have lt := Paired.length hP
    generalize likeM o.F R.2 (ens.map (·.1)) R.1 key = W at q hL2 hlt
    refine ⟨_, rfl, ?_⟩
    refine iteB (fun hc => ?_) (fun hc => ?_)
    · have hlt := hlt hc
      have hlen := I.len
      obtain ⟨t, ht⟩ := get_lt (l := ts) (i := R.1) (by omega)
      have npk : p ≠ kl := fun z => by rw [z, hts] at hp2; cases hp2
      refine ⟨_, rfl, ⟨p, _, dx2, _, _, rfl, hp2, T.cl_Map, T.n_Map_kept, mfl_kept _ _, ⟨.inl ⟨rfl, _, SqL.of hts⟩, ⟨_, rfl, ⟨kl, ts, _, R.1, t, rfl, rfl, hts, by omega, by omega, seqIx_nat (by omega), ht, ?_⟩⟩⟩⟩⟩
      rw [hc] at q
      have ev4 : Evo (fun b => b = kl) H2 (upd H2 kl (.lst (ts.eraseIdx R.1))) := Evo.put hts rfl
      refine q _ ⟨⟨dx2, by rw [upd_ne npk]; exact hp2⟩, _, upd_same, ?_⟩ (O.ok.put hL2 hts I.nS) (t12.evo ev4 (tab_ne t12 hts).symm) (t22.evo ev4 (tab_ne t22 hts).symm) ((ev02.mono fun b z => .inl z).trans (ev4.mono fun b z => .inr z))
      unfold YM.dpM
      rw [if_pos rfl]
      exact Paired.era R.1 (Paired.mapP hP fun t e ⟨r, e1, e2⟩ => ⟨r, e1, ev4.tup e2⟩)
    · rw [hc] at q
      refine q H2 ?_ hL2 t12 t22 (ev02.mono fun b z => .inl z)
      unfold YM.dpM
      rw [if_neg Bool.false_ne_true]
      exact hm2
end

/-! ### get, at -/
def spGet (P : Program) (w : World) (K : PySem.W.Frag) (mg : Str → Option Value) (base : Heap) (A : Adr) (k : Nat) : Sp := fun vs H Q E => ∃ (o : OE) (p f kl : Addr) (ens : List (V × V)) (key : V) (L : List (V × V)),
  vs = [.ref p, key] ∧ MapIn P w K mg base A k o p f kl ens L H ∧ ¬ o.M p ∧ o.Dom H key ∧
  ∀ H', MapAt A.C_Map H' p f kl ens → o.Lg (YM.fnd o.F L (ens.map (·.1)) key).2 H' → TabOk H' A.t_lower (qL "lower") → TabOk H' A.t_Map_rank (qL "Map.rank") → Evo (mT A o.M) H H' →
    ((YM.fnd o.F L (ens.map (·.1)) key).1 = true → ∀ e, ens[(YM.rkM o.F L (ens.map (·.1)) key).1]? = some e → Q e.2 H') ∧ ((YM.fnd o.F L (ens.map (·.1)) key).1 = false → ∀ x, E (.ref x) (some A.X_NoElement) H')
section
variable {P : Program} {w : World} {K : PySem.W.Frag} {mg : Str → Option Value} {base : Heap} {A : Adr}
theorem ok_Map_get {k : Nat} (T : Txt K mg A) (CH1 : PySem.W.CodeHd base A.c_lower A.t_lower) (CH : PySem.W.CodeHd base A.c_Map_rank A.t_Map_rank) (bm : BMain mg base) (OC : Own mg base A) : FnOk P w K mg base (CXE P w) (k + 6) A.f_Map_get A.d_Map_get ["self", "key"] (spGet P w K mg base A k) := by
  have G_Map_rank : FnOk P w K mg base CX0 (k + 5) A.f_Map_rank A.d_Map_rank _ (spRank P w K mg base A k) := ok_Map_rank T CH1 CH bm
  have G_Map_is_like : FnOk P w K mg base CX0 (k + 1) A.f_Map_is_like A.d_Map_is_like _ (spMLike P w K mg base A k) := ok_Map_is_like T
  refine T.fn_Map_get.okX sc_Map_get (fun vs H Q E h => ?_) (fun cdv Ar outer s H vs Q E hr h => ?_)
  · obtain ⟨o, p, f, kl, ens, key, L, rfl, _⟩ := h
    rfl
  · obtain ⟨o, p, f, kl, ens, key, L, rfl, I, hMp, hDk, q⟩ := h
    have nd := sc_Map_get.nd
    have O := I.O
    have nkl := I.kl1
    have np := I.p1 hMp
    have hm0 := I.m
    obtain ⟨dx, hp⟩ := I.m.1
    refine ⟨_, (pss_cons (ps_set (i := 2) nd rfl (Or.inl rfl) (pe_meth (pv 0) T.cl_Map T.m_Map_rank G_Map_rank (hr.mono (by omega)) T.b_Map_rank .nil pass0 (pa_cons (pv 1) pa_nil)))
      (pss_cons (ps_if (pt_val (pe_meth (pv 0) T.cl_Map T.m_Map_is_like G_Map_is_like (hr.mono (by omega)) T.b_Map_is_like .nil pass0 (pa_cons (pv 2) (pa_cons (pv 1) pa_nil)))) (pss_one (ps_ret (pe_ix ix_tup (pe_ix ix_list (pe_fld (pv 0) rfl) (pv 2) (fun _ _ => rfl)) pe_int (fun _ _ => rfl)))) pss_nil)
      (pss_one (ps_raise raises_cxOf OC.NoElement PySem.F.excBase_ValueError rfl rfl (pa_cons pe_str pa_nil))))), ?_⟩
    refine ⟨_, rfl, p, dx, _, rfl, hp, mfl_no _ _ (by decide +kernel) (by decide +kernel), ⟨_, rfl, ?_⟩⟩
    refine ⟨o, p, f, kl, ens, key, L, rfl, I, hDk, fun H1 hL1 t1 t2 ev1 => ?_⟩
    have hle := YM.rkM_le (F := o.F) (L := L) (ks := ens.map (·.1)) (key := key)
    rw [List.length_map] at hle
    obtain ⟨M1, lm1, lm2, _⟩ := YM.rkM_log (F := o.F) (L := L) (ks := ens.map (·.1)) (key := key)
    have lm2 : M1.length ≤ YM.clog (ens.length + 1) := by rw [List.length_map] at lm2; exact lm2
    have hcl : YM.clog (ens.length + 1) ≤ ens.length + 1 := YM.clog_least _ _ (Nat.le_of_lt Nat.lt_two_pow_self)
    have hlt := YM.fnd_lt (F := o.F) (L := L) (ks := ens.map (·.1)) (key := key)
    rw [fnd_like] at q hlt
    rw [List.length_map] at hlt
    generalize YM.rkM o.F L (ens.map (·.1)) key = R at q hle hL1 lm1 hlt
    have hm1 := hm0.evo ev1 np nkl
    refine seq_via (I := fun σ H' => H' = H1 ∧ σ = [some (V.ref p), some key, some (V.int (R.1 : Nat))]) (fun N hN => hN _ _ ⟨rfl, rfl⟩) ?_
    rintro σ H1' ⟨e1, rfl⟩
    rw [← e1] at hL1 t1 t2 ev1 hm1
    clear e1
    obtain ⟨dx1, hp1⟩ := hm1.1
    refine ⟨_, rfl, p, dx1, _, rfl, hp1, mfl_no _ _ (by decide +kernel) (by decide +kernel), ⟨_, rfl, ⟨_, rfl, ?_⟩⟩⟩
    refine ⟨o, p, f, kl, ens, R.1, key, R.2, rfl, O, hm1, fun e he => O.ok.domE (I.dom e he) ev1, O.ok.domE hDk ev1, hL1, by rw [lm1, List.length_append]; have := I.cap; omega, fun H2 hL2 ev2 => ?_⟩
    have nkM : ¬ o.M kl := fun z => nkl (.inl z)
    have hm2 := hm1.evo ev2 hMp nkM
    have ev02 : Evo (mT A o.M) H H2 := ev1.trans (ev2.mono fun b z => .inl z)
    have t12 := t1.evo ev2 fun z => I.n1 (O.ok.sub _ z)
    have t22 := t2.evo ev2 fun z => I.n2 (O.ok.sub _ z)
    obtain ⟨⟨dx2, hp2⟩, ts, hts, hP⟩ := id hm2
    generalize likeM o.F R.2 (ens.map (·.1)) R.1 key = W at q hL2 hlt
    obtain ⟨q1, q2⟩ := q H2 hm2 hL2 t12 t22 ev02
    refine ⟨_, rfl, ?_⟩
    refine iteB (fun hc => ?_) (fun hc => ?_)
    · obtain ⟨e, he⟩ := get_lt (l := ens) (i := R.1) (hlt hc)
      obtain ⟨t, ht, r, rfl, hr'⟩ := Paired.getr hP he
      refine ⟨_, rfl, ⟨p, _, dx2, _, _, rfl, hp2, T.cl_Map, T.n_Map_kept, mfl_kept _ _, ⟨_, rfl, ⟨_, _, _, _, rfl, rfl, SqL.of hts, atI_nat ht, ⟨_, _, _, _, rfl, rfl, SqT.of hr', atI_nat (j := 1) (by rfl), ?_⟩⟩⟩⟩⟩
      exact q1 hc e he
    · exact ⟨(by show 1 ≤ sizeLine; decide), q2 hc⟩
end

/-! ### at, has -/
def spAtX (A : Adr) : Sp := fun vs H Q E => ∃ (p f kl : Addr) (ens : List (V × V)) (i : Int), vs = [.ref p, .int i] ∧ -100 ≤ i ∧ i ≤ 100 ∧ MapAt A.C_Map H p f kl ens ∧
  (∀ e q (j : Nat), i = (j : Int) → ens[j]? = some e → H q = some (.tup [e.1, e.2]) → Q (.ref q) H) ∧ ((i < 0 ∨ (ens.length : Int) ≤ i) → ∀ x, E (.ref x) (some A.X_NoPlace) H)
def spHas (P : Program) (w : World) (K : PySem.W.Frag) (mg : Str → Option Value) (base : Heap) (A : Adr) (k : Nat) : Sp := fun vs H Q _ => ∃ (o : OE) (p f kl : Addr) (ens : List (V × V)) (key : V) (L : List (V × V)),
  vs = [.ref p, key] ∧ MapIn P w K mg base A k o p f kl ens L H ∧ ¬ o.M p ∧ o.Dom H key ∧
  ∀ H', MapAt A.C_Map H' p f kl ens → o.Lg (YM.fnd o.F L (ens.map (·.1)) key).2 H' → TabOk H' A.t_lower (qL "lower") → TabOk H' A.t_Map_rank (qL "Map.rank") → Evo (mT A o.M) H H' → Q (.bl (YM.fnd o.F L (ens.map (·.1)) key).1) H'
theorem fit_place : ∀ n : Nat, n ≤ 200 → ((Str.empty ++ ("the map has no place " : Str)) ++ (toString ((n : Int) - 100) : Str)).length ≤ sizeLine := by
  have h : (List.range 201).all (fun n => decide (((Str.empty ++ ("the map has no place " : Str)) ++ (toString ((n : Int) - 100) : Str)).length ≤ sizeLine)) = true := by decide +kernel
  intro n hn
  exact of_decide_eq_true (List.all_eq_true.mp h n (List.mem_range.mpr (by omega)))
theorem log_small {i : Int} (h1 : -100 ≤ i) (h2 : i ≤ 100) : i.natAbs.log2 < 1920 := by
  have h : i.natAbs ≤ 100 := by omega
  have : i.natAbs < 2 ^ 1920 := Nat.lt_of_le_of_lt h (by decide +kernel)
  by_cases h0 : i.natAbs = 0
  · rw [h0]; decide
  · exact (Nat.log2_lt h0).mpr this
section
variable {P : Program} {w : World} {K : PySem.W.Frag} {mg : Str → Option Value} {base : Heap} {A : Adr}
theorem ok_Map_at {k : Nat} (T : Txt K mg A) (OC : Own mg base A) : FnOk P w K mg base (CXE P w) (k + 1) A.f_Map_at A.d_Map_at ["self", "place"] (spAtX A) := by
  refine T.fn_Map_at.okX sc_Map_at (fun vs H Q E h => ?_) (fun cdv Ar outer s H vs Q E hr h => ?_)
  · obtain ⟨p, f, kl, ens, i, rfl, _⟩ := h
    rfl
  · obtain ⟨p, f, kl, ens, i, rfl, h1, h2, ⟨⟨dx, hp⟩, ts, hts, hP⟩, q1, q2⟩ := h
    have nd := sc_Map_at.nd
    have lt := Paired.length hP
    have rs : (i < 0 ∨ (ens.length : Int) ≤ i) → ∃ i' : Int, V.int i = V.int i' ∧ i'.natAbs.log2 < 1920 ∧ ((Str.empty ++ ("the map has no place " : Str)) ++ (toString i' : Str)).length ≤ sizeLine ∧ ∀ y : Str, ([V.str y] : List V).length ≤ sizeLine ∧ ∀ x, E (.ref x) (some A.X_NoPlace) H := fun hc => by
      have hf := fit_place (i + 100).toNat (by omega)
      rw [Int.toNat_of_nonneg (by omega), show i + 100 - 100 = i by omega] at hf
      exact ⟨i, rfl, log_small h1 h2, hf, fun y => ⟨(by show 1 ≤ sizeLine; decide), q2 hc⟩⟩
    refine ⟨_, (pss_cons (ps_if (PW.pt (pw_or (pt_cmpR op_lt (pv 1) pe_int (nomark _)) (pw_or1 (pt_cmpR op_ge (pv 1) (pe_callB call_len_seq (by rfl) T.bl_len YO.yb_len (pa_cons (pe_fld (pv 0) rfl) pa_nil)) (nomark _))))) (pss_one (ps_raise raises_cxOf OC.NoPlace PySem.F.excBase_ValueError rfl rfl (pa_cons pe_str pa_nil))) pss_nil)
      (pss_one (ps_ret (pe_ix ix_list (pe_fld (pv 0) rfl) (pv 1) (fun _ _ => rfl))))), ?_⟩
    refine ⟨_, rfl, ⟨_, _, rfl, rfl, ⟨_, rfl, ?_⟩⟩⟩
    refine iteD (fun hc => ?_) (fun hc => ?_)
    · first
      | exact ⟨_, rfl, rs (.inl hc)⟩
      | exact ⟨(by show 1 ≤ sizeLine; decide), q2 (.inl hc)⟩
    refine ⟨_, rfl, ⟨_, rfl, ⟨p, _, dx, _, _, rfl, hp, T.cl_Map, T.n_Map_kept, mfl_kept _ _, ⟨_, _, rfl, .inl (SqL.of hts), ⟨_, _, rfl, rfl, ⟨_, rfl, ?_⟩⟩⟩⟩⟩⟩
    rw [lt]
    refine iteD (fun hc => ?_) (fun hc => ?_)
    · first
      | exact ⟨_, rfl, rs (.inr (by omega))⟩
      | exact ⟨(by show 1 ≤ sizeLine; decide), q2 (.inr (by omega))⟩
    obtain ⟨j, rfl⟩ : ∃ j : Nat, i = (j : Int) := ⟨i.toNat, by omega⟩
    obtain ⟨e, he⟩ := get_lt (l := ens) (i := j) (by omega)
    obtain ⟨t, ht, r, rfl, hr'⟩ := Paired.getr hP he
    refine ⟨_, rfl, ⟨p, _, dx, _, _, rfl, hp, T.cl_Map, T.n_Map_kept, mfl_kept _ _, ⟨_, rfl, ⟨_, _, _, _, rfl, rfl, SqL.of hts, atI_nat ht, ?_⟩⟩⟩⟩
    exact q1 e r j rfl he hr'
theorem ok_Map_has {k : Nat} (T : Txt K mg A) (CH1 : PySem.W.CodeHd base A.c_lower A.t_lower) (CH : PySem.W.CodeHd base A.c_Map_rank A.t_Map_rank) (bm : BMain mg base) : FnOk P w K mg base CX0 (k + 6) A.f_Map_has A.d_Map_has ["self", "key"] (spHas P w K mg base A k) := by
  have G_Map_rank : FnOk P w K mg base CX0 (k + 5) A.f_Map_rank A.d_Map_rank _ (spRank P w K mg base A k) := ok_Map_rank T CH1 CH bm
  have G_Map_is_like : FnOk P w K mg base CX0 (k + 1) A.f_Map_is_like A.d_Map_is_like _ (spMLike P w K mg base A k) := ok_Map_is_like T
  refine T.fn_Map_has.ok sc_Map_has (fun vs H Q E h => ?_) (fun cdv Ar outer s H vs Q E hr h => ?_)
  · obtain ⟨o, p, f, kl, ens, key, L, rfl, _⟩ := h
    rfl
  · obtain ⟨o, p, f, kl, ens, key, L, rfl, I, hMp, hDk, q⟩ := h
    have nd := sc_Map_has.nd
    have O := I.O
    have nkl := I.kl1
    have np := I.p1 hMp
    have hm0 := I.m
    obtain ⟨dx, hp⟩ := I.m.1
    refine ⟨_, (pss_one (ps_ret (pe_meth (pv 0) T.cl_Map T.m_Map_is_like G_Map_is_like (hr.mono (by omega)) T.b_Map_is_like .nil pass0 (pa_cons (pe_meth (pv 0) T.cl_Map T.m_Map_rank G_Map_rank (hr.mono (by omega)) T.b_Map_rank .nil pass0 (pa_cons (pv 1) pa_nil)) (pa_cons (pv 1) pa_nil))))), ?_⟩
    refine ⟨_, rfl, p, dx, _, rfl, hp, mfl_no _ _ (by decide +kernel) (by decide +kernel), ?_⟩
    refine ⟨_, rfl, p, dx, _, rfl, hp, mfl_no _ _ (by decide +kernel) (by decide +kernel), ⟨_, rfl, ?_⟩⟩
    refine ⟨o, p, f, kl, ens, key, L, rfl, I, hDk, fun H1 hL1 t1 t2 ev1 => ⟨_, rfl, ?_⟩⟩
    have hle := YM.rkM_le (F := o.F) (L := L) (ks := ens.map (·.1)) (key := key)
    rw [List.length_map] at hle
    obtain ⟨M1, lm1, lm2, _⟩ := YM.rkM_log (F := o.F) (L := L) (ks := ens.map (·.1)) (key := key)
    have lm2 : M1.length ≤ YM.clog (ens.length + 1) := by rw [List.length_map] at lm2; exact lm2
    have hcl : YM.clog (ens.length + 1) ≤ ens.length + 1 := YM.clog_least _ _ (Nat.le_of_lt Nat.lt_two_pow_self)
    rw [fnd_like] at q
    generalize YM.rkM o.F L (ens.map (·.1)) key = R at q hle hL1 lm1
    have hm1 := hm0.evo ev1 np nkl
    refine ⟨o, p, f, kl, ens, R.1, key, R.2, rfl, O, hm1, fun e he => O.ok.domE (I.dom e he) ev1, O.ok.domE hDk ev1, hL1, by rw [lm1, List.length_append]; have := I.cap; omega, fun H2 hL2 ev2 => ?_⟩
    have nkM : ¬ o.M kl := fun z => nkl (.inl z)
    exact q H2 (hm1.evo ev2 hMp nkM) hL2 (t1.evo ev2 fun z => I.n1 (O.ok.sub _ z)) (t2.evo ev2 fun z => I.n2 (O.ok.sub _ z)) (ev1.trans (ev2.mono fun b z => .inl z))
end

/-- what is known to the last bit stays -/
def Fk (H H' : Hp) : Prop := ∀ b o u, H b = some (.frz o u) → H' b = some (.frz o u)
theorem Fk.refl {H : Hp} : Fk H H := fun _ _ _ e => e
theorem Fk.evo {M : Addr → Prop} {H H1 H2 : Hp} (h : Fk H H1) (e : Evo M H1 H2) : Fk H H2 := fun b o u z => e.fz (h b o u z)
theorem Fk.same {H H1 H2 : Hp} (h : Fk H H1) (e : Same H1 H2) : Fk H H2 := h.evo (M := fun _ => False) (Same.evo e)
theorem _root_.L2.LamAt.fk {H H' : Hp} {f : Addr} {qual : Str} {params : Arguments} {body : Expr} {scope : Scope} {cl : List (Str × Addr)} (h : LamAt H f qual params body scope cl) (e : Fk H H') : LamAt H' f qual params body scope cl := by
  obtain ⟨pm, c, ctv, oc, h1, h2, h3⟩ := h
  exact ⟨pm, c, ctv, oc, e _ _ _ h1, e _ _ _ h2, h3⟩

/-! ### what the maps hold -/
abbrev Dat := (Int × Int) × Int
def EnD (H : Hp) (ens : List (V × V)) (ds : List Dat) : Prop := Paired (fun (e : V × V) (d : Dat) => El H e.1 d.1 ∧ small d.1 ∧ e.2 = V.int d.2) ens ds
def dD (d : Dat) : Dd := .tup [dE d.1, .int d.2]
theorem EnD.evo {M : Addr → Prop} {H H' : Hp} {ens : List (V × V)} {ds : List Dat} (h : EnD H ens ds) (ev : Evo M H H') : EnD H' ens ds := Paired.mapP h fun _ _ ⟨h1, h2, h3⟩ => ⟨h1.evo ev, h2, h3⟩
theorem EnD.same {H H' : Hp} {ens : List (V × V)} {ds : List Dat} (h : EnD H ens ds) (s : Same H H') : EnD H' ens ds := h.evo (M := fun _ => False) (Same.evo s)
theorem EnD.dom {H : Hp} {ens : List (V × V)} {ds : List Dat} (h : EnD H ens ds) : ∀ e ∈ ens, DomA H H e.1 := fun e he => by
  obtain ⟨d, _, h1, h2, _⟩ := Paired.meml h he
  exact ⟨d.1, h1, h1, h2⟩
theorem ent_dpl {K : PySem.W.Frag} {H : Hp} : ∀ {ts : List V} {ens : List (V × V)} {ds : List Dat}, Paired (fun (t : V) (p : V × V) => ∃ q, t = .ref q ∧ H q = some (.tup [p.1, p.2])) ts ens → EnD H ens ds → DpL K H (ds.map dD) ts
  | _, _, _, .nil, .nil => trivial
  | _, _, _, .cons ⟨q, e, h⟩ t, .cons ⟨h1, _, h3⟩ t' => ⟨⟨q, _, e, SqT.of h, h1.dp, (by show Dp K H (Dd.int _) _; rw [h3]; rfl), trivial⟩, ent_dpl t t'⟩
theorem ent_dp {K : PySem.W.Frag} {H : Hp} {q : Addr} {ens : List (V × V)} {ds : List Dat} (h : LogAt q ens H) (hd : EnD H ens ds) : Dp K H (.lst (ds.map dD)) (.ref q) := by
  obtain ⟨ts, h1, h2⟩ := h
  exact ⟨q, ts, rfl, SqL.of h1, ent_dpl h2 hd⟩
theorem dep_dD : ∀ ds : List Dat, depDL (ds.map dD) ≤ 2
  | [] => Nat.zero_le _
  | d :: ds => by
    show max (depD (dD d)) (depDL (ds.map dD)) ≤ 2
    have h1 : depD (dD d) = 2 := rfl
    have := dep_dD ds
    omega
theorem dep_ent (ds : List Dat) : depD (.lst (ds.map dD)) ≤ 100 := by
  show depDL (ds.map dD) + 1 ≤ 100
  have := dep_dD ds
  omega
theorem pt_len {ens : List (V × V)} {pl : Nat} {b : Bool} {key held : V} : (YM.ptM pl b ens key held .non).length ≤ ens.length + 1 := by
  unfold YM.ptM
  cases b with
  | false =>
    rw [if_neg Bool.false_ne_true, List.length_append, List.length_cons, List.length_take, List.length_drop]
    omega
  | true => rw [if_pos rfl, List.length_set]; omega
theorem dp_len {ens : List (V × V)} {pl : Nat} {b : Bool} : (YM.dpM pl b ens).length ≤ ens.length := by
  unfold YM.dpM
  cases b with
  | false => exact Nat.le_refl _
  | true => rw [if_pos rfl]; exact List.length_eraseIdx_le _ _
theorem _root_.L2.Froz.insB {X : Cx} {σ : L2.St} {M : Addr → Prop} {H Hf Hf' : Hp} (Z : Froz X σ H Hf) (a : Evo M Hf Hf') {b C dx : Addr} {fs : List (Str × V)} (e : Hf' b = some (.ins C dx fs)) : L2.hid Hf' (CellOf X.env.cells) b = some (.ins C dx fs) := Z.out a e fun _ _ z => by cases z
theorem MapAt.back {X : Cx} {σ : L2.St} {M : Addr → Prop} {H Hf Hf' : Hp} {C p f kl : Addr} {ens : List (V × V)} (Z : Froz X σ H Hf) (a : Evo M Hf Hf') (h : MapAt C Hf' p f kl ens) : MapAt C (L2.hid Hf' (CellOf X.env.cells)) p f kl ens := ⟨h.1.imp fun _ e => Z.insB a e, h.2.back Z a⟩
theorem EnD.back {X : Cx} {σ : L2.St} {M : Addr → Prop} {H Hf Hf' : Hp} {ens : List (V × V)} {ds : List Dat} (Z : Froz X σ H Hf) (a : Evo M Hf Hf') (h : EnD Hf' ens ds) : EnD (L2.hid Hf' (CellOf X.env.cells)) ens ds := Paired.mapP h fun _ _ ⟨h1, h2, h3⟩ => ⟨h1.back Z a, h2, h3⟩
/-- what a map's operation may change -/
abbrev mL (A : Adr) (la kl : Addr) : Addr → Prop := fun b => ((b = la) ∨ b = A.t_lower ∨ b = A.t_Map_rank) ∨ b = kl
section
variable {P : Program} {w : World} {K : PySem.W.Frag} {mg : Str → Option Value} {base : Heap} {A : Adr} {X : Cx} {σ : L2.St} {k : Nat} {p f kl la : Addr} {way : Int} {ens L : List (V × V)} {ds : List Dat} {H : Hp}
theorem map_in {Hf : Hp} (Z : Froz X σ H Hf) (O : (oeA Hf la way).At P w K mg base k f) (hm : MapAt A.C_Map H p f kl ens) (hd : EnD H ens ds) (hlen : ens.length ≤ 100) (hL : LogAt la L H) (hll : L.length ≤ 50000) (hkl : kl ≠ la) (t1 : TabOk H A.t_lower (qL "lower")) (t2 : TabOk H A.t_Map_rank (qL "Map.rank")) :
    MapIn P w K mg base A k (oeA Hf la way) p f kl ens L Hf := by
  have S0 := Z.same'
  have nS : ∀ b, (∃ o, H b = some o ∧ ∀ x u, o ≠ .frz x u) → b ≠ la → ¬ (oeA Hf la way).S b := fun b ⟨o, h1, h2⟩ h3 z => by
    rcases z with z | ⟨x, u, z⟩
    · exact h3 z
    · rw [Z.to h1] at z
      injection z with z
      exact h2 x u z
  obtain ⟨ts, hts, _⟩ := id hm.2
  refine ⟨O, hm.same S0, by omega, nS kl ⟨_, hts, fun x u z => by cases z⟩ hkl, (hd.same S0).dom, ⟨fun b o u e => e, hL.same S0⟩, (by show L.length + ens.length + 10 ≤ 100000; omega), tabS t1 S0, tabS t2 S0, ?_, ?_⟩
  · obtain ⟨ps, h1, _⟩ := id t1
    exact nS _ ⟨_, h1, fun x u z => by cases z⟩ fun z => (hL.nt t1) z
  · obtain ⟨ps, h1, _⟩ := id t2
    exact nS _ ⟨_, h1, fun x u z => by cases z⟩ fun z => (hL.nt t2) z
theorem map_nM (hm : MapAt A.C_Map H p f kl ens) (hL : LogAt la L H) : p ≠ la := fun z => by
  obtain ⟨dx, h1⟩ := hm.1
  obtain ⟨ts, h2, _⟩ := hL
  rw [z, h2] at h1; cases h1
end

theorem EnD.ptK {H : Hp} {ens : List (V × V)} {ds : List Dat} {pl : Nat} {b : Bool} {key : V} {e : Int × Int} {i : Int} (h : EnD H ens ds) (hk : El H key e) (hs : small e) (hlt : b = true → pl < ens.length) :
    ∃ ds', EnD H (YM.ptM pl b ens key (.int i) .non) ds' ∧ (b = false → ds'.map (·.1) = (ds.map (·.1)).take pl ++ e :: (ds.map (·.1)).drop pl) ∧ (b = true → ds'.map (·.1) = ds.map (·.1)) := by
  unfold YM.ptM
  cases b with
  | false =>
    refine ⟨ds.take pl ++ (e, i) :: ds.drop pl, Paired.app (Paired.tak pl h) (.cons ⟨hk, hs, rfl⟩ (Paired.drp pl h)), fun _ => ?_, fun z => by cases z⟩
    rw [List.map_append, List.map_cons, List.map_take, List.map_drop]
  | true =>
    rw [if_pos rfl]
    obtain ⟨e0, q⟩ := get_lt (l := ens) (i := pl) (hlt rfl)
    obtain ⟨d0, hd0, h1, h2, _⟩ := Paired.getl h q
    rw [q]
    refine ⟨ds.set pl (d0.1, i), Paired.set ⟨h1, h2, rfl⟩ pl h, fun z => (by cases z), fun _ => ?_⟩
    rw [List.map_set]
    apply List.ext_getElem?
    intro j
    rw [List.getElem?_set]
    split
    · rename_i hj
      subst hj
      split
      · rw [List.getElem?_map, hd0]; rfl
      · rename_i hn
        rw [List.getElem?_eq_none (by omega)]
    · rfl
theorem EnD.dpK {H : Hp} {ens : List (V × V)} {ds : List Dat} {pl : Nat} {b : Bool} (h : EnD H ens ds) : ∃ ds', EnD H (YM.dpM pl b ens) ds' ∧ ds'.Sublist ds := by
  unfold YM.dpM
  cases b with
  | false => exact ⟨ds, h, List.Sublist.refl _⟩
  | true => exact ⟨_, Paired.era pl h, List.eraseIdx_sublist _ _⟩
theorem EnD.cts {H : Hp} : ∀ {ens : List (V × V)} {ds : List Dat}, EnD H ens ds → (ens.map (·.1)).map (YO.ct H) = ds.map (·.1)
  | _, _, .nil => rfl
  | _, _, .cons ⟨h1, _, _⟩ t => by rw [List.map_cons, List.map_cons, List.map_cons, h1.ct, EnD.cts t]

/-! ### the law's own search, over what it keeps beside the map -/
def spFind : Sp := fun vs H Q _ => ∃ (mo : Addr) (key : V) (way : Int) (ens : List (V × V)) (ds : List Dat) (e : Int × Int), vs = [.ref mo, key, .int way] ∧ LogAt mo ens H ∧ EnD H ens ds ∧ El H key e ∧ small e ∧ ens.length ≤ 900 ∧
  ∀ q H', Same H H' → H' q = some (.tup [.int (YM.fdN (ansF way) (ds.map (·.1)) e ds.length), .int (YM.rkS (ansF way) (ds.map (·.1)) e : Nat)]) → Q (.ref q) H'
section
variable {P : Program} {w : World} {K : PySem.W.Frag} {mg : Str → Option Value} {base : Heap} {A : Adr}
theorem ok__law_find {k : Nat} (T : Txt K mg A) : FnOk P w K mg base CX0 (k + 2) A.f__law_find A.d__law_find ["_law_model", "_law_key", "_law_way"] spFind := by
  have G__law_answer : FnOk P w K mg base CX0 1 A.f__law_answer A.d__law_answer _ spAnswer := ok__law_answer T
  refine T.fn__law_find.ok sc__law_find (fun vs H Q E h => ?_) (fun cdv Ar outer s H vs Q E hr h => ?_)
  · obtain ⟨mo, key, way, ens, ds, e, rfl, _⟩ := h
    rfl
  · obtain ⟨mo, key, way, ens, ds, e, rfl, ⟨ts, hts, hP⟩, hd, hk, hs, hlen, q⟩ := h
    have nd := sc__law_find.nd
    have lt := Paired.length hP
    have ld := Paired.length hd
    refine ⟨_, (pss_cons (ps_set (i := 3) nd rfl (Or.inl rfl) (pe_un un_neg pe_int))
      (pss_cons (ps_set (i := 4) nd rfl (Or.inl rfl) pe_int)
      (pss_cons (ps_for PassesOwn.never rfl (pi_range1 rfl T.bl_range (pa_cons (pe_callB call_len_seq (by rfl) T.bl_len YO.yb_len (pa_cons (pv 0) pa_nil)) pa_nil)) (pg_name (i := 5) nd rfl (Or.inl rfl)) (pss_cons (ps_set (i := 6) nd rfl (Or.inl rfl) (pe_call G__law_answer (hr.mono (by omega)) rfl T.mg__law_answer T.fn__law_answer.kp T.b__law_answer .nil pass0 (pa_cons (pv 2) (pa_cons (pe_ix ix_tup (pe_ix ix_list (pv 0) (pv 5) (fun _ _ => rfl)) pe_int (fun _ _ => rfl)) (pa_cons (pv 1) pa_nil)))))
      (pss_cons (ps_if (pt_cmpR op_eq (pv 6) pe_int (nomark _)) (pss_one (ps_set (i := 3) nd rfl (Or.inl rfl) (pv 5))) pss_nil)
      (pss_one (ps_set (i := 4) nd rfl (Or.inl rfl) (pe_op op_add (pv 4) (pe_callTy call_int1 (by rfl) T.bl_int YO.yb_int (pa_cons (pe_cmpR op_lt (pv 6) pe_int (nomark _)) pa_nil))))))))
      (pss_one (ps_ret (pe_tup (pa_cons (pv 3) (pa_cons (pv 4) pa_nil)))))))), ?_⟩
    refine ⟨_, rfl, ?_⟩
    refine ⟨_, rfl, ⟨_, _, rfl, .inl (SqL.of hts), ⟨_, rfl, by omega, by omega, ?_⟩⟩⟩
    rw [Int.toNat_natCast, lt]
    refine for_range (lo := 0) (n := ens.length) (fun i σ H' => H' = H ∧ ∃ (o5 o6 : Option V), σ = [some (V.ref mo), some key, some (V.int way), some (V.int (YM.fdN (ansF way) (ds.map (·.1)) e i)), some (V.int ((((ds.map (·.1)).take i).filter fun x => decide (ansF way x e < 0)).length : Nat)), o5, o6])
      ⟨rfl, none, none, rfl⟩ ?_ ?_
    · rintro i σ H' hi ⟨rfl, o5, o6, rfl⟩
      obtain ⟨en, hen⟩ := get_lt (l := ens) (i := i) hi
      obtain ⟨t, ht, r, rfl, hr'⟩ := Paired.getr hP hen
      obtain ⟨dd, hdd, hel, hsm, _⟩ := Paired.getl hd hen
      have hx : (ds.map (·.1))[i]? = some dd.1 := by rw [List.getElem?_map, hdd]; rfl
      have a0i : atI ts (0 + (i : Int)) = some (V.ref r) := by rw [Int.zero_add]; exact atI_nat ht
      refine ⟨_, rfl, ⟨_, rfl, ⟨_, rfl, ⟨_, _, _, _, rfl, rfl, SqL.of hts, a0i, ⟨_, _, _, _, rfl, rfl, SqT.of hr', atI_nat (j := 0) (by rfl), ⟨_, rfl, ⟨way, _, _, dd.1, e, rfl, hel, hk, hsm, hs, ?_⟩⟩⟩⟩⟩⟩⟩
      have hfd : YM.fdN (ansF way) (ds.map (·.1)) e (i + 1) = if ansF way dd.1 e = 0 then (i : Int) else YM.fdN (ansF way) (ds.map (·.1)) e i := by
        rw [YM.fdN, hx]
      have hct := YM.rkS_take (f := ansF way) (e := e) hx
      rw [hfd, hct]
      generalize ansF way dd.1 e = side
      generalize YM.fdN (ansF way) (ds.map (·.1)) e i = fd
      generalize (((ds.map (·.1)).take i).filter fun x => decide (ansF way x e < 0)).length = ct
      refine seq_via (I := fun σ H'' => H'' = H' ∧ σ = [some (V.ref mo), some key, some (V.int way), some (V.int fd), some (V.int (ct : Nat)), some (V.int (0 + (i : Int))), some (V.int side)]) (fun N hN => hN _ _ ⟨rfl, rfl⟩) ?_
      rintro σ H2 ⟨rfl, rfl⟩
      refine seq_via (I := fun σ H'' => H'' = H2 ∧ σ = [some (V.ref mo), some key, some (V.int way), some (V.int (if side = 0 then (i : Int) else fd)), some (V.int (ct : Nat)), some (V.int (0 + (i : Int))), some (V.int side)]) (fun N hN => ?_) ?_
      · refine ⟨_, rfl, ⟨rfl, ⟨_, rfl, ?_⟩⟩⟩
        refine iteD (fun hc => ?_) (fun hc => ?_)
        · have hc : side = 0 := V.int.inj hc
          exact ⟨_, rfl, hN _ _ ⟨rfl, by rw [if_pos hc, Int.zero_add]; rfl⟩⟩
        · have hc : ¬ side = 0 := fun z => hc (by rw [z])
          exact hN _ _ ⟨rfl, by rw [if_neg hc]⟩
      rintro σ H'' ⟨rfl, rfl⟩
      refine ⟨_, rfl, ⟨_, rfl, ⟨_, _, rfl, rfl, .inr ⟨_, rfl, ⟨_, _, rfl, rfl, ?_⟩⟩⟩⟩⟩
      refine ⟨rfl, some (V.int (0 + (i : Int))), some (V.int side), ?_⟩
      by_cases hc : side < 0
      · rw [if_pos hc, decide_eq_true hc, Int.natCast_add]; rfl
      · rw [if_neg hc, decide_eq_false hc, Int.natCast_add]; rfl
    rintro σ H' ⟨rfl, o5, o6, rfl⟩
    refine seq_via (I := fun σ H'' => H'' = H' ∧ σ = [some (V.ref mo), some key, some (V.int way), some (V.int (YM.fdN (ansF way) (ds.map (·.1)) e ens.length)), some (V.int ((((ds.map (·.1)).take ens.length).filter fun x => decide (ansF way x e < 0)).length : Nat)), o5, o6]) (fun N hN => hN _ _ ⟨rfl, rfl⟩) ?_
    rintro σ H'' ⟨rfl, rfl⟩
    rw [show (ds.map (·.1)).take ens.length = ds.map (·.1) from List.take_of_length_le (by rw [List.length_map]; omega), ld]
    refine ⟨_, rfl, ⟨_, rfl, ⟨(by show 2 ≤ sizeLine; decide), fun r hr0 => ?_⟩⟩⟩
    exact q r _ (Same.new hr0) upd_same
end
/-! ### the two tries -/
def spGot (P : Program) (w : World) (K : PySem.W.Frag) (mg : Str → Option Value) (base : Heap) (A : Adr) (k : Nat) : Sp := fun vs H Q _ => ∃ (o : OE) (p f kl : Addr) (ens : List (V × V)) (key : V) (L : List (V × V)),
  vs = [.ref p, key] ∧ MapIn P w K mg base A k o p f kl ens L H ∧ ¬ o.M p ∧ o.Dom H key ∧
  ∀ H', MapAt A.C_Map H' p f kl ens → o.Lg (YM.fnd o.F L (ens.map (·.1)) key).2 H' → TabOk H' A.t_lower (qL "lower") → TabOk H' A.t_Map_rank (qL "Map.rank") → Evo (mT A o.M) H H' →
    ((YM.fnd o.F L (ens.map (·.1)) key).1 = true → ∀ e, ens[(YM.rkM o.F L (ens.map (·.1)) key).1]? = some e → Q e.2 H') ∧ ((YM.fnd o.F L (ens.map (·.1)) key).1 = false → Q (.str "none") H')
def spLAt (A : Adr) : Sp := fun vs H Q _ => ∃ (p f kl : Addr) (ens : List (V × V)) (i : Int), vs = [.ref p, .int i] ∧ -100 ≤ i ∧ i ≤ 100 ∧ MapAt A.C_Map H p f kl ens ∧
  (∀ e q (j : Nat), i = (j : Int) → ens[j]? = some e → H q = some (.tup [e.1, e.2]) → Q (.ref q) H) ∧ ((i < 0 ∨ (ens.length : Int) ≤ i) → Q (.str "none") H)
section
variable {P : Program} {w : World} {K : PySem.W.Frag} {mg : Str → Option Value} {base : Heap} {A : Adr}
theorem ok__law_got {k : Nat} (T : Txt K mg A) (CH1 : PySem.W.CodeHd base A.c_lower A.t_lower) (CH : PySem.W.CodeHd base A.c_Map_rank A.t_Map_rank) (bm : BMain mg base) (OC : Own mg base A) : FnOk P w K mg base CX0 (k + 7) A.f__law_got A.d__law_got ["_law_tree", "_law_key"] (spGot P w K mg base A k) := by
  have G_Map_get : FnOk P w K mg base (CXE P w) (k + 6) A.f_Map_get A.d_Map_get _ (spGet P w K mg base A k) := ok_Map_get T CH1 CH bm OC
  refine T.fn__law_got.ok sc__law_got (fun vs H Q E h => ?_) (fun cdv Ar outer s H vs Q E hr h => ?_)
  · obtain ⟨o, p, f, kl, ens, key, L, rfl, _⟩ := h
    rfl
  · obtain ⟨o, p, f, kl, ens, key, L, rfl, I, hMp, hDk, q⟩ := h
    have nd := sc__law_got.nd
    obtain ⟨dx, hp⟩ := I.m.1
    obtain ⟨EX, hEX⟩ : ∃ EX : XK, EX = fun _ c H' => c = some A.X_NoElement ∧ Q (.str "none") H' := ⟨_, rfl⟩
    refine ⟨_, (pss_one (ps_try (E := EX) (fun W pn hP => (pss_one (ps_ret (pe_meth (pv 0) T.cl_Map T.m_Map_get G_Map_get (hr.mono (by omega)) T.b_Map_get .nil hP (pa_cons (pv 1) pa_nil))))) OC.NoElement (by decide +kernel) rfl rfl (fun _ => (pss_one (ps_ret pe_str))) (fun _ => PassesOwnAt.never) rfl rfl)), ?_⟩
    refine ⟨?_, fun x c H' σ' hE => ?_⟩
    · refine ⟨_, rfl, p, dx, _, rfl, hp, mfl_no _ _ (by decide +kernel) (by decide +kernel), ⟨_, rfl, ?_⟩⟩
      refine ⟨o, p, f, kl, ens, key, L, rfl, I, hMp, hDk, fun H1 hm1 hL1 t1 t2 ev1 => ?_⟩
      obtain ⟨q1, q2⟩ := q H1 hm1 hL1 t1 t2 ev1
      refine ⟨q1, fun hc x => ?_⟩
      rw [hEX]
      exact ⟨rfl, q2 hc⟩
    · rw [hEX] at hE
      exact hE
theorem ok__law_at {k : Nat} (T : Txt K mg A) (OC : Own mg base A) : FnOk P w K mg base CX0 (k + 2) A.f__law_at A.d__law_at ["_law_tree", "_law_place"] (spLAt A) := by
  have G_Map_at : FnOk P w K mg base (CXE P w) (k + 1) A.f_Map_at A.d_Map_at _ (spAtX A) := ok_Map_at T OC
  refine T.fn__law_at.ok sc__law_at (fun vs H Q E h => ?_) (fun cdv Ar outer s H vs Q E hr h => ?_)
  · obtain ⟨p, f, kl, ens, i, rfl, _⟩ := h
    rfl
  · obtain ⟨p, f, kl, ens, i, rfl, h1, h2, hm, q1, q2⟩ := h
    have nd := sc__law_at.nd
    obtain ⟨dx, hp⟩ := hm.1
    obtain ⟨EX, hEX⟩ : ∃ EX : XK, EX = fun _ c H' => c = some A.X_NoPlace ∧ Q (.str "none") H' := ⟨_, rfl⟩
    refine ⟨_, (pss_one (ps_try (E := EX) (fun W pn hP => (pss_one (ps_ret (pe_meth (pv 0) T.cl_Map T.m_Map_at G_Map_at (hr.mono (by omega)) T.b_Map_at .nil hP (pa_cons (pv 1) pa_nil))))) OC.NoPlace (by decide +kernel) rfl rfl (fun _ => (pss_one (ps_ret pe_str))) (fun _ => PassesOwnAt.never) rfl rfl)), ?_⟩
    refine ⟨?_, fun x c H' σ' hE => ?_⟩
    · refine ⟨_, rfl, p, dx, _, rfl, hp, mfl_no _ _ (by decide +kernel) (by decide +kernel), ⟨_, rfl, ?_⟩⟩
      refine ⟨p, f, kl, ens, i, rfl, h1, h2, hm, q1, fun hc x => ?_⟩
      rw [hEX]
      exact ⟨rfl, q2 hc⟩
    · rw [hEX] at hE
      exact hE
end

/-! ### one deed on the map and on the law's own list -/
def spDeed (P : Program) (w : World) (K : PySem.W.Frag) (mg : Str → Option Value) (base : Heap) (A : Adr) (k : Nat) : Sp := fun vs H Q _ => ∃ (o : OE) (p f kl mo : Addr) (ens : List (V × V)) (ds : List Dat) (key : V) (e : Int × Int) (way more : Int) (L : List (V × V)),
  vs = [.ref p, .ref mo, .int way, .int more, key] ∧ MapIn P w K mg base A k o p f kl ens L H ∧ ¬ o.M p ∧ ¬ o.S mo ∧ mo ≠ kl ∧ o.Dom H key ∧ LogAt mo ens H ∧ EnD H ens ds ∧ El H key e ∧ small e ∧ YM.Sst (ansF way) (ds.map (·.1)) ∧
  (∀ L x ex, El H x ex → o.F L x key = ansF way ex e) ∧ ens.length ≤ 100 ∧
  ∀ H' ens' ds', MapAt A.C_Map H' p f kl ens' → LogAt mo ens' H' → EnD H' ens' ds' → YM.Sst (ansF way) (ds'.map (·.1)) → ens'.length ≤ ens.length + 1 → o.Lg (YM.fnd o.F L (ens.map (·.1)) key).2 H' → TabOk H' A.t_lower (qL "lower") → TabOk H' A.t_Map_rank (qL "Map.rank") → Evo (fun b => mT A o.M b ∨ b = kl ∨ b = mo) H H' → Q (.bl true) H'
theorem MapIn.same {P : Program} {w : World} {K : PySem.W.Frag} {mg : Str → Option Value} {base : Heap} {A : Adr} {k : Nat} {o : OE} {p f kl : Addr} {ens L : List (V × V)} {H H' : Hp} (h : MapIn P w K mg base A k o p f kl ens L H) (s : Same H H') : MapIn P w K mg base A k o p f kl ens L H' :=
  ⟨h.O, h.m.same s, h.len, h.nS, fun e he => h.O.ok.domE (h.dom e he) (Same.evo (M := fun _ => False) s), h.O.ok.evo0 h.lg s, h.cap, tabS h.t1 s, tabS h.t2 s, h.n1, h.n2⟩
section
variable {P : Program} {w : World} {K : PySem.W.Frag} {mg : Str → Option Value} {base : Heap} {A : Adr}
theorem ok__law_deed {k : Nat} (T : Txt K mg A) (CH1 : PySem.W.CodeHd base A.c_lower A.t_lower) (CH : PySem.W.CodeHd base A.c_Map_rank A.t_Map_rank) (bm : BMain mg base) (OC : Own mg base A) : FnOk P w K mg base CX0 (k + 8) A.f__law_deed A.d__law_deed ["_law_tree", "_law_model", "_law_way", "_law_more", "_law_key"] (spDeed P w K mg base A k) := by
  have G__law_find : FnOk P w K mg base CX0 2 A.f__law_find A.d__law_find _ spFind := ok__law_find T
  have G_Map_put : FnOk P w K mg base CX0 (k + 6) A.f_Map_put A.d_Map_put _ (spPut P w K mg base A k) := ok_Map_put T CH1 CH bm
  have G_Map_drop : FnOk P w K mg base CX0 (k + 6) A.f_Map_drop A.d_Map_drop _ (spDrop P w K mg base A k) := ok_Map_drop T CH1 CH bm
  have G_Map_has : FnOk P w K mg base CX0 (k + 6) A.f_Map_has A.d_Map_has _ (spHas P w K mg base A k) := ok_Map_has T CH1 CH bm
  have G__law_got : FnOk P w K mg base CX0 (k + 7) A.f__law_got A.d__law_got _ (spGot P w K mg base A k) := ok__law_got T CH1 CH bm OC
  refine T.fn__law_deed.ok sc__law_deed (fun vs H Q E h => ?_) (fun cdv Ar outer s H vs Q E hr h => ?_)
  · obtain ⟨o, p, f, kl, mo, ens, ds, key, e, way, more, L, rfl, _⟩ := h
    rfl
  · obtain ⟨o, p, f, kl, mo, ens, ds, key, e, way, more, L, rfl, I0, hMp, nSm, nmk, hDk, hmo, hd, hk, hs, hss, hF, hlen, q⟩ := h
    have nd := sc__law_deed.nd
    have O := ans_ord way
    have hcts := hd.cts
    have hFk : ∀ L x, x ∈ ens.map (·.1) → o.F L x key = ansF way (YO.ct H x) e := fun L x hx => by
      obtain ⟨en, hen, rfl⟩ := List.mem_map.mp hx
      obtain ⟨d, _, h1, _⟩ := Paired.meml hd hen
      rw [h1.ct]; exact hF L _ _ h1
    have hrk : (YM.rkM o.F L (ens.map (·.1)) key).1 = YM.rkS (ansF way) (ds.map (·.1)) e := by
      have := YM.rkM_rkS (L := L) (c := YO.ct H) O hFk (fun _ _ => trivial) trivial (by rw [hcts]; exact hss)
      rw [hcts] at this; exact this
    have hfn : (YM.fnd o.F L (ens.map (·.1)) key).1 = YM.lkS (ansF way) (ds.map (·.1)) e := by
      have := YM.fnd_lkS (L := L) (c := YO.ct H) O hFk (fun _ _ => trivial) trivial (by rw [hcts]; exact hss)
      rw [hcts] at this; exact this
    have hfd := YM.fdN_all O (l := ds.map (·.1)) (e := e) (fun _ _ => trivial) trivial hss
    rw [List.length_map] at hfd
    have ld := Paired.length hd
    have hlt : YM.lkS (ansF way) (ds.map (·.1)) e = true → YM.rkS (ansF way) (ds.map (·.1)) e < ens.length := fun h => by
      have := YM.lkS_lt h
      rw [List.length_map] at this; omega
    have hle : YM.rkS (ansF way) (ds.map (·.1)) e ≤ ens.length := by
      have := YM.rkS_le (f := ansF way) (l := ds.map (·.1)) (e := e)
      rw [List.length_map] at this; omega
    have hins : YM.lkS (ansF way) (ds.map (·.1)) e = false → YM.Sst (ansF way) ((ds.map (·.1)).take (YM.rkS (ansF way) (ds.map (·.1)) e) ++ e :: (ds.map (·.1)).drop (YM.rkS (ansF way) (ds.map (·.1)) e)) := fun h => by
      refine YM.Sst.insert O (fun _ _ => trivial) trivial hss fun x hx z => ?_
      unfold YM.lkS at h
      rw [hx] at h
      exact absurd z (of_decide_eq_false h)
    refine ⟨_, (pss_cons (ps_asg (pe_call G__law_find (hr.mono (by omega)) rfl T.mg__law_find T.fn__law_find.kp T.b__law_find .nil pass0 (pa_cons (pv 1) (pa_cons (pv 4) (pa_cons (pv 2) pa_nil)))) (pg_tup (n := 2) rfl (pgs_cons (pg_name (i := 5) nd rfl (Or.inl rfl)) (pgs_cons (pg_name (i := 6) nd rfl (Or.inl rfl)) pgs_nil))))
      (pss_cons (ps_if (pt_cmpR op_lt (pe_op op_mod (pv 3) pe_int) pe_int (nomark _)) (pss_cons (ps_set (i := 7) nd rfl (Or.inl rfl) (pe_meth (pv 0) T.cl_Map T.m_Map_put G_Map_put (hr.mono (by omega)) T.b_Map_put .nil pass0 (pa_cons (pv 4) (pa_cons (pv 3) pa_nil))))
      (pss_cons (ps_if (pt_cmpR op_lt (pv 5) pe_int (nomark _)) (pss_one (ps_expr (pe_bm PySem.F.plainAttrs_list PySem.F.slot_list_insert PySem.F.type_list_insert mt_insert (pv 1) (pa_cons (pv 6) (pa_cons (pe_tup (pa_cons (pv 4) (pa_cons (pv 3) pa_nil))) pa_nil))))) (pss_one (ps_asg (pe_tup (pa_cons (pe_ix ix_tup (pe_ix ix_list (pv 1) (pv 5) (fun _ _ => rfl)) pe_int (fun _ _ => rfl)) (pa_cons (pv 3) pa_nil))) (pg_sub (pv 1) (pv 5) set_list))))
      (pss_one (ps_ret (pe_and (pe_callB call_isinst (by rfl) T.bl_isinstance YO.yb_isinstance (pa_cons (pv 7) (pa_cons (pe_bltn (v := .ty "bool") rfl T.bl_bool YO.yb_bool rfl) pa_nil))) (pe_one (pe_cmpR op_eq (pv 7) (pe_cmpR op_lt (pv 5) pe_int (nomark _)) (nomark _)))))))) pss_nil)
      (pss_cons (ps_if (pt_cmpR op_eq (pe_op op_mod (pv 3) pe_int) pe_int (nomark _)) (pss_cons (ps_set (i := 7) nd rfl (Or.inl rfl) (pe_meth (pv 0) T.cl_Map T.m_Map_drop G_Map_drop (hr.mono (by omega)) T.b_Map_drop .nil pass0 (pa_cons (pv 4) pa_nil)))
      (pss_cons (ps_if (pt_cmpR op_ge (pv 5) pe_int (nomark _)) (pss_one (ps_expr (pe_bm PySem.F.plainAttrs_list PySem.F.slot_list_pop PySem.F.type_list_pop mt_popAt (pv 1) (pa_cons (pv 5) pa_nil)))) pss_nil)
      (pss_one (ps_ret (pe_and (pe_callB call_isinst (by rfl) T.bl_isinstance YO.yb_isinstance (pa_cons (pv 7) (pa_cons (pe_bltn (v := .ty "bool") rfl T.bl_bool YO.yb_bool rfl) pa_nil))) (pe_one (pe_cmpR op_eq (pv 7) (pe_cmpR op_ge (pv 5) pe_int (nomark _)) (nomark _)))))))) pss_nil)
      (pss_cons (ps_if (pt_cmpR op_eq (pe_op op_mod (pv 3) pe_int) pe_int (nomark _)) (pss_cons (ps_set (i := 8) nd rfl (Or.inl rfl) pe_str)
      (pss_cons (ps_if (pt_cmpR op_ge (pv 5) pe_int (nomark _)) (pss_one (ps_set (i := 8) nd rfl (Or.inl rfl) (pe_ix ix_tup (pe_ix ix_list (pv 1) (pv 5) (fun _ _ => rfl)) pe_int (fun _ _ => rfl)))) pss_nil)
      (pss_one (ps_ret (pe_cmpR op_eq (pe_call G__law_got (hr.mono (by omega)) rfl T.mg__law_got T.fn__law_got.kp T.b__law_got .nil pass0 (pa_cons (pv 0) (pa_cons (pv 4) pa_nil))) (pv 8) (nomark _)))))) pss_nil)
      (pss_one (ps_ret (pe_cmpR op_eq (pe_meth (pv 0) T.cl_Map T.m_Map_has G_Map_has (hr.mono (by omega)) T.b_Map_has .nil pass0 (pa_cons (pv 4) pa_nil)) (pe_cmpR op_ge (pv 5) pe_int (nomark _)) (nomark _)))))))), ?_⟩
    refine ⟨_, rfl, ⟨_, rfl, ⟨_, rfl, ⟨mo, key, way, ens, ds, e, rfl, hmo, hd, hk, hs, by omega, fun qt H1 s1 hqt => ?_⟩⟩⟩⟩
    refine ⟨qt, _, rfl, SqT.of hqt, rfl, ⟨_, _, rfl, ⟨_, _, rfl, ⟨rfl, ?_⟩⟩⟩⟩
    clear hqt
    rw [hfd]
    have hqL := q
    clear q
    generalize YM.lkS (ansF way) (ds.map (·.1)) e = b at hfn hlt hins hfd
    generalize YM.rkS (ansF way) (ds.map (·.1)) e = R at hrk hlt hins hfd hle
    have I := I0.same s1
    have hmo1 := hmo.same s1
    have hd1 := hd.same s1
    have hk1 := hk.same s1
    have hDk1 := I0.O.ok.domE hDk (Same.evo (M := fun _ => False) s1)
    have q : ∀ H' ens' ds', MapAt A.C_Map H' p f kl ens' → LogAt mo ens' H' → EnD H' ens' ds' → YM.Sst (ansF way) (ds'.map (·.1)) → ens'.length ≤ ens.length + 1 → o.Lg (YM.fnd o.F L (ens.map (·.1)) key).2 H' → TabOk H' A.t_lower (qL "lower") → TabOk H' A.t_Map_rank (qL "Map.rank") → Evo (fun b => mT A o.M b ∨ b = kl ∨ b = mo) H1 H' → Q (.bl true) H' :=
      fun H' ens' ds' h1 h2 h3 h4 h5 h6 h7 h8 h9 => hqL H' ens' ds' h1 h2 h3 h4 h5 h6 h7 h8 ((Same.evo s1).trans h9)
    clear hqL
    obtain ⟨tsm, htsm, _⟩ := id hmo1
    have nmo : ¬ mT A o.M mo := fun z => by
      rcases z with z | z | z
      · exact nSm (I.O.ok.sub _ z)
      · exact tab_ne I.t1 htsm z
      · exact tab_ne I.t2 htsm z
    obtain ⟨dx, hp⟩ := I.m.1
    have pmo : p ≠ mo := fun z => by rw [z, htsm] at hp; cases hp
    refine seq_via (I := fun σ H' => H' = H1 ∧ σ = [some (V.ref p), some (V.ref mo), some (V.int way), some (V.int more), some key, some (V.int (if b = true then (R : Int) else -1)), some (V.int (R : Nat)), none, none]) (fun N hN => hN _ _ ⟨rfl, rfl⟩) ?_
    rintro σ H1' ⟨rfl, rfl⟩
    refine ⟨_, rfl, ⟨_, _, rfl, rfl, by omega, ⟨_, _, rfl, rfl, ⟨_, rfl, ?_⟩⟩⟩⟩
    refine iteD (fun _ => ?_) (fun _ => ?_)
    · -- put
      refine ⟨_, rfl, p, dx, _, rfl, hp, mfl_no _ _ (by decide +kernel) (by decide +kernel), ⟨_, rfl, ⟨_, rfl, ?_⟩⟩⟩
      refine ⟨o, p, f, kl, ens, key, .int more, L, rfl, I, hMp, hDk1, fun H2 hm2 hL2 t12 t22 ev2 => ?_⟩
      rw [hrk, hfn] at hm2
      obtain ⟨ds', hd2, hb1, hb2⟩ := EnD.ptK (pl := R) (b := b) (i := more) (hd1.evo ev2) (hk1.evo ev2) hs hlt
      have hl2 : (YM.ptM R b ens key (.int more) .non).length ≤ ens.length + 1 := pt_len
      have hss2 : YM.Sst (ansF way) (ds'.map (·.1)) := by
        cases b with
        | true => rw [hb2 rfl]; exact hss
        | false => rw [hb1 rfl]; exact hins rfl
      have hmo2 := hmo1.evo ev2 fun z => z.elim nmo nmk
      obtain ⟨ts, hts, hP⟩ := id hmo2
      have lt := Paired.length hP
      refine seq_via (I := fun σ H' => H' = H2 ∧ σ = [some (V.ref p), some (V.ref mo), some (V.int way), some (V.int more), some key, some (V.int (if b = true then (R : Int) else -1)), some (V.int (R : Nat)), some (V.bl (!b)), none]) (fun N hN => hN _ _ ⟨rfl, by rw [hfn]; rfl⟩) ?_
      rintro σ H2' ⟨rfl, rfl⟩
      refine seq_via (I := fun σ H' => σ = [some (V.ref p), some (V.ref mo), some (V.int way), some (V.int more), some key, some (V.int (if b = true then (R : Int) else -1)), some (V.int (R : Nat)), some (V.bl (!b)), none] ∧ LogAt mo (YM.ptM R b ens key (.int more) .non) H' ∧ Evo (fun b => b = mo) H2' H' ∧ o.Lg (YM.fnd o.F L (ens.map (·.1)) key).2 H') (fun N hN => ?_) ?_
      · refine ⟨_, rfl, ⟨_, _, rfl, rfl, ⟨_, rfl, ?_⟩⟩⟩
        cases b with
        | false =>
          refine iteD (fun _ => ?_) (fun hc => absurd (show (-1 : Int) < 0 by decide) hc)
          refine ⟨_, rfl, ⟨.inl ⟨rfl, _, SqL.of hts⟩, ⟨_, rfl, ⟨_, rfl, ⟨_, rfl, ⟨(by show 2 ≤ sizeLine; decide), fun r2 hr2 => ?_⟩⟩⟩⟩⟩⟩
          have s3 := Same.new (o := .tup [key, V.int more]) hr2
          have h3r : (upd H2' r2 (.tup [key, V.int more])) r2 = some (.tup [key, V.int more]) := upd_same
          generalize upd H2' r2 (.tup [key, V.int more]) = H3 at s3 h3r
          refine ⟨mo, ts, R, .ref r2, rfl, rfl, s3 _ _ hts, by omega, Nat.lt_of_lt_of_le (show ts.length < 1001 by omega) (by decide), ?_⟩
          have ev4 : Evo (fun b => b = mo) H3 (upd H3 mo (.lst (ts.take R ++ V.ref r2 :: ts.drop R))) := Evo.put (s3 _ _ hts) rfl
          have hP4 : Paired (fun (t : V) (e : V × V) => ∃ q, t = V.ref q ∧ (upd H3 mo (.lst (ts.take R ++ V.ref r2 :: ts.drop R))) q = some (.tup [e.1, e.2])) ts ens := Paired.mapP hP fun t e ⟨r, e1, e2⟩ => ⟨r, e1, ev4.tup (s3 _ _ e2)⟩
          exact hN _ _ ⟨rfl, ⟨_, upd_same, Paired.app (Paired.tak R hP4) (.cons ⟨r2, rfl, ev4.tup h3r⟩ (Paired.drp R hP4))⟩, (Same.evo s3).trans ev4, I.O.ok.put (I.O.ok.evo0 hL2 s3) (s3 _ _ hts) nSm⟩
        | true =>
          have hR := hlt rfl
          refine iteDF (by show ¬ (R : Int) < 0; omega) ?_
          obtain ⟨en, hen⟩ := get_lt (l := ens) (i := R) hR
          obtain ⟨t, ht, r, rfl, hr'⟩ := Paired.getr hP hen
          have aR : atI ts (if true = true then (R : Int) else -1) = some (V.ref r) := by rw [if_pos rfl]; exact atI_nat ht
          refine ⟨_, rfl, ⟨_, rfl, ⟨_, _, _, _, rfl, rfl, SqL.of hts, aR, ⟨_, _, _, _, rfl, rfl, SqT.of hr', atI_nat (j := 0) (by rfl), ⟨_, rfl, ⟨(by show 2 ≤ sizeLine; decide), fun r2 hr2 => ?_⟩⟩⟩⟩⟩⟩
          have s3 := Same.new (o := .tup [en.1, V.int more]) hr2
          have h3r : (upd H2' r2 (.tup [en.1, V.int more])) r2 = some (.tup [en.1, V.int more]) := upd_same
          generalize upd H2' r2 (.tup [en.1, V.int more]) = H3 at s3 h3r
          refine ⟨_, rfl, ⟨_, rfl, ⟨_, _, _, R, rfl, rfl, s3 _ _ hts, (by show ixN ts.length (if true = true then (R : Int) else -1) = some R; rw [if_pos rfl]; exact ixN_nat (by omega)), ?_⟩⟩⟩
          have ev4 : Evo (fun b => b = mo) H3 (upd H3 mo (.lst (ts.set R (.ref r2)))) := Evo.put (s3 _ _ hts) rfl
          refine hN _ _ ⟨rfl, ⟨_, upd_same, ?_⟩, (Same.evo s3).trans ev4, I.O.ok.put (I.O.ok.evo0 hL2 s3) (s3 _ _ hts) nSm⟩
          unfold YM.ptM
          rw [if_pos rfl, hen]
          exact Paired.set ⟨r2, rfl, ev4.tup h3r⟩ R (Paired.mapP hP fun t e ⟨r, e1, e2⟩ => ⟨r, e1, ev4.tup (s3 _ _ e2)⟩)
      rintro σ H3 ⟨rfl, hmo3, ev3, hL3⟩
      refine ⟨_, rfl, ⟨_, _, rfl, .bl _, ⟨_, rfl, ?_⟩⟩⟩
      refine iteT ?_
      refine ⟨_, rfl, ⟨_, rfl, ⟨_, _, rfl, rfl, ⟨rfl, ?_⟩⟩⟩⟩
      have hv : decide (V.bl (!b) = V.bl (decide ((if b = true then (R : Int) else -1) < 0))) = true := by
        cases b with
        | false => rfl
        | true => rw [if_pos rfl, decide_eq_false (show ¬ (R : Int) < 0 by omega)]; rfl
      show Q (V.bl (decide (V.bl (!b) = V.bl (decide ((if b = true then (R : Int) else -1) < 0))))) H3
      rw [hv]
      obtain ⟨dx2, hp2⟩ := hm2.1
      obtain ⟨tk2, htk2, _⟩ := id hm2.2
      exact q H3 _ ds' (hm2.evo ev3 pmo (fun z => nmk z.symm)) hmo3 (hd2.evo ev3) hss2 hl2 hL3 (t12.evo ev3 (tab_ne t12 hts).symm) (t22.evo ev3 (tab_ne t22 hts).symm) ((ev2.mono fun b z => z.elim .inl fun y => .inr (.inl y)).trans (ev3.mono fun b z => .inr (.inr z)))
    refine ⟨_, rfl, ⟨_, _, rfl, rfl, by omega, ⟨rfl, ⟨_, rfl, ?_⟩⟩⟩⟩
    refine iteD (fun _ => ?_) (fun _ => ?_)
    · -- drop
      refine ⟨_, rfl, p, dx, _, rfl, hp, mfl_no _ _ (by decide +kernel) (by decide +kernel), ⟨_, rfl, ?_⟩⟩
      refine ⟨o, p, f, kl, ens, key, L, rfl, I, hMp, hDk1, fun H2 hm2 hL2 t12 t22 ev2 => ?_⟩
      rw [hrk, hfn] at hm2
      obtain ⟨ds', hd2, hsub⟩ := EnD.dpK (pl := R) (b := b) (hd1.evo ev2)
      have hss2 : YM.Sst (ansF way) (ds'.map (·.1)) := List.Pairwise.sublist (hsub.map (·.1)) hss
      have hl2 : (YM.dpM R b ens).length ≤ ens.length + 1 := Nat.le_succ_of_le dp_len
      have hmo2 := hmo1.evo ev2 fun z => z.elim nmo nmk
      obtain ⟨ts, hts, hP⟩ := id hmo2
      have lt := Paired.length hP
      refine seq_via (I := fun σ H' => H' = H2 ∧ σ = [some (V.ref p), some (V.ref mo), some (V.int way), some (V.int more), some key, some (V.int (if b = true then (R : Int) else -1)), some (V.int (R : Nat)), some (V.bl b), none]) (fun N hN => hN _ _ ⟨rfl, by rw [hfn]; rfl⟩) ?_
      rintro σ H2' ⟨rfl, rfl⟩
      refine seq_via (I := fun σ H' => σ = [some (V.ref p), some (V.ref mo), some (V.int way), some (V.int more), some key, some (V.int (if b = true then (R : Int) else -1)), some (V.int (R : Nat)), some (V.bl b), none] ∧ LogAt mo (YM.dpM R b ens) H' ∧ Evo (fun b => b = mo) H2' H' ∧ o.Lg (YM.fnd o.F L (ens.map (·.1)) key).2 H') (fun N hN => ?_) ?_
      · refine ⟨_, rfl, ⟨_, _, rfl, rfl, ⟨_, rfl, ?_⟩⟩⟩
        cases b with
        | false =>
          refine iteDF (by show ¬ ((-1 : Int) ≥ 0); decide) ?_
          exact hN _ _ ⟨rfl, hmo2, Evo.refl, hL2⟩
        | true =>
          have hR := hlt rfl
          refine iteD (fun _ => ?_) (fun hc => absurd (show (R : Int) ≥ 0 by omega) hc)
          obtain ⟨t, ht⟩ := get_lt (l := ts) (i := R) (by omega)
          refine ⟨_, rfl, ⟨.inl ⟨rfl, _, SqL.of hts⟩, ⟨_, rfl, ⟨mo, ts, _, R, t, rfl, rfl, hts, (by show -(2 ^ 63) ≤ (R : Int); omega), (by show (R : Int) < 2 ^ 63; omega), seqIx_nat (by omega), ht, ?_⟩⟩⟩⟩
          have ev4 : Evo (fun b => b = mo) H2' (upd H2' mo (.lst (ts.eraseIdx R))) := Evo.put hts rfl
          exact hN _ _ ⟨rfl, ⟨_, upd_same, Paired.era R (Paired.mapP hP fun t e ⟨r, e1, e2⟩ => ⟨r, e1, ev4.tup e2⟩)⟩, ev4, I.O.ok.put hL2 hts nSm⟩
      rintro σ H3 ⟨rfl, hmo3, ev3, hL3⟩
      refine ⟨_, rfl, ⟨_, _, rfl, .bl _, ⟨_, rfl, ?_⟩⟩⟩
      refine iteT ?_
      refine ⟨_, rfl, ⟨_, rfl, ⟨_, _, rfl, rfl, ⟨rfl, ?_⟩⟩⟩⟩
      have hv : decide (V.bl b = V.bl (decide ((if b = true then (R : Int) else -1) ≥ 0))) = true := by
        cases b with
        | false => rfl
        | true => rw [if_pos rfl, decide_eq_true (show (R : Int) ≥ 0 by omega)]; rfl
      show Q (V.bl (decide (V.bl b = V.bl (decide ((if b = true then (R : Int) else -1) ≥ 0))))) H3
      rw [hv]
      exact q H3 _ ds' (hm2.evo ev3 pmo (fun z => nmk z.symm)) hmo3 (hd2.evo ev3) hss2 hl2 hL3 (t12.evo ev3 (tab_ne t12 hts).symm) (t22.evo ev3 (tab_ne t22 hts).symm) ((ev2.mono fun b z => z.elim .inl fun y => .inr (.inl y)).trans (ev3.mono fun b z => .inr (.inr z)))
    refine ⟨_, rfl, ⟨_, _, rfl, rfl, by omega, ⟨rfl, ⟨_, rfl, ?_⟩⟩⟩⟩
    obtain ⟨ts, hts, hP⟩ := id hmo1
    refine iteD (fun _ => ?_) (fun _ => ?_)
    · -- get
      refine seq_via (I := fun σ H' => H' = H1' ∧ σ = [some (V.ref p), some (V.ref mo), some (V.int way), some (V.int more), some key, some (V.int (if b = true then (R : Int) else -1)), some (V.int (R : Nat)), none, some (V.str "none")]) (fun N hN => hN _ _ ⟨rfl, rfl⟩) ?_
      rintro σ H1a ⟨rfl, rfl⟩
      refine seq_via (I := fun σ H' => H' = H1a ∧ ∃ dv : V, σ = [some (V.ref p), some (V.ref mo), some (V.int way), some (V.int more), some key, some (V.int (if b = true then (R : Int) else -1)), some (V.int (R : Nat)), none, some dv] ∧ (b = false → dv = .str "none") ∧ (b = true → ∃ en, ens[R]? = some en ∧ dv = en.2 ∧ ∃ z : Int, en.2 = .int z)) (fun N hN => ?_) ?_
      · refine ⟨_, rfl, ⟨_, _, rfl, rfl, ⟨_, rfl, ?_⟩⟩⟩
        cases b with
        | false =>
          refine iteDF (by show ¬ ((-1 : Int) ≥ 0); decide) ?_
          exact hN _ _ ⟨rfl, _, rfl, fun _ => rfl, fun z => by cases z⟩
        | true =>
          have hR := hlt rfl
          refine iteD (fun _ => ?_) (fun hc => absurd (show (R : Int) ≥ 0 by omega) hc)
          obtain ⟨en, hen⟩ := get_lt (l := ens) (i := R) hR
          obtain ⟨t, ht, r, rfl, hr'⟩ := Paired.getr hP hen
          obtain ⟨dd, _, _, _, hdd⟩ := Paired.getl hd1 hen
          have aR : atI ts (if true = true then (R : Int) else -1) = some (V.ref r) := by rw [if_pos rfl]; exact atI_nat ht
          refine ⟨_, rfl, ⟨_, rfl, ⟨_, _, _, _, rfl, rfl, SqL.of hts, aR, ⟨_, _, _, _, rfl, rfl, SqT.of hr', atI_nat (j := 1) (by rfl), ?_⟩⟩⟩⟩
          exact hN _ _ ⟨rfl, _, rfl, fun z => (by cases z), fun _ => ⟨en, hen, rfl, dd.2, hdd⟩⟩
      rintro σ H1b ⟨rfl, dv, rfl, hdv1, hdv2⟩
      refine ⟨_, rfl, ⟨_, rfl, ?_⟩⟩
      refine ⟨o, p, f, kl, ens, key, L, rfl, I, hMp, hDk1, fun H2 hm2 hL2 t12 t22 ev2 => ?_⟩
      have fin : Q (.bl true) H2 := q H2 ens ds hm2 (hmo1.evo ev2 nmo) (hd1.evo ev2) hss (Nat.le_succ _) hL2 t12 t22 (ev2.mono fun b z => .inl z)
      rw [hrk, hfn]
      refine ⟨fun hb en hen => ?_, fun hb => ?_⟩
      · obtain ⟨en', hen', rfl, z, hz⟩ := hdv2 hb
        rw [hen] at hen'
        cases hen'
        refine ⟨_, rfl, ⟨by rw [hz]; rfl, ?_⟩⟩
        show Q (V.bl (decide (en.2 = en.2))) H2
        rw [decide_eq_true rfl]; exact fin
      · have hdv := hdv1 hb
        subst hdv
        refine ⟨_, rfl, ⟨rfl, ?_⟩⟩
        show Q (V.bl (decide (V.str "none" = V.str "none"))) H2
        rw [decide_eq_true rfl]; exact fin
    · -- has
      refine ⟨_, rfl, p, dx, _, rfl, hp, mfl_no _ _ (by decide +kernel) (by decide +kernel), ⟨_, rfl, ?_⟩⟩
      refine ⟨o, p, f, kl, ens, key, L, rfl, I, hMp, hDk1, fun H2 hm2 hL2 t12 t22 ev2 => ?_⟩
      refine ⟨_, rfl, ⟨_, _, rfl, rfl, ⟨rfl, ?_⟩⟩⟩
      have hv : decide (V.bl (YM.fnd o.F L (ens.map (·.1)) key).1 = V.bl (decide ((if b = true then (R : Int) else -1) ≥ 0))) = true := by
        rw [hfn]
        cases b with
        | false => rfl
        | true => rw [if_pos rfl, decide_eq_true (show (R : Int) ≥ 0 by omega)]; rfl
      show Q (V.bl (decide (V.bl (YM.fnd o.F L (ens.map (·.1)) key).1 = V.bl (decide ((if b = true then (R : Int) else -1) ≥ 0))))) H2
      rw [hv]
      exact q H2 ens ds hm2 (hmo1.evo ev2 nmo) (hd1.evo ev2) hss (Nat.le_succ _) hL2 t12 t22 (ev2.mono fun b z => .inl z)
end

/-! ### the law -/
structure W8 (K : PySem.W.Frag) (A : Adr) (a : Addr) (ns : List Int) (way : Int) (la f p kl mo : Addr) (ens : List (V × V)) (ds : List Dat) (H : Hp) : Prop where
  s : SqF K H a (ns.map V.int)
  t1 : TabOk H A.t_lower (qL "lower")
  t2 : TabOk H A.t_Map_rank (qL "Map.rank")
  m : MapAt A.C_Map H p f kl ens
  d : EnD H ens ds
  l : LogAt mo ens H
  ss : YM.Sst (ansF way) (ds.map (·.1))
  n1 : kl ≠ la
  n2 : mo ≠ la
  n3 : mo ≠ kl
section
variable {P : Program} {w : World} {K : PySem.W.Frag} {mg : Str → Option Value} {base : Heap} {A : Adr} {X : Cx} {σ : L2.St} {k : Nat} {a : Addr} {ns : List Int} {way : Int} {la f p kl mo : Addr} {ens L : List (V × V)} {ds : List Dat} {H H' : Hp}
theorem W8.same (h : W8 K A a ns way la f p kl mo ens ds H) (s : Same H H') : W8 K A a ns way la f p kl mo ens ds H' := ⟨h.s.same s, tabS h.t1 s, tabS h.t2 s, h.m.same s, h.d.same s, h.l.same s, h.ss, h.n1, h.n2, h.n3⟩
theorem W8.log {ts : List V} (h : W8 K A a ns way la f p kl mo ens ds H) (ev : Evo (fun b => b = la) H H') (hla : H la = some (.lst ts)) : W8 K A a ns way la f p kl mo ens ds H' :=
  ⟨h.s.evo ev, h.t1.evo ev (tab_ne h.t1 hla).symm, h.t2.evo ev (tab_ne h.t2 hla).symm, h.m.evo ev (fun z => by
    obtain ⟨dx, h1⟩ := h.m.1
    rw [z, hla] at h1; cases h1) h.n1, h.d.evo ev, h.l.evo ev h.n2, h.ss, h.n1, h.n2, h.n3⟩
abbrev mD (A : Adr) (la kl mo : Addr) : Addr → Prop := fun b => ((b = la) ∨ b = A.t_lower ∨ b = A.t_Map_rank) ∨ b = kl ∨ b = mo
theorem noS {Hf : Hp} (Z : Froz X σ H Hf) {b : Addr} {xs : List V} (hb : H b = some (.lst xs)) (n : b ≠ la) : ¬ (oeA Hf la way).S b := fun z => by
  rcases z with z | ⟨x, u, z⟩
  · exact n z
  · rw [Z.to hb] at z; cases z
theorem FA_key {Hf : Hp} {key : V} {e : Int × Int} (hk : El Hf key e) : ∀ L x ex, El Hf x ex → (oeA Hf la way).F L x key = ansF way ex e := fun L x ex hx => by
  show ansF way (YO.ct Hf x) (YO.ct Hf key) = _
  rw [hx.ct, hk.ct]
theorem deed_R {key : V} {e : Int × Int} {more : Int} (O : ∀ Hf, Froz X σ H Hf → (oeA Hf la way).At P w K mg base k f) (h : W8 K A a ns way la f p kl mo ens ds H) (hlen : ens.length ≤ 100) (hk : El H key e) (hs : small e) (hL : LogAt la L H) (hll : L.length ≤ 50000) :
    ∃ R : V → Hp → Prop, (∀ Hf, Froz X σ H Hf → spDeed P w K mg base A k [.ref p, .ref mo, .int way, .int more, key] Hf (fun v Hf' => R v (hid Hf' (CellOf X.env.cells))) E0) ∧
      ∀ v H', R v H' → v = .bl true ∧ ∃ ens' ds' M, W8 K A a ns way la f p kl mo ens' ds' H' ∧ ens'.length ≤ ens.length + 1 ∧ LogAt la (L ++ M) H' ∧ M.length ≤ YM.clog (ens.length + 1) + 1 ∧ (∀ pr ∈ M, pr.1 ∈ ens.map (·.1) ∧ pr.2 = key) ∧ Evo (mD A la kl mo) H H' := by
  refine ⟨_, fun Hf Z => ?_, fun _ _ h => h⟩
  have S0 := Z.same'
  obtain ⟨tsm, htsm, _⟩ := id h.l
  refine ⟨oeA Hf la way, p, f, kl, mo, ens, ds, key, e, way, more, L, rfl, map_in Z (O Hf Z) h.m h.d hlen hL hll h.n1 h.t1 h.t2, map_nM h.m hL, noS Z htsm h.n2, h.n3, ⟨e, hk.same S0, hk.same S0, hs⟩, h.l.same S0, h.d.same S0, hk.same S0, hs, h.ss, FA_key (hk.same S0), hlen, fun Hf' ens' ds' hm' hl' hd' hss' hlen' hL' t1' t2' ev => ?_⟩
  obtain ⟨M, m1, m2, m3⟩ := YM.fnd_log (F := (oeA Hf la way).F) (L := L) (ks := ens.map (·.1)) (key := key)
  rw [List.length_map] at m2
  have hL2 := hL'.2
  rw [m1] at hL2
  exact ⟨rfl, ens', ds', M, ⟨(h.s.same S0).evo ev |> fun z => h.s.evo (Z.back ev), tab_back Z ev t1', tab_back Z ev t2', hm'.back Z ev, hd'.back Z ev, hl'.back Z ev, hss', h.n1, h.n2, h.n3⟩, hlen', LogAt.back Z ev hL2, m2, m3, Z.back ev⟩
theorem rank_R {key : V} {e : Int × Int} (O : ∀ Hf, Froz X σ H Hf → (oeA Hf la way).At P w K mg base k f) (h : W8 K A a ns way la f p kl mo ens ds H) (hlen : ens.length ≤ 100) (hk : El H key e) (hs : small e) (hL : LogAt la L H) (hll : L.length ≤ 50000) :
    ∃ R : V → Hp → Prop, (∀ Hf, Froz X σ H Hf → spRank P w K mg base A k [.ref p, key] Hf (fun v Hf' => R v (hid Hf' (CellOf X.env.cells))) E0) ∧
      ∀ v H', R v H' → v = .int (YM.rkS (ansF way) (ds.map (·.1)) e : Nat) ∧ ∃ M, W8 K A a ns way la f p kl mo ens ds H' ∧ LogAt la (L ++ M) H' ∧ M.length ≤ YM.clog (ens.length + 1) ∧ Evo (fun b => b = la ∨ b = A.t_lower ∨ b = A.t_Map_rank) H H' := by
  refine ⟨_, fun Hf Z => ?_, fun _ _ h => h⟩
  have S0 := Z.same'
  obtain ⟨tsm, htsm, _⟩ := id h.l
  obtain ⟨tsk, htsk, _⟩ := id h.m.2
  obtain ⟨dx, hp⟩ := h.m.1
  refine ⟨oeA Hf la way, p, f, kl, ens, key, L, rfl, map_in Z (O Hf Z) h.m h.d hlen hL hll h.n1 h.t1 h.t2, ⟨e, hk.same S0, hk.same S0, hs⟩, fun Hf' hL' t1' t2' ev => ?_⟩
  obtain ⟨M, m1, m2, _⟩ := YM.rkM_log (F := (oeA Hf la way).F) (L := L) (ks := ens.map (·.1)) (key := key)
  rw [List.length_map] at m2
  have hL2 := hL'.2
  rw [m1] at hL2
  have hdf := h.d.same S0
  have hcts := hdf.cts
  have hrk : (YM.rkM (oeA Hf la way).F L (ens.map (·.1)) key).1 = YM.rkS (ansF way) (ds.map (·.1)) e := by
    have := YM.rkM_rkS (F := (oeA Hf la way).F) (L := L) (c := YO.ct Hf) (ks := ens.map (·.1)) (key := key) (e := e) (ans_ord way) (fun L x hx => by
      obtain ⟨en, hen, rfl⟩ := List.mem_map.mp hx
      obtain ⟨d, _, h1, _⟩ := Paired.meml hdf hen
      rw [h1.ct]; exact FA_key (hk.same S0) L _ _ h1) (fun _ _ => trivial) trivial (by rw [hcts]; exact h.ss)
    rw [hcts] at this; exact this
  have evb := Z.back ev
  have nl : ∀ {b : Addr} {xs : List V}, H b = some (.lst xs) → b ≠ la → ¬ mT A (oeA Hf la way).M b := fun {b xs} hb n z => by
    rcases z with z | z | z
    · exact n z
    · exact tab_ne h.t1 hb z
    · exact tab_ne h.t2 hb z
  refine ⟨by rw [hrk], M, ⟨h.s.evo evb, tab_back Z ev t1', tab_back Z ev t2', h.m.evo evb (fun z => ?_) (nl htsk h.n1), h.d.evo evb, h.l.evo evb (nl htsm h.n2), h.ss, h.n1, h.n2, h.n3⟩, LogAt.back Z ev hL2, m2, evb⟩
  rcases z with z | z | z
  · exact map_nM h.m hL z
  · obtain ⟨ps, h4, _⟩ := h.t1
    rw [z, h4] at hp; cases hp
  · obtain ⟨ps, h4, _⟩ := h.t2
    rw [z, h4] at hp; cases hp
end
theorem log_clear {H : Hp} {la : Addr} {ts : List V} (hla : H la = some (.lst ts)) : LogAt la [] (upd H la (.lst [])) ∧ Evo (fun b => b = la) H (upd H la (.lst [])) := ⟨⟨[], upd_same, .nil⟩, Evo.put hla rfl⟩
theorem spread4m (d : Int) : ∃ spread : Int, 0 < spread ∧ spread ≤ 1000 ∧ atI [V.int 3, V.int 12, V.int 40, V.int 1000] (d / 8 % 4) = some (.int spread) := by
  have c : d / 8 % 4 = 0 ∨ d / 8 % 4 = 1 ∨ d / 8 % 4 = 2 ∨ d / 8 % 4 = 3 := by omega
  rcases c with c | c | c | c
  · exact ⟨3, by decide, by decide, by rw [c]; rfl⟩
  · exact ⟨12, by decide, by decide, by rw [c]; rfl⟩
  · exact ⟨40, by decide, by decide, by rw [c]; rfl⟩
  · exact ⟨1000, by decide, by decide, by rw [c]; rfl⟩
theorem pick2 (n : Nat) (d : Int) : ∃ m : Nat, m ≤ 40 ∧ atI [V.int ((n : Int) % 41), V.int 40] (d % 2) = some (V.int m) := by
  have c : d % 2 = 0 ∨ d % 2 = 1 := by omega
  rcases c with c | c
  · refine ⟨n % 41, by omega, ?_⟩
    rw [c, show ((n % 41 : Nat) : Int) = (n : Int) % 41 by omega]; rfl
  · exact ⟨40, by omega, by rw [c]; rfl⟩
theorem EnD.els {H : Hp} : ∀ {ens : List (V × V)} {ds : List Dat}, EnD H ens ds → Els H (ens.map (·.1)) (ds.map (·.1))
  | _, _, .nil => .nil
  | _, _, .cons h t => .cons h.1 (EnD.els t)
section
variable {P : Program} {w : World} {K : PySem.W.Frag} {mg : Str → Option Value} {base : Heap} {A : Adr}
theorem ok_law (T : Txt K mg A) (CHs : ∀ q ∈ tabs A, PySem.W.CodeHd base q.1 q.2) (bm : BMain mg base) (OC : Own mg base A) : FnOk P w K mg base CX0 14 A.f_law A.d_law ["_law_script"] (spLaw K A) := by
  have CH1 : PySem.W.CodeHd base A.c_lower A.t_lower := CHs (A.c_lower, A.t_lower) (by simp [tabs])
  have CH2 : PySem.W.CodeHd base A.c_Map_rank A.t_Map_rank := CHs (A.c_Map_rank, A.t_Map_rank) (by simp [tabs])
  have CH : PySem.W.CodeHd base A.c_law A.t_law := CHs (A.c_law, A.t_law) (by simp [tabs])
  have G__law_cell : FnOk P w K mg base CX0 1 A.f__law_cell A.d__law_cell _ (spCell K) := ok__law_cell T
  have G__law_drawn : FnOk P w K mg base CX0 1 A.f__law_drawn A.d__law_drawn _ spDrawn := ok__law_drawn T
  have G__law_answer : FnOk P w K mg base CX0 1 A.f__law_answer A.d__law_answer _ spAnswer := ok__law_answer T
  have G__law_ask : FnOk P w K mg base CX0 2 A.f__law_ask A.d__law_ask _ spAsk := ok__law_ask T
  have G__law_log : FnOk P w K mg base CX0 1 A.f__law_log A.d__law_log _ spLog := ok__law_log T
  have G__law_find : FnOk P w K mg base CX0 2 A.f__law_find A.d__law_find _ spFind := ok__law_find T
  have G__law_at : FnOk P w K mg base CX0 2 A.f__law_at A.d__law_at _ (spLAt A) := ok__law_at T OC
  have G__law_deed : FnOk P w K mg base CX0 11 A.f__law_deed A.d__law_deed _ (spDeed P w K mg base A 3) := ok__law_deed T CH1 CH2 bm OC
  have G_Map___init__ : FnOk P w K mg base CX0 1 A.f_Map___init__ A.d_Map___init__ _ (spMInit A) := ok_Map___init__ T
  have G_Map_rank : FnOk P w K mg base CX0 8 A.f_Map_rank A.d_Map_rank _ (spRank P w K mg base A 3) := ok_Map_rank T CH1 CH2 bm
  have G_Map_size : FnOk P w K mg base CX0 1 A.f_Map_size A.d_Map_size _ (spMSize A) := ok_Map_size T
  have G_Map_pairs : FnOk P w K mg base CX0 1 A.f_Map_pairs A.d_Map_pairs _ (spMPairs A) := ok_Map_pairs T
  refine T.fn_law.okC sc_law (fun vs H Q E h => ?_) (fun cdv hcdv Ar outer s H vs Q E hr h => ?_)
  · obtain ⟨a, ns, rfl, _⟩ := h
    rfl
  · obtain ⟨a, ns, rfl, hS, hl, hT1, hT2, hT3, q⟩ := h
    have nd := sc_law.nd
    have hu := units150 hr
    have hcd : cdv = .ref A.c_law := hcdv.symm.trans T.cd_law
    refine ⟨_, (pss_cons (ps_set (i := 1) nd rfl (Or.inr rfl) (pe_op op_mod (pe_call G__law_drawn (hr.mono (by omega)) rfl T.mg__law_drawn T.fn__law_drawn.kp T.b__law_drawn .nil pass0 (pa_cons (pe_call G__law_cell (hr.mono (by omega)) rfl T.mg__law_cell T.fn__law_cell.kp T.b__law_cell .nil pass0 (pa_cons (pv 0) (pa_cons pe_int pa_nil))) (pa_cons pe_int pa_nil))) pe_int))
      (pss_cons (ps_set (i := 2) nd rfl (Or.inl rfl) (pe_ix ix_list (pe_lst (pa_cons pe_int (pa_cons pe_int (pa_cons pe_int (pa_cons pe_int pa_nil))))) (pe_op op_mod (pe_op op_fdiv (pe_call G__law_drawn (hr.mono (by omega)) rfl T.mg__law_drawn T.fn__law_drawn.kp T.b__law_drawn .nil pass0 (pa_cons (pe_call G__law_cell (hr.mono (by omega)) rfl T.mg__law_cell T.fn__law_cell.kp T.b__law_cell .nil pass0 (pa_cons (pv 0) (pa_cons pe_int pa_nil))) (pa_cons pe_int pa_nil))) pe_int) pe_int) (fun _ _ => rfl)))
      (pss_cons (ps_set (i := 3) nd rfl (Or.inr rfl) (pe_lst pa_nil))
      (pss_cons (ps_set (i := 4) nd rfl (Or.inl rfl) (pe_make T.mk_Map G_Map___init__ (hr.mono (by omega)) rfl T.mgC_Map T.b_Map___init__ .nil pass0 (pa_cons (pe_lam hcd CH bm rfl) pa_nil)))
      (pss_cons (ps_set (i := 5) nd rfl (Or.inl rfl) (pe_lst pa_nil))
      (pss_cons (ps_for PassesOwn.never rfl (pi_range1 rfl T.bl_range (pa_cons (pe_ix ix_list (pe_lst (pa_cons (pe_op op_mod (pe_callB call_len_seq (by rfl) T.bl_len YO.yb_len (pa_cons (pv 0) pa_nil)) pe_int) (pa_cons pe_int pa_nil))) (pe_op op_mod (pe_call G__law_drawn (hr.mono (by omega)) rfl T.mg__law_drawn T.fn__law_drawn.kp T.b__law_drawn .nil pass0 (pa_cons (pe_call G__law_cell (hr.mono (by omega)) rfl T.mg__law_cell T.fn__law_cell.kp T.b__law_cell .nil pass0 (pa_cons (pv 0) (pa_cons pe_int pa_nil))) (pa_cons pe_int pa_nil))) pe_int) (fun _ _ => rfl)) pa_nil)) (pg_name (i := 6) nd rfl (Or.inl rfl)) (pss_cons (ps_set (i := 7) nd rfl (Or.inl rfl) (pe_call G__law_drawn (hr.mono (by omega)) rfl T.mg__law_drawn T.fn__law_drawn.kp T.b__law_drawn .nil pass0 (pa_cons (pe_call G__law_cell (hr.mono (by omega)) rfl T.mg__law_cell T.fn__law_cell.kp T.b__law_cell .nil pass0 (pa_cons (pv 0) (pa_cons (pv 6) pa_nil))) (pa_cons (pv 6) pa_nil))))
      (pss_cons (ps_set (i := 8) nd rfl (Or.inr rfl) (pe_tup (pa_cons (pe_op op_mod (pe_op op_fdiv (pv 7) pe_int) (pv 2)) (pa_cons (pv 6) pa_nil))))
      (pss_cons (ps_set (i := 9) nd rfl (Or.inr rfl) (pe_comp  ["_law_one"] [none] rfl ⟨rfl, rfl, rfl, rfl, trivial⟩ (pi_list (pv 5)) (fun _ _ _ _ => (pg_name (i := 0) (show List.Nodup (["_law_one"] : List Str) by decide +kernel) rfl (Or.inl rfl))) (fun _ _ _ _ => pts_nil) (fun _ _ _ _ => (pe_ix (ix_tupK (K := K)) (pv 0) pe_int (fun _ _ => rfl)))))
      (pss_cons (ps_expr (pe_bm0 PySem.F.plainAttrs_list PySem.F.slot_list_clear PySem.F.type_list_clear mt_clear (pv 3)))
      (pss_cons (ps_if (pt_not (pt_val (pe_callG G__law_deed (hr.mono (by omega)) rfl T.mg__law_deed T.fn__law_deed.kp T.b__law_deed (pa_cons (pv 4) (pa_cons (pv 5) (pa_cons (pv 1) (pa_cons (pv 7) (pa_cons (pv 8) pa_nil)))))))) (pss_one (ps_ret pe_bl)) pss_nil)
      (pss_cons (ps_if (pt_cmpR op_gt (pe_callB call_len_seq (by rfl) T.bl_len YO.yb_len (pa_cons (pv 3) pa_nil)) (pe_op op_add (pe_op op_mul pe_int (pe_call G__law_log (hr.mono (by omega)) rfl T.mg__law_log T.fn__law_log.kp T.b__law_log .nil pass0 (pa_cons (pe_op op_add (pe_callB call_len_seq (by rfl) T.bl_len YO.yb_len (pa_cons (pv 9) pa_nil)) pe_int) pa_nil))) pe_int) (nomark _)) (pss_one (ps_ret pe_bl)) pss_nil)
      (pss_cons (ps_if (pt_not (pt_val (pe_callB (call_all rfl) (by rfl) T.bl_all YO.yb_all (pa_cons (pe_comp  ["_law_one", "_law_other", "_law_keys", "_law_key"] [none, none, some 9, some 8] rfl ⟨rfl, rfl, rfl, rfl, ⟨⟨rfl, rfl⟩, ⟨⟨rfl, rfl⟩, trivial⟩⟩⟩ (pi_list (pv 3)) (fun _ _ _ _ => (pg_tupK (K := K) (n := 2) rfl (pgs_cons (pg_name (i := 0) (show List.Nodup (["_law_one", "_law_other", "_law_keys", "_law_key"] : List Str) by decide +kernel) rfl (Or.inl rfl)) (pgs_cons (pg_name (i := 1) (show List.Nodup (["_law_one", "_law_other", "_law_keys", "_law_key"] : List Str) by decide +kernel) rfl (Or.inl rfl)) pgs_nil)))) (fun _ _ _ _ => pts_nil) (fun _ _ _ _ => (pe_and (pe_cmpR (op_inDK (K := K) hu) (pv 0) (pv 2) (by with_unfolding_all rfl)) (pe_one (pe_cmpR (op_eqDK (K := K) hu) (pv 1) (pv 3) (nomark _)))))) pa_nil)))) (pss_one (ps_ret pe_bl)) pss_nil)
      (pss_cons (ps_expr (pe_bm0 PySem.F.plainAttrs_list PySem.F.slot_list_clear PySem.F.type_list_clear mt_clear (pv 3)))
      (pss_cons (ps_set (i := 10) nd rfl (Or.inl rfl) (pe_op op_sub (pe_op op_mod (pe_op op_fdiv (pv 7) pe_int) pe_int) pe_int))
      (pss_cons (ps_set (i := 11) nd rfl (Or.inl rfl) pe_str)
      (pss_cons (ps_if (pt_chain op_le op_lt pe_int (pv 10) (pe_callB call_len_seq (by rfl) T.bl_len YO.yb_len (pa_cons (pv 5) pa_nil))) (pss_one (ps_set (i := 11) nd rfl (Or.inl rfl) (pe_ix ix_list (pv 5) (pv 10) (fun _ _ => rfl)))) pss_nil)
      (pss_cons (ps_if (PW.pt (pw_or (pt_cmpR op_ne (pe_meth0 (pv 4) T.cl_Map T.m_Map_size G_Map_size (hr.mono (by omega)) T.b_Map_size .nil pass0) (pe_callB call_len_seq (by rfl) T.bl_len YO.yb_len (pa_cons (pv 5) pa_nil)) (nomark _)) (pw_or (pt_cmpR (op_neU hu) (pe_call G__law_at (hr.mono (by omega)) rfl T.mg__law_at T.fn__law_at.kp T.b__law_at .nil pass0 (pa_cons (pv 4) (pa_cons (pv 10) pa_nil))) (pv 11) (nomark _)) (pw_or1 (PW.pt (pw_and (pt_cmpR op_eq (pe_op op_mod (pe_op op_fdiv (pv 7) pe_int) pe_int) pe_int (nomark _)) (pw_and1 (pt_cmpR (op_neD hu) (pe_meth0 (pv 4) T.cl_Map T.m_Map_pairs G_Map_pairs (hr.mono (by omega)) T.b_Map_pairs .nil pass0) (pv 5) (nomark _))))))))) (pss_one (ps_ret pe_bl)) pss_nil)
      (pss_cons (ps_if (pt_cmpR (op_neD hu) (pv 3) (pe_lst pa_nil) (nomark _)) (pss_one (ps_ret pe_bl)) pss_nil)
      (pss_one (ps_if (PW.pt (pw_or (pt_cmpR op_ne (pe_methG (pv 4) T.cl_Map T.m_Map_rank G_Map_rank (hr.mono (by omega)) T.b_Map_rank (pa_cons (pv 8) pa_nil)) (pe_ix ix_tup (pe_call G__law_find (hr.mono (by omega)) rfl T.mg__law_find T.fn__law_find.kp T.b__law_find .nil pass0 (pa_cons (pv 5) (pa_cons (pv 8) (pa_cons (pv 1) pa_nil)))) pe_int (fun _ _ => rfl)) (nomark _)) (pw_or1 (pt_cmpR op_gt (pe_callB call_len_seq (by rfl) T.bl_len YO.yb_len (pa_cons (pv 3) pa_nil)) (pe_op op_add (pe_op op_mul pe_int (pe_call G__law_log (hr.mono (by omega)) rfl T.mg__law_log T.fn__law_log.kp T.b__law_log .nil pass0 (pa_cons (pe_op op_add (pe_callB call_len_seq (by rfl) T.bl_len YO.yb_len (pa_cons (pv 5) pa_nil)) pe_int) pa_nil))) pe_int) (nomark _))))) (pss_one (ps_ret pe_bl)) pss_nil))))))))))))))))
      (pss_one (ps_ret (pe_cmpR (op_eqD hu) (pe_meth0 (pv 4) T.cl_Map T.m_Map_pairs G_Map_pairs (hr.mono (by omega)) T.b_Map_pairs .nil pass0) (pv 5) (nomark _)))))))))), ?_⟩
    refine ⟨_, rfl, ⟨a, ns, 0, rfl, hS.sq, hl, by omega, fun H1 s1 => ⟨_, _, rfl, ?_⟩⟩⟩
    generalize drawnF (cellF ns 0) 1 = d
    obtain ⟨way, hway⟩ : ∃ way : Int, way = d % 6 := ⟨_, rfl⟩
    refine ⟨_, _, rfl, rfl, by omega, ?_⟩
    refine seq_via (I := fun σ H' => H' = H1 ∧ σ = [some (V.ref a), some (V.int way), none, none, none, none, none, none, none, none, none, none]) (fun N hN => hN _ _ ⟨rfl, by rw [hway]; rfl⟩) ?_
    rintro σ H1' ⟨rfl, rfl⟩
    -- spread
    refine ⟨(by show 4 ≤ sizeLine; decide), fun p1 hp1 => ⟨_, rfl, ?_⟩⟩
    have sB := s1.trans (Same.new (o := .lst [V.int 3, V.int 12, V.int 40, V.int 1000]) hp1)
    have hB : (upd H1' p1 (.lst [V.int 3, V.int 12, V.int 40, V.int 1000])) p1 = _ := upd_same
    generalize upd H1' p1 (.lst [V.int 3, V.int 12, V.int 40, V.int 1000]) = HB at sB hB
    refine ⟨a, ns, 0, rfl, (hS.same sB).sq, hl, by omega, fun HC sC => ⟨_, _, rfl, ?_⟩⟩
    generalize drawnF (cellF ns 0) 1 = d'
    obtain ⟨spread, hs0, hs1, hat⟩ := spread4m d'
    refine ⟨_, _, rfl, rfl, ⟨by omega, by omega⟩, ⟨_, _, rfl, rfl, by omega, ⟨_, _, _, _, rfl, rfl, SqL.of (sC _ _ hB), hat, ?_⟩⟩⟩
    have s0C := sB.trans sC
    refine seq_via (I := fun σ H' => H' = HC ∧ σ = [some (V.ref a), some (V.int way), some (V.int spread), none, none, none, none, none, none, none, none, none]) (fun N hN => hN _ _ ⟨rfl, rfl⟩) ?_
    rintro σ HC' ⟨rfl, rfl⟩
    refine ⟨Nat.zero_le _, fun la hla => ?_⟩
    have sl := Same.new (o := .lst []) hla
    have hla2 : LogAt la [] (upd HC' la (.lst [])) := ⟨[], upd_same, .nil⟩
    have s02 : Same H (upd HC' la (.lst [])) := s0C.trans sl
    generalize upd HC' la (.lst []) = H2 at s02 hla2
    have hT32 := tabS hT3 s02
    refine ⟨hT32, fun f H3 ok hfn hlam htab hold => ?_⟩
    have ev3 : Evo (fun b => b = A.t_law) H2 H3 := tab_evo hT32 hold
    have hS3 := (hS.same s02).evo ev3
    have t13 := (tabS hT1 s02).evo ev3 T.ne_lower_law
    have t23 := (tabS hT2 s02).evo ev3 T.ne_Map_rank_law
    have hla3 := hla2.lam hT32 hold
    intro x dx nx ndx nex
    have s3 : Same H3 (upd (upd H3 dx (.own x)) x (.ins A.C_Map dx [])) := fun b u e => by
      rw [upd_ne (ne_of_none e nx), upd_ne (ne_of_none e ndx)]; exact e
    refine ⟨x, dx, f, rfl, upd_same, fun kl H4 hkl hx4 hkl4 kp => ⟨rfl, ?_⟩⟩
    have s34 : Same H3 H4 := fun b u e => kp b u (s3 b u e) (ne_of_none e nx)
    have hla4 := hla3.same s34
    have nkl : kl ≠ la := fun z => by
      obtain ⟨ts, e, _⟩ := hla3
      have := s3 _ _ e
      rw [← z, hkl] at this; cases this
    -- model
    refine ⟨Nat.zero_le _, fun mo hmo => ?_⟩
    have s5 := Same.new (o := .lst []) hmo
    have s35 := s34.trans s5
    obtain ⟨tl4, htl4, _⟩ := id hla4
    have w5 : W8 K A a ns way la f x kl mo [] [] (upd H4 mo (.lst [])) := ⟨hS3.same s35, tabS t13 s35, tabS t23 s35, ⟨⟨dx, s5 _ _ hx4⟩, [], s5 _ _ hkl4, .nil⟩, .nil, ⟨[], upd_same, .nil⟩, List.Pairwise.nil, nkl, (ne_of_none htl4 hmo).symm, (ne_of_none hkl4 hmo).symm⟩
    have hla5 := hla4.same s5
    have fk5 : Fk H3 (upd H4 mo (.lst [])) := Fk.refl.same s35
    generalize upd H4 mo (.lst []) = H5 at w5 hla5 fk5
    refine seq_via (I := fun σ H' => H' = H5 ∧ σ = [some (V.ref a), some (V.int way), some (V.int spread), some (V.ref la), some (V.ref x), some (V.ref mo), none, none, none, none, none, none]) (fun N hN => hN _ _ ⟨rfl, rfl⟩) ?_
    rintro σ H5' ⟨rfl, rfl⟩
    refine ⟨_, rfl, ⟨_, _, rfl, .inl w5.s.sq, ⟨_, _, rfl, rfl, by omega, ⟨(by show 2 ≤ sizeLine; decide), fun p2 hp2 => ⟨_, rfl, ?_⟩⟩⟩⟩⟩
    have s6 := Same.new (o := .lst [V.int (((ns.map V.int).length : Int) % 41), V.int 40]) hp2
    have h6 : (upd H5' p2 (.lst [V.int (((ns.map V.int).length : Int) % 41), V.int 40])) p2 = _ := upd_same
    have w6 := w5.same s6
    have hla6 := hla5.same s6
    have fk6 := fk5.same s6
    generalize upd H5' p2 (.lst [V.int (((ns.map V.int).length : Int) % 41), V.int 40]) = H6 at s6 h6 w6 hla6 fk6
    refine ⟨a, ns, 0, rfl, w6.s.sq, hl, by omega, fun H7 s7 => ⟨_, _, rfl, ?_⟩⟩
    generalize drawnF (cellF ns 0) 2 = d2
    obtain ⟨m, hm, hat2⟩ := pick2 (ns.map V.int).length d2
    refine ⟨_, _, rfl, rfl, by omega, ⟨_, _, _, _, rfl, rfl, SqL.of (s7 _ _ h6), hat2, ⟨_, rfl, by omega, by omega, ?_⟩⟩⟩
    rw [Int.toNat_natCast]
    refine for_range (lo := 0) (n := m) (fun i σ H' => ∃ (ens : List (V × V)) (ds : List Dat) (L : List (V × V)) (o6 o7 o8 o9 o10 o11 : Option V), σ = [some (V.ref a), some (V.int way), some (V.int spread), some (V.ref la), some (V.ref x), some (V.ref mo), o6, o7, o8, o9, o10, o11] ∧ W8 K A a ns way la f x kl mo ens ds H' ∧ ens.length ≤ i ∧ LogAt la L H' ∧ Fk H3 H')
      ⟨[], [], [], none, none, none, none, none, none, rfl, w6.same s7, Nat.zero_le _, hla6.same s7, fk6.same s7⟩ ?_ ?_
    · clear w6 hla6 fk6 w5 hla5 fk5
      rintro i σ H8 hi ⟨ens, ds, L, o6, o7, o8, o9, o10, o11, rfl, w8, hln, hL8, fk8⟩
      refine ⟨_, rfl, ⟨_, rfl, ⟨a, ns, _, rfl, w8.s.sq, hl, by omega, fun H9 s9 => ⟨_, rfl, ⟨_, _, rfl, ?_⟩⟩⟩⟩⟩
      generalize drawnF (cellF ns (0 + (i : Int))) (0 + (i : Int)) = dd
      have m1 := Int.emod_nonneg (dd / 64) (show spread ≠ 0 by omega)
      have m2 := Int.emod_lt_of_pos (dd / 64) hs0
      refine ⟨_, rfl, ⟨_, _, rfl, rfl, ⟨by omega, by omega⟩, ⟨_, rfl, ⟨_, _, rfl, rfl, hs0, ⟨_, rfl, ⟨(by show 2 ≤ sizeLine; decide), fun r hr0 => ?_⟩⟩⟩⟩⟩⟩
      have s10 := s9.trans (Same.new (o := .tup [V.int (dd / 64 % spread), V.int (0 + (i : Int))]) hr0)
      have hel : El (upd H9 r (.tup [V.int (dd / 64 % spread), V.int (0 + (i : Int))])) (.ref r) (dd / 64 % spread, 0 + (i : Int)) := ⟨r, rfl, upd_same⟩
      generalize upd H9 r (.tup [V.int (dd / 64 % spread), V.int (0 + (i : Int))]) = H10 at s10 hel
      have hsm : small (dd / 64 % spread, 0 + (i : Int)) := ⟨by show -(2 ^ 40) < dd / 64 % spread; omega, by show dd / 64 % spread < 2 ^ 40; omega⟩
      generalize ((dd / 64 % spread, 0 + (i : Int)) : Int × Int) = e0 at hel hsm
      have w10 := w8.same s10
      have hL10 := hL8.same s10
      have fk10 := fk8.same s10
      refine seq_via (I := fun σ H' => H' = H10 ∧ σ = [some (V.ref a), some (V.int way), some (V.int spread), some (V.ref la), some (V.ref x), some (V.ref mo), some (V.int (0 + (i : Int))), some (V.int dd), some (V.ref r), o9, o10, o11]) (fun N hN => hN _ _ ⟨rfl, rfl⟩) ?_
      rintro σ H10' ⟨rfl, rfl⟩
      -- keys
      obtain ⟨tp, htp, hPp⟩ := id w10.l
      have ltp := Paired.length hPp
      refine ⟨_, rfl, ⟨mo, rfl, ⟨tp, SqL.of htp⟩, fun D4 hD4 => ?_⟩⟩
      refine compS_list (K := K) (a := mo) (xs := tp) (fun i zs _ => zs = (ens.take i).map (·.1)) hD4 (SqL.of htp) rfl ?_ ?_
      · intro j y zs H' hj hy hz hzl sm hP
        obtain ⟨pr, hpr, qt, rfl, hq⟩ := Paired.getl hPp hy
        refine ⟨rfl, ⟨_, rfl, ⟨_, _, _, _, rfl, rfl, SqT.of (sm _ _ hq), atI_nat (j := 0) (by rfl), ?_⟩⟩⟩
        refine ci_put hD4 hj (by omega) hz hzl sm (fun b o e => e) fun H'' kk => ?_
        rw [hP, List.take_add_one, hpr, List.map_append]; rfl
      intro zs4 H11 k4 s11 k5
      rw [show ens.take tp.length = ens from List.take_of_length_le (by omega)] at k5
      rw [k5] at k4
      have w11 := w10.same s11
      have hL11 := hL10.same s11
      have fk11 := fk10.same s11
      have hel11 := hel.same s11
      obtain ⟨tl10, htl10, _⟩ := id hL10
      obtain ⟨tk10, htk10, _⟩ := id w10.m.2
      have nD1 : la ≠ D4 := ne_of_none htl10 hD4
      have nD2 : mo ≠ D4 := ne_of_none htp hD4
      have nD3 : kl ≠ D4 := ne_of_none htk10 hD4
      clear w10 hL10 fk10 hel
      -- clear
      refine seq_via (I := fun σ H' => H' = H11 ∧ σ = [some (V.ref a), some (V.int way), some (V.int spread), some (V.ref la), some (V.ref x), some (V.ref mo), some (V.int (0 + (i : Int))), some (V.int dd), some (V.ref r), some (V.ref D4), o10, o11]) (fun N hN => hN _ _ ⟨rfl, rfl⟩) ?_
      rintro σ H11' ⟨rfl, rfl⟩
      obtain ⟨ts11, hts11, _⟩ := id hL11
      refine ⟨_, rfl, ⟨.inl ⟨rfl, _, SqL.of hts11⟩, ⟨_, _, rfl, rfl, hts11, ?_⟩⟩⟩
      obtain ⟨hL12, ev12⟩ := log_clear hts11
      have w12 := w11.log ev12 hts11
      have fk12 := fk11.evo ev12
      have hel12 := hel11.evo ev12
      have k12 := ev12.lst k4 nD1.symm
      generalize upd H11' la (.lst []) = H12 at hL12 ev12 w12 fk12 hel12 k12
      clear w11 hL11 fk11 hel11
      have hlam12 := hlam.fk fk12
      -- the deed
      refine ⟨_, rfl, ⟨_, rfl, ⟨_, rfl, ⟨_, rfl, ⟨_, rfl, ?_⟩⟩⟩⟩⟩
      refine use_call (deed_R (way := way) (fun Hf Z => by
        have l_hO : LamAt Hf f _ _ _ _ _ := (by obtain ⟨pm, c, ctv, oc, h1, h2, h3⟩ := hlam12; exact ⟨pm, c, ctv, oc, Z.to h1, Z.to h2, h3⟩)
        have hO := ora_ask (P := P) (w := w) (K := K) (mg := mg) (base := base) (k := 2) (la := la) (way := way) (cap := 100000) (N := ["_law_one", "_law_other", "_law_asked", "_law_way"]) l_hO ⟨rfl, rfl, rfl, by decide +kernel, rfl, by decide +kernel, by decide +kernel, by decide +kernel⟩
          (clos_inj rfl ok) clos_has (clos_cells rfl ok (by decide +kernel)) (fun _ _ _ us hl => match us, hl with | [_, _], _ => rfl)
          (fun cdv A outer s H hr => ⟨_, pe_call G__law_ask hr rfl T.mg__law_ask T.fn__law_ask.kp T.b__law_ask .nil pass0 (pa_cons (pv 2) (pa_cons (pv 3) (pa_cons (pv 0) (pa_cons (pv 1) pa_nil)))), fun x y H1 Q h => ⟨_, rfl, ⟨_, rfl, ⟨_, rfl, ⟨_, rfl, h⟩⟩⟩⟩⟩)
          (Z.caught rfl (.cons ⟨3, rfl, rfl, rfl⟩ (.cons ⟨1, rfl, rfl, rfl⟩ .nil))) (fun b hb => by obtain ⟨_, o, v, h2, _⟩ := Z.cell b (Z.own rfl hb); exact ⟨o, h2⟩) (by decide)
        exact hO) w12 (by omega) hel12 hsm hL12 (Nat.zero_le _)) ?_
      rintro v H13 ⟨rfl, ens', ds', M, w13, hl13, hL13, hM1, hM2, ev13⟩
      refine ⟨_, rfl, ?_⟩
      refine iteF ?_
      rw [List.nil_append] at hL13
      have hel13 := hel12.evo ev13
      have fk13 := fk12.evo ev13
      have hE13 : Els H13 (ens.map (·.1)) (ds.map (·.1)) := (w12.d.evo ev13).els
      have lE := Paired.length hE13
      rw [List.length_map] at lE
      have k13 : H13 D4 = some (.lst (ens.map (·.1))) := ev13.lst k12 (fun z => by
        rcases z with (z | z | z) | z | z
        · exact nD1 z.symm
        · exact tab_ne w12.t1 k12 z
        · exact tab_ne w12.t2 k12 z
        · exact nD3 z.symm
        · exact nD2 z.symm)
      clear w12 hL12 fk12 hel12 hlam12
      obtain ⟨ts, hts, hPt⟩ := id hL13
      have lts := Paired.length hPt
      have hcl : YM.clog (ens.length + 1) ≤ 10 := YM.clog_least _ _ (by show ens.length + 1 ≤ 1024; omega)
      -- too many questions
      refine ⟨_, rfl, ⟨_, _, rfl, .inl (SqL.of hts), ⟨_, rfl, ⟨_, _, rfl, .inl (SqL.of k13), ⟨_, _, rfl, rfl, ⟨(ens.map (·.1)).length + 1, rfl, Nat.le_trans (show (ens.map (·.1)).length + 1 ≤ 1001 by rw [List.length_map]; omega) (by decide), ?_⟩⟩⟩⟩⟩⟩
      rw [List.length_map]
      refine ⟨_, _, rfl, rfl, .inl ⟨by omega, by omega⟩, ⟨_, _, rfl, rfl, ⟨_, _, rfl, rfl, ⟨_, rfl, ?_⟩⟩⟩⟩
      refine iteDF (by rw [lts]; omega) ?_
      -- all asked of the keys
      refine ⟨_, rfl, ⟨la, rfl, ⟨ts, SqL.of hts⟩, fun D3 hD3 => ?_⟩⟩
      refine compS_list (K := K) (a := la) (xs := ts) (fun i zs _ => zs = (List.replicate i true).map V.bl) hD3 (SqL.of hts) rfl ?_ ?_
      · intro j y zs H' hj hy hz hzl sm hP
        obtain ⟨pr, hpr, qt, rfl, hq⟩ := Paired.getl hPt hy
        obtain ⟨hp1', hp2'⟩ := hM2 pr (List.mem_of_getElem? hpr)
        obtain ⟨e1, he1, hx1⟩ := hE13.mem' _ hp1'
        refine ⟨qt, _, rfl, SqT.of (sm _ _ hq), rfl, ⟨_, _, rfl, ⟨_, _, rfl, ⟨rfl, ⟨rfl, ?_⟩⟩⟩⟩⟩
        refine ⟨_, rfl, ⟨_, rfl, ⟨dE e1, D4, _, (ds.map (·.1)).map dE, (hx1.same sm).dp, rfl, SqL.of (sm _ _ k13), (hE13.same sm).dp, Nat.le_trans (dep_els _) (by decide), ⟨_, rfl, ?_⟩⟩⟩⟩
        have hany1 : (((ds.map (·.1)).map dE).any fun d => eqD d (dE e1)) = true := by rw [any_dE]; exact decide_eq_true he1
        rw [if_neg Bool.false_ne_true, hany1]
        refine iteT ?_
        rw [hp2']
        refine ⟨_, rfl, ⟨_, rfl, ⟨_, _, (hel13.same sm).dp, (hel13.same sm).dp, rfl, (by show 1 ≤ 100; decide), ?_⟩⟩⟩
        rw [eqD_self]
        refine ci_put hD3 hj (by omega) hz hzl sm (fun b o e => e) fun H'' kk => ?_
        rw [hP, List.replicate_succ', List.map_append]; rfl
      intro zs3 H14 k1 s14 k2
      rw [k2] at k1
      refine ⟨D3, List.replicate ts.length true, rfl, SqL.of k1, ⟨_, rfl, ?_⟩⟩
      rw [show (List.replicate ts.length true).all id = true from by rw [List.all_eq_true]; intro b hb; exact List.eq_of_mem_replicate hb]
      refine iteF ?_
      have w14 := w13.same s14
      have hL14 := hL13.same s14
      have fk14 := fk13.same s14
      have hel14 := hel13.same s14
      clear w13 hL13 fk13 hel13 hE13 k13 hPt
      -- clear again, place, due
      obtain ⟨ts14, hts14, _⟩ := id hL14
      refine ⟨_, rfl, ⟨.inl ⟨rfl, _, SqL.of hts14⟩, ⟨_, _, rfl, rfl, hts14, ?_⟩⟩⟩
      obtain ⟨hL15, ev15⟩ := log_clear hts14
      have w15 := w14.log ev15 hts14
      have fk15 := fk14.evo ev15
      have hel15 := hel14.evo ev15
      generalize upd H14 la (.lst []) = H15 at hL15 ev15 w15 fk15 hel15
      clear w14 hL14 fk14 hel14
      refine ⟨_, rfl, ⟨_, _, rfl, rfl, ⟨by omega, by omega⟩, ⟨_, _, rfl, rfl, by omega, ⟨_, _, rfl, rfl, ?_⟩⟩⟩⟩
      have pl1 : -2 ≤ dd / 4096 % 44 - 2 := by omega
      have pl2 : dd / 4096 % 44 - 2 ≤ 41 := by omega
      obtain ⟨pl, hpl⟩ : ∃ pl : Int, pl = dd / 4096 % 44 - 2 := ⟨_, rfl⟩
      rw [← hpl] at pl1 pl2
      refine seq_via (I := fun σ H' => H' = H15 ∧ σ = [some (V.ref a), some (V.int way), some (V.int spread), some (V.ref la), some (V.ref x), some (V.ref mo), some (V.int (0 + (i : Int))), some (V.int dd), some (V.ref r), some (V.ref D4), some (V.int pl), o11]) (fun N hN => hN _ _ ⟨rfl, by rw [hpl]; rfl⟩) ?_
      rintro σ H15' ⟨rfl, rfl⟩
      refine seq_via (I := fun σ H' => H' = H15' ∧ σ = [some (V.ref a), some (V.int way), some (V.int spread), some (V.ref la), some (V.ref x), some (V.ref mo), some (V.int (0 + (i : Int))), some (V.int dd), some (V.ref r), some (V.ref D4), some (V.int pl), some (V.str "none")]) (fun N hN => hN _ _ ⟨rfl, rfl⟩) ?_
      rintro σ H15a ⟨rfl, rfl⟩
      obtain ⟨tm, htm, hPm⟩ := id w15.l
      have ltm := Paired.length hPm
      refine seq_via (I := fun σ H' => H' = H15a ∧ ∃ dv : V, σ = [some (V.ref a), some (V.int way), some (V.int spread), some (V.ref la), some (V.ref x), some (V.ref mo), some (V.int (0 + (i : Int))), some (V.int dd), some (V.ref r), some (V.ref D4), some (V.int pl), some dv] ∧ ((∃ (j : Nat) (en : V × V) (qd : Addr), pl = (j : Int) ∧ ens'[j]? = some en ∧ dv = .ref qd ∧ H15a qd = some (.tup [en.1, en.2])) ∨ ((pl < 0 ∨ (ens'.length : Int) ≤ pl) ∧ dv = .str "none"))) (fun N hN => ?_) ?_
      · refine ⟨_, rfl, ⟨_, _, rfl, rfl, ⟨_, rfl, ?_⟩⟩⟩
        refine iteD (fun hc => ?_) (fun hc => ?_)
        · refine ⟨_, rfl, ⟨_, _, rfl, .inl (SqL.of htm), ⟨_, _, rfl, rfl, ⟨_, rfl, ?_⟩⟩⟩⟩
          refine iteD (fun hc2 => ?_) (fun hc2 => ?_)
          · obtain ⟨j, rfl⟩ : ∃ j : Nat, pl = (j : Int) := ⟨pl.toNat, by omega⟩
            obtain ⟨en, hen⟩ := get_lt (l := ens') (i := j) (by omega)
            obtain ⟨t, ht, qd, rfl, hqd⟩ := Paired.getr hPm hen
            refine ⟨_, rfl, ⟨_, rfl, ⟨_, _, _, _, rfl, rfl, SqL.of htm, atI_nat ht, ?_⟩⟩⟩
            exact hN _ _ ⟨rfl, _, rfl, .inl ⟨j, en, qd, rfl, hen, rfl, hqd⟩⟩
          · exact hN _ _ ⟨rfl, _, rfl, .inr ⟨.inr (by omega), rfl⟩⟩
        · exact ⟨false, rfl, iteF (hN _ _ ⟨rfl, _, rfl, .inr ⟨.inl (by omega), rfl⟩⟩)⟩
      rintro σ H15b ⟨rfl, dv, rfl, hdv⟩
      -- size, at, pairs
      obtain ⟨dx15, hp15⟩ := w15.m.1
      refine seq_via (I := fun σ H' => Same H15b H' ∧ σ = [some (V.ref a), some (V.int way), some (V.int spread), some (V.ref la), some (V.ref x), some (V.ref mo), some (V.int (0 + (i : Int))), some (V.int dd), some (V.ref r), some (V.ref D4), some (V.int pl), some dv]) (fun N hN => ?_) ?_
      · refine ⟨_, rfl, x, dx15, _, rfl, hp15, mfl_no _ _ (by decide +kernel) (by decide +kernel), ⟨x, f, kl, ens', rfl, w15.m, ⟨_, rfl, ⟨_, _, rfl, .inl (SqL.of htm), ⟨rfl, ⟨_, rfl, ?_⟩⟩⟩⟩⟩⟩
        rw [ltm, decide_eq_true rfl]
        refine iteF ?_
        have hlast : ∀ H' : Hp, Same H15b H' → W8 K A a ns way la f x kl mo ens' ds' H' := fun H' s => w15.same s
        refine ⟨_, rfl, ⟨_, rfl, ⟨x, f, kl, ens', pl, rfl, by omega, by omega, w15.m, fun en qe j hj hen hqe => ?_, fun hc => ?_⟩⟩⟩
        · rcases hdv with ⟨j', en', qd, hj', hen', rfl, hqd⟩ | ⟨hc, _⟩
          · obtain rfl : j' = j := by omega
            rw [hen] at hen'
            cases hen'
            obtain ⟨d0, _, h1, _, h3⟩ := Paired.getl w15.d hen
            have dp : ∀ {q : Addr}, H15b q = some (.tup [en.1, en.2]) → Dp K H15b (dD d0) (.ref q) := fun {q} hq => ⟨q, _, rfl, SqT.of hq, h1.dp, (by show Dp K H15b (Dd.int _) _; rw [h3]; rfl), trivial⟩
            refine ⟨_, rfl, .inr ⟨dD d0, dD d0, dp hqe, dp hqd, rfl, (by show 2 ≤ 100; decide), ⟨_, rfl, ?_⟩⟩⟩
            rw [eqD_self]
            refine iteF ?_
            refine ⟨_, rfl, ⟨_, _, rfl, rfl, ⟨by omega, by omega⟩, ⟨_, _, rfl, rfl, by omega, ⟨rfl, ⟨_, rfl, ?_⟩⟩⟩⟩⟩
            refine iteD (fun _ => ?_) (fun _ => ?_)
            · refine ⟨_, rfl, x, dx15, _, rfl, hp15, mfl_no _ _ (by decide +kernel) (by decide +kernel), ⟨x, f, kl, ens', rfl, w15.m, fun qp H16 hqp hlp s16 => ?_⟩⟩
              refine ⟨_, rfl, ⟨_, _, ent_dp hlp (w15.d.same s16), ent_dp (w15.l.same s16) (w15.d.same s16), rfl, dep_ent _, ⟨_, rfl, ?_⟩⟩⟩
              rw [eqD_self]
              refine iteF ?_
              exact hN _ _ ⟨s16, rfl⟩
            · exact hN _ _ ⟨fun b o e => e, rfl⟩
          · have := (List.getElem?_eq_some_iff.mp hen).1
            omega
        · rcases hdv with ⟨j', en', qd, hj', hen', _, _⟩ | ⟨_, rfl⟩
          · have := (List.getElem?_eq_some_iff.mp hen').1
            omega
          · refine ⟨_, rfl, .inl ⟨rfl, ⟨_, rfl, ?_⟩⟩⟩
            rw [decide_eq_true rfl]
            refine iteF ?_
            refine ⟨_, rfl, ⟨_, _, rfl, rfl, ⟨by omega, by omega⟩, ⟨_, _, rfl, rfl, by omega, ⟨rfl, ⟨_, rfl, ?_⟩⟩⟩⟩⟩
            refine iteD (fun _ => ?_) (fun _ => ?_)
            · refine ⟨_, rfl, x, dx15, _, rfl, hp15, mfl_no _ _ (by decide +kernel) (by decide +kernel), ⟨x, f, kl, ens', rfl, w15.m, fun qp H16 hqp hlp s16 => ?_⟩⟩
              refine ⟨_, rfl, ⟨_, _, ent_dp hlp (w15.d.same s16), ent_dp (w15.l.same s16) (w15.d.same s16), rfl, dep_ent _, ⟨_, rfl, ?_⟩⟩⟩
              rw [eqD_self]
              refine iteF ?_
              exact hN _ _ ⟨s16, rfl⟩
            · exact hN _ _ ⟨fun b o e => e, rfl⟩
      rintro σ H16 ⟨s16, rfl⟩
      have w16 := w15.same s16
      have hL16 := hL15.same s16
      have fk16 := fk15.same s16
      have hel16 := hel15.same s16
      clear w15 hL15 fk15 hel15
      -- asked != []
      refine ⟨_, rfl, ⟨Nat.zero_le _, fun p7 hp7 => ?_⟩⟩
      have s17 := Same.new (o := .lst []) hp7
      have h7 : (upd H16 p7 (.lst [])) p7 = _ := upd_same
      generalize upd H16 p7 (.lst []) = H17 at s17 h7
      have w17 := w16.same s17
      have hL17 := hL16.same s17
      have fk17 := fk16.same s17
      have hel17 := hel16.same s17
      have hdl : Dp K H17 (.lst []) (.ref la) := by
        obtain ⟨ts, h1, h2⟩ := hL17
        cases h2
        exact ⟨la, [], rfl, SqL.of h1, trivial⟩
      refine ⟨.lst [], .lst [], hdl, ⟨p7, [], rfl, SqL.of h7, trivial⟩, rfl, (by show 1 ≤ 100; decide), ⟨_, rfl, ?_⟩⟩
      rw [eqD_self]
      refine iteF ?_
      -- rank
      obtain ⟨dx17, hp17⟩ := w17.m.1
      have hlam17 := hlam.fk fk17
      refine ⟨_, rfl, x, dx17, _, rfl, hp17, mfl_no _ _ (by decide +kernel) (by decide +kernel), ⟨_, rfl, ?_⟩⟩
      refine use_call (rank_R (way := way) (fun Hf Z => by
        have l_hO : LamAt Hf f _ _ _ _ _ := (by obtain ⟨pm, c, ctv, oc, h1, h2, h3⟩ := hlam17; exact ⟨pm, c, ctv, oc, Z.to h1, Z.to h2, h3⟩)
        have hO := ora_ask (P := P) (w := w) (K := K) (mg := mg) (base := base) (k := 2) (la := la) (way := way) (cap := 100000) (N := ["_law_one", "_law_other", "_law_asked", "_law_way"]) l_hO ⟨rfl, rfl, rfl, by decide +kernel, rfl, by decide +kernel, by decide +kernel, by decide +kernel⟩
          (clos_inj rfl ok) clos_has (clos_cells rfl ok (by decide +kernel)) (fun _ _ _ us hl => match us, hl with | [_, _], _ => rfl)
          (fun cdv A outer s H hr => ⟨_, pe_call G__law_ask hr rfl T.mg__law_ask T.fn__law_ask.kp T.b__law_ask .nil pass0 (pa_cons (pv 2) (pa_cons (pv 3) (pa_cons (pv 0) (pa_cons (pv 1) pa_nil)))), fun x y H1 Q h => ⟨_, rfl, ⟨_, rfl, ⟨_, rfl, ⟨_, rfl, h⟩⟩⟩⟩⟩)
          (Z.caught rfl (.cons ⟨3, rfl, rfl, rfl⟩ (.cons ⟨1, rfl, rfl, rfl⟩ .nil))) (fun b hb => by obtain ⟨_, o, v, h2, _⟩ := Z.cell b (Z.own rfl hb); exact ⟨o, h2⟩) (by decide)
        exact hO) w17 (by omega) hel17 hsm hL17 (Nat.zero_le _)) ?_
      rintro v H18 ⟨rfl, M2, w18, hL18, hM3, ev18⟩
      rw [List.nil_append] at hL18
      refine ⟨_, rfl, ⟨_, rfl, ⟨_, rfl, ⟨mo, _, way, ens', ds', e0, rfl, w18.l, w18.d, hel17.evo ev18, hsm, by omega, fun qt H19 s19 hqt => ?_⟩⟩⟩⟩
      refine ⟨_, _, _, _, rfl, rfl, SqT.of hqt, atI_nat (j := 1) (by rfl), ⟨rfl, ⟨_, rfl, ?_⟩⟩⟩
      rw [decide_eq_true rfl]
      refine iteF ?_
      have w19 := w18.same s19
      obtain ⟨ts9, hts9, hPt9⟩ := id (hL18.same s19)
      obtain ⟨tm9, htm9, hPm9⟩ := id w19.l
      have lts9 := Paired.length hPt9
      have ltm9 := Paired.length hPm9
      have hcl2 : YM.clog (ens'.length + 1) ≤ 10 := YM.clog_least _ _ (by show ens'.length + 1 ≤ 1024; omega)
      refine ⟨_, rfl, ⟨_, _, rfl, .inl (SqL.of hts9), ⟨_, rfl, ⟨_, _, rfl, .inl (SqL.of htm9), ⟨_, _, rfl, rfl, ⟨tm9.length + 1, rfl, Nat.le_trans (show tm9.length + 1 ≤ 1001 by omega) (by decide), ?_⟩⟩⟩⟩⟩⟩
      rw [ltm9]
      refine ⟨_, _, rfl, rfl, .inl ⟨by omega, by omega⟩, ⟨_, _, rfl, rfl, ⟨_, _, rfl, rfl, ⟨_, rfl, ?_⟩⟩⟩⟩
      refine iteDF (by rw [lts9]; omega) ?_
      exact ⟨ens', ds', M2, _, _, _, _, _, _, rfl, w19, by omega, hL18.same s19, (fk17.evo ev18).same s19⟩
    clear w6 hla6 fk6 w5 hla5 fk5
    rintro σ H8 ⟨ens, ds, L, o6, o7, o8, o9, o10, o11, rfl, w8, hln, hL8, fk8⟩
    refine seq_via (I := fun σ H' => H' = H8 ∧ σ = [some (V.ref a), some (V.int way), some (V.int spread), some (V.ref la), some (V.ref x), some (V.ref mo), o6, o7, o8, o9, o10, o11]) (fun N hN => hN _ _ ⟨rfl, rfl⟩) ?_
    rintro σ H8' ⟨rfl, rfl⟩
    obtain ⟨dx8, hp8⟩ := w8.m.1
    refine ⟨_, rfl, x, dx8, _, rfl, hp8, mfl_no _ _ (by decide +kernel) (by decide +kernel), ⟨x, f, kl, ens, rfl, w8.m, fun qp H9 hqp hlp s9 => ?_⟩⟩
    refine ⟨_, rfl, ⟨_, _, ent_dp hlp (w8.d.same s9), ent_dp (w8.l.same s9) (w8.d.same s9), rfl, dep_ent _, ?_⟩⟩
    rw [eqD_self]
    exact q _
end

theorem txt_mk {q : Program} {loose : List Str} {mean : ExcName → Option Value} {K : PySem.W.Frag} {h : Heap} {mg mb : Str → Option Value} {C_Map f_lower c_lower t_lower f_count_in_front f_Map___init__ f_Map_put f_Map_drop f_Map_get f_Map_has f_Map_size f_Map_at f_Map_pairs f_Map_rank c_Map_rank t_Map_rank f_Map_is_like f__law_cell f__law_drawn f__law_answer f__law_ask f__law_log f__law_find f__law_got f__law_at f__law_deed f_law c_law t_law : Addr}
    {od_lower an_lower : Option Addr} {sl_lower : Array (Option Value)} {oc_lower kV_lower dc_lower pm_lower ct_lower : Value}
    {o2_lower : Value} {o3_lower : Option Addr} {vs_lower : Array Value} {o4_lower : Array (Option Value)} {r_lower : DefRec}
    {od_count_in_front an_count_in_front : Option Addr} {sl_count_in_front : Array (Option Value)} {oc_count_in_front kV_count_in_front dc_count_in_front pm_count_in_front ct_count_in_front cd_count_in_front : Value}
    {od_Map___init__ an_Map___init__ : Option Addr} {sl_Map___init__ : Array (Option Value)} {oc_Map___init__ kV_Map___init__ dc_Map___init__ pm_Map___init__ ct_Map___init__ cd_Map___init__ : Value}
    {od_Map_put an_Map_put : Option Addr} {sl_Map_put : Array (Option Value)} {oc_Map_put kV_Map_put dc_Map_put pm_Map_put ct_Map_put cd_Map_put : Value}
    {od_Map_drop an_Map_drop : Option Addr} {sl_Map_drop : Array (Option Value)} {oc_Map_drop kV_Map_drop dc_Map_drop pm_Map_drop ct_Map_drop cd_Map_drop : Value}
    {od_Map_get an_Map_get : Option Addr} {sl_Map_get : Array (Option Value)} {oc_Map_get kV_Map_get dc_Map_get pm_Map_get ct_Map_get cd_Map_get : Value}
    {od_Map_has an_Map_has : Option Addr} {sl_Map_has : Array (Option Value)} {oc_Map_has kV_Map_has dc_Map_has pm_Map_has ct_Map_has cd_Map_has : Value}
    {od_Map_size an_Map_size : Option Addr} {sl_Map_size : Array (Option Value)} {oc_Map_size kV_Map_size dc_Map_size pm_Map_size ct_Map_size cd_Map_size : Value}
    {od_Map_at an_Map_at : Option Addr} {sl_Map_at : Array (Option Value)} {oc_Map_at kV_Map_at dc_Map_at pm_Map_at ct_Map_at cd_Map_at : Value}
    {od_Map_pairs an_Map_pairs : Option Addr} {sl_Map_pairs : Array (Option Value)} {oc_Map_pairs kV_Map_pairs dc_Map_pairs pm_Map_pairs ct_Map_pairs cd_Map_pairs : Value}
    {od_Map_rank an_Map_rank : Option Addr} {sl_Map_rank : Array (Option Value)} {oc_Map_rank kV_Map_rank dc_Map_rank pm_Map_rank ct_Map_rank : Value}
    {o2_Map_rank : Value} {o3_Map_rank : Option Addr} {vs_Map_rank : Array Value} {o4_Map_rank : Array (Option Value)}
    {od_Map_is_like an_Map_is_like : Option Addr} {sl_Map_is_like : Array (Option Value)} {oc_Map_is_like kV_Map_is_like dc_Map_is_like pm_Map_is_like ct_Map_is_like cd_Map_is_like : Value}
    {od__law_cell an__law_cell : Option Addr} {sl__law_cell : Array (Option Value)} {oc__law_cell kV__law_cell dc__law_cell pm__law_cell ct__law_cell cd__law_cell : Value}
    {od__law_drawn an__law_drawn : Option Addr} {sl__law_drawn : Array (Option Value)} {oc__law_drawn kV__law_drawn dc__law_drawn pm__law_drawn ct__law_drawn cd__law_drawn : Value}
    {od__law_answer an__law_answer : Option Addr} {sl__law_answer : Array (Option Value)} {oc__law_answer kV__law_answer dc__law_answer pm__law_answer ct__law_answer cd__law_answer : Value}
    {od__law_ask an__law_ask : Option Addr} {sl__law_ask : Array (Option Value)} {oc__law_ask kV__law_ask dc__law_ask pm__law_ask ct__law_ask cd__law_ask : Value}
    {od__law_log an__law_log : Option Addr} {sl__law_log : Array (Option Value)} {oc__law_log kV__law_log dc__law_log pm__law_log ct__law_log cd__law_log : Value}
    {od__law_find an__law_find : Option Addr} {sl__law_find : Array (Option Value)} {oc__law_find kV__law_find dc__law_find pm__law_find ct__law_find cd__law_find : Value}
    {od__law_got an__law_got : Option Addr} {sl__law_got : Array (Option Value)} {oc__law_got kV__law_got dc__law_got pm__law_got ct__law_got cd__law_got : Value}
    {od__law_at an__law_at : Option Addr} {sl__law_at : Array (Option Value)} {oc__law_at kV__law_at dc__law_at pm__law_at ct__law_at cd__law_at : Value}
    {od__law_deed an__law_deed : Option Addr} {sl__law_deed : Array (Option Value)} {oc__law_deed kV__law_deed dc__law_deed pm__law_deed ct__law_deed cd__law_deed : Value}
    {od_law an_law : Option Addr} {sl_law : Array (Option Value)} {oc_law kV_law dc_law pm_law ct_law : Value}
    {o2_law : Value} {o3_law : Option Addr} {vs_law : Array Value} {o4_law : Array (Option Value)} {r_law : DefRec}
    (T0 : Top q loose mean mg mb h) (X : K.In h)
    (aC_Map : PySem.W.nsIn K mainGlobals "Map" = some (some (.ref C_Map))) (pg_Map : PySem.W.plainGet K C_Map Str.empty = true) (hd_Map : PySem.W.hasDictIn K C_Map = true) (po_Map : PySem.W.plainOver K C_Map = true) (sa_Map : PySem.W.findIn K (.ref C_Map) "__setattr__" = some (some (.builtin "object.__setattr__"))) (mk_Map : PySem.W.makesIn K C_Map = true) (kc_Map : PySem.W.keepIn K (.ref C_Map) = true)
    (nA_Map_kept : PySem.W.findIn K (.ref C_Map) "kept" = some none)
    (nA_Map_order : PySem.W.findIn K (.ref C_Map) "order" = some none)
    (a_lower : PySem.W.nsIn K mainGlobals "lower" = some (some (.ref f_lower))) (l_lower : K.lookup f_lower = some ⟨oc_lower, od_lower, .func (PySem.W.fnOf "lower" "lower" (defArgs s_lower) (defBody s_lower) (defScope s_lower) .none kV_lower dc_lower pm_lower an_lower (.ref c_lower) ct_lower), sl_lower⟩) (e_lower : PySem.W.codeIn K (.ref c_lower) "lower" = true) (k_lower : PySem.W.keepIn K (.ref f_lower) = true)
    (g_lower : K.lookup c_lower = some ⟨o2_lower, o3_lower, .fields vs_lower, o4_lower⟩) (v_lower : vs_lower[11]? = some (.ref t_lower)) (w_lower : (recsOf q).find? (fun e => e.name == ("lower" : Str)) = some r_lower)
    (a_count_in_front : PySem.W.nsIn K mainGlobals "count_in_front" = some (some (.ref f_count_in_front))) (l_count_in_front : K.lookup f_count_in_front = some ⟨oc_count_in_front, od_count_in_front, .func (PySem.W.fnOf "count_in_front" "count_in_front" (defArgs s_count_in_front) (defBody s_count_in_front) (defScope s_count_in_front) .none kV_count_in_front dc_count_in_front pm_count_in_front an_count_in_front cd_count_in_front ct_count_in_front), sl_count_in_front⟩) (e_count_in_front : PySem.W.codeIn K cd_count_in_front "count_in_front" = true) (k_count_in_front : PySem.W.keepIn K (.ref f_count_in_front) = true)
    (a_Map___init__ : PySem.W.findIn K (.ref C_Map) "__init__" = some (some (.ref f_Map___init__))) (i_Map___init__ : PySem.W.isFn K (.ref f_Map___init__) = true) (l_Map___init__ : K.lookup f_Map___init__ = some ⟨oc_Map___init__, od_Map___init__, .func (PySem.W.fnOf "__init__" "Map.__init__" (defArgs s_Map___init__) (defBody s_Map___init__) (defScope s_Map___init__) .none kV_Map___init__ dc_Map___init__ pm_Map___init__ an_Map___init__ cd_Map___init__ ct_Map___init__), sl_Map___init__⟩) (e_Map___init__ : PySem.W.codeIn K cd_Map___init__ "Map.__init__" = true) (k_Map___init__ : PySem.W.keepIn K (.ref f_Map___init__) = true)
    (a_Map_put : PySem.W.findIn K (.ref C_Map) "put" = some (some (.ref f_Map_put))) (i_Map_put : PySem.W.isFn K (.ref f_Map_put) = true) (l_Map_put : K.lookup f_Map_put = some ⟨oc_Map_put, od_Map_put, .func (PySem.W.fnOf "put" "Map.put" (defArgs s_Map_put) (defBody s_Map_put) (defScope s_Map_put) .none kV_Map_put dc_Map_put pm_Map_put an_Map_put cd_Map_put ct_Map_put), sl_Map_put⟩) (e_Map_put : PySem.W.codeIn K cd_Map_put "Map.put" = true) (k_Map_put : PySem.W.keepIn K (.ref f_Map_put) = true)
    (a_Map_drop : PySem.W.findIn K (.ref C_Map) "drop" = some (some (.ref f_Map_drop))) (i_Map_drop : PySem.W.isFn K (.ref f_Map_drop) = true) (l_Map_drop : K.lookup f_Map_drop = some ⟨oc_Map_drop, od_Map_drop, .func (PySem.W.fnOf "drop" "Map.drop" (defArgs s_Map_drop) (defBody s_Map_drop) (defScope s_Map_drop) .none kV_Map_drop dc_Map_drop pm_Map_drop an_Map_drop cd_Map_drop ct_Map_drop), sl_Map_drop⟩) (e_Map_drop : PySem.W.codeIn K cd_Map_drop "Map.drop" = true) (k_Map_drop : PySem.W.keepIn K (.ref f_Map_drop) = true)
    (a_Map_get : PySem.W.findIn K (.ref C_Map) "get" = some (some (.ref f_Map_get))) (i_Map_get : PySem.W.isFn K (.ref f_Map_get) = true) (l_Map_get : K.lookup f_Map_get = some ⟨oc_Map_get, od_Map_get, .func (PySem.W.fnOf "get" "Map.get" (defArgs s_Map_get) (defBody s_Map_get) (defScope s_Map_get) .none kV_Map_get dc_Map_get pm_Map_get an_Map_get cd_Map_get ct_Map_get), sl_Map_get⟩) (e_Map_get : PySem.W.codeIn K cd_Map_get "Map.get" = true) (k_Map_get : PySem.W.keepIn K (.ref f_Map_get) = true)
    (a_Map_has : PySem.W.findIn K (.ref C_Map) "has" = some (some (.ref f_Map_has))) (i_Map_has : PySem.W.isFn K (.ref f_Map_has) = true) (l_Map_has : K.lookup f_Map_has = some ⟨oc_Map_has, od_Map_has, .func (PySem.W.fnOf "has" "Map.has" (defArgs s_Map_has) (defBody s_Map_has) (defScope s_Map_has) .none kV_Map_has dc_Map_has pm_Map_has an_Map_has cd_Map_has ct_Map_has), sl_Map_has⟩) (e_Map_has : PySem.W.codeIn K cd_Map_has "Map.has" = true) (k_Map_has : PySem.W.keepIn K (.ref f_Map_has) = true)
    (a_Map_size : PySem.W.findIn K (.ref C_Map) "size" = some (some (.ref f_Map_size))) (i_Map_size : PySem.W.isFn K (.ref f_Map_size) = true) (l_Map_size : K.lookup f_Map_size = some ⟨oc_Map_size, od_Map_size, .func (PySem.W.fnOf "size" "Map.size" (defArgs s_Map_size) (defBody s_Map_size) (defScope s_Map_size) .none kV_Map_size dc_Map_size pm_Map_size an_Map_size cd_Map_size ct_Map_size), sl_Map_size⟩) (e_Map_size : PySem.W.codeIn K cd_Map_size "Map.size" = true) (k_Map_size : PySem.W.keepIn K (.ref f_Map_size) = true)
    (a_Map_at : PySem.W.findIn K (.ref C_Map) "at" = some (some (.ref f_Map_at))) (i_Map_at : PySem.W.isFn K (.ref f_Map_at) = true) (l_Map_at : K.lookup f_Map_at = some ⟨oc_Map_at, od_Map_at, .func (PySem.W.fnOf "at" "Map.at" (defArgs s_Map_at) (defBody s_Map_at) (defScope s_Map_at) .none kV_Map_at dc_Map_at pm_Map_at an_Map_at cd_Map_at ct_Map_at), sl_Map_at⟩) (e_Map_at : PySem.W.codeIn K cd_Map_at "Map.at" = true) (k_Map_at : PySem.W.keepIn K (.ref f_Map_at) = true)
    (a_Map_pairs : PySem.W.findIn K (.ref C_Map) "pairs" = some (some (.ref f_Map_pairs))) (i_Map_pairs : PySem.W.isFn K (.ref f_Map_pairs) = true) (l_Map_pairs : K.lookup f_Map_pairs = some ⟨oc_Map_pairs, od_Map_pairs, .func (PySem.W.fnOf "pairs" "Map.pairs" (defArgs s_Map_pairs) (defBody s_Map_pairs) (defScope s_Map_pairs) .none kV_Map_pairs dc_Map_pairs pm_Map_pairs an_Map_pairs cd_Map_pairs ct_Map_pairs), sl_Map_pairs⟩) (e_Map_pairs : PySem.W.codeIn K cd_Map_pairs "Map.pairs" = true) (k_Map_pairs : PySem.W.keepIn K (.ref f_Map_pairs) = true)
    (a_Map_rank : PySem.W.findIn K (.ref C_Map) "rank" = some (some (.ref f_Map_rank))) (i_Map_rank : PySem.W.isFn K (.ref f_Map_rank) = true) (l_Map_rank : K.lookup f_Map_rank = some ⟨oc_Map_rank, od_Map_rank, .func (PySem.W.fnOf "rank" "Map.rank" (defArgs s_Map_rank) (defBody s_Map_rank) (defScope s_Map_rank) .none kV_Map_rank dc_Map_rank pm_Map_rank an_Map_rank (.ref c_Map_rank) ct_Map_rank), sl_Map_rank⟩) (e_Map_rank : PySem.W.codeIn K (.ref c_Map_rank) "Map.rank" = true) (k_Map_rank : PySem.W.keepIn K (.ref f_Map_rank) = true)
    (g_Map_rank : K.lookup c_Map_rank = some ⟨o2_Map_rank, o3_Map_rank, .fields vs_Map_rank, o4_Map_rank⟩) (v_Map_rank : vs_Map_rank[11]? = some (.ref t_Map_rank)) (q_Map_rank : PySem.W.codeHdIn K c_Map_rank t_Map_rank = true) (y_Map_rank : h.get? t_Map_rank = some (PySem.W.tabObj #[]))
    (a_Map_is_like : PySem.W.findIn K (.ref C_Map) "is_like" = some (some (.ref f_Map_is_like))) (i_Map_is_like : PySem.W.isFn K (.ref f_Map_is_like) = true) (l_Map_is_like : K.lookup f_Map_is_like = some ⟨oc_Map_is_like, od_Map_is_like, .func (PySem.W.fnOf "is_like" "Map.is_like" (defArgs s_Map_is_like) (defBody s_Map_is_like) (defScope s_Map_is_like) .none kV_Map_is_like dc_Map_is_like pm_Map_is_like an_Map_is_like cd_Map_is_like ct_Map_is_like), sl_Map_is_like⟩) (e_Map_is_like : PySem.W.codeIn K cd_Map_is_like "Map.is_like" = true) (k_Map_is_like : PySem.W.keepIn K (.ref f_Map_is_like) = true)
    (a__law_cell : PySem.W.nsIn K mainGlobals "_law_cell" = some (some (.ref f__law_cell))) (l__law_cell : K.lookup f__law_cell = some ⟨oc__law_cell, od__law_cell, .func (PySem.W.fnOf "_law_cell" "_law_cell" (defArgs s__law_cell) (defBody s__law_cell) (defScope s__law_cell) .none kV__law_cell dc__law_cell pm__law_cell an__law_cell cd__law_cell ct__law_cell), sl__law_cell⟩) (e__law_cell : PySem.W.codeIn K cd__law_cell "_law_cell" = true) (k__law_cell : PySem.W.keepIn K (.ref f__law_cell) = true)
    (a__law_drawn : PySem.W.nsIn K mainGlobals "_law_drawn" = some (some (.ref f__law_drawn))) (l__law_drawn : K.lookup f__law_drawn = some ⟨oc__law_drawn, od__law_drawn, .func (PySem.W.fnOf "_law_drawn" "_law_drawn" (defArgs s__law_drawn) (defBody s__law_drawn) (defScope s__law_drawn) .none kV__law_drawn dc__law_drawn pm__law_drawn an__law_drawn cd__law_drawn ct__law_drawn), sl__law_drawn⟩) (e__law_drawn : PySem.W.codeIn K cd__law_drawn "_law_drawn" = true) (k__law_drawn : PySem.W.keepIn K (.ref f__law_drawn) = true)
    (a__law_answer : PySem.W.nsIn K mainGlobals "_law_answer" = some (some (.ref f__law_answer))) (l__law_answer : K.lookup f__law_answer = some ⟨oc__law_answer, od__law_answer, .func (PySem.W.fnOf "_law_answer" "_law_answer" (defArgs s__law_answer) (defBody s__law_answer) (defScope s__law_answer) .none kV__law_answer dc__law_answer pm__law_answer an__law_answer cd__law_answer ct__law_answer), sl__law_answer⟩) (e__law_answer : PySem.W.codeIn K cd__law_answer "_law_answer" = true) (k__law_answer : PySem.W.keepIn K (.ref f__law_answer) = true)
    (a__law_ask : PySem.W.nsIn K mainGlobals "_law_ask" = some (some (.ref f__law_ask))) (l__law_ask : K.lookup f__law_ask = some ⟨oc__law_ask, od__law_ask, .func (PySem.W.fnOf "_law_ask" "_law_ask" (defArgs s__law_ask) (defBody s__law_ask) (defScope s__law_ask) .none kV__law_ask dc__law_ask pm__law_ask an__law_ask cd__law_ask ct__law_ask), sl__law_ask⟩) (e__law_ask : PySem.W.codeIn K cd__law_ask "_law_ask" = true) (k__law_ask : PySem.W.keepIn K (.ref f__law_ask) = true)
    (a__law_log : PySem.W.nsIn K mainGlobals "_law_log" = some (some (.ref f__law_log))) (l__law_log : K.lookup f__law_log = some ⟨oc__law_log, od__law_log, .func (PySem.W.fnOf "_law_log" "_law_log" (defArgs s__law_log) (defBody s__law_log) (defScope s__law_log) .none kV__law_log dc__law_log pm__law_log an__law_log cd__law_log ct__law_log), sl__law_log⟩) (e__law_log : PySem.W.codeIn K cd__law_log "_law_log" = true) (k__law_log : PySem.W.keepIn K (.ref f__law_log) = true)
    (a__law_find : PySem.W.nsIn K mainGlobals "_law_find" = some (some (.ref f__law_find))) (l__law_find : K.lookup f__law_find = some ⟨oc__law_find, od__law_find, .func (PySem.W.fnOf "_law_find" "_law_find" (defArgs s__law_find) (defBody s__law_find) (defScope s__law_find) .none kV__law_find dc__law_find pm__law_find an__law_find cd__law_find ct__law_find), sl__law_find⟩) (e__law_find : PySem.W.codeIn K cd__law_find "_law_find" = true) (k__law_find : PySem.W.keepIn K (.ref f__law_find) = true)
    (a__law_got : PySem.W.nsIn K mainGlobals "_law_got" = some (some (.ref f__law_got))) (l__law_got : K.lookup f__law_got = some ⟨oc__law_got, od__law_got, .func (PySem.W.fnOf "_law_got" "_law_got" (defArgs s__law_got) (defBody s__law_got) (defScope s__law_got) .none kV__law_got dc__law_got pm__law_got an__law_got cd__law_got ct__law_got), sl__law_got⟩) (e__law_got : PySem.W.codeIn K cd__law_got "_law_got" = true) (k__law_got : PySem.W.keepIn K (.ref f__law_got) = true)
    (a__law_at : PySem.W.nsIn K mainGlobals "_law_at" = some (some (.ref f__law_at))) (l__law_at : K.lookup f__law_at = some ⟨oc__law_at, od__law_at, .func (PySem.W.fnOf "_law_at" "_law_at" (defArgs s__law_at) (defBody s__law_at) (defScope s__law_at) .none kV__law_at dc__law_at pm__law_at an__law_at cd__law_at ct__law_at), sl__law_at⟩) (e__law_at : PySem.W.codeIn K cd__law_at "_law_at" = true) (k__law_at : PySem.W.keepIn K (.ref f__law_at) = true)
    (a__law_deed : PySem.W.nsIn K mainGlobals "_law_deed" = some (some (.ref f__law_deed))) (l__law_deed : K.lookup f__law_deed = some ⟨oc__law_deed, od__law_deed, .func (PySem.W.fnOf "_law_deed" "_law_deed" (defArgs s__law_deed) (defBody s__law_deed) (defScope s__law_deed) .none kV__law_deed dc__law_deed pm__law_deed an__law_deed cd__law_deed ct__law_deed), sl__law_deed⟩) (e__law_deed : PySem.W.codeIn K cd__law_deed "_law_deed" = true) (k__law_deed : PySem.W.keepIn K (.ref f__law_deed) = true)
    (a_law : PySem.W.nsIn K mainGlobals "law" = some (some (.ref f_law))) (l_law : K.lookup f_law = some ⟨oc_law, od_law, .func (PySem.W.fnOf "law" "law" (defArgs s_law) (defBody s_law) (defScope s_law) .none kV_law dc_law pm_law an_law (.ref c_law) ct_law), sl_law⟩) (e_law : PySem.W.codeIn K (.ref c_law) "law" = true) (k_law : PySem.W.keepIn K (.ref f_law) = true)
    (g_law : K.lookup c_law = some ⟨o2_law, o3_law, .fields vs_law, o4_law⟩) (v_law : vs_law[11]? = some (.ref t_law)) (w_law : (recsOf q).find? (fun e => e.name == ("law" : Str)) = some r_law)
    (z_len : PySem.W.nsIn K mainGlobals "len" = some none)
    (z_list : PySem.W.nsIn K mainGlobals "list" = some none)
    (z_int : PySem.W.nsIn K mainGlobals "int" = some none)
    (z_abs : PySem.W.nsIn K mainGlobals "abs" = some none)
    (z_range : PySem.W.nsIn K mainGlobals "range" = some none)
    (z_isinstance : PySem.W.nsIn K mainGlobals "isinstance" = some none)
    (z_bool : PySem.W.nsIn K mainGlobals "bool" = some none)
    (z_all : PySem.W.nsIn K mainGlobals "all" = some none)
    (n_lower_Map_rank : t_lower ≠ t_Map_rank)
    (n_lower_law : t_lower ≠ t_law)
    (n_Map_rank_law : t_Map_rank ≠ t_law)
    (xs_NoElement : specOf q "NoElement" = some ("ValueError.__new__", bmV))
    (xs_NoPlace : specOf q "NoPlace" = some ("ValueError.__new__", bmV))
    : ∃ A, Txt K mg A ∧ PySem.W.TabsAt (tabs A) h ∧ Own mg h A := by
  obtain ⟨X_NoElement, O_NoElement, _⟩ := T0.ownAt xs_NoElement
  obtain ⟨X_NoPlace, O_NoPlace, _⟩ := T0.ownAt xs_NoPlace
  have F_lower := fun_mk (st := s_lower) l_lower e_lower k_lower
  have F_count_in_front := fun_mk (st := s_count_in_front) l_count_in_front e_count_in_front k_count_in_front
  have F_Map___init__ := fun_mk (st := s_Map___init__) l_Map___init__ e_Map___init__ k_Map___init__
  have F_Map_put := fun_mk (st := s_Map_put) l_Map_put e_Map_put k_Map_put
  have F_Map_drop := fun_mk (st := s_Map_drop) l_Map_drop e_Map_drop k_Map_drop
  have F_Map_get := fun_mk (st := s_Map_get) l_Map_get e_Map_get k_Map_get
  have F_Map_has := fun_mk (st := s_Map_has) l_Map_has e_Map_has k_Map_has
  have F_Map_size := fun_mk (st := s_Map_size) l_Map_size e_Map_size k_Map_size
  have F_Map_at := fun_mk (st := s_Map_at) l_Map_at e_Map_at k_Map_at
  have F_Map_pairs := fun_mk (st := s_Map_pairs) l_Map_pairs e_Map_pairs k_Map_pairs
  have F_Map_rank := fun_mk (st := s_Map_rank) l_Map_rank e_Map_rank k_Map_rank
  have F_Map_is_like := fun_mk (st := s_Map_is_like) l_Map_is_like e_Map_is_like k_Map_is_like
  have F__law_cell := fun_mk (st := s__law_cell) l__law_cell e__law_cell k__law_cell
  have F__law_drawn := fun_mk (st := s__law_drawn) l__law_drawn e__law_drawn k__law_drawn
  have F__law_answer := fun_mk (st := s__law_answer) l__law_answer e__law_answer k__law_answer
  have F__law_ask := fun_mk (st := s__law_ask) l__law_ask e__law_ask k__law_ask
  have F__law_log := fun_mk (st := s__law_log) l__law_log e__law_log k__law_log
  have F__law_find := fun_mk (st := s__law_find) l__law_find e__law_find k__law_find
  have F__law_got := fun_mk (st := s__law_got) l__law_got e__law_got k__law_got
  have F__law_at := fun_mk (st := s__law_at) l__law_at e__law_at k__law_at
  have F__law_deed := fun_mk (st := s__law_deed) l__law_deed e__law_deed k__law_deed
  have F_law := fun_mk (st := s_law) l_law e_law k_law
  refine ⟨⟨C_Map, X_NoElement, X_NoPlace, f_lower, PySem.W.fnOf "lower" "lower" (defArgs s_lower) (defBody s_lower) (defScope s_lower) .none kV_lower dc_lower pm_lower an_lower (.ref c_lower) ct_lower, c_lower, t_lower, f_count_in_front, PySem.W.fnOf "count_in_front" "count_in_front" (defArgs s_count_in_front) (defBody s_count_in_front) (defScope s_count_in_front) .none kV_count_in_front dc_count_in_front pm_count_in_front an_count_in_front cd_count_in_front ct_count_in_front, f_Map___init__, PySem.W.fnOf "__init__" "Map.__init__" (defArgs s_Map___init__) (defBody s_Map___init__) (defScope s_Map___init__) .none kV_Map___init__ dc_Map___init__ pm_Map___init__ an_Map___init__ cd_Map___init__ ct_Map___init__, f_Map_put, PySem.W.fnOf "put" "Map.put" (defArgs s_Map_put) (defBody s_Map_put) (defScope s_Map_put) .none kV_Map_put dc_Map_put pm_Map_put an_Map_put cd_Map_put ct_Map_put, f_Map_drop, PySem.W.fnOf "drop" "Map.drop" (defArgs s_Map_drop) (defBody s_Map_drop) (defScope s_Map_drop) .none kV_Map_drop dc_Map_drop pm_Map_drop an_Map_drop cd_Map_drop ct_Map_drop, f_Map_get, PySem.W.fnOf "get" "Map.get" (defArgs s_Map_get) (defBody s_Map_get) (defScope s_Map_get) .none kV_Map_get dc_Map_get pm_Map_get an_Map_get cd_Map_get ct_Map_get, f_Map_has, PySem.W.fnOf "has" "Map.has" (defArgs s_Map_has) (defBody s_Map_has) (defScope s_Map_has) .none kV_Map_has dc_Map_has pm_Map_has an_Map_has cd_Map_has ct_Map_has, f_Map_size, PySem.W.fnOf "size" "Map.size" (defArgs s_Map_size) (defBody s_Map_size) (defScope s_Map_size) .none kV_Map_size dc_Map_size pm_Map_size an_Map_size cd_Map_size ct_Map_size, f_Map_at, PySem.W.fnOf "at" "Map.at" (defArgs s_Map_at) (defBody s_Map_at) (defScope s_Map_at) .none kV_Map_at dc_Map_at pm_Map_at an_Map_at cd_Map_at ct_Map_at, f_Map_pairs, PySem.W.fnOf "pairs" "Map.pairs" (defArgs s_Map_pairs) (defBody s_Map_pairs) (defScope s_Map_pairs) .none kV_Map_pairs dc_Map_pairs pm_Map_pairs an_Map_pairs cd_Map_pairs ct_Map_pairs, f_Map_rank, PySem.W.fnOf "rank" "Map.rank" (defArgs s_Map_rank) (defBody s_Map_rank) (defScope s_Map_rank) .none kV_Map_rank dc_Map_rank pm_Map_rank an_Map_rank (.ref c_Map_rank) ct_Map_rank, c_Map_rank, t_Map_rank, f_Map_is_like, PySem.W.fnOf "is_like" "Map.is_like" (defArgs s_Map_is_like) (defBody s_Map_is_like) (defScope s_Map_is_like) .none kV_Map_is_like dc_Map_is_like pm_Map_is_like an_Map_is_like cd_Map_is_like ct_Map_is_like, f__law_cell, PySem.W.fnOf "_law_cell" "_law_cell" (defArgs s__law_cell) (defBody s__law_cell) (defScope s__law_cell) .none kV__law_cell dc__law_cell pm__law_cell an__law_cell cd__law_cell ct__law_cell, f__law_drawn, PySem.W.fnOf "_law_drawn" "_law_drawn" (defArgs s__law_drawn) (defBody s__law_drawn) (defScope s__law_drawn) .none kV__law_drawn dc__law_drawn pm__law_drawn an__law_drawn cd__law_drawn ct__law_drawn, f__law_answer, PySem.W.fnOf "_law_answer" "_law_answer" (defArgs s__law_answer) (defBody s__law_answer) (defScope s__law_answer) .none kV__law_answer dc__law_answer pm__law_answer an__law_answer cd__law_answer ct__law_answer, f__law_ask, PySem.W.fnOf "_law_ask" "_law_ask" (defArgs s__law_ask) (defBody s__law_ask) (defScope s__law_ask) .none kV__law_ask dc__law_ask pm__law_ask an__law_ask cd__law_ask ct__law_ask, f__law_log, PySem.W.fnOf "_law_log" "_law_log" (defArgs s__law_log) (defBody s__law_log) (defScope s__law_log) .none kV__law_log dc__law_log pm__law_log an__law_log cd__law_log ct__law_log, f__law_find, PySem.W.fnOf "_law_find" "_law_find" (defArgs s__law_find) (defBody s__law_find) (defScope s__law_find) .none kV__law_find dc__law_find pm__law_find an__law_find cd__law_find ct__law_find, f__law_got, PySem.W.fnOf "_law_got" "_law_got" (defArgs s__law_got) (defBody s__law_got) (defScope s__law_got) .none kV__law_got dc__law_got pm__law_got an__law_got cd__law_got ct__law_got, f__law_at, PySem.W.fnOf "_law_at" "_law_at" (defArgs s__law_at) (defBody s__law_at) (defScope s__law_at) .none kV__law_at dc__law_at pm__law_at an__law_at cd__law_at ct__law_at, f__law_deed, PySem.W.fnOf "_law_deed" "_law_deed" (defArgs s__law_deed) (defBody s__law_deed) (defScope s__law_deed) .none kV__law_deed dc__law_deed pm__law_deed an__law_deed cd__law_deed ct__law_deed, f_law, PySem.W.fnOf "law" "law" (defArgs s_law) (defBody s_law) (defScope s_law) .none kV_law dc_law pm_law an_law (.ref c_law) ct_law, c_law, t_law⟩, ⟨?x0, ?x1, ?x2, ?x3, ?x4, ?x5, ?x6, ?x7, ?x8, ?x9, ?x10, ?x11, ?x12, ?x13, ?x14, ?x15, ?x16, ?x17, ?x18, ?x19, ?x20, ?x21, ?x22, ?x23, ?x24, ?x25, ?x26, ?x27, ?x28, ?x29, ?x30, ?x31, ?x32, ?x33, ?x34, ?x35, ?x36, ?x37, ?x38, ?x39, ?x40, ?x41, ?x42, ?x43, ?x44, ?x45, ?x46, ?x47, ?x48, ?x49, ?x50, ?x51, ?x52, ?x53, ?x54, ?x55, ?x56, ?x57, ?x58, ?x59, ?x60, ?x61, ?x62, ?x63, ?x64, ?x65, ?x66, ?x67, ?x68, ?x69, ?x70, ?x71, ?x72, ?x73, ?x74, ?x75, ?x76, ?x77, ?x78, ?x79, ?x80, ?x81, ?x82, ?x83, ?x84, ?x85⟩, ?_, ⟨O_NoElement.own, O_NoPlace.own⟩⟩
  · exact ⟨pg_Map, hd_Map, po_Map, sa_Map⟩
  · exact PySem.W.mg_of X T0.g aC_Map
  · exact ⟨mk_Map, a_Map___init__, i_Map___init__, kc_Map⟩
  · exact nA_Map_kept
  · exact nA_Map_order
  · exact F_lower
  · exact PySem.W.mg_of X T0.g a_lower
  · exact F_lower.binds (ps := ["row", "key", "order"]) fun _ _ _ _ _ _ us hl => match us, hl with | [_, _, _], _ => rfl
  · rfl
  · exact F_count_in_front
  · exact PySem.W.mg_of X T0.g a_count_in_front
  · exact F_count_in_front.binds (ps := ["row", "is_in_front"]) fun _ _ _ _ _ _ us hl => match us, hl with | [_, _], _ => rfl
  · exact F_Map___init__
  · exact ⟨a_Map___init__, i_Map___init__, k_Map___init__⟩
  · exact F_Map___init__.binds (ps := ["self", "order"]) fun _ _ _ _ _ _ us hl => match us, hl with | [_, _], _ => rfl
  · exact F_Map_put
  · exact ⟨a_Map_put, i_Map_put, k_Map_put⟩
  · exact F_Map_put.binds (ps := ["self", "key", "held"]) fun _ _ _ _ _ _ us hl => match us, hl with | [_, _, _], _ => rfl
  · exact F_Map_drop
  · exact ⟨a_Map_drop, i_Map_drop, k_Map_drop⟩
  · exact F_Map_drop.binds (ps := ["self", "key"]) fun _ _ _ _ _ _ us hl => match us, hl with | [_, _], _ => rfl
  · exact F_Map_get
  · exact ⟨a_Map_get, i_Map_get, k_Map_get⟩
  · exact F_Map_get.binds (ps := ["self", "key"]) fun _ _ _ _ _ _ us hl => match us, hl with | [_, _], _ => rfl
  · exact F_Map_has
  · exact ⟨a_Map_has, i_Map_has, k_Map_has⟩
  · exact F_Map_has.binds (ps := ["self", "key"]) fun _ _ _ _ _ _ us hl => match us, hl with | [_, _], _ => rfl
  · exact F_Map_size
  · exact ⟨a_Map_size, i_Map_size, k_Map_size⟩
  · exact F_Map_size.binds (ps := ["self"]) fun _ _ _ _ _ _ us hl => match us, hl with | [_], _ => rfl
  · exact F_Map_at
  · exact ⟨a_Map_at, i_Map_at, k_Map_at⟩
  · exact F_Map_at.binds (ps := ["self", "place"]) fun _ _ _ _ _ _ us hl => match us, hl with | [_, _], _ => rfl
  · exact F_Map_pairs
  · exact ⟨a_Map_pairs, i_Map_pairs, k_Map_pairs⟩
  · exact F_Map_pairs.binds (ps := ["self"]) fun _ _ _ _ _ _ us hl => match us, hl with | [_], _ => rfl
  · exact F_Map_rank
  · exact ⟨a_Map_rank, i_Map_rank, k_Map_rank⟩
  · exact F_Map_rank.binds (ps := ["self", "key"]) fun _ _ _ _ _ _ us hl => match us, hl with | [_, _], _ => rfl
  · rfl
  · exact F_Map_is_like
  · exact ⟨a_Map_is_like, i_Map_is_like, k_Map_is_like⟩
  · exact F_Map_is_like.binds (ps := ["self", "place", "key"]) fun _ _ _ _ _ _ us hl => match us, hl with | [_, _, _], _ => rfl
  · exact F__law_cell
  · exact PySem.W.mg_of X T0.g a__law_cell
  · exact F__law_cell.binds (ps := ["_law_script", "_law_k"]) fun _ _ _ _ _ _ us hl => match us, hl with | [_, _], _ => rfl
  · exact F__law_drawn
  · exact PySem.W.mg_of X T0.g a__law_drawn
  · exact F__law_drawn.binds (ps := ["_law_cell_here", "_law_k"]) fun _ _ _ _ _ _ us hl => match us, hl with | [_, _], _ => rfl
  · exact F__law_answer
  · exact PySem.W.mg_of X T0.g a__law_answer
  · exact F__law_answer.binds (ps := ["_law_way", "_law_one", "_law_other"]) fun _ _ _ _ _ _ us hl => match us, hl with | [_, _, _], _ => rfl
  · exact F__law_ask
  · exact PySem.W.mg_of X T0.g a__law_ask
  · exact F__law_ask.binds (ps := ["_law_asked", "_law_way", "_law_one", "_law_other"]) fun _ _ _ _ _ _ us hl => match us, hl with | [_, _, _, _], _ => rfl
  · exact F__law_log
  · exact PySem.W.mg_of X T0.g a__law_log
  · exact F__law_log.binds (ps := ["_law_many"]) fun _ _ _ _ _ _ us hl => match us, hl with | [_], _ => rfl
  · exact F__law_find
  · exact PySem.W.mg_of X T0.g a__law_find
  · exact F__law_find.binds (ps := ["_law_model", "_law_key", "_law_way"]) fun _ _ _ _ _ _ us hl => match us, hl with | [_, _, _], _ => rfl
  · exact F__law_got
  · exact PySem.W.mg_of X T0.g a__law_got
  · exact F__law_got.binds (ps := ["_law_tree", "_law_key"]) fun _ _ _ _ _ _ us hl => match us, hl with | [_, _], _ => rfl
  · exact F__law_at
  · exact PySem.W.mg_of X T0.g a__law_at
  · exact F__law_at.binds (ps := ["_law_tree", "_law_place"]) fun _ _ _ _ _ _ us hl => match us, hl with | [_, _], _ => rfl
  · exact F__law_deed
  · exact PySem.W.mg_of X T0.g a__law_deed
  · exact F__law_deed.binds (ps := ["_law_tree", "_law_model", "_law_way", "_law_more", "_law_key"]) fun _ _ _ _ _ _ us hl => match us, hl with | [_, _, _, _, _], _ => rfl
  · exact F_law
  · exact PySem.W.mg_of X T0.g a_law
  · exact F_law.binds (ps := ["_law_script"]) fun _ _ _ _ _ _ us hl => match us, hl with | [_], _ => rfl
  · rfl
  · exact fun s v => .of_eq rfl
  · exact PySem.W.mg_none_of X T0.g z_len
  · exact PySem.W.mg_none_of X T0.g z_list
  · exact PySem.W.mg_none_of X T0.g z_int
  · exact PySem.W.mg_none_of X T0.g z_abs
  · exact PySem.W.mg_none_of X T0.g z_range
  · exact PySem.W.mg_none_of X T0.g z_isinstance
  · exact PySem.W.mg_none_of X T0.g z_bool
  · exact PySem.W.mg_none_of X T0.g z_all
  · exact n_lower_Map_rank
  · exact n_lower_law
  · exact n_Map_rank_law
  · intro p hp
    simp only [tabs, List.mem_cons, List.not_mem_nil, or_false] at hp
    rcases hp with rfl | rfl | rfl
    · exact PySem.W.tab_of T0 X w_lower (tab_at a_lower l_lower rfl g_lower v_lower)
    · exact ⟨PySem.W.codeHd_of_K X q_Map_rank, y_Map_rank⟩
    · exact PySem.W.tab_of T0 X w_law (tab_at a_law l_law rfl g_law v_law)
theorem walk {l : PySem.W.OpenLaw} {q : Program} {loose : List Str} {XP : (Str → Option Value) → Heap → Prop} {YP : World → Heap → Prop} {d : DefRec} {K : Params → PySem.W.Frag} {ts : List Addr} (hn : l.most = some 63) (hdf : d.params.defaults = []) (hnm : d.name = "law")
    (hY : ∀ (w : World) (h : Heap), YP w h → (K w.params).In h) (hT8 : ∀ (w : World) (h : Heap), YP w h → ∀ P ∈ ts, h.get? P = some (PySem.W.tabObj #[])) (hKt : ∀ w : World, PySem.W.noTabs (K w.params) = true)
    (F : ∀ (w : World) (mean : ExcName → Option Value) (mg mb : Str → Option Value) (h : Heap), Top q (PySem.W.looseW q loose) mean mg mb h → (K w.params).In h → (∀ P ∈ ts, h.get? P = some (PySem.W.tabObj #[])) → ∃ A, Txt (K w.params) mg A ∧ PySem.W.TabsAt (tabs A) h ∧ Own mg h A) :
    PySem.W.WalkO q loose XP YP l.row.toRowW d [] (fun f vs => PySem.call f vs) := by
  refine L2.walk_ofZ (n := 63) (k := 14) (x := "_law_script") hn (by decide) hdf ⟨rfl, by decide, by decide⟩ hY hKt fun w mean mg mb fa h Y T0 KX hmg => ?_
  obtain ⟨A, T, hT, OC⟩ := F w mean mg mb h T0 KX (hT8 w h Y)
  rw [hnm] at hmg
  have e := hmg.symm.trans T.mg_law
  cases e
  exact ⟨A.d_law, tabs A, spLaw (K w.params) A, hT, T.bt_law, fun base _ _ bm CH kc => ok_law T CH bm ⟨own_keptC kc OC.NoElement, own_keptC kc OC.NoPlace⟩, fun H a ns hl hO hS => ⟨a, ns, rfl, hS, hl, TabOk.nil (hO (A.c_lower, A.t_lower) (by simp [tabs])), TabOk.nil (hO (A.c_Map_rank, A.t_Map_rank) (by simp [tabs])), TabOk.nil (hO (A.c_law, A.t_law) (by simp [tabs])), fun _ => rfl⟩⟩
end LW
open PySem PySem.W PyProof.Rows
set_option maxRecDepth 100000 in
set_option maxHeartbeats 0 in
theorem PySem.Challenge.cw_yourorder_k18_whole_maps_holds : PySem.Challenge.rw_yourorder_k18_whole_maps.Holds := by
  w_on; o_law; k_head; (case hw => w_witness2)
  k_fill
  refine LW.walk (l := PySem.Challenge.rw_yourorder_k18_whole_maps) rfl rfl rfl (fun w h Y => PySem.W.km_in_of Y) (fun w h Y => PySem.W.km_tabs_of Y) (fun w => ?K) ?F
  case K => kernel_rfl
  case F =>
    intro w mean mg mb h T0 KX hT8
    refine' LW.txt_mk T0 KX ?aC_Map ?pg_Map ?hd_Map ?po_Map ?sa_Map ?mk_Map ?kc_Map ?nA_Map_kept ?nA_Map_order ?a_lower ?l_lower ?e_lower ?k_lower ?g_lower ?v_lower ?w_lower ?a_count_in_front ?l_count_in_front ?e_count_in_front ?k_count_in_front ?a_Map___init__ ?i_Map___init__ ?l_Map___init__ ?e_Map___init__ ?k_Map___init__ ?a_Map_put ?i_Map_put ?l_Map_put ?e_Map_put ?k_Map_put ?a_Map_drop ?i_Map_drop ?l_Map_drop ?e_Map_drop ?k_Map_drop ?a_Map_get ?i_Map_get ?l_Map_get ?e_Map_get ?k_Map_get ?a_Map_has ?i_Map_has ?l_Map_has ?e_Map_has ?k_Map_has ?a_Map_size ?i_Map_size ?l_Map_size ?e_Map_size ?k_Map_size ?a_Map_at ?i_Map_at ?l_Map_at ?e_Map_at ?k_Map_at ?a_Map_pairs ?i_Map_pairs ?l_Map_pairs ?e_Map_pairs ?k_Map_pairs ?a_Map_rank ?i_Map_rank ?l_Map_rank ?e_Map_rank ?k_Map_rank ?g_Map_rank ?v_Map_rank ?q_Map_rank ?y_Map_rank ?a_Map_is_like ?i_Map_is_like ?l_Map_is_like ?e_Map_is_like ?k_Map_is_like ?a__law_cell ?l__law_cell ?e__law_cell ?k__law_cell ?a__law_drawn ?l__law_drawn ?e__law_drawn ?k__law_drawn ?a__law_answer ?l__law_answer ?e__law_answer ?k__law_answer ?a__law_ask ?l__law_ask ?e__law_ask ?k__law_ask ?a__law_log ?l__law_log ?e__law_log ?k__law_log ?a__law_find ?l__law_find ?e__law_find ?k__law_find ?a__law_got ?l__law_got ?e__law_got ?k__law_got ?a__law_at ?l__law_at ?e__law_at ?k__law_at ?a__law_deed ?l__law_deed ?e__law_deed ?k__law_deed ?a_law ?l_law ?e_law ?k_law ?g_law ?v_law ?w_law ?z_len ?z_list ?z_int ?z_abs ?z_range ?z_isinstance ?z_bool ?z_all ?n_lower_Map_rank ?n_lower_law ?n_Map_rank_law ?xs_NoElement ?xs_NoPlace
    (case aC_Map => k_is); (case pg_Map => k_is); (case hd_Map => k_is); (case po_Map => k_is); (case sa_Map => k_is); (case mk_Map => k_is); (case kc_Map => k_is); (case nA_Map_kept => k_is); (case nA_Map_order => k_is)
    (case a_lower => k_is); (case l_lower => k_is); (case e_lower => k_is); (case k_lower => k_is); (case g_lower => k_is); (case v_lower => rfl); (case w_lower => rfl)
    (case a_count_in_front => k_is); (case l_count_in_front => k_is); (case e_count_in_front => k_is); (case k_count_in_front => k_is)
    (case a_Map___init__ => k_is); (case i_Map___init__ => k_is); (case l_Map___init__ => k_is); (case e_Map___init__ => k_is); (case k_Map___init__ => k_is)
    (case a_Map_put => k_is); (case i_Map_put => k_is); (case l_Map_put => k_is); (case e_Map_put => k_is); (case k_Map_put => k_is)
    (case a_Map_drop => k_is); (case i_Map_drop => k_is); (case l_Map_drop => k_is); (case e_Map_drop => k_is); (case k_Map_drop => k_is)
    (case a_Map_get => k_is); (case i_Map_get => k_is); (case l_Map_get => k_is); (case e_Map_get => k_is); (case k_Map_get => k_is)
    (case a_Map_has => k_is); (case i_Map_has => k_is); (case l_Map_has => k_is); (case e_Map_has => k_is); (case k_Map_has => k_is)
    (case a_Map_size => k_is); (case i_Map_size => k_is); (case l_Map_size => k_is); (case e_Map_size => k_is); (case k_Map_size => k_is)
    (case a_Map_at => k_is); (case i_Map_at => k_is); (case l_Map_at => k_is); (case e_Map_at => k_is); (case k_Map_at => k_is)
    (case a_Map_pairs => k_is); (case i_Map_pairs => k_is); (case l_Map_pairs => k_is); (case e_Map_pairs => k_is); (case k_Map_pairs => k_is)
    (case a_Map_rank => k_is); (case i_Map_rank => k_is); (case l_Map_rank => k_is); (case e_Map_rank => k_is); (case k_Map_rank => k_is); (case g_Map_rank => k_is); (case v_Map_rank => rfl); (case q_Map_rank => kernel_rfl); (case y_Map_rank => exact hT8 _ (by k_mem))
    (case a_Map_is_like => k_is); (case i_Map_is_like => k_is); (case l_Map_is_like => k_is); (case e_Map_is_like => k_is); (case k_Map_is_like => k_is)
    (case a__law_cell => k_is); (case l__law_cell => k_is); (case e__law_cell => k_is); (case k__law_cell => k_is)
    (case a__law_drawn => k_is); (case l__law_drawn => k_is); (case e__law_drawn => k_is); (case k__law_drawn => k_is)
    (case a__law_answer => k_is); (case l__law_answer => k_is); (case e__law_answer => k_is); (case k__law_answer => k_is)
    (case a__law_ask => k_is); (case l__law_ask => k_is); (case e__law_ask => k_is); (case k__law_ask => k_is)
    (case a__law_log => k_is); (case l__law_log => k_is); (case e__law_log => k_is); (case k__law_log => k_is)
    (case a__law_find => k_is); (case l__law_find => k_is); (case e__law_find => k_is); (case k__law_find => k_is)
    (case a__law_got => k_is); (case l__law_got => k_is); (case e__law_got => k_is); (case k__law_got => k_is)
    (case a__law_at => k_is); (case l__law_at => k_is); (case e__law_at => k_is); (case k__law_at => k_is)
    (case a__law_deed => k_is); (case l__law_deed => k_is); (case e__law_deed => k_is); (case k__law_deed => k_is)
    (case a_law => k_is); (case l_law => k_is); (case e_law => k_is); (case k_law => k_is); (case g_law => k_is); (case v_law => rfl); (case w_law => rfl)
    (case z_len => k_is); (case z_list => k_is); (case z_int => k_is); (case z_abs => k_is); (case z_range => k_is); (case z_isinstance => k_is); (case z_bool => k_is); (case z_all => k_is)
    (case xs_NoElement => kernel_rfl)
    (case xs_NoPlace => kernel_rfl)
    (case n_lower_Map_rank => decide); (case n_lower_law => decide); (case n_Map_rank_law => decide)
