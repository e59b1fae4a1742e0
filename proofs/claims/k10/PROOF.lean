import PyProof.Rows.All
import Wide.All
import OpenK.AllK
import Wide.FinOn
import Lean
import PyProof.EqAt
import PyProof.EqKinds
import PyProof.TupleCall
import PySem.Challenge.RW_yourorder_k10_refusals_apart
set_option Elab.async false
set_option linter.all false
set_option maxRecDepth 100000
/-! THE HAND LAYER, for ints, bools, texts, own classes, LISTS and tuples (index, slices, in, append, pop ..), calls, loops. Paste it whole ahead of your own text; what your proof does not reach may be deleted. -/
namespace L2
open PySem PySem.Spec PyProof.Rows

/-- a key: an int or a str -/
abbrev Key := Sum Int Str
def keyIs : Key → Value → Bool
  | .inl k, v => Value.isInt k v
  | .inr x, v => Value.isStrOf x v
def keyH (w : World) : Key → Int
  | .inl k => hashInt k
  | .inr x => hashStr w x
theorem keyIs_shape : ∀ {k : Key} {v : Value}, keyIs k v = true → (∃ i t, k = Sum.inl i ∧ v = Value.int i t) ∨ (∃ x t, k = Sum.inr x ∧ v = Value.str x t)
  | .inl i, v, h => by
    obtain ⟨t, e⟩ := Value.isInt_shape (k := i) (v := v) h
    exact .inl ⟨i, t, rfl, e⟩
  | .inr x, v, h => by
    obtain ⟨t, e⟩ := Value.isStrOf_shape (x := x) (v := v) h
    exact .inr ⟨x, t, rfl, e⟩
theorem key_ll (a b : Int) : decide ((Sum.inl a : Key) = Sum.inl b) = (a == b) := by
  by_cases e : a = b
  · subst e; simp
  · have h : ¬ (Sum.inl a : Key) = Sum.inl b := fun q => e (Sum.inl.inj q)
    rw [decide_eq_false h]
    exact (beq_eq_false_iff_ne.mpr e).symm
theorem key_rr (a b : Str) : decide ((Sum.inr a : Key) = Sum.inr b) = decide (a = b) := by
  by_cases e : a = b
  · subst e; simp
  · have h : ¬ (Sum.inr a : Key) = Sum.inr b := fun q => e (Sum.inr.inj q)
    rw [decide_eq_false h, decide_eq_false e]
theorem key_lr (a : Int) (b : Str) : decide ((Sum.inl a : Key) = Sum.inr b) = false := decide_eq_false (fun q => nomatch q)
theorem key_rl (a : Str) (b : Int) : decide ((Sum.inr a : Key) = Sum.inl b) = false := decide_eq_false (fun q => nomatch q)

def mixKind (prog : Program) (w : World) : PySem.KeyKind prog w Key where
  is := keyIs
  hash := keyH w
  inj := fun v a b ha hb => by
    rcases keyIs_shape ha with ⟨i, t, rfl, rfl⟩ | ⟨x, t, rfl, rfl⟩
    · rcases keyIs_shape hb with ⟨j, u, rfl, e⟩ | ⟨y, u, rfl, e⟩
      · injection e with e1 _; rw [e1]
      · exact nomatch e
    · rcases keyIs_shape hb with ⟨j, u, rfl, e⟩ | ⟨y, u, rfl, e⟩
      · exact nomatch e
      · injection e with e1 _; rw [e1]
  byValue := fun k v h => by
    rcases keyIs_shape h with ⟨i, t, rfl, rfl⟩ | ⟨x, t, rfl, rfl⟩ <;> rfl
  pyHash := fun hv h => by
    rcases keyIs_shape hv with ⟨i, t, rfl, rfl⟩ | ⟨x, t, rfl, rfl⟩
    · exact wpAny_pyHash_int h
    · exact wpAny_pyHash_str h
  eqBool := fun hu hv h => by
    rcases keyIs_shape hu with ⟨i, t, rfl, rfl⟩ | ⟨x, t, rfl, rfl⟩
    · rcases keyIs_shape hv with ⟨j, u, rfl, rfl⟩ | ⟨y, u, rfl, rfl⟩
      · rw [key_ll] at h; exact wpAny_eqBool_int h
      · rw [key_lr] at h; exact SeqAt.EqAt.int_str i t y u _ _ _ _ h
    · rcases keyIs_shape hv with ⟨j, u, rfl, rfl⟩ | ⟨y, u, rfl, rfl⟩
      · rw [key_rl] at h; exact SeqAt.EqAt.str_int x t j u _ _ _ _ h
      · rw [key_rr] at h; exact wpAny_eqBool_str h
  «strs» := fun k x t v h => by
    rcases keyIs_shape h with ⟨i, u, rfl, e⟩ | ⟨y, u, rfl, e⟩
    · exact nomatch e
    · injection e with e1 _
      subst e1
      cases v <;> rfl

end L2

namespace L2
open PySem PySem.Spec PyProof.Rows

/-- a value, without the heap -/
inductive V where
  | non | bl (b : Bool) | int (i : Int) | str (x : Str) | byt (b : Array UInt8) | flt (b : UInt64) | ref (a : Addr) | ty (n : String)
  deriving DecidableEq

def RelV : V → Value → Prop
  | .non, u => u = Value.none
  | .bl b, u => u = Value.bool b
  | .int i, u => ∃ t, u = Value.int i t
  | .str x, u => ∃ t, u = Value.str x t
  | .byt b, u => ∃ t, u = Value.bytes b t
  | .flt b, u => ∃ t, u = Value.float b t
  | .ref a, u => u = Value.ref a
  | .ty n, u => u = Value.type n

abbrev Vals : List V → List Value → Prop := Paired RelV
theorem Vals.length {xs : List V} {us : List Value} (r : Vals xs us) : xs.length = us.length := Paired.length r
theorem Vals.get : ∀ {xs : List V} {us : List Value} {i : Nat} {x : V}, Vals xs us → xs[i]? = some x → ∃ u, us[i]? = some u ∧ RelV x u
  | _, _, _, _, .nil, e => by simp at e
  | _, _, 0, _, .cons r _, e => by simp at e; subst e; exact ⟨_, rfl, r⟩
  | _, _, i + 1, x, .cons _ t, e => by
    obtain ⟨u, h1, h2⟩ := Vals.get (i := i) (x := x) t (by simpa using e)
    exact ⟨u, by simpa using h1, h2⟩
theorem Vals.append : ∀ {xs ys : List V} {us ws : List Value}, Vals xs us → Vals ys ws → Vals (xs ++ ys) (us ++ ws)
  | _, _, _, _, .nil, s => s
  | _, _, _, _, .cons r t, s => .cons r (Vals.append t s)

def RelO : Option V → Option Value → Prop
  | some v, some u => RelV v u
  | none, none => True
  | _, _ => False
def KV {κ : Type} : List (κ × V) → List (κ × Value) → Prop := Paired fun (p : κ × V) (q : κ × Value) => p.1 = q.1 ∧ RelV p.2 q.2

/-- a key of a dict (00_mix): an int or a text -/
def kV : Key → V
  | .inl i => .int i
  | .inr x => .str x

/-- what stands at a tracked address -/
inductive HO where
  /-- a list -/
  | lst (xs : List V)
  /-- a tuple (never changes) -/
  | tup (xs : List V)
  /-- a dict whose keys are ints and texts; one whose keys are tuples of ints and texts (the empty one is both) -/
  | dK (kvs : List (Key × V)) | dT (kvs : List (List Key × V))
  /-- a set of ints: its members, its size -/
  | set (S : Int → Bool) (n : Nat)
  /-- an instance of the class at C, its dict at dx, its attributes -/
  | ins (C dx : Addr) (fs : List (Str × V))
  /-- the dict of the instance at x -/
  | own (x : Addr)
  /-- the dict of an exception -/
  | xd (fs : List (Str × V))
  /-- a bound method, f of x -/
  | met (f x : Addr)
  /-- a range object lo, lo + 1, .. below hi -/
  | rng (lo hi : Int)
  /-- a thing that is known to the object (the script; a dict while a loop walks it): read, never written while it is so -/
  | frz (o : Obj) (u : HO)
  /-- a code object's table -/
  | tbl (ps : Array Value)
  /-- any other thing, by what is true of its one object (a def of one's own: SetO a S n := HO.ext fun h => ..) -/
  | ext (φ : Heap → Prop)

abbrev Hp := Addr → Option HO
def upd (H : Hp) (a : Addr) (o : HO) : Hp := fun b => if b = a then some o else H b
theorem upd_same {H : Hp} {a : Addr} {o : HO} : upd H a o a = some o := by unfold upd; rw [if_pos rfl]
theorem upd_ne {H : Hp} {a b : Addr} {o : HO} (h : b ≠ a) : upd H a o b = H b := by unfold upd; rw [if_neg h]
theorem ne_of_none {H : Hp} {a b : Addr} {o : HO} (h : H a = some o) (h' : H b = none) : a ≠ b := by
  intro e; subst e; rw [h] at h'; cases h'

section
variable (P : Program) (w : World)
def ObjOk (H : Hp) (h : Heap) (a : Addr) : HO → Prop
  | .lst xs => xs.length ≤ sizeLine ∧ ∃ (its : List Value) (n : Nat), Vals xs its ∧ h.get? a = some { cls := .type "list", data := .seq its.toArray n }
  | .tup xs => xs.length ≤ sizeLine ∧ ∃ its : List Value, Vals xs its ∧ IsTup h a its.toArray
  | .dK kvs => kvs.length ≤ sizeLine ∧ (a == sysModules) = false ∧ ∃ vs, KV kvs vs ∧ h.DictOf (mixKind P w) a vs
  | .dT kvs => kvs.length ≤ sizeLine ∧ (a == sysModules) = false ∧ ∃ xs : List (List Key × Addr × Value),
      Paired (fun (p : List Key × V) (q : List Key × Addr × Value) => p.1 = q.1 ∧ H q.2.1 = some (.tup (p.1.map kV)) ∧ RelV p.2 q.2.2) kvs xs ∧
      ∃ o es ep, h.get? a = some o ∧ o.ExactDict ∧ o.data = .dict es ep ∧ es.toList = xs.map (entryOfKey (tupleKind (mixKind P w))) ∧ (xs.map (·.1)).Nodup
  | .set S n => h.SetOf (intKind P w) a S n
  | .ins C dx fs => H dx = some (.own a) ∧ fs.length ≤ 1000 ∧ dx ≠ a ∧ h.get? a = some (PySem.W.instObj C dx) ∧
      ∃ mA, h.Ns1 dx mA ∧ (∀ f, RelO (fs.lookup f) (mA f)) ∧ PySem.Within mA (fs.map (·.1))
  | .own _ => ∃ o, h.get? a = some o
  | .xd fs => ∃ mA, h.Ns1 a mA ∧ ∀ f, RelO (fs.lookup f) (mA f)
  | .rng lo hi => ∃ t u v, h.get? a = some { cls := .type "range", data := .fields #[.int lo t, .int hi u, .int 1 v] }
  | .frz o u => h.get? a = some o ∧ ObjOk H h a u
  | .tbl ps => h.get? a = some { cls := .none, data := .fields ps }
  | .met f x => h.get? a = some (PySem.W.methodObj (.ref f) (.ref x))
  | .ext φ => φ h ∧ (∃ o, h.get? a = some o) ∧ ∀ h1 h2 : Heap, φ h1 → (∀ o, h1.get? a = some o → h2.get? a = some o) → φ h2
/-- the abstract heap is held -/
def HOk (H : Hp) (h : Heap) : Prop := ∀ a o, H a = some o → ObjOk P w H h a o
end

section
variable {P : Program} {w : World} {H H' : Hp} {h h' : Heap} {a : Addr} {o : HO}
theorem ObjOk.lt (x : ObjOk P w H h a o) : a < h.objs.size := by
  cases o with
  | lst xs => obtain ⟨_, _, _, _, e⟩ := x; exact Heap.lt_size e
  | tup xs => obtain ⟨_, _, _, p⟩ := x; exact p.lt
  | dK kvs => obtain ⟨_, _, _, _, o, _, _, e, _⟩ := x; exact Heap.lt_size e
  | dT kvs => obtain ⟨_, _, _, _, o, _, _, e, _⟩ := x; exact Heap.lt_size e
  | set S n => obtain ⟨o, _, _, _, e, _⟩ := x; exact Heap.lt_size e
  | ins C dx fs => obtain ⟨_, _, _, e, _⟩ := x; exact Heap.lt_size e
  | own y => obtain ⟨_, e⟩ := x; exact Heap.lt_size e
  | xd fs => obtain ⟨_, ⟨_, _, _, e, _⟩, _⟩ := x; exact Heap.lt_size e
  | rng lo hi => obtain ⟨_, _, _, e⟩ := x; exact Heap.lt_size e
  | frz ob u => obtain ⟨e, _⟩ := x; exact Heap.lt_size e
  | tbl ps => exact Heap.lt_size (show h.get? a = some _ from x)
  | met f y => exact Heap.lt_size (show h.get? a = some _ from x)
  | ext φ => obtain ⟨_, ⟨_, e⟩, _⟩ := x; exact Heap.lt_size e
theorem Paired.mapP {α β : Type} {F G : α → β → Prop} : ∀ {l₁ : List α} {l₂ : List β}, Paired F l₁ l₂ → (∀ a b, F a b → G a b) → Paired G l₁ l₂
  | _, _, .nil, _ => .nil
  | _, _, .cons r t, f => .cons (f _ _ r) (Paired.mapP t f)
/-- what an object's description leans on: its own object, its own dict, the tuples -/
theorem ObjOk.stay (x : ObjOk P w H h a o) (k : ∀ b u, (b = a ∨ H b = some (.own a)) → h.get? b = some u → h'.get? b = some u)
    (ho : ∀ b, H b = some (.own a) → H' b = some (.own a)) (ht : ∀ b xs, H b = some (.tup xs) → H' b = some (.tup xs)) : ObjOk P w H' h' a o := by
  induction o with
  | lst xs => obtain ⟨z, its, n, r, e⟩ := x; exact ⟨z, its, n, r, k _ _ (.inl rfl) e⟩
  | tup xs => obtain ⟨z, its, r, ob, e, c⟩ := x; exact ⟨z, its, r, ob, k _ _ (.inl rfl) e, c⟩
  | dK kvs => obtain ⟨z, y, vs, r, ob, es, ep, e, c⟩ := x; exact ⟨z, y, vs, r, ob, es, ep, k _ _ (.inl rfl) e, c⟩
  | dT kvs =>
    obtain ⟨z, y, xs, r, ob, es, ep, e, c⟩ := x
    exact ⟨z, y, xs, Paired.mapP r fun p q z => ⟨z.1, ht _ _ z.2.1, z.2.2⟩, ob, es, ep, k _ _ (.inl rfl) e, c⟩
  | set S n => obtain ⟨ob, es, ep, t, e, c⟩ := x; exact ⟨ob, es, ep, t, k _ _ (.inl rfl) e, c⟩
  | ins C dx fs =>
    obtain ⟨d, z, ne, e, mA, ⟨od, es, ep, e2, c⟩, r⟩ := x
    exact ⟨ho _ d, z, ne, k _ _ (.inl rfl) e, mA, ⟨od, es, ep, k _ _ (.inr d) e2, c⟩, r⟩
  | own y => obtain ⟨ob, e⟩ := x; exact ⟨ob, k _ _ (.inl rfl) e⟩
  | xd fs => obtain ⟨mA, ⟨od, es, ep, e, c⟩, r⟩ := x; exact ⟨mA, ⟨od, es, ep, k _ _ (.inl rfl) e, c⟩, r⟩
  | rng lo hi => obtain ⟨t, u, v, e⟩ := x; exact ⟨t, u, v, k _ _ (.inl rfl) e⟩
  | frz ob u ih => obtain ⟨e, q⟩ := x; exact ⟨k _ _ (.inl rfl) e, ih q⟩
  | tbl ps =>
    have e : h.get? a = some { cls := .none, data := .fields ps } := x
    show h'.get? a = some { cls := .none, data := .fields ps }
    exact k a _ (.inl rfl) e
  | met f y =>
    have e : h.get? a = some (PySem.W.methodObj (.ref f) (.ref y)) := x
    show h'.get? a = some (PySem.W.methodObj (.ref f) (.ref y))
    exact k a _ (.inl rfl) e
  | ext φ => obtain ⟨p, ⟨o, e⟩, st⟩ := x; exact ⟨st _ _ p fun o q => k _ _ (.inl rfl) q, ⟨o, k _ _ (.inl rfl) e⟩, st⟩
theorem HOk.lt (x : HOk P w H h) (e : H a = some o) : a < h.objs.size := (x a o e).lt
theorem HOk.fresh (x : HOk P w H h) (e : h.objs.size ≤ a) : H a = none := by
  cases q : H a with
  | none => rfl
  | some u => exact absurd (Nat.lt_of_lt_of_le (x.lt q) e) (Nat.lt_irrefl _)
/-- every object of the heap is kept -/
theorem HOk.kept (x : HOk P w H h) (k : ∀ b u, h.get? b = some u → h'.get? b = some u) : HOk P w H h' := fun a o e =>
  (x a o e).stay (fun b u _ q => k b u q) (fun _ q => q) fun _ _ q => q
/-- a new object is laid and tracked -/
theorem HOk.laid (x : HOk P w H h) (k : ∀ b u, h.get? b = some u → h'.get? b = some u) (hp : h.objs.size ≤ a) (new : ObjOk P w (upd H a o) h' a o) : HOk P w (upd H a o) h' := fun b u e => by
  have hn := x.fresh hp
  by_cases hb : b = a
  · subst hb; rw [upd_same] at e; cases e; exact new
  · rw [upd_ne hb] at e
    exact (x b u e).stay (fun c v _ q => k c v q) (fun c q => by rw [upd_ne (ne_of_none q hn)]; exact q) fun c xs q => by rw [upd_ne (ne_of_none q hn)]; exact q
end

/-- what may be read as u: it is u, or a known u -/
def Rd (H : Hp) (a : Addr) (u : HO) : Prop := H a = some u ∨ ∃ o, H a = some (.frz o u)
theorem Rd.ok {P : Program} {w : World} {H : Hp} {h : Heap} {a : Addr} {u : HO} (r : Rd H a u) (x : HOk P w H h) : ObjOk P w H h a u := by
  rcases r with r | ⟨o, r⟩
  · exact x a u r
  · obtain ⟨_, q⟩ := x a _ r
    exact q
/-- what may be written -/
def Mut : Option HO → Prop
  | some (.lst _) => True
  | some (.dK _) => True
  | some (.dT _) => True
  | some (.set _ _) => True
  | some (.ins _ _ _) => True
  | some (.ext _) => True
  | _ => False
section
variable {P : Program} {w : World} {H : Hp} {h h' : Heap} {x e : Addr} {o' : HO}
/-- the object at e is changed: x itself, or the dict of the instance x -/
theorem HOk.write (ok : HOk P w H h) (mu : Mut (H x)) (he : e = x ∨ H e = some (.own x)) (k : ∀ b u, b ≠ e → h.get? b = some u → h'.get? b = some u) (heo : ∃ u, h'.get? e = some u)
    (new : ObjOk P w (upd H x o') h' x o') : HOk P w (upd H x o') h' := fun b u q => by
  have nown : ∀ c y, H c = some (.own y) → c ≠ x := fun c y r z => by subst z; rw [r] at mu; exact mu
  have ntup : ∀ c xs, H c = some (.tup xs) → c ≠ x := fun c xs r z => by subst z; rw [r] at mu; exact mu
  by_cases hb : b = x
  · subst hb; rw [upd_same] at q; cases q; exact new
  · rw [upd_ne hb] at q
    by_cases hbe : b = e
    · have q' : H b = some (.own x) := by
        rcases he with z | z
        · exact absurd (hbe.trans z) hb
        · rw [hbe]; exact z
      rw [q] at q'; cases q'
      obtain ⟨v, hv⟩ := heo
      exact ⟨v, by rw [hbe]; exact hv⟩
    · refine (ok b u q).stay (fun c v hc r => k c v ?_ r) (fun c r => by rw [upd_ne (nown c b r)]; exact r) fun c xs r => by rw [upd_ne (ntup c xs r)]; exact r
      rcases hc with rfl | hc
      · exact hbe
      · rintro rfl
        rcases he with z | z
        · exact nown c b hc z
        · rw [hc] at z; cases z; exact hb rfl
end

/-! ### kept unless tracked; of the frames at fs (the callers') the slots may change (an exception that passes writes there); of the records at ex (iterators) nothing is said -/
structure Un (fs ex : List Addr) (H H' : Hp) (h h' : Heap) : Prop where
  keep : ∀ b o, h.get? b = some o → H b = none → b ∉ fs → b ∉ ex → h'.get? b = some o
  slot : ∀ b o, h.get? b = some o → H b = none → b ∈ fs → b ∉ ex → ∃ sl, h'.get? b = some { o with slots := sl }
  free : ∀ b o, h.get? b = some o → H b = none → b ∉ ex → H' b = none
  there : ∀ b o, h.get? b = some o → b ∉ ex → ∃ o', h'.get? b = some o'
  tups : ∀ b xs, H b = some (.tup xs) → H' b = some (.tup xs)
  frzs : ∀ b o u, H b = some (.frz o u) → H' b = some (.frz o u)
  tbls : ∀ b ps, H b = some (.tbl ps) → ∃ more, H' b = some (.tbl (ps ++ more))
section
variable {fs fs' ex ex' : List Addr} {H H1 H2 : Hp} {h h1 h2 h' : Heap} {a x e : Addr} {o : HO}
theorem Un.any (u : Un fs ex H H1 h h1) {b : Addr} {ob : Obj} (q : h.get? b = some ob) (n : H b = none) (hx : b ∉ ex) : ∃ sl, h1.get? b = some { ob with slots := sl } := by
  by_cases hb : b ∈ fs
  · exact u.slot b ob q n hb hx
  · exact ⟨ob.slots, u.keep b ob q n hb hx⟩
theorem Un.kept (k : ∀ b u, h.get? b = some u → h'.get? b = some u) : Un fs ex H H h h' :=
  ⟨fun b ob q _ _ _ => k b ob q, fun b ob q _ _ _ => ⟨ob.slots, k b ob q⟩, fun _ _ _ n _ => n, fun b ob q _ => ⟨ob, k b ob q⟩, fun _ _ q => q, fun _ _ _ q => q, fun _ ps q => ⟨#[], by rw [q]; simp⟩⟩
theorem Un.refl : Un fs ex H H h h := Un.kept fun _ _ q => q
theorem Un.laid (k : ∀ b u, h.get? b = some u → h'.get? b = some u) (hp : h.objs.size ≤ a) (hn : H a = none) : Un fs ex H (upd H a o) h h' where
  keep := fun b u q _ _ _ => k b u q
  slot := fun b u q _ _ _ => ⟨u.slots, k b u q⟩
  free := fun b u q n _ => by rw [upd_ne (Nat.ne_of_lt (Nat.lt_of_lt_of_le (Heap.lt_size q) hp))]; exact n
  there := fun b u q _ => ⟨u, k b u q⟩
  tups := fun b xs q => by rw [upd_ne (ne_of_none q hn)]; exact q
  frzs := fun b u xs q => by rw [upd_ne (ne_of_none q hn)]; exact q
  tbls := fun b ps q => ⟨#[], by rw [upd_ne (ne_of_none q hn), q]; simp⟩
theorem Un.write (mu : Mut (H x)) (he : e = x ∨ H e = some (.own x)) (k : ∀ b u, b ≠ e → h.get? b = some u → h'.get? b = some u) (heo : ∃ u, h'.get? e = some u) : Un fs ex H (upd H x o) h h' := by
  have hx : ∀ b, H b = none → b ≠ x := fun b n z => by subst z; rw [n] at mu; exact mu
  have hb : ∀ b, H b = none → b ≠ e := fun b n z => by
    subst z
    rcases he with r | r
    · exact hx b n r
    · rw [n] at r; cases r
  have hm : ∀ b u, H b = some u → ¬ Mut (some u) → b ≠ x := fun b u q nm z => by subst z; rw [q] at mu; exact nm mu
  refine ⟨fun b u q n _ _ => k b u (hb b n) q, fun b u q n _ _ => ⟨u.slots, k b u (hb b n) q⟩, fun b u q n _ => by rw [upd_ne (hx b n)]; exact n, fun b u q _ => ?_,
    fun b xs q => by rw [upd_ne (hm b _ q fun z => z)]; exact q, fun b u xs q => by rw [upd_ne (hm b _ q fun z => z)]; exact q, fun b ps q => ⟨#[], by rw [upd_ne (hm b _ q fun z => z), q]; simp⟩⟩
  by_cases hbe : b = e
  · subst hbe; exact heo
  · exact ⟨u, k b u hbe q⟩
end

/-! ### the heap without what is tracked -/
def trk (h : Heap) (H : Hp) : List Addr := (List.range h.objs.size).filter fun a => (H a).isSome
def hidT (h : Heap) (H : Hp) : Heap := PySem.W.hideAll h (trk h H)
theorem hidT_size (h : Heap) (H : Hp) : (hidT h H).objs.size = h.objs.size := PySem.W.hideAll_size _ _
theorem hidT_get {h : Heap} {H : Hp} {b : Addr} {o : Obj} (e : h.get? b = some o) (n : H b = none) : (hidT h H).get? b = some o :=
  PySem.W.hideAll_get _ e fun hm => by
    have q : (H b).isSome = true := (List.mem_filter.mp hm).2
    rw [n] at q; simp at q
theorem of_hidT {h : Heap} {H : Hp} {b : Addr} {o : Obj} (e : (hidT h H).get? b = some o) : h.get? b = some o ∧ H b = none := by
  have e' : h.get? b = some o := PySem.W.of_hideAll (trk h H) e
  refine ⟨e', ?_⟩
  cases q : H b with
  | none => rfl
  | some x =>
    have hm : b ∈ trk h H := List.mem_filter.mpr ⟨List.mem_range.mpr (Heap.lt_size e'), by simp [q]⟩
    have z : (hidT h H).get? b = none := PySem.W.hideAll_none (trk h H) hm
    rw [z] at e; cases e

/-! ### OpenK's ledger, filled with every new object but one -/
def allNews (g h : Heap) (L : Addr) : List (Addr × Obj) := (List.range h.objs.size).filterMap fun a => if a = L ∨ (g.get? a).isSome = true then none else (h.get? a).map fun o => (a, o)
def rest (g h : Heap) (L d : Addr) : List (Addr × Obj) := (allNews g h L).filter fun p => decide (p.1 ≠ d)
end L2

namespace L2
open PySem PySem.Spec PyProof.Rows

/-- the module's facts, over the base: the heap at the law's entry without what is tracked there -/
structure Mod (K : PySem.W.Frag) (mg : Str → Option Value) (base : Heap) : Prop where
  kin : K.In base
  glob : base.Ns mainGlobals mg
  blt : ∃ mb, base.Ns builtinsNs mb ∧ ∀ x : Str, x ≠ "__name__" → mb x = bootBuiltins x
  nolimit : base.NoLimit

/-- the context: a def's body (or a comprehension's block) running. base: fixed through the whole law; s₀, H₀: the entry; outer: the frames whose slots others may change (a def's callers); stack: all frames that run;
   ex: iterators that were made ahead of the entry and are walked here (a comprehension's); fn: the names whose cells were made at the entry (a def: all; a comprehension's block: its own); calm: not within an except suite; pn: pins that every state bears; xe: what is wanted of an exception that leaves the code -/
structure Cx where
  prog : Program
  w : World
  K : PySem.W.Frag
  mg : Str → Option Value
  base : Heap
  A : Around
  N : List Str
  s₀ : Shared
  H₀ : Hp
  env : Env
  outer : List Env
  stack : List Env
  ex : List Addr
  fn : Str → Bool
  calm : Bool
  pn : List (Addr × Obj)
  xe : Value → Shared → Prop
/-- the callers' frames -/
def frs (l : List Env) : List Addr := l.filterMap (·.frame)
abbrev Cx.fs (X : Cx) : List Addr := frs X.outer

def Vis (sc : Scope) (x : Str) : Prop := sc.names.lookup x = some .local ∨ sc.names.lookup x = some .cell ∨ sc.names.lookup x = some .free
def Loc (sc : Scope) (x : Str) : Prop := sc.names.lookup x = some .local ∨ sc.names.lookup x = some .cell
def Look (env : Env) (h : Heap) (m : Str → Option Value) (x : Str) (u : Value) : Prop :=
  (env.kindOf x = some .local ∧ m x = some u) ∨ ((env.kindOf x = some .cell ∨ env.kindOf x = some .free) ∧ ∃ c, env.cells.lookup x = some c ∧ h.IsCell c (some u))

structure Cx.Ok (X : Cx) : Prop where
  mod : Mod X.K X.mg X.base
  kind : X.env.scope.kind = .function
  glob : X.env.globals = mainGlobals
  blt : X.env.builtins = builtinsNs
  above : X.s₀.heap.objs.size ≤ X.env.locals
  inj : ∀ x y c, X.env.cells.lookup x = some c → X.env.cells.lookup y = some c → x = y
  has : ∀ x, (X.env.kindOf x = some .cell ∨ X.env.kindOf x = some .free) → ∃ c, X.env.cells.lookup x = some c
  cab : ∀ x c, X.fn x = true → X.env.cells.lookup x = some c → X.s₀.heap.objs.size ≤ c
  hd : X.calm = true → X.A.handled = none
  frames : X.A.frames = some X.stack
  stk : X.stack = X.outer ∨ (X.stack = X.env :: X.outer ∧ X.env.frame = some X.env.locals)
  exf : ∀ b ∈ X.ex, b ≠ X.env.locals ∧ ∀ x c, X.env.cells.lookup x = some c → c ≠ b
  bs : ∀ b o, X.base.get? b = some o → X.s₀.heap.get? b = some o ∧ X.H₀ b = none
  bsz : X.base.objs.size ≤ X.s₀.heap.objs.size
  noex : ∀ b o, X.base.get? b = some o → b ∉ X.ex
  exfs : ∀ b ∈ X.ex, b ∉ X.fs
  funs : X.s₀.heap.FunFrames X.base X.outer
  frf : ∀ b ∈ X.fs, X.H₀ b = none

structure Inv (X : Cx) (pins : List (Addr × Obj)) (σ : List (Option V)) (H : Hp) (s : Shared) : Prop where
  ok : X.Ok
  os : s.os = X.s₀.os
  bare : AllBare s.gens
  base : Un X.fs X.ex X.H₀ H X.s₀.heap s.heap
  loc : ∃ m, s.heap.Ns X.env.locals m ∧ ∀ (i : Nat) (x : Str) (v : V), X.N[i]? = some x → σ[i]? = some (some v) → Vis X.env.scope x → ∃ u, RelV v u ∧ Look X.env s.heap m x u
  cell : ∀ x c, X.env.cells.lookup x = some c → ∃ v, s.heap.IsCell c v
  free : H X.env.locals = none
  freeC : ∀ x c, X.env.cells.lookup x = some c → H c = none
  pin : ∀ p ∈ X.pn ++ pins, s.heap.get? p.1 = some p.2 ∧ H p.1 = none ∧ p.1 ≠ X.env.locals ∧ p.1 ∉ X.fs ∧ ∀ v, p.2.data ≠ .cell v
  hok : HOk X.prog X.w H s.heap
  len : σ.length = X.N.length

section
variable {X : Cx} {pins : List (Addr × Obj)} {σ : List (Option V)} {H H' : Hp} {s : Shared} {h' : Heap}

theorem Cx.Ok.nofr (ok : X.Ok) {b : Addr} {o : Obj} (e : X.base.get? b = some o) : b ∉ X.fs := fun hb => by
  have := (ok.funs.mem hb).1
  rw [e] at this; cases this
theorem Inv.bs (I : Inv X pins σ H s) : ∀ b o, X.base.get? b = some o → s.heap.get? b = some o ∧ H b = none := fun b o e =>
  ⟨I.base.keep b o (I.ok.bs b o e).1 (I.ok.bs b o e).2 (I.ok.nofr e) (I.ok.noex b o e), I.base.free b o (I.ok.bs b o e).1 (I.ok.bs b o e).2 (I.ok.noex b o e)⟩
theorem Inv.bk (I : Inv X pins σ H s) : ∀ b o, X.base.get? b = some o → s.heap.get? b = some o := fun b o e => (I.bs b o e).1
theorem Inv.mod (I : Inv X pins σ H s) : Mod X.K X.mg X.base := I.ok.mod
theorem Inv.kIn (I : Inv X pins σ H s) : X.K.In s.heap := I.ok.mod.kin.keeps I.bk
theorem Inv.lt (I : Inv X pins σ H s) : X.env.locals < s.heap.objs.size := let ⟨_, hn, _⟩ := I.loc; hn.lt
theorem Inv.sz (I : Inv X pins σ H s) : X.s₀.heap.objs.size ≤ s.heap.objs.size := Nat.le_trans I.ok.above (Nat.le_of_lt I.lt)
theorem Inv.nofs (I : Inv X pins σ H s) {a : Addr} (h : s.heap.objs.size ≤ a) : a ∉ X.fs := fun hb => by
  obtain ⟨_, o, ho, _⟩ := I.ok.funs.mem hb
  exact absurd (Nat.lt_of_lt_of_le (Heap.lt_size ho) (Nat.le_trans I.sz h)) (Nat.lt_irrefl _)
theorem Inv.cne (I : Inv X pins σ H s) : ∀ x c, X.env.cells.lookup x = some c → c ≠ X.env.locals := fun x c e z => by
  obtain ⟨v, o, ho, hd⟩ := I.cell x c e
  obtain ⟨m, ⟨o', es, ep, ho', hd', _⟩, _⟩ := I.loc
  rw [z, ho'] at ho; cases ho; rw [hd'] at hd; cases hd
theorem Inv.funs (I : Inv X pins σ H s) : s.heap.FunFrames X.base X.outer := by
  have all : ∀ (l : List Env), (∀ b ∈ frs l, b ∈ X.fs) → X.s₀.heap.FunFrames X.base l → s.heap.FunFrames X.base l := by
    intro l
    induction l with
    | nil => intro _ _; trivial
    | cons env r ih =>
      intro hs hl
      obtain ⟨hk, ⟨L, o, hf, hn, ho, hd⟩, hr⟩ := hl
      have hL : L ∈ X.fs := hs L (by unfold frs; rw [List.filterMap_cons, hf]; exact List.mem_cons_self)
      obtain ⟨sl, e⟩ := I.base.slot L o ho (I.ok.frf L hL) hL fun z => I.ok.exfs L z hL
      exact ⟨hk, ⟨L, _, hf, hn, e, hd⟩, ih (fun b hb => hs b (by unfold frs; rw [List.filterMap_cons, hf]; exact List.mem_cons_of_mem _ hb)) hr⟩
  exact all X.outer (fun _ hb => hb) I.ok.funs

/-- the frames that run, for a call -/
theorem Inv.stack (I : Inv X pins σ H s) : s.heap.FunFrames X.base X.stack := by
  rcases I.ok.stk with e | ⟨e, hf⟩
  · rw [e]; exact I.funs
  · rw [e]
    obtain ⟨m, hn, _⟩ := I.loc
    refine .cons (by rw [I.ok.kind]; decide) hf hn ?_ I.funs
    exact Heap.get?_none_of_le (Nat.le_trans I.ok.bsz I.ok.above)
theorem Inv.stkSub (I : Inv X pins σ H s) : ∀ b ∈ frs X.stack, b ∈ X.env.locals :: X.fs := fun b hb => by
  rcases I.ok.stk with e | ⟨e, hf⟩
  · rw [e] at hb; exact List.mem_cons_of_mem _ hb
  · rw [e] at hb
    unfold frs at hb
    rw [List.filterMap_cons, hf] at hb
    exact hb
theorem Inv.stkFree (I : Inv X pins σ H s) : ∀ b ∈ frs X.stack, H b = none := fun b hb => by
  rcases List.mem_cons.mp (I.stkSub b hb) with e | hb
  · rw [e]; exact I.free
  · obtain ⟨_, o, ho, _⟩ := I.ok.funs.mem hb
    exact I.base.free b o ho (I.ok.frf b hb) fun z => I.ok.exfs b z hb

/-- THE STEP: the untracked objects but the frame and the records at ch are kept (the callers' frames up to slots), the frame's map is kept, the new abstract heap is held -/
theorem Inv.step {g' : Array GenState} {t' : Nat} {d' : Drawn} {ch : List Addr} (I : Inv X pins σ H s)
    (hch : ∀ b ∈ ch, (b ∈ X.ex ∨ X.s₀.heap.objs.size ≤ b) ∧ b ≠ X.env.locals ∧ (∀ x c, X.env.cells.lookup x = some c → c ≠ b) ∧ ∀ p ∈ X.pn ++ pins, p.1 ≠ b)
    (keep : ∀ b o, b ≠ X.env.locals → b ∉ X.fs → b ∉ ch → s.heap.get? b = some o → H b = none → h'.get? b = some o)
    (slot : ∀ b o, b ≠ X.env.locals → b ∈ X.fs → b ∉ ch → s.heap.get? b = some o → H b = none → ∃ sl, h'.get? b = some { o with slots := sl }) (free : ∀ b o, b ∉ ch → s.heap.get? b = some o → H b = none → H' b = none)
    (there : ∀ b o, b ∉ ch → s.heap.get? b = some o → ∃ o', h'.get? b = some o')
    (tups : ∀ b xs, H b = some (.tup xs) → H' b = some (.tup xs)) (frzs : ∀ b o u, H b = some (.frz o u) → H' b = some (.frz o u)) (tbls : ∀ b ps, H b = some (.tbl ps) → ∃ more, H' b = some (.tbl (ps ++ more)))
    (ns : ∀ m, s.heap.Ns X.env.locals m → h'.Ns X.env.locals m) (hok : HOk X.prog X.w H' h') (hg : AllBare g') :
    Inv X pins σ H' { s with heap := h', gens := g', drawn := d', toks := t' } := by
  have neL : ∀ b o, X.s₀.heap.get? b = some o → b ≠ X.env.locals := fun b o e => Nat.ne_of_lt (Nat.lt_of_lt_of_le (Heap.lt_size e) I.ok.above)
  have neC : ∀ b o, X.s₀.heap.get? b = some o → b ∉ X.ex → b ∉ ch := fun b o e hx hb => by
    rcases (hch b hb).1 with z | z
    · exact hx z
    · exact absurd (Nat.lt_of_lt_of_le (Heap.lt_size e) z) (Nat.lt_irrefl _)
  have cellK : ∀ x c, X.env.cells.lookup x = some c → ∀ v, s.heap.IsCell c v → h'.IsCell c v := fun x c e v ⟨o, ho, hd⟩ => by
    have nch : c ∉ ch := fun z => (hch c z).2.2.1 x c e rfl
    by_cases hc : c ∈ X.fs
    · obtain ⟨sl, q⟩ := slot c o (I.cne x c e) hc nch ho (I.freeC x c e)
      exact ⟨_, q, hd⟩
    · exact ⟨o, keep c o (I.cne x c e) hc nch ho (I.freeC x c e), hd⟩
  refine ⟨I.ok, I.os, hg, ⟨fun b o e n hb hx => ?_, fun b o e n hb hx => ?_, fun b o e n hx => ?_, fun b o e hx => ?_, fun b xs e => tups b xs (I.base.tups b xs e), fun b o xs e => frzs b o xs (I.base.frzs b o xs e), fun b ps e => ?_⟩, ?_, fun x c e => ?_, ?_, fun x c e => ?_, fun p hp => ?_, hok, I.len⟩
  · exact keep b o (neL b o e) hb (neC b o e hx) (I.base.keep b o e n hb hx) (I.base.free b o e n hx)
  · obtain ⟨sl, e1⟩ := I.base.slot b o e n hb hx
    obtain ⟨sl', e2⟩ := slot b _ (neL b o e) hb (neC b o e hx) e1 (I.base.free b o e n hx)
    exact ⟨sl', e2⟩
  · obtain ⟨o', e1⟩ := I.base.there b o e hx
    exact free b o' (neC b o e hx) e1 (I.base.free b o e n hx)
  · obtain ⟨o', e1⟩ := I.base.there b o e hx
    exact there b o' (neC b o e hx) e1
  · obtain ⟨m1, e1⟩ := I.base.tbls b ps e
    obtain ⟨m2, e2⟩ := tbls b _ e1
    exact ⟨m1 ++ m2, by rw [e2, Array.append_assoc]⟩
  · obtain ⟨m, hn, hl⟩ := I.loc
    refine ⟨m, ns m hn, fun i x v e1 e2 e3 => ?_⟩
    obtain ⟨u, r, l⟩ := hl i x v e1 e2 e3
    refine ⟨u, r, ?_⟩
    rcases l with l | ⟨k, c, e, z⟩
    · exact .inl l
    · exact .inr ⟨k, c, e, cellK x c e _ z⟩
  · obtain ⟨v, z⟩ := I.cell x c e
    exact ⟨v, cellK x c e v z⟩
  · obtain ⟨m, ⟨o, _, _, ho, _⟩, _⟩ := I.loc
    exact free _ o (fun z => (hch _ z).2.1 rfl) ho I.free
  · obtain ⟨v, o, ho, hd⟩ := I.cell x c e
    exact free c o (fun z => (hch c z).2.2.1 x c e rfl) ho (I.freeC x c e)
  · obtain ⟨e, n, ne, nf, d⟩ := I.pin p hp
    have nch : p.1 ∉ ch := fun z => (hch p.1 z).2.2.2 p hp rfl
    exact ⟨keep p.1 p.2 ne nf nch e n, free p.1 p.2 nch e n, ne, nf, d⟩
/-- .. where the frame's own object is kept too -/
theorem Inv.un {t' : Nat} (I : Inv X pins σ H s) (u : Un X.fs [] H H' s.heap h') (hok : HOk X.prog X.w H' h') : Inv X pins σ H' { s with heap := h', toks := t' } := by
  obtain ⟨m, ⟨o, es, ep, ho, r⟩, _⟩ := id I.loc
  obtain ⟨sl, hL⟩ := u.any ho I.free (by simp)
  exact I.step (g' := s.gens) (d' := s.drawn) (ch := []) (fun _ z => nomatch z) (fun b o _ hb _ e n => u.keep b o e n hb (by simp)) (fun b o _ hb _ e n => u.slot b o e n hb (by simp)) (fun b o _ e n => u.free b o e n (by simp)) (fun b o _ e => u.there b o e (by simp)) u.tups u.frzs u.tbls (fun m' hm => by
    obtain ⟨o', es', ep', ho', r'⟩ := hm
    rw [ho] at ho'; cases ho'
    exact ⟨_, es', ep', hL, r'⟩) hok I.bare
/-- behind a call (or a comprehension's block): the slots of this frame may have changed too, the records at ch may have turned -/
theorem Inv.call {g' : Array GenState} {t' : Nat} {d' : Drawn} {ch : List Addr} (I : Inv X pins σ H s) (u : Un (frs X.stack) ch H H' s.heap h') (hok : HOk X.prog X.w H' h') (hg : AllBare g')
    (hch : ∀ b ∈ ch, (b ∈ X.ex ∨ X.s₀.heap.objs.size ≤ b) ∧ b ≠ X.env.locals ∧ (∀ x c, X.env.cells.lookup x = some c → c ≠ b) ∧ ∀ p ∈ X.pn ++ pins, p.1 ≠ b) :
    Inv X pins σ H' { s with heap := h', gens := g', drawn := d', toks := t' } := by
  obtain ⟨m, ⟨o, es, ep, ho, r⟩, _⟩ := id I.loc
  obtain ⟨sl, hL⟩ := u.any ho I.free fun z => (hch _ z).2.1 rfl
  exact I.step (ch := ch) hch (fun b o hL hb hc e n => u.keep b o e n (fun z => (List.mem_cons.mp (I.stkSub b z)).elim hL hb) hc) (fun b o _ _ hc e n => u.any e n hc) (fun b o hc e n => u.free b o e n hc) (fun b o hc e => u.there b o e hc) u.tups u.frzs u.tbls (fun m' hm => by
    obtain ⟨o', es', ep', ho', r'⟩ := hm
    rw [ho] at ho'; cases ho'
    exact ⟨_, es', ep', hL, r'⟩) hok hg
/-- an untracked record of ours (an iterator) has turned -/
theorem Inv.turned {t' : Nat} {it : Addr} (I : Inv X pins σ H s) (k : ∀ b o, b ≠ it → s.heap.get? b = some o → h'.get? b = some o) (hn : H it = none) (hL : it ≠ X.env.locals)
    (h1 : it ∈ X.ex ∨ X.s₀.heap.objs.size ≤ it) (h2 : ∀ x c, X.env.cells.lookup x = some c → c ≠ it) (h3 : ∀ p ∈ X.pn ++ pins, p.1 ≠ it) : Inv X pins σ H { s with heap := h', toks := t' } := by
  have nit : ∀ b u, H b = some u → b ≠ it := fun b u e z => by rw [z, hn] at e; cases e
  refine I.step (g' := s.gens) (d' := s.drawn) (ch := [it]) (fun b hb => ?_) (fun b o _ _ hc e _ => k b o (fun z => hc (by simp [z])) e) (fun b o _ _ hc e _ => ⟨o.slots, k b o (fun z => hc (by simp [z])) e⟩) (fun _ _ _ _ n => n)
    (fun b o hc e => ⟨o, k b o (fun z => hc (by simp [z])) e⟩) (fun _ _ e => e) (fun _ _ _ e => e) (fun b ps e => ⟨#[], by rw [e]; simp⟩) (fun m hm => ?_) (fun b u e => ?_) I.bare
  · have e : b = it := by simpa using hb
    subst e
    exact ⟨h1, hL, h2, h3⟩
  · obtain ⟨o, es, ep, ho, r⟩ := hm
    exact ⟨o, es, ep, k _ o (Ne.symm hL) ho, r⟩
  · refine (I.hok b u e).stay (fun c v hc q => k c v ?_ q) (fun _ q => q) fun _ _ q => q
    rcases hc with z | z
    · rw [z]; exact nit b u e
    · exact nit c _ z
theorem Inv.tok (I : Inv X pins σ H s) (t : Nat) : Inv X pins σ H { s with toks := t } := I.un (h' := s.heap) (t' := t) Un.refl I.hok
/-- all objects kept -/
theorem Inv.kept {t' : Nat} (I : Inv X pins σ H s) (k : ∀ b u, s.heap.get? b = some u → h'.get? b = some u) : Inv X pins σ H { s with heap := h', toks := t' } := I.un (Un.kept k) (I.hok.kept k)
/-- a new object laid and tracked -/
theorem Inv.laid {a : Addr} {o : HO} {t' : Nat} (I : Inv X pins σ H s) (k : ∀ b u, s.heap.get? b = some u → h'.get? b = some u) (hp : s.heap.objs.size ≤ a) (new : ObjOk X.prog X.w (upd H a o) h' a o) :
    Inv X pins σ (upd H a o) { s with heap := h', toks := t' } := I.un (Un.laid k hp (I.hok.fresh hp)) (I.hok.laid k hp new)
/-- an object written -/
theorem Inv.write {x e : Addr} {o : HO} {t' : Nat} (I : Inv X pins σ H s) (mu : Mut (H x)) (he : e = x ∨ H e = some (.own x)) (k : ∀ b u, b ≠ e → s.heap.get? b = some u → h'.get? b = some u) (heo : ∃ u, h'.get? e = some u)
    (new : ObjOk X.prog X.w (upd H x o) h' x o) : Inv X pins σ (upd H x o) { s with heap := h', toks := t' } := I.un (Un.write mu he k heo) (I.hok.write mu he k heo new)
/-- forgetting slots, pins -/
theorem Inv.weak {σ' : List (Option V)} (I : Inv X pins σ H s) (hl : σ'.length = σ.length) (w : ∀ (i : Nat) v, σ'[i]? = some (some v) → σ[i]? = some (some v)) : Inv X pins σ' H s :=
  ⟨I.ok, I.os, I.bare, I.base, let ⟨m, hn, hl'⟩ := I.loc; ⟨m, hn, fun i x v e1 e2 e3 => hl' i x v e1 (w i v e2) e3⟩, I.cell, I.free, I.freeC, I.pin, I.hok, hl.trans I.len⟩
theorem Inv.pins_of {pins' : List (Addr × Obj)} (I : Inv X pins σ H s) (h : ∀ p ∈ pins', s.heap.get? p.1 = some p.2 ∧ H p.1 = none ∧ p.1 ≠ X.env.locals ∧ p.1 ∉ X.fs ∧ ∀ v, p.2.data ≠ .cell v) : Inv X pins' σ H s :=
  ⟨I.ok, I.os, I.bare, I.base, I.loc, I.cell, I.free, I.freeC, fun p hp => (List.mem_append.mp hp).elim (fun z => I.pin p (List.mem_append_left _ z)) (h p), I.hok, I.len⟩

theorem nodup_ix {N : List Str} (hN : N.Nodup) {i j : Nat} {x : Str} (a : N[i]? = some x) (b : N[j]? = some x) : i = j := by
  obtain ⟨h1, e1⟩ := List.getElem?_eq_some_iff.mp a
  obtain ⟨h2, e2⟩ := List.getElem?_eq_some_iff.mp b
  exact (List.getElem_inj hN).mp (e1.trans e2.symm)

/-- a name is stored; what changed -/
theorem store_ok2 {M : Model} {A : Around} {E : Value → Shared → Prop} {i : Nat} {x : Str} {v : V} {u : Value} {Q : Unit → Shared → Prop} (I : Inv X pins σ H s) (hN : X.N.Nodup) (hi : X.N[i]? = some x) (hx : Loc X.env.scope x) (r : RelV v u)
    (h : ∀ s', Inv X pins (σ.set i (some v)) H s' → (∃ a, Heap.SameBut a s.heap s'.heap ∧ (a = X.env.locals ∨ X.env.cells.lookup x = some a)) → Q () s') (hf : X.fn x = true ∨ X.env.scope.names.lookup x = some .local := by first | exact .inl rfl | exact .inr rfl | assumption) : wpAny M A (storeName X.env x u) Q E s := by
  obtain ⟨m, hn, hl⟩ := id I.loc
  have hcls : (X.env.scope.kind == .class || (X.env.scope.kind == .module && X.env.locals != X.env.globals)) = false := by rw [I.ok.kind]; rfl
  have hiσ : i < σ.length := by rw [I.len]; exact (List.getElem?_eq_some_iff.mp hi).1
  have cne := I.cne
  have tracked : ∀ {a : Addr} {h' : Heap}, (∃ o, s.heap.get? a = some o ∧ H a = none) → Heap.SameBut a s.heap h' → HOk X.prog X.w H h' := fun {a h'} ha hs b ob e => by
    obtain ⟨_, _, hfree⟩ := ha
    refine (I.hok b ob e).stay (fun c w' hc q => (hs.2 c ?_).trans q) (fun _ q => q) fun _ _ q => q
    rintro rfl
    rcases hc with rfl | hc
    · rw [hfree] at e; cases e
    · rw [hfree] at hc; cases hc
  rcases hx with hk | hk
  · refine wpAny_storeName_local hk hn (fun h' hn' hs => ?_) hcls
    obtain ⟨oL, _, _, hoL, _⟩ := id hn
    refine h _ ⟨I.ok, I.os, I.bare, ⟨fun b o e n hb hx => ?_, fun b o e n hb hx => ?_, I.base.free, fun b o e hx => ?_, I.base.tups, I.base.frzs, I.base.tbls⟩, ⟨_, hn', fun j y v' e1 e2 e3 => ?_⟩, fun y c e => ?_, I.free, I.freeC, fun p hp => ?_, tracked ⟨oL, hoL, I.free⟩ hs, by simpa using I.len⟩ ⟨_, hs, .inl rfl⟩
    · exact (hs.2 b (Nat.ne_of_lt (Nat.lt_of_lt_of_le (Heap.lt_size e) I.ok.above))).trans (I.base.keep b o e n hb hx)
    · obtain ⟨sl, e1⟩ := I.base.slot b o e n hb hx
      exact ⟨sl, (hs.2 b (Nat.ne_of_lt (Nat.lt_of_lt_of_le (Heap.lt_size e) I.ok.above))).trans e1⟩
    · obtain ⟨o', e1⟩ := I.base.there b o e hx
      exact ⟨o', (hs.2 b (Nat.ne_of_lt (Nat.lt_of_lt_of_le (Heap.lt_size e) I.ok.above))).trans e1⟩
    · by_cases hj : j = i
      · subst hj
        rw [hi] at e1; cases e1
        rw [List.getElem?_set_self hiσ] at e2
        cases e2
        exact ⟨u, r, .inl ⟨hk, by simp⟩⟩
      · rw [List.getElem?_set_ne (Ne.symm hj)] at e2
        obtain ⟨u', r', q⟩ := hl j y v' e1 e2 e3
        refine ⟨u', r', ?_⟩
        rcases q with ⟨k, e⟩ | ⟨k, c, e, z⟩
        · refine .inl ⟨k, ?_⟩
          have : y ≠ x := fun e => hj (nodup_ix hN e1 (e ▸ hi))
          simp [this, e]
        · exact .inr ⟨k, c, e, z.sameBut hs (cne y c e)⟩
    · obtain ⟨w', z⟩ := I.cell y c e
      exact ⟨w', z.sameBut hs (cne y c e)⟩
    · obtain ⟨e, n, ne, nf, d⟩ := I.pin p hp
      exact ⟨(hs.2 p.1 ne).trans e, n, ne, nf, d⟩
  · have hfn : X.fn x = true := by
      rcases hf with z | z
      · exact z
      · rw [z] at hk; cases hk
    obtain ⟨c, hc⟩ := I.ok.has x (.inl hk)
    obtain ⟨w', z⟩ := I.cell x c hc
    refine wpAny_storeName_cell I.ok.kind hk hc z (fun h' hc' hs => ?_)
    obtain ⟨oc, hoc, hocd⟩ := id z
    refine h { s with heap := h' } ⟨I.ok, I.os, I.bare, ⟨fun b o e n hb hx => ?_, fun b o e n hb hx => ?_, I.base.free, fun b o e hx => ?_, I.base.tups, I.base.frzs, I.base.tbls⟩, ⟨m, hn.sameBut hs (Ne.symm (cne x c hc)), fun j y v' e1 e2 e3 => ?_⟩, fun y c' e => ?_, I.free, I.freeC, fun p hp => ?_, tracked ⟨oc, hoc, I.freeC x c hc⟩ hs, by simpa using I.len⟩ ⟨c, hs, .inr hc⟩
    · exact (hs.2 b (Nat.ne_of_lt (Nat.lt_of_lt_of_le (Heap.lt_size e) (I.ok.cab x c hfn hc)))).trans (I.base.keep b o e n hb hx)
    · obtain ⟨sl, e1⟩ := I.base.slot b o e n hb hx
      exact ⟨sl, (hs.2 b (Nat.ne_of_lt (Nat.lt_of_lt_of_le (Heap.lt_size e) (I.ok.cab x c hfn hc)))).trans e1⟩
    · obtain ⟨o', e1⟩ := I.base.there b o e hx
      exact ⟨o', (hs.2 b (Nat.ne_of_lt (Nat.lt_of_lt_of_le (Heap.lt_size e) (I.ok.cab x c hfn hc)))).trans e1⟩
    · by_cases hj : j = i
      · subst hj
        rw [hi] at e1; cases e1
        rw [List.getElem?_set_self hiσ] at e2
        cases e2
        exact ⟨u, r, .inr ⟨.inl hk, c, hc, hc'⟩⟩
      · rw [List.getElem?_set_ne (Ne.symm hj)] at e2
        obtain ⟨u', r', q⟩ := hl j y v' e1 e2 e3
        refine ⟨u', r', ?_⟩
        rcases q with q | ⟨k, c', e, z'⟩
        · exact .inl q
        · refine .inr ⟨k, c', e, z'.sameBut hs ?_⟩
          rintro rfl
          exact hj (nodup_ix hN e1 (I.ok.inj _ _ _ e hc ▸ hi))
    · by_cases hcc : c' = c
      · subst hcc; exact ⟨_, hc'⟩
      · obtain ⟨w2, z2⟩ := I.cell y c' e
        exact ⟨w2, z2.sameBut hs hcc⟩
    · obtain ⟨e, n, ne, nf, d⟩ := I.pin p hp
      refine ⟨(hs.2 p.1 ?_).trans e, n, ne, nf, d⟩
      intro q
      rw [q, hoc] at e
      have q' : oc = p.2 := Option.some.inj e
      exact d w' (by rw [← q']; exact hocd)
theorem store_ok {M : Model} {A : Around} {E : Value → Shared → Prop} {i : Nat} {x : Str} {v : V} {u : Value} {Q : Unit → Shared → Prop} (I : Inv X pins σ H s) (hN : X.N.Nodup) (hi : X.N[i]? = some x) (hx : Loc X.env.scope x) (r : RelV v u)
    (h : ∀ s', Inv X pins (σ.set i (some v)) H s' → Q () s') (hf : X.fn x = true ∨ X.env.scope.names.lookup x = some .local := by first | exact .inl rfl | exact .inr rfl | assumption) : wpAny M A (storeName X.env x u) Q E s :=
  store_ok2 I hN hi hx r (fun s' I' _ => h s' I') hf
/-- behind a call or a block, the state as it is -/
theorem Inv.call' {s' : Shared} {ch : List Addr} (I : Inv X pins σ H s) (ho : s'.os = s.os) (u : Un (frs X.stack) ch H H' s.heap s'.heap) (hok : HOk X.prog X.w H' s'.heap) (hg : AllBare s'.gens)
    (hch : ∀ b ∈ ch, (b ∈ X.ex ∨ X.s₀.heap.objs.size ≤ b) ∧ b ≠ X.env.locals ∧ (∀ x c, X.env.cells.lookup x = some c → c ≠ b) ∧ ∀ p ∈ X.pn ++ pins, p.1 ≠ b) : Inv X pins σ H' s' := by
  obtain ⟨h', g', d', t', o'⟩ := s'
  have e : o' = s.os := ho
  subst e
  exact I.call (g' := g') (t' := t') (d' := d') u hok hg hch
end

/-! ### the judgements -/
/-- an exception: its class, its own dict's address (where it has one), the abstract heap behind it -/
abbrev XK := Value → Option Addr → Hp → Prop
abbrev St := List (Option V)
abbrev VK := V → Hp → Prop
/-- an expression's reading; a test's; an argument list's -/
abbrev TE := St → Hp → VK → Prop
abbrev TT := St → Hp → (Bool → Hp → Prop) → Prop
abbrev TA := St → Hp → (List V → Hp → Prop) → Prop
/-- what is wanted behind a statement -/
structure Ends where
  nx : St → Hp → Prop
  rt : VK
  bk : St → Hp → Prop := fun _ _ => False
  ct : St → Hp → Prop := fun _ _ => False
abbrev TS := Ends → St → Hp → Prop

def EP (X : Cx) (pins : List (Addr × Obj)) (σ : St) (Q : VK) (u : Value) (s' : Shared) : Prop := ∃ v H', Inv X pins σ H' s' ∧ RelV v u ∧ Q v H'
def TP (X : Cx) (pins : List (Addr × Obj)) (σ : St) (Q : Bool → Hp → Prop) (b : Bool) (s' : Shared) : Prop := ∃ H', Inv X pins σ H' s' ∧ Q b H'
def AP (X : Cx) (pins : List (Addr × Obj)) (σ : St) (Q : List V → Hp → Prop) (us : List Value) (s' : Shared) : Prop := ∃ vs H', Inv X pins σ H' s' ∧ Vals vs us ∧ Q vs H'
def SP (X : Cx) (pins : List (Addr × Obj)) (D : Ends) (f : Flow) (s' : Shared) : Prop :=
  match f with
  | .next => ∃ σ' H', Inv X pins σ' H' s' ∧ D.nx σ' H'
  | .brk => ∃ σ' H', Inv X pins σ' H' s' ∧ D.bk σ' H'
  | .cont => ∃ σ' H', Inv X pins σ' H' s' ∧ D.ct σ' H'
  | .ret u => ∃ v σ' H', Inv X pins σ' H' s' ∧ RelV v u ∧ D.rt v H'

def PE (X : Cx) (e : Expr) (t : TE) : Prop :=
  ∀ (pins : List (Addr × Obj)) (s : Shared) (σ : St) (H : Hp) (Q : VK), Inv X pins σ H s → t σ H Q → wpAny (model X.prog X.w) X.A (eval e X.env) (EP X pins σ Q) X.xe s
def PT (X : Cx) (e : Expr) (t : TT) : Prop :=
  ∀ (pins : List (Addr × Obj)) (s : Shared) (σ : St) (H : Hp) (Q : Bool → Hp → Prop), Inv X pins σ H s → t σ H Q → wpAny (model X.prog X.w) X.A (isTrue e X.env (eval e X.env)) (TP X pins σ Q) X.xe s
/-- a test whatever its 'whole' is (and, or) -/
def PW (X : Cx) (e : Expr) (t : TT) : Prop :=
  ∀ (whole : Sem Value) (pins : List (Addr × Obj)) (s : Shared) (σ : St) (H : Hp) (Q : Bool → Hp → Prop), Inv X pins σ H s → t σ H Q → wpAny (model X.prog X.w) X.A (isTrue e X.env whole) (TP X pins σ Q) X.xe s
theorem PW.pt {X : Cx} {e : Expr} {t : TT} (h : PW X e t) : PT X e t := h _
/-- an argument list (no star), from the left -/
def PA (X : Cx) (es : List Expr) (t : TA) : Prop :=
  ∀ (pos : Pos) (pins : List (Addr × Obj)) (s : Shared) (σ : St) (H : Hp) (Q : List V → Hp → Prop), Inv X pins σ H s → t σ H Q → wpAny (model X.prog X.w) X.A (spliced (backTo pos (starEach es X.env))) (AP X pins σ Q) X.xe s
def PS (X : Cx) (st : Stmt) (t : TS) : Prop :=
  ∀ (pins : List (Addr × Obj)) (s : Shared) (σ : St) (H : Hp) (D : Ends), Inv X pins σ H s → t D σ H → wpAny (model X.prog X.w) X.A (exec st X.env) (SP X pins D) X.xe s
def PSs (X : Cx) (st : List Stmt) (t : TS) : Prop :=
  ∀ (pins : List (Addr × Obj)) (s : Shared) (σ : St) (H : Hp) (D : Ends), Inv X pins σ H s → t D σ H → wpAny (model X.prog X.w) X.A (execs st X.env) (SP X pins D) X.xe s
/-- weaken the end -/
theorem thn {α : Type} {t : Sem α} {Q Q' : α → Shared → Prop} {M : Model} {A : Around} {E : Value → Shared → Prop} {s : Shared} (h : wpAny M A t Q E s) (hQ : ∀ a s, Q a s → Q' a s) : wpAny M A t Q' E s := wpAny_mono h hQ fun _ _ x => x
end L2

namespace L2
open PySem PySem.Spec PyProof.Rows
section
variable {X : Cx}


/-! ### names and constants -/
def tVar (i : Nat) : TE := fun σ H Q => ∃ v, σ[i]? = some (some v) ∧ Q v H
def tC (v : V) : TE := fun _ H Q => Q v H
theorem pe_var {i : Nat} {x : Str} {pos : Pos} (hN : X.N[i]? = some x) (hv : Vis X.env.scope x) (hd : (x == ("__debug__" : Str)) = false := by decide) (hcd : (x == ("__classdict__" : Str)) = false := by decide) : PE X (.Name x pos) (tVar i) := by
  intro pins s σ H Q I h
  obtain ⟨v, e, h⟩ := h
  obtain ⟨m, hn, hl⟩ := I.loc
  obtain ⟨u, r, l⟩ := hl i x v hN e hv
  have fin : EP X pins σ Q u s := ⟨v, H, I, r, h⟩
  rcases l with ⟨hk, hm⟩ | ⟨hk, c, hc, hcell⟩
  · exact wpAny_Name (wpAny_loadName_local I.ok.kind hk hn hm fin) hd
  · rcases hk with hk | hk
    · exact wpAny_Name (wpAny_loadName_cell I.ok.kind hk hc hcell fin) hd
    · exact wpAny_Name (wpAny_loadName_free I.ok.kind hk hc hcell fin hcd) hd
theorem pe_int {i j pos} : PE X (.Constant (.int i) j pos) (tC (.int i)) := fun _ _ _ H _ I h => wpAny_Constant_int ⟨.int i, H, I.tok _, ⟨_, rfl⟩, h⟩
theorem pe_bl {b j pos} : PE X (.Constant (.bool b) j pos) (tC (.bl b)) := fun _ _ _ H _ I h => Constant_bool ⟨.bl b, H, I, rfl, h⟩
theorem pe_str {x j pos} : PE X (.Constant (.str x) j pos) (tC (.str x)) := fun _ _ _ H _ I h => Calls.Constant_str ⟨.str x, H, I.tok _, ⟨_, rfl⟩, h⟩

/-- a global name of the def -/
def Gl (X : Cx) (x : Str) : Prop := X.env.kindOf x = some .globalImplicit
theorem ld_glob {E : Value → Shared → Prop} {pins : List (Addr × Obj)} {s : Shared} {σ : St} {H : Hp} {x : Str} {u : Value} {pos : Pos} {Q : Value → Shared → Prop} (I : Inv X pins σ H s) (hg : Gl X x) (hm : X.mg x = some u) (h : Q u s)
    (hd : (x == ("__debug__" : Str)) = false := by decide) : wpAny (model X.prog X.w) X.A (eval (.Name x pos) X.env) Q E s :=
  Calls.Name_function_global I.ok.kind hg (Calls.loadGlobal_global (by rw [I.ok.glob]; exact I.mod.glob.keeps I.bk) hm h) hd
theorem ld_blt {E : Value → Shared → Prop} {pins : List (Addr × Obj)} {s : Shared} {σ : St} {H : Hp} {x : Str} {u : Value} {pos : Pos} {Q : Value → Shared → Prop} (I : Inv X pins σ H s) (hg : Gl X x) (hm : X.mg x = none) (hv : bootBuiltins x = some u) (h : Q u s)
    (hn : x ≠ "__name__" := by decide) (hd : (x == ("__debug__" : Str)) = false := by decide) : wpAny (model X.prog X.w) X.A (eval (.Name x pos) X.env) Q E s := by
  obtain ⟨mb, h1, h2⟩ := I.mod.blt
  exact Calls.Name_function_global I.ok.kind hg (Calls.loadGlobal_builtin (by rw [I.ok.glob]; exact I.mod.glob.keeps I.bk) hm (by rw [I.ok.blt]; exact h1.keeps I.bk) ((h2 x hn).trans hv) h) hd
/-- a module's constant, a class, a function, as a value -/
theorem pe_glob {x : Str} {v : V} {u : Value} {pos : Pos} (hg : Gl X x) (hm : X.mg x = some u) (r : RelV v u) (hd : (x == ("__debug__" : Str)) = false := by decide) : PE X (.Name x pos) (tC v) :=
  fun _ _ _ H _ I h => ld_glob I hg hm ⟨v, H, I, r, h⟩ hd
theorem pe_bltn {x : Str} {v : V} {u : Value} {pos : Pos} (hg : Gl X x) (hm : X.mg x = none) (hv : bootBuiltins x = some u) (r : RelV v u) (hn : x ≠ "__name__" := by decide) (hd : (x == ("__debug__" : Str)) = false := by decide) : PE X (.Name x pos) (tC v) :=
  fun _ _ _ H _ I h => ld_blt I hg hm hv ⟨v, H, I, r, h⟩ hn hd

/-! ### arithmetic -/
/-- two ints -/
def t2I (ta tb : TE) (k : Int → Int → Hp → Prop) : St → Hp → Prop := fun σ H => ta σ H fun x H1 => tb σ H1 fun y H2 => ∃ i j, x = .int i ∧ y = .int j ∧ k i j H2
def tAdd (ta tb : TE) : TE := fun σ H Q => t2I ta tb (fun i j H2 => Q (.int (i + j)) H2) σ H
def tSub (ta tb : TE) : TE := fun σ H Q => t2I ta tb (fun i j H2 => Q (.int (i - j)) H2) σ H
/-- the left factor below 2^64 -/
def tMul (ta tb : TE) : TE := fun σ H Q => t2I ta tb (fun i j H2 => (-(2 ^ 64) < i ∧ i < 2 ^ 64) ∧ Q (.int (i * j)) H2) σ H
variable {a b : Expr} {ta tb : TE} {pos : Pos}

/-! ### comparisons -/
def PC (X : Cx) (op : CmpOp) (a b : Expr) (t : TE) : Prop :=
  ∀ (pins : List (Addr × Obj)) (s : Shared) (σ : St) (H : Hp) (Q : VK), Inv X pins σ H s → t σ H Q →
    wpAny (model X.prog X.w) X.A (eval a X.env) (fun v s₁ => wpAny (model X.prog X.w) X.A (eval b X.env) (fun u s₂ => wpAny (model X.prog X.w) X.A (compareOp op v u) (EP X pins σ Q) X.xe s₂) X.xe s₁) X.xe s
def tCmp (p : Int → Int → Bool) (ta tb : TE) : TE := fun σ H Q => t2I ta tb (fun i j H2 => Q (.bl (p i j)) H2) σ H
abbrev tLt : TE → TE → TE := tCmp fun i j => decide (i < j)
abbrev tLe : TE → TE → TE := tCmp fun i j => decide (i ≤ j)
abbrev tGt : TE → TE → TE := tCmp fun i j => decide (j < i)
abbrev tGe : TE → TE → TE := tCmp fun i j => decide (j ≤ i)
abbrev tEqI : TE → TE → TE := tCmp fun i j => decide (i = j)
abbrev tNeI : TE → TE → TE := tCmp fun i j => !decide (i = j)
/-- is None -/
def tIsN (ta : TE) : TE := fun σ H Q => ta σ H fun x H1 => Q (.bl (decide (x = .non))) H1
def tNotN (ta : TE) : TE := fun σ H Q => ta σ H fun x H1 => Q (.bl (!decide (x = .non))) H1
/-- a comparison as a value, as a test -/
def tB (t : TE) : TT := fun σ H Q => t σ H fun x H1 => ∃ c, x = .bl c ∧ Q c H1
/-- an expression whose value is a bool, as a test -/
theorem pt_val {e : Expr} {t : TE} (h : PE X e t) (he : ∀ whole, isTrue e X.env whole = (do let v ← whole; standAt e.pos; holding [v] (truthy v)) := by intro _; rfl) : PT X e (tB t) := by
  intro pins s σ H Q I hw
  refine isTrue_plain (thn (h pins s σ H _ I hw) fun v s1 ⟨x, H1, I1, r1, q1⟩ => ?_) (he _)
  obtain ⟨d, rfl, q⟩ := q1
  cases r1
  exact wpAny_truthy_bool ⟨H1, I1, q⟩

/-! ### and, or, not -/
variable {tA tB' : TT} {rest : List Expr}
def tAnd (t u : TT) : TT := fun σ H Q => t σ H fun c H1 => if c = true then u σ H1 Q else Q false H1
def tOr (t u : TT) : TT := fun σ H Q => t σ H fun c H1 => if c = true then Q true H1 else u σ H1 Q
def tNot (t : TT) : TT := fun σ H Q => t σ H fun c H1 => Q (!c) H1
theorem pw_or1 (ha : PT X a tA) : PW X (.BoolOp .Or [a] pos) tA := by
  intro wh pins s σ H Q I h
  refine isTrue_or (thn (ha pins s σ H Q I h) fun c s1 e => ?_)
  cases c with
  | false => exact isTrue_or_nil e
  | true => exact e
theorem pw_or (ha : PT X a tA) (hb : PW X (.BoolOp .Or (b :: rest) pos) tB') : PW X (.BoolOp .Or (a :: b :: rest) pos) (tOr tA tB') := by
  intro wh pins s σ H Q I h
  refine isTrue_or (thn (ha pins s σ H _ I h) fun c s1 ⟨H1, I1, q1⟩ => ?_)
  cases c with
  | true => exact ⟨H1, I1, q1⟩
  | false => exact hb wh pins s1 σ H1 Q I1 q1
theorem pt_not (ha : PT X a tA) : PT X (.UnaryOp .Not a pos) (tNot tA) := by
  intro pins s σ H Q I h
  exact isTrue_not (ha pins s σ H (fun c H1 => Q (!c) H1) I h)
/-- .. as values (bools) -/
def tAndV (ta tb : TE) : TE := fun σ H Q => ta σ H fun x H1 => ∃ c, x = .bl c ∧ if c = true then tb σ H1 Q else Q (.bl false) H1
def tOrV (ta tb : TE) : TE := fun σ H Q => ta σ H fun x H1 => ∃ c, x = .bl c ∧ if c = true then Q (.bl true) H1 else tb σ H1 Q
def tNotV (ta : TE) : TE := fun σ H Q => ta σ H fun x H1 => ∃ c, x = .bl c ∧ Q (.bl (!c)) H1
theorem pe_one {op} {t : TE} (h : PE X a t) : PE X (.BoolOp op [a] pos) t := fun pins s σ H Q I hw => BoolOp_one (h pins s σ H Q I hw)
theorem pe_and (ha : PE X a ta) (hb : PE X (.BoolOp .And (b :: rest) pos) tb) : PE X (.BoolOp .And (a :: b :: rest) pos) (tAndV ta tb) := by
  intro pins s σ H Q I h
  refine BoolOp_and (thn (ha pins s σ H _ I h) fun v s1 ⟨x, H1, I1, r1, q1⟩ => ?_)
  obtain ⟨c, rfl, q1⟩ := q1
  cases r1
  refine wpAny_truthy_bool ?_
  cases c with
  | true => exact hb pins s1 σ H1 Q I1 q1
  | false => exact ⟨.bl false, H1, I1, rfl, q1⟩
/-- a if t else b -/
def tIf (t : TT) (ta tb : TE) : TE := fun σ H Q => t σ H fun c H1 => if c = true then ta σ H1 Q else tb σ H1 Q
end
end L2

namespace L2
open PySem PySem.Spec PyProof.Rows

/-! ### a list, a tuple that is read: tracked, frozen, or an object of the module -/
def SqL (K : PySem.W.Frag) (H : Hp) (a : Addr) (xs : List V) : Prop :=
  Rd H a (.lst xs) ∨
    ∃ (o : Obj) (its : Array Value) (n : Nat), K.lookup a = some o ∧ o.cls = .type "list" ∧ o.dict = none ∧ o.data = .seq its n ∧ its.size ≤ sizeLine ∧ Vals xs its.toList
def SqT (K : PySem.W.Frag) (H : Hp) (a : Addr) (xs : List V) : Prop :=
  Rd H a (.tup xs) ∨
    ∃ (o : Obj) (its : Array Value) (n : Nat), K.lookup a = some o ∧ o.cls = .type "tuple" ∧ o.data = .seq its n ∧ its.size ≤ sizeLine ∧ Vals xs its.toList
def absV : Value → Option V
  | .none => some .non
  | .bool b => some (.bl b)
  | .int i _ => some (.int i)
  | .str x _ => some (.str x)
  | .bytes b _ => some (.byt b)
  | .float b _ => some (.flt b)
  | .ref a => some (.ref a)
  | .type n => some (.ty n)
  | _ => none
section
variable {X : Cx} {pins : List (Addr × Obj)} {σ : St} {H : Hp} {s : Shared} {a : Addr} {xs ys : List V}
theorem SqL.of {K : PySem.W.Frag} (h : H a = some (.lst xs)) : SqL K H a xs := .inl (.inl h)
theorem Inv.list (I : Inv X pins σ H s) (h : SqL X.K H a xs) : ∃ its : List Value, Vals xs its ∧ PlainL s.heap a its.toArray ∧ xs.length ≤ sizeLine := by
  rcases h with h | ⟨o, its, n, hk, hc, hd, hs, hz, r⟩
  · obtain ⟨z, its, n, r, e⟩ := h.ok I.hok
    exact ⟨its, r, ⟨_, n, e, rfl, rfl, rfl⟩, z⟩
  · refine ⟨its.toList, r, ⟨o, n, I.kIn a o hk, hc, hd, by simpa using hs⟩, ?_⟩
    have e := r.length
    simp only [Array.length_toList] at e
    omega
theorem Inv.tuple (I : Inv X pins σ H s) (h : SqT X.K H a xs) : ∃ its : List Value, Vals xs its ∧ IsTup s.heap a its.toArray ∧ xs.length ≤ sizeLine := by
  rcases h with h | ⟨o, its, n, hk, hc, hs, hz, r⟩
  · obtain ⟨z, its, r, p⟩ := h.ok I.hok
    exact ⟨its, r, p, z⟩
  · refine ⟨its.toList, r, ⟨o, I.kIn a o hk, hc, n, by simpa using hs⟩, ?_⟩
    have e := r.length
    simp only [Array.length_toList] at e
    omega
end

/-! ### another wish about exceptions -/
abbrev Cx.wish (X : Cx) (E : Value → Shared → Prop) : Cx := { X with xe := E }
/-- no exception leaves -/
abbrev Cx.nox (X : Cx) : Cx := X.wish fun _ _ => False
theorem Cx.Ok.wish {X : Cx} (ok : X.Ok) (E : Value → Shared → Prop) : (X.wish E).Ok :=
  ⟨ok.mod, ok.kind, ok.glob, ok.blt, ok.above, ok.inj, ok.has, ok.cab, ok.hd, ok.frames, ok.stk, ok.exf, ok.bs, ok.bsz, ok.noex, ok.exfs, ok.funs, ok.frf⟩
theorem Cx.Ok.unwish {X : Cx} {E : Value → Shared → Prop} (ok : (X.wish E).Ok) : X.Ok :=
  ⟨ok.mod, ok.kind, ok.glob, ok.blt, ok.above, ok.inj, ok.has, ok.cab, ok.hd, ok.frames, ok.stk, ok.exf, ok.bs, ok.bsz, ok.noex, ok.exfs, ok.funs, ok.frf⟩
section
variable {X : Cx} {pins : List (Addr × Obj)} {σ : St} {H : Hp} {s : Shared} {E : Value → Shared → Prop}
theorem Inv.wish (I : Inv X pins σ H s) (E : Value → Shared → Prop) : Inv (X.wish E) pins σ H s := ⟨I.ok.wish E, I.os, I.bare, I.base, I.loc, I.cell, I.free, I.freeC, I.pin, I.hok, I.len⟩
theorem Inv.unwish (I : Inv (X.wish E) pins σ H s) : Inv X pins σ H s := ⟨I.ok.unwish, I.os, I.bare, I.base, I.loc, I.cell, I.free, I.freeC, I.pin, I.hok, I.len⟩
theorem SP.unwish {D : Ends} {f : Flow} {s' : Shared} (h : SP (X.wish E) pins D f s') : SP X pins D f s' := by
  cases f with
  | next => obtain ⟨σ', H', I, q⟩ := h; exact ⟨σ', H', I.unwish, q⟩
  | brk => obtain ⟨σ', H', I, q⟩ := h; exact ⟨σ', H', I.unwish, q⟩
  | cont => obtain ⟨σ', H', I, q⟩ := h; exact ⟨σ', H', I.unwish, q⟩
  | ret u => obtain ⟨v, σ', H', I, r, q⟩ := h; exact ⟨v, σ', H', I.unwish, r, q⟩
theorem PSs.nox {st : List Stmt} {t : TS} (h : PSs X.nox st t) : PSs X st t := fun pins s σ H D I hw =>
  wpAny_mono (h pins s σ H D (I.wish _) hw) (fun _ _ q => q.unwish) fun _ _ z => False.elim z
end

/-! ### blocks and small statements -/
section
variable {X : Cx} {st : Stmt} {rest : List Stmt} {t u : TS} {e : Expr} {te : TE} {pos : Pos}
def tNext : TS := fun D σ H => D.nx σ H
def tSeq (t u : TS) : TS := fun D σ H => t { D with nx := u D } σ H
theorem pss_nil : PSs X [] tNext := fun _ _ σ H _ I h => wpAny_execs_nil ⟨σ, H, I, h⟩
theorem pss_cons (h1 : PS X st t) (h2 : PSs X rest u) : PSs X (st :: rest) (tSeq t u) := by
  intro pins s σ H D I h
  refine wpAny_execs_cons (thn (h1 pins s σ H { D with nx := u D } I h) fun f s1 q => ?_)
  cases f with
  | next =>
    obtain ⟨σ', H', I', q⟩ := q
    exact h2 pins s1 σ' H' D I' q
  | ret v => exact q
  | brk => exact q
  | cont => exact q
theorem pss_one (h1 : PS X st t) : PSs X [st] t := by
  intro pins s σ H D I h
  refine wpAny_execs_cons (thn (h1 pins s σ H D I h) fun f s1 q => ?_)
  cases f with
  | next => exact wpAny_execs_nil q
  | ret v => exact q
  | brk => exact q
  | cont => exact q
def tBreak : TS := fun D σ H => D.bk σ H
def tCont : TS := fun D σ H => D.ct σ H
/-- in a def's body nothing is shown -/
theorem Inv.quiet {pins : List (Addr × Obj)} {σ : St} {H : Hp} {s : Shared} (I : Inv X pins σ H s) : interactive X.env = false := by simp [interactive, I.ok.kind]
/-- an expression whose value is dropped -/
def tDrop (te : TE) : TS := fun D σ H => te σ H fun _ H1 => D.nx σ H1
theorem ps_expr (he : PE X e te) (hs : swapsWith e none pos.line X.env = pure false := by rfl) : PS X (.Expr e pos) (tDrop te) := by
  intro pins s σ H D I h
  exact wpAny_Expr_any (thn (he pins s σ H _ I h) fun v s1 ⟨x, H1, I1, r1, q1⟩ => ⟨σ, H1, I1, q1⟩) I.quiet hs
def tRet (te : TE) : TS := fun D σ H => te σ H D.rt
theorem ps_ret (he : PE X e te) : PS X (.Return (some e) pos) (tRet te) := by
  intro pins s σ H D I h
  exact wpAny_Return_some (thn (he pins s σ H _ I h) fun v s1 ⟨x, H1, I1, r1, q1⟩ => ⟨x, σ, H1, I1, r1, q1⟩)
def tRetN : TS := fun D _ H => D.rt .non H
def tIfS (c : TT) (t u : TS) : TS := fun D σ H => c σ H fun b H1 => if b = true then t D σ H1 else u D σ H1
theorem ps_if {c : Expr} {a b : List Stmt} {tc : TT} (hc : PT X c tc) (ha : PSs X a t) (hb : PSs X b u) : PS X (.If c a b pos) (tIfS tc t u) := by
  intro pins s σ H D I h
  refine wpAny_If (thn (hc pins s σ H _ I h) fun d s1 ⟨H1, I1, q1⟩ => ?_)
  cases d with
  | true => exact ha pins s1 σ H1 D I1 q1
  | false => exact hb pins s1 σ H1 D I1 q1
/-- code that the proof never comes to -/
def tNever : TS := fun _ _ _ => False
theorem pss_never {sts : List Stmt} : PSs X sts tNever := fun _ _ _ _ _ _ h => h.elim
end

/-! ### targets -/
abbrev TG := V → St → Hp → (St → Hp → Prop) → Prop
abbrev TGs := List V → St → Hp → (St → Hp → Prop) → Prop
def PG (X : Cx) (target : Expr) (t : TG) : Prop :=
  ∀ (pins : List (Addr × Obj)) (s : Shared) (σ : St) (H : Hp) (v : V) (u : Value) (Q : St → Hp → Prop), Inv X pins σ H s → RelV v u → t v σ H Q →
    wpAny (model X.prog X.w) X.A (assign target X.env u) (fun _ s' => ∃ σ' H', Inv X pins σ' H' s' ∧ Q σ' H') X.xe s
/-- several targets, one after another -/
def PGs (X : Cx) (ts : List Expr) (t : TGs) : Prop :=
  ∀ (pins : List (Addr × Obj)) (s : Shared) (σ : St) (H : Hp) (vs : List V) (us : List Value) (Q : St → Hp → Prop), Inv X pins σ H s → Vals vs us → t vs σ H Q →
    wpAny (model X.prog X.w) X.A (assignInOrder ((assignEach ts X.env).map (·.2)) us) (fun _ s' => ∃ σ' H', Inv X pins σ' H' s' ∧ Q σ' H') X.xe s
/-- o[i] = v, by values -/
abbrev TSet := V → V → V → Hp → (Hp → Prop) → Prop
def PSet (X : Cx) (t : TSet) : Prop :=
  ∀ (pins : List (Addr × Obj)) (s : Shared) (σ : St) (H : Hp) (o i v : V) (ov iv u : Value) (Q : Hp → Prop), Inv X pins σ H s → RelV o ov → RelV i iv → RelV v u → t o i v H Q →
    wpAny (model X.prog X.w) X.A (setItem ov iv u) (fun _ s' => ∃ H', Inv X pins σ H' s' ∧ Q H') X.xe s
/-- a op= b, by values -/
abbrev TIp := V → V → Hp → VK → Prop
def PIp (X : Cx) (op : Operator) (t : TIp) : Prop :=
  ∀ (pins : List (Addr × Obj)) (s : Shared) (σ : St) (H : Hp) (x y : V) (v u : Value) (Q : VK), Inv X pins σ H s → RelV x v → RelV y u → t x y H Q →
    wpAny (model X.prog X.w) X.A (inplaceOp op v u) (EP X pins σ Q) X.xe s
section
variable {X : Cx} {pos : Pos}
def gName (i : Nat) : TG := fun v σ H Q => Q (σ.set i (some v)) H
theorem pg_name {i : Nat} {x : Str} (hN : X.N.Nodup) (hi : X.N[i]? = some x) (hx : Loc X.env.scope x) (hf : X.fn x = true ∨ X.env.scope.names.lookup x = some .local := by first | exact .inl rfl | exact .inr rfl | assumption) : PG X (.Name x pos) (gName i) := by
  intro pins s σ H v u Q I r h
  exact wpAny_assign_Name (store_ok I hN hi hx r (fun s' I' => ⟨_, H, I', h⟩) hf)
def gNil : TGs := fun vs σ H Q => vs = [] ∧ Q σ H
def gCons (t : TG) (u : TGs) : TGs := fun vs σ H Q => ∃ v r, vs = v :: r ∧ t v σ H fun σ' H' => u r σ' H' Q
/-- (a, b, ..) = a tuple of that length -/
def gTup (K : PySem.W.Frag) (n : Nat) (t : TGs) : TG := fun v σ H Q => ∃ a xs, v = .ref a ∧ SqT K H a xs ∧ xs.length = n ∧ t xs σ H Q
/-- o[i] = .. -/
def gSub (to ti : TE) (t : TSet) : TG := fun v σ H Q => to σ H fun o H1 => ti σ H1 fun i H2 => t o i v H2 fun H3 => Q σ H3
/-- target = value -/
def tAsg (te : TE) (g : TG) : TS := fun D σ H => te σ H fun x H1 => g x σ H1 D.nx
/-- name = value -/
theorem ps_set {i : Nat} {x : Str} {e : Expr} {te : TE} {pos' : Pos} (hN : X.N.Nodup) (hi : X.N[i]? = some x) (hx : Loc X.env.scope x) (he : PE X e te) (hs : swapsWith e (some (.Name x pos')) pos.line X.env = pure false := by rfl) (hf : X.fn x = true ∨ X.env.scope.names.lookup x = some .local := by first | exact .inl rfl | exact .inr rfl | assumption) :
    PS X (.Assign [.Name x pos'] e pos) (tAsg te (gName i)) := by
  intro pins s σ H D I h
  refine wpAny_Assign_Name (thn (he pins s σ H _ I h) fun v s1 ⟨y, H1, I1, r1, q1⟩ => ?_) hs
  exact store_ok I1 hN hi hx r1 (fun s2 I2 => ⟨_, H1, I2, q1⟩) hf
/-- a, b = x, y with plain local names: stored from the right; the pair itself is not tracked (the opening rows as in PyProof/Rows/TupAssign.lean:23) -/
def tPar (i j : Nat) (ta : TA) : TS := fun D σ H => ta σ H fun vs H1 => ∃ v w, vs = [v, w] ∧ D.nx ((σ.set i (some v)).set j (some w)) H1
/-- name op= e -/
def tAug (i : Nat) (te : TE) (ti : TIp) : TS := fun D σ H => ∃ x, σ[i]? = some (some x) ∧ te σ H fun y H1 => ti x y H1 fun z H2 => D.nx (σ.set i (some z)) H2
/-- o[i] op= e -/
def tAugS (to ti te : TE) (tget : V → V → Hp → VK → Prop) (tip : TIp) (tset : TSet) : TS := fun D σ H => to σ H fun o H1 => ti σ H1 fun i H2 => tget o i H2 fun x H3 => te σ H3 fun y H4 => tip x y H4 fun z H5 => tset o i z H5 fun H6 => D.nx σ H6
/-- o[i], by values -/
def PGet (X : Cx) (t : V → V → Hp → VK → Prop) : Prop :=
  ∀ (pins : List (Addr × Obj)) (s : Shared) (σ : St) (H : Hp) (o i : V) (ov iv : Value) (Q : VK), Inv X pins σ H s → RelV o ov → RelV i iv → t o i H Q →
    wpAny (model X.prog X.w) X.A (getItem ov iv) (EP X pins σ Q) X.xe s
/-- ints -/
def ipI (f : Int → Int → Int) : TIp := fun x y H Q => ∃ i j, x = .int i ∧ y = .int j ∧ Q (.int (f i j)) H
end

/-! ### while -/
section
variable {X : Cx} {pos : Pos}
/-- the invariant W with its measure -/
def tWhile (c : TT) (tb : TS) : TS := fun D σ H => ∃ W : Nat → St → Hp → Prop, (∃ m, W m σ H) ∧ ∀ m σ H, W m σ H →
  c σ H fun b H1 => if b = true then ∃ N : St → Hp → Prop, (∀ σ' H', N σ' H' → ∃ m', m' < m ∧ W m' σ' H') ∧ tb { D with nx := N, ct := N, bk := D.nx } σ H1 else D.nx σ H1
theorem ps_while {c : Expr} {body : List Stmt} {tc : TT} {tb : TS} (hp : PassesOwn (model X.prog X.w) X.A X.env X.xe) (hc : PT X c tc) (hb : PSs X body tb) : PS X (.While c body [] pos) (tWhile tc tb) := by
  intro pins s σ H D I h
  obtain ⟨W, ⟨m0, w0⟩, turn⟩ := h
  refine wpAny_While (codeAny_whileLoop (fun n s' => ∃ σ' H', Inv X pins σ' H' s' ∧ W n σ' H') ?_ m0 ⟨σ, H, I, w0⟩)
  rintro n s1 ⟨σ1, H1, I1, w1⟩
  refine wpAny_passesOwn hp (thn (hc pins s1 σ1 H1 _ I1 (turn n σ1 H1 w1)) fun b s2 ⟨H2, I2, q2⟩ => ?_)
  cases b with
  | true =>
    obtain ⟨N, hN, q2⟩ := q2
    rw [if_pos rfl]
    refine wpAny_passesOwn hp (thn (hb pins s2 σ1 H2 _ I2 q2) fun f s3 q3 => ?_)
    cases f with
    | next =>
      obtain ⟨σ3, H3, I3, n3⟩ := q3
      obtain ⟨m', hm, w3⟩ := hN σ3 H3 n3
      exact ⟨m', hm, σ3, H3, I3, w3⟩
    | cont =>
      obtain ⟨σ3, H3, I3, n3⟩ := q3
      obtain ⟨m', hm, w3⟩ := hN σ3 H3 n3
      exact ⟨m', hm, σ3, H3, I3, w3⟩
    | brk => exact q3
    | ret v => exact q3
  | false =>
    rw [if_neg Bool.false_ne_true]
    exact wpAny_execs_nil ⟨σ1, H2, I2, q2⟩
end

/-! ### what a loop or a comprehension walks -/
/-- at turn i: it yields x (the heap may grow), or it stops -/
structure It where
  go : Nat → Hp → Prop
  yld : Nat → Hp → V → Hp → Prop
  stop : Nat → Hp → Prop
/-- the iterator's own objects may turn: they are not the frame's, not pinned, younger than the entry (or a comprehension's own) -/
def FpOk (X : Cx) (pins : List (Addr × Obj)) (H : Hp) (b : Addr) : Prop :=
  H b = none ∧ b ≠ X.env.locals ∧ b ∉ X.fs ∧ (b ∈ X.ex ∨ X.s₀.heap.objs.size ≤ b) ∧ (∀ x c, X.env.cells.lookup x = some c → c ≠ b) ∧ ∀ p ∈ X.pn ++ pins, p.1 ≠ b
theorem Inv.fpOk {X : Cx} {pins : List (Addr × Obj)} {σ : St} {H H' : Hp} {s : Shared} {b : Addr} (I : Inv X pins σ H s) (hb : s.heap.objs.size ≤ b) (hn : H' b = none) : FpOk X pins H' b := by
  refine ⟨hn, Nat.ne_of_gt (Nat.lt_of_lt_of_le I.lt hb), I.nofs hb, .inr (Nat.le_trans I.sz hb), fun x c e z => ?_, fun p hp z => ?_⟩
  · obtain ⟨v, q⟩ := I.cell x c e
    exact absurd (Nat.lt_of_lt_of_le q.lt (by rw [z]; exact hb)) (Nat.lt_irrefl _)
  · exact absurd (Nat.lt_of_lt_of_le (Heap.lt_size (I.pin p hp).1) (by rw [z]; exact hb)) (Nat.lt_irrefl _)
structure Turn (P : Program) (w : World) (K : PySem.W.Frag) (tg : Expr) (J : It) (fp : List Addr) (it : Addr) (tn : Nat → Heap → Prop) : Prop where
  mem : it ∈ fp
  obj : ∀ i h, tn i h → ∀ b ∈ fp, ∃ o, h.get? b = some o ∧ ∀ v, o.data ≠ .cell v
  keep : ∀ i h h', tn i h → (∀ b ∈ fp, ∀ o, h.get? b = some o → h'.get? b = some o) → tn i h'
  item : ∀ (X : Cx), X.prog = P → X.w = w → X.K = K → X.calm = true → ∀ (i : Nat) (pins : List (Addr × Obj)) (s : Shared) (σ : St) (H : Hp) (E : Value → Shared → Prop), Inv X pins σ H s → (∀ b ∈ fp, FpOk X pins H b) → tn i s.heap → J.go i H →
    wpAny (model P w) X.A (pyNext (.ref it)) (fun r s1 => ∃ u, r = some u ∧
      wpAny (model P w) X.A (letOwnedTupleGo tg (.ref it) u) (fun _ s2 => ∃ x H', Inv X pins σ H' s2 ∧ RelV x u ∧ J.yld i H x H' ∧ tn (i + 1) s2.heap ∧ ∀ b ∈ fp, H' b = none) E s1) E s
  done : ∀ (X : Cx), X.prog = P → X.w = w → X.K = K → X.calm = true → ∀ (i : Nat) (pins : List (Addr × Obj)) (s : Shared) (σ : St) (H : Hp) (E : Value → Shared → Prop), Inv X pins σ H s → (∀ b ∈ fp, FpOk X pins H b) → tn i s.heap → J.stop i H →
    wpAny (model P w) X.A (pyNext (.ref it)) (fun r s1 => r = none ∧ Inv X pins σ H s1) E s
  self : ∀ (A : Around) (i : Nat) (s : Shared) (Q : Value → Shared → Prop) (E : Value → Shared → Prop), tn i s.heap → Q (.ref it) s → wpAny (model P w) A (pyIter (.ref it)) Q E s
abbrev TI := St → Hp → (It → Hp → Prop) → Prop
/-- an iterator has come -/
def PIE (X : Cx) (pins : List (Addr × Obj)) (σ : St) (tg : Expr) (R : It → Hp → Prop) (itv : Value) (s2 : Shared) : Prop :=
  ∃ (it : Addr) (fp : List Addr) (tn : Nat → Heap → Prop) (J : It) (H' : Hp), itv = .ref it ∧ Inv X pins σ H' s2 ∧ Turn X.prog X.w X.K tg J fp it tn ∧ tn 0 s2.heap ∧ (∀ b ∈ fp, FpOk X pins H' b) ∧ R J H'
def PI (X : Cx) (tg iter : Expr) (wi : TI) : Prop :=
  ∀ (pins : List (Addr × Obj)) (s : Shared) (σ : St) (H : Hp) (R : It → Hp → Prop), Inv X pins σ H s → wi σ H R →
    wpAny (model X.prog X.w) X.A (eval iter X.env) (fun v s1 => wpAny (model X.prog X.w) X.A (pyIter v) (PIE X pins σ tg R) X.xe s1) X.xe s

/-- the step ahead of the store is nothing for an iterator that keeps no tuple -/
theorem go_of {M : Model} {A : Around} {E : Value → Shared → Prop} {s : Shared} {tg : Expr} {it : Addr} {u : Value} {o : Obj} {n : String} {vs : Array Value} {Q : Unit → Shared → Prop} (ho : s.heap.get? it = some o) (hc : o.cls = .type n) (hd : o.data = .fields vs)
    (hn : ["enumerate", "zip", "dict_itemiterator", "dict_reverseitemiterator", "odict_iterator", "itertools.zip_longest", "itertools.pairwise"].contains n = false) (hQ : Q () s) : wpAny M A (letOwnedTupleGo tg (.ref it) u) Q E s := by
  unfold letOwnedTupleGo
  cases tg <;> first
    | exact wpAny_pure hQ
    | (cases u <;> first
        | exact wpAny_pure hQ
        | (refine wpAny_bind (wpAny_load ho ?_)
           rw [hc, hd]
           show wpAny M A (if (["enumerate", "zip", "dict_itemiterator", "dict_reverseitemiterator", "odict_iterator", "itertools.zip_longest", "itertools.pairwise"].contains n && vs[0]? == some (rawInt _)) = true then _ else _) Q E s
           rw [if_neg (by intro h; rw [hn, Bool.false_and] at h; cases h)]
           exact wpAny_pure hQ))

/-- the list at a, as it stands at each turn (a loop may append to it) -/
def Itl (K : PySem.W.Frag) (a : Addr) : It :=
  ⟨fun i H => ∃ xs x, SqL K H a xs ∧ xs[i]? = some x, fun i H x H' => H' = H ∧ ∀ xs, SqL K H a xs → xs[i]? = some x, fun i H => ∃ xs, SqL K H a xs ∧ xs.length ≤ i⟩
def Itt (K : PySem.W.Frag) (a : Addr) : It :=
  ⟨fun i H => ∃ xs x, SqT K H a xs ∧ xs[i]? = some x, fun i H x H' => H' = H ∧ ∀ xs, SqT K H a xs → xs[i]? = some x, fun i H => ∃ xs, SqT K H a xs ∧ xs.length ≤ i⟩
/-- lo, lo + 1, .. (n of them) -/
def Itr (lo : Int) (n : Nat) : It := ⟨fun i _ => i < n, fun i H x H' => H' = H ∧ x = .int (lo + i), fun i _ => n ≤ i⟩
theorem turn_range {P : Program} {w : World} {K : PySem.W.Frag} {tg : Expr} (it : Addr) (lo : Int) (n : Nat) : Turn P w K tg (Itr lo n) [it] it (fun i h => IsRangeIter h it (lo + (i : Nat) * 1) ((n : Int) - (i : Nat)) 1) where
  mem := by simp
  obj := fun i h st b hb => by
    have e : b = it := by simpa using hb
    subst e
    exact ⟨_, st, fun v z => by
      have z' : Data.fields _ = Data.cell v := z
      cases z'⟩
  keep := fun i h h' st k => k it (by simp) _ st
  item := by
    intro X hP hw hK hc i pins s σ H E I hf st hg
    subst hP hw hK
    obtain ⟨f0, f1, f2, f3, f4, f5⟩ := hf it (by simp)
    have W := Walks.range (prog := X.prog) (w := X.w) (I.ok.hd hc) it lo 1 n
    refine W.item i s _ _ hg st fun v h' tk hv st' kk => ?_
    obtain ⟨t, rfl⟩ := hv
    have I1 : Inv X pins σ H { s with heap := h', toks := tk } := I.turned (fun b o hb e => kk b o (by simpa using hb) e) f0 f1 f3 f4 f5
    refine ⟨_, rfl, go_of (s := { s with heap := h', toks := tk }) (n := "range_iterator") st' rfl rfl (by decide) ⟨.int (lo + i), H, I1, ⟨t, ?_⟩, ⟨rfl, rfl⟩, st', fun b hb => (hf b hb).1⟩⟩
    rw [Int.mul_one]
  done := by
    intro X hP hw hK hc i pins s σ H E I hf st hg
    subst hP hw hK
    obtain ⟨f0, f1, f2, f3, f4, f5⟩ := hf it (by simp)
    exact wpAny_pyNext_range_end (I.ok.hd hc) st (by have : n ≤ i := hg; omega) fun h' eb => ⟨rfl, I.turned (t' := s.toks) (fun b o hb e => eb b o hb e) f0 f1 f3 f4 f5⟩
  self := fun _ _ _ _ _ st h => wpAny_pyIter_rangeiter st h
end L2

namespace L2
open PySem PySem.Spec PyProof.Rows
section
variable {X : Cx} {tg : Expr}
def iList (K : PySem.W.Frag) (tl : TE) : TI := fun σ H R => tl σ H fun x H1 => ∃ a, x = .ref a ∧ (∃ xs, SqL K H1 a xs) ∧ R (Itl K a) H1
def iTup (K : PySem.W.Frag) (tl : TE) : TI := fun σ H R => tl σ H fun x H1 => ∃ a, x = .ref a ∧ (∃ xs, SqT K H1 a xs) ∧ R (Itt K a) H1
/-- a range object just made, walked -/
theorem range_it {pins : List (Addr × Obj)} {σ : St} {H : Hp} {s : Shared} {R : It → Hp → Prop} {E : Value → Shared → Prop} {lo hi : Int} {t u v : Tok} {tk : Nat} (I : Inv X pins σ H s) (h1 : -(2 ^ 62) ≤ lo) (h2 : lo < 2 ^ 62) (h3 : -(2 ^ 62) ≤ hi) (h4 : hi < 2 ^ 62)
    (q : R (Itr lo (hi - lo).toNat) H) : wpAny (model X.prog X.w) X.A (pyIter (.ref s.heap.objs.size)) (PIE X pins σ tg R) E { s with heap := s.heap.push { cls := .type "range", data := .fields #[.int lo t, .int hi u, .int 1 v] }, toks := tk } := by
  refine wpAny_pyIter_range (IsRange.new ..) (small_one h1 h2 h3 h4) ?_
  have I1 : Inv X pins σ H { s with heap := s.heap.push { cls := .type "range", data := .fields #[.int lo t, .int hi u, .int 1 v] }, toks := tk } := I.kept fun b o e => Heap.get?_push_of_some _ e
  refine ⟨(s.heap.push { cls := .type "range", data := .fields #[.int lo t, .int hi u, .int 1 v] }).objs.size, [(s.heap.push { cls := .type "range", data := .fields #[.int lo t, .int hi u, .int 1 v] }).objs.size], _, _, H, rfl,
    I1.kept (t' := tk) fun b o e => Heap.get?_push_of_some _ e, turn_range _ lo (hi - lo).toNat, ?_, fun b hb => ?_, q⟩
  · have e1 : lo + ((0 : Nat) : Int) * 1 = lo := by simp
    have e2 : (((hi - lo).toNat : Nat) : Int) - ((0 : Nat) : Int) = Builtin.Range.rangeSize lo hi 1 := by rw [rangeSize_one]; split <;> omega
    show IsRangeIter _ _ (lo + ((0 : Nat) : Int) * 1) ((((hi - lo).toNat : Nat) : Int) - ((0 : Nat) : Int)) 1
    rw [e1, e2]
    exact Heap.get?_push_size _ rfl
  · have e : b = (s.heap.push { cls := .type "range", data := .fields #[.int lo t, .int hi u, .int 1 v] }).objs.size := by simpa using hb
    subst e
    exact I1.fpOk (Nat.le_refl _) (I1.hok.fresh (Nat.le_refl _))
def iRng1 (ta : TA) : TI := fun σ H R => ta σ H fun vs H1 => ∃ j : Int, vs = [.int j] ∧ -(2 ^ 62) ≤ j ∧ j < 2 ^ 62 ∧ R (Itr 0 j.toNat) H1
def iRng2 (ta : TA) : TI := fun σ H R => ta σ H fun vs H1 => ∃ i j : Int, vs = [.int i, .int j] ∧ (-(2 ^ 62) ≤ i ∧ i < 2 ^ 62 ∧ -(2 ^ 62) ≤ j ∧ j < 2 ^ 62) ∧ R (Itr i (j - i).toNat) H1
theorem pi_range1 {a : Expr} {ta : TA} {p pos : Pos} (hg : Gl X "range") (hm : X.mg "range" = none) (ha : PA X [a] ta) (hs : starEach [a] X.env = [(false, eval a X.env)] := by rfl) : PI X tg (.Call (.Name "range" p) [a] [] pos) (iRng1 ta) := by
  intro pins s σ H R I h
  refine Call_ (ld_blt I hg hm boot_range (PyProof.Rows.callWith_type1 (thn (ha pos pins s σ H _ I h) fun us s1 ⟨vs, H1, I1, r1, q1⟩ => ?_) hs rfl))
  obtain ⟨j, e, q1, q2, q⟩ := q1
  subst e
  cases r1 with
  | cons r rr =>
    cases rr
    obtain ⟨t, rfl⟩ := r
    exact call_range_1 (range_it I1 (by omega) (by omega) q1 q2 (by simpa using q))

/-! ### for -/
/-- W: the invariant by the turn and a measure; N: what the body is to reach -/
def tFor (wi : TI) (g : TG) (tb : TS) : TS := fun D σ H => wi σ H fun J H1 => ∃ W : Nat → Nat → St → Hp → Prop, (∃ m, W 0 m σ H1) ∧ ∀ i m σ H, W i m σ H →
  (J.stop i H ∧ D.nx σ H) ∨ (J.go i H ∧ ∃ N : St → Hp → Prop, (∀ σ' H', N σ' H' → ∃ m', m' < m ∧ W (i + 1) m' σ' H') ∧ ∀ x H', J.yld i H x H' → g x σ H' fun σ2 H2 => tb { D with nx := N, ct := N, bk := D.nx } σ2 H2)
/-- the records at fp as they stand -/
def pinsAt (fp : List Addr) (h : Heap) : List (Addr × Obj) := fp.filterMap fun b => (h.get? b).map fun o => (b, o)
theorem mem_pinsAt {fp : List Addr} {h : Heap} {b : Addr} {o : Obj} (hb : b ∈ fp) (e : h.get? b = some o) : (b, o) ∈ pinsAt fp h := List.mem_filterMap.mpr ⟨b, hb, by rw [e]; rfl⟩
theorem of_pinsAt {fp : List Addr} {h : Heap} {p : Addr × Obj} (hp : p ∈ pinsAt fp h) : p.1 ∈ fp ∧ h.get? p.1 = some p.2 := by
  obtain ⟨b, hb, e⟩ := List.mem_filterMap.mp hp
  cases q : h.get? b with
  | none => rw [q] at e; cases e
  | some o =>
    rw [q] at e
    have e' : (b, o) = p := Option.some.inj e
    subst e'
    exact ⟨hb, q⟩
theorem Inv.pinned {pins : List (Addr × Obj)} {σ : St} {H : Hp} {s : Shared} {fp : List Addr} (I : Inv X pins σ H s) (hf : ∀ b ∈ fp, FpOk X pins H b) (ho : ∀ b ∈ fp, ∃ o, s.heap.get? b = some o ∧ ∀ v, o.data ≠ .cell v) : Inv X (pins ++ pinsAt fp s.heap) σ H s :=
  I.pins_of fun p hp => (List.mem_append.mp hp).elim (fun z => I.pin p (List.mem_append_right _ z)) fun z => by
    obtain ⟨hb, e⟩ := of_pinsAt z
    obtain ⟨f0, f1, f2, _⟩ := hf p.1 hb
    obtain ⟨o, e', d⟩ := ho p.1 hb
    rw [e] at e'; cases e'
    exact ⟨e, f0, f1, f2, d⟩
theorem Inv.unpinned {pins pl : List (Addr × Obj)} {σ : St} {H : Hp} {s : Shared} (I : Inv X (pins ++ pl) σ H s) : Inv X pins σ H s := I.pins_of fun p hp => I.pin p (List.mem_append_right _ (List.mem_append_left _ hp))
end

/-! ### the forms one uses -/
end L2

namespace L2
open PySem PySem.Spec PyProof.Rows

abbrev R2 := V → V → Hp → VK → Prop
/-- a two-place operation on values: f is binaryOp op, inplaceOp op or compareOp op -/
def OpR (X : Cx) (f : Value → Value → Sem Value) (r : R2) : Prop :=
  ∀ (pins : List (Addr × Obj)) (s : Shared) (σ : St) (H : Hp) (x y : V) (v u : Value) (Q : VK), Inv X pins σ H s → RelV x v → RelV y u → r x y H Q →
    wpAny (model X.prog X.w) X.A (f v u) (EP X pins σ Q) X.xe s
/-- a one-place operation -/
def UnR (X : Cx) (f : Value → Sem Value) (r : V → Hp → VK → Prop) : Prop :=
  ∀ (pins : List (Addr × Obj)) (s : Shared) (σ : St) (H : Hp) (x : V) (v : Value) (Q : VK), Inv X pins σ H s → RelV x v → r x H Q →
    wpAny (model X.prog X.w) X.A (f v) (EP X pins σ Q) X.xe s
/-- a call of a value that is known (a builtin, a type) with values -/
def CallR (X : Cx) (f : Value) (r : List V → Hp → VK → Prop) : Prop :=
  ∀ (pins : List (Addr × Obj)) (s : Shared) (σ : St) (H : Hp) (xs : List V) (us : List Value) (Q : VK), Inv X pins σ H s → Vals xs us → r xs H Q →
    wpAny (model X.prog X.w) X.A (call f us) (EP X pins σ Q) X.xe s
/-- a value's truth -/
def TruR (X : Cx) (r : V → Hp → (Bool → Hp → Prop) → Prop) : Prop :=
  ∀ (pins : List (Addr × Obj)) (s : Shared) (σ : St) (H : Hp) (x : V) (v : Value) (Q : Bool → Hp → Prop), Inv X pins σ H s → RelV x v → r x H Q →
    wpAny (model X.prog X.w) X.A (truthy v) (TP X pins σ Q) X.xe s

def tOp (r : R2) (ta tb : TE) : TE := fun σ H Q => ta σ H fun x H1 => tb σ H1 fun y H2 => r x y H2 Q
def tUn (r : V → Hp → VK → Prop) (ta : TE) : TE := fun σ H Q => ta σ H fun x H1 => r x H1 Q
/-- ints in, under C, and a value out -/
def rI (C : Int → Int → Prop) (g : Int → Int → V) : R2 := fun x y H Q => ∃ i j, x = .int i ∧ y = .int j ∧ C i j ∧ Q (g i j) H
def rI0 (g : Int → Int → V) : R2 := fun x y H Q => ∃ i j, x = .int i ∧ y = .int j ∧ Q (g i j) H
def rU (g : Int → V) : V → Hp → VK → Prop := fun x H Q => ∃ i, x = .int i ∧ Q (g i) H

section
variable {X : Cx} {a b c : Expr} {ta tb tc : TE} {pos : Pos}

theorem binT (ha : PE X a ta) (hb : PE X b tb) {pins : List (Addr × Obj)} {s : Shared} {σ : St} {H : Hp} {R : V → V → Hp → Prop} (I : Inv X pins σ H s)
    (h : ta σ H fun x H1 => tb σ H1 fun y H2 => R x y H2) {Q : Value → Shared → Prop} {f : Value → Value → Sem Value}
    (hf : ∀ v u s2 x y H2, Inv X pins σ H2 s2 → RelV x v → RelV y u → R x y H2 → wpAny (model X.prog X.w) X.A (f v u) Q X.xe s2) :
    wpAny (model X.prog X.w) X.A (eval a X.env) (fun v s₁ => wpAny (model X.prog X.w) X.A (eval b X.env) (fun u s₂ => wpAny (model X.prog X.w) X.A (f v u) Q X.xe s₂) X.xe s₁) X.xe s := by
  refine thn (ha pins s σ H _ I h) fun v s1 ⟨x, H1, I1, r1, q1⟩ => ?_
  refine thn (hb pins s1 σ H1 _ I1 q1) fun u s2 ⟨y, H2, I2, r2, q2⟩ => ?_
  exact hf v u s2 x y H2 I2 r1 r2 q2

theorem pe_op {op : Operator} {r : R2} (ho : OpR X (binaryOp op) r) (ha : PE X a ta) (hb : PE X b tb) : PE X (.BinOp a op b pos) (tOp r ta tb) := by
  intro pins s σ H Q I h
  exact wpAny_BinOp (binT ha hb I h fun v u s2 x y H2 I2 rx ry q => ho pins s2 σ H2 x y v u Q I2 rx ry q)

/-! ### ints -/
theorem opI {f : Value → Value → Sem Value} {C : Int → Int → Prop} {g : Int → Int → Int}
    (rule : ∀ (i j : Int) (t u : Tok) (s : Shared) (Q : Value → Shared → Prop) (E : Value → Shared → Prop), C i j → Q (.int (g i j) s.toks) { s with toks := s.toks + 1 } → wpAny (model X.prog X.w) X.A (f (.int i t) (.int j u)) Q E s) :
    OpR X f (rI C fun i j => .int (g i j)) := by
  intro pins s σ H x y v u Q I rx ry h
  obtain ⟨i, j, rfl, rfl, hc, q⟩ := h
  obtain ⟨t, rfl⟩ := rx
  obtain ⟨t', rfl⟩ := ry
  exact rule i j t t' s _ _ hc ⟨.int (g i j), H, I.tok _, ⟨_, rfl⟩, q⟩
theorem opI0 {f : Value → Value → Sem Value} {g : Int → Int → Int}
    (rule : ∀ (i j : Int) (t u : Tok) (s : Shared) (Q : Value → Shared → Prop) (E : Value → Shared → Prop), Q (.int (g i j) s.toks) { s with toks := s.toks + 1 } → wpAny (model X.prog X.w) X.A (f (.int i t) (.int j u)) Q E s) :
    OpR X f (rI0 fun i j => .int (g i j)) := by
  intro pins s σ H x y v u Q I rx ry h
  obtain ⟨i, j, rfl, rfl, q⟩ := h
  obtain ⟨t, rfl⟩ := rx
  obtain ⟨t', rfl⟩ := ry
  exact rule i j t t' s _ _ ⟨.int (g i j), H, I.tok _, ⟨_, rfl⟩, q⟩
theorem opB0 {f : Value → Value → Sem Value} {g : Int → Int → Bool}
    (rule : ∀ (i j : Int) (t u : Tok) (s : Shared) (Q : Value → Shared → Prop) (E : Value → Shared → Prop), Q (.bool (g i j)) s → wpAny (model X.prog X.w) X.A (f (.int i t) (.int j u)) Q E s) :
    OpR X f (rI0 fun i j => .bl (g i j)) := by
  intro pins s σ H x y v u Q I rx ry h
  obtain ⟨i, j, rfl, rfl, q⟩ := h
  obtain ⟨t, rfl⟩ := rx
  obtain ⟨t', rfl⟩ := ry
  exact rule i j t t' s _ _ ⟨.bl (g i j), H, I, rfl, q⟩

def CDiv (i j : Int) : Prop := 0 < j ∧ j < 1073741824
def CDivN (i j : Int) : Prop := j ≠ 0 ∧ j.natAbs < 1073741824
def CPow (i j : Int) : Prop := 0 ≤ j ∧ j ≤ 1000000 ∧ i.natAbs < 2 ^ 64
def CMul (i j : Int) : Prop := (-(2 ^ 64) < i ∧ i < 2 ^ 64) ∨ (-(2 ^ 64) < j ∧ j < 2 ^ 64)
theorem CMul.ok {i j : Int} (h : CMul i j) : IntMulOk i j := by
  rcases h with ⟨h1, h2⟩ | ⟨h1, h2⟩
  · exact .of_left (intBits_le_64 h1 h2)
  · exact .of_right (intBits_le_64 h1 h2)

theorem op_add : OpR X (binaryOp .Add) (rI0 fun i j => .int (i + j)) := opI0 fun _ _ _ _ _ _ _ q => add_int q
theorem op_sub : OpR X (binaryOp .Sub) (rI0 fun i j => .int (i - j)) := opI0 fun _ _ _ _ _ _ _ q => sub_int q
theorem op_mul : OpR X (binaryOp .Mult) (rI CMul fun i j => .int (i * j)) := opI fun _ _ _ _ _ _ _ hc q => mul_int q hc.ok
/-- // by a positive divisor -/
theorem op_fdiv : OpR X (binaryOp .FloorDiv) (rI CDiv fun i j => .int (i / j)) := opI fun i j _ _ _ _ _ hc q => by
  have h1 : (0 : Int) < j := hc.1
  have h2 : j < 1073741824 := hc.2
  exact floordiv_int (by omega) (by rw [Int.fdiv_eq_ediv_of_nonneg i (by omega)]; exact q) (.inl (PyProof.noPylong_small (by omega)))
/-- % by a positive divisor of any size -/
theorem op_mod : OpR X (binaryOp .Mod) (rI (fun _ j => 0 < j) fun i j => .int (i % j)) := opI fun i j _ _ _ _ _ hc q => by
  have h1 : (0 : Int) < j := hc
  exact mod_int' (by omega) (by rw [Int.fmod_eq_emod_of_nonneg i (by omega)]; exact q)



/-! ### bools among ints: n += (a < b) -/
end

/-! ### comparisons -/
/-- the scalars that == tells apart as data does -/
def scal : V → V → Bool
  | .non, .non => true | .non, .int _ => true | .int _, .non => true | .non, .bl _ => true | .bl _, .non => true | .non, .str _ => true | .str _, .non => true
  | .int _, .int _ => true | .bl _, .bl _ => true | .str _, .str _ => true | .byt _, .byt _ => true
  | .int _, .str _ => true | .str _, .int _ => true | .bl _, .str _ => true | .str _, .bl _ => true
  | _, _ => false
def rEq : R2 := fun x y H Q => scal x y = true ∧ Q (.bl (decide (x = y))) H
def rNe : R2 := fun x y H Q => scal x y = true ∧ Q (.bl (!decide (x = y))) H

theorem dec_int {i j : Int} : decide (V.int i = V.int j) = (i == j) := by
  rw [Bool.eq_iff_iff]
  simp
theorem dec_bl {i j : Bool} : decide (V.bl i = V.bl j) = (i == j) := by
  rw [Bool.eq_iff_iff]
  simp
theorem dec_str {i j : Str} : decide (V.str i = V.str j) = (i == j) := by
  rw [Bool.eq_iff_iff]
  simp
theorem dec_byt {i j : Array UInt8} : decide (V.byt i = V.byt j) = (i.toList == j.toList) := by
  rw [Bool.eq_iff_iff]
  cases i
  cases j
  simp

section
variable {X : Cx} {a b c : Expr} {ta tb tc : TE} {pos : Pos}
theorem fin_bl {pins : List (Addr × Obj)} {σ : St} {H : Hp} {s : Shared} {Q : VK} {k k' : Bool} (I : Inv X pins σ H s) (q : Q (.bl k) H) (e : k = k') : EP X pins σ Q (.bool k') s := by
  subst e
  exact ⟨.bl k, H, I, rfl, q⟩
theorem op_eq : OpR X (compareOp .Eq) rEq := by
  intro pins s σ H x y v u Q I rx ry h
  obtain ⟨hs, q⟩ := h
  cases x with
  | non =>
    cases rx
    cases y with
    | non => cases ry; exact PySem.EqNone.eq_none_none (fin_bl I q (by simp))
    | bl j => cases ry; exact PySem.EqNone.eq_none_bool (fin_bl I q (by simp))
    | int j => obtain ⟨t', rfl⟩ := ry; exact PySem.EqNone.eq_none_int (fin_bl I q (by simp))
    | str j => obtain ⟨t', rfl⟩ := ry; exact PySem.EqNone.eq_none_str (fin_bl I q (by simp))
    | _ => exact absurd (show false = true from hs) Bool.false_ne_true
  | bl i =>
    cases rx
    cases y with
    | non => cases ry; exact PySem.EqNone.eq_bool_none (fin_bl I q (by simp))
    | bl j => cases ry; exact eq_bool (fin_bl I q dec_bl)
    | str j => obtain ⟨t', rfl⟩ := ry; exact PySem.EqMixed.eq_bool_str (fin_bl I q (by simp))
    | _ => exact absurd (show false = true from hs) Bool.false_ne_true
  | int i =>
    obtain ⟨t, rfl⟩ := rx
    cases y with
    | non => cases ry; exact PySem.EqNone.eq_int_none (fin_bl I q (by simp))
    | int j => obtain ⟨t', rfl⟩ := ry; exact eq_int (fin_bl I q dec_int)
    | str j => obtain ⟨t', rfl⟩ := ry; exact PySem.EqMixed.eq_int_str (fin_bl I q (by simp))
    | _ => exact absurd (show false = true from hs) Bool.false_ne_true
  | str i =>
    obtain ⟨t, rfl⟩ := rx
    cases y with
    | non => cases ry; exact PySem.EqNone.eq_str_none (fin_bl I q (by simp))
    | bl j => cases ry; exact PySem.EqMixed.eq_str_bool (fin_bl I q (by simp))
    | int j => obtain ⟨t', rfl⟩ := ry; exact PySem.EqMixed.eq_str_int (fin_bl I q (by simp))
    | str j => obtain ⟨t', rfl⟩ := ry; exact eq_str (fin_bl I q dec_str)
    | _ => exact absurd (show false = true from hs) Bool.false_ne_true
  | byt i =>
    obtain ⟨t, rfl⟩ := rx
    cases y with
    | byt j => obtain ⟨t', rfl⟩ := ry; exact PySem.W.eq_bytes (fin_bl I q dec_byt)
    | _ => exact absurd (show false = true from hs) Bool.false_ne_true
  | _ => cases y <;> exact absurd (show false = true from hs) Bool.false_ne_true
theorem op_ne : OpR X (compareOp .NotEq) rNe := by
  intro pins s σ H x y v u Q I rx ry h
  obtain ⟨hs, q⟩ := h
  cases x with
  | non =>
    cases rx
    cases y with
    | non => cases ry; exact PySem.EqNone.ne_none_none (fin_bl I q (by simp))
    | bl j => cases ry; exact PySem.EqNone.ne_none_bool (fin_bl I q (by simp))
    | int j => obtain ⟨t', rfl⟩ := ry; exact PySem.EqNone.ne_none_int (fin_bl I q (by simp))
    | str j => obtain ⟨t', rfl⟩ := ry; exact PySem.EqNone.ne_none_str (fin_bl I q (by simp))
    | _ => exact absurd (show false = true from hs) Bool.false_ne_true
  | bl i =>
    cases rx
    cases y with
    | non => cases ry; exact PySem.EqNone.ne_bool_none (fin_bl I q (by simp))
    | bl j => cases ry; exact ne_bool (fin_bl I q (congrArg not dec_bl))
    | str j => obtain ⟨t', rfl⟩ := ry; exact PySem.EqMixed.ne_bool_str (fin_bl I q (by simp))
    | _ => exact absurd (show false = true from hs) Bool.false_ne_true
  | int i =>
    obtain ⟨t, rfl⟩ := rx
    cases y with
    | non => cases ry; exact PySem.EqNone.ne_int_none (fin_bl I q (by simp))
    | int j => obtain ⟨t', rfl⟩ := ry; exact ne_int (fin_bl I q (congrArg not dec_int))
    | str j => obtain ⟨t', rfl⟩ := ry; exact PySem.EqMixed.ne_int_str (fin_bl I q (by simp))
    | _ => exact absurd (show false = true from hs) Bool.false_ne_true
  | str i =>
    obtain ⟨t, rfl⟩ := rx
    cases y with
    | non => cases ry; exact PySem.EqNone.ne_str_none (fin_bl I q (by simp))
    | bl j => cases ry; exact PySem.EqMixed.ne_str_bool (fin_bl I q (by simp))
    | int j => obtain ⟨t', rfl⟩ := ry; exact PySem.EqMixed.ne_str_int (fin_bl I q (by simp))
    | str j => obtain ⟨t', rfl⟩ := ry; exact ne_str (fin_bl I q (congrArg not dec_str))
    | _ => exact absurd (show false = true from hs) Bool.false_ne_true
  | byt i =>
    obtain ⟨t, rfl⟩ := rx
    cases y with
    | byt j => obtain ⟨t', rfl⟩ := ry; exact PySem.W.ne_bytes (fin_bl I q (congrArg not dec_byt))
    | _ => exact absurd (show false = true from hs) Bool.false_ne_true
  | _ => cases y <;> exact absurd (show false = true from hs) Bool.false_ne_true

theorem op_lt : OpR X (compareOp .Lt) (rI0 fun i j => .bl (decide (i < j))) := opB0 fun _ _ _ _ _ _ _ q => lt_int q
theorem op_ge : OpR X (compareOp .GtE) (rI0 fun i j => .bl (decide (j ≤ i))) := opB0 fun _ _ _ _ _ _ _ q => ge_int q


/-- is, is not of two objects that are tracked lists or instances -/
def isObj : HO → Bool
  | .lst _ => true
  | .ins _ _ _ => true
  | _ => false


theorem nomark (b : Expr) {op : CmpOp} (h : op ≠ .In := by decide) (h2 : op ≠ .NotIn := by decide) : behindInMarks op b = false := by
  have e1 : (op == CmpOp.In) = false := by cases op <;> first | rfl | exact absurd rfl h
  have e2 : (op == CmpOp.NotIn) = false := by cases op <;> first | rfl | exact absurd rfl h2
  cases b <;> simp [behindInMarks, e1, e2]
/-- a comparison as a value; hm: nomark b, or (for in, not in) by with_unfolding_all rfl -/
theorem pe_cmpR {op : CmpOp} {r : R2} (ho : OpR X (compareOp op) r) (ha : PE X a ta) (hb : PE X b tb) (hm : behindInMarks op b = false) : PE X (.Compare a [op] [b] pos) (tOp r ta tb) := by
  intro pins s σ H Q I h
  exact wpAny_Compare1 (binT ha hb I h fun v u s2 x y H2 I2 rx ry q => ho pins s2 σ H2 x y v u Q I2 rx ry q) hm
/-- a reading of a value as a test -/
def tTest (t : TE) : TT := fun σ H Q => t σ H fun x H' => ∃ k, x = .bl k ∧ Q k H'
theorem pt_cmpR {op : CmpOp} {r : R2} (ho : OpR X (compareOp op) r) (ha : PE X a ta) (hb : PE X b tb) (hm : behindInMarks op b = false) : PT X (.Compare a [op] [b] pos) (tTest (tOp r ta tb)) := by
  intro pins s σ H Q I h
  refine wpAny_isTrue_Compare1 (thn (ha pins s σ H _ I h) fun v s1 ⟨x, H1, I1, r1, q1⟩ => thn (hb pins s1 σ H1 _ I1 q1) fun u s2 ⟨y, H2, I2, r2, q2⟩ =>
    thn (ho pins s2 σ H2 x y v u _ I2 r1 r2 q2) fun c s3 ⟨z, H3, I3, r3, k, e, q3⟩ => ?_) hm
  subst e
  cases r3
  exact wpAny_truthy_bool ⟨H3, I3, q3⟩
/-- a op1 b op2 c -/
def tChain (r r' : R2) (ta tb tc : TE) : TE := fun σ H Q => ta σ H fun x H1 => tb σ H1 fun y H2 => r x y H2 fun z H3 => ∃ k, z = .bl k ∧
  (if k = true then tc σ H3 fun w' H4 => r' y w' H4 Q else Q (.bl false) H3)

/-! ### truth -/
/-- a value's truth by the abstract heap -/
def TruV (K : PySem.W.Frag) (x : V) (H : Hp) (k : Bool) : Prop :=
  match x with
  | .non => k = false
  | .bl b => k = b
  | .int i => k = (i != 0)
  | .str y => y.length ≤ sizeLine ∧ k = ((y.length : Int) != 0)
  | .byt y => y.size ≤ sizeLine ∧ k = ((y.size : Int) != 0)
  | .ref p => (∃ xs, SqL K H p xs ∧ k = !xs.isEmpty) ∨ (∃ xs, SqT K H p xs ∧ k = !xs.isEmpty) ∨ ∃ kvs, H p = some (.dK kvs) ∧ k = !kvs.isEmpty
  | _ => False
theorem line63 : (sizeLine : Nat) < 2 ^ 63 := by rw [sizeLine_eq]; decide

/-! ### strs and bytes -/

def PlainIxT (b : Expr) : Prop := ∀ o i, subscripted b false o i = operate [o, i] (getItem o i)

/-! ### scalar builtins, by CallR -/
theorem vals1 {x : V} {us : List Value} (r : Vals [x] us) : ∃ u, us = [u] ∧ RelV x u := by
  cases r with
  | cons r1 r2 => cases r2; exact ⟨_, rfl, r1⟩
theorem call_int1 : CallR X (.type "int") (fun xs H Q => (∃ i, xs = [.int i] ∧ Q (.int i) H) ∨ ∃ k, xs = [.bl k] ∧ Q (.int (if k then 1 else 0)) H) := by
  intro pins s σ H xs us Q I r h
  rcases h with ⟨i, rfl, q⟩ | ⟨k, rfl, q⟩
  · obtain ⟨u, rfl, t, rfl⟩ := vals1 r
    exact call_int_int ⟨.int i, H, I, ⟨_, rfl⟩, q⟩
  · obtain ⟨u, rfl, r1⟩ := vals1 r
    cases r1
    exact call_int_bool ⟨.int (if k then 1 else 0), H, I.tok _, ⟨_, rfl⟩, q⟩
/-- len of a str, a bytes, a list, a tuple -/
def LenV (K : PySem.W.Frag) (x : V) (H : Hp) (n : Nat) : Prop :=
  match x with
  | .str y => y.length ≤ sizeLine ∧ n = y.length
  | .byt y => y.size ≤ sizeLine ∧ n = y.size
  | .ref p => (∃ xs, SqL K H p xs ∧ n = xs.length) ∨ ∃ xs, SqT K H p xs ∧ n = xs.length
  | _ => False
end
end L2

namespace L2
open PySem PySem.Spec PyProof.Rows

/-! ### an instance, its attributes a map -/
structure ObjM (h : Heap) (x dx C : Addr) (mA : Str → Option Value) : Prop where
  obj : h.get? x = some (PySem.W.instObj C dx)
  ns : h.Ns1 dx mA
  ne : dx ≠ x

theorem lookIn_ns {h : Heap} {dx : Addr} {mA : Str → Option Value} (n : h.Ns1 dx mA) : ∃ od, h.get? dx = some od ∧ ∀ name, PySem.W.lookIn name od = some (mA name) := by
  obtain ⟨o, es, ep, ho, hd, hk, _, hm⟩ := n
  refine ⟨o, ho, fun name => ?_⟩
  have e := hm name
  unfold nsFind findBy at e
  rw [← Array.find?_toList] at e
  unfold PySem.W.lookIn
  rw [hd]
  dsimp only
  split
  · rename_i y q
    rw [q] at e
    exact congrArg some e
  · rename_i q
    rw [q] at e
    have a : es.toList.any (·.refKey) = false := by
      rw [List.any_eq_false]
      intro y hy
      obtain ⟨z, t, hkey⟩ := hk y (Array.mem_toList_iff.mp hy)
      simp [DictEntry.refKey, hkey]
    have a' : ¬ es.toList.any (·.refKey) = true := by rw [a]; exact Bool.false_ne_true
    rw [if_neg a']
    exact congrArg some e

theorem ObjM.look {h : Heap} {x dx C : Addr} {mA : Str → Option Value} (I : ObjM h x dx C mA) : ∃ od, PySem.W.InstAt h x (PySem.W.instObj C dx) C (some od) ∧ ∀ name, PySem.W.lookIn name od = some (mA name) :=
  let ⟨od, ho, hl⟩ := lookIn_ns I.ns
  ⟨od, ⟨I.obj, rfl, rfl, ho⟩, hl⟩

section
variable {prog : Program} {w : World} {A : Around} {E : Value → Shared → Prop} {s : Shared} {K : PySem.W.Frag} {x dx C f : Addr} {mA : Str → Option Value} {name : Str} {v : Value}

theorem get_map {expr : Bool} {Q : Value → Shared → Prop} (X : K.In s.heap) (I : ObjM s.heap x dx C mA) (hg : PySem.W.plainGet K C name = true) (hh : PySem.W.hasDictIn K C = true)
    (ha : PySem.W.findIn K (.ref C) name = some none) (hv : mA name = some v) (hv' : PySem.W.handedIn v = true) (h : Q v { s with toks := s.toks + 1 }) :
    wpAny (model prog w) A (getAttr (.ref x) name expr) Q E s := by
  obtain ⟨od, J, hl⟩ := I.look
  exact PySem.W.get_value X J (PySem.W.plainGet_of hg).1 (PySem.W.findObj_own hh ha rfl (by rw [hl, hv])) hv' h


theorem get_meth {pl : Sem Bool} {Q : Value × List Value → Shared → Prop} (X : K.In s.heap) (I : ObjM s.heap x dx C mA) (hg : PySem.W.plainGet K C name = true)
    (hf : PySem.W.findIn K (.ref C) name = some (some (.ref f))) (ht : PySem.W.isFn K (.ref f) = true) (hv : mA name = none) (h : Q (.ref f, [.ref x]) s) :
    wpAny (model prog w) A (getMethod (.ref x) name pl) Q E s := by
  obtain ⟨od, J, hl⟩ := I.look
  exact PySem.W.method_fn X J (PySem.W.plainGet_of hg).1 (PySem.W.plainGet_of hg).2 hf (beq_iff_eq.mp ht) (by show (PySem.W.lookIn name od).map (·.isSome) = some false; rw [hl, hv]; rfl) h

theorem set_map {ns : List Str} {Q : Unit → Shared → Prop} (X : K.In s.heap) (I : ObjM s.heap x dx C mA)
    (hs : PySem.W.findIn K (.ref C) "__setattr__" = some (some (.builtin "object.__setattr__"))) (hp : PySem.W.plainOver K C = true) (ht : PySem.W.takerIn K C name = some none) (hh : PySem.W.hasDictIn K C = true)
    (hw : PySem.Within mA ns) (hsz : ns.length ≤ sizeLine)
    (h : ∀ h', ObjM h' x dx C (fun y => if y = name then some v else mA y) → Heap.SameBut dx s.heap h' → Q () { s with heap := h', toks := s.toks + 2 }) :
    wpAny (model prog w) A (setAttr (.ref x) name v) Q E s := by
  obtain ⟨od, J, hl⟩ := I.look
  refine PySem.W.set_plain X J hs (PySem.W.osa_open (s := { s with toks := s.toks + 1 }) (r := none) X J hp ht fun b => ?_)
  obtain ⟨cd, hc, hd'⟩ := PySem.W.any_some hh
  have hx : s.heap.get? x = some ⟨.ref C, some dx, .plain, #[]⟩ := I.obj
  refine wpAny_bind (wpAny_pure (wpAny_bind (wpAny_bind (wpAny_loadPart hx (wpAny_bind (PySem.W.Looks.here (s := { s with toks := s.toks + 1 }) (PySem.W.looks_clsIn X hc) ?_))))))
  rw [hd']
  refine wpAny_pure (a := some dx) (wpAny_bind (wpAny_pure (wpAny_bind ?_)))
  refine wpAny_nsSet1 (s := { s with toks := s.toks + 1 }) I.ns fun h' hn2 hs2 => ?_
  obtain ⟨oD, esD, epD, hoD, hdD, hcD⟩ := hn2.count (PySem.Within.cons name v hw)
  refine wpAny_bind (wpAny_lookBehind hoD (by rw [hdD]; exact pastItsLine_dict (Nat.le_trans hcD (by rw [List.length_cons]; omega))) ?_)
  exact wpAny_pure (h _ ⟨(hs2.2 _ (Ne.symm I.ne)).trans I.obj, hn2, I.ne⟩ hs2)

/-- C(..): the dict at the heap's end, the instance behind it; then its __init__ -/
theorem make_map {R : Result → Shared → Prop} {vs : List Value} {kw : List (Str × Value)} (X : K.In s.heap) (hm : PySem.W.makesIn K C = true)
    (hi : PySem.W.findIn K (.ref C) "__init__" = some (some (.ref f))) (hf : PySem.W.typeIn K (.ref f) = some (.type "function"))
    (h : codeAny (model prog w) (A.under (.builtin "type.__call__" ⟨.ref C :: vs, kw⟩)) (.call (.ref f) ⟨.ref (s.heap.objs.size + 1) :: vs, kw⟩) (PySem.W.InitBack (s.heap.objs.size + 1) R)
      { s with heap := (s.heap.push PySem.W.emptyDict).push (PySem.W.instObj C s.heap.objs.size) }) :
    codeAny (model prog w) A (.call (.ref C) ⟨vs, kw⟩) R s := by
  obtain ⟨hh, g, d, t, os⟩ := s
  exact PySem.W.make_core (PySem.W.makes_of X hm) (PySem.W.looks_findIn X hi) (fun self => PySem.W.bind_fn X self hf) (.inl rfl) h
end

/-! ### the attributes as a list of pairs -/
def putF (f : Str) (v : V) : List (Str × V) → List (Str × V)
  | [] => [(f, v)]
  | (g, x) :: r => if g = f then (g, v) :: r else (g, x) :: putF f v r
theorem lookup_putF (f g : Str) (v : V) : ∀ fs : List (Str × V), (putF f v fs).lookup g = if g = f then some v else fs.lookup g
  | [] => by
    show List.lookup g [(f, v)] = _
    by_cases h : g = f
    · have hb : (g == f) = true := beq_iff_eq.mpr h
      simp only [List.lookup, hb, if_pos h]
    · have hb : (g == f) = false := beq_eq_false_iff_ne.mpr h
      simp only [List.lookup, hb, if_neg h]
  | (k, x) :: r => by
    have ih := lookup_putF f g v r
    rw [show putF f v ((k, x) :: r) = (if k = f then (k, v) :: r else (k, x) :: putF f v r) from rfl]
    by_cases hk : k = f
    · rw [if_pos hk]
      by_cases h : g = k
      · have hb : (g == k) = true := beq_iff_eq.mpr h
        simp only [List.lookup, hb, if_pos (h.trans hk)]
      · have hb : (g == k) = false := beq_eq_false_iff_ne.mpr h
        simp only [List.lookup, hb, if_neg (fun e : g = f => h (e.trans hk.symm))]
    · rw [if_neg hk]
      by_cases h : g = k
      · have hb : (g == k) = true := beq_iff_eq.mpr h
        simp only [List.lookup, hb, if_neg (fun e : g = f => hk (h.symm.trans e))]
      · have hb : (g == k) = false := beq_eq_false_iff_ne.mpr h
        simp only [List.lookup, hb]
        exact ih
theorem keys_putF (f : Str) (v : V) : ∀ fs : List (Str × V), f ∈ (putF f v fs).map (·.1) ∧ ∀ g, g ∈ fs.map (·.1) → g ∈ (putF f v fs).map (·.1)
  | [] => ⟨by simp [putF], fun g h => by simp at h⟩
  | (k, x) :: r => by
    obtain ⟨i1, i2⟩ := keys_putF f v r
    rw [show putF f v ((k, x) :: r) = (if k = f then (k, v) :: r else (k, x) :: putF f v r) from rfl]
    by_cases hk : k = f
    · rw [if_pos hk]
      subst hk
      exact ⟨by simp, fun g h => by simpa using h⟩
    · rw [if_neg hk]
      refine ⟨?_, fun g h => ?_⟩
      · rw [List.map_cons]
        exact List.mem_cons_of_mem _ i1
      · rw [List.map_cons] at h ⊢
        rcases List.mem_cons.mp h with e | e
        · exact List.mem_cons.mpr (.inl e)
        · exact List.mem_cons_of_mem _ (i2 g e)
theorem length_putF (f : Str) (v : V) : ∀ fs : List (Str × V), (putF f v fs).length ≤ fs.length + 1
  | [] => by simp [putF]
  | (k, x) :: r => by
    have ih := length_putF f v r
    rw [show putF f v ((k, x) :: r) = (if k = f then (k, v) :: r else (k, x) :: putF f v r) from rfl]
    by_cases hk : k = f
    · rw [if_pos hk, List.length_cons, List.length_cons]; omega
    · rw [if_neg hk, List.length_cons, List.length_cons]; omega

theorem RelO.some_of {v : V} {o : Option Value} (r : RelO (some v) o) : ∃ u, o = some u ∧ RelV v u := by
  cases o with
  | none => exact (show False from r).elim
  | some u => exact ⟨u, rfl, r⟩
theorem RelO.none_of {o : Option Value} (r : RelO none o) : o = none := by
  cases o with
  | none => rfl
  | some u => exact (show False from r).elim
theorem handed_of {v : V} {u : Value} (r : RelV v u) : PySem.W.handedIn u = true := by
  cases v with
  | non => cases (show u = Value.none from r); rfl
  | bl b => cases (show u = Value.bool b from r); rfl
  | int i => obtain ⟨t, e⟩ := (show ∃ t, u = Value.int i t from r); cases e; rfl
  | str x => obtain ⟨t, e⟩ := (show ∃ t, u = Value.str x t from r); cases e; rfl
  | byt b => obtain ⟨t, e⟩ := (show ∃ t, u = Value.bytes b t from r); cases e; rfl
  | flt b => obtain ⟨t, e⟩ := (show ∃ t, u = Value.float b t from r); cases e; rfl
  | ref a => cases (show u = Value.ref a from r); rfl
  | ty n => cases (show u = Value.type n from r); rfl

section
variable {P : Program} {w : World} {H H' : Hp} {h h' : Heap} {a C dx : Addr} {fs fs' : List (Str × V)}
theorem ins_get (hok : HOk P w H h) (e : H a = some (.ins C dx fs)) : ∃ mA, ObjM h a dx C mA ∧ (∀ f, RelO (fs.lookup f) (mA f)) ∧ PySem.Within mA (fs.map (·.1)) ∧ fs.length ≤ 1000 ∧ H dx = some (.own a) := by
  obtain ⟨d, z, ne, ob, mA, n, r, q⟩ := (show ObjOk P w H h a (.ins C dx fs) from hok a _ e)
  exact ⟨mA, ⟨ob, n, ne⟩, r, q, z, d⟩
end

/-! ### what of the text a class must have -/
structure Cls (K : PySem.W.Frag) (C : Addr) : Prop where
  pg : PySem.W.plainGet K C Str.empty = true
  hd : PySem.W.hasDictIn K C = true
  po : PySem.W.plainOver K C = true
  sa : PySem.W.findIn K (.ref C) "__setattr__" = some (some (.builtin "object.__setattr__"))
theorem Cls.get {K : PySem.W.Frag} {C : Addr} (c : Cls K C) (f : Str) : PySem.W.plainGet K C f = true := c.pg
/-- no class of it has the name -/
def NoAttr (K : PySem.W.Frag) (C : Addr) (f : Str) : Prop := PySem.W.findIn K (.ref C) f = some none
theorem NoAttr.taker {K : PySem.W.Frag} {C : Addr} {f : Str} (n : NoAttr K C f) : PySem.W.takerIn K C f = some none := by
  unfold PySem.W.takerIn
  rw [show PySem.W.findIn K (.ref C) f = some none from n]
  rfl
/-- a constant of the class -/
structure Con (K : PySem.W.Frag) (C : Addr) (f : Str) (v : V) (u : Value) : Prop where
  at_ : PySem.W.findIn K (.ref C) f = some (some u)
  rel : RelV v u
  get : PySem.W.specialIn K u "__get__" = some none
  cp : PySem.W.copiedNames.contains f = false
/-- a method: a plain def of the class or of one above it -/
structure Meth (K : PySem.W.Frag) (C : Addr) (m : Str) (f : Addr) : Prop where
  at_ : PySem.W.findIn K (.ref C) m = some (some (.ref f))
  fn : PySem.W.isFn K (.ref f) = true
  kp : PySem.W.keepIn K (.ref f) = true

section
variable {X : Cx} {pins : List (Addr × Obj)} {σ : St} {H : Hp} {s : Shared} {a C dx : Addr} {fs : List (Str × V)} {f : Str} {v : V} {A : Around} {E : Value → Shared → Prop}

theorem getattr_ok {b : Bool} {Q : Value → Shared → Prop} (I : Inv X pins σ H s) (e : H a = some (.ins C dx fs)) (c : Cls X.K C) (n : NoAttr X.K C f) (l : fs.lookup f = some v)
    (h : ∀ u s', Inv X pins σ H s' → RelV v u → Q u s') : wpAny (model X.prog X.w) A (getAttr (.ref a) f b) Q E s := by
  obtain ⟨mA, O, r, _, _, _⟩ := ins_get I.hok e
  obtain ⟨u, hu, ru⟩ := RelO.some_of (v := v) (o := mA f) (by rw [← l]; exact r f)
  exact get_map I.kIn O (c.get f) c.hd n hu (handed_of ru) (h u _ (I.tok _) ru)


theorem getmeth_ok {m : Str} {g : Addr} {pl : Sem Bool} {Q : Value × List Value → Shared → Prop} (I : Inv X pins σ H s) (e : H a = some (.ins C dx fs)) (c : Cls X.K C) (k : Meth X.K C m g) (l : fs.lookup m = none)
    (h : Q (.ref g, [.ref a]) s) : wpAny (model X.prog X.w) A (getMethod (.ref a) m pl) Q E s := by
  obtain ⟨mA, O, r, _, _, _⟩ := ins_get I.hok e
  have hn : mA m = none := RelO.none_of (by rw [← l]; exact r m)
  exact get_meth I.kIn O (c.get m) k.at_ k.fn hn h

theorem setattr_ok {y : V} {u : Value} {Q : Unit → Shared → Prop} (I : Inv X pins σ H s) (e : H a = some (.ins C dx fs)) (c : Cls X.K C) (n : NoAttr X.K C f) (hl : fs.length < 1000) (ry : RelV y u)
    (h : ∀ s', Inv X pins σ (upd H a (.ins C dx (putF f y fs))) s' → Q () s') : wpAny (model X.prog X.w) A (setAttr (.ref a) f u) Q E s := by
  obtain ⟨mA, O, r, wi, _, ho⟩ := ins_get I.hok e
  have hz : (fs.map (·.1)).length ≤ sizeLine := by rw [List.length_map, sizeLine_eq]; omega
  refine set_map I.kIn O c.sa c.po n.taker c.hd wi hz fun h' O' sb => h _ ?_
  have hd : ∃ o, h'.get? dx = some o := let ⟨o, _, _, e', _⟩ := O'.ns; ⟨o, e'⟩
  refine I.write (x := a) (e := dx) (by rw [e]; exact True.intro) (.inr ho) (fun b q hb z => (sb.2 b hb).trans z) hd ?_
  refine ⟨by rw [upd_ne O.ne]; exact ho, ?_, O.ne, O'.obj, _, O'.ns, fun g => ?_, fun g hg => ?_⟩
  · have := length_putF f y fs; omega
  · show RelO ((putF f y fs).lookup g) (if g = f then some u else mA g)
    rw [lookup_putF]
    by_cases q : g = f
    · rw [if_pos q, if_pos q]; exact ry
    · rw [if_neg q, if_neg q]; exact r g
  · by_cases q : g = f
    · rw [q]; exact (keys_putF f y fs).1
    · refine (keys_putF f y fs).2 g (wi g fun z => hg ?_)
      show (if g = f then some u else mA g) = none
      rw [if_neg q]; exact z

/-- a new instance, tracked, without attributes -/
theorem Inv.made (I : Inv X pins σ H s) : Inv X pins σ (upd (upd H s.heap.objs.size (.own (s.heap.objs.size + 1))) (s.heap.objs.size + 1) (.ins C s.heap.objs.size []))
    { s with heap := (s.heap.push PySem.W.emptyDict).push (PySem.W.instObj C s.heap.objs.size) } := by
  have e1 : (s.heap.push PySem.W.emptyDict).get? s.heap.objs.size = some PySem.W.emptyDict := Heap.get?_push_size s.heap rfl
  have e2 : ((s.heap.push PySem.W.emptyDict).push (PySem.W.instObj C s.heap.objs.size)).get? (s.heap.objs.size + 1) = some (PySem.W.instObj C s.heap.objs.size) := by
    have := Heap.get?_push_size (s.heap.push PySem.W.emptyDict) (o := PySem.W.instObj C s.heap.objs.size) rfl
    rwa [Heap.size_push] at this
  have e3 : (s.heap.push PySem.W.emptyDict).Ns s.heap.objs.size (fun _ => none) := ⟨PySem.W.emptyDict, #[], _, e1, rfl, (fun e he => absurd he (by simp)), fun _ => rfl⟩
  have I1 := I.laid (a := s.heap.objs.size) (o := .own (s.heap.objs.size + 1)) (h' := s.heap.push PySem.W.emptyDict) (t' := s.toks) (fun b u q => Heap.get?_push_of_some _ q) (Nat.le_refl _) ⟨_, e1⟩
  refine I1.laid (a := s.heap.objs.size + 1) (o := .ins C s.heap.objs.size []) (t' := s.toks) (fun b u q => Heap.get?_push_of_some _ q) (Nat.le_of_eq (Heap.size_push _ _)) ?_
  have ne : s.heap.objs.size ≠ s.heap.objs.size + 1 := Nat.ne_of_lt (Nat.lt_succ_self _)
  refine ⟨by rw [upd_ne ne, upd_same], Nat.zero_le _, ne, e2, fun _ => none, (Heap.Ns1.of_empty e3).at fun o q => Heap.get?_push_of_some _ q, fun _ => True.intro, fun y hy => absurd rfl hy⟩

/-- e.f where nothing but the object is asked: through attributeBase (super) and the last hold -/
theorem attr_of {prog : Program} {w : World} {env : Env} {e : Expr} {f : Str} {pos : Pos} {s : Shared} {Q : Value → Shared → Prop} (hb : attributeBase e f env (eval e env) = eval e env)
    (h : wpAny (model prog w) A (eval e env) (fun o s₁ => wpAny (model prog w) A (getAttr o f true) Q E s₁) E s) : wpAny (model prog w) A (eval (.Attribute e f pos) env) Q E s :=
  Attribute_any_ h (by rw [arm_eval_Attribute, hb])
end

/-! ### readings and rules -/
/-- e.f, an attribute of the instance -/
def tFld (K : PySem.W.Frag) (ta : TE) (f : Str) : TE := fun σ H Q => ta σ H fun x H1 => ∃ a C dx fs v, x = .ref a ∧ H1 a = some (.ins C dx fs) ∧ Cls K C ∧ NoAttr K C f ∧ fs.lookup f = some v ∧ Q v H1
/-- e.f, a constant of the class -/
def tCon (K : PySem.W.Frag) (ta : TE) (f : Str) : TE := fun σ H Q => ta σ H fun x H1 => ∃ a C dx fs v u, x = .ref a ∧ H1 a = some (.ins C dx fs) ∧ Cls K C ∧ Con K C f v u ∧ fs.lookup f = none ∧ Q v H1
/-- e.f = value -/
def sFld (K : PySem.W.Frag) (ta tv : TE) (f : Str) : TS := fun D σ H => tv σ H fun y H1 => ta σ H1 fun x H2 => ∃ a C dx fs, x = .ref a ∧ H2 a = some (.ins C dx fs) ∧ Cls K C ∧ NoAttr K C f ∧ fs.length < 1000 ∧
  D.nx σ (upd H2 a (.ins C dx (putF f y fs)))
/-- an augmented operator on two values -/
def InOp (X : Cx) (op : Operator) (rd : V → V → Hp → VK → Prop) : Prop :=
  ∀ (pins : List (Addr × Obj)) (s : Shared) (σ : St) (H : Hp) (x y : V) (u v : Value) (Q : VK), Inv X pins σ H s → RelV x u → RelV y v → rd x y H Q → wpAny (model X.prog X.w) X.A (inplaceOp op u v) (EP X pins σ Q) X.xe s
/-- e.f op= value -/
def sFldAug (K : PySem.W.Frag) (ta tv : TE) (rd : V → V → Hp → VK → Prop) (f : Str) : TS := fun D σ H => ta σ H fun x H1 => ∃ a C dx fs v, x = .ref a ∧ H1 a = some (.ins C dx fs) ∧ Cls K C ∧ NoAttr K C f ∧ fs.lookup f = some v ∧
  tv σ H1 fun y H2 => rd v y H2 fun z H3 => ∃ dx' fs', H3 a = some (.ins C dx' fs') ∧ fs'.length < 1000 ∧ D.nx σ (upd H3 a (.ins C dx' (putF f z fs')))

section
variable {X : Cx} {o e value : Expr} {f : Str} {pos pos' tpos : Pos} {ta tv : TE}
theorem pe_fld (he : PE X e ta) (hb : attributeBase e f X.env (eval e X.env) = eval e X.env) : PE X (.Attribute e f pos) (tFld X.K ta f) := by
  intro pins s σ H Q I h
  refine attr_of hb (thn (he pins s σ H _ I h) fun u s1 ⟨x, H1, I1, rx, a, C, dx, fs, v, ex, ea, c, n, l, q⟩ => ?_)
  subst ex
  obtain rfl : u = Value.ref a := rx
  exact getattr_ok I1 ea c n l fun u' s2 I2 ru => ⟨v, H1, I2, ru, q⟩
theorem ps_fld (ha : PE X o ta) (hv : PE X value tv) (hs : swapsWith value (some (.Attribute o f pos')) pos.line X.env = pure false) : PS X (.Assign [.Attribute o f pos'] value pos) (sFld X.K ta tv f) := by
  intro pins s σ H D I h
  refine plainObj_wpAny_Assign_Attribute (thn (hv pins s σ H _ I h) fun u s1 ⟨y, H1, I1, ry, q⟩ => thn (ha pins s1 σ H1 _ I1 q) fun ov s2 ⟨x, H2, I2, rx, a, C, dx, fs, ex, ea, c, n, l, q2⟩ => ?_) hs
  subst ex
  obtain rfl : ov = Value.ref a := rx
  exact setattr_ok I2 ea c n l ry fun s3 I3 => ⟨σ, _, I3, q2⟩
def rAdd : V → V → Hp → VK → Prop := fun x y H Q => ∃ i j, x = .int i ∧ y = .int j ∧ Q (.int (i + j)) H
def rSub : V → V → Hp → VK → Prop := fun x y H Q => ∃ i j, x = .int i ∧ y = .int j ∧ Q (.int (i - j)) H

end

/-! ### isinstance -/
section
variable {X : Cx} {pins : List (Addr × Obj)} {σ : St} {H : Hp} {s : Shared} {A : Around} {E : Value → Shared → Prop} {Q : Value → Shared → Prop} {c : Value} {b : Bool}
/-- the type of a value, as the fragment's deciders take it; for an instance its class -/
inductive TyOf (K : PySem.W.Frag) (H : Hp) : V → Value → Prop where
  | non : TyOf K H .non (.type "NoneType")
  | bl (x : Bool) : TyOf K H (.bl x) (.type "bool")
  | int (i : Int) : TyOf K H (.int i) (.type "int")
  | str (x : Str) : TyOf K H (.str x) (.type "str")
  | flt (x : UInt64) : TyOf K H (.flt x) (.type "float")
  | lst {a : Addr} {xs : List V} (e : H a = some (.lst xs)) : TyOf K H (.ref a) (.type "list")
  | frz {a : Addr} {o : Obj} {xs : List V} (e : H a = some (.frz o (.lst xs))) : TyOf K H (.ref a) (.type "list")
  | tup {a : Addr} {xs : List V} (e : H a = some (.tup xs)) : TyOf K H (.ref a) (.type "tuple")
  | dK {a : Addr} {kvs : List (Key × V)} (e : H a = some (.dK kvs)) : TyOf K H (.ref a) (.type "dict")
  | dT {a : Addr} {kvs : List (List Key × V)} (e : H a = some (.dT kvs)) : TyOf K H (.ref a) (.type "dict")
  | ins {a C dx : Addr} {fs : List (Str × V)} (e : H a = some (.ins C dx fs)) (cl : Cls K C) (ha : PySem.W.findIn K (.ref C) "__class__" = some (some (.builtin "object.__class__")))
      (hn : PySem.W.specialIn K (.builtin "object.__class__") "__get__" = some (some (.builtin "getset_descriptor.__get__"))) (htk : PySem.W.takesIn K (.builtin "object.__class__") = some true)
      (hm : PySem.W.mroIn K C (.type "object") = some true) : TyOf K H (.ref a) (.ref C)
end
end L2

namespace L2
open PySem PySem.Spec PyProof.Rows

/-! ### room -/
structure Room (k : Nat) (A : Around) : Prop where
  hd : A.handled = none
  dp : A.depth + 3 * k + 5 < recursionLimit
  un : A.units + 16 * k + 200 < cLine
theorem Room.mono {j k : Nat} {A : Around} (r : Room k A) (h : j ≤ k) : Room j A := ⟨r.hd, by have := r.dp; omega, by have := r.un; omega⟩
theorem Room.deeper {k : Nat} {A : Around} (r : Room (k + 1) A) (env : Env) : Room k (A.deeper env) :=
  ⟨r.hd, by have := r.dp; show A.depth + 1 + 3 * k + 5 < _; omega, by have := r.un; show A.units + 3 + 16 * k + 200 < _; omega⟩
theorem make_depth {A : Around} {C : Addr} {us : List Value} {kw : List (Str × Value)} : (A.under (.builtin "type.__call__" ⟨.ref C :: us, kw⟩)).depth = A.depth + 1 := by
  first | rfl | simp [Around.under, Code.weight, Code.isCreation, Code.isGuard, Code.isCaller, Code.frames, Code.isFrame, guardIds]
theorem make_units {A : Around} {C : Addr} {us : List Value} {kw : List (Str × Value)} : (A.under (.builtin "type.__call__" ⟨.ref C :: us, kw⟩)).units = A.units + 1 := by
  first | rfl | simp [Around.under, Code.cUnits, Code.frames, Code.isFrame]
theorem Room.make {k : Nat} {A : Around} (r : Room (k + 1) A) (C : Addr) (us : List Value) (kw : List (Str × Value)) : Room k (A.under (.builtin "type.__call__" ⟨.ref C :: us, kw⟩)) :=
  ⟨r.hd, by have := r.dp; rw [make_depth]; omega, by have := r.un; rw [make_units]; omega⟩
theorem Room.depth {k : Nat} {A : Around} (r : Room k A) : A.depth < recursionLimit := by have := r.dp; omega

/-! ### argument lists and displays -/
def tNil : TA := fun _ H Q => Q [] H
def tCons (ta : TE) (tr : TA) : TA := fun σ H Q => ta σ H fun x H1 => tr σ H1 fun xs H2 => Q (x :: xs) H2
section
variable {X : Cx} {e : Expr} {es : List Expr} {te : TE} {t : TA} {pos : Pos}
theorem pa_nil : PA X [] tNil := fun _ _ _ _ H Q I h => Calls.spliced_nil ⟨[], H, I, .nil, h⟩
theorem pa_cons (ha : PE X e te) (hr : PA X es t) (hs : starEach (e :: es) X.env = (false, eval e X.env) :: starEach es X.env := by rfl) : PA X (e :: es) (tCons te t) := by
  intro pos pins s σ H Q I h
  rw [hs]
  show wpAny _ _ (spliced ((false, eval e X.env) :: backTo pos (starEach es X.env))) _ _ s
  refine Calls.spliced_cons (thn (ha pins s σ H _ I h) fun u s1 ⟨x, H1, I1, r1, q1⟩ => ?_)
  exact thn (hr pos pins s1 σ H1 _ I1 q1) fun us s2 ⟨xs, H2, I2, r2, q2⟩ => ⟨x :: xs, H2, I2, .cons r1 r2, q2⟩

/-- a tuple, a list of written items -/
def tTup (t : TA) : TE := fun σ H Q => t σ H fun xs H1 => xs.length ≤ sizeLine ∧ ∀ p, H1 p = none → Q (.ref p) (upd H1 p (.tup xs))
def tLst (t : TA) : TE := fun σ H Q => t σ H fun xs H1 => xs.length ≤ sizeLine ∧ ∀ p, H1 p = none → Q (.ref p) (upd H1 p (.lst xs))
theorem pe_lst (h : PA X es t) : PE X (.List es pos) (tLst t) := by
  intro pins s σ H Q I hq
  refine wpAny_List_spliced (thn (h pos pins s σ H _ I hq) fun us s1 ⟨xs, H1, I1, r, z, q⟩ => ⟨by rw [← r.length]; exact z, ?_⟩)
  have hf : H1 s1.heap.objs.size = none := I1.hok.fresh (Nat.le_refl _)
  refine ⟨.ref s1.heap.objs.size, upd H1 s1.heap.objs.size (.lst xs), I1.laid (t' := s1.toks) (fun b u e => Heap.get?_push_of_some _ e) (Nat.le_refl _) ?_, rfl, q _ hf⟩
  exact ⟨z, us, 0, r, Heap.get?_push_size _ rfl⟩
end

/-! ### what a def promises -/
/-- a def's promise: the bound arguments in the parameters' order, the heap, the wanted end, the wanted exception -/
abbrev Sp := List V → Hp → VK → XK → Prop
/-- how an exception lies behind a call (file 08 gives it): the callers' frames, abstract heap and state ahead of the call, the wish, the exception, the state -/
abbrev CXT := List Env → Hp → Shared → XK → Value → Shared → Prop

/-- the state at a call -/
structure Env0 (P : Program) (w : World) (K : PySem.W.Frag) (mg : Str → Option Value) (base : Heap) (A : Around) (outer : List Env) (s : Shared) (H : Hp) : Prop where
  frames : A.frames = some outer
  mod : Mod K mg base
  bs : ∀ b o, base.get? b = some o → s.heap.get? b = some o ∧ H b = none
  bsz : base.objs.size ≤ s.heap.objs.size
  funs : s.heap.FunFrames base outer
  frf : ∀ b ∈ frs outer, H b = none
  hok : HOk P w H s.heap
  bare : AllBare s.gens
/-- a call's end -/
def CE (outer : List Env) (P : Program) (w : World) (H : Hp) (s : Shared) (Q : VK) (u : Value) (s' : Shared) : Prop :=
  ∃ v H', s'.os = s.os ∧ AllBare s'.gens ∧ Un (frs outer) [] H H' s.heap s'.heap ∧ HOk P w H' s'.heap ∧ RelV v u ∧ Q v H'
def CR (CX : CXT) (outer : List Env) (P : Program) (w : World) (H : Hp) (s : Shared) (Q : VK) (E : XK) (r : Result) (s' : Shared) : Prop :=
  match r with
  | .ok (.ret u) => CE outer P w H s Q u s'
  | .ok _ => False
  | .error e => CX outer H s E e s'
structure FnOk (P : Program) (w : World) (K : PySem.W.Frag) (mg : Str → Option Value) (base : Heap) (CX : CXT) (k : Nat) (f : Addr) (fd : FuncData) (ps : List Str) (sp : Sp) : Prop where
  len : ∀ vs H Q E, sp vs H Q E → vs.length = ps.length
  run : ∀ (A : Around) (outer : List Env) (s : Shared) (H : Hp) (args : Args) (us : List Value) (vs : List V) (Q : VK) (E : XK), Room k A → Env0 P w K mg base A outer s H → BindsTo s fd args (ps.zip us) → Vals vs us → sp vs H Q E →
    codeAny (model P w) A (.call (.ref f) args) (CR CX outer P w H s Q E) s

theorem Env0.make {P : Program} {w : World} {K : PySem.W.Frag} {mg : Str → Option Value} {base : Heap} {A : Around} {outer : List Env} {s : Shared} {H : Hp} (e : Env0 P w K mg base A outer s H) (C : Addr) (us : List Value) (kw : List (Str × Value)) :
    Env0 P w K mg base (A.under (.builtin "type.__call__" ⟨.ref C :: us, kw⟩)) outer s H := ⟨by first | exact e.frames | (simpa [Around.under, Code.envs, Code.isFrame, pushEnvs] using e.frames), e.mod, e.bs, e.bsz, e.funs, e.frf, e.hok, e.bare⟩

section
variable {X : Cx} {pins : List (Addr × Obj)} {σ : St} {H : Hp} {s s' : Shared}
/-- from a body: what a callee wants -/
theorem Inv.env0 (I : Inv X pins σ H s) : Env0 X.prog X.w X.K X.mg X.base X.A X.stack s H :=
  ⟨I.ok.frames, I.ok.mod, I.bs, Nat.le_trans I.ok.bsz I.sz, I.stack, I.stkFree, I.hok, I.bare⟩
/-- behind a call -/
theorem Inv.after {Q : VK} {u : Value} (I : Inv X pins σ H s) (h : CE X.stack X.prog X.w H s Q u s') : EP X pins σ Q u s' := by
  obtain ⟨v, H', os, bare, un, hok, r, q⟩ := h
  obtain ⟨hh, g, d, t, os'⟩ := s'
  obtain rfl : os' = s.os := os
  exact ⟨v, H', I.call (h' := hh) (g' := g) (d' := d) (t' := t) (ch := []) un hok bare (fun b z => absurd z (by simp)), r, q⟩
end

/-! ### calls -/
/-- f(..): the written arguments, then the defaults dvs; E: what is wanted of an exception -/
def tCall (sp : Sp) (dvs : List V) (E : XK) (t : TA) : TE := fun σ H Q => t σ H fun vs H1 => sp (vs ++ dvs) H1 Q E
/-- o.m(..) of an instance of the class at C -/
def tMeth (C : Addr) (m : Str) (sp : Sp) (dvs : List V) (E : XK) (ta : TE) (t : TA) : TE := fun σ H Q => ta σ H fun x H1 => ∃ a dx fs, x = .ref a ∧ H1 a = some (.ins C dx fs) ∧ fs.lookup m = none ∧
  t σ H1 fun vs H2 => sp (x :: (vs ++ dvs)) H2 Q E
/-- C(..): a new instance and its dict, then __init__ -/
def tMake (C : Addr) (sp : Sp) (dvs : List V) (E : XK) (t : TA) : TE := fun σ H Q => t σ H fun vs H1 => ∀ x dx, H1 x = none → H1 dx = none → dx ≠ x →
  sp (.ref x :: (vs ++ dvs)) (upd (upd H1 dx (.own x)) x (.ins C dx [])) (fun v H2 => v = .non ∧ Q (.ref x) H2) E

/-- how the parameters are bound: us the positional arguments, kw the keywords' values by name, ds the defaults that fill up -/
def Binds (K : PySem.W.Frag) (fd : FuncData) (ps : List Str) (ds : List Value) : Prop :=
  ∀ (s : Shared) (us : List Value), K.In s.heap → (us ++ ds).length = ps.length → BindsTo s fd ⟨us, []⟩ (ps.zip (us ++ ds))
/-- every parameter is given -/
theorem Binds.all {K : PySem.W.Frag} {fd : FuncData} {ps : List Str} (h : ∀ us : List Value, us.length = ps.length → bindArgs fd ⟨us, []⟩ = pure (ps.zip us)) : Binds K fd ps [] := fun s us _ hl => by
  rw [List.append_nil] at hl ⊢
  exact .of_eq (h us hl)

/-- an exception of a callee reaches what this body wants of exceptions -/
def Passes (CX : CXT) (X : Cx) (E : XK) : Prop := ∀ (pins : List (Addr × Obj)) (σ : St) (H : Hp) (s : Shared) (e : Value) (s' : Shared), Inv X pins σ H s → CX X.stack H s E e s' → X.xe e s'

section
variable {X : Cx} {CX : CXT} {k : Nat} {f C : Addr} {fd : FuncData} {ps : List Str} {sp : Sp} {dvs : List V} {ds : List Value} {E : XK} {x m : Str} {p pos apos : Pos} {e o : Expr} {es : List Expr} {ta : TE} {t : TA}

/-- the callee runs -/
theorem run_fn {pins : List (Addr × Obj)} {σ : St} {H : Hp} {s : Shared} {Q : VK} {us : List Value} {vs : List V} (F : FnOk X.prog X.w X.K X.mg X.base CX k f fd ps sp) (hr : Room k X.A) (hb : Binds X.K fd ps ds) (hd : Vals dvs ds) (hx : Passes CX X E)
    (I : Inv X pins σ H s) (r : Vals vs us) (h : sp (vs ++ dvs) H Q E) : wpAny (model X.prog X.w) X.A (call (.ref f) us) (EP X pins σ Q) X.xe s := by
  have r2 : Vals (vs ++ dvs) (us ++ ds) := r.append hd
  have hl : (us ++ ds).length = ps.length := by rw [← r2.length]; exact F.len _ _ _ _ h
  refine wpAny_call (codeAny_mono (F.run X.A X.stack s H ⟨us, []⟩ (us ++ ds) (vs ++ dvs) Q E hr I.env0 (hb s us I.kIn hl) r2 h) fun r s' hq => ?_)
  cases r with
  | error e => exact hx pins σ H s e s' I hq
  | ok fl =>
    cases fl with
    | ret u => exact I.after hq
    | next => exact False.elim hq
    | brk => exact False.elim hq
    | cont => exact False.elim hq

theorem pe_call (F : FnOk X.prog X.w X.K X.mg X.base CX k f fd ps sp) (hr : Room k X.A) (hg : Gl X x) (hm : X.mg x = some (.ref f)) (hk : PySem.W.keepIn X.K (.ref f) = true) (hb : Binds X.K fd ps ds) (hd : Vals dvs ds) (hx : Passes CX X E)
    (ha : PA X (e :: es) t) (hdb : (x == ("__debug__" : Str)) = false := by decide) (he : starEach (e :: es) X.env = (false, eval e X.env) :: starEach es X.env := by rfl) (hpl : (backTo pos (starEach es X.env)).any (·.1) = false := by rfl) :
    PE X (.Call (.Name x p) (e :: es) [] pos) (tCall sp dvs E t) := by
  intro pins s σ H Q I h
  refine wpAny_Call_Name_kw (ld_glob I hg hm ?_ hdb)
  refine PySem.W.callWith_K (h₀ := X.base) I.ok.mod.kin hk (thn (ha pos pins s σ H _ I h) fun us s1 ⟨vs, H1, I1, r, q⟩ => ⟨I1.kIn, ?_⟩) he hpl
  exact run_fn F hr hb hd hx I1 r q

/-- o.m(e, ..) -/
theorem pe_meth {pl : Sem Bool} (he : PE X o ta) (c : Cls X.K C) (hm : Meth X.K C m f) (F : FnOk X.prog X.w X.K X.mg X.base CX k f fd ps sp) (hr : Room k X.A) (hb : Binds X.K fd ps ds) (hd : Vals dvs ds) (hx : Passes CX X E) (ha : PA X (e :: es) t)
    (hst : starEach (e :: es) X.env = (false, eval e X.env) :: starEach es X.env := by rfl) (hpl : (backTo pos (starEach es X.env)).any (·.1) = false := by rfl)
    (ht : eval (.Call (.Attribute o m apos) (e :: es) [] pos) X.env = (do
      let ov ← eval o X.env
      standAt apos.atName
      let (f, first) ← holding [ov] (getMethod ov m pl)
      callWith pos f first (backTo pos (starEach (e :: es) X.env)) (backToKw pos (keywordEach [] X.env))) := by rfl) :
    PE X (.Call (.Attribute o m apos) (e :: es) [] pos) (tMeth C m sp dvs E ta t) := by
  intro pins s σ H Q I h
  refine PySem.W.methodCall_KW (pl := pl) (thn (he pins s σ H _ I h) fun u s1 ⟨x, H1, I1, rx, a, dx, fs, ex, ea, l, q⟩ => ?_) ht
  subst ex
  obtain rfl : u = Value.ref a := rx
  refine getmeth_ok I1 ea c hm l ?_
  refine PySem.W.callWith_K (first := [.ref a]) (h₀ := X.base) I.ok.mod.kin hm.kp (thn (ha pos pins s1 σ H1 _ I1 q) fun us s2 ⟨vs, H2, I2, r, q2⟩ => ⟨I2.kIn, ?_⟩) hst hpl
  exact run_fn (us := .ref a :: us) (vs := .ref a :: vs) F hr hb hd hx I2 (.cons rfl r) q2

/-- what a class must have to be made -/
structure Mk (K : PySem.W.Frag) (C f : Addr) : Prop where
  makes : PySem.W.makesIn K C = true
  init : PySem.W.findIn K (.ref C) "__init__" = some (some (.ref f))
  fn : PySem.W.isFn K (.ref f) = true
  kp : PySem.W.keepIn K (.ref C) = true

theorem run_make {pins : List (Addr × Obj)} {σ : St} {H : Hp} {s : Shared} {Q : VK} {us : List Value} {vs : List V} (M : Mk X.K C f) (F : FnOk X.prog X.w X.K X.mg X.base CX k f fd ps sp) (hr : Room (k + 1) X.A) (hb : Binds X.K fd ps ds) (hd : Vals dvs ds)
    (hx : Passes CX X E) (I : Inv X pins σ H s) (r : Vals vs us)
    (h : ∀ x dx, H x = none → H dx = none → dx ≠ x → sp (.ref x :: (vs ++ dvs)) (upd (upd H dx (.own x)) x (.ins C dx [])) (fun v H2 => v = .non ∧ Q (.ref x) H2) E) :
    wpAny (model X.prog X.w) X.A (call (.ref C) us) (EP X pins σ Q) X.xe s := by
  have hq := h (s.heap.objs.size + 1) s.heap.objs.size (I.hok.fresh (Nat.le_succ _)) (I.hok.fresh (Nat.le_refl _)) (Nat.ne_of_lt (Nat.lt_succ_self _))
  have I2 := Inv.made (C := C) I
  have r2 : Vals (V.ref (s.heap.objs.size + 1) :: (vs ++ dvs)) (Value.ref (s.heap.objs.size + 1) :: (us ++ ds)) := .cons rfl (r.append hd)
  have hl : (Value.ref (s.heap.objs.size + 1) :: us ++ ds).length = ps.length := by
    have e := r2.length
    rw [F.len _ _ _ _ hq] at e
    exact e.symm
  refine wpAny_call (make_map (f := f) I.kIn M.makes M.init (beq_iff_eq.mp M.fn) (codeAny_mono (F.run _ X.stack _ _ ⟨Value.ref (s.heap.objs.size + 1) :: us, []⟩ (Value.ref (s.heap.objs.size + 1) :: (us ++ ds)) _ _ E (hr.make C us [])
    (I2.env0.make C us []) (hb _ (Value.ref (s.heap.objs.size + 1) :: us) I2.kIn hl) r2 hq) fun r s' hq' => ?_))
  cases r with
  | error e => exact hx pins σ _ _ e s' I2 hq'
  | ok fl =>
    cases fl with
    | ret u =>
      obtain ⟨v, H', I3, rv, ev, q3⟩ := I2.after hq'
      subst ev
      exact ⟨rv, ⟨V.ref (s.heap.objs.size + 1), H', I3, rfl, q3⟩⟩
    | next => exact False.elim hq'
    | brk => exact False.elim hq'
    | cont => exact False.elim hq'
theorem pe_make (M : Mk X.K C f) (F : FnOk X.prog X.w X.K X.mg X.base CX k f fd ps sp) (hr : Room (k + 1) X.A) (hg : Gl X x) (hm : X.mg x = some (.ref C)) (hb : Binds X.K fd ps ds) (hd : Vals dvs ds) (hx : Passes CX X E)
    (ha : PA X (e :: es) t) (hdb : (x == ("__debug__" : Str)) = false := by decide) (he : starEach (e :: es) X.env = (false, eval e X.env) :: starEach es X.env := by rfl) (hpl : (backTo pos (starEach es X.env)).any (·.1) = false := by rfl) :
    PE X (.Call (.Name x p) (e :: es) [] pos) (tMake C sp dvs E t) := by
  intro pins s σ H Q I h
  refine wpAny_Call_Name_kw (ld_glob I hg hm ?_ hdb)
  refine PySem.W.callWith_K (h₀ := X.base) I.ok.mod.kin M.kp (thn (ha pos pins s σ H _ I h) fun us s1 ⟨vs, H1, I1, r, q⟩ => ⟨I1.kIn, ?_⟩) he hpl
  exact run_make M F hr hb hd hx I1 r q
end

/-! ### keywords -/
/-- the values of the keywords, from the left -/
def PK (X : Cx) (kws : List Keyword) (t : TA) : Prop :=
  ∀ (pos : Pos) (pins : List (Addr × Obj)) (s : Shared) (σ : St) (H : Hp) (Q : List V → Hp → Prop), Inv X pins σ H s → t σ H Q → wpAny (model X.prog X.w) X.A (evalAll ((backToKw pos (keywordEach kws X.env)).map (·.2))) (AP X pins σ Q) X.xe s
section
variable {X : Cx} {CX : CXT} {k : Nat} {f C : Addr} {fd : FuncData} {ps ks : List Str} {sp : Sp} {E : XK} {x m : Str} {p pos apos kpos : Pos} {e o : Expr} {es : List Expr} {kws : List Keyword} {te ta : TE} {t tk : TA} {nm : Option Str}

/-- how a call with keywords binds: g puts the positional values us and the keywords' values ws (names ks) in the parameters' order, defaults among them -/
structure KBinds (K : PySem.W.Frag) (fd : FuncData) (ps ks : List Str) (g : List Value → List Value → List Value) (gV : List V → List V → List V) : Prop where
  to : ∀ (s : Shared) (us ws : List Value), K.In s.heap → (g us ws).length = ps.length → BindsTo s fd ⟨us, ks.zip ws⟩ (ps.zip (g us ws))
  rel : ∀ {vs : List V} {us : List Value} {zs : List V} {ws : List Value}, Vals vs us → Vals zs ws → Vals (gV vs zs) (g us ws)
def tCallK (sp : Sp) (gV : List V → List V → List V) (E : XK) (t tk : TA) : TE := fun σ H Q => t σ H fun vs H1 => tk σ H1 fun zs H2 => sp (gV vs zs) H2 Q E
variable {g : List Value → List Value → List Value} {gV : List V → List V → List V}
end

/-! ### a def's body keeps its promise -/
/-- names: the parameters first -/
structure FnScope (N P : List Str) (sc : Scope) : Prop where
  kind : sc.kind = .function
  co : sc.isCoroutine = false
  gen : sc.isGenerator = false
  nd : N.Nodup
  pre : N.take P.length = P
  par : ∀ x ∈ P, sc.names.lookup x = some .local ∨ sc.names.lookup x = some .cell
  nofree : ∀ y ∈ sc.names, y.2 ≠ .free

theorem bindL_out {kindOf : Str → Option NameKind} {x : Str} : ∀ {binds : List (Str × Value)} {m : Str → Option Value}, (∀ v, (x, v) ∉ binds) → bindL kindOf binds m x = m x
  | [], _, _ => rfl
  | (n, v) :: r, m, h => by
    unfold bindL
    rw [bindL_out fun w hw => h w (List.mem_cons_of_mem _ hw)]
    split
    · have : x ≠ n := by rintro rfl; exact h v List.mem_cons_self
      simp [this]
    · rfl
theorem bindC_out {kindOf : Str → Option NameKind} {x : Str} : ∀ {binds : List (Str × Value)} {m : Str → Option Value}, (∀ v, (x, v) ∉ binds) → bindC kindOf binds m x = m x
  | [], _, _ => rfl
  | (n, v) :: r, m, h => by
    unfold bindC
    rw [bindC_out fun w hw => h w (List.mem_cons_of_mem _ hw)]
    split
    · rfl
    · have : x ≠ n := by rintro rfl; exact h v List.mem_cons_self
      simp [this]
theorem bindL_get {kindOf : Str → Option NameKind} {x : Str} {v : Value} : ∀ {P : List Str} {vs : List Value} {i : Nat} {m : Str → Option Value}, P.Nodup → P[i]? = some x → vs[i]? = some v → kindOf x = some .local →
    bindL kindOf (P.zip vs) m x = some v
  | [], _, _, _, _, h, _, _ => by simp at h
  | _ :: _, [], _, _, _, _, h, _ => by simp at h
  | p :: P, w :: vs, 0, m, nd, h1, h2, hk => by
    simp at h1 h2; subst h1; subst h2
    show bindL kindOf ((p, w) :: P.zip vs) m p = _
    unfold bindL
    rw [bindL_out fun v hv => (List.nodup_cons.mp nd).1 (List.of_mem_zip hv).1, if_pos hk]
    simp
  | p :: P, w :: vs, i + 1, m, nd, h1, h2, hk => by
    show bindL kindOf ((p, w) :: P.zip vs) m x = _
    unfold bindL
    exact bindL_get (i := i) (List.nodup_cons.mp nd).2 (by simpa using h1) (by simpa using h2) hk
theorem bindC_get {kindOf : Str → Option NameKind} {x : Str} {v : Value} : ∀ {P : List Str} {vs : List Value} {i : Nat} {m : Str → Option Value}, P.Nodup → P[i]? = some x → vs[i]? = some v → kindOf x ≠ some .local →
    bindC kindOf (P.zip vs) m x = some v
  | [], _, _, _, _, h, _, _ => by simp at h
  | _ :: _, [], _, _, _, _, h, _ => by simp at h
  | p :: P, w :: vs, 0, m, nd, h1, h2, hk => by
    simp at h1 h2; subst h1; subst h2
    show bindC kindOf ((p, w) :: P.zip vs) m p = _
    unfold bindC
    rw [bindC_out fun v hv => (List.nodup_cons.mp nd).1 (List.of_mem_zip hv).1, if_neg hk]
    simp
  | p :: P, w :: vs, i + 1, m, nd, h1, h2, hk => by
    show bindC kindOf ((p, w) :: P.zip vs) m x = _
    unfold bindC
    exact bindC_get (i := i) (List.nodup_cons.mp nd).2 (by simpa using h1) (by simpa using h2) hk

/-- the names' values at the entry -/
def start (N : List Str) (vs : List V) : St := vs.map some ++ List.replicate (N.length - vs.length) none

/-- the context of a def's body, at its entry; an exception leaves the frame, then lies as CX says -/
def cxOf (CX : CXT) (P : Program) (w : World) (K : PySem.W.Frag) (mg : Str → Option Value) (base : Heap) (N : List Str) (qual : Str) (scope : Scope) (f : Addr) (cd : Value) (A : Around) (outer : List Env) (s : Shared) (H : Hp) (E : XK) : Cx where
  prog := P
  w := w
  K := K
  mg := mg
  base := base
  A := A.deeper (envOfC qual scope s.heap.objs.size f cd)
  N := N
  s₀ := s
  H₀ := H
  env := envOfC qual scope s.heap.objs.size f cd
  outer := outer
  stack := envOfC qual scope s.heap.objs.size f cd :: outer
  ex := []
  calm := true
  fn := fun _ => true
  pn := []
  xe := fun e s' => wpAny (model P w) (A.deeper (envOfC qual scope s.heap.objs.size f cd)) (leaving (envOfC qual scope s.heap.objs.size f cd) e) (fun _ s'' => CX outer H s E e s'') (fun e' s'' => CX outer H s E e' s'') s'

theorem cell_has {sc : Scope} {n : Nat} {x : Str} (h : sc.names.lookup x = some .cell) : ∃ c, (cellsFrom n sc.names []).lookup x = some c := by
  have q := PySem.W.cellsFrom_some sc.names n [] (.inl h)
  exact Option.isSome_iff_exists.mp q

theorem inv_start {CX : CXT} {P : Program} {w : World} {K : PySem.W.Frag} {mg : Str → Option Value} {base : Heap} {N ps : List Str} {qual : Str} {scope : Scope} {f : Addr} {cd : Value} {A : Around} {outer : List Env} {s s1 : Shared} {H : Hp} {E : XK} {us : List Value} {vs : List V}
    (S : FnScope N ps scope) (hd : A.handled = none) (e0 : Env0 P w K mg base A outer s H) (hl : vs.length = ps.length) (r : Vals vs us)
    (x : InCallC s s.heap.objs.size (bindL (envOfC qual scope s.heap.objs.size f cd).kindOf (ps.zip us) fun _ => none) (cellsFrom (s.heap.objs.size + 1) scope.names []) (bindC (envOfC qual scope s.heap.objs.size f cd).kindOf (ps.zip us) fun _ => none) s1) :
    Inv (cxOf CX P w K mg base N qual scope f cd A outer s H E) [] (start N vs) H s1 := by
  have hpl : ps.length ≤ N.length := by have := congrArg List.length S.pre; rw [List.length_take] at this; omega
  obtain ⟨h1, tk, rfl, hk⟩ := x.done
  have noA : ∀ b : Addr, b ∉ (cxOf CX P w K mg base N qual scope f cd A outer s H E).ex := fun b z => absurd (show b ∈ ([] : List Addr) from z) (by simp)
  refine ⟨⟨e0.mod, S.kind, rfl, rfl, Nat.le_refl _, fun y z c h1 h2 => ?_, fun y hy => ?_, fun y c _ h => ?_, fun _ => hd, Around.frames_deeper e0.frames, .inr ⟨rfl, rfl⟩, fun b z => absurd z (noA b), e0.bs, e0.bsz, fun b _ _ => noA b, fun b z => absurd z (noA b), e0.funs, e0.frf⟩,
    rfl, e0.bare, Un.kept hk, ⟨_, x.toInCall.ns, fun i y v h1 h2 h3 => ?_⟩, fun y c h => ⟨_, x.cell y c h⟩, e0.hok.fresh (Nat.le_refl _), fun y c h => ?_, fun p hp => absurd (show p ∈ ([] : List (Addr × Obj)) from hp) (by simp), e0.hok.kept hk, ?_⟩
  · exact name_of_addr x.apart (PySem.mem_of_lookup h1) (PySem.mem_of_lookup h2)
  · have hy : scope.names.lookup y = some .cell ∨ scope.names.lookup y = some .free := hy
    rcases hy with hy | hy
    · exact cell_has hy
    · exact absurd rfl (S.nofree _ (PySem.mem_of_lookup hy))
  · exact Nat.le_of_lt (x.above y c (PySem.mem_of_lookup h))
  · have hi : i < vs.length := by
      unfold start at h2
      by_cases hi : i < vs.length
      · exact hi
      · rw [List.getElem?_append_right (by simpa using hi)] at h2
        rw [List.getElem?_replicate] at h2
        split at h2 <;> cases h2
    have ha : vs[i]? = some v := by
      unfold start at h2
      rw [List.getElem?_append_left (by simpa using hi), List.getElem?_map] at h2
      cases e : vs[i]? with
      | none => rw [e] at h2; cases h2
      | some a => rw [e] at h2; cases h2; rfl
    obtain ⟨u, hu, rv⟩ := r.get ha
    have hp : ps[i]? = some y := by
      rw [← S.pre, List.getElem?_take_of_lt (by omega)]; exact h1
    have ndP : ps.Nodup := by rw [← S.pre]; exact S.nd.sublist (List.take_sublist _ _)
    refine ⟨u, rv, ?_⟩
    rcases S.par y (List.mem_of_getElem? hp) with k | k
    · exact .inl ⟨k, bindL_get ndP hp hu k⟩
    · obtain ⟨c, e⟩ := cell_has (n := s.heap.objs.size + 1) k
      refine .inr ⟨.inl k, c, e, ?_⟩
      have q := x.cell y c e
      rw [bindC_get ndP hp hu (by show scope.names.lookup y ≠ _; rw [k]; decide)] at q
      exact q
  · exact e0.hok.fresh (Nat.le_of_lt (x.above y c (PySem.mem_of_lookup h)))
  · unfold start
    show _ = N.length
    rw [List.length_append, List.length_map, List.length_replicate]
    omega

/-- THE RULE: a def (or a method) of the text, by its body. The body's reading t is chosen for each entry; it is run at the parameters' values -/
theorem fn_of {CX : CXT} {P : Program} {w : World} {K : PySem.W.Frag} {mg : Str → Option Value} {base : Heap} {k : Nat} {f : Addr} {name qual : Str} {params : Arguments} {body : List Stmt} {scope : Scope} {dV kV doc pm cdv ct oc : Value} {an od : Option Addr}
    {osl : Array (Option Value)} {N ps : List Str} {sp : Sp} (lk : K.lookup f = some ⟨oc, od, .func (PySem.W.fnOf name qual params body scope dV kV doc pm an cdv ct), osl⟩) (hcd : PySem.W.codeIn K cdv qual = true) (S : FnScope N ps scope)
    (len : ∀ vs H Q E, sp vs H Q E → vs.length = ps.length)
    (hbody : ∀ (A : Around) (outer : List Env) (s : Shared) (H : Hp) (vs : List V) (Q : VK) (E : XK), Room k (A.deeper (envOfC qual scope s.heap.objs.size f cdv)) → sp vs H Q E →
      ∃ t, PSs (cxOf CX P w K mg base N qual scope f cdv A outer s H E) body t ∧ t { nx := fun _ H' => Q .non H', rt := Q } (start N vs) H) :
    FnOk P w K mg base CX (k + 1) f (PySem.W.fnOf name qual params body scope dV kV doc pm an cdv ct) ps sp := by
  refine ⟨len, fun A outer s H args us vs Q E hr e0 hb r hsp => ?_⟩
  have hl := len _ _ _ _ hsp
  have KX : K.In s.heap := e0.mod.kin.keeps fun b o e => (e0.bs b o e).1
  have lim : s.heap.NoLimit := e0.mod.nolimit.keeps fun b o e => (e0.bs b o e).1
  have hkind : ∀ y ∈ ps.zip us, scope.names.lookup y.1 = some .local ∨ (scope.names.lookup y.1 = some .cell ∧ ((cellsFrom (s.heap.objs.size + 1) scope.names []).lookup y.1).isSome = true) := fun ⟨n, v⟩ hy => by
    rcases S.par n (List.of_mem_zip hy).1 with q | q
    · exact .inl q
    · exact .inr ⟨q, PySem.W.cellsFrom_some _ _ _ (.inl q)⟩
  refine codeAny_call_function hr.depth (KX _ _ lk) rfl S.co S.gen rfl (PySem.W.codeRec_of KX hcd) (hb _ _ _ _ ?_)
  refine wpAny_newFunctionEnv_cells S.kind hkind fun env he s1 x => ?_
  subst he
  refine ⟨lim.keeps x.toInCall.keep, codeAny_func ?_⟩
  obtain ⟨t, ht, hq⟩ := hbody A outer s H vs Q E (hr.deeper _) hsp
  have I : Inv (cxOf CX P w K mg base N qual scope f cdv A outer s H E) [] (start N vs) H s1 := inv_start S hr.hd e0 hl r x
  refine wpAny_mono (ht [] s1 (start N vs) H _ I hq) (fun fl s' hs => ?_) fun e s' hs => hs
  have fin : ∀ {σ' : St} {H' : Hp} {v : V} {u : Value}, Inv (cxOf CX P w K mg base N qual scope f cdv A outer s H E) [] σ' H' s' → RelV v u → Q v H' → CE outer P w H s Q u s' :=
    fun {σ' H' v u} J rv q => ⟨v, H', J.os, J.bare, J.base, J.hok, rv, q⟩
  cases fl with
  | ret u =>
    obtain ⟨v, σ', H', J, rv, q⟩ := hs
    exact fin J rv q
  | next =>
    obtain ⟨σ', H', J, q⟩ := hs
    exact fin (v := V.non) (u := Value.none) J rfl q
  | brk =>
    obtain ⟨_, _, _, q⟩ := hs
    exact False.elim q
  | cont =>
    obtain ⟨_, _, _, q⟩ := hs
    exact False.elim q
end L2

namespace L2
open PySem PySem.Spec PyProof.Rows
section
variable {X : Cx} {x : Str} {p pos : Pos} {e : Expr} {es : List Expr} {t : TA} {id T : String} {r : List V → Hp → VK → Prop}

def tCB (r : List V → Hp → VK → Prop) (t : TA) : TE := fun σ H Q => t σ H fun vs H1 => r vs H1 Q
/-- f(e, ..), f a built-in function -/
theorem pe_callB (hc : CallR X (.builtin id) r) (hg : Gl X x) (hm : X.mg x = none) (hv : bootBuiltins x = some (.builtin id)) (ha : PA X (e :: es) t) (hn : x ≠ "__name__" := by decide) (hdb : (x == ("__debug__" : Str)) = false := by decide)
    (he : starEach (e :: es) X.env = (false, eval e X.env) :: starEach es X.env := by rfl) (hpl : (backTo pos (starEach es X.env)).any (·.1) = false := by rfl) : PE X (.Call (.Name x p) (e :: es) [] pos) (tCB r t) := by
  intro pins s σ H Q I h
  refine wpAny_Call_Name_kw (ld_blt I hg hm hv ?_ hn hdb)
  exact PyProof.Rows.callWith_builtin1 (thn (ha pos pins s σ H _ I h) fun us s1 ⟨vs, H1, I1, r1, q1⟩ => hc pins s1 σ H1 vs us Q I1 r1 q1) he hpl
/-- T(e, ..), T a built-in type -/
theorem pe_callTy (hc : CallR X (.type T) r) (hg : Gl X x) (hm : X.mg x = none) (hv : bootBuiltins x = some (.type T)) (ha : PA X (e :: es) t) (hn : x ≠ "__name__" := by decide) (hdb : (x == ("__debug__" : Str)) = false := by decide)
    (he : starEach (e :: es) X.env = (false, eval e X.env) :: starEach es X.env := by rfl) (hpl : (backTo pos (starEach es X.env)).any (·.1) = false := by rfl) : PE X (.Call (.Name x p) (e :: es) [] pos) (tCB r t) := by
  intro pins s σ H Q I h
  refine wpAny_Call_Name_kw (ld_blt I hg hm hv ?_ hn hdb)
  exact PyProof.Rows.callWith_type1 (thn (ha pos pins s σ H _ I h) fun us s1 ⟨vs, H1, I1, r1, q1⟩ => hc pins s1 σ H1 vs us Q I1 r1 q1) he hpl
end
end L2

namespace HT
open PySem PyProof.Rows

/-- t < u of tuples of ints -/
def lexLt : List Int → List Int → Bool
  | [], [] => false
  | [], _ :: _ => true
  | _ :: _, [] => false
  | x :: xs, y :: ys => if x = y then lexLt xs ys else decide (x < y)


section
open PySem.SeqAt
open PySem.AutoSeq1 (wpAny_loadPart')
open PySem.MeetsSeq PySem.MeetsSeq2 PySem.MeetsSeq3

end

section
variable {prog : Program} {w : World} {A : Around} {E : Value → Shared → Prop} {s : Shared}



/-! ### t[a:b], not the whole -/
/-- a slice's bound as a place among n (d where it is left out) -/
def sIx (n d : Nat) : Option Int → Nat
  | none => d
  | some v => if v < 0 then (v + (n : Int)).toNat else min v.toNat n

end
end HT

namespace L2
open PySem PySem.Spec PyProof.Rows

/-! ### the parts of a slice -/
abbrev TO := St → Hp → (Option Int → Hp → Prop) → Prop
/-- a slice's part (left out, or an int) -/
def PO (X : Cx) (e : Option Expr) (t : TO) : Prop :=
  ∀ (pins : List (Addr × Obj)) (s : Shared) (σ : St) (H : Hp) (Q : Option Int → Hp → Prop), Inv X pins σ H s → t σ H Q →
    wpAny (model X.prog X.w) X.A (evalPart e X.env) (fun u s' => ∃ o H', Inv X pins σ H' s' ∧ IsPart u o ∧ Q o H') X.xe s
def tNoPart : TO := fun _ H Q => Q none H
def tPart (t : TE) : TO := fun σ H Q => t σ H fun x H1 => ∃ i, x = .int i ∧ Q (some i) H1


section
variable {X : Cx} {e : Expr} {te : TE} {lo hi : Option Expr} {tl th : TO} {pos p2 : Pos}


/-- what a slice of a value is, by values: the slice object stands at sl -/
def SlR (X : Cx) (r : V → Option Int → Option Int → Hp → VK → Prop) : Prop :=
  ∀ (pins : List (Addr × Obj)) (s : Shared) (σ : St) (H : Hp) (x : V) (v vl vu : Value) (lo hi : Option Int) (sl : Addr) (Q : VK), Inv X pins σ H s → RelV x v → s.heap.IsSliceOf sl vl vu .none → IsPart vl lo → IsPart vu hi → r x lo hi H Q →
    ∃ T id, typeLookup (.type T) "__getitem__" = pure (some (.builtin id)) ∧ s.TypeIs v T ∧ wpAny (model X.prog X.w) X.A (getItem v (.ref sl)) (EP X pins σ Q) X.xe s
def tSl (r : V → Option Int → Option Int → Hp → VK → Prop) (te : TE) (tl th : TO) : TE := fun σ H Q => te σ H fun x H1 => tl σ H1 fun l H2 => th σ H2 fun u H3 => r x l u H3 Q

/-- the items of xs[lo:hi] -/
def cutV (xs : List V) (lo hi : Option Int) : List V := (xs.drop (HT.sIx xs.length 0 lo)).take (HT.sIx xs.length xs.length hi - HT.sIx xs.length 0 lo)
/-- t[lo:hi], not the whole of it (the whole would be t itself) -/
def rSlT (K : PySem.W.Frag) : V → Option Int → Option Int → Hp → VK → Prop := fun x lo hi H Q => ∃ a xs, x = .ref a ∧ SqT K H a xs ∧
  ¬ (HT.sIx xs.length 0 lo = 0 ∧ HT.sIx xs.length xs.length hi = xs.length) ∧ ∀ p, H p = none → Q (.ref p) (upd H p (.tup (cutV xs lo hi)))

/-! ### t < u, t + u -/
def rLtT (K : PySem.W.Frag) : R2 := fun x y H Q => ∃ a b ns ms, x = .ref a ∧ y = .ref b ∧ SqT K H a (ns.map V.int) ∧ SqT K H b (ms.map V.int) ∧ Q (.bl (HT.lexLt ns ms)) H
/-- t + u, t not empty: u empty gives t itself -/
def rCatT (K : PySem.W.Frag) : R2 := fun x y H Q => ∃ a b xs ys, x = .ref a ∧ y = .ref b ∧ SqT K H a xs ∧ SqT K H b ys ∧ xs ≠ [] ∧ xs.length + ys.length ≤ sizeLine ∧
  (ys = [] → Q (.ref a) H) ∧ (ys ≠ [] → ∀ p, H p = none → Q (.ref p) (upd H p (.tup (xs ++ ys))))
end
end L2

namespace L2
open PySem PySem.Spec PyProof.Rows

/-! ### places -/
/-- the place that an index of any sign means -/
def ixN (n : Nat) (i : Int) : Option Nat := if 0 ≤ i then (if i < n then some i.toNat else none) else if -(n : Int) ≤ i then some (i + n).toNat else none
def atI {α : Type} (xs : List α) (i : Int) : Option α := (ixN xs.length i).bind fun j => xs[j]?
theorem ixN_seq {n : Nat} {i : Int} {j : Nat} (h : ixN n i = some j) : seqIndex? i n = some j ∧ j < n ∧ -(n : Int) ≤ i ∧ i < n := by
  unfold ixN at h
  by_cases h0 : 0 ≤ i
  · rw [if_pos h0] at h
    by_cases h1 : i < n
    · rw [if_pos h1] at h
      have e : i.toNat = j := Option.some.inj h
      exact ⟨by rw [seqIndex_of h0 h1, e], by omega, by omega, h1⟩
    · rw [if_neg h1] at h; cases h
  · rw [if_neg h0] at h
    by_cases h1 : -(n : Int) ≤ i
    · rw [if_pos h1] at h
      have e : (i + n).toNat = j := Option.some.inj h
      exact ⟨by rw [seqIndex_neg (by omega) h1, e], by omega, h1, by omega⟩
    · rw [if_neg h1] at h; cases h
theorem atI_get {α : Type} {xs : List α} {i : Int} {v : α} (h : atI xs i = some v) : ∃ j, seqIndex? i xs.length = some j ∧ xs[j]? = some v ∧ j < xs.length ∧ -(xs.length : Int) ≤ i ∧ i < xs.length := by
  unfold atI at h
  cases e : ixN xs.length i with
  | none => rw [e] at h; cases h
  | some j =>
    rw [e] at h
    obtain ⟨h1, h2, h3, h4⟩ := ixN_seq e
    exact ⟨j, h1, h, h2, h3, h4⟩
theorem atI_nat {α : Type} {xs : List α} {j : Nat} {v : α} (h : xs[j]? = some v) : atI xs (j : Int) = some v := by
  have hj : j < xs.length := (List.getElem?_eq_some_iff.mp h).1
  have e : ixN xs.length (j : Int) = some j := by
    unfold ixN
    rw [if_pos (by omega), if_pos (by omega)]; simp
  unfold atI; rw [e]; exact h

/-! ### what may be subscripted -/
/-- what stands as an index of a plain subscript -/
def PlainIx (b : Expr) : Prop := ∀ o i, subscripted b false o i = operate [o, i] (getItem o i)
/-- a subscript by values -/
def IxR (X : Cx) (r : R2) : Prop :=
  ∀ (value slice : Expr) (pins : List (Addr × Obj)) (s : Shared) (σ : St) (H : Hp) (x y : V) (v u : Value) (Q : VK), Inv X pins σ H s → RelV x v → RelV y u → r x y H Q →
    subscripted slice false v u = operate [v, u] (getItem v u) → wpAny (model X.prog X.w) X.A (subscriptTail value slice v u) (EP X pins σ Q) X.xe s
/-- a call of a builtin's method by values: the receiver, the arguments -/
def MtR (X : Cx) (id : String) (r : V → List V → Hp → VK → Prop) : Prop :=
  ∀ (pins : List (Addr × Obj)) (s : Shared) (σ : St) (H : Hp) (x : V) (xs : List V) (v : Value) (us : List Value) (Q : VK), Inv X pins σ H s → RelV x v → Vals xs us → r x xs H Q →
    wpAny (model X.prog X.w) X.A (call (.builtin id) (v :: us)) (EP X pins σ Q) X.xe s
section
variable {X : Cx} {a b : Expr} {ta tb : TE} {pos : Pos}
/-- a[b] -/
theorem pe_ix {r : R2} (hr : IxR X r) (ha : PE X a ta) (hb : PE X b tb) (hs : PlainIx b) : PE X (.Subscript a b pos) (tOp r ta tb) := by
  intro pins s σ H Q I h
  exact Subscript_ (binT ha hb I h fun v u s2 x y H2 I2 rx ry q => hr a b pins s2 σ H2 x y v u Q I2 rx ry q (hs _ _))

def rIxL (K : PySem.W.Frag) : R2 := fun x y H Q => ∃ p xs i v, x = .ref p ∧ y = .int i ∧ SqL K H p xs ∧ atI xs i = some v ∧ Q v H
def rIxT (K : PySem.W.Frag) : R2 := fun x y H Q => ∃ p xs i v, x = .ref p ∧ y = .int i ∧ SqT K H p xs ∧ atI xs i = some v ∧ Q v H
def rIxS : R2 := fun x y H Q => ∃ z i c, x = .str z ∧ y = .int i ∧ z.length ≤ sizeLine ∧ atI z.cps.toList i = some c ∧ Q (.str ⟨#[c]⟩) H
theorem ix_list : IxR X (rIxL X.K) := by
  intro value slice pins s σ H x y v u Q I rx ry h hs
  obtain ⟨p, xs, i, z, rfl, rfl, hq, he, q⟩ := h
  cases rx
  obtain ⟨t, rfl⟩ := ry
  obtain ⟨its, r, pl, hz⟩ := I.list hq
  obtain ⟨j, h1, h2, h3, h4, h5⟩ := atI_get he
  obtain ⟨w, ew, rw'⟩ := r.get h2
  have hl := r.length
  have hn := line63
  have fin : EP X pins σ Q w s := ⟨z, H, I, rw', q⟩
  by_cases h0 : 0 ≤ i
  · have hj : i.toNat = j := by
      rw [seqIndex_of h0 h5] at h1
      exact Option.some.inj h1
    exact item_listR pl.isList h0 (by omega) (by rw [hj]; simpa using ew) fin hs
  · have hj : (i + (its.toArray.size : Int)).toNat = j := by
      rw [seqIndex_neg (by omega) h4] at h1
      rw [List.size_toArray, ← hl]
      exact Option.some.inj h1
    exact subscriptTail_builtinR (x := w) pl.isList.typeIs slot_list_getitem.lookup
      (wpAny_getItem_list_neg (Q := fun r s' => r = w ∧ EP X pins σ Q r s') pl.isList (by omega) (by rw [List.size_toArray] <;> omega) (by omega) (by rw [hj]; simpa using ew) ⟨rfl, fin⟩) hs
theorem ix_tup : IxR X (rIxT X.K) := by
  intro value slice pins s σ H x y v u Q I rx ry h hs
  obtain ⟨p, xs, i, z, rfl, rfl, hq, he, q⟩ := h
  cases rx
  obtain ⟨t, rfl⟩ := ry
  obtain ⟨its, r, pl, hz⟩ := I.tuple hq
  obtain ⟨j, h1, h2, h3, h4, h5⟩ := atI_get he
  obtain ⟨w, ew, rw'⟩ := r.get h2
  have hl := r.length
  have hn := line63
  have fin : EP X pins σ Q w s := ⟨z, H, I, rw', q⟩
  exact subscriptTail_builtinR (x := w) pl.typeIs slot_tuple_getitem.lookup
    (getItem_tuple (j := j) (Q := fun r s' => r = w ∧ EP X pins σ Q r s') pl (by omega) (by omega) (by rw [List.size_toArray, ← hl]; exact h1) (by simpa using ew) ⟨rfl, fin⟩) hs
theorem ix_str : IxR X rIxS := by
  intro value slice pins s σ H x y v u Q I rx ry h hs
  obtain ⟨z, i, c, rfl, rfl, hz, he, q⟩ := h
  obtain ⟨t, rfl⟩ := rx
  obtain ⟨t', rfl⟩ := ry
  obtain ⟨j, h1, h2, h3, h4, h5⟩ := atI_get he
  have hl : z.cps.toList.length = z.length := by simp [Str.length]
  rw [hl] at h1 h4 h5
  have hn := line63
  exact tail_any (typeIs_str s z t) slot_str_getitem.lookup (getItem_str (c := c) (by
    have e1 : decide (i < -(2 ^ 63 : Int)) = false := decide_eq_false (by omega)
    have e2 : decide (i ≥ 2 ^ 63) = false := decide_eq_false (by omega)
    rw [e1, e2, Bool.or_false]) (by rw [h1]; simpa using h2) ⟨.str ⟨#[c]⟩, H, I.tok _, ⟨_, rfl⟩, q⟩) hs
/-- list, tuple or str -/
def rIx (K : PySem.W.Frag) : R2 := fun x y H Q => rIxL K x y H Q ∨ rIxT K x y H Q ∨ rIxS x y H Q

/-! ### xs[i] = v, any sign -/
def rSetL : V → V → V → Hp → (Hp → Prop) → Prop := fun o i v H Q => ∃ p xs k j, o = .ref p ∧ i = .int k ∧ H p = some (.lst xs) ∧ ixN xs.length k = some j ∧ Q (upd H p (.lst (xs.set j v)))

/-! ### slices -/
/-- xs[lo:hi] of a list: a new list -/
def rSlL (K : PySem.W.Frag) : V → Option Int → Option Int → Hp → VK → Prop := fun x lo hi H Q => ∃ a xs, x = .ref a ∧ SqL K H a xs ∧ ∀ p, H p = none → Q (.ref p) (upd H p (.lst (cutV xs lo hi)))

/-! ### in, not in: flat items -/
def flatV : V → Bool
  | .non => true
  | .bl _ => true
  | .int _ => true
  | .str _ => true
  | _ => false
/-- == of flat values -/
def eqV : V → V → Bool
  | .non, .non => true
  | .bl a, .bl b => a == b
  | .bl a, .int b => (if a then 1 else 0) == b
  | .int a, .bl b => a == (if b then 1 else 0)
  | .int a, .int b => a == b
  | .str a, .str b => a == b
  | _, _ => false
/-- the items' answers, read off the values (a value's own answer does not lean on its token) -/
def eqU (x : V) (u : Value) : Bool := match u with
  | .none => eqV .non x
  | .bool b => eqV (.bl b) x
  | .int i _ => eqV (.int i) x
  | .str z _ => eqV (.str z) x
  | _ => false
def inV (x : V) (xs : List V) : Bool := xs.any fun y => eqV y x
/-- x in a list or tuple of flat items -/
def rIn (K : PySem.W.Frag) (neg : Bool) : R2 := fun x y H Q => ∃ p xs, y = .ref p ∧ (SqL K H p xs ∨ SqT K H p xs) ∧ flatV x = true ∧ xs.all flatV = true ∧ Q (.bl (if neg then !inV x xs else inV x xs)) H

/-! ### len, list(x), tuple(x) of any list or tuple that is read -/
theorem call_len_seq : CallR X (.builtin "len") (fun xs H Q => ∃ p ys, xs = [.ref p] ∧ (SqL X.K H p ys ∨ SqT X.K H p ys) ∧ Q (.int ys.length) H) := by
  intro pins s σ H xs us Q I r h
  obtain ⟨p, ys, rfl, hq, q⟩ := h
  obtain ⟨u, rfl, rx⟩ := vals1 r
  cases rx
  have hn := line63
  rcases hq with hq | hq
  · obtain ⟨its, r', pl, hz⟩ := I.list hq
    have hlen := r'.length
    exact Calls.call_len_list pl.isList (by simp only [List.size_toArray] <;> omega) ⟨.int ys.length, H, I.tok _, ⟨s.toks + 1, by rw [List.size_toArray, hlen]⟩, q⟩
  · obtain ⟨its, r', pl, hz⟩ := I.tuple hq
    have hlen := r'.length
    exact len_tuple pl (by simp only [List.size_toArray] <;> omega) ⟨.int ys.length, H, I.tok _, ⟨s.toks + 1, by rw [List.size_toArray, hlen]⟩, q⟩

/-! ### the call of a builtin's method: o.m(..) -/
/-- the value is of that builtin type -/
def tyV (K : PySem.W.Frag) (T : String) (x : V) (H : Hp) : Prop := match x with
  | .str _ => T = "str"
  | .int _ => T = "int"
  | .ref p => (T = "list" ∧ ∃ xs, SqL K H p xs) ∨ (T = "tuple" ∧ ∃ o, K.lookup p = some o ∧ o.cls = .type "tuple" ∧ o.dict = none) ∨
      (T = "dict" ∧ ((∃ kvs, H p = some (.dK kvs)) ∨ ∃ kvs, H p = some (.dT kvs))) ∨ (T = "set" ∧ ∃ S n, H p = some (.set S n))
  | _ => False
theorem tyV_is {pins : List (Addr × Obj)} {σ : St} {H : Hp} {s : Shared} {T : String} {x : V} {v : Value} (I : Inv X pins σ H s) (r : RelV x v) (ty : tyV X.K T x H) :
    s.TypeIs v T ∧ ∀ a, v = .ref a → ∃ ob, s.heap.get? a = some ob ∧ ob.dict = none := by
  cases x with
  | str z =>
    obtain ⟨t, rfl⟩ := r
    cases (show T = "str" from ty)
    exact ⟨typeIs_str s z t, fun _ e => nomatch e⟩
  | int i =>
    obtain ⟨t, rfl⟩ := r
    cases (show T = "int" from ty)
    exact ⟨typeIs_int s i t, fun _ e => nomatch e⟩
  | ref p =>
    cases r
    rcases ty with ⟨rfl, xs, hq⟩ | ⟨rfl, o, hk, hc, hd⟩ | ⟨rfl, hk⟩ | ⟨rfl, S, n, hk⟩
    · obtain ⟨its, _, pl, _⟩ := I.list hq
      refine ⟨pl.isList.typeIs, fun a e => ?_⟩
      cases e
      obtain ⟨o, n, e, c, hd, _⟩ := pl
      exact ⟨o, e, hd⟩
    · refine ⟨⟨o, I.kIn p o hk, hc⟩, fun a e => ?_⟩
      cases e
      exact ⟨o, I.kIn _ o hk, hd⟩
    · have z : ∃ o, s.heap.get? p = some o ∧ o.ExactDict := by
        rcases hk with ⟨kvs, hk⟩ | ⟨kvs, hk⟩
        · obtain ⟨_, _, _, _, o, _, _, e, ex, _⟩ := I.hok p _ hk
          exact ⟨o, e, ex⟩
        · obtain ⟨_, _, _, _, o, _, _, e, ex, _⟩ := I.hok p _ hk
          exact ⟨o, e, ex⟩
      obtain ⟨o, e, ex⟩ := z
      refine ⟨⟨o, e, ex.1⟩, fun a e2 => ?_⟩
      cases e2
      exact ⟨o, e, ex.2.1⟩
    · obtain ⟨o, _, _, _, e, ex, _⟩ := I.hok p _ hk
      refine ⟨⟨o, e, ex.1⟩, fun a e2 => ?_⟩
      cases e2
      exact ⟨o, e, ex.2.1⟩
  | _ => exact False.elim ty
def tBM0 (K : PySem.W.Frag) (T : String) (r : V → List V → Hp → VK → Prop) (to : TE) : TE := fun σ H Q => to σ H fun x H1 => tyV K T x H1 ∧ r x [] H1 Q
def tBM (K : PySem.W.Frag) (T : String) (r : V → List V → Hp → VK → Prop) (to : TE) (t : TA) : TE := fun σ H Q => to σ H fun x H1 => tyV K T x H1 ∧ t σ H1 fun xs H2 => r x xs H2 Q
variable {o e : Expr} {es : List Expr} {to : TE} {t : TA} {name : Str} {apos cpos : Pos} {T id : String} {r : V → List V → Hp → VK → Prop}
theorem pe_bm (pa : PlainAttrs T) (slot : Slot T name id) (hty : typeOf (.builtin id) = pure (.type "method_descriptor")) (hm : MtR X id r) (ho : PE X o to) (ha : PA X (e :: es) t)
    (hbase : attributeBase o name X.env (eval o X.env) = eval o X.env := by rfl)
    (hfew : ((backTo cpos (starEach (e :: es) X.env)).all (fun x => !x.1) && (backToKw cpos (keywordEach [] X.env)).all (fun x => x.1.isSome)
      && decide ((e :: es).length + ([] : List Keyword).length + (if ([] : List Keyword).isEmpty then 0 else 1) < 30)) = true := by rfl)
    (hline : (apos.endLine == cpos.line) = true := by rfl) (hs : starEach (e :: es) X.env = (false, eval e X.env) :: starEach es X.env := by rfl) (hplain : (backTo cpos (starEach es X.env)).any (·.1) = false := by rfl) :
    PE X (.Call (.Attribute o name apos) (e :: es) [] cpos) (tBM X.K T r to t) := by
  intro pins s σ H Q I h
  refine wpAny_Call_method_late hbase hfew hline rfl (thn (ho pins s σ H _ I h) fun v s1 ⟨x, H1, I1, r1, ty, q1⟩ => ?_)
  obtain ⟨h1, h2⟩ := tyV_is I1 r1 ty
  refine ⟨T, id, pa, slot, hty, h1, h2, ?_⟩
  have hA := ha cpos pins s1 σ H1 _ I1 q1
  rw [hs] at hA ⊢
  refine Calls.callWith_builtin (by show (false || (backTo cpos (starEach es X.env)).any (·.1)) = false; rw [hplain] <;> rfl) (Calls.evalArgs_plain ?_)
  exact thn hA fun us s2 ⟨vs, H2, I2, r2, q2⟩ => hm pins s2 σ H2 x vs v us Q I2 r1 r2 q2
/- xs.append(e), list.index on a module's tuple .. are MtR facts of 06m -/
end
end L2

namespace L2
open PySem PySem.Spec PyProof.Rows

def MtM (X : Cx) (id : String) (r : V → List V → Hp → VK → Prop) : Prop :=
  ∀ (pins : List (Addr × Obj)) (s : Shared) (σ : St) (H : Hp) (x : V) (xs : List V) (v : Value) (us : List Value) (Q : VK), Inv X pins σ H s → RelV x v → Vals xs us → r x xs H Q →
    wpAny (model X.prog X.w) X.A (call (.builtin id) (v :: us)) (EP X pins σ Q) X.xe s

/-! ### lists of values -/
theorem Vals.one : ∀ {x : V} {us : List Value}, Vals [x] us → ∃ u, us = [u] ∧ RelV x u
  | _, _, .cons r .nil => ⟨_, rfl, r⟩
theorem Vals.rep {xs : List V} {us : List Value} (h : Vals xs us) : ∀ k : Nat, Vals (List.replicate k xs).flatten (List.replicate k us).flatten
  | 0 => .nil
  | k + 1 => by
    rw [List.replicate_succ, List.replicate_succ, List.flatten_cons, List.flatten_cons]
    exact Vals.append h (Vals.rep h k)
theorem foldl_rep (its : List Value) : ∀ (k : Nat) (acc : List Value),
    List.foldl (fun x1 x2 => x1 ++ x2) acc.toArray (List.replicate k its.toArray) = (acc ++ (List.replicate k its).flatten).toArray
  | 0, acc => by simp
  | k + 1, acc => by
    have e : acc.toArray ++ its.toArray = (acc ++ its).toArray := by simp
    have e2 : (acc ++ its) ++ (List.replicate k its).flatten = acc ++ (List.replicate (k + 1) its).flatten := by
      rw [List.replicate_succ, List.flatten_cons, List.append_assoc]
    rw [← e2, ← foldl_rep its k (acc ++ its), ← e, List.replicate_succ, List.foldl_cons]

section
variable {X : Cx} {pins : List (Addr × Obj)} {σ : St} {H : Hp} {s : Shared} {l b : Addr} {xs ys zs : List V}

/-! ### the two steps: a tracked list is rewritten, a new list is laid -/
theorem Inv.lset {its its' : List Value} {n : Nat} {f : Array Value → Array Value} {t' : Nat} (I : Inv X pins σ H s) (hH : H l = some (.lst xs))
    (e : s.heap.get? l = some { cls := .type "list", data := .seq its.toArray n }) (hf : f its.toArray = its'.toArray) (hv : Vals ys its') (hz : ys.length ≤ sizeLine) :
    Inv X pins σ (upd H l (.lst ys)) { s with heap := s.heap.update l (Obj.mapSeq f), toks := t' } := by
  have q := PySem.IsL.update e f
  rw [hf] at q
  refine I.write (x := l) (e := l) (by rw [hH]; exact trivial) (.inl rfl) (fun b' u hb hu => (Heap.get?_update_other s.heap (Obj.mapSeq f) (Ne.symm hb)).trans hu) ⟨_, q⟩ ?_
  exact ⟨hz, its', _, hv, q⟩
theorem Inv.lnew {its : List Value} {t' : Nat} (I : Inv X pins σ H s) (hv : Vals ys its) (hz : ys.length ≤ sizeLine) :
    Inv X pins σ (upd H s.heap.objs.size (.lst ys)) { s with heap := s.heap.push { cls := .type "list", data := .seq its.toArray }, toks := t' } :=
  I.laid (fun _ _ q => Heap.get?_push_of_some _ q) (Nat.le_refl _) ⟨hz, its, 0, hv, Heap.get?_push_size _ rfl⟩
theorem Inv.fresh (I : Inv X pins σ H s) : H s.heap.objs.size = none := I.hok.fresh (Nat.le_refl _)
theorem Inv.lstM (I : Inv X pins σ H s) (hH : H l = some (.lst xs)) : xs.length ≤ sizeLine ∧ ∃ (its : List Value) (n : Nat), Vals xs its ∧ xs.length = its.length ∧ s.heap.get? l = some { cls := .type "list", data := .seq its.toArray n } := by
  obtain ⟨z, its, n, r, e⟩ := I.hok l _ hH
  exact ⟨z, its, n, r, r.length, e⟩

theorem notLongL {n : Nat} (h : n ≤ sizeLine) : Builtin.List.listTooLong n = false := by
  unfold Builtin.List.listTooLong
  exact decide_eq_false (by omega)
end

section
variable {X : Cx}

/-! ### methods -/
def rAppend : V → List V → Hp → VK → Prop := fun x vs H Q => ∃ l xs y, x = .ref l ∧ vs = [y] ∧ H l = some (.lst xs) ∧ xs.length < sizeLine ∧ Q .non (upd H l (.lst (xs ++ [y])))
theorem mt_append : MtM X "list.append" rAppend := by
  intro pins s σ H x vs v us Q I rx rv h
  obtain ⟨l, xs, y, rfl, rfl, hH, hz, q⟩ := h
  cases rx
  obtain ⟨u, rfl, ru⟩ := rv.one
  obtain ⟨z, its, n, r, hl, e⟩ := I.lstM hH
  refine call_meets F.slot_list_append ⟨_, e, rfl⟩ F.entry_list_append (F.args_list_append_2 _ _) (PySem.list_append l its.toArray n u (by rw [List.size_toArray]; omega)) ⟨e, ?_⟩
  refine ⟨.non, _, I.lset (its' := its ++ [u]) hH e (by simp) (r.append (.cons ru .nil)) ?_, rfl, q⟩
  rw [List.length_append, List.length_singleton]
  omega

def rExtend : V → List V → Hp → VK → Prop := fun x vs H Q => ∃ l b xs zs, x = .ref l ∧ vs = [.ref b] ∧ H l = some (.lst xs) ∧ H b = some (.lst zs) ∧ xs.length + zs.length ≤ sizeLine ∧ Q .non (upd H l (.lst (xs ++ zs)))

def rPop : V → List V → Hp → VK → Prop := fun x vs H Q => ∃ l xs y, x = .ref l ∧ vs = [] ∧ H l = some (.lst xs) ∧ xs[xs.length - 1]? = some y ∧ Q y (upd H l (.lst xs.dropLast))

def rPopAt : V → List V → Hp → VK → Prop := fun x vs H Q => ∃ l xs i k y, x = .ref l ∧ vs = [.int i] ∧ H l = some (.lst xs) ∧ -(2 ^ 63) ≤ i ∧ i < 2 ^ 63 ∧ seqIndex? i xs.length = some k ∧ xs[k]? = some y ∧ Q y (upd H l (.lst (xs.eraseIdx k)))

def rReverse : V → List V → Hp → VK → Prop := fun x vs H Q => ∃ l xs, x = .ref l ∧ vs = [] ∧ H l = some (.lst xs) ∧ Q .non (upd H l (.lst xs.reverse))

def rClear : V → List V → Hp → VK → Prop := fun x vs H Q => ∃ l xs, x = .ref l ∧ vs = [] ∧ H l = some (.lst xs) ∧ Q .non (upd H l (.lst []))

/-! ### list + list, list += list, list * int -/
def rCat : R2 := fun x y H Q => ∃ l b xs zs, x = .ref l ∧ y = .ref b ∧ H l = some (.lst xs) ∧ H b = some (.lst zs) ∧ xs.length + zs.length ≤ sizeLine ∧ ∀ p, H p = none → Q (.ref p) (upd H p (.lst (xs ++ zs)))
theorem op_cat : OpR X (binaryOp .Add) rCat := by
  intro pins s σ H x y v u Q I rx ry h
  obtain ⟨l, b, xs, zs, rfl, rfl, hH, hB, hz, q⟩ := h
  cases rx
  cases ry
  obtain ⟨z, its, n, r, hl, e⟩ := I.lstM hH
  obtain ⟨z2, its2, n2, r2, hl2, e2⟩ := I.lstM hB
  refine PySem.P.add_list e e2 ?_ (by rw [List.size_toArray, List.size_toArray]; omega)
  have ea : its.toArray ++ its2.toArray = (its ++ its2).toArray := by simp
  rw [ea]
  exact ⟨.ref _, _, I.lnew (t' := s.toks) (r.append r2) (by rw [List.length_append]; omega), rfl, q _ I.fresh⟩
/-- a list times an int (a negative one is nothing) -/
def rRep : R2 := fun x y H Q => ∃ l k xs, x = .ref l ∧ y = .int k ∧ H l = some (.lst xs) ∧ -(2 ^ 63) ≤ k ∧ k < 2 ^ 63 ∧ xs.length * k.toNat ≤ sizeLine ∧
  ∀ p, H p = none → Q (.ref p) (upd H p (.lst (List.replicate k.toNat xs).flatten))
theorem len_rep {α : Type} (xs : List α) (k : Nat) : (List.replicate k xs).flatten.length = k * xs.length := by
  induction k with
  | zero => simp
  | succ k ih => rw [List.replicate_succ, List.flatten_cons, List.length_append, ih, Nat.succ_mul, Nat.add_comm]
theorem op_rep : OpR X (binaryOp .Mult) rRep := by
  intro pins s σ H x y v u Q I rx ry h
  obtain ⟨l, k, xs, rfl, rfl, hH, h1, h2, hz, q⟩ := h
  cases rx
  obtain ⟨t, rfl⟩ := ry
  obtain ⟨z, its, n, r, hl, e⟩ := I.lstM hH
  have hlen : its.toArray.size * k.toNat ≤ sizeLine := by rw [List.size_toArray, ← hl]; exact hz
  have hcap : ¬ its.toArray.size * k.toNat > (2 ^ 63 - 1) / 8 := by
    have : (sizeLine : Nat) ≤ (2 ^ 63 - 1) / 8 := by decide
    omega
  have hfit : ¬ (!Builtin.List.listFitsIndex k) = true := by
    rw [fitsIndex_both h1 h2]
    exact Bool.false_ne_true
  have hlong : ¬ Builtin.List.listTooLong (its.toArray.size * k.toNat) = true := by
    rw [notLongL hlen]
    exact Bool.false_ne_true
  have hnew : List.foldl (fun x1 x2 => x1 ++ x2) #[] (List.replicate (if its.toArray.isEmpty = true then 0 else k.toNat) its.toArray) = (List.replicate k.toNat its).flatten.toArray := by
    have f0 : ∀ m : Nat, List.foldl (fun x1 x2 => x1 ++ x2) #[] (List.replicate m its.toArray) = (List.replicate m its).flatten.toArray := fun m => by
      have := foldl_rep its m []
      rw [List.nil_append] at this
      exact this
    rw [f0]
    cases its with
    | nil => simp
    | cons a r' => rw [if_neg (by simp)]
  refine wpAny_binaryOp_repeat_ref (T := "list") (U := "int") (by decide) ⟨_, e, rfl⟩ (fun s' => typeIs_int s' k t) noFill_list_mul F.fills_int_mul F.slot_int_rmul repeat_list F.slot_int_index.lookup
    (call_meets F.slot_int_rmul (typeIs_int s k t) F.entry_int_rmul (F.args_int_rmul_2 _ _) (int___rmul___int_list k t l its.toArray n)
      ⟨e, rfl, ⟨_, e, rfl⟩, call_meets F.slot_list_mul ⟨_, e, rfl⟩ F.entry_list_mul (F.args_list_mul_2 _ _) (AutoListH.list___mul___list_int_3 l its.toArray n k t hfit hcap hlong) ⟨e, ?_⟩⟩)
  rw [hnew]
  exact ⟨.ref _, _, I.lnew (t' := s.toks) (r.rep k.toNat) (by rw [len_rep, Nat.mul_comm]; exact hz), rfl, q _ I.fresh⟩

/-! ### del xs[i] -/
end

/-! ### xs[a:b] = ys -/
section
variable {prog : Program} {w : World} {A : Around} {E : Value → Shared → Prop} {s : Shared}
set_option maxRecDepth 100000 in
end

section
variable {X : Cx}
end
end L2

namespace Att
open PySem PySem.W PySem.Calls PyProof.Rows

/-! ### the script -/
theorem ints_of_wellAll {P : Params} {h : Heap} : ∀ (ns : List Int) (vs : List Value), WellAll P h vs (ns.map WData.int) → IntsAre vs ns := by
  intro ns
  induction ns with
  | nil =>
    intro vs w
    rw [List.map_nil] at w
    cases w
    exact .nil
  | cons n ns ih =>
    intro vs w
    rw [List.map_cons] at w
    cases w with
    | cons a b =>
      cases a
      exact .cons _ _ (ih _ b)

theorem script_of {l : OpenLaw} {n : Nat} (hn : l.most = some n) {P : Params} {h : Heap} {args : List WData} {vals : List Value}
    (hpre : l.row.toRowW.claim.pre args = true) (hwl : WellAll P h vals args) :
    ∃ a vs ns, vals = [Value.ref a] ∧ args = [WData.list (ns.map WData.int)] ∧ h.get? a = some { cls := .type "list", data := .seq vs.toArray } ∧ IntsAre vs ns ∧ ns.length ≤ n := by
  have hsh : WShape.hasAll [] args [.list .int] = true := (pre_splitW hpre).1
  have hc : l.pre.holds [] { args := args } = true := (pre_splitW hpre).2
  obtain ⟨d, r, rfl, h1, h2⟩ := hasAllW_cons hsh
  obtain rfl := hasAllW_nil h2
  obtain ⟨xs, rfl, h3⟩ := hasW_list h1
  obtain ⟨ns, rfl⟩ := items_int h3
  have hlen : ns.length ≤ n := by
    unfold OpenLaw.pre at hc
    have h4 : (WTm.not (.lt (.lit (.int (n : Int))) (.len (.arg 0)))).holds [] { args := [.list (ns.map .int)] } = true := by
      have h4 := (holds_andW hc).1
      rw [hn] at h4
      exact h4
    have h5 := condW_of h4 (w_not (w_lt w_lit (w_len_list (w_arg rfl))))
    rw [List.length_map] at h5
    refine Nat.le_of_not_lt fun q => ?_
    have q' : (n : Int) < ((ns.length : Nat) : Int) := by omega
    first
      | (rw [decide_eq_true q'] at h5; exact absurd h5 (by decide))
      | (simp at h5; omega)
  cases hwl with
  | cons w1 w2 =>
    cases w2
    cases w1 with
    | list ho hall => exact ⟨_, _, ns, rfl, rfl, ho, ints_of_wellAll ns _ hall, hlen⟩

theorem post_true (l : OpenLaw) (args : List WData) : l.row.toRowW.claim.post args (.bool true) args = true :=
  postW_of (r := l.row.toRowW) (X := (true == true))
    (show WShape.has [] (.bool true) .bool = true by first | rfl | decide | simp [WShape.has, WShape.arms, WShape.armsAll])
    (show (WTm.eq .res (.lit (.bool true))).value [] { args := args, res := some (.bool true), after := args } = some (.bool (true == true)) from w_eq_bool (w_res rfl) w_lit) rfl

/-! ### the attachment: holds_open's last premise (the goal 'hc' behind k_head) from a wpAny of the law's body -/

/-- the same from a codeAny of the CALL (for a layer whose function contracts speak of calls) -/
theorem attach_call {l : OpenLaw} {n : Nat} {q : Program} {loose : List Str} {XP : (Str → Option Value) → Heap → Prop} {YP : World → Heap → Prop} {d : DefRec}
    (hn : l.most = some n) (hdf : d.params.defaults = [])
    (call : ∀ (w : World) (s₀ s₁ : Shared) (mg mb : Str → Option Value) (fa : Addr) (o : Obj) (pm cd doc : Value) (a : Addr) (vs : List Value) (ns : List Int),
      Ground q loose [] XP w s₀ mg mb s₁.heap → YP w s₁.heap →
      s₁.heap.get? fa = some o → o.data = .func (docDef d.name d.params d.body d.scope pm cd doc) → s₁.heap.CodeRec cd d.name → mg d.name = some (.ref fa) →
      s₁.heap.get? a = some { cls := .type "list", data := .seq vs.toArray } → IntsAre vs ns → ns.length ≤ n → s₁.gens = #[] →
      codeAny (model l.prog w) callerA (.call (.ref fa) ⟨[.ref a], []⟩) (fun r s' => r = .ok (.ret (.bool true)) ∧ OldK s₁.heap s'.heap ∧ s'.os = s₁.os ∧ AllBare s'.gens) s₁) :
    WalkO q loose XP YP l.row.toRowW d [] (fun f vs => PySem.call f vs) := by
  intro w s₀ s₁ mg mb G Y fa o pm cd doc dV kV ho hd hcd hD hmg hg args vals as hpre hlay hrd hwl hlo
  obtain rfl : dV = .none := Dflts.none hD hdf
  obtain rfl : kV = .none := Dflts.noKw hD
  obtain ⟨a, vs, ns, rfl, rfl, hobj, hints, hlen⟩ := script_of hn hpre hwl
  refine enter_call (codeAny_mono (call w s₀ s₁ mg mb fa o pm cd doc a vs ns G Y ho (fd_plain hd) hcd hmg hobj hints hlen hg) fun r s' hq => ?_)
  obtain ⟨rfl, h2, h3, h4⟩ := hq
  exact ⟨.inl ⟨.bool true, .bool true, [], rfl, fun _ => rfl, .bool true, post_true l _, fun _ => ⟨List.Pairwise.nil, fun _ hm => (nomatch hm)⟩⟩, h2, h3, h4⟩


/-! ### rules over ANY heap (no ledger) from facts about the written part K: the library's own take a ledger (News) for what they write -/
section
variable {prog : Program} {w : World} {A : Around} {E : Value → Shared → Prop} {s : Shared} {K : Frag}





/-! the whole heap as the ledger: makes every rule that writes through a ledger a rule over any heap -/
def noObjs (h : Heap) : Heap := { h with objs := #[] }
def ledger (h : Heap) (L d : Addr) : List (Addr × Obj) := (List.range h.objs.size).filterMap fun a => if a = L ∨ a = d then none else (h.get? a).map fun o => (a, o)

end
end Att

namespace L2
open PySem PySem.Spec PyProof.Rows

theorem vals_ints : ∀ {vs : List Value} {ns : List Int}, IntsAre vs ns → Vals (ns.map V.int) vs
  | _, _, .nil => .nil
  | _, _, .cons n t h => .cons ⟨t, rfl⟩ (vals_ints h)

/-- nothing is tracked but the script, known to the object (or it is an object of the module) -/
def Only (H : Hp) : Prop := ∀ b, H b = none ∨ ∃ o xs, H b = some (.frz o (.lst xs))

end L2

namespace L2
open PySem PySem.Spec PyProof.Rows

abbrev KOf {K : PySem.W.Frag} {h : Heap} (_ : K.In h) : PySem.W.Frag := K

end L2

/- THE LAST THEOREM (shape; LID, My.* are yours):
   My.Adr: a structure of the addresses that your layer names (classes, functions); My.Txt K t: a structure (Prop) of the equations over K;
   My.txt_mk : {K} {implicit addresses ..} (e1 : nsIn K mainGlobals "law" = some (some (.ref f))) (e2 : K.lookup f = some ⟨oc, od, .func (fnOf "law" "law" params body scope dV kV doc pm an cdv ct), sl⟩) (e3 : codeIn K cdv "law" = true) .. : ∃ t, My.Txt K t

set_option maxRecDepth 100000 in
set_option maxHeartbeats 0 in
theorem PySem.Challenge.cw_LID_holds : PySem.Challenge.rw_LID.Holds := by
  w_on; o_law; k_head; (case hw => w_witness2)
  k_fill
  refine L2.walk_of (l := PySem.Challenge.rw_LID) (n := 63) (k := 40) (x := "script") (CX := fun w => ..) (sp := fun _ => My.sp_law) rfl (by decide) rfl ⟨rfl, by decide, by decide⟩ (fun w h Y => PySem.W.kIn_of Y) ?F ?S ?C
  case F =>
    intro w mg fa h KX G hmg
    have T : ∃ t, My.Txt (L2.KOf KX) t := by
      dsimp only [L2.KOf]                          -- K must stand as «<heap const> w.params» for k_is
      refine' My.txt_mk ?e1 ?e2 ?e3 ..
      (case e1 => PySem.W.k_is)                    -- in the order: a name -> its address -> its object -> its parts
      (case e2 => PySem.W.k_is)
      ..
    obtain ⟨t, T⟩ := T
    have e0 := hmg.symm.trans (PySem.W.mg_of KX G T.law)
    cases e0                                       -- fa is the law's own address
    exact ⟨_, fun s u => .of_eq rfl, fun base kb nb => My.law_fn T kb nb⟩     -- if «.of_eq rfl» comes too early: refine' ⟨_, ?b, fun base kb nb => My.law_fn T kb nb⟩; exact fun s u => .of_eq rfl
  case S => exact fun w H a ns hl hO hS => ..
  case C => exact ..
(the tactic k_is has no namespace: write k_is) -/

/-! SHORT WORDS over the layer: a def of the text, its body, what a loop and a test want. -/
namespace L2
open PySem PySem.Spec PyProof.Rows

/-! ### the text by places -/
/-- the j-th statement of a class's body -/
def inClass (s : Stmt) (j : Nat) : Stmt := match s with
  | .ClassDef _ _ _ body _ _ _ _ _ _ _ => body.getD j (.Pass ⟨0, 0, 0, 0⟩)
  | _ => .Pass ⟨0, 0, 0, 0⟩
def defArgs (s : Stmt) : Arguments := match s with
  | .FunctionDef _ a _ _ _ _ _ _ _ _ => a
  | _ => { posonlyargs := [], args := [], vararg := none, kwonlyargs := [], kw_defaults := [], kwarg := none, defaults := [] }
def defBody (s : Stmt) : List Stmt := match s with
  | .FunctionDef _ _ b _ _ _ _ _ _ _ => b
  | _ => []
def defScope (s : Stmt) : Scope := match s with
  | .FunctionDef _ _ _ _ _ _ sc _ _ _ => sc
  | _ => { kind := .function, names := [], isGenerator := false, isCoroutine := false }

/-! ### no exception leaves a def -/
abbrev CX0 : CXT := fun _ _ _ _ _ _ => False
abbrev E0 : XK := fun _ _ _ => False
theorem pass0 {X : Cx} : Passes CX0 X E0 := fun _ _ _ _ _ _ _ h => h.elim

/-! ### a def (or method) of the text as it stands behind the top -/
structure Fun (K : PySem.W.Frag) (x qual : Str) (st : Stmt) (f : Addr) (fd : FuncData) : Prop where
  ex : ∃ (oc : Value) (od : Option Addr) (kV doc pm : Value) (an : Option Addr) (cdv ct : Value) (osl : Array (Option Value)),
    fd = PySem.W.fnOf x qual (defArgs st) (defBody st) (defScope st) .none kV doc pm an cdv ct ∧ K.lookup f = some ⟨oc, od, .func fd, osl⟩ ∧ PySem.W.codeIn K cdv qual = true
  kp : PySem.W.keepIn K (.ref f) = true
section
variable {P : Program} {w : World} {K : PySem.W.Frag} {mg : Str → Option Value} {base : Heap}
/-- THE RULE for a def: its body as a term of rules, and the reading of that term -/
theorem Fun.ok {x qual : Str} {st : Stmt} {f : Addr} {fd : FuncData} {N ps : List Str} {k : Nat} {sp : Sp} (F : Fun K x qual st f fd) (S : FnScope N ps (defScope st)) (len : ∀ vs H Q E, sp vs H Q E → vs.length = ps.length)
    (hbody : ∀ (cdv : Value) (A : Around) (outer : List Env) (s : Shared) (H : Hp) (vs : List V) (Q : VK) (E : XK), Room k (A.deeper (envOfC qual (defScope st) s.heap.objs.size f cdv)) → sp vs H Q E →
      ∃ t, PSs (cxOf CX0 P w K mg base N qual (defScope st) f cdv A outer s H E).nox (defBody st) t ∧ t { nx := fun _ H' => Q .non H', rt := Q } (start N vs) H) : FnOk P w K mg base CX0 (k + 1) f fd ps sp := by
  obtain ⟨oc, od, kV, doc, pm, an, cdv, ct, osl, rfl, lk, hcd⟩ := F.ex
  refine fn_of lk hcd S len fun A outer s H vs Q E hr hsp => ?_
  obtain ⟨t, h, q⟩ := hbody cdv A outer s H vs Q E hr hsp
  exact ⟨t, h.nox, q⟩
/-- how its arguments bind (no defaults): h is «fun _ _ _ _ _ _ us hl => match us, hl with | [_, _], _ => rfl», one _ a parameter -/
theorem Fun.binds {x qual : Str} {st : Stmt} {f : Addr} {fd : FuncData} {ps : List Str} (F : Fun K x qual st f fd)
    (h : ∀ (kV doc pm : Value) (an : Option Addr) (cdv ct : Value) (us : List Value), us.length = ps.length → bindArgs (PySem.W.fnOf x qual (defArgs st) (defBody st) (defScope st) .none kV doc pm an cdv ct) ⟨us, []⟩ = pure (ps.zip us)) : Binds K fd ps [] := by
  obtain ⟨oc, od, kV, doc, pm, an, cdv, ct, osl, rfl, lk, hcd⟩ := F.ex
  exact .all (h kV doc pm an cdv ct)
theorem fun_mk {x qual : Str} {st : Stmt} {f : Addr} {oc : Value} {od an : Option Addr} {osl : Array (Option Value)} {kV doc pm cdv ct : Value} (l : K.lookup f = some ⟨oc, od, .func (PySem.W.fnOf x qual (defArgs st) (defBody st) (defScope st) .none kV doc pm an cdv ct), osl⟩)
    (c : PySem.W.codeIn K cdv qual = true) (k : PySem.W.keepIn K (.ref f) = true) : Fun K x qual st f (PySem.W.fnOf x qual (defArgs st) (defBody st) (defScope st) .none kV doc pm an cdv ct) := ⟨⟨oc, od, kV, doc, pm, an, cdv, ct, osl, rfl, l, c⟩, k⟩
end

/-! ### expressions in short: the name that stands in the i-th slot -/
section
variable {X : Cx}
theorem pv (i : Nat) {x : Str} {pos : Pos} (hN : X.N[i]? = some x := by rfl) (hv : Vis X.env.scope x := by first | exact Or.inl rfl | exact Or.inr (Or.inl rfl) | exact Or.inr (Or.inr rfl)) (hd : (x == ("__debug__" : Str)) = false := by decide)
    (hcd : (x == ("__classdict__" : Str)) = false := by decide) : PE X (.Name x pos) (tVar i) := pe_var hN hv hd hcd
end

/-! ### tests -/
theorem iteF {A B : Prop} (h : B) : if false = true then A else B := by
  rw [if_neg Bool.false_ne_true]
  exact h
theorem iteT {A B : Prop} (h : A) : if true = true then A else B := by
  rw [if_pos rfl]
  exact h
theorem iteNS {c A B : Prop} [Decidable c] (hc : c) (h : B) : if (!decide c) = true then A else B := by
  rw [decide_eq_true hc]
  exact iteF h

/-! ### heaps -/
/-- all that was tracked is as it was -/
def Same (H H' : Hp) : Prop := ∀ b o, H b = some o → H' b = some o
theorem Same.trans {H H1 H2 : Hp} (a : Same H H1) (b : Same H1 H2) : Same H H2 := fun c o h => b c o (a c o h)
theorem Same.seq {K : PySem.W.Frag} {H H' : Hp} {a : Addr} {xs : List V} (e : Same H H') (h : SqL K H a xs) : SqL K H' a xs := by
  rcases h with (h | ⟨o, h⟩) | h
  · exact .inl (.inl (e _ _ h))
  · exact .inl (.inr ⟨o, e _ _ h⟩)
  · exact .inr h

end L2

set_option maxHeartbeats 4000000
namespace YM
/-! ### orders -/
structure Ord {α : Type} (f : α → α → Int) (D : α → Prop) : Prop where
  rfl' : ∀ x, D x → f x x = 0
  anti : ∀ x y, D x → D y → (0 < f x y ↔ f y x < 0)
  trans : ∀ x y z, D x → D y → D z → f x y ≤ 0 → f y z ≤ 0 → f x z ≤ 0
section
variable {α : Type} {f : α → α → Int} {D : α → Prop}
theorem Ord.zero (O : Ord f D) {x y : α} (hx : D x) (hy : D y) : f x y = 0 ↔ f y x = 0 := by
  have h1 := O.anti x y hx hy
  have h2 := O.anti y x hy hx
  constructor <;> intro h <;> omega
def Srt (f : α → α → Int) (l : List α) : Prop := l.Pairwise fun x y => f x y ≤ 0
def cls (f : α → α → Int) (z : α) (l : List α) : List α := l.filter fun x => f z x == 0
theorem cls_append (z : α) (a b : List α) : cls f z (a ++ b) = cls f z a ++ cls f z b := List.filter_append ..


/-! ### the law's own sort: from behind -/
def insAt (f : α → α → Int) (e : α) (l : List α) : Nat → Nat
  | 0 => 0
  | p + 1 => match l[p]? with
    | some y => if f y e > 0 then insAt f e l p else p + 1
    | none => p + 1
def ins (f : α → α → Int) (l : List α) (e : α) : List α := l.take (insAt f e l l.length) ++ e :: l.drop (insAt f e l l.length)
def sortS (f : α → α → Int) (l : List α) : List α := l.foldl (ins f) []
theorem insAt_le (e : α) (l : List α) : ∀ p, insAt f e l p ≤ p
  | 0 => Nat.le_refl 0
  | p + 1 => by
    unfold insAt
    split
    · split
      · exact Nat.le_succ_of_le (insAt_le e l p)
      · exact Nat.le_refl _
    · exact Nat.le_refl _
theorem insAt_hi (e : α) (l : List α) : ∀ p, p ≤ l.length → ∀ i, insAt f e l p ≤ i → i < p → ∃ y, l[i]? = some y ∧ f y e > 0
  | 0, _, i, _, h => by omega
  | p + 1, hp, i, h1, h2 => by
    have hlt : p < l.length := by omega
    have e0 : l[p]? = some l[p] := by simp [hlt]
    unfold insAt at h1
    rw [e0] at h1
    simp only at h1
    split at h1
    · rename_i hc
      by_cases hi : i = p
      · subst hi; exact ⟨_, e0, hc⟩
      · exact insAt_hi e l p (by omega) i h1 (by omega)
    · omega
theorem insAt_lo (e : α) (l : List α) : ∀ p, p ≤ l.length → insAt f e l p = 0 ∨ ∃ y, l[insAt f e l p - 1]? = some y ∧ f y e ≤ 0
  | 0, _ => .inl rfl
  | p + 1, hp => by
    have hlt : p < l.length := by omega
    have e0 : l[p]? = some l[p] := by simp [hlt]
    unfold insAt
    rw [e0]
    simp only
    split
    · exact insAt_lo e l p (by omega)
    · rename_i hc
      right
      refine ⟨l[p], by simp [hlt], ?_⟩
      omega
theorem ins_mem (l : List α) (e x : α) : x ∈ ins f l e ↔ x ∈ l ∨ x = e := by
  unfold ins
  have h := List.take_append_drop (insAt f e l l.length) l
  constructor
  · intro hx
    rcases List.mem_append.mp hx with h1 | h1
    · exact .inl (List.mem_of_mem_take h1)
    · rcases List.mem_cons.mp h1 with h2 | h2
      · exact .inr h2
      · exact .inl (List.mem_of_mem_drop h2)
  · rintro (hx | rfl)
    · rw [← h] at hx
      rcases List.mem_append.mp hx with h1 | h1
      · exact List.mem_append_left _ h1
      · exact List.mem_append_right _ (List.mem_cons_of_mem _ h1)
    · exact List.mem_append_right _ List.mem_cons_self
theorem ins_length (l : List α) (e : α) : (ins f l e).length = l.length + 1 := by
  unfold ins
  rw [List.length_append, List.length_cons, List.length_take, List.length_drop]
  have := insAt_le (f := f) e l l.length
  omega
theorem ins_perm (l : List α) (e : α) : (ins f l e).Perm (e :: l) := by
  unfold ins
  refine List.perm_middle.trans ?_
  rw [List.take_append_drop]
theorem Srt.take_le (O : Ord f D) {l : List α} {e : α} (d : ∀ x ∈ l, D x) (he : D e) (s : Srt f l) : ∀ x ∈ l.take (insAt f e l l.length), f x e ≤ 0 := by
  intro x hx
  rcases insAt_lo (f := f) e l l.length (Nat.le_refl _) with h0 | ⟨y, hy, hle⟩
  · rw [h0] at hx; simp at hx
  · obtain ⟨i, hi⟩ := List.getElem?_of_mem hx
    have hil : i < insAt f e l l.length := by
      have := (List.getElem?_eq_some_iff.mp hi).1
      rw [List.length_take] at this
      omega
    rw [List.getElem?_take_of_lt hil] at hi
    have hxl := List.mem_of_getElem? hi
    have hyl := List.mem_of_getElem? hy
    by_cases hEq : i = insAt f e l l.length - 1
    · rw [hEq, hy] at hi
      cases hi
      exact hle
    · have hlt : i < insAt f e l l.length - 1 := by omega
      obtain ⟨hb1, hb2⟩ := List.getElem?_eq_some_iff.mp hi
      obtain ⟨hc1, hc2⟩ := List.getElem?_eq_some_iff.mp hy
      have := List.pairwise_iff_getElem.mp s i _ hb1 hc1 hlt
      rw [hb2, hc2] at this
      exact O.trans x y e (d x hxl) (d y hyl) he this hle
theorem Srt.drop_gt {l : List α} {e : α} : ∀ x ∈ l.drop (insAt f e l l.length), f x e > 0 := by
  intro x hx
  obtain ⟨i, hi⟩ := List.getElem?_of_mem hx
  rw [List.getElem?_drop] at hi
  obtain ⟨hb1, _⟩ := List.getElem?_eq_some_iff.mp hi
  obtain ⟨y, h1, h2⟩ := insAt_hi (f := f) e l l.length (Nat.le_refl _) _ (Nat.le_add_right _ i) hb1
  rw [hi] at h1; cases h1
  exact h2
theorem Srt.ins (O : Ord f D) {l : List α} {e : α} (d : ∀ x ∈ l, D x) (he : D e) (s : Srt f l) : Srt f (ins f l e) := by
  have h1 := Srt.take_le O d he s
  have h2 := Srt.drop_gt (f := f) (l := l) (e := e)
  have s' : (l.take (insAt f e l l.length) ++ l.drop (insAt f e l l.length)).Pairwise fun x y => f x y ≤ 0 := by rw [List.take_append_drop]; exact s
  obtain ⟨a1, a2, a3⟩ := List.pairwise_append.mp s'
  unfold YM.ins
  refine List.pairwise_append.mpr ⟨a1, List.pairwise_cons.mpr ⟨fun y hy => ?_, a2⟩, fun x hx y hy => ?_⟩
  · have := h2 y hy
    have := (O.anti y e (d y (List.mem_of_mem_drop hy)) he).mp (h2 y hy)
    omega
  · rcases List.mem_cons.mp hy with rfl | hy
    · exact h1 x hx
    · exact a3 x hx y hy
theorem cls_ins (O : Ord f D) {l : List α} {e z : α} (d : ∀ x ∈ l, D x) (he : D e) (hz : D z) (s : Srt f l) : cls f z (ins f l e) = cls f z l ++ cls f z [e] := by
  have h2 := Srt.drop_gt (f := f) (l := l) (e := e)
  have hl := List.take_append_drop (insAt f e l l.length) l
  by_cases hze : f z e = 0
  · have hnil : cls f z (l.drop (insAt f e l l.length)) = [] := by
      unfold cls
      rw [List.filter_eq_nil_iff]
      intro x hx hc
      have hx0 : f z x = 0 := by simpa using hc
      have hxl := d x (List.mem_of_mem_drop hx)
      have g := h2 x hx
      have xz : f x z ≤ 0 := by
        have := (O.zero hz hxl).mp hx0
        omega
      have := O.trans x z e hxl hz he xz (by omega)
      omega
    have e1 : cls f z l = cls f z (l.take (insAt f e l l.length)) := by
      conv => lhs; rw [← hl]
      rw [cls_append, hnil, List.append_nil]
    unfold YM.ins
    rw [cls_append, e1]
    congr 1
    show cls f z ([e] ++ _) = _
    rw [cls_append, hnil, List.append_nil]
  · have hc : cls f z [e] = [] := by simp [cls, hze]
    unfold YM.ins
    rw [cls_append, hc, List.append_nil]
    have : cls f z (e :: l.drop (insAt f e l l.length)) = cls f z (l.drop (insAt f e l l.length)) := by simp [cls, hze]
    rw [this, ← cls_append, hl]

theorem sortS_go (O : Ord f D) : ∀ (l acc : List α), (∀ x ∈ l, D x) → (∀ x ∈ acc, D x) → Srt f acc →
    Srt f (l.foldl (ins f) acc) ∧ (∀ x, x ∈ l.foldl (ins f) acc ↔ x ∈ acc ∨ x ∈ l) ∧ (∀ z, D z → cls f z (l.foldl (ins f) acc) = cls f z acc ++ cls f z l) := by
  intro l
  induction l with
  | nil => intro acc _ _ s; exact ⟨s, by simp, by simp [cls]⟩
  | cons e r ih =>
    intro acc dl da s
    have he := dl e List.mem_cons_self
    have da' : ∀ x ∈ ins f acc e, D x := fun x hx => by
      rcases (ins_mem acc e x).mp hx with h | h
      · exact da x h
      · rw [h]; exact he
    obtain ⟨h1, h2, h3⟩ := ih (ins f acc e) (fun x hx => dl x (List.mem_cons_of_mem _ hx)) da' (Srt.ins O da he s)
    refine ⟨h1, fun x => ?_, fun z hz => ?_⟩
    · rw [List.foldl_cons, h2 x, ins_mem, List.mem_cons]
      constructor
      · rintro ((h | h) | h) <;> simp_all
      · rintro (h | h | h) <;> simp_all
    · rw [List.foldl_cons, h3 z hz, cls_ins O da he hz s, List.append_assoc, ← cls_append]
      rfl
theorem sortS_srt (O : Ord f D) {l : List α} (d : ∀ x ∈ l, D x) : Srt f (sortS f l) := (sortS_go O l [] d (by simp) List.Pairwise.nil).1
theorem sortS_perm (l : List α) : (sortS f l).Perm l := by
  have go : ∀ (l acc : List α), (l.foldl (ins f) acc).Perm (l ++ acc) := by
    intro l
    induction l with
    | nil => intro acc; exact List.Perm.refl _
    | cons e r ih =>
      intro acc
      rw [List.foldl_cons]
      refine (ih _).trans ?_
      refine ((ins_perm acc e).append_left r).trans ?_
      exact List.perm_middle
  have := go l []
  rw [List.append_nil] at this
  exact this
end

/-! ### log -/
def clog (n : Nat) : Nat := if n ≤ 1 then 0 else clog ((n + 1) / 2) + 1
termination_by n
decreasing_by omega
theorem clog_le {n : Nat} (h : n ≤ 1) : clog n = 0 := by unfold clog; rw [if_pos h]
theorem clog_gt {n : Nat} (h : 1 < n) : clog n = clog ((n + 1) / 2) + 1 := by rw [clog, if_neg (by omega)]
theorem clog_pow (n : Nat) : n ≤ 2 ^ clog n := by
  induction n using Nat.strongRecOn with
  | _ n ih =>
    by_cases h : n ≤ 1
    · rw [clog_le h]; simpa using h
    · rw [clog_gt (by omega), Nat.pow_succ]
      have := ih ((n + 1) / 2) (by omega)
      omega
theorem clog_least : ∀ (k n : Nat), n ≤ 2 ^ k → clog n ≤ k
  | 0, n, h => by rw [clog_le (by simpa using h)]; exact Nat.le_refl 0
  | k + 1, n, h => by
    by_cases hn : n ≤ 1
    · rw [clog_le hn]; exact Nat.zero_le _
    · rw [clog_gt (by omega)]
      have : (n + 1) / 2 ≤ 2 ^ k := by rw [Nat.pow_succ] at h; omega
      have := clog_least k _ this
      omega
theorem clog_mono {m n : Nat} (h : m ≤ n) : clog m ≤ clog n := clog_least _ _ (Nat.le_trans h (clog_pow n))

/-! ### the search -/
section
variable {α : Type} (F : List (α × α) → α → α → Int) (t : Int → Bool) (xs : List α) (key : α)
def bis (L : List (α × α)) (lo hi : Nat) : Nat × List (α × α) :=
  if h : lo < hi then
    match xs[(lo + hi) / 2]? with
    | some x => if t (F L x key) then bis (L ++ [(x, key)]) ((lo + hi) / 2 + 1) hi else bis (L ++ [(x, key)]) lo ((lo + hi) / 2)
    | none => (lo, L)
  else (lo, L)
termination_by hi - lo
decreasing_by all_goals omega
variable {F t xs key}
theorem bis_stop {L : List (α × α)} {lo hi : Nat} (h : ¬ lo < hi) : bis F t xs key L lo hi = (lo, L) := by rw [bis, dif_neg h]
theorem bis_step {L : List (α × α)} {lo hi : Nat} {x : α} (h : lo < hi) (e : xs[(lo + hi) / 2]? = some x) :
    bis F t xs key L lo hi = if t (F L x key) then bis F t xs key (L ++ [(x, key)]) ((lo + hi) / 2 + 1) hi else bis F t xs key (L ++ [(x, key)]) lo ((lo + hi) / 2) := by
  rw [bis, dif_pos h, e]
theorem bis_all : ∀ (k : Nat) (L : List (α × α)) (lo hi : Nat), lo ≤ hi → hi ≤ xs.length → hi - lo + 1 ≤ 2 ^ k →
    lo ≤ (bis F t xs key L lo hi).1 ∧ (bis F t xs key L lo hi).1 ≤ hi ∧ (∃ M, (bis F t xs key L lo hi).2 = L ++ M ∧ M.length ≤ k ∧ ∀ p ∈ M, p.1 ∈ xs ∧ p.2 = key)
  | 0, L, lo, hi, h1, h2, h3 => by
    rw [bis_stop (by simp at h3; omega)]
    exact ⟨Nat.le_refl _, h1, [], by simp, Nat.le_refl _, by simp⟩
  | k + 1, L, lo, hi, h1, h2, h3 => by
    by_cases h : lo < hi
    · have hm : (lo + hi) / 2 < xs.length := by omega
      have e : xs[(lo + hi) / 2]? = some xs[(lo + hi) / 2] := by simp [hm]
      rw [bis_step h e]
      rw [Nat.pow_succ] at h3
      split
      · obtain ⟨a, b, M, c, d, g⟩ := bis_all k (L ++ [(xs[(lo + hi) / 2], key)]) ((lo + hi) / 2 + 1) hi (by omega) h2 (by omega)
        refine ⟨by omega, b, (xs[(lo + hi) / 2], key) :: M, by rw [c]; simp, by simp; omega, ?_⟩
        intro p hp
        rcases List.mem_cons.mp hp with rfl | hp
        · exact ⟨List.getElem_mem hm, rfl⟩
        · exact g p hp
      · obtain ⟨a, b, M, c, d, g⟩ := bis_all k (L ++ [(xs[(lo + hi) / 2], key)]) lo ((lo + hi) / 2) (by omega) (by omega) (by omega)
        refine ⟨a, by omega, (xs[(lo + hi) / 2], key) :: M, by rw [c]; simp, by simp; omega, ?_⟩
        intro p hp
        rcases List.mem_cons.mp hp with rfl | hp
        · exact ⟨List.getElem_mem hm, rfl⟩
        · exact g p hp
    · rw [bis_stop h]
      exact ⟨Nat.le_refl _, h1, [], by simp, Nat.zero_le _, by simp⟩
/-- by a test that holds of a front part alone -/
theorem bis_count {p : α → Bool} (hF : ∀ L x, x ∈ xs → t (F L x key) = p x) (c : Nat) (hc : c ≤ xs.length) (h1 : ∀ i x, xs[i]? = some x → (p x = true ↔ i < c)) :
    ∀ (n : Nat) (L : List (α × α)) (lo hi : Nat), hi - lo = n → lo ≤ c → c ≤ hi → hi ≤ xs.length → (bis F t xs key L lo hi).1 = c := by
  intro n
  induction n using Nat.strongRecOn with
  | _ n ih =>
    intro L lo hi hn hl hh hx
    by_cases h : lo < hi
    · have hm : (lo + hi) / 2 < xs.length := by omega
      have e : xs[(lo + hi) / 2]? = some xs[(lo + hi) / 2] := by simp [hm]
      rw [bis_step h e, hF _ _ (List.getElem_mem hm)]
      have q := h1 _ _ e
      split
      · rename_i ht
        exact ih _ (by omega) _ _ _ rfl (by have := q.mp ht; omega) hh hx
      · rename_i ht
        refine ih _ (by omega) _ _ _ rfl hl ?_ (by omega)
        by_cases hlt : (lo + hi) / 2 < c
        · exact absurd (q.mpr hlt) ht
        · omega
    · rw [bis_stop h]
      show lo = c
      omega
end
/-- a test that holds of a front part: its count -/
theorem front_count {α : Type} {p : α → Bool} : ∀ {xs : List α}, xs.Pairwise (fun x y => p y = true → p x = true) → ∀ (i : Nat) (x : α), xs[i]? = some x → (p x = true ↔ i < (xs.filter p).length)
  | [], _, i, x, e => by simp at e
  | y :: r, h, i, x, e => by
    obtain ⟨h1, h2⟩ := List.pairwise_cons.mp h
    cases hp : p y with
    | true =>
      rw [List.filter_cons, hp, if_pos rfl, List.length_cons]
      cases i with
      | zero => simp at e; subst e; simp [hp]
      | succ i =>
        have := front_count h2 i x (by simpa using e)
        rw [this]; omega
    | false =>
      have hr : r.filter p = [] := by
        rw [List.filter_eq_nil_iff]
        intro z hz hpz
        have := h1 z hz hpz
        rw [hp] at this; cases this
      rw [List.filter_cons, hp, if_neg Bool.false_ne_true, hr]
      simp only [List.length_nil, Nat.not_lt_zero, iff_false, Bool.not_eq_true]
      cases i with
      | zero => simp at e; subst e; exact hp
      | succ i =>
        have hm := List.mem_of_getElem? (by simpa using e : r[i]? = some x)
        cases hx : p x with
        | false => rfl
        | true => have := h1 x hm hx; rw [hp] at this; cases this
theorem Ord.lt_trans {β : Type} {f : β → β → Int} {D : β → Prop} (O : Ord f D) {x y z : β} (hx : D x) (hy : D y) (hz : D z) (h1 : f x y ≤ 0) (h2 : f y z < 0) : f x z < 0 := by
  have a := O.trans x y z hx hy hz h1 (by omega)
  rcases Int.lt_or_eq_of_le a with h | h
  · exact h
  · exfalso
    have zx : f z x ≤ 0 := by have := (O.zero hx hz).mp h; omega
    have zy := O.trans z x y hz hx hy zx h1
    have := (O.anti z y hz hy).mpr h2
    omega
end YM

namespace YM
section
variable {α : Type} (F : List (α × α) → α → α → Int)
/-! ### merged -/
def mrg (L : List (α × α)) : List α → List α → List α × List (α × α)
  | [], ys => (ys, L)
  | x :: xs, [] => (x :: xs, L)
  | x :: xs, y :: ys =>
    if F L x y > 0 then (y :: (mrg (L ++ [(x, y)]) (x :: xs) ys).1, (mrg (L ++ [(x, y)]) (x :: xs) ys).2)
    else (x :: (mrg (L ++ [(x, y)]) xs (y :: ys)).1, (mrg (L ++ [(x, y)]) xs (y :: ys)).2)
termination_by xs ys => xs.length + ys.length
variable {F}
theorem mrg_nil {L : List (α × α)} {ys : List α} : mrg F L [] ys = (ys, L) := by rw [mrg]
theorem mrg_nil2 {L : List (α × α)} {xs : List α} : mrg F L xs [] = (xs, L) := by cases xs <;> rw [mrg]
theorem mrg_gt {L : List (α × α)} {x y : α} {xs ys : List α} (h : F L x y > 0) : mrg F L (x :: xs) (y :: ys) = (y :: (mrg F (L ++ [(x, y)]) (x :: xs) ys).1, (mrg F (L ++ [(x, y)]) (x :: xs) ys).2) := by
  rw [mrg, if_pos h]
theorem mrg_le {L : List (α × α)} {x y : α} {xs ys : List α} (h : ¬ F L x y > 0) : mrg F L (x :: xs) (y :: ys) = (x :: (mrg F (L ++ [(x, y)]) xs (y :: ys)).1, (mrg F (L ++ [(x, y)]) xs (y :: ys)).2) := by
  rw [mrg, if_neg h]
/-- by any function -/
structure Mrg (L : List (α × α)) (xs ys : List α) (r : List α × List (α × α)) : Prop where
  perm : r.1.Perm (xs ++ ys)
  one : xs.Sublist r.1
  other : ys.Sublist r.1
  log : ∃ M, r.2 = L ++ M ∧ (∀ p ∈ M, p.1 ∈ xs ∧ p.2 ∈ ys) ∧ M.length ≤ xs.length + ys.length - 1 ∧ (xs = [] ∨ ys = [] → M = [])
theorem mrg_any : ∀ (n : Nat) (L : List (α × α)) (xs ys : List α), xs.length + ys.length = n → Mrg L xs ys (mrg F L xs ys) := by
  intro n
  induction n with
  | zero =>
    intro L xs ys h
    have hx : xs = [] := List.length_eq_zero_iff.mp (by omega)
    have hy : ys = [] := List.length_eq_zero_iff.mp (by omega)
    subst hx; subst hy
    rw [mrg_nil]
    exact ⟨List.Perm.refl _, List.Sublist.refl _, List.Sublist.refl _, [], by simp, by simp, by simp, fun _ => rfl⟩
  | succ n ih =>
    intro L xs ys h
    cases xs with
    | nil =>
      rw [mrg_nil]
      exact ⟨List.Perm.refl _, List.nil_sublist _, List.Sublist.refl _, [], by simp, by simp, by simp, fun _ => rfl⟩
    | cons x xs =>
      cases ys with
      | nil =>
        rw [mrg_nil2]
        exact ⟨by rw [List.append_nil], List.Sublist.refl _, List.nil_sublist _, [], by simp, by simp, by simp, fun _ => rfl⟩
      | cons y ys =>
        by_cases hc : F L x y > 0
        · rw [mrg_gt hc]
          obtain ⟨p, o1, o2, M, e, hm, hl, hz⟩ := ih (L ++ [(x, y)]) (x :: xs) ys (by simp at h ⊢; omega)
          refine ⟨(p.cons y).trans List.perm_middle.symm, o1.cons _, o2.cons_cons _, (x, y) :: M, by rw [e]; simp, ?_, ?_, by simp⟩
          · intro q hq
            rcases List.mem_cons.mp hq with rfl | hq
            · exact ⟨List.mem_cons_self, List.mem_cons_self⟩
            · exact ⟨(hm q hq).1, List.mem_cons_of_mem _ (hm q hq).2⟩
          · cases ys with
            | nil => rw [hz (.inr rfl)]; simp
            | cons z zs => simp at hl ⊢; omega
        · rw [mrg_le hc]
          obtain ⟨p, o1, o2, M, e, hm, hl, hz⟩ := ih (L ++ [(x, y)]) xs (y :: ys) (by simp at h ⊢; omega)
          refine ⟨p.cons x, o1.cons_cons _, o2.cons _, (x, y) :: M, by rw [e]; simp, ?_, ?_, by simp⟩
          · intro q hq
            rcases List.mem_cons.mp hq with rfl | hq
            · exact ⟨List.mem_cons_self, List.mem_cons_self⟩
            · exact ⟨List.mem_cons_of_mem _ (hm q hq).1, (hm q hq).2⟩
          · cases xs with
            | nil => rw [hz (.inl rfl)]; simp
            | cons z zs => simp at hl ⊢; omega
theorem mrg_is (L : List (α × α)) (xs ys : List α) : Mrg L xs ys (mrg F L xs ys) := mrg_any _ L xs ys rfl

/-! ### by twos -/
variable (F)
def twos (L : List (α × α)) : List (List α) → List (List α) × List (α × α)
  | a :: b :: r => ((mrg F L a b).1 :: (twos (mrg F L a b).2 r).1, (twos (mrg F L a b).2 r).2)
  | [a] => ([a], L)
  | [] => ([], L)
variable {F}
theorem twos_len : ∀ (L : List (α × α)) (ps : List (List α)), (twos F L ps).1.length = (ps.length + 1) / 2
  | L, a :: b :: r => by rw [twos]; simp only [List.length_cons]; rw [twos_len]; omega
  | L, [a] => by simp [twos]
  | L, [] => by simp [twos]
variable (F)
def rounds (L : List (α × α)) (ps : List (List α)) : List (List α) × List (α × α) :=
  if ps.length > 1 then rounds (twos F L ps).2 (twos F L ps).1 else (ps, L)
termination_by ps.length
decreasing_by rw [twos_len]; omega
variable {F}


/-! ### ahead -/
variable (F)
def ahd (L : List (α × α)) : List α → Nat × List (α × α)
  | x :: y :: r => if F L x y > 0 then (1, L ++ [(x, y)]) else ((ahd (L ++ [(x, y)]) (y :: r)).1 + 1, (ahd (L ++ [(x, y)]) (y :: r)).2)
  | [_] => (1, L)
  | [] => (0, L)
def stb (L : List (α × α)) (xs : List α) : List α × List (α × α) :=
  if (ahd F L xs).1 = xs.length then (xs, (ahd F L xs).2) else (((rounds F (ahd F L xs).2 (xs.map fun x => [x])).1.headD []), (rounds F (ahd F L xs).2 (xs.map fun x => [x])).2)
variable {F}
end

/-! ### by an order -/
section
variable {α : Type} {F : List (α × α) → α → α → Int} {f : α → α → Int} {D : α → Prop}
/-- the function answers by f -/
def By (F : List (α × α) → α → α → Int) (f : α → α → Int) (D : α → Prop) : Prop := ∀ L x y, D x → D y → F L x y = f x y
theorem mrg_srt (O : Ord f D) (B : By F f D) : ∀ (n : Nat) (L : List (α × α)) (xs ys : List α), xs.length + ys.length = n → (∀ x ∈ xs, D x) → (∀ y ∈ ys, D y) → Srt f xs → Srt f ys →
    Srt f (mrg F L xs ys).1 ∧ ∀ z, D z → cls f z (mrg F L xs ys).1 = cls f z (xs ++ ys) := by
  intro n
  induction n with
  | zero =>
    intro L xs ys h _ _ _ _
    have hx : xs = [] := List.length_eq_zero_iff.mp (by omega)
    have hy : ys = [] := List.length_eq_zero_iff.mp (by omega)
    subst hx; subst hy
    rw [mrg_nil]
    exact ⟨List.Pairwise.nil, fun _ _ => rfl⟩
  | succ n ih =>
    intro L xs ys h dx dy sx sy
    cases xs with
    | nil => rw [mrg_nil]; exact ⟨sy, fun _ _ => rfl⟩
    | cons x xs =>
      cases ys with
      | nil => rw [mrg_nil2]; exact ⟨sx, fun _ _ => by rw [List.append_nil]⟩
      | cons y ys =>
        have hx := dx x List.mem_cons_self
        have hy := dy y List.mem_cons_self
        have sx' := List.pairwise_cons.mp sx
        have sy' := List.pairwise_cons.mp sy
        have eB := B L x y hx hy
        have mm := mrg_is (F := F)
        by_cases hc : F L x y > 0
        · rw [mrg_gt hc]
          obtain ⟨s, c⟩ := ih (L ++ [(x, y)]) (x :: xs) ys (by simp at h ⊢; omega) dx (fun z hz => dy z (List.mem_cons_of_mem _ hz)) sx sy'.2
          have hyx : f y x ≤ 0 := by
            have := (O.anti x y hx hy).mp (by omega)
            omega
          refine ⟨List.pairwise_cons.mpr ⟨fun z hz => ?_, s⟩, fun z hz => ?_⟩
          · have hz' := (mm (L ++ [(x, y)]) (x :: xs) ys).perm.mem_iff.mp hz
            rcases List.mem_append.mp hz' with h1 | h1
            · rcases List.mem_cons.mp h1 with rfl | h1
              · exact hyx
              · exact O.trans y x z hy hx (dx z (List.mem_cons_of_mem _ h1)) hyx (sx'.1 z h1)
            · exact sy'.1 z h1
          · -- like y: none of the first row is
            have e1 : cls f z (y :: (mrg F (L ++ [(x, y)]) (x :: xs) ys).1) = cls f z [y] ++ cls f z (mrg F (L ++ [(x, y)]) (x :: xs) ys).1 := by rw [← cls_append]; rfl
            have e2 : cls f z (y :: ys) = cls f z [y] ++ cls f z ys := by rw [← cls_append]; rfl
            rw [e1, c z hz, cls_append, cls_append, e2]
            by_cases hzy : f z y = 0
            · have hn : cls f z (x :: xs) = [] := by
                unfold cls
                rw [List.filter_eq_nil_iff]
                intro w hw hcw
                have hw0 : f z w = 0 := by simpa using hcw
                have dw := dx w hw
                have xw : f x w ≤ 0 := by
                  rcases List.mem_cons.mp hw with rfl | hw
                  · rw [O.rfl' w dw]; exact Int.le_refl 0
                  · exact sx'.1 w hw
                have wz : f w z ≤ 0 := by
                  have := (O.zero hz dw).mp hw0
                  omega
                have xz := O.trans x w z hx dw hz xw wz
                have xy := O.trans x z y hx hz hy xz (by omega)
                omega
              rw [hn]; simp
            · have : cls f z [y] = [] := by simp [cls, hzy]
              rw [this]; simp
        · rw [mrg_le hc]
          obtain ⟨s, c⟩ := ih (L ++ [(x, y)]) xs (y :: ys) (by simp at h ⊢; omega) (fun z hz => dx z (List.mem_cons_of_mem _ hz)) dy sx'.2 sy
          have hxy : f x y ≤ 0 := by omega
          refine ⟨List.pairwise_cons.mpr ⟨fun z hz => ?_, s⟩, fun z hz => ?_⟩
          · have hz' := (mm (L ++ [(x, y)]) xs (y :: ys)).perm.mem_iff.mp hz
            rcases List.mem_append.mp hz' with h1 | h1
            · exact sx'.1 z h1
            · rcases List.mem_cons.mp h1 with rfl | h1
              · exact hxy
              · exact O.trans x y z hx hy (dy z (List.mem_cons_of_mem _ h1)) hxy (sy'.1 z h1)
          · have e1 : cls f z (x :: (mrg F (L ++ [(x, y)]) xs (y :: ys)).1) = cls f z [x] ++ cls f z (mrg F (L ++ [(x, y)]) xs (y :: ys)).1 := by rw [← cls_append]; rfl
            have e2 : cls f z ((x :: xs) ++ (y :: ys)) = cls f z [x] ++ cls f z (xs ++ (y :: ys)) := by rw [← cls_append]; rfl
            rw [e1, c z hz, e2]
end
end YM

namespace L2
open PySem PySem.Spec PyProof.Rows

/-! ### a comprehension: its block -/
def closGo (env : Env) : List (Str × NameKind) → List (Str × Addr) → List (Str × Addr)
  | [], cs => cs
  | (n, k) :: r, cs => closGo env r (if k == .free then (n, (env.cells.lookup n).getD 0) :: cs else cs)
def closOf (scope : Scope) (env : Env) : List (Str × Addr) := closGo env scope.names []

theorem closGo_mono {env : Env} {x : Str} : ∀ (l : List (Str × NameKind)) (cs : List (Str × Addr)), (∃ c, cs.lookup x = some c) → ∃ c, (closGo env l cs).lookup x = some c
  | [], _, h => h
  | (n, k) :: r, cs, h => by
    unfold closGo
    refine closGo_mono r _ ?_
    split
    · rw [List.lookup_cons]
      split
      · exact ⟨_, rfl⟩
      · exact h
    · exact h
theorem closGo_has {env : Env} {x : Str} : ∀ (l : List (Str × NameKind)) (cs : List (Str × Addr)), (x, NameKind.free) ∈ l → ∃ c, (closGo env l cs).lookup x = some c
  | (n, k) :: r, cs, h => by
    unfold closGo
    rcases List.mem_cons.mp h with e | h
    · cases e
      refine closGo_mono r _ ⟨(env.cells.lookup x).getD 0, ?_⟩
      simp [List.lookup_cons]
    · exact closGo_has r _ h
theorem closGo_of {env : Env} {x : Str} {c : Addr} : ∀ (l : List (Str × NameKind)) (cs : List (Str × Addr)), (closGo env l cs).lookup x = some c →
    cs.lookup x = some c ∨ ((x, NameKind.free) ∈ l ∧ c = (env.cells.lookup x).getD 0)
  | [], _, h => .inl h
  | (n, k) :: r, cs, h => by
    unfold closGo at h
    have hg := closGo_of r _ h
    clear h
    rcases hg with h | ⟨h1, h2⟩
    · split at h
      · rename_i hk
        have hk' : k = .free := by simpa using hk
        subst hk'
        rw [List.lookup_cons] at h
        split at h
        · rename_i hx
          have hx' : x = n := by simpa using hx
          subst hx'
          exact .inr ⟨List.mem_cons_self, (Option.some.inj h).symm⟩
        · exact .inl h
      · exact .inl h
    · exact .inr ⟨List.mem_cons_of_mem _ h1, h2⟩
theorem closureFor_eq {scope : Scope} {env : Env} (h : ∀ x ∈ scope.names, x.2 = .free → ∃ c, env.cells.lookup x.1 = some c) : closureFor scope env = pure (closOf scope env) := by
  have go : ∀ (l : List (Str × NameKind)) (cs : List (Str × Addr)), (∀ x ∈ l, x.2 = .free → ∃ c, env.cells.lookup x.1 = some c) →
      (forIn l cs fun (x : Str × NameKind) (r : List (Str × Addr)) => (if x.2 == .free then (do let a ← cellOf env x.1; pure (ForInStep.yield ((x.1, a) :: r))) else pure (ForInStep.yield r) : Sem _)) = (pure (closGo env l cs) : Sem _) := by
    intro l
    induction l with
    | nil => intro cs _; rfl
    | cons x r ih =>
      intro cs hl
      obtain ⟨n, k⟩ := x
      rw [List.forIn_cons]
      unfold closGo
      by_cases hk : (k == NameKind.free) = true
      · obtain ⟨c, hc⟩ := hl (n, k) List.mem_cons_self (by simpa using hk)
        have hc' : env.cells.lookup n = some c := hc
        simp only [hk, if_true, cellOf, hc', pure_bind, Option.getD_some]
        exact ih _ fun x hx => hl x (List.mem_cons_of_mem _ hx)
      · simp only [hk, if_false, pure_bind, Bool.false_eq_true]
        exact ih _ fun x hx => hl x (List.mem_cons_of_mem _ hx)
  unfold closureFor closOf
  rw [← go scope.names [] h]
  simp only [bind_pure]

/-- the block's context: names N', the objects at fp its iterator's -/
def Cx.blk (X : Cx) (scope : Scope) (N' : List Str) (C : Addr) (s₂ : Shared) (H₂ : Hp) (fp : List Addr) : Cx :=
  { X with N := N', s₀ := s₂, H₀ := H₂, env := compEnvC scope (closOf scope X.env) C X.env, outer := X.stack, ex := fp, fn := fun _ => false, xe := fun _ _ => False }

/-- each slot of the block is its own (none) or the frame's slot j -/
def SrcOk (X : Cx) (scope : Scope) : List Str → List (Option Nat) → Prop
  | [], [] => True
  | _ :: xs, none :: ss => SrcOk X scope xs ss
  | x :: xs, some j :: ss => (X.N[j]? = some x ∧ scope.names.lookup x = some .free) ∧ SrcOk X scope xs ss
  | _, _ => False
def carry (src : List (Option Nat)) (σ : St) : St := src.map fun o => match o with | none => none | some j => (σ[j]?).getD none
def keepOf : List (Option Nat) → St → St
  | none :: r, _ :: σ => none :: keepOf r σ
  | some _ :: r, v :: σ => v :: keepOf r σ
  | _, _ => []
theorem SrcOk.len {X : Cx} {scope : Scope} : ∀ {N : List Str} {src : List (Option Nat)}, SrcOk X scope N src → src.length = N.length
  | [], [], _ => rfl
  | _ :: xs, none :: ss, h => by simp [SrcOk.len (N := xs) (src := ss) h]
  | _ :: xs, some j :: ss, h => by simp [SrcOk.len (N := xs) (src := ss) h.2]
  | [], none :: _, h => h.elim
  | [], some _ :: _, h => h.elim
  | _ :: _, [], h => h.elim
theorem SrcOk.get {X : Cx} {scope : Scope} {x : Str} {v : V} {σ : St} : ∀ {N : List Str} {src : List (Option Nat)} {i : Nat}, SrcOk X scope N src → N[i]? = some x → (carry src σ)[i]? = some (some v) →
    ∃ j : Nat, X.N[j]? = some x ∧ scope.names.lookup x = some .free ∧ σ[j]? = some (some v)
  | [], [], _, _, e, _ => by simp at e
  | _ :: xs, none :: ss, 0, _, _, e2 => by simp [carry] at e2
  | _ :: xs, none :: ss, i + 1, h, e, e2 => SrcOk.get (N := xs) (src := ss) (i := i) h (by simpa using e) (by simpa [carry] using e2)
  | y :: xs, some j :: ss, 0, h, e, e2 => by
    simp at e
    subst e
    refine ⟨j, h.1.1, h.1.2, ?_⟩
    simp [carry] at e2
    cases q : σ[j]? with
    | none => rw [q] at e2; simp at e2
    | some o => rw [q] at e2; simp at e2; rw [e2]
  | _ :: xs, some j :: ss, i + 1, h, e, e2 => SrcOk.get (N := xs) (src := ss) (i := i) h.2 (by simpa using e) (by simpa [carry] using e2)
  | [], none :: _, _, h, _, _ => h.elim
  | [], some _ :: _, _, h, _, _ => h.elim
  | _ :: _, [], _, h, _, _ => h.elim
theorem keepOf_get {v : V} : ∀ {src : List (Option Nat)} {σ : St} {i : Nat}, (keepOf src σ)[i]? = some (some v) → σ[i]? = some (some v)
  | none :: r, _ :: σ, 0, h => by simp [keepOf] at h
  | none :: r, _ :: σ, i + 1, h => by simpa using keepOf_get (src := r) (σ := σ) (i := i) (by simpa [keepOf] using h)
  | some _ :: r, w :: σ, 0, h => by simpa [keepOf] using h
  | some _ :: r, w :: σ, i + 1, h => by simpa using keepOf_get (src := r) (σ := σ) (i := i) (by simpa [keepOf] using h)
  | [], _, _, h => by simp [keepOf] at h
  | none :: _, [], _, h => by simp [keepOf] at h
  | some _ :: _, [], _, h => by simp [keepOf] at h

/-- what the text's scope of a block must show (each by rfl) -/
structure Blk (X : Cx) (scope : Scope) (N' : List Str) (src : List (Option Nat)) : Prop where
  kind : scope.kind = .function
  nocell : (scope.names.all fun y => y.2 != .cell) = true
  names : (scope.names.all fun y => y.2 != .local || scope.names.lookup y.1 == some .local) = true
  frees : (scope.names.all fun y => y.2 != .free || X.env.scope.names.lookup y.1 == some .cell || X.env.scope.names.lookup y.1 == some .free) = true
  src : SrcOk X scope N' src

section
variable {X : Cx} {scope : Scope} {N' : List Str} {src : List (Option Nat)}
theorem Blk.cell (B : Blk X scope N' src) : ∀ y ∈ scope.names, y.2 ≠ .cell := fun y hy => by
  have := List.all_eq_true.mp B.nocell y hy
  simpa using this
theorem Blk.loc (B : Blk X scope N' src) : ∀ y ∈ scope.names, y.2 = .local → scope.names.lookup y.1 = some .local := fun y hy h => by
  have := List.all_eq_true.mp B.names y hy
  simpa [h] using this
theorem Blk.free (B : Blk X scope N' src) : ∀ y ∈ scope.names, y.2 = .free → X.env.kindOf y.1 = some .cell ∨ X.env.kindOf y.1 = some .free := fun y hy h => by
  have := List.all_eq_true.mp B.frees y hy
  simp [h] at this
  exact this
theorem Blk.cells (B : Blk X scope N' src) (ok : X.Ok) : ∀ y ∈ scope.names, y.2 = .free → ∃ c, X.env.cells.lookup y.1 = some c := fun y hy h => ok.has y.1 (B.free y hy h)
theorem Blk.lookup (B : Blk X scope N' src) (ok : X.Ok) {x : Str} {c : Addr} (h : (closOf scope X.env).lookup x = some c) : X.env.cells.lookup x = some c ∧ (x, NameKind.free) ∈ scope.names := by
  rcases closGo_of _ _ h with h | ⟨h1, h2⟩
  · simp at h
  · obtain ⟨c', e⟩ := B.cells ok _ h1 rfl
    have e' : X.env.cells.lookup x = some c' := e
    rw [e'] at h2 ⊢
    exact ⟨by rw [h2]; rfl, h1⟩
/-- a kind in the relabelled scope -/
theorem relabel_look {env : Env} {x : Str} {k : NameKind} : ∀ {names : List (Str × NameKind)},
    (names.map fun (n, k) => if (k == NameKind.free && env.scope.kind == .function && env.kindOf n == some .cell) then (n, NameKind.cell) else (n, k)).lookup x = some k →
    names.lookup x = some k ∨ (k = .cell ∧ names.lookup x = some .free)
  | [], h => by simp at h
  | (n, k') :: r, h => by
    rw [List.map_cons] at h
    cases hx : x == n with
    | true =>
      by_cases hc : (k' == NameKind.free && env.scope.kind == .function && env.kindOf n == some .cell) = true
      · simp only [hc, if_true, List.lookup_cons, hx] at h
        have hk : k' = .free := by
          simp only [Bool.and_eq_true] at hc
          simpa using hc.1.1
        subst hk
        refine .inr ⟨(Option.some.inj h).symm, ?_⟩
        simp [List.lookup_cons, hx]
      · simp only [hc, List.lookup_cons, hx, Bool.false_eq_true, if_false] at h
        exact .inl (by simp [List.lookup_cons, hx]; exact Option.some.inj h)
    | false =>
      have h' : (r.map fun (n, k) => if (k == NameKind.free && env.scope.kind == .function && env.kindOf n == some .cell) then (n, NameKind.cell) else (n, k)).lookup x = some k := by
        by_cases hc : (k' == NameKind.free && env.scope.kind == .function && env.kindOf n == some .cell) = true
        · simp only [hc, if_true, List.lookup_cons, hx] at h
          exact h
        · simp only [hc, List.lookup_cons, hx, Bool.false_eq_true, if_false] at h
          exact h
      rcases relabel_look h' with h2 | h2
      · exact .inl (by simp only [List.lookup_cons, hx]; exact h2)
      · exact .inr (by simp only [List.lookup_cons, hx]; exact h2)
theorem relabel_free {env : Env} {x : Str} : ∀ {names : List (Str × NameKind)}, names.lookup x = some .free →
    (names.map fun (n, k) => if (k == NameKind.free && env.scope.kind == .function && env.kindOf n == some .cell) then (n, NameKind.cell) else (n, k)).lookup x = some .cell ∨
    (names.map fun (n, k) => if (k == NameKind.free && env.scope.kind == .function && env.kindOf n == some .cell) then (n, NameKind.cell) else (n, k)).lookup x = some .free
  | [], h => by simp at h
  | (n, k') :: r, h => by
    rw [List.map_cons]
    cases hx : x == n with
    | true =>
      simp only [List.lookup_cons, hx] at h
      cases h
      by_cases hc : (NameKind.free == NameKind.free && env.scope.kind == .function && env.kindOf n == some .cell) = true
      · exact .inl (by simp only [hc, if_true, List.lookup_cons, hx])
      · exact .inr (by simp only [hc, List.lookup_cons, hx, Bool.false_eq_true, if_false])
    | false =>
      simp only [List.lookup_cons, hx] at h
      have ih := relabel_free (env := env) h
      by_cases hc : (k' == NameKind.free && env.scope.kind == .function && env.kindOf n == some .cell) = true
      · simp only [hc, if_true, List.lookup_cons, hx]; exact ih
      · simp only [hc, List.lookup_cons, hx, Bool.false_eq_true, if_false]; exact ih

/-- the block is entered: an empty list at D, the block's names at C -/
theorem blk_inv {pins : List (Addr × Obj)} {σ : St} {H : Hp} {s : Shared} {fp : List Addr} {D C : Addr} {h₁ : Heap} {t₁ : Nat} (I : Inv X pins σ H s) (B : Blk X scope N' src) (hf : ∀ b ∈ fp, FpOk X pins H b) (hfl : ∀ b ∈ fp, b < s.heap.objs.size)
    (hD : s.heap.objs.size ≤ D) (hC : D < C) (keep : ∀ b o, s.heap.get? b = some o → h₁.get? b = some o) (hacc : h₁.get? D = some { cls := .type "list", data := .seq #[] 0 })
    (hns : h₁.Ns C fun _ => none) : Inv (X.blk scope N' C s H fp) pins (carry src σ) (upd H D (.lst [])) { s with heap := h₁, toks := t₁ } := by
  have lk : ∀ {x : Str} {c : Addr}, (X.blk scope N' C s H fp).env.cells.lookup x = some c → X.env.cells.lookup x = some c := fun e => (B.lookup I.ok e).1
  have clt : ∀ {x : Str} {c : Addr}, X.env.cells.lookup x = some c → c < s.heap.objs.size := fun e => by obtain ⟨v, z⟩ := I.cell _ _ e; exact z.lt
  have hDf : H D = none := I.hok.fresh hD
  have ltC : ∀ b : Nat, b < s.heap.objs.size → b ≠ C := fun b hb => Nat.ne_of_lt (Nat.lt_trans (Nat.lt_of_lt_of_le hb hD) hC)
  have ltD : ∀ b : Nat, b < s.heap.objs.size → b ≠ D := fun b hb => Nat.ne_of_lt (Nat.lt_of_lt_of_le hb hD)
  have stk : ∀ b ∈ frs X.stack, b < s.heap.objs.size := fun b hb => by
    obtain ⟨_, o, ho, _⟩ := I.stack.mem hb
    exact Heap.lt_size ho
  refine ⟨⟨I.ok.mod, B.kind, I.ok.glob, I.ok.blt, ?_, ?_, ?_, fun _ _ z => (Bool.noConfusion z), I.ok.hd, I.ok.frames, .inl rfl, ?_, I.bs, Nat.le_trans I.ok.bsz I.sz, ?_, ?_, I.stack, I.stkFree⟩,
    rfl, I.bare, Un.laid keep hD hDf, ?_, ?_, ?_, ?_, ?_, ?_, ?_⟩
  · exact Nat.le_trans hD (Nat.le_of_lt hC)
  · intro x y c e1 e2
    exact I.ok.inj x y c (lk e1) (lk e2)
  · intro x hx
    have hx : (relabel scope X.env).names.lookup x = some .cell ∨ (relabel scope X.env).names.lookup x = some .free := hx
    have hfree : scope.names.lookup x = some .free := by
      rcases hx with h | h
      · rcases relabel_look h with h | h
        · exact absurd rfl (B.cell _ (PySem.mem_of_lookup h))
        · exact h.2
      · rcases relabel_look h with h | h
        · exact h
        · exact absurd h.1 (by decide)
    exact closGo_has _ _ (PySem.mem_of_lookup hfree)
  · intro b hb
    exact ⟨ltC b (hfl b hb), fun x c e z => (hf b hb).2.2.2.2.1 x c (lk e) z⟩
  · intro b o e hb
    rcases (hf b hb).2.2.2.1 with h | h
    · exact I.ok.noex b o e h
    · exact absurd (Nat.lt_of_lt_of_le (Heap.lt_size e) (Nat.le_trans I.ok.bsz h)) (Nat.lt_irrefl _)
  · intro b hb z
    have z' : b ∈ frs X.stack := z
    rcases List.mem_cons.mp (I.stkSub b z') with e | e
    · exact (hf b hb).2.1 e
    · exact (hf b hb).2.2.1 e
  · refine ⟨_, hns, fun i x v e1 e2 e3 => ?_⟩
    obtain ⟨j, g1, g2, g3⟩ := SrcOk.get B.src e1 e2
    obtain ⟨m, hn, hl⟩ := I.loc
    have hk := B.free _ (PySem.mem_of_lookup g2) rfl
    obtain ⟨u, r, l⟩ := hl j x v g1 g3 (.inr hk)
    rcases l with ⟨z, _⟩ | ⟨_, c, hc, hcell⟩
    · rcases hk with h | h <;> (have h' : X.env.kindOf x = _ := h; rw [z] at h'; cases h')
    · refine ⟨u, r, .inr ⟨relabel_free g2, c, ?_, hcell.keeps keep⟩⟩
      obtain ⟨c', e'⟩ := closGo_has (env := X.env) scope.names [] (PySem.mem_of_lookup g2)
      have e'' : (closOf scope X.env).lookup x = some c' := e'
      have := (B.lookup I.ok e'').1
      rw [hc] at this
      cases this
      exact e''
  · intro x c e
    obtain ⟨v, z⟩ := I.cell x c (lk e)
    exact ⟨v, z.keeps keep⟩
  · show upd H D (.lst []) C = none
    rw [upd_ne (Nat.ne_of_gt hC)]
    exact I.hok.fresh (Nat.le_trans hD (Nat.le_of_lt hC))
  · intro x c e
    rw [upd_ne (ltD c (clt (lk e)))]
    exact I.freeC x c (lk e)
  · intro p hp
    obtain ⟨e, n, ne, nf, d⟩ := I.pin p hp
    have hlt := Heap.lt_size e
    refine ⟨keep _ _ e, by rw [upd_ne (ltD _ hlt)]; exact n, ltC _ hlt, ?_, d⟩
    · intro z
      have z' : p.1 ∈ frs X.stack := z
      rcases List.mem_cons.mp (I.stkSub _ z') with e | e
      · exact ne e
      · exact nf e
  · exact I.hok.laid keep hD ⟨Nat.zero_le _, [], 0, .nil, hacc⟩
  · show (carry src σ).length = N'.length
    rw [← B.src.len]
    simp [carry]
end

/-! ### the turns -/
theorem codeAny_compLoop_any {prog : Program} {w : World} {A : Around} {R : Result → Shared → Prop} {s : Shared} {elt target iter : Expr} {ifs : List Expr} {scope : Scope} {pos : Pos} {it acc : Value} {env : Env} (I : Nat → Shared → Prop)
    (turn : ∀ n s, I n s → wpAny (model prog w) A (pyNext it) (fun r s₁ => match r with
      | none => R (.ok .next) s₁
      | some v => wpAny (model prog w) A (letOwnedTupleGo target it v) (fun _ s₁ => wpAny (model prog w) A (assign target env v) (fun _ s₂ =>
          wpAny (model prog w) A (forIn ifs true fun c r => if r = true then do let ok ← isTrue c env (eval c env); pure (ForInStep.yield ok) else pure (ForInStep.yield r)) (fun ok s₃ =>
            if ok = true then wpAny (model prog w) A (eval elt env) (fun x s₄ =>
              wpAny (model prog w) A (call (.builtin "list.append") [acc, x]) (fun _ s₅ => ∃ m, m < n ∧ I m s₅) (fun _ _ => False) s₄) (fun _ _ => False) s₃
            else ∃ m, m < n ∧ I m s₃) (fun _ _ => False) s₂) (fun _ _ => False) s₁) (fun _ _ => False) s₁) (fun _ _ => False) s)
    (n : Nat) (h : I n s) :
    codeAny (model prog w) A (.compLoop (.ListComp elt [⟨target, iter, ifs, 0⟩] scope pos) 0 it acc env) R s := by
  refine codeAny_loop rfl I (fun n s hI => ?_) n h
  show wpAny _ A ((compTurn (.ListComp elt [⟨target, iter, ifs, 0⟩] scope pos) 0 it acc env).onRaise (fun x => do noteFrame x env; theTreesLotGoes x)) _ _ s
  refine wpAny_noted ?_
  rw [compTurn_list]
  refine wpAny_bind (wpAny_standAt (wpAny_bind (wpAny_mono (turn n s hI) (fun r s₁ h₁ => ?_) fun _ _ h' => h'.elim)))
  cases r with
  | none => exact wpAny_pure h₁
  | some v =>
    refine wpAny_bind (wpAny_mono h₁ (fun _ s₁ h₁ => ?_) fun _ _ h' => h'.elim)
    refine wpAny_bind (wpAny_mono h₁ (fun _ s₂ h₂ => wpAny_bind (wpAny_mono h₂ (fun ok s₃ h₃ => ?_) fun _ _ h' => h'.elim)) fun _ _ h' => h'.elim)
    cases ok with
    | false => exact wpAny_pure ⟨rfl, h₃⟩
    | true =>
      exact wpAny_bind (wpAny_bind (wpAny_mono h₃ (fun x s₄ h₄ => wpAny_bind (wpAny_mono h₄ (fun _ s₅ h₅ => wpAny_pure (wpAny_pure ⟨rfl, h₅⟩)) fun _ _ h' => h'.elim)) fun _ _ h' => h'.elim))

/-- the tests of a comprehension -/
def PTs (X : Cx) (cs : List Expr) (t : TT) : Prop :=
  ∀ (pins : List (Addr × Obj)) (s : Shared) (σ : St) (H : Hp) (Q : Bool → Hp → Prop), Inv X pins σ H s → t σ H Q →
    wpAny (model X.prog X.w) X.A (forIn cs true fun c r => if r = true then do let ok ← isTrue c X.env (eval c X.env); pure (ForInStep.yield ok) else pure (ForInStep.yield r)) (TP X pins σ Q) X.xe s
def tYes : TT := fun _ H Q => Q true H
theorem pts_nil {X : Cx} : PTs X [] tYes := fun _ _ _ H _ I h => wpAny_pure ⟨H, I, h⟩

/-- what a comprehension wants: W by the turn, a measure, the items so far, the heap -/
def CompW (src : List (Option Nat)) (g : TG) (tc : TT) (te : TE) (σ : St) (J : It) (H1 : Hp) (D : Addr) (F : Hp → Prop) : Prop :=
  ∃ W : Nat → Nat → List V → Hp → Prop, (∃ m, W 0 m [] (upd H1 D (.lst []))) ∧ ∀ i m ys H, W i m ys H →
    (J.stop i H ∧ F H) ∨ (J.go i H ∧ ∀ x H', J.yld i H x H' → g x (carry src σ) H' fun σ2 H2 => keepOf src σ2 = carry src σ ∧ tc σ2 H2 fun b H3 =>
      if b = true then te σ2 H3 fun y H4 => ∃ zs, H4 D = some (.lst zs) ∧ zs.length < sizeLine ∧ ∃ m', m' < m ∧ W (i + 1) m' (ys ++ [y]) (upd H4 D (.lst (zs ++ [y])))
      else ∃ m', m' < m ∧ W (i + 1) m' ys H3)
def tComp (src : List (Option Nat)) (wi : TI) (g : TG) (tc : TT) (te : TE) : TE := fun σ H Q => wi σ H fun J H1 => ∀ D, H1 D = none → CompW src g tc te σ J H1 D fun H' => Q (.ref D) H'
/-- name = [..] -/
def sComp (i : Nat) (src : List (Option Nat)) (wi : TI) (g : TG) (tc : TT) (te : TE) : TS := fun E σ H => wi σ H fun J H1 => ∀ D, H1 D = none → CompW src g tc te σ J H1 D fun H' => E.nx (σ.set i (some (.ref D))) H'

section
variable {X : Cx} {elt tg iter : Expr} {ifs : List Expr} {scope : Scope} {pos : Pos} {wi : TI} {g : TG} {tc : TT} {te : TE} {N' : List Str} {src : List (Option Nat)}
theorem Inv.block_ne {pins : List (Addr × Obj)} {σ : St} {H : Hp} {s : Shared} {C : Addr} (I : Inv X pins σ H s) (h : s.heap.objs.size ≤ C) :
    C ≠ X.env.locals ∧ (C ∈ X.ex ∨ X.s₀.heap.objs.size ≤ C) ∧ (∀ x c, X.env.cells.lookup x = some c → c ≠ C) ∧ ∀ p ∈ X.pn ++ pins, p.1 ≠ C := by
  refine ⟨?_, .inr (Nat.le_trans I.sz h), fun x c e z => ?_, fun p hp z => ?_⟩
  · exact Nat.ne_of_gt (Nat.lt_of_lt_of_le I.lt h)
  · obtain ⟨v, q⟩ := I.cell x c e
    exact absurd (Nat.lt_of_lt_of_le q.lt (by rw [z]; exact h)) (Nat.lt_irrefl _)
  · exact absurd (Nat.lt_of_lt_of_le (Heap.lt_size (I.pin p hp).1) (by rw [z]; exact h)) (Nat.lt_irrefl _)
/-- the block's run, from an iterator to its end -/
theorem comp_block {RR : Value → Addr → Result → Shared → Prop} {E : Value → Shared → Prop} {F : Addr → Hp → Prop} {pins : List (Addr × Obj)} {σ : St} {H : Hp} {s : Shared} {it : Addr} {fp : List Addr} {tn : Nat → Heap → Prop} {J : It}
    (hc : X.calm = true) (B : Blk X scope N' src) (hg : ∀ C s2 H2 fp, PG (X.blk scope N' C s2 H2 fp) tg g) (ht : ∀ C s2 H2 fp, PTs (X.blk scope N' C s2 H2 fp) ifs tc) (he : ∀ C s2 H2 fp, PE (X.blk scope N' C s2 H2 fp) elt te)
    (I : Inv X pins σ H s) (T : Turn X.prog X.w X.K tg J fp it tn) (st : tn 0 s.heap) (hf : ∀ b ∈ fp, FpOk X pins H b) (hw : ∀ D, H D = none → CompW src g tc te σ J H D (F D))
    (hR : ∀ (D C : Addr) (H' : Hp) (s' : Shared), H D = none → s.heap.objs.size ≤ C → D ≠ C → Inv X pins σ H' s' → H' C = none → (∃ m, s'.heap.Ns C m) → F D H' → RR (.ref D) C (.ok .next) s') :
    wpAny (model X.prog X.w) X.A (newList []) (fun acc s₃ => wpAny (model X.prog X.w) X.A (newFunctionEnv scope X.env.globals (closOf scope X.env) [] X.env.qual none .none (some X.env)) (fun cenv s₄ =>
      codeAny (model X.prog X.w) X.A (.compStart (.ListComp elt [⟨tg, iter, ifs, 0⟩] scope pos) 0 (.ref it) acc { cenv with scope := relabel scope X.env }) (RR acc cenv.locals) s₄) E s₃) E s := by
  have hfl : ∀ b ∈ fp, b < s.heap.objs.size := fun b hb => by obtain ⟨o, e, _⟩ := T.obj 0 _ st b hb; exact Heap.lt_size e
  refine wpAny_newObj_type (wpAny_newFunctionEnv B.cell (by intro y hy; simp at hy) (fun h₁ hns₁ hsb₁ => ?_) B.kind)
  dsimp only at hns₁ hsb₁ ⊢
  generalize hH2 : s.heap.push { cls := .type "list", dict := none, data := .seq ([] : List Value).toArray } = h2 at hns₁ hsb₁ ⊢
  have hC : h2.objs.size = s.heap.objs.size + 1 := by rw [← hH2, Heap.size_push]
  have hDC : s.heap.objs.size < h2.objs.size := by rw [hC]; exact Nat.lt_succ_self _
  have old2 : ∀ b o, s.heap.get? b = some o → h2.get? b = some o := fun b o e => hH2 ▸ Heap.get?_push_of_some _ e
  have old : ∀ b o, h2.get? b = some o → h₁.get? b = some o := fun b o e => hsb₁.extBut b o (Nat.ne_of_lt (Heap.lt_size e)) (Heap.get?_push_of_some _ e)
  have keep : ∀ b o, s.heap.get? b = some o → h₁.get? b = some o := fun b o e => old b o (old2 b o e)
  have hacc : h₁.get? s.heap.objs.size = some { cls := .type "list", data := .seq #[] 0 } := old _ _ (hH2 ▸ Heap.get?_push_size _ rfl)
  have ID := blk_inv (D := s.heap.objs.size) (C := h2.objs.size) (t₁ := s.toks + ([] : List (Str × Value)).length) I B hf hfl (Nat.le_refl _) hDC keep hacc (by simpa using hns₁)
  have hDn : H s.heap.objs.size = none := I.hok.fresh (Nat.le_refl _)
  obtain ⟨W, ⟨m0, w0⟩, turn⟩ := hw _ hDn
  have stat : ∀ {H' : Hp}, (∀ b ∈ fp, H' b = none) → ∀ b ∈ fp, FpOk (X.blk scope N' h2.objs.size s H fp) pins H' b := fun hn b hb => by
    obtain ⟨f0, f1, f2, f3, f4, f5⟩ := hf b hb
    have hlt := hfl b hb
    refine ⟨hn b hb, ?_, ?_, .inl hb, fun x c e => f4 x c (B.lookup I.ok e).1, f5⟩
    · exact Nat.ne_of_lt (Nat.lt_trans hlt hDC)
    · intro z
      have z' : b ∈ frs X.stack := z
      rcases List.mem_cons.mp (I.stkSub b z') with e | e
      · exact f1 e
      · exact f2 e
  have fin : ∀ {i : Nat} {σ' : St} {H' : Hp} {s' : Shared}, Inv (X.blk scope N' h2.objs.size s H fp) pins σ' H' s' → Inv X pins σ H' s' ∧ H' h2.objs.size = none ∧ ∃ m, s'.heap.Ns h2.objs.size m := fun {i σ' H' s'} J' => by
    refine ⟨I.call' J'.os J'.base J'.hok J'.bare fun b hb => ?_, J'.free, ?_⟩
    · obtain ⟨f0, f1, f2, f3, f4, f5⟩ := hf b hb
      exact ⟨f3, f1, f4, f5⟩
    · obtain ⟨m, hn, _⟩ := J'.loc
      exact ⟨m, hn⟩
  have loop : ∀ s₃ : Shared, s₃ = { s with heap := h₁, toks := s.toks + ([] : List (Str × Value)).length } →
      codeAny (model X.prog X.w) X.A (.compLoop (.ListComp elt [⟨tg, iter, ifs, 0⟩] scope pos) 0 (.ref it) (.ref s.heap.objs.size) (compEnvC scope (closOf scope X.env) h2.objs.size X.env))
        (RR (.ref s.heap.objs.size) h2.objs.size) s₃ := by
    rintro s₃ rfl
    refine codeAny_compLoop_any (fun n s' => ∃ i ys H', Inv (X.blk scope N' h2.objs.size s H fp) pins (carry src σ) H' s' ∧ tn i s'.heap ∧ (∀ b ∈ fp, H' b = none) ∧ W i n ys H') ?_ m0
      ⟨0, [], _, ID, T.keep 0 _ _ st (fun b _ o e => keep b o e), fun b hb => by rw [upd_ne (Nat.ne_of_lt (hfl b hb))]; exact (hf b hb).1, w0⟩
    rintro n s3 ⟨i, ys, H3, I3, st3, fr3, w3⟩
    rcases turn i n ys H3 w3 with ⟨stop, qn⟩ | ⟨go, step⟩
    · refine wpAny_mono (T.done (X.blk scope N' h2.objs.size s H fp) rfl rfl rfl hc i pins s3 _ H3 (fun _ _ => False) I3 (stat fr3) st3 stop) (fun r s4 ⟨hr, I4⟩ => ?_) fun _ _ z => z
      subst hr
      obtain ⟨a1, a2, a3⟩ := fin (i := i) I4
      exact hR _ _ H3 s4 hDn (Nat.le_of_lt hDC) (Nat.ne_of_lt hDC) a1 a2 a3 qn
    · refine wpAny_mono (T.item (X.blk scope N' h2.objs.size s H fp) rfl rfl rfl hc i pins s3 _ H3 (fun _ _ => False) I3 (stat fr3) st3 go) (fun r s4 ⟨u, hr, h4⟩ => ?_) fun _ _ z => z
      subst hr
      refine wpAny_mono h4 (fun _ s5 ⟨x, H5, I5, r5, y5, st5, fr5⟩ => ?_) fun _ _ z => z
      have I5' := I5.pinned (stat fr5) (T.obj _ _ st5)
      refine wpAny_mono (hg _ _ _ _ _ s5 _ H5 x u _ I5' r5 (step x H5 y5)) (fun _ s6 ⟨σ6, H6, I6, k6, q6⟩ => ?_) fun _ _ z => z
      have again : ∀ {H7 : Hp} {s7 : Shared} {ys' : List V} {m' : Nat}, Inv (X.blk scope N' h2.objs.size s H fp) (pins ++ pinsAt fp s5.heap) σ6 H7 s7 → m' < n → W (i + 1) m' ys' H7 →
          ∃ m, m < n ∧ ∃ i ys H', Inv (X.blk scope N' h2.objs.size s H fp) pins (carry src σ) H' s7 ∧ tn i s7.heap ∧ (∀ b ∈ fp, H' b = none) ∧ W i m ys H' := fun {H7 s7 ys' m'} I7 hm w7 => by
        refine ⟨m', hm, i + 1, ys', H7, (I7.unpinned).weak ?_ ?_, T.keep _ _ _ st5 fun b hb o e => (I7.pin (b, o) (List.mem_append_right _ (List.mem_append_right _ (mem_pinsAt hb e)))).1, fun b hb => ?_, w7⟩
        · rw [I7.len]
          exact ID.len
        · intro j v e
          rw [← k6] at e
          exact keepOf_get e
        · obtain ⟨o, e, d⟩ := T.obj _ _ st5 b hb
          exact (I7.pin (b, o) (List.mem_append_right _ (List.mem_append_right _ (mem_pinsAt hb e)))).2.1
      refine wpAny_mono (ht _ _ _ _ _ s6 σ6 H6 _ I6 q6) (fun ok s7 ⟨H7, I7, q7⟩ => ?_) fun _ _ z => z
      cases ok with
      | false =>
        rw [if_neg Bool.false_ne_true] at q7 ⊢
        obtain ⟨m', hm, w7⟩ := q7
        exact again I7 hm w7
      | true =>
        rw [if_pos rfl] at q7 ⊢
        refine wpAny_mono (he _ _ _ _ _ s7 σ6 H7 _ I7 q7) (fun y s8 ⟨yv, H8, I8, r8, zs, d8, l8, m', hm, w8⟩ => ?_) fun _ _ z => z
        refine wpAny_mono (mt_append (X := X.blk scope N' h2.objs.size s H fp) _ s8 σ6 H8 (.ref s.heap.objs.size) [yv] (.ref s.heap.objs.size) [y] (fun _ H9 => H9 = upd H8 s.heap.objs.size (.lst (zs ++ [yv]))) I8 rfl (.cons r8 .nil) ⟨_, zs, yv, rfl, rfl, d8, l8, rfl⟩) (fun _ s9 ⟨_, H9, I9, _, e9⟩ => ?_) fun _ _ z => z
        subst e9
        exact again I9 hm w8
  exact codeAny_compStart_list (loop _ rfl) (T.self X.A 0 _ _ _ (T.keep 0 _ _ st fun b _ o e => keep b o e) (loop _ rfl))

theorem pe_comp (N' : List Str) (src : List (Option Nat)) (hc : X.calm = true) (B : Blk X scope N' src) (hi : PI X tg iter wi) (hg : ∀ C s2 H2 fp, PG (X.blk scope N' C s2 H2 fp) tg g)
    (ht : ∀ C s2 H2 fp, PTs (X.blk scope N' C s2 H2 fp) ifs tc) (he : ∀ C s2 H2 fp, PE (X.blk scope N' C s2 H2 fp) elt te) (hs : ∀ x, foldedSetIterable iter X.env x = pure x := by intro _; rfl) :
    PE X (.ListComp elt [⟨tg, iter, ifs, 0⟩] scope pos) (tComp src wi g tc te) := by
  intro pins s σ H Q I h
  rw [eval_ListComp]
  refine wpAny_comprehension_free (use := none) rfl hs (closureFor_eq (B.cells I.ok)) B.kind B.loc (wpAny_mono (hi pins s σ H _ I h) (fun xv s₁ h₁ => wpAny_mono h₁ (fun itv s₂ h₂ => ?_) fun _ _ e => e) fun _ _ e => e)
  obtain ⟨it, fp, tn, J, H2, rfl, I2, T, st, hf, hw⟩ := h₂
  refine comp_block (RR := fun acc C => compPost (model X.prog X.w) X.A X.xe none (EP X pins σ Q) acc C) (F := fun D H' => Q (.ref D) H') hc B hg ht he I2 T st hf hw ?_
  intro D C H' s' hD hC hDC I' hCn hm q
  obtain ⟨m, hn⟩ := hm
  obtain ⟨b1, b2, b3, b4⟩ := I2.block_ne hC
  exact ⟨m, hn, fun h' hs' => ⟨.ref D, H', I'.turned (t' := s'.toks) (fun b o hb e => (hs'.2 b hb).trans e) hCn b1 b2 b3 b4, rfl, q⟩⟩
end
end L2

namespace L2
open PySem PySem.Spec PyProof.Rows

/-! ### functions as values: a lambda and what it has caught -/
/-- an object known to the last bit -/
abbrev Fz (o : Obj) : HO := .frz o (.own 0)
def CodeIs (qual : Str) (oc : Obj) : Prop := ∃ vs t, oc.data = .fields vs ∧ vs[1]? = some (.str qual t)
/-- the table of a def's code object: each code in it is that of a lambda of this name -/
def TabOk (H : Hp) (P : Addr) (qual : Str) : Prop :=
  ∃ ps, H P = some (.tbl ps) ∧ TriplesOk ps.toList ∧ ∀ pos cv, codeAmong pos ps.toList = some cv → ∃ c oc, cv = .ref c ∧ H c = some (Fz oc) ∧ CodeIs qual oc
def LamAt (H : Hp) (f : Addr) (qual : Str) (params : Arguments) (body : Expr) (scope : Scope) (cl : List (Str × Addr)) : Prop :=
  ∃ pm c ctv oc, H f = some (Fz (PySem.W.kla_obj "<lambda>" qual params body scope cl pm c ctv)) ∧ H c = some (Fz oc) ∧ CodeIs qual oc
def CellAt (H : Hp) (c : Addr) (v : V) : Prop := ∃ o u, H c = some (Fz o) ∧ o.data = .cell (some u) ∧ RelV v u
theorem codeAmong_snoc' {pos pos' : Pos} {c cv : Value} : ∀ (l : List Value), TriplesOk l → codeAmong pos (l ++ [rawInt pos'.line, rawInt pos'.col, c]) = some cv → codeAmong pos l = some cv ∨ cv = c := by
  intro l h
  fun_induction TriplesOk l with
  | case1 =>
    intro e
    simp only [List.nil_append, codeAmong, rawInt] at e
    split at e
    · exact .inr (Option.some.inj e).symm
    · cases e
  | case2 a t b u x rest ih =>
    intro e
    simp only [List.cons_append, codeAmong] at e ⊢
    split at e
    · rename_i hc
      rw [if_pos hc]
      exact .inl e
    · rename_i hc
      rw [if_neg hc]
      exact ih h e
  | case3 l h1 h2 => exact h.elim

/-- the module __builtins__ stands -/
def BMain (mg : Str → Option Value) (h : Heap) : Prop :=
  ∃ bm ob, mg "__builtins__" = some (.ref bm) ∧ bm ≠ builtinsNs ∧ h.get? bm = some ob ∧ ob.cls = .type "module" ∧ ob.dict = some builtinsNs ∧ ob.data = .plain

def tLam (X : Cx) (P : Addr) (params : Arguments) (body : Expr) (scope : Scope) : TE := fun _ H Q => TabOk H P (X.env.qual ++ "<lambda>") ∧
  ∀ f H', X.Ok → H f = none → LamAt H' f (X.env.qual ++ "<lambda>") params body scope (closOf scope X.env) → TabOk H' P (X.env.qual ++ "<lambda>") → (∀ b o, H b = some o → b ≠ P → H' b = some o) → Q (.ref f) H'

section
variable {X : Cx} {params : Arguments} {body : Expr} {scope : Scope} {pos : Pos} {c P : Addr}
theorem pe_lam (hcd : X.env.code = .ref c) (C : PySem.W.CodeHd X.base c P) (bm : BMain X.mg X.base)
    (hfr : (scope.names.all fun y => y.2 != .free || X.env.scope.names.lookup y.1 == some .cell || X.env.scope.names.lookup y.1 == some .free) = true) (hdef : defaultsOf params X.env = ([], []) := by rfl) :
    PE X (.Lambda params body scope pos) (tLam X P params body scope) := by
  intro pins s σ H Q I h
  obtain ⟨⟨ps, hP, ht, hall⟩, k⟩ := h
  have hcells : ∀ y ∈ scope.names, y.2 = .free → ∃ c, X.env.cells.lookup y.1 = some c := fun y hy h => by
    have := List.all_eq_true.mp hfr y hy
    simp [h] at this
    exact I.ok.has y.1 this
  have hcl := closureFor_eq hcells
  refine PySem.W.kla_eval hdef ?_
  have hPo : s.heap.get? P = some (PySem.W.tabObj ps) := I.hok P _ hP
  have hgs := I.mod.glob.keeps I.bk
  obtain ⟨bmd, ob, b1, b2, b3, b4, b5, b6⟩ := bm
  have b3' := I.bk _ _ b3
  have hgP : mainGlobals ≠ P := fun q => by
    obtain ⟨o, es, ep, e, hd, _⟩ := hgs
    rw [q, hPo] at e; cases e; cases hd
  have hbP : bmd ≠ P := fun q => by
    rw [q, hPo] at b3'; cases b3'; cases b4
  have hbG : bmd ≠ mainGlobals := fun q => by
    obtain ⟨o, es, ep, e, hd, _⟩ := I.mod.glob
    rw [q, e] at b3; cases b3; rw [hd] at b6; cases b6
  have hBA : s.heap.BuiltinsAt X.mg P := ⟨bmd, ob, b1, b2, hbG, hbP, b3', b4, b5, b6⟩
  cases hcase : codeAmong pos ps.toList with
  | some cv =>
    obtain ⟨c', oc, rfl, hc', ci⟩ := hall pos cv hcase
    refine PySem.W.kla_makeFunctionHit (mg := X.mg) hcl I.ok.glob hgs hcd (C.keeps I.bk) hPo ht hcase hBA fun ctv h' tk hk hsz => ?_
    have hfn : H h'.objs.size = none := I.hok.fresh hsz
    refine ⟨.ref h'.objs.size, upd H h'.objs.size (Fz _), I.laid (t' := tk) (fun b u e => Heap.get?_push_of_some _ (hk b u e)) hsz ⟨Heap.get?_push_size _ rfl, ⟨_, Heap.get?_push_size _ rfl⟩⟩, rfl, ?_⟩
    have old : ∀ b o, H b = some o → upd H h'.objs.size (Fz (PySem.W.kla_obj "<lambda>" (X.env.qual ++ "<lambda>") params body scope (closOf scope X.env) ((X.mg "__name__").getD .none) c' ctv)) b = some o := fun b o e => by
      rw [upd_ne (ne_of_none e hfn)]; exact e
    refine k _ _ I.ok hfn ⟨_, c', ctv, oc, upd_same, old _ _ hc', ci⟩ ⟨ps, old _ _ hP, ht, fun pos' cv e => ?_⟩ fun b o e _ => old b o e
    obtain ⟨c2, oc2, e1, e2, e3⟩ := hall pos' cv e
    exact ⟨c2, oc2, e1, old _ _ e2, e3⟩
  | none =>
    refine PySem.W.kla_makeFunction (mg := X.mg) hcl I.ok.glob hgs hcd (C.keeps I.bk) hPo ht hcase hgP hBA fun c' ctv h' tk hx hge hlt hrec htb => ?_
    obtain ⟨c2, oc, vs, t, ec, hoc, hd, hv⟩ := hrec
    cases ec
    have hPlt := Heap.lt_size hPo
    have hsz : s.heap.objs.size ≤ h'.objs.size := Nat.le_trans hge (Nat.le_of_lt hlt)
    have hfn : H h'.objs.size = none := I.hok.fresh hsz
    have hcn : H c' = none := I.hok.fresh hge
    have ncP : c' ≠ P := Nat.ne_of_gt (Nat.lt_of_lt_of_le hPlt hge)
    have nfP : h'.objs.size ≠ P := Nat.ne_of_gt (Nat.lt_of_lt_of_le hPlt hsz)
    have nfc : h'.objs.size ≠ c' := Nat.ne_of_gt hlt
    generalize hob : PySem.W.kla_obj "<lambda>" (X.env.qual ++ "<lambda>") params body scope (closOf scope X.env) ((X.mg "__name__").getD .none) c' ctv = obj
    have sl : obj.isFreed = false := by rw [← hob]; rfl
    let H' : Hp := upd (upd (upd H P (.tbl (ps ++ #[rawInt pos.line, rawInt pos.col, .ref c']))) c' (Fz oc)) h'.objs.size (Fz obj)
    have eP : H' P = some (.tbl (ps ++ #[rawInt pos.line, rawInt pos.col, .ref c'])) := by
      show upd (upd (upd H P _) c' _) h'.objs.size _ P = _
      rw [upd_ne nfP.symm, upd_ne ncP.symm, upd_same]
    have eC : H' c' = some (Fz oc) := by
      show upd (upd (upd H P _) c' _) h'.objs.size _ c' = _
      rw [upd_ne nfc.symm, upd_same]
    have eF : H' h'.objs.size = some (Fz obj) := upd_same
    have eO : ∀ b o, H b = some o → b ≠ P → H' b = some o := fun b o e hb => by
      show upd (upd (upd H P _) c' _) h'.objs.size _ b = _
      rw [upd_ne (ne_of_none e hfn), upd_ne (ne_of_none e hcn), upd_ne hb]
      exact e
    have eN : ∀ b, b < s.heap.objs.size → H b = none → H' b = none := fun b hb e => by
      have nP : b ≠ P := fun z => by rw [z, hP] at e; cases e
      show upd (upd (upd H P _) c' _) h'.objs.size _ b = _
      rw [upd_ne (Nat.ne_of_lt (Nat.lt_of_lt_of_le hb hsz)), upd_ne (Nat.ne_of_lt (Nat.lt_of_lt_of_le hb hge)), upd_ne nP]
      exact e
    have kp : ∀ b o, b ≠ P → s.heap.get? b = some o → (h'.push obj).get? b = some o := fun b o hb e => Heap.get?_push_of_some _ (hx b o hb e)
    have nP : ∀ b, H b = none → b ≠ P := fun b e z => by rw [z, hP] at e; cases e
    have hun : Un X.fs [] H H' s.heap (h'.push obj) := by
      refine ⟨fun b o e n _ _ => kp b o (nP b n) e, fun b o e n _ _ => ⟨o.slots, kp b o (nP b n) e⟩, fun b o e n _ => eN b (Heap.lt_size e) n, fun b o e _ => ?_, fun b xs e => eO b _ e ?_, fun b o u e => eO b _ e ?_, fun b ps' e => ?_⟩
      · by_cases hb : b = P
        · exact ⟨_, by rw [hb]; exact Heap.get?_push_of_some _ htb⟩
        · exact ⟨o, kp b o hb e⟩
      · intro z; rw [z, hP] at e; cases e
      · intro z; rw [z, hP] at e; cases e
      · by_cases hb : b = P
        · subst hb
          rw [hP] at e; cases e
          exact ⟨_, eP⟩
        · exact ⟨#[], by rw [eO b _ e hb]; simp⟩
    have hok : HOk X.prog X.w H' (h'.push obj) := by
      intro a o e
      by_cases h1 : a = h'.objs.size
      · subst h1
        rw [eF] at e; cases e
        exact ⟨Heap.get?_push_size _ sl, ⟨_, Heap.get?_push_size _ sl⟩⟩
      by_cases h2 : a = c'
      · subst h2
        rw [eC] at e; cases e
        exact ⟨Heap.get?_push_of_some _ hoc, ⟨_, Heap.get?_push_of_some _ hoc⟩⟩
      by_cases h3 : a = P
      · subst h3
        rw [eP] at e; cases e
        exact Heap.get?_push_of_some _ htb
      have e' : H a = some o := by
        have e2 : upd (upd (upd H P (.tbl (ps ++ #[rawInt pos.line, rawInt pos.col, .ref c']))) c' (Fz oc)) h'.objs.size (Fz obj) a = some o := e
        rw [upd_ne h1, upd_ne h2, upd_ne h3] at e2
        exact e2
      refine (I.hok a o e').stay (fun b u hb q => kp b u ?_ q) (fun b q => eO b _ q fun z => ?_) fun b xs q => eO b _ q fun z => ?_
      · rcases hb with rfl | hb
        · exact h3
        · intro z; rw [z, hP] at hb; cases hb
      · rw [z, hP] at q; cases q
      · rw [z, hP] at q; cases q
    refine ⟨.ref h'.objs.size, H', I.un (t' := tk) hun hok, rfl, ?_⟩
    have hl : (ps ++ #[rawInt pos.line, rawInt pos.col, Value.ref c']).toList = ps.toList ++ [rawInt pos.line, rawInt pos.col, .ref c'] := by simp
    refine k _ _ I.ok hfn ⟨_, c', ctv, oc, by rw [eF, ← hob], eC, ⟨vs, t, hd, hv⟩⟩ ⟨_, eP, by rw [hl]; exact TriplesOk_snoc _ _ _ _ ht, fun pos' cv e => ?_⟩ eO
    rw [hl] at e
    rcases codeAmong_snoc' _ ht e with e | e
    · obtain ⟨c3, oc3, e1, e2, e3⟩ := hall pos' cv e
      refine ⟨c3, oc3, e1, eO _ _ e2 fun z => ?_, e3⟩
      rw [z, hP] at e2; cases e2
    · exact ⟨c', oc, e, eC, ⟨vs, t, hd, hv⟩⟩
end

/-! ### a function value, by what it promises -/
structure FV (P : Program) (w : World) (K : PySem.W.Frag) (mg : Str → Option Value) (base : Heap) (k : Nat) (f : Addr) (sp : Sp) : Prop where
  run : ∀ (A : Around) (outer : List Env) (s : Shared) (H : Hp) (us : List Value) (vs : List V) (Q : VK), Room k A → Env0 P w K mg base A outer s H → Vals vs us → sp vs H Q E0 →
    PySem.W.FnAt f s.heap ∧ codeAny (model P w) A (.call (.ref f) ⟨us, []⟩) (CR CX0 outer P w H s Q E0) s
def CallV (X : Cx) (f : Addr) (sp : Sp) : Prop :=
  ∀ (pins : List (Addr × Obj)) (s : Shared) (σ : St) (H : Hp) (us : List Value) (vs : List V) (Q : VK), Inv X pins σ H s → Vals vs us → sp vs H Q E0 →
    PySem.W.FnAt f s.heap ∧ wpAny (model X.prog X.w) X.A (call (.ref f) us) (EP X pins σ Q) X.xe s
def tCallV (X : Cx) (tf : TE) (t : TA) : TE := fun σ H Q => tf σ H fun v H1 => ∃ f sp, v = .ref f ∧ CallV X f sp ∧ t σ H1 fun vs H2 => sp vs H2 Q E0
theorem callWith_F' {M : Model} {A : Around} {E : Value → Shared → Prop} {s : Shared} {env : Env} {pos : Pos} {first : List Value} {Q : Value → Shared → Prop} {q : Addr} {e : Expr} {rest : List Expr}
    (h : wpAny M A (spliced (backTo pos (starEach (e :: rest) env))) (fun vs s₁ => PySem.W.FnAt q s₁.heap ∧ wpAny M A (call (.ref q) (first ++ vs)) Q E s₁) E s)
    (he : starEach (e :: rest) env = (false, eval e env) :: starEach rest env := by rfl) (hplain : (backTo pos (starEach rest env)).any (·.1) = false := by rfl) :
    wpAny M A (callWith pos (.ref q) first (backTo pos (starEach (e :: rest) env)) []) Q E s := by
  rw [he] at h ⊢
  exact PySem.W.callWith_of (by show ((false || (backTo pos (starEach rest env)).any (·.1)) || false) = false; rw [hplain]; rfl) PySem.W.keeps_F (PySem.Calls.evalArgs_plain h)
section
variable {X : Cx} {x : Str} {p pos : Pos} {e : Expr} {es : List Expr} {tf : TE} {t : TA}
theorem pe_callV (hf : PE X (.Name x p) tf) (ha : PA X (e :: es) t) (he : starEach (e :: es) X.env = (false, eval e X.env) :: starEach es X.env := by rfl) (hpl : (backTo pos (starEach es X.env)).any (·.1) = false := by rfl) :
    PE X (.Call (.Name x p) (e :: es) [] pos) (tCallV X tf t) := by
  intro pins s σ H Q I h
  refine wpAny_Call_Name_kw (thn (hf pins s σ H _ I h) fun v s1 ⟨y, H1, I1, r1, f, sp, ef, cv, q⟩ => ?_)
  subst ef
  cases r1
  refine callWith_F' (thn (ha pos pins s1 σ H1 _ I1 q) fun us s2 ⟨vs, H2, I2, r2, q2⟩ => ?_) he hpl
  exact cv pins s2 σ H2 us vs Q I2 r2 q2
end

/-! ### the cells of a frame, known while a callee runs -/
open Classical in
noncomputable def hid (H : Hp) (p : Addr → Prop) : Hp := fun b => if p b then none else H b
open Classical in
noncomputable def unhid (H H' : Hp) (p : Addr → Prop) : Hp := fun b => if p b then H b else H' b
theorem hid_in {H : Hp} {p : Addr → Prop} {b : Addr} (h : p b) : hid H p b = none := if_pos h
theorem hid_out {H : Hp} {p : Addr → Prop} {b : Addr} (h : ¬ p b) : hid H p b = H b := if_neg h
theorem unhid_in {H H' : Hp} {p : Addr → Prop} {b : Addr} (h : p b) : unhid H H' p b = H b := if_pos h
theorem unhid_out {H H' : Hp} {p : Addr → Prop} {b : Addr} (h : ¬ p b) : unhid H H' p b = H' b := if_neg h
def CellOf (cl : List (Str × Addr)) (b : Addr) : Prop := ∃ x, cl.lookup x = some b

structure Froz (X : Cx) (σ : St) (H Hf : Hp) : Prop where
  ok : X.Ok
  val : ∀ (i : Nat) (x : Str) (v : V) (c : Addr), X.N[i]? = some x → σ[i]? = some (some v) → X.env.kindOf x = some .cell ∨ X.env.kindOf x = some .free → X.env.cells.lookup x = some c → CellAt Hf c v
  cell : ∀ b, CellOf X.env.cells b → H b = none ∧ ∃ o v, Hf b = some (Fz o) ∧ o.data = .cell v
  same : ∀ b, ¬ CellOf X.env.cells b → Hf b = H b
def tCallF (X : Cx) (sp : Sp) (t : TA) : TE := fun σ H Q => t σ H fun vs H1 => ∀ Hf, Froz X σ H1 Hf → sp vs Hf (fun v Hf' => Q v (hid Hf' (CellOf X.env.cells))) E0
section
variable {X : Cx} {k : Nat} {f : Addr} {fd : FuncData} {ps : List Str} {sp : Sp} {x : Str} {p pos : Pos} {e : Expr} {es : List Expr} {t : TA}
theorem run_fnF {pins : List (Addr × Obj)} {σ : St} {H : Hp} {s : Shared} {Q : VK} {us : List Value} {vs : List V} (F : FnOk X.prog X.w X.K X.mg X.base CX0 k f fd ps sp) (hr : Room k X.A) (hb : Binds X.K fd ps []) (hfn : ∀ x, X.fn x = true)
    (I : Inv X pins σ H s) (r : Vals vs us) (h : ∀ Hf, Froz X σ H Hf → sp vs Hf (fun v Hf' => Q v (hid Hf' (CellOf X.env.cells))) E0) : wpAny (model X.prog X.w) X.A (call (.ref f) us) (EP X pins σ Q) X.xe s := by
  classical
  let Hf : Hp := fun b => if CellOf X.env.cells b then (s.heap.get? b).map (fun o => Fz o) else H b
  have hin : ∀ b, CellOf X.env.cells b → ∃ o v, s.heap.get? b = some o ∧ o.data = .cell v ∧ Hf b = some (Fz o) := fun b hb => by
    obtain ⟨x, hx⟩ := id hb
    obtain ⟨v, o, ho, hd⟩ := I.cell x b hx
    refine ⟨o, v, ho, hd, ?_⟩
    show (if CellOf X.env.cells b then (s.heap.get? b).map (fun o => Fz o) else H b) = _
    rw [if_pos hb, ho]
    rfl
  have hout : ∀ b, ¬ CellOf X.env.cells b → Hf b = H b := fun b hb => if_neg hb
  have hHn : ∀ b, CellOf X.env.cells b → H b = none := fun b ⟨x, hx⟩ => I.freeC x b hx
  have tr : ∀ b o, H b = some o → Hf b = some o := fun b o e => by
    rw [hout b fun z => by rw [hHn b z] at e; cases e]
    exact e
  have hge : ∀ b, CellOf X.env.cells b → X.s₀.heap.objs.size ≤ b := fun b ⟨x, hx⟩ => I.ok.cab x b (hfn x) hx
  have fz : Froz X σ H Hf := by
    refine ⟨I.ok, fun i x v c e1 e2 e3 e4 => ?_, fun b hb => ⟨hHn b hb, ?_⟩, hout⟩
    · obtain ⟨m, hn, hl⟩ := I.loc
      obtain ⟨u, ru, l⟩ := hl i x v e1 e2 (.inr e3)
      rcases l with ⟨z, _⟩ | ⟨_, c', hc', hcell⟩
      · rcases e3 with h | h <;> (rw [z] at h; cases h)
      · rw [e4] at hc'; cases hc'
        obtain ⟨o, w', ho, hd, e⟩ := hin c ⟨x, e4⟩
        obtain ⟨o', ho', hd'⟩ := hcell
        rw [ho] at ho'; cases ho'
        exact ⟨o, u, e, hd', ru⟩
    · obtain ⟨o, v, _, hd, e⟩ := hin b hb
      exact ⟨o, v, e, hd⟩
  have hokf : HOk X.prog X.w Hf s.heap := fun a o e => by
    by_cases ha : CellOf X.env.cells a
    · obtain ⟨o', v, ho, _, e'⟩ := hin a ha
      rw [e'] at e; cases e
      exact ⟨ho, ⟨_, ho⟩⟩
    · rw [hout a ha] at e
      exact (I.hok a o e).stay (fun _ _ _ q => q) (fun b q => tr b _ q) fun b xs q => tr b _ q
  have e0 := I.env0
  have ef : Env0 X.prog X.w X.K X.mg X.base X.A X.stack s Hf := by
    refine ⟨e0.frames, e0.mod, fun b o e => ⟨(e0.bs b o e).1, ?_⟩, e0.bsz, e0.funs, fun b hb => ?_, hokf, e0.bare⟩
    · rw [hout b fun z => ?_]
      · exact (e0.bs b o e).2
      · exact absurd (Nat.lt_of_lt_of_le (Heap.lt_size e) (Nat.le_trans I.ok.bsz (hge b z))) (Nat.lt_irrefl _)
    · rw [hout b fun z => ?_]
      · exact I.stkFree b hb
      · rcases List.mem_cons.mp (I.stkSub b hb) with q | q
        · obtain ⟨x, hx⟩ := z
          exact I.cne x b hx q
        · obtain ⟨_, o, ho, _⟩ := I.ok.funs.mem q
          exact absurd (Nat.lt_of_lt_of_le (Heap.lt_size ho) (hge b z)) (Nat.lt_irrefl _)
  have hq := h Hf fz
  have hl : (us ++ ([] : List Value)).length = ps.length := by rw [List.append_nil, ← r.length]; exact F.len _ _ _ _ hq
  refine wpAny_call (codeAny_mono (F.run X.A X.stack s Hf ⟨us, []⟩ us vs _ E0 hr ef (by simpa using hb s us I.kIn hl) r hq) fun r' s' hq' => ?_)
  cases r' with
  | error e => exact False.elim hq'
  | ok fl =>
    cases fl with
    | next => exact False.elim hq'
    | brk => exact False.elim hq'
    | cont => exact False.elim hq'
    | ret u =>
      obtain ⟨v, Hf', os, bare, un, hok', rv, q⟩ := hq'
      have cl' : ∀ b, CellOf X.env.cells b → ∃ o, s.heap.get? b = some o ∧ Hf' b = some (Fz o) ∧ s'.heap.get? b = some o := fun b hb => by
        obtain ⟨o, w', ho, _, e⟩ := hin b hb
        have e' := un.frzs b o _ e
        exact ⟨o, ho, e', (hok' b _ e').1⟩
      have nfs : ∀ b, b ∈ frs X.stack → ¬ CellOf X.env.cells b := fun b hb z => by
        obtain ⟨o, _, _, _, e⟩ := hin b z
        rw [ef.frf b hb] at e; cases e
      have nof : ∀ b o, Hf' b = some o → (∀ o', o ≠ Fz o') → ¬ CellOf X.env.cells b := fun b o e hn z => by
        obtain ⟨o', _, e', _⟩ := cl' b z
        rw [e'] at e
        exact hn o' (Option.some.inj e).symm
      have un2 : Un (frs X.stack) [] H (hid Hf' (CellOf X.env.cells)) s.heap s'.heap := by
        refine ⟨fun b o e n hb hx => ?_, fun b o e n hb hx => ?_, fun b o e n hx => ?_, un.there, fun b xs e => ?_, fun b o u e => ?_, fun b ps' e => ?_⟩
        · by_cases hc : CellOf X.env.cells b
          · obtain ⟨o', h1, _, h3⟩ := cl' b hc
            rw [e] at h1; cases h1
            exact h3
          · exact un.keep b o e (by rw [hout b hc]; exact n) hb hx
        · exact un.slot b o e (by rw [hout b (nfs b hb)]; exact n) hb hx
        · by_cases hc : CellOf X.env.cells b
          · exact hid_in hc
          · rw [hid_out hc]
            exact un.free b o e (by rw [hout b hc]; exact n) hx
        · have e' := un.tups b xs (tr b _ e)
          rw [hid_out (nof b _ e' fun o' z => by cases z)]
          exact e'
        · have hc : ¬ CellOf X.env.cells b := fun z => by rw [hHn b z] at e; cases e
          rw [hid_out hc]
          exact un.frzs b o u (tr b _ e)
        · have hc : ¬ CellOf X.env.cells b := fun z => by rw [hHn b z] at e; cases e
          rw [hid_out hc]
          exact un.tbls b ps' (tr b _ e)
      have hok2 : HOk X.prog X.w (hid Hf' (CellOf X.env.cells)) s'.heap := fun a o e => by
        have hc : ¬ CellOf X.env.cells a := fun z => by rw [hid_in z] at e; cases e
        rw [hid_out hc] at e
        refine (hok' a o e).stay (fun _ _ _ q => q) (fun b q => ?_) fun b xs q => ?_
        · rw [hid_out (nof b _ q fun o' z => by cases z)]; exact q
        · rw [hid_out (nof b _ q fun o' z => by cases z)]; exact q
      exact I.after ⟨v, _, os, bare, un2, hok2, rv, q⟩
theorem pe_callF (F : FnOk X.prog X.w X.K X.mg X.base CX0 k f fd ps sp) (hr : Room k X.A) (hg : Gl X x) (hm : X.mg x = some (.ref f)) (hk : PySem.W.keepIn X.K (.ref f) = true) (hb : Binds X.K fd ps []) (ha : PA X (e :: es) t)
    (hfn : ∀ x, X.fn x = true := by intro _; rfl) (hdb : (x == ("__debug__" : Str)) = false := by decide) (he : starEach (e :: es) X.env = (false, eval e X.env) :: starEach es X.env := by rfl) (hpl : (backTo pos (starEach es X.env)).any (·.1) = false := by rfl) :
    PE X (.Call (.Name x p) (e :: es) [] pos) (tCallF X sp t) := by
  intro pins s σ H Q I h
  refine wpAny_Call_Name_kw (ld_glob I hg hm ?_ hdb)
  refine PySem.W.callWith_K (h₀ := X.base) I.ok.mod.kin hk (thn (ha pos pins s σ H _ I h) fun us s1 ⟨vs, H1, I1, r, q⟩ => ⟨I1.kIn, ?_⟩) he hpl
  exact run_fnF F hr hb hfn I1 r q
end

/-! ### a lambda's body keeps its promise -/
structure LamScope (N P : List Str) (sc : Scope) : Prop where
  kind : sc.kind = .function
  co : sc.isCoroutine = false
  gen : sc.isGenerator = false
  nd : N.Nodup
  pre : N.take P.length = P
  par : ∀ x ∈ P, sc.names.lookup x = some .local
  nocell : ∀ y ∈ sc.names, y.2 ≠ .cell
  fre : ∀ x ∈ N.drop P.length, sc.names.lookup x = some .free
def cxLam (P : Program) (w : World) (K : PySem.W.Frag) (mg : Str → Option Value) (base : Heap) (N : List Str) (qual : Str) (scope : Scope) (f : Addr) (cd : Value) (cl : List (Str × Addr)) (A : Around) (outer : List Env) (s : Shared) (H : Hp) : Cx where
  prog := P
  w := w
  K := K
  mg := mg
  base := base
  A := A.deeper (PySem.W.envX qual scope s.heap.objs.size f cd cl)
  N := N
  s₀ := s
  H₀ := H
  env := PySem.W.envX qual scope s.heap.objs.size f cd cl
  outer := outer
  stack := PySem.W.envX qual scope s.heap.objs.size f cd cl :: outer
  ex := []
  calm := true
  fn := fun _ => false
  pn := []
  xe := fun _ _ => False
/-- the caught names' values -/
def CatchAt (H : Hp) (cl : List (Str × Addr)) (xs : List Str) (fvs : List V) : Prop := Paired (fun (x : Str) (v : V) => ∃ c, cl.lookup x = some c ∧ CellAt H c v) xs fvs
theorem CatchAt.get {H : Hp} {cl : List (Str × Addr)} : ∀ {xs : List Str} {fvs : List V} {i : Nat} {x : Str} {v : V}, CatchAt H cl xs fvs → xs[i]? = some x → fvs[i]? = some v → ∃ c, cl.lookup x = some c ∧ CellAt H c v
  | _, _, _, _, _, .nil, e, _ => by simp at e
  | _, _, 0, _, _, .cons r _, e, e2 => by simp at e e2; subst e; subst e2; exact r
  | _, _, i + 1, x, v, .cons _ t, e, e2 => CatchAt.get (i := i) (x := x) (v := v) t (by simpa using e) (by simpa using e2)


/-! ### what a lambda catches -/
section
variable {X : Cx} {scope : Scope}
theorem clos_look (hfr : (scope.names.all fun y => y.2 != .free || X.env.scope.names.lookup y.1 == some .cell || X.env.scope.names.lookup y.1 == some .free) = true) (ok : X.Ok) {x : Str} {c : Addr} (h : (closOf scope X.env).lookup x = some c) :
    X.env.cells.lookup x = some c ∧ (x, NameKind.free) ∈ scope.names := by
  rcases closGo_of _ _ h with h | ⟨h1, h2⟩
  · simp at h
  · have := List.all_eq_true.mp hfr _ h1
    simp at this
    obtain ⟨c', e⟩ := ok.has x this
    rw [e] at h2 ⊢
    exact ⟨by rw [h2]; rfl, h1⟩
theorem clos_inj (hfr : (scope.names.all fun y => y.2 != .free || X.env.scope.names.lookup y.1 == some .cell || X.env.scope.names.lookup y.1 == some .free) = true) (ok : X.Ok) :
    ∀ x y c, (closOf scope X.env).lookup x = some c → (closOf scope X.env).lookup y = some c → x = y := fun x y c h1 h2 => ok.inj x y c (clos_look hfr ok h1).1 (clos_look hfr ok h2).1
theorem clos_has {env : Env} : ∀ x, scope.names.lookup x = some .free → ∃ c, (closOf scope env).lookup x = some c := fun _ h => closGo_has _ _ (PySem.mem_of_lookup h)
theorem clos_cells (hfr : (scope.names.all fun y => y.2 != .free || X.env.scope.names.lookup y.1 == some .cell || X.env.scope.names.lookup y.1 == some .free) = true) (ok : X.Ok) {xs : List Str} (hx : ∀ y ∈ scope.names, y.2 = .free → y.1 ∈ xs) :
    ∀ x c, (closOf scope X.env).lookup x = some c → x ∈ xs := fun x c h => hx _ (clos_look hfr ok h).2 rfl
theorem Froz.caught {σ : St} {H Hf : Hp} (Z : Froz X σ H Hf) (hfr : (scope.names.all fun y => y.2 != .free || X.env.scope.names.lookup y.1 == some .cell || X.env.scope.names.lookup y.1 == some .free) = true) :
    ∀ {xs : List Str} {vs : List V}, Paired (fun (x : Str) (v : V) => ∃ i : Nat, X.N[i]? = some x ∧ σ[i]? = some (some v) ∧ scope.names.lookup x = some .free) xs vs → CatchAt Hf (closOf scope X.env) xs vs
  | _, _, .nil => .nil
  | _, _, .cons ⟨i, h1, h2, h3⟩ t => by
    refine .cons ?_ (Froz.caught Z hfr t)
    obtain ⟨c, hc⟩ := clos_has (env := X.env) _ h3
    have hk := List.all_eq_true.mp hfr _ (PySem.mem_of_lookup h3)
    simp at hk
    exact ⟨c, hc, Z.val i _ _ c h1 h2 hk (clos_look hfr Z.ok hc).1⟩
end
end L2

namespace L2
open PySem PySem.Spec PyProof.Rows

/-! ### deep data: ints, tuples, lists -/
inductive Dd where
  | int (i : Int)
  | tup (xs : List Dd)
  | lst (xs : List Dd)
mutual
def eqD : Dd → Dd → Bool
  | .int i, .int j => i == j
  | .tup xs, .tup ys => eqDL xs ys
  | .lst xs, .lst ys => eqDL xs ys
  | _, _ => false
def eqDL : List Dd → List Dd → Bool
  | [], [] => true
  | x :: xs, y :: ys => eqD x y && eqDL xs ys
  | _, _ => false
end
mutual
theorem eqD_iff : ∀ (d e : Dd), eqD d e = true ↔ d = e
  | .int i, .int j => by simp [eqD]
  | .tup xs, .tup ys => by simp [eqD, eqDL_iff xs ys]
  | .lst xs, .lst ys => by simp [eqD, eqDL_iff xs ys]
  | .int _, .tup _ => by simp [eqD]
  | .int _, .lst _ => by simp [eqD]
  | .tup _, .int _ => by simp [eqD]
  | .tup _, .lst _ => by simp [eqD]
  | .lst _, .int _ => by simp [eqD]
  | .lst _, .tup _ => by simp [eqD]
theorem eqDL_iff : ∀ (d e : List Dd), eqDL d e = true ↔ d = e
  | [], [] => by simp [eqDL]
  | x :: xs, y :: ys => by simp [eqDL, eqD_iff x y, eqDL_iff xs ys]
  | [], _ :: _ => by simp [eqDL]
  | _ :: _, [] => by simp [eqDL]
end
theorem eqD_self (d : Dd) : eqD d d = true := (eqD_iff d d).mpr rfl
theorem eqDL_len : ∀ {d e : List Dd}, d.length ≠ e.length → eqDL d e = false
  | [], [], h => absurd rfl h
  | [], _ :: _, _ => rfl
  | _ :: _, [], _ => rfl
  | x :: xs, y :: ys, h => by
    show (eqD x y && eqDL xs ys) = false
    rw [eqDL_len (d := xs) (e := ys) (fun z => h (by simp [z])), Bool.and_false]
theorem eqDL_all : ∀ {d e : List Dd}, d.length = e.length → eqDL d e = (List.range d.length).all fun j => eqD (d.getD j (.int 0)) (e.getD j (.int 0))
  | [], [], _ => rfl
  | x :: xs, y :: ys, h => by
    show (eqD x y && eqDL xs ys) = _
    rw [eqDL_all (d := xs) (e := ys) (by simpa using h), List.length_cons, List.range_succ_eq_map, List.all_cons, List.all_map]
    rfl
mutual
def depD : Dd → Nat
  | .int _ => 0
  | .tup xs => depDL xs + 1
  | .lst xs => depDL xs + 1
def depDL : List Dd → Nat
  | [] => 0
  | x :: xs => max (depD x) (depDL xs)
end
/-! over the heap -/
mutual
def Hd (h : Heap) : Dd → Value → Prop
  | .int i, u => ∃ t, u = .int i t
  | .tup ds, u => ∃ a its, u = .ref a ∧ h.IsTuple a its ∧ HdL h ds its.toList
  | .lst ds, u => ∃ a its, u = .ref a ∧ h.IsList a its ∧ HdL h ds its.toList
def HdL (h : Heap) : List Dd → List Value → Prop
  | [], [] => True
  | d :: ds, u :: us => Hd h d u ∧ HdL h ds us
  | _, _ => False
end
theorem HdL.len {h : Heap} : ∀ {ds : List Dd} {us : List Value}, HdL h ds us → ds.length = us.length
  | [], [], _ => rfl
  | _ :: ds, _ :: us, r => by simp [HdL.len (ds := ds) (us := us) r.2]
  | [], _ :: _, r => r.elim
  | _ :: _, [], r => r.elim
theorem HdL.get {h : Heap} : ∀ {ds : List Dd} {us : List Value} {j : Nat} {u : Value}, HdL h ds us → us[j]? = some u → Hd h (ds.getD j (.int 0)) u
  | [], [], _, _, _, e => by simp at e
  | d :: ds, v :: us, 0, u, r, e => by simp at e; subst e; exact r.1
  | d :: ds, v :: us, j + 1, u, r, e => by
    have := HdL.get (ds := ds) (us := us) (j := j) r.2 (by simpa using e)
    simpa using this
  | [], _ :: _, _, _, r, _ => r.elim
  | _ :: _, [], _, _, r, _ => r.elim
theorem isTuple_inj {h : Heap} {a : Addr} {x y : Array Value} (h1 : h.IsTuple a x) (h2 : h.IsTuple a y) : x = y := by
  obtain ⟨o, e, _, n, d⟩ := h1
  obtain ⟨o', e', _, n', d'⟩ := h2
  rw [e] at e'; cases e'
  rw [d] at d'
  injection d'
theorem isList_inj {h : Heap} {a : Addr} {x y : Array Value} (h1 : h.IsList a x) (h2 : h.IsList a y) : x = y := by
  obtain ⟨o, e, _, n, d⟩ := h1
  obtain ⟨o', e', _, n', d'⟩ := h2
  rw [e] at e'; cases e'
  rw [d] at d'
  injection d'
theorem list_not_tuple {h : Heap} {a : Addr} {x y : Array Value} (h1 : h.IsList a x) (h2 : h.IsTuple a y) : False := by
  obtain ⟨o, e, c, _⟩ := h1
  obtain ⟨o', e', c', _⟩ := h2
  rw [e] at e'; cases e'
  rw [c] at c'
  exact absurd (Value.type.inj c') (by decide)
mutual
theorem Hd.inj {h : Heap} : ∀ (d e : Dd) (u : Value), Hd h d u → Hd h e u → d = e
  | .int i, .int j, u, h1, h2 => by
    obtain ⟨t, rfl⟩ := h1
    obtain ⟨t', e⟩ := h2
    injection e with e1
    rw [e1]
  | .tup xs, .tup ys, u, h1, h2 => by
    obtain ⟨a, its, rfl, q, r⟩ := h1
    obtain ⟨a', its', e, q', r'⟩ := h2
    cases e
    rw [isTuple_inj q' q] at r'
    rw [HdL.inj xs ys _ r r']
  | .lst xs, .lst ys, u, h1, h2 => by
    obtain ⟨a, its, rfl, q, r⟩ := h1
    obtain ⟨a', its', e, q', r'⟩ := h2
    cases e
    rw [isList_inj q' q] at r'
    rw [HdL.inj xs ys _ r r']
  | .int _, .tup _, u, h1, h2 => by obtain ⟨t, rfl⟩ := h1; obtain ⟨a, its, e, _⟩ := h2; cases e
  | .int _, .lst _, u, h1, h2 => by obtain ⟨t, rfl⟩ := h1; obtain ⟨a, its, e, _⟩ := h2; cases e
  | .tup _, .int _, u, h1, h2 => by obtain ⟨t, rfl⟩ := h2; obtain ⟨a, its, e, _⟩ := h1; cases e
  | .lst _, .int _, u, h1, h2 => by obtain ⟨t, rfl⟩ := h2; obtain ⟨a, its, e, _⟩ := h1; cases e
  | .tup _, .lst _, u, h1, h2 => by
    obtain ⟨a, its, rfl, q, r⟩ := h1
    obtain ⟨a', its', e, q', r'⟩ := h2
    cases e
    exact (list_not_tuple q' q).elim
  | .lst _, .tup _, u, h1, h2 => by
    obtain ⟨a, its, rfl, q, r⟩ := h1
    obtain ⟨a', its', e, q', r'⟩ := h2
    cases e
    exact (list_not_tuple q q').elim
theorem HdL.inj {h : Heap} : ∀ (d e : List Dd) (us : List Value), HdL h d us → HdL h e us → d = e
  | [], [], _, _, _ => rfl
  | x :: xs, y :: ys, u :: us, h1, h2 => by rw [Hd.inj x y u h1.1 h2.1, HdL.inj xs ys us h1.2 h2.2]
  | [], _ :: _, [], _, h2 => h2.elim
  | [], _ :: _, _ :: _, h1, _ => h1.elim
  | _ :: _, [], [], h1, _ => h1.elim
  | _ :: _, [], _ :: _, _, h2 => h2.elim
  | _ :: _, _ :: _, [], h1, _ => h1.elim
end
theorem in1_units {A : Around} : A.in1.units = A.units + 1 := rfl
theorem depDL_get {d : Dd} : ∀ {ds : List Dd} {j : Nat}, ds[j]? = some d → depD d ≤ depDL ds
  | [], _, e => by simp at e
  | x :: xs, 0, e => by simp at e; subst e; exact Nat.le_max_left _ _
  | x :: xs, j + 1, e => Nat.le_trans (depDL_get (ds := xs) (j := j) (by simpa using e)) (Nat.le_max_right _ _)
theorem depDL_getD {ds : List Dd} {j : Nat} : depD (ds.getD j (.int 0)) ≤ depDL ds := by
  cases e : ds[j]? with
  | some d =>
    have : ds.getD j (.int 0) = d := by rw [List.getD_eq_getElem?_getD, e]; rfl
    rw [this]
    exact depDL_get e
  | none =>
    have : ds.getD j (.int 0) = .int 0 := by rw [List.getD_eq_getElem?_getD, e]; rfl
    rw [this]
    exact Nat.zero_le _
theorem eqAt_D {s : Shared} : ∀ (n : Nat) (A : Around) (d e : Dd) (u v : Value), depD d ≤ n → A.units + n < cLine → Hd s.heap d u → Hd s.heap e v → SeqAt.EqAt A s u v (eqD d e) := by
  intro n
  induction n with
  | zero =>
    intro A d e u v hn hu h1 h2
    cases d with
    | tup xs => simp [depD] at hn
    | lst xs => simp [depD] at hn
    | int i =>
      obtain ⟨t, rfl⟩ := h1
      cases e with
      | int j => obtain ⟨t', rfl⟩ := h2; exact SeqAt.EqAt.int_int i t j t'
      | tup ys => obtain ⟨a, its, rfl, q, r⟩ := h2; exact SeqAt.EqAt.int_tuple i t q (by omega)
      | lst ys => obtain ⟨a, its, rfl, q, r⟩ := h2; exact SeqAt.EqAt.int_list i t q (by omega)
  | succ n ih =>
    intro A d e u v hn hu h1 h2
    cases d with
    | int i =>
      obtain ⟨t, rfl⟩ := h1
      cases e with
      | int j => obtain ⟨t', rfl⟩ := h2; exact SeqAt.EqAt.int_int i t j t'
      | tup ys => obtain ⟨a, its, rfl, q, r⟩ := h2; exact SeqAt.EqAt.int_tuple i t q (by omega)
      | lst ys => obtain ⟨a, its, rfl, q, r⟩ := h2; exact SeqAt.EqAt.int_list i t q (by omega)
    | tup xs =>
      obtain ⟨a, its, rfl, q, r⟩ := h1
      cases e with
      | int j => obtain ⟨t, rfl⟩ := h2; exact SeqAt.EqAt.tuple_int j t q (by omega)
      | lst ys => obtain ⟨b, its', rfl, q', r'⟩ := h2; exact SeqAt.EqAt.tuple_list q q' (by omega)
      | tup ys =>
        obtain ⟨b, its', rfl, q', r'⟩ := h2
        have hd : depDL xs ≤ n := by simp only [depD] at hn; omega
        by_cases hab : a = b
        · subst hab
          rw [isTuple_inj q' q] at r'
          rw [HdL.inj xs ys _ r r', eqD_self]
          exact SeqAt.EqAt.same _
        · have he : ∀ j (g1 : j < its.size) (g2 : j < its'.size), SeqAt.EqAt A.in1 s its[j] its'[j] (eqD (xs.getD j (.int 0)) (ys.getD j (.int 0))) := fun j g1 g2 =>
            ih A.in1 _ _ _ _ (Nat.le_trans depDL_getD hd) (by rw [in1_units]; omega) (r.get (by simp [g1])) (r'.get (by simp [g2]))
          have := SeqAt.EqAt.of_refs hab (SeqAt.RcAt.tuples q q' (by omega) he)
          have l1 := r.len
          have l2 := r'.len
          replace l1 : xs.length = its.size := by simpa using l1
          replace l2 : ys.length = its'.size := by simpa using l2
          have ee : eqD (.tup xs) (.tup ys) = ((List.range (min its.size its'.size)).all (fun j => eqD (xs.getD j (.int 0)) (ys.getD j (.int 0))) && its.size == its'.size) := by
            show eqDL xs ys = _
            by_cases hl : xs.length = ys.length
            · rw [eqDL_all hl, ← l1, ← l2, hl]; simp
            · rw [eqDL_len hl, ← l1, ← l2]; simp [hl]
          rw [ee]
          exact this
    | lst xs =>
      obtain ⟨a, its, rfl, q, r⟩ := h1
      cases e with
      | int j => obtain ⟨t, rfl⟩ := h2; exact SeqAt.EqAt.list_int j t q (by omega)
      | tup ys => obtain ⟨b, its', rfl, q', r'⟩ := h2; exact SeqAt.EqAt.list_tuple q q' (by omega)
      | lst ys =>
        obtain ⟨b, its', rfl, q', r'⟩ := h2
        have hd : depDL xs ≤ n := by simp only [depD] at hn; omega
        have l1 := r.len
        have l2 := r'.len
        replace l1 : xs.length = its.size := by simpa using l1
        replace l2 : ys.length = its'.size := by simpa using l2
        by_cases hab : a = b
        · subst hab
          rw [isList_inj q' q] at r'
          rw [HdL.inj xs ys _ r r', eqD_self]
          exact SeqAt.EqAt.same _
        · have he : ∀ j (g1 : j < its.size) (g2 : j < its'.size), SeqAt.EqAt A.in1 s its[j] its'[j] (eqD (xs.getD j (.int 0)) (ys.getD j (.int 0))) := fun j g1 g2 =>
            ih A.in1 _ _ _ _ (Nat.le_trans depDL_getD hd) (by rw [in1_units]; omega) (r.get (by simp [g1])) (r'.get (by simp [g2]))
          refine SeqAt.EqAt.of_refs hab ?_
          show SeqAt.RcAt A s _ _ (eqDL xs ys)
          by_cases hl : xs.length = ys.length
          · rw [eqDL_all hl, l1]
            exact SeqAt.RcAt.lists q q' (by omega) (by omega) he
          · rw [eqDL_len hl]
            exact SeqAt.RcAt.lists_lengths q q' (by simp; omega) (by omega)

/-! ### over the abstract heap -/
mutual
def Dp (K : PySem.W.Frag) (H : Hp) : Dd → V → Prop
  | .int i, x => x = .int i
  | .tup ds, x => ∃ a xs, x = .ref a ∧ SqT K H a xs ∧ DpL K H ds xs
  | .lst ds, x => ∃ a xs, x = .ref a ∧ SqL K H a xs ∧ DpL K H ds xs
def DpL (K : PySem.W.Frag) (H : Hp) : List Dd → List V → Prop
  | [], [] => True
  | d :: ds, x :: xs => Dp K H d x ∧ DpL K H ds xs
  | _, _ => False
end
section
variable {X : Cx} {pins : List (Addr × Obj)} {σ : St} {H : Hp} {s : Shared}
mutual
theorem Inv.hd (I : Inv X pins σ H s) : ∀ (d : Dd) (x : V) (u : Value), RelV x u → Dp X.K H d x → Hd s.heap d u
  | .int i, x, u, r, h => by
    have h' : x = .int i := h
    subst h'
    exact r
  | .tup ds, x, u, r, h => by
    obtain ⟨a, xs, e, q, l⟩ := h
    subst e
    cases r
    obtain ⟨its, rv, ht, hz⟩ := I.tuple q
    exact ⟨a, its.toArray, rfl, ht, by rw [List.toList_toArray]; exact Inv.hdl I ds xs its rv l⟩
  | .lst ds, x, u, r, h => by
    obtain ⟨a, xs, e, q, l⟩ := h
    subst e
    cases r
    obtain ⟨its, rv, ht, hz⟩ := I.list q
    exact ⟨a, its.toArray, rfl, ht.isList, by rw [List.toList_toArray]; exact Inv.hdl I ds xs its rv l⟩
theorem Inv.hdl (I : Inv X pins σ H s) : ∀ (ds : List Dd) (xs : List V) (us : List Value), Vals xs us → DpL X.K H ds xs → HdL s.heap ds us
  | [], [], us, r, _ => by cases r; exact trivial
  | d :: ds, x :: xs, us, r, h => by
    cases r with
    | cons r1 r2 => exact ⟨Inv.hd I d x _ r1 h.1, Inv.hdl I ds xs _ r2 h.2⟩
  | [], _ :: _, _, _, h => h.elim
  | _ :: _, [], _, _, h => h.elim
end
end

/-- == and != of deep data (two lists, two tuples, two ints) -/
def likeD : Dd → Dd → Bool
  | .int _, .int _ => true
  | .tup _, .tup _ => true
  | .lst _, .lst _ => true
  | _, _ => false
def rEqD (K : PySem.W.Frag) : R2 := fun x y H Q => ∃ d e, Dp K H d x ∧ Dp K H e y ∧ likeD d e = true ∧ depD d ≤ 100 ∧ Q (.bl (eqD d e)) H
def rNeD (K : PySem.W.Frag) : R2 := fun x y H Q => ∃ d e, Dp K H d x ∧ Dp K H e y ∧ likeD d e = true ∧ depD d ≤ 100 ∧ Q (.bl (!eqD d e)) H
def rInD (K : PySem.W.Frag) (neg : Bool) : R2 := fun x y H Q => ∃ d p xs ds, Dp K H d x ∧ y = .ref p ∧ SqL K H p xs ∧ DpL K H ds xs ∧ depDL ds ≤ 100 ∧ Q (.bl (if neg then !ds.any fun e => eqD e d else ds.any fun e => eqD e d)) H
section
variable {X : Cx}
theorem op_eqD (hu : X.A.units + 150 < cLine) : OpR X (compareOp .Eq) (rEqD X.K) := by
  intro pins s σ H x y u v Q I rx ry h
  obtain ⟨d, e, h1, h2, hlk, hn, q⟩ := h
  have g1 := I.hd d x u rx h1
  have g2 := I.hd e y v ry h2
  cases d with
  | int i =>
    cases e with
    | int j =>
      obtain ⟨t, rfl⟩ := g1
      obtain ⟨t', rfl⟩ := g2
      exact EqBoolInt.of_rc (SeqAt.RcAt.int_int i t j t') ⟨.bl _, H, I, rfl, q⟩
    | tup _ => cases hlk
    | lst _ => cases hlk
  | tup xs =>
    cases e with
    | tup ys =>
      obtain ⟨a, its, rfl, qa, r⟩ := g1
      obtain ⟨b, its', rfl, qb, r'⟩ := g2
      have hd : depDL xs ≤ 99 := by simp only [depD] at hn; omega
      have he : ∀ j (g1 : j < its.size) (g2 : j < its'.size), SeqAt.EqAt X.A.in1 s its[j] its'[j] (eqD (xs.getD j (.int 0)) (ys.getD j (.int 0))) := fun j g1 g2 =>
        eqAt_D 99 X.A.in1 _ _ _ _ (Nat.le_trans depDL_getD hd) (by rw [in1_units]; omega) (r.get (by simp [g1])) (r'.get (by simp [g2]))
      have l1 := r.len
      have l2 := r'.len
      replace l1 : xs.length = its.size := by simpa using l1
      replace l2 : ys.length = its'.size := by simpa using l2
      have ee : eqD (.tup xs) (.tup ys) = ((List.range (min its.size its'.size)).all (fun j => eqD (xs.getD j (.int 0)) (ys.getD j (.int 0))) && its.size == its'.size) := by
        show eqDL xs ys = _
        by_cases hl : xs.length = ys.length
        · rw [eqDL_all hl, ← l1, ← l2, hl]; simp
        · rw [eqDL_len hl, ← l1, ← l2]; simp [hl]
      refine EqBoolInt.of_rc (SeqAt.RcAt.tuples qa qb (by omega) he) ⟨.bl _, H, I, rfl, ?_⟩
      rw [← ee]; exact q
    | int _ => cases hlk
    | lst _ => cases hlk
  | lst xs =>
    cases e with
    | lst ys =>
      obtain ⟨a, its, rfl, qa, r⟩ := g1
      obtain ⟨b, its', rfl, qb, r'⟩ := g2
      have hd : depDL xs ≤ 99 := by simp only [depD] at hn; omega
      have he : ∀ j (g1 : j < its.size) (g2 : j < its'.size), SeqAt.EqAt X.A.in1 s its[j] its'[j] (eqD (xs.getD j (.int 0)) (ys.getD j (.int 0))) := fun j g1 g2 =>
        eqAt_D 99 X.A.in1 _ _ _ _ (Nat.le_trans depDL_getD hd) (by rw [in1_units]; omega) (r.get (by simp [g1])) (r'.get (by simp [g2]))
      have l1 := r.len
      have l2 := r'.len
      replace l1 : xs.length = its.size := by simpa using l1
      replace l2 : ys.length = its'.size := by simpa using l2
      have q' : Q (.bl (eqDL xs ys)) H := q
      by_cases hl : xs.length = ys.length
      · refine EqBoolInt.of_rc (SeqAt.RcAt.lists qa qb (by omega) (by omega) he) ⟨.bl _, H, I, rfl, ?_⟩
        rw [← l1, ← eqDL_all hl]; exact q'
      · refine EqBoolInt.of_rc (SeqAt.RcAt.lists_lengths qa qb (by simp; omega) (by omega)) ⟨.bl _, H, I, rfl, ?_⟩
        rw [eqDL_len hl] at q'; exact q'
    | int _ => cases hlk
    | tup _ => cases hlk
open Classical in
open Classical in
end
theorem units150 {A : Around} {k : Nat} (hr : Room k A) : A.units + 150 < cLine := by have := hr.un; omega

/-! ### big products -/
theorem intBits_le {k : Int} {n : Nat} (h : k.natAbs < 2 ^ n) : Builtin.Int.intBits k ≤ n := by
  unfold Builtin.Int.intBits
  split
  · exact Nat.zero_le _
  · rename_i h0
    have hp : k.natAbs ≠ 0 := by
      intro z
      have : k = 0 := by omega
      simp [this] at h0
    have : k.natAbs.log2 < n := (Nat.log2_lt hp).mpr h
    omega
def CMulB (i j : Int) : Prop := i.natAbs < 2 ^ 200 ∧ j.natAbs < 2 ^ 200
theorem op_mulB {X : Cx} : OpR X (binaryOp .Mult) (rI CMulB fun i j => .int (i * j)) := opI fun _ _ _ _ _ _ _ hc q =>
  mul_int q (.of_bits (Nat.le_trans (intBits_le hc.1) (by decide)) (Nat.le_trans (intBits_le hc.2) (by decide)))
end L2

namespace L2
open PySem PySem.Spec PyProof.Rows

/-! ### the head, where defs make functions: their code objects' tables are tracked -/
/-- a list that is never written -/
def SqF (K : PySem.W.Frag) (H : Hp) (a : Addr) (xs : List V) : Prop :=
  (∃ o, H a = some (.frz o (.lst xs))) ∨ ∃ (o : Obj) (its : Array Value) (n : Nat), K.lookup a = some o ∧ o.cls = .type "list" ∧ o.dict = none ∧ o.data = .seq its n ∧ its.size ≤ sizeLine ∧ Vals xs its.toList
/-- classes and namespaces stay -/
def KeptC (h base : Heap) : Prop := ∀ b o, h.get? b = some o → ((∃ cd, o.data = .cls cd) ∨ ∃ es ep, o.data = .dict es ep) → base.get? b = some o
theorem law_callT {P : Program} {w : World} {K : PySem.W.Frag} {mg mb : Str → Option Value} {k : Nat} {fa a : Addr} {fd : FuncData} {x : Str} {sp : Sp} {s₁ : Shared} {vs : List Value} {ns : List Int} {tabs : List (Addr × Addr)}
    (KX : K.In s₁.heap) (hns : s₁.heap.Ns mainGlobals mg) (hb : s₁.heap.Ns builtinsNs mb) (hbb : ∀ x : Str, x ≠ "__name__" → mb x = bootBuiltins x) (hlim : s₁.heap.NoLimit) (hg : s₁.gens = #[])
    (ha : s₁.heap.get? a = some { cls := .type "list", data := .seq vs.toArray }) (hi : IntsAre vs ns) (hl : ns.length ≤ sizeLine) (hr : Room k callerA)
    (hT : PySem.W.TabsAt tabs s₁.heap) (hKt : PySem.W.noTabs K = true) (bm : BMain mg s₁.heap)
    (F : ∀ base : Heap, K.In base → base.Ns mainGlobals mg → BMain mg base → (∀ q ∈ tabs, PySem.W.CodeHd base q.1 q.2) → KeptC s₁.heap base → FnOk P w K mg base CX0 k fa fd [x] sp) (hbind : ∀ (s : Shared) (u : Value), BindsTo s fd ⟨[u], []⟩ [(x, u)])
    (hsp : ∀ H : Hp, (∀ q ∈ tabs, H q.2 = some (.tbl #[])) → SqF K H a (ns.map V.int) → sp [.ref a] H (fun v _ => v = .bl true) E0) :
    codeAny (model P w) callerA (.call (.ref fa) ⟨[.ref a], []⟩) (fun r s' => r = .ok (.ret (.bool true)) ∧ OldK s₁.heap s'.heap ∧ s'.os = s₁.os ∧ AllBare s'.gens) s₁ := by
  classical
  have rv := vals_ints hi
  have lenV := hi.length
  let isT : Addr → Prop := fun b => ∃ q ∈ tabs, q.2 = b
  let scr : HO := .frz { cls := .type "list", data := .seq vs.toArray } (.lst (ns.map V.int))
  let H : Hp := fun b => if isT b then some (.tbl #[]) else if b = a ∧ K.lookup a = none then some scr else none
  have tget : ∀ b, isT b → s₁.heap.get? b = some (PySem.W.tabObj #[]) := fun b ⟨q, hq, e⟩ => by rw [← e]; exact (hT q hq).2
  have naT : ¬ isT a := fun z => by
    have := tget a z
    rw [ha] at this
    cases this
  have hTab : ∀ b, isT b → H b = some (.tbl #[]) := fun b z => if_pos z
  have hKn : ∀ b o, K.lookup b = some o → ¬ isT b := fun b o e z => by
    have e1 := KX b o e
    rw [tget b z] at e1
    have h2 := List.all_eq_true.mp hKt (b, o) (PySem.W.mem_of_lookupK e)
    cases e1
    exact absurd (show false = true from h2) Bool.false_ne_true
  have cases_ : ∀ b u, H b = some u → (isT b ∧ u = .tbl #[]) ∨ (b = a ∧ K.lookup a = none ∧ u = scr) := fun b u e => by
    have e : (if isT b then some (HO.tbl #[]) else if b = a ∧ K.lookup a = none then some scr else none) = some u := e
    split at e
    · rename_i h; exact .inl ⟨h, (Option.some.inj e).symm⟩
    · split at e
      · rename_i h; exact .inr ⟨h.1, h.2, (Option.some.inj e).symm⟩
      · cases e
  have noT : ∀ {b : Addr} {o : Obj}, s₁.heap.get? b = some o → o.cls ≠ .none → (∀ xs n, o.data ≠ .seq xs n) → H b = none := fun {b o} e hc hd => by
    cases q : H b with
    | none => rfl
    | some u =>
      rcases cases_ b u q with ⟨z, _⟩ | ⟨z, _⟩
      · rw [tget b z] at e; cases e
        exact absurd rfl hc
      · subst z
        rw [ha] at e; cases e
        exact absurd rfl (hd _ _)
  have noD : ∀ {b : Addr} {o : Obj} {es : Array DictEntry} {ep : Nat}, s₁.heap.get? b = some o → o.data = .dict es ep → H b = none := fun {b o es ep} e d => by
    cases q : H b with
    | none => rfl
    | some u =>
      rcases cases_ b u q with ⟨z, _⟩ | ⟨z, _⟩
      · rw [tget b z] at e; cases e; cases d
      · subst z
        rw [ha] at e; cases e; cases d
  have nsK : ∀ {b : Addr} {m : Str → Option Value}, s₁.heap.Ns b m → (hidT s₁.heap H).Ns b m := fun {b m} ⟨o, es, ep, e, d, r⟩ => ⟨o, es, ep, hidT_get e (noD e d), d, r⟩
  have hKb : K.In (hidT s₁.heap H) := fun b o e => hidT_get (KX b o e) (by
    cases q : H b with
    | none => rfl
    | some u =>
      rcases cases_ b u q with ⟨z, _⟩ | ⟨z1, z2, _⟩
      · exact absurd z (hKn b o e)
      · subst z1
        rw [z2] at e; cases e)
  have hM : Mod K mg (hidT s₁.heap H) := ⟨hKb, nsK hns, ⟨mb, nsK hb, hbb⟩, let ⟨mc, h1, h2⟩ := hlim; ⟨mc, nsK h1, h2⟩⟩
  have hBM : BMain mg (hidT s₁.heap H) := by
    obtain ⟨b, ob, h1, h2, h3, h4, h5, h6⟩ := bm
    exact ⟨b, ob, h1, h2, hidT_get h3 (noT h3 (by rw [h4]; nofun) (by rw [h6]; nofun)), h4, h5, h6⟩
  have hCH : ∀ q ∈ tabs, PySem.W.CodeHd (hidT s₁.heap H) q.1 q.2 := fun q hq => by
    obtain ⟨o, vs', file, tf, flags, tg, inF, text, tt, e1, r1, r2, r3⟩ := (hT q hq).1
    exact ⟨o, vs', file, tf, flags, tg, inF, text, tt, hidT_get e1 (noT e1 (by rw [r1]; nofun) (by rw [r2]; nofun)), r1, r2, r3⟩
  have hok : HOk P w H s₁.heap := fun b u e => by
    rcases cases_ b u e with ⟨z, rfl⟩ | ⟨z1, z2, rfl⟩
    · exact tget b z
    · subst z1
      exact ⟨ha, by rw [List.length_map]; exact hl, vs, _, rv, ha⟩
  have e0 : Env0 P w K mg (hidT s₁.heap H) callerA [] s₁ H := ⟨rfl, hM, fun b o e => of_hidT e, Nat.le_of_eq (hidT_size _ _), trivial, fun b hb => absurd (show b ∈ ([] : List Addr) from hb) (by simp), hok, .of_eq hg⟩
  have hS : SqF K H a (ns.map V.int) := by
    cases hk : K.lookup a with
    | some o =>
      have e := KX a o hk
      rw [ha] at e
      cases e
      exact .inr ⟨_, vs.toArray, _, hk, rfl, rfl, rfl, by rw [List.size_toArray, lenV]; exact hl, by simpa using rv⟩
    | none =>
      refine .inl ⟨{ cls := .type "list", data := .seq vs.toArray }, ?_⟩
      show (if isT a then some (HO.tbl #[]) else if a = a ∧ K.lookup a = none then some scr else none) = _
      rw [if_neg naT, if_pos ⟨rfl, hk⟩]
  have hKC : KeptC s₁.heap (hidT s₁.heap H) := fun b o e hd => hidT_get e (by
    cases q : H b with
    | none => rfl
    | some u =>
      rcases cases_ b u q with ⟨z, _⟩ | ⟨z, _⟩
      · rw [tget b z] at e; cases e
        rcases hd with ⟨cd, hd⟩ | ⟨es, ep, hd⟩ <;> cases hd
      · subst z
        rw [ha] at e; cases e
        rcases hd with ⟨cd, hd⟩ | ⟨es, ep, hd⟩ <;> cases hd)
  refine codeAny_mono ((F _ hKb (nsK hns) hBM hCH hKC).run callerA [] s₁ H ⟨[.ref a], []⟩ [.ref a] [.ref a] _ _ hr e0 (hbind s₁ (.ref a)) (.cons rfl .nil) (hsp H (fun q hq => hTab _ ⟨q, hq, rfl⟩) hS)) fun r s' h => ?_
  cases r with
  | error e => exact False.elim h
  | ok fl =>
    cases fl with
    | next => exact False.elim h
    | brk => exact False.elim h
    | cont => exact False.elim h
    | ret u =>
      obtain ⟨v, H', os, bare, un, hok', r', q⟩ := h
      have q' : v = .bl true := q
      subst q'
      obtain rfl : u = Value.bool true := r'
      have tab' : ∀ b, isT b → ∃ ps, s'.heap.get? b = some (PySem.W.tabObj ps) := fun b z => by
        obtain ⟨more, e⟩ := un.tbls b _ (hTab b z)
        exact ⟨_, hok' b _ e⟩
      have keep : ∀ b o, ¬ isT b → s₁.heap.get? b = some o → s'.heap.get? b = some o := fun b o hb e => by
        cases q : H b with
        | none => exact un.keep b o e q (by intro z; exact absurd (show b ∈ ([] : List Addr) from z) (by simp)) (by simp)
        | some u =>
          rcases cases_ b u q with ⟨z, _⟩ | ⟨z1, z2, rfl⟩
          · exact absurd z hb
          · have z3 := un.frzs b _ _ q
            obtain ⟨e2, _⟩ := hok' b _ z3
            obtain ⟨e1, _⟩ := hok b _ q
            rw [e] at e1; cases e1
            exact e2
      refine ⟨rfl, ⟨fun b o e => ?_, fun b o e => ?_⟩, os, bare⟩
      · by_cases hb : isT b
        · obtain ⟨ps, hP⟩ := tab' b hb
          have e1 := tget b hb
          rw [e] at e1; cases e1
          obtain ⟨q, hq, rfl⟩ := hb
          exact .inr (.inl ⟨((hT q hq).1.tab (hT q hq).2).isCodeTable, rfl, #[], ps, rfl, by rw [Array.empty_append]; exact hP⟩)
        · exact .inl (keep b o hb e)
      · by_cases hb : isT b
        · obtain ⟨ps, hP⟩ := tab' b hb
          exact ⟨_, hP⟩
        · exact ⟨o, keep b o hb e⟩

end L2

namespace L2
open PySem PySem.Spec PyProof.Rows
section
variable {X : Cx}
end
end L2

namespace L2
open PySem PySem.Spec PyProof.Rows
/-- .. with the code object known -/
theorem Fun.okC {P : Program} {w : World} {K : PySem.W.Frag} {mg : Str → Option Value} {base : Heap} {x qual : Str} {st : Stmt} {f : Addr} {fd : FuncData} {N ps : List Str} {k : Nat} {sp : Sp} (F : Fun K x qual st f fd) (S : FnScope N ps (defScope st)) (len : ∀ vs H Q E, sp vs H Q E → vs.length = ps.length)
    (hbody : ∀ (cdv : Value), fd.code = cdv → ∀ (A : Around) (outer : List Env) (s : Shared) (H : Hp) (vs : List V) (Q : VK) (E : XK), Room k (A.deeper (envOfC qual (defScope st) s.heap.objs.size f cdv)) → sp vs H Q E →
      ∃ t, PSs (cxOf CX0 P w K mg base N qual (defScope st) f cdv A outer s H E).nox (defBody st) t ∧ t { nx := fun _ H' => Q .non H', rt := Q } (start N vs) H) : FnOk P w K mg base CX0 (k + 1) f fd ps sp := by
  obtain ⟨oc, od, kV, doc, pm, an, cdv, ct, osl, rfl, lk, hcd⟩ := F.ex
  refine fn_of lk hcd S len fun A outer s H vs Q E hr hsp => ?_
  obtain ⟨t, h, q⟩ := hbody cdv rfl A outer s H vs Q E hr hsp
  exact ⟨t, h.nox, q⟩
theorem tab_at {K : PySem.W.Frag} {x : Str} {f c P : Addr} {oc o2 : Value} {od o3 : Option Addr} {fd : FuncData} {sl o4 : Array (Option Value)} {vs : Array Value} (a : PySem.W.nsIn K mainGlobals x = some (some (.ref f))) (l : K.lookup f = some ⟨oc, od, .func fd, sl⟩)
    (hc : fd.code = .ref c) (lc : K.lookup c = some ⟨o2, o3, .fields vs, o4⟩) (hv : vs[11]? = some (.ref P)) : PySem.W.tabIn K x = some (c, P) := by
  unfold PySem.W.tabIn
  simp only [a, l, hc, lc, hv]
theorem iteD {c A B : Prop} [Decidable c] (h1 : c → A) (h2 : ¬ c → B) : if decide c = true then A else B := by
  by_cases h : c
  · rw [decide_eq_true h]; exact iteT (h1 h)
  · rw [decide_eq_false h]; exact iteF (h2 h)
/-- the next turn of n -/
def Nxt (n i : Nat) (P : Prop) : Prop := ∃ m, m < n - i ∧ m = n - (i + 1) ∧ i + 1 ≤ n ∧ P
theorem Nxt.of {n i : Nat} {P : Prop} (h : i < n) (p : P) : Nxt n i P := ⟨n - (i + 1), by omega, rfl, h, p⟩
theorem comp_range {lo : Int} {n : Nat} {src : List (Option Nat)} {g : TG} {tc : TT} {te : TE} {σ : St} {H : Hp} {D : Addr} {F : Hp → Prop} (Pv : Nat → List V → Hp → Prop) (h0 : Pv 0 [] (upd H D (.lst [])))
    (hs : ∀ i ys H, i < n → Pv i ys H → g (.int (lo + i)) (carry src σ) H fun σ2 H2 => keepOf src σ2 = carry src σ ∧ tc σ2 H2 fun b H3 =>
      if b = true then te σ2 H3 fun y H4 => ∃ zs, H4 D = some (.lst zs) ∧ zs.length < sizeLine ∧ Nxt n i (Pv (i + 1) (ys ++ [y]) (upd H4 D (.lst (zs ++ [y])))) else Nxt n i (Pv (i + 1) ys H3))
    (hd : ∀ ys H, Pv n ys H → F H) : CompW src g tc te σ (Itr lo n) H D F := by
  refine ⟨fun i m ys H => m = n - i ∧ i ≤ n ∧ Pv i ys H, ⟨n, by simp, Nat.zero_le _, h0⟩, ?_⟩
  rintro i m ys H ⟨rfl, hi, p⟩
  by_cases hlt : i < n
  · refine .inr ⟨hlt, fun x H' y => ?_⟩
    obtain ⟨e, y⟩ := y
    subst e y
    exact hs i ys _ hlt p
  · have e : i = n := by omega
    subst e
    exact .inl ⟨Nat.le_refl _, hd ys H p⟩
end L2

namespace YO
open PySem PySem.Spec PyProof.Rows L2

/-! ### how heaps go on -/
def imm : HO → Prop
  | .tup _ => True
  | .frz _ _ => True
  | _ => False
/-- all but what M names is as it was; tuples and known things always -/
def Evo (M : Addr → Prop) (H H' : Hp) : Prop := ∀ b o, H b = some o → (¬ M b ∨ imm o) → H' b = some o
theorem Evo.refl {M : Addr → Prop} {H : Hp} : Evo M H H := fun _ _ e _ => e
theorem Evo.trans {M : Addr → Prop} {H H1 H2 : Hp} (a : Evo M H H1) (b : Evo M H1 H2) : Evo M H H2 := fun c o e h => b c o (a c o e h) h
theorem Evo.mono {M N : Addr → Prop} {H H' : Hp} (a : Evo M H H') (h : ∀ b, M b → N b) : Evo N H H' := fun c o e q => a c o e (q.imp (fun z y => z (h c y)) id)
theorem Evo.new {M : Addr → Prop} {H : Hp} {p : Addr} {o : HO} (h : H p = none) : Evo M H (upd H p o) := fun c u e _ => by rw [upd_ne (ne_of_none e h)]; exact e
theorem Evo.put {M : Addr → Prop} {H : Hp} {p : Addr} {xs : List V} {o : HO} (hl : H p = some (.lst xs)) (h : M p) : Evo M H (upd H p o) := fun c u e q => by
  by_cases hc : c = p
  · subst hc
    rw [hl] at e; cases e
    rcases q with z | z
    · exact absurd h z
    · exact z.elim
  · rw [upd_ne hc]; exact e
theorem Same.evo {M : Addr → Prop} {H H' : Hp} (a : Same H H') : Evo M H H' := fun c o e _ => a c o e
theorem Evo.same {H H' : Hp} (a : Evo (fun _ => False) H H') : Same H H' := fun c o e => a c o e (.inl id)
theorem Same.new {H : Hp} {p : Addr} {o : HO} (h : H p = none) : Same H (upd H p o) := fun c u e => by rw [upd_ne (ne_of_none e h)]; exact e
theorem Evo.tup {M : Addr → Prop} {H H' : Hp} (a : Evo M H H') {p : Addr} {xs : List V} (h : H p = some (.tup xs)) : H' p = some (.tup xs) := a p _ h (.inr trivial)
theorem Evo.lst {M : Addr → Prop} {H H' : Hp} (a : Evo M H H') {p : Addr} {xs : List V} (h : H p = some (.lst xs)) (hm : ¬ M p) : H' p = some (.lst xs) := a p _ h (.inl hm)
theorem Evo.fz {M : Addr → Prop} {H H' : Hp} (a : Evo M H H') {p : Addr} {o : Obj} {u : HO} (h : H p = some (.frz o u)) : H' p = some (.frz o u) := a p _ h (.inr trivial)

/-! ### elements: pairs of ints -/
def El (H : Hp) (x : V) (e : Int × Int) : Prop := ∃ p, x = .ref p ∧ H p = some (.tup [.int e.1, .int e.2])
theorem El.evo {M : Addr → Prop} {H H' : Hp} {x : V} {e : Int × Int} (h : El H x e) (a : Evo M H H') : El H' x e := let ⟨p, h1, h2⟩ := h; ⟨p, h1, a.tup h2⟩
abbrev Els (H : Hp) : List V → List (Int × Int) → Prop := Paired (El H)
theorem Paired.getr {α β : Type} {F : α → β → Prop} : ∀ {l₁ : List α} {l₂ : List β} {i : Nat} {y : β}, Paired F l₁ l₂ → l₂[i]? = some y → ∃ x, l₁[i]? = some x ∧ F x y
  | _, _, _, _, .nil, e => by simp at e
  | _, _, 0, _, .cons r _, e => by simp at e; subst e; exact ⟨_, rfl, r⟩
  | _, _, i + 1, x, .cons _ t, e => by
    obtain ⟨y, h1, h2⟩ := Paired.getr (i := i) t (by simpa using e)
    exact ⟨y, by simpa using h1, h2⟩
/-- an element's content, at a heap -/
def ct (H : Hp) : V → Int × Int
  | .ref p => match H p with
    | some (.tup [.int a, .int b]) => (a, b)
    | _ => (0, 0)
  | _ => (0, 0)
theorem El.ct {H : Hp} {x : V} {e : Int × Int} (h : El H x e) : ct H x = e := by
  obtain ⟨p, rfl, h⟩ := h
  unfold YO.ct
  simp only [h]
abbrev dE (e : Int × Int) : Dd := .tup [.int e.1, .int e.2]
theorem dE_inj {a b : Int × Int} (h : dE a = dE b) : a = b := by
  obtain ⟨a1, a2⟩ := a
  obtain ⟨b1, b2⟩ := b
  injection h with h
  injection h with h1 h2
  injection h2 with h2 _
  injection h1 with h1
  injection h2 with h2
  have h1' : a1 = b1 := h1
  have h2' : a2 = b2 := h2
  rw [h1', h2']
theorem dints {K : PySem.W.Frag} {H : Hp} : ∀ {ns : List Int}, DpL K H (ns.map Dd.int) (ns.map V.int)
  | [] => trivial
  | _ :: ns => ⟨rfl, dints (ns := ns)⟩
theorem dep_ints : ∀ ns : List Int, depDL (ns.map Dd.int) = 0
  | [] => rfl
  | n :: ns => by
    show max (depD (Dd.int n)) (depDL (ns.map Dd.int)) = 0
    rw [dep_ints ns]; rfl

/-! ### the cells -/
def cellF (ns : List Int) (k : Int) : Int := if ns.isEmpty then k * 7919 else (ns.getD (k % (ns.length : Int)).toNat 0) + k / (ns.length : Int) * 104729
def drawnF (c k : Int) : Int := ((c * 6364136223846793005 + (k + 1) * 1442695040888963407) % 340282366920938463463374607431768211507) * ((c * 6364136223846793005 + (k + 1) * 1442695040888963407) % 340282366920938463463374607431768211507) % 340282366920938463463374607431768211297
theorem drawnF_nn (c k : Int) : 0 ≤ drawnF c k := Int.emod_nonneg _ (by decide)
def sg (g : Int) : Int := (if g > 0 then 1 else 0) - (if g < 0 then 1 else 0)
def absI (i : Int) : Int := if i < 0 then -i else i
def ansF (way : Int) (x y : Int × Int) : Int :=
  if way = 1 then 0 - (x.1 - y.1) else if way = 2 then x.1 / 3 - y.1 / 3 else if way = 3 then sg (x.1 - y.1) * (1 + absI x.2 % 9)
  else if way = 4 then (x.1 - y.1) * 10 ^ 20 else if way = 5 then absI (x.1 - 4) - absI (y.1 - 4) else x.1 - y.1
theorem upd_old {H : Hp} {p b : Addr} {o u : HO} (hf : H p = none) (hb : H b = some u) : upd H p o b = some u := by rw [upd_ne (ne_of_none hb hf)]; exact hb
theorem yb_len : bootBuiltins "len" = some (.builtin "len") := by decide +kernel
theorem yb_int : bootBuiltins "int" = some (.type "int") := by decide +kernel
theorem yb_list : bootBuiltins "list" = some (.type "list") := by decide +kernel
theorem yb_isinstance : bootBuiltins "isinstance" = some (.builtin "isinstance") := by decide +kernel
end YO

namespace YO
open PySem PySem.Spec PyProof.Rows L2
/-! ### a function that is handed in: S what it leans on, M what it changes, Lg what is known of its questions so far, F its answers -/
abbrev Lg0 := List (V × V) → Hp → Prop
def spO (M : Addr → Prop) (Lg : Lg0) (Dom : Hp → V → Prop) (F : List (V × V) → V → V → Int) (cap : Nat) : Sp := fun vs H Q _ => ∃ (x y : V) (L : List (V × V)), vs = [x, y] ∧ Lg L H ∧ Dom H x ∧ Dom H y ∧ L.length < cap ∧
  ∀ H', Lg (L ++ [(x, y)]) H' → Evo M H H' → Q (.int (F L x y)) H'
structure OraK (M S : Addr → Prop) (Lg : Lg0) (Dom : Hp → V → Prop) : Prop where
  sub : ∀ b, M b → S b
  keep : ∀ L H H', Lg L H → (∀ b o, H b = some o → (S b ∨ ∃ xs, o = .tup xs) → H' b = some o) → Lg L H'
  there : ∀ L H b, Lg L H → S b → ∃ o, H b = some o
  dom : ∀ H H' x, Dom H x → (∀ b xs, H b = some (.tup xs) → H' b = some (.tup xs)) → Dom H' x
structure Ora (P : Program) (w : World) (K : PySem.W.Frag) (mg : Str → Option Value) (base : Heap) (k : Nat) (f : Addr) (M S : Addr → Prop) (Lg : Lg0) (Dom : Hp → V → Prop) (F : List (V × V) → V → V → Int) (cap : Nat) : Prop where
  fv : FV P w K mg base k f (spO M Lg Dom F cap)
  ok : OraK M S Lg Dom
/-- a test of one element, by the function and a key -/
def spO1 (M : Addr → Prop) (Lg : Lg0) (Dom : Hp → V → Prop) (F : List (V × V) → V → V → Int) (t : Int → Bool) (key : V) (cap : Nat) : Sp := fun vs H Q _ => ∃ (x : V) (L : List (V × V)), vs = [x] ∧ Lg L H ∧ Dom H x ∧ L.length < cap ∧
  ∀ H', Lg (L ++ [(x, key)]) H' → Evo M H H' → Q (.bl (t (F L x key))) H'
structure Ora1 (P : Program) (w : World) (K : PySem.W.Frag) (mg : Str → Option Value) (base : Heap) (k : Nat) (f : Addr) (M S : Addr → Prop) (Lg : Lg0) (Dom : Hp → V → Prop) (F : List (V × V) → V → V → Int) (t : Int → Bool) (key : V) (cap : Nat) : Prop where
  fv : FV P w K mg base k f (spO1 M Lg Dom F t key cap)
  ok : OraK M S Lg Dom
theorem _root_.L2.TabOk.evo {M : Addr → Prop} {H H' : Hp} {t : Addr} {q : Str} (h : TabOk H t q) (a : Evo M H H') (hm : ¬ M t) : TabOk H' t q := by
  obtain ⟨ps, h1, h2, h3⟩ := h
  refine ⟨ps, a _ _ h1 (.inl hm), h2, fun pos cv e => ?_⟩
  obtain ⟨c, oc, g1, g2, g3⟩ := h3 pos cv e
  exact ⟨c, oc, g1, a.fz g2, g3⟩
theorem _root_.L2.TabOk.nil {H : Hp} {t : Addr} {q : Str} (h : H t = some (.tbl #[])) : TabOk H t q := ⟨#[], h, trivial, fun pos cv e => by simp [codeAmong] at e⟩
abbrev qL (n : Str) : Str := (n ++ ".<locals>.") ++ "<lambda>"

/-! ### a list that is never written -/
theorem _root_.L2.SqF.sq {K : PySem.W.Frag} {H : Hp} {a : Addr} {xs : List V} (h : SqF K H a xs) : SqL K H a xs := by
  rcases h with ⟨o, h⟩ | h
  · exact .inl (.inr ⟨o, h⟩)
  · exact .inr h
theorem _root_.L2.SqF.evo {K : PySem.W.Frag} {M : Addr → Prop} {H H' : Hp} {a : Addr} {xs : List V} (h : SqF K H a xs) (e : Evo M H H') : SqF K H' a xs := by
  rcases h with ⟨o, h⟩ | h
  · exact .inl ⟨o, e.fz h⟩
  · exact .inr h
theorem _root_.L2.SqF.same {K : PySem.W.Frag} {H H' : Hp} {a : Addr} {xs : List V} (h : SqF K H a xs) (e : Same H H') : SqF K H' a xs := h.evo (M := fun _ => False) (Same.evo e)

/-! ### the log of a function that notes its questions -/
def LogAt (la : Addr) (L : List (V × V)) (H : Hp) : Prop := ∃ ts, H la = some (.lst ts) ∧ Paired (fun (t : V) (p : V × V) => ∃ q, t = .ref q ∧ H q = some (.tup [p.1, p.2])) ts L

/-! ### cells hidden, cells known -/
theorem Evo.unhid {M : Addr → Prop} {H H' : Hp} {p : Addr → Prop} (a : Evo M (hid H p) H') : Evo M H (unhid H H' p) := fun b o e q => by
  by_cases hb : p b
  · rw [unhid_in hb]; exact e
  · rw [unhid_out hb]
    exact a b o (by rw [hid_out hb]; exact e) q
theorem _root_.L2.Froz.to {X : Cx} {σ : L2.St} {H Hf : Hp} (Z : Froz X σ H Hf) {b : Addr} {o : HO} (e : H b = some o) : Hf b = some o := by
  rw [Z.same b fun z => by rw [(Z.cell b z).1] at e; cases e]
  exact e
theorem _root_.L2.Froz.back {X : Cx} {σ : L2.St} {M : Addr → Prop} {H Hf Hf' : Hp} (Z : Froz X σ H Hf) (a : Evo M Hf Hf') : Evo M H (hid Hf' (CellOf X.env.cells)) := fun b o e q => by
  have hb : ¬ CellOf X.env.cells b := fun z => by rw [(Z.cell b z).1] at e; cases e
  rw [hid_out hb]
  exact a b o (Z.to e) q
theorem _root_.L2.Froz.same' {X : Cx} {σ : L2.St} {H Hf : Hp} (Z : Froz X σ H Hf) : Same H Hf := fun b o e => Z.to e
end YO

namespace L2
open PySem PySem.Spec PyProof.Rows
/-! ### the rules inside a comprehension's block: the frame's fragment by its own letter -/
section
variable {X : Cx} {K : PySem.W.Frag}
theorem ix_listK (hK : X.K = K := by rfl) : IxR X (rIxL K) := hK ▸ ix_list
end

/-! ### comprehensions that only make new things -/
/-- the list so far at D; all else as it was -/
def CI (H1 : Hp) (D : Addr) (P : Nat → List V → Hp → Prop) (i : Nat) (ys : List V) (H : Hp) : Prop := H D = some (.lst ys) ∧ ys.length ≤ i ∧ Same H1 H ∧ P i ys H
theorem ci_put {H1 H H4 : Hp} {D : Addr} {P : Nat → List V → Hp → Prop} {n i : Nat} {ys : List V} {y : V} (hD : H1 D = none) (hi : i < n) (hn : n ≤ 1000000) (c : H D = some (.lst ys)) (cl : ys.length ≤ i) (s0 : Same H1 H) (s : Same H H4)
    (p : ∀ H', (∀ b o, H4 b = some o → b ≠ D → H' b = some o) → P (i + 1) (ys ++ [y]) H') :
    ∃ zs, H4 D = some (.lst zs) ∧ zs.length < sizeLine ∧ Nxt n i (CI H1 D P (i + 1) (ys ++ [y]) (upd H4 D (.lst (zs ++ [y])))) := by
  refine ⟨ys, s _ _ c, Nat.lt_of_lt_of_le (show ys.length < 1000000 by omega) (by decide), Nxt.of hi ⟨upd_same, by rw [List.length_append, List.length_singleton]; omega, fun b o e => ?_, p _ fun b o e z => ?_⟩⟩
  · rw [upd_ne (ne_of_none e hD)]; exact s _ _ (s0 b o e)
  · rw [upd_ne z]; exact e
theorem compS_range {lo : Int} {n : Nat} {src : List (Option Nat)} {g : TG} {tc : TT} {te : TE} {σ : St} {H : Hp} {D : Addr} {F : Hp → Prop} (P : Nat → List V → Hp → Prop) (hD : H D = none) (h0 : P 0 [] (upd H D (.lst [])))
    (hs : ∀ i ys H', i < n → H' D = some (.lst ys) → ys.length ≤ i → Same H H' → P i ys H' → g (.int (lo + i)) (carry src σ) H' fun σ2 H2 => keepOf src σ2 = carry src σ ∧ tc σ2 H2 fun b H3 =>
      if b = true then te σ2 H3 fun y H4 => ∃ zs, H4 D = some (.lst zs) ∧ zs.length < sizeLine ∧ Nxt n i (CI H D P (i + 1) (ys ++ [y]) (upd H4 D (.lst (zs ++ [y])))) else Nxt n i (CI H D P (i + 1) ys H3))
    (hd : ∀ ys H', H' D = some (.lst ys) → Same H H' → P n ys H' → F H') : CompW src g tc te σ (Itr lo n) H D F :=
  comp_range (lo := lo) (n := n) (CI H D P) ⟨upd_same, Nat.le_refl _, fun b o e => by rw [upd_ne (ne_of_none e hD)]; exact e, h0⟩ (fun i ys H' hi ⟨c1, c2, c3, c4⟩ => hs i ys H' hi c1 c2 c3 c4) (fun ys H' ⟨c1, _, c3, c4⟩ => hd ys H' c1 c3 c4)
end L2

namespace YM
section
variable {α β : Type} (F : List (α × α) → α → α → Int)
/-! ### unique -/
def unq (L : List (α × α)) (x : α) : List α → List α × List (α × α)
  | [] => ([], L)
  | y :: r => if F L x y = 0 then unq (L ++ [(x, y)]) x r else (y :: (unq (L ++ [(x, y)]) y r).1, (unq (L ++ [(x, y)]) y r).2)
def unqS (f : α → α → Int) (x : α) : List α → List α
  | [] => []
  | y :: r => if f x y = 0 then unqS f x r else y :: unqS f y r
variable {F}
/-! ### a row's picture -/
/-! ### ahead, as a law looks -/
def ahdS (f : α → α → Int) : List α → Nat
  | x :: y :: r => if f x y > 0 then 1 else ahdS f (y :: r) + 1
  | [_] => 1
  | [] => 0
/-- the questions: each and the next one, from the left -/
def prs (l : List α) : List (α × α) := l.zip l.tail
end
end YM

namespace YM
section
variable {α β : Type} (F : List (α × α) → α → α → Int)
/-! ### two rows walked together -/
def wlk (L : List (α × α)) : List α → List α → List (Int × α) × List (α × α)
  | [], ys => (ys.map fun y => (1, y), L)
  | x :: xs, [] => ((x :: xs).map fun x => (-1, x), L)
  | x :: xs, y :: ys =>
    if F L x y > 0 then ((F L x y, y) :: (wlk (L ++ [(x, y)]) (x :: xs) ys).1, (wlk (L ++ [(x, y)]) (x :: xs) ys).2)
    else if F L x y = 0 then ((F L x y, x) :: (wlk (L ++ [(x, y)]) xs ys).1, (wlk (L ++ [(x, y)]) xs ys).2)
    else ((F L x y, x) :: (wlk (L ++ [(x, y)]) xs (y :: ys)).1, (wlk (L ++ [(x, y)]) xs (y :: ys)).2)
termination_by xs ys => xs.length + ys.length
variable {F}
/-- by any function -/
structure Wlk (L : List (α × α)) (xs ys : List α) (r : List (Int × α) × List (α × α)) : Prop where
  one : xs.Sublist (r.1.map (·.2))
  mem : ∀ p ∈ r.1, p.2 ∈ xs ∨ p.2 ∈ ys
  le : ((r.1.filter fun p => decide (p.1 ≤ 0)).map (·.2)) = xs
  gt : ((r.1.filter fun p => decide (p.1 > 0)).map (·.2)).Sublist ys
  len : r.1.length ≤ xs.length + ys.length
  log : ∃ M, r.2 = L ++ M ∧ (∀ p ∈ M, p.1 ∈ xs ∧ p.2 ∈ ys) ∧ M.length ≤ xs.length + ys.length - 1 ∧ (xs = [] ∨ ys = [] → M = [])
end
section
variable {α : Type} {F : List (α × α) → α → α → Int} {f : α → α → Int}
/-! ### by an order, of rows each of whose elements is unlike the next one -/
def StS (f : α → α → Int) (l : List α) : Prop := l.Pairwise fun x y => f x y < 0
/-- like one of a row -/
def amg (f : α → α → Int) (l : List α) (e : α) : Bool := l.any fun x => f x e == 0
theorem Ord.lt_of {D : α → Prop} (O : Ord f D) {x y z : α} (hx : D x) (hy : D y) (hz : D z) (h1 : f x y < 0) (h2 : f y z ≤ 0) : f x z < 0 := by
  have h3 := O.trans x y z hx hy hz (by omega) h2
  rcases Int.lt_or_eq_of_le h3 with h | h
  · exact h
  · have h4 := (O.zero hx hz).mp h
    have h5 := O.trans y z x hy hz hx h2 (by omega)
    have h6 := (O.anti y x hy hx).mpr h1
    omega
end
end YM

namespace YM
section
variable {α : Type} (F : List (α × α) → α → α → Int)
/-! ### least -/
def lst (L : List (α × α)) (x : α) : List α → α × List (α × α)
  | [] => (x, L)
  | e :: r => if F L e x < 0 then lst (L ++ [(e, x)]) e r else lst (L ++ [(e, x)]) x r
variable {F}
/-! ### kept in order, searched from behind -/
variable (F)
/-- one more: behind those that don't stand behind it -/
def insU (L : List (α × α)) (kept : List α) (e : α) : List α × List (α × α) :=
  (kept.take (bis F (fun i => decide (i ≤ 0)) kept e L 0 kept.length).1 ++ e :: kept.drop (bis F (fun i => decide (i ≤ 0)) kept e L 0 kept.length).1, (bis F (fun i => decide (i ≤ 0)) kept e L 0 kept.length).2)
def bst (many : Nat) (L : List (α × α)) (kept : List α) : List α → List α × List (α × α)
  | [] => (kept, L)
  | e :: r => bst many (insU F L kept e).2 (if (insU F L kept e).1.length > many then (insU F L kept e).1.dropLast else (insU F L kept e).1) r
def trn (L : List (α × α)) (kept : List α) (m : Nat) : List α → Nat × List (α × α)
  | [] => (m, L)
  | e :: r => trn (insU F L kept e).2 (insU F L kept e).1 (m + (kept.length - (bis F (fun i => decide (i ≤ 0)) kept e L 0 kept.length).1)) r
variable {F}
theorem insU_len {L : List (α × α)} {kept : List α} {e : α} : (insU F L kept e).1.length = kept.length + 1 := by
  unfold insU
  simp only [List.length_append, List.length_cons, List.length_take, List.length_drop]
  obtain ⟨_, h, _⟩ := bis_all (F := F) (t := fun i => decide (i ≤ 0)) (xs := kept) (key := e) (clog (kept.length + 1)) L 0 kept.length (Nat.zero_le _) (Nat.le_refl _) (clog_pow _)
  omega
theorem insU_perm {L : List (α × α)} {kept : List α} {e : α} : (insU F L kept e).1.Perm (e :: kept) := by
  unfold insU
  refine List.perm_middle.trans ?_
  rw [List.take_append_drop]
theorem insU_log {L : List (α × α)} {kept : List α} {e : α} : ∃ M, (insU F L kept e).2 = L ++ M ∧ M.length ≤ clog (kept.length + 1) := by
  obtain ⟨_, _, M, h1, h2, _⟩ := bis_all (F := F) (t := fun i => decide (i ≤ 0)) (xs := kept) (key := e) (clog (kept.length + 1)) L 0 kept.length (Nat.zero_le _) (Nat.le_refl _) (clog_pow _)
  exact ⟨M, h1, h2⟩
end
section
variable {α : Type} {F : List (α × α) → α → α → Int} {f : α → α → Int} {D : α → Prop}
/-- the place of one more -/
theorem insAt_count (O : Ord f D) {l : List α} {e : α} (d : ∀ x ∈ l, D x) (he : D e) (s : Srt f l) : insAt f e l l.length = (l.filter fun x => decide (f x e ≤ 0)).length := by
  have h1 := Srt.take_le O d he s
  have h2 : ∀ x ∈ l.drop (insAt f e l l.length), f x e > 0 := Srt.drop_gt
  have hle := insAt_le (f := f) e l l.length
  have e1 : l.filter (fun x => decide (f x e ≤ 0)) = l.take (insAt f e l l.length) := by
    have e0 : l.filter (fun x => decide (f x e ≤ 0)) = (l.take (insAt f e l l.length) ++ l.drop (insAt f e l l.length)).filter (fun x => decide (f x e ≤ 0)) := by rw [List.take_append_drop]
    rw [e0, List.filter_append, List.filter_eq_self.mpr, List.filter_eq_nil_iff.mpr, List.append_nil]
    · intro x hx; have := h2 x hx; simp; omega
    · intro x hx; have := h1 x hx; simp; omega
  rw [e1, List.length_take]
  omega
theorem bis_up (O : Ord f D) (B : By F f D) {l : List α} {e : α} (d : ∀ x ∈ l, D x) (he : D e) (s : Srt f l) (L : List (α × α)) : (bis F (fun i => decide (i ≤ 0)) l e L 0 l.length).1 = (l.filter fun x => decide (f x e ≤ 0)).length := by
  have := bis_count (F := F) (t := fun i => decide (i ≤ 0)) (xs := l) (key := e) (p := fun x => decide (f x e ≤ 0)) (fun L x hx => by rw [B L x e (d x hx) he]) (l.filter fun x => decide (f x e ≤ 0)).length (List.length_filter_le _ _)
    (front_count (List.Pairwise.imp_of_mem (fun {x y} hx hy h hp => decide_eq_true (O.trans x y e (d x hx) (d y hy) he h (of_decide_eq_true hp))) s))
  exact this _ L 0 l.length rfl (Nat.zero_le _) (List.length_filter_le _ _) (Nat.le_refl _)
theorem insU_ins (O : Ord f D) (B : By F f D) {l : List α} {e : α} (d : ∀ x ∈ l, D x) (he : D e) (s : Srt f l) (L : List (α × α)) : (insU F L l e).1 = ins f l e := by
  unfold insU ins
  rw [bis_up O B d he s, insAt_count O d he s]
theorem take_mid {l X : List α} {e : α} {u k : Nat} (h : l.length = u) : (l ++ e :: X).take (u + (k + 1)) = l ++ e :: X.take k := by
  subst h
  rw [List.take_length_add_append]; rfl
theorem Srt.take {l : List α} (s : Srt f l) (n : Nat) : Srt f (l.take n) := List.Pairwise.sublist (List.take_sublist n l) s
end
end YM

namespace YM
section
variable {α : Type} (F : List (α × α) → α → α → Int)
abbrev sw (p : α × α) : α × α := (p.2, p.1)
/-! ### both ends -/
def spl (L : List (α × α)) : List α → (List α × List α) × List (α × α)
  | x :: y :: r => if F L x y > 0 then ((y :: (spl (L ++ [(x, y)]) r).1.1, x :: (spl (L ++ [(x, y)]) r).1.2), (spl (L ++ [(x, y)]) r).2) else ((x :: (spl (L ++ [(x, y)]) r).1.1, y :: (spl (L ++ [(x, y)]) r).1.2), (spl (L ++ [(x, y)]) r).2)
  | [x] => (([x], [x]), L)
  | [] => (([], []), L)
def flp : List (α × α) → α → α → Int := fun L x y => F (L.map sw) y x
variable {F}
end
section
variable {α : Type} {F : List (α × α) → α → α → Int} {f : α → α → Int} {D : α → Prop}
end
end YM

namespace YM
section
variable {α : Type} (F : List (α × α) → α → α → Int)
/-! ### rising -/
def las (d : α) (row : List α) (lg : List (List Nat)) : List α := lg.tail.map fun ps => (row[ps.getLast?.getD 0]?).getD d
/-- one more place -/
def rsLen (d : α) (row : List α) (L : List (α × α)) (lg : List (List Nat)) (e : α) : Nat := (bis F (fun i => decide (i < 0)) (las d row lg) e L 0 (las d row lg).length).1
def rsLog (d : α) (row : List α) (L : List (α × α)) (lg : List (List Nat)) (e : α) : List (α × α) := (bis F (fun i => decide (i < 0)) (las d row lg) e L 0 (las d row lg).length).2
def rsPut (lg : List (List Nat)) (len k : Nat) : List (List Nat) := lg.take (len + 1) ++ [(lg[len]?).getD [] ++ [k]] ++ lg.drop (len + 2)
def rsg (d : α) (row : List α) (L : List (α × α)) (lg : List (List Nat)) (k : Nat) : List α → List (List Nat) × List (α × α)
  | [] => (lg, L)
  | e :: r => rsg d row (rsLog F d row L lg e) (rsPut lg (rsLen F d row L lg e) k) (k + 1) r
variable {F}
theorem rsPut_get {lg : List (List Nat)} {len k : Nat} (h : len < lg.length) (l : Nat) : (rsPut lg len k)[l]? = if l = len + 1 then some ((lg[len]?).getD [] ++ [k]) else lg[l]? := by
  unfold rsPut
  have lt : (lg.take (len + 1)).length = len + 1 := by rw [List.length_take]; omega
  rcases Nat.lt_trichotomy l (len + 1) with hl | hl | hl
  · rw [if_neg (by omega), List.append_assoc, List.getElem?_append_left (by omega), List.getElem?_take, if_pos hl]
  · rw [if_pos hl, List.append_assoc, List.getElem?_append_right (by omega), hl, lt, Nat.sub_self]; rfl
  · rw [if_neg (by omega), List.getElem?_append_right (by rw [List.length_append, lt]; simp only [List.length_cons, List.length_nil]; omega), List.getElem?_drop]
    congr 1
    rw [List.length_append, lt]; simp only [List.length_cons, List.length_nil]; omega
theorem rsPut_len {lg : List (List Nat)} {len k : Nat} (h : len < lg.length) : (rsPut lg len k).length = max lg.length (len + 2) := by
  unfold rsPut
  rw [List.length_append, List.length_append, List.length_take, List.length_drop]
  simp only [List.length_cons, List.length_nil]; omega
/-- by any function -/
structure Rs (k : Nat) (lg : List (List Nat)) : Prop where
  pos : 0 < lg.length
  len : lg.length ≤ k + 1
  each : ∀ (l : Nat) (ps : List Nat), lg[l]? = some ps → ps.length = l ∧ ps.Pairwise (· < ·) ∧ ∀ p ∈ ps, p < k
theorem las_len {d : α} {row : List α} {lg : List (List Nat)} : (las d row lg).length = lg.length - 1 := by unfold las; rw [List.length_map, List.length_tail]
theorem rsLen_lt {d : α} {row : List α} {L : List (α × α)} {lg : List (List Nat)} {e : α} (h : 0 < lg.length) : rsLen F d row L lg e < lg.length := by
  obtain ⟨_, h2, _⟩ := bis_all (F := F) (t := fun i => decide (i < 0)) (xs := las d row lg) (key := e) (clog ((las d row lg).length + 1)) L 0 (las d row lg).length (Nat.zero_le _) (Nat.le_refl _) (clog_pow _)
  have := las_len (d := d) (row := row) (lg := lg)
  unfold rsLen
  omega
theorem rsLog_any {d : α} {row : List α} {L : List (α × α)} {lg : List (List Nat)} {e : α} : ∃ M, rsLog F d row L lg e = L ++ M ∧ M.length ≤ clog (lg.length - 1 + 1) := by
  obtain ⟨_, _, M, h3, h4, _⟩ := bis_all (F := F) (t := fun i => decide (i < 0)) (xs := las d row lg) (key := e) (clog ((las d row lg).length + 1)) L 0 (las d row lg).length (Nat.zero_le _) (Nat.le_refl _) (clog_pow _)
  rw [las_len] at h4
  exact ⟨M, h3, h4⟩
theorem Rs.step {k len : Nat} {lg : List (List Nat)} (h : Rs k lg) (hl : len < lg.length) : Rs (k + 1) (rsPut lg len k) := by
  refine ⟨by rw [rsPut_len hl]; omega, by rw [rsPut_len hl]; have := h.len; omega, fun l ps e => ?_⟩
  rw [rsPut_get hl] at e
  split at e
  · rename_i hq
    have e := Option.some.inj e
    obtain ⟨q, hq'⟩ : ∃ q, lg[len]? = some q := ⟨lg[len], by simp [hl]⟩
    rw [hq'] at e
    obtain ⟨a, b, c⟩ := h.each len q hq'
    have e' : q ++ [k] = ps := e
    subst e'
    refine ⟨by rw [List.length_append, a, hq]; rfl, List.pairwise_append.mpr ⟨b, by simp, fun x hx y hy => by rw [List.mem_singleton.mp hy]; exact c x hx⟩, fun p hp => ?_⟩
    rcases List.mem_append.mp hp with z | z
    · have := c p z; omega
    · rw [List.mem_singleton.mp z]; omega
  · obtain ⟨a, b, c⟩ := h.each l ps e
    exact ⟨a, b, fun p hp => by have := c p hp; omega⟩
end
/-! ### the longest, as a law finds it -/
def mxl (l : List Nat) : Nat := l.foldr max 0
theorem mxl_le {l : List Nat} {n : Nat} : mxl l ≤ n ↔ ∀ x ∈ l, x ≤ n := by
  induction l with
  | nil => simp [mxl]
  | cons a l ih =>
    show max a (mxl l) ≤ n ↔ _
    rw [Nat.max_le, ih]
    simp
theorem mxl_mem {l : List Nat} {x : Nat} (h : x ∈ l) : x ≤ mxl l := mxl_le.mp (Nat.le_refl _) x h
section
variable {α : Type} {F : List (α × α) → α → α → Int} {f : α → α → Int} {D : α → Prop}
/-- how long a rising row ends at a place -/
def mdOf (f : α → α → Int) (d : α) (row : List α) (md : List Nat) (e : α) : Nat := 1 + mxl (((List.range md.length).filter fun j => decide (f ((row[j]?).getD d) e < 0)).map fun j => md.getD j 0)
def mdS (f : α → α → Int) (d : α) (row : List α) : Nat → List Nat
  | 0 => []
  | k + 1 => mdS f d row k ++ [mdOf f d row (mdS f d row k) ((row[k]?).getD d)]
structure Ro (f : α → α → Int) (d : α) (row : List α) (k : Nat) (lg : List (List Nat)) (md : List Nat) : Prop where
  rs : Rs k lg
  ml : md.length = k
  up : ∀ (l : Nat) (ps : List Nat), lg[l]? = some ps → ps.Pairwise fun p q => f ((row[p]?).getD d) ((row[q]?).getD d) < 0
  low : ∀ (l : Nat) (ps : List Nat), lg[l + 1]? = some ps → ∃ p, ps.getLast? = some p ∧ l + 1 ≤ md.getD p 0 ∧ ∀ j, j < k → l + 1 ≤ md.getD j 0 → f ((row[p]?).getD d) ((row[j]?).getD d) ≤ 0
  top : ∀ j, j < k → md.getD j 0 < lg.length
theorem Ro.las_get {d : α} {row : List α} {k l : Nat} {lg : List (List Nat)} {md : List Nat} {x : α} (R : Ro f d row k lg md) (h : (las d row lg)[l]? = some x) :
    ∃ ps p, lg[l + 1]? = some ps ∧ ps.getLast? = some p ∧ x = (row[p]?).getD d ∧ l + 1 ≤ md.getD p 0 ∧ p < k ∧ ∀ j, j < k → l + 1 ≤ md.getD j 0 → f x ((row[j]?).getD d) ≤ 0 := by
  unfold las at h
  rw [List.getElem?_map, List.getElem?_tail] at h
  cases hq : lg[l + 1]? with
  | none => rw [hq] at h; simp at h
  | some ps =>
    rw [hq] at h
    obtain ⟨p, h1, h2, h3⟩ := R.low l ps hq
    have hx : (row[ps.getLast?.getD 0]?).getD d = x := Option.some.inj h
    rw [h1] at hx
    have hx' : (row[p]?).getD d = x := hx
    refine ⟨ps, p, rfl, h1, hx'.symm, h2, (R.rs.each _ ps hq).2.2 p (List.mem_of_getLast? h1), ?_⟩
    rw [← hx']; exact h3
theorem Ro.step (O : Ord f D) (B : By F f D) {d : α} {row : List α} {k : Nat} {lg : List (List Nat)} {md : List Nat} {L : List (α × α)} (hD : ∀ j : Nat, D ((row[j]?).getD d)) (R : Ro f d row k lg md) :
    Ro f d row (k + 1) (rsPut lg (rsLen F d row L lg ((row[k]?).getD d)) k) (md ++ [mdOf f d row md ((row[k]?).getD d)]) := by
  have he := hD k
  have hll := las_len (d := d) (row := row) (lg := lg)
  have hlt := rsLen_lt (F := F) (d := d) (row := row) (L := L) (e := (row[k]?).getD d) R.rs.pos
  -- the last ones stand in order
  have hlD : ∀ x ∈ las d row lg, D x := fun x hx => by
    obtain ⟨i, hi⟩ := List.getElem?_of_mem hx
    obtain ⟨_, p, _, _, e, _⟩ := R.las_get hi
    rw [e]; exact hD p
  have hsrt : Srt f (las d row lg) := by
    refine List.pairwise_iff_getElem.mpr fun i j hi hj hij => ?_
    obtain ⟨ps, p, a1, a2, a3, a4, a5, a6⟩ := R.las_get (l := i) (x := (las d row lg)[i]) (by simp [hi])
    obtain ⟨qs, q, b1, b2, b3, b4, b5, b6⟩ := R.las_get (l := j) (x := (las d row lg)[j]) (by simp [hj])
    rw [b3]
    exact a6 q b5 (by omega)
  have hcnt : rsLen F d row L lg ((row[k]?).getD d) = ((las d row lg).filter fun x => decide (f x ((row[k]?).getD d) < 0)).length := by
    unfold rsLen
    exact bis_count (F := F) (t := fun i => decide (i < 0)) (xs := las d row lg) (key := (row[k]?).getD d) (p := fun x => decide (f x ((row[k]?).getD d) < 0)) (fun L x hx => by rw [B L x _ (hlD x hx) he]) _ (List.length_filter_le _ _)
      (front_count (List.Pairwise.imp_of_mem (fun {x y} hx hy h hp => decide_eq_true (O.lt_trans (hlD x hx) (hlD y hy) he h (of_decide_eq_true hp))) hsrt)) _ L 0 _ rfl (Nat.zero_le _) (List.length_filter_le _ _) (Nat.le_refl _)
  have hfr := front_count (p := fun x => decide (f x ((row[k]?).getD d) < 0)) (List.Pairwise.imp_of_mem (fun {x y} hx hy h hp => decide_eq_true (O.lt_trans (hlD x hx) (hlD y hy) he h (of_decide_eq_true hp))) hsrt)
  rw [← hcnt] at hfr
  generalize rsLen F d row L lg ((row[k]?).getD d) = len at hlt hfr hcnt
  generalize hee : (row[k]?).getD d = e at he hfr hcnt
  -- how long it is here
  have hmd : mdOf f d row md e = len + 1 := by
    unfold mdOf
    rw [Nat.add_comm]
    congr 1
    refine Nat.le_antisymm (mxl_le.mpr fun x hx => ?_) ?_
    · obtain ⟨j, hj, rfl⟩ := List.mem_map.mp hx
      obtain ⟨hj1, hj2⟩ := List.mem_filter.mp hj
      rw [List.mem_range, R.ml] at hj1
      have hj2 := of_decide_eq_true hj2
      rcases Nat.eq_zero_or_pos (md.getD j 0) with h0 | h0
      · omega
      have ht := R.top j hj1
      obtain ⟨x, hx⟩ : ∃ x, (las d row lg)[md.getD j 0 - 1]? = some x := ⟨(las d row lg)[md.getD j 0 - 1]'(by omega), by simp⟩
      obtain ⟨ps, p, a1, a2, a3, a4, a5, a6⟩ := R.las_get hx
      have h6 := a6 j hj1 (by omega)
      have := (hfr _ x hx).mp (decide_eq_true (O.lt_trans (by rw [a3]; exact hD p) (hD j) he h6 hj2))
      omega
    · rcases Nat.eq_zero_or_pos len with h0 | h0
      · omega
      obtain ⟨x, hx⟩ : ∃ x, (las d row lg)[len - 1]? = some x := ⟨(las d row lg)[len - 1]'(by omega), by simp⟩
      obtain ⟨ps, p, a1, a2, a3, a4, a5, a6⟩ := R.las_get hx
      have hx2 := of_decide_eq_true ((hfr _ x hx).mpr (by omega))
      refine Nat.le_trans (show len ≤ md.getD p 0 by omega) (mxl_mem (List.mem_map.mpr ⟨p, List.mem_filter.mpr ⟨List.mem_range.mpr (by rw [R.ml]; exact a5), decide_eq_true (by rw [← a3]; exact hx2)⟩, rfl⟩))
  have gO : ∀ j, j < k → (md ++ [mdOf f d row md e]).getD j 0 = md.getD j 0 := fun j hj => by
    rw [List.getD_eq_getElem?_getD, List.getD_eq_getElem?_getD, List.getElem?_append_left (by rw [R.ml]; exact hj)]
  have gN : (md ++ [mdOf f d row md e]).getD k 0 = len + 1 := by
    rw [List.getD_eq_getElem?_getD, List.getElem?_append_right (by rw [R.ml]; exact Nat.le_refl _), R.ml, Nat.sub_self, hmd]; rfl
  obtain ⟨q, hq⟩ : ∃ q, lg[len]? = some q := ⟨lg[len], by simp [hlt]⟩
  obtain ⟨qa, qb, qc⟩ := R.rs.each len q hq
  refine ⟨R.rs.step hlt, by rw [List.length_append, R.ml]; rfl, fun l ps hp => ?_, fun l ps hp => ?_, fun j hj => ?_⟩
  · rw [rsPut_get hlt] at hp
    split at hp
    · have hp := Option.some.inj hp
      rw [hq] at hp
      have hp' : q ++ [k] = ps := hp
      subst hp'
      refine List.pairwise_append.mpr ⟨R.up len q hq, by simp, fun a ha b hb => ?_⟩
      rw [List.mem_singleton.mp hb, hee]
      rcases Nat.eq_zero_or_pos len with h0 | h0
      · rw [h0] at qa
        rw [List.length_eq_zero_iff.mp qa] at ha
        exact absurd ha List.not_mem_nil
      obtain ⟨x, hx⟩ : ∃ x, (las d row lg)[len - 1]? = some x := ⟨(las d row lg)[len - 1]'(by omega), by simp⟩
      obtain ⟨ps, p, a1, a2, a3, a4, a5, a6⟩ := R.las_get hx
      rw [show len - 1 + 1 = len by omega, hq] at a1
      have a1 := Option.some.inj a1
      subst a1
      have hx2 := of_decide_eq_true ((hfr _ x hx).mpr (by omega))
      have hal : f ((row[a]?).getD d) ((row[p]?).getD d) ≤ 0 := by
        obtain ⟨i, hi⟩ := List.getElem?_of_mem ha
        obtain ⟨hil, hie⟩ := List.getElem?_eq_some_iff.mp hi
        rw [List.getLast?_eq_getElem?] at a2
        obtain ⟨hjl, hje⟩ := List.getElem?_eq_some_iff.mp a2
        rcases Nat.lt_or_ge i (q.length - 1) with h | h
        · have := List.pairwise_iff_getElem.mp (R.up len q hq) i (q.length - 1) hil hjl h
          rw [hie, hje] at this
          omega
        · have : i = q.length - 1 := by omega
          subst this
          rw [hie] at hje
          rw [hje, O.rfl' _ (hD p)]; exact Int.le_refl _
      exact O.lt_trans (hD a) (hD p) he hal (by rw [← a3]; exact hx2)
    · exact R.up l ps hp
  · rw [rsPut_get hlt] at hp
    split at hp
    · rename_i hl
      have hp := Option.some.inj hp
      rw [hq] at hp
      have hp' : q ++ [k] = ps := hp
      subst hp'
      have hl' : l = len := by omega
      subst hl'
      refine ⟨k, by simp, by rw [gN]; exact Nat.le_refl _, fun j hj hm => ?_⟩
      rw [hee]
      rcases Nat.lt_or_ge j k with h | h
      · rw [gO j h] at hm
        have ht := R.top j h
        obtain ⟨x, hx⟩ : ∃ x, (las d row lg)[l]? = some x := ⟨(las d row lg)[l]'(by omega), by simp⟩
        obtain ⟨ps, p, a1, a2, a3, a4, a5, a6⟩ := R.las_get hx
        have nx : ¬ f x e < 0 := fun z => by
          have := (hfr l x hx).mp (decide_eq_true z)
          omega
        have dx : D x := by rw [a3]; exact hD p
        have an := O.anti x e dx he
        have an2 := O.anti e x he dx
        exact O.trans e x _ he dx (hD j) (by omega) (a6 j h hm)
      · have : j = k := by omega
        rw [this, hee, O.rfl' e he]; exact Int.le_refl _
    · rename_i hl
      obtain ⟨p, h1, h2, h3⟩ := R.low l ps hp
      have hpk : p < k := (R.rs.each _ ps hp).2.2 p (List.mem_of_getLast? h1)
      refine ⟨p, h1, by rw [gO p hpk]; exact h2, fun j hj hm => ?_⟩
      rcases Nat.lt_or_ge j k with h | h
      · rw [gO j h] at hm
        exact h3 j h hm
      · have hjk : j = k := by omega
        rw [hjk, gN] at hm
        rw [hjk, hee]
        have hlen : l < len := by omega
        have hx : (las d row lg)[l]? = some ((row[p]?).getD d) := by
          unfold las
          rw [List.getElem?_map, List.getElem?_tail, hp]
          show some ((row[ps.getLast?.getD 0]?).getD d) = some _
          rw [h1]; rfl
        have := of_decide_eq_true ((hfr l _ hx).mpr hlen)
        omega
  · rw [rsPut_len hlt]
    rcases Nat.lt_or_ge j k with h | h
    · rw [gO j h]; have := R.top j h; omega
    · have : j = k := by omega
      rw [this, gN]; omega
end
end YM

namespace YM
section
variable {α : Type} {F : List (α × α) → α → α → Int} {f : α → α → Int} {D : α → Prop}
/-! ### the pairs that stand the wrong way -/
def tpc (f : α → α → Int) (p : List α) : List α → Nat
  | [] => 0
  | e :: r => (p.filter fun x => decide (f x e > 0)).length + tpc f (p ++ [e]) r
theorem filt_two (l : List α) (p q : α → Bool) (h : ∀ x ∈ l, p x = !q x) : (l.filter p).length + (l.filter q).length = l.length := by
  induction l with
  | nil => rfl
  | cons a l ih =>
    have i := ih fun x hx => h x (List.mem_cons_of_mem _ hx)
    have ha := h a List.mem_cons_self
    rw [List.filter_cons, List.filter_cons, ha]
    cases q a <;> simp <;> omega
def tpu (f : α → α → Int) (d : α) (row : List α) : Nat → Nat
  | 0 => 0
  | k + 1 => tpu f d row k + ((List.range k).filter fun j => decide (f ((row[j]?).getD d) ((row[k]?).getD d) > 0)).length
theorem range_take {d : α} {row : List α} : ∀ {k : Nat}, k ≤ row.length → row.take k = (List.range k).map fun j => (row[j]?).getD d
  | 0, _ => rfl
  | k + 1, h => by
    rw [List.range_succ, List.map_append, ← range_take (d := d) (k := k) (by omega), List.take_add_one]
    rw [List.getElem?_eq_getElem (by omega : k < row.length)]
    simp [List.getElem?_eq_getElem (by omega : k < row.length)]
theorem mdOf_map {β : Type} {f : β → β → Int} {c : α → β} {d : α} {row : List α} {md : List Nat} {e : α} : mdOf f (c d) (row.map c) md (c e) = mdOf (fun x y => f (c x) (c y)) d row md e := by
  unfold mdOf
  congr 3
  refine List.filter_congr fun j _ => ?_
  rw [List.getElem?_map]
  cases row[j]? <;> rfl
end
end YM

namespace YM
section
variable {α : Type}
/-! ### heaps by any function -/
def gtD (d : α) (t : List α) (k : Nat) : α := (t[k]?).getD d
/-- two places change -/
def swp (d : α) (t : List α) (i j : Nat) : List α := (t.set i (gtD d t j)).set j (gtD d t i)
theorem swp_len {d : α} {t : List α} {i j : Nat} : (swp d t i j).length = t.length := by unfold swp; rw [List.length_set, List.length_set]
theorem gtD_set {d : α} {t : List α} {i k : Nat} {x : α} (h : i < t.length) : gtD d (t.set i x) k = if k = i then x else gtD d t k := by
  unfold gtD
  rw [List.getElem?_set]
  by_cases hk : i = k
  · rw [if_pos hk, if_pos h, if_pos hk.symm]; rfl
  · rw [if_neg hk, if_neg (Ne.symm hk)]
theorem swap_perm : ∀ {t : List α} {i j : Nat} (hi : i < t.length) (hj : j < t.length), ((t.set i t[j]).set j t[i]).Perm t := fun {t i j} hi hj => List.set_set_perm hi hj
theorem swp_perm {d : α} {t : List α} {i j : Nat} (hi : i < t.length) (hj : j < t.length) : (swp d t i j).Perm t := by
  have e1 : gtD d t j = t[j] := by unfold gtD; rw [List.getElem?_eq_getElem hj]; rfl
  have e2 : gtD d t i = t[i] := by unfold gtD; rw [List.getElem?_eq_getElem hi]; rfl
  unfold swp
  rw [e1, e2]
  exact swap_perm hi hj
section
variable (F : List (α × α) → α → α → Int) (d : α)
/-- a new one rises from the place k -/
def psh (new : α) : Nat → List (α × α) → List α → Nat → List α × List (α × α)
  | 0, L, t, k => (t.set k new, L)
  | n + 1, L, t, k =>
    if k = 0 then (t.set k new, L)
    else if F L new (gtD d t ((k - 1) / 2)) < 0 then psh new n (L ++ [(new, gtD d t ((k - 1) / 2))]) (t.set k (gtD d t ((k - 1) / 2))) ((k - 1) / 2)
    else (t.set k new, L ++ [(new, gtD d t ((k - 1) / 2))])
/-- the child that stands ahead -/
def chd (L : List (α × α)) (t : List α) (k : Nat) : Nat × List (α × α) :=
  if 2 * k + 2 < t.length then (if F L (gtD d t (2 * k + 2)) (gtD d t (2 * k + 1)) < 0 then 2 * k + 2 else 2 * k + 1, L ++ [(gtD d t (2 * k + 2), gtD d t (2 * k + 1))]) else (2 * k + 1, L)
def snk : Nat → List (α × α) → List α → Nat → List α × List (α × α)
  | 0, L, t, _ => (t, L)
  | n + 1, L, t, k =>
    if (chd F d L t k).1 < t.length then
      if F (chd F d L t k).2 (gtD d t (chd F d L t k).1) (gtD d t k) < 0 then snk n ((chd F d L t k).2 ++ [(gtD d t (chd F d L t k).1, gtD d t k)]) (swp d t k (chd F d L t k).1) (chd F d L t k).1
      else (t, (chd F d L t k).2 ++ [(gtD d t (chd F d L t k).1, gtD d t k)])
    else (t, (chd F d L t k).2)
/-- from the place m - 1 down to the first -/
def hpd : Nat → List (α × α) → List α → List α × List (α × α)
  | 0, L, t => (t, L)
  | m + 1, L, t => hpd m (snk F d (t.length + 1) L t m).2 (snk F d (t.length + 1) L t m).1
/-- from the place k on: whether none stands ahead of its parent -/
def ish (t : List α) : Nat → Nat → List (α × α) → Bool × List (α × α)
  | 0, _, L => (true, L)
  | n + 1, k, L => if F L (gtD d t k) (gtD d t ((k - 1) / 2)) < 0 then (false, L ++ [(gtD d t k, gtD d t ((k - 1) / 2))]) else ish t n (k + 1) (L ++ [(gtD d t k, gtD d t ((k - 1) / 2))])
end
variable {F : List (α × α) → α → α → Int} {d : α}
theorem chd_ge {L : List (α × α)} {t : List α} {k : Nat} : 2 * k + 1 ≤ (chd F d L t k).1 ∧ (chd F d L t k).1 ≤ 2 * k + 2 := by
  unfold chd
  split
  · dsimp only; split <;> omega
  · dsimp only; omega
theorem chd_any {L : List (α × α)} {t : List α} {k : Nat} : ∃ M, (chd F d L t k).2 = L ++ M ∧ M.length ≤ (if 2 * k + 1 < t.length then 1 else 0) := by
  unfold chd
  split
  · rename_i h
    exact ⟨_, rfl, by rw [if_pos (by omega)]; exact Nat.le_refl _⟩
  · exact ⟨[], by simp, Nat.zero_le _⟩
/-- how far down it goes -/
def hgt (m k : Nat) : Nat := if h : k + 1 ≤ m / 2 then 1 + hgt (m / 2) k else 0
termination_by m
decreasing_by omega
theorem hgt_eq (m k : Nat) : hgt m k = if k + 1 ≤ m / 2 then 1 + hgt (m / 2) k else 0 := by
  rw [hgt]; split <;> rfl
theorem hgt_left : ∀ (m k : Nat), hgt m (2 * k + 1) = hgt (m / 2) k := by
  intro m
  induction m using Nat.strongRecOn with
  | _ m ih =>
    intro k
    rw [hgt_eq m (2 * k + 1), hgt_eq (m / 2) k]
    by_cases h : k + 1 ≤ m / 2 / 2
    · rw [if_pos h, if_pos (by omega), ih (m / 2) (by omega)]
    · rw [if_neg h, if_neg (by omega)]
theorem hgt_anti : ∀ (m k : Nat), hgt m (k + 1) ≤ hgt m k := by
  intro m
  induction m using Nat.strongRecOn with
  | _ m ih =>
    intro k
    rw [hgt_eq m (k + 1), hgt_eq m k]
    by_cases h : k + 1 + 1 ≤ m / 2
    · rw [if_pos h, if_pos (by omega)]
      have := ih (m / 2) (by omega) k
      omega
    · rw [if_neg h]; exact Nat.zero_le _
theorem hgt_step {m k c : Nat} (h : 2 * k + 1 < m) (h1 : 2 * k + 1 ≤ c) (h2 : c ≤ 2 * k + 2) : hgt m c + 1 ≤ hgt m k := by
  have e : hgt m k = 1 + hgt m (2 * k + 1) := by rw [hgt_eq m k, if_pos (by omega), hgt_left]
  rcases Nat.lt_or_ge (2 * k + 1) c with z | z
  · have := hgt_anti m (2 * k + 1)
    rw [show c = 2 * k + 1 + 1 by omega]; omega
  · rw [show c = 2 * k + 1 by omega]; omega
def hsum (m : Nat) : Nat → Nat
  | 0 => 0
  | j + 1 => hgt m j + hsum m j
/-- the others, the last one in front -/
def pot (t : List α) : List α := (t.drop (t.length - 1) ++ t.drop 1).dropLast
theorem snk_any : ∀ (n : Nat) (L : List (α × α)) (t : List α) (k : Nat),
    (snk F d n L t k).1.Perm t ∧ ∃ M, (snk F d n L t k).2 = L ++ M ∧ M.length ≤ 2 * hgt t.length k
  | 0, L, t, k => ⟨List.Perm.refl _, [], by simp [snk], Nat.zero_le _⟩
  | n + 1, L, t, k => by
    rw [snk]
    have g := chd_ge (F := F) (d := d) (L := L) (t := t) (k := k)
    obtain ⟨M1, m1, m2⟩ := chd_any (F := F) (d := d) (L := L) (t := t) (k := k)
    generalize chd F d L t k = c at g m1
    split
    · rename_i hc
      rw [if_pos (by omega)] at m2
      have hs := hgt_step (m := t.length) (k := k) (c := c.1) (by omega) g.1 g.2
      split
      · obtain ⟨i1, M2, i2, i3⟩ := snk_any n (c.2 ++ [(gtD d t c.1, gtD d t k)]) (swp d t k c.1) c.1
        rw [swp_len] at i3
        refine ⟨i1.trans (swp_perm (by omega) hc), M1 ++ [(gtD d t c.1, gtD d t k)] ++ M2, by rw [i2, m1]; simp, by rw [List.length_append, List.length_append, List.length_singleton]; omega⟩
      · exact ⟨List.Perm.refl _, M1 ++ [(gtD d t c.1, gtD d t k)], by rw [m1]; simp, by rw [List.length_append, List.length_singleton]; omega⟩
    · rename_i hc
      refine ⟨List.Perm.refl _, M1, m1, ?_⟩
      split at m2
      · rename_i h
        have hs := hgt_step (m := t.length) (k := k) (c := 2 * k + 1) h (Nat.le_refl _) (by omega)
        omega
      · omega
end
end YM

namespace YM
section
variable {α β : Type}
/-! ### maps: where a key lies, and whether it is like the one there -/
def rkM (F : List (α × α) → α → α → Int) (L : List (α × α)) (ks : List α) (key : α) : Nat × List (α × α) := bis F (fun i => decide (i < 0)) ks key L 0 ks.length
def fnd (F : List (α × α) → α → α → Int) (L : List (α × α)) (ks : List α) (key : α) : Bool × List (α × α) :=
  match ks[(rkM F L ks key).1]? with
  | some k => (decide (F (rkM F L ks key).2 k key = 0), (rkM F L ks key).2 ++ [(k, key)])
  | none => (false, (rkM F L ks key).2)
/-- put, drop: what is kept -/
def ptM (pl : Nat) (found : Bool) (ens : List (α × α)) (key held : α) (dk : α) : List (α × α) := if found = true then ens.set pl (((ens[pl]?).map (·.1)).getD dk, held) else ens.take pl ++ (key, held) :: ens.drop pl
def dpM (pl : Nat) (found : Bool) (ens : List (α × α)) : List (α × α) := if found = true then ens.eraseIdx pl else ens
end
end YM

namespace YO
open PySem PySem.Spec PyProof.Rows L2
/-! ### a function that is handed in, as one letter -/
structure OE where
  M : Addr → Prop
  S : Addr → Prop
  Lg : Lg0
  Dom : Hp → V → Prop
  F : List (V × V) → V → V → Int
  cap : Nat
abbrev OE.At (o : OE) (P : Program) (w : World) (K : PySem.W.Frag) (mg : Str → Option Value) (base : Heap) (k : Nat) (f : Addr) : Prop := Ora P w K mg base k f o.M o.S o.Lg o.Dom o.F o.cap
theorem Evo.same2 {M : Addr → Prop} {H H1 H2 : Hp} (e : Evo M H H1) (s : Same H1 H2) : Evo M H H2 := e.trans (Same.evo s)
theorem get_lt {α : Type} {l : List α} {i : Nat} (h : i < l.length) : ∃ x, l[i]? = some x := ⟨l[i], by simp [h]⟩
end YO

namespace L2
open PySem PySem.Spec PyProof.Rows
/-- one statement, then the rest, by what holds between them -/
theorem seq_via {t u : TS} {D : Ends} {σ : St} {H : Hp} (I : St → Hp → Prop) (h1 : ∀ N : St → Hp → Prop, (∀ σ H, I σ H → N σ H) → t { D with nx := N } σ H) (h2 : ∀ σ H, I σ H → u D σ H) : tSeq t u D σ H := h1 _ h2
/-- a call with known cells, by what it is worth -/
def tCallG (X : Cx) (sp : Sp) (t : TA) : TE := fun σ H Q => t σ H fun vs H1 => ∃ R : V → Hp → Prop, (∀ Hf, Froz X σ H1 Hf → sp vs Hf (fun v Hf' => R v (hid Hf' (CellOf X.env.cells))) E0) ∧ ∀ v H', R v H' → Q v H'
section
variable {X : Cx} {k : Nat} {f : Addr} {fd : FuncData} {ps : List Str} {sp : Sp} {x : Str} {p pos : Pos} {e : Expr} {es : List Expr} {t : TA}
theorem pe_callG (F : FnOk X.prog X.w X.K X.mg X.base CX0 k f fd ps sp) (hr : Room k X.A) (hg : Gl X x) (hm : X.mg x = some (.ref f)) (hk : PySem.W.keepIn X.K (.ref f) = true) (hb : Binds X.K fd ps []) (ha : PA X (e :: es) t)
    (hfn : ∀ x, X.fn x = true := by intro _; rfl) (hdb : (x == ("__debug__" : Str)) = false := by decide) (he : starEach (e :: es) X.env = (false, eval e X.env) :: starEach es X.env := by rfl) (hpl : (backTo pos (starEach es X.env)).any (·.1) = false := by rfl) :
    PE X (.Call (.Name x p) (e :: es) [] pos) (tCallG X sp t) := by
  intro pins s σ H Q I h
  refine wpAny_Call_Name_kw (ld_glob I hg hm ?_ hdb)
  refine PySem.W.callWith_K (h₀ := X.base) I.ok.mod.kin hk (thn (ha pos pins s σ H _ I h) fun us s1 ⟨vs, H1, I1, r, q⟩ => ⟨I1.kIn, ?_⟩) he hpl
  obtain ⟨R, q1, q2⟩ := q
  exact thn (run_fnF F hr hb hfn I1 r q1) fun u s2 ⟨v, H', I2, r2, z⟩ => ⟨v, H', I2, r2, q2 v H' z⟩
end
end L2
namespace YO
open PySem PySem.Spec PyProof.Rows L2
theorem use_call {X : Cx} {σ : L2.St} {H1 : Hp} {sp : Sp} {vs : List V} {Q : VK} {facts : V → Hp → Prop} (h : ∃ R : V → Hp → Prop, (∀ Hf, Froz X σ H1 Hf → sp vs Hf (fun v Hf' => R v (hid Hf' (CellOf X.env.cells))) E0) ∧ ∀ v H', R v H' → facts v H') (k : ∀ v H', facts v H' → Q v H') :
    ∃ R : V → Hp → Prop, (∀ Hf, Froz X σ H1 Hf → sp vs Hf (fun v Hf' => R v (hid Hf' (CellOf X.env.cells))) E0) ∧ ∀ v H', R v H' → Q v H' := by
  obtain ⟨R, h1, h2⟩ := h
  exact ⟨R, h1, fun v H' r => k v H' (h2 v H' r)⟩
theorem El.of_ct {H : Hp} {x : V} {e : Int × Int} (h : El H x e) : El H x (YO.ct H x) := by rw [h.ct]; exact h
/-- the pictures of a log -/
abbrev dP (c : V → Int × Int) (p : V × V) : Dd := .tup [dE (c p.1), dE (c p.2)]
/-! ### behind a call with known cells -/
end YO

namespace L2
open PySem PySem.Spec PyProof.Rows
/-! ### range(a, b, c) -/
def Its (lo c : Int) (n : Nat) : It := ⟨fun i _ => i < n, fun i H x H' => H' = H ∧ x = .int (lo + (i : Nat) * c), fun i _ => n ≤ i⟩
section
variable {X : Cx} {tg : Expr}
def iRng3 (ta : TA) : TI := fun σ H R => ta σ H fun vs H1 => ∃ (i j c : Int) (n : Nat), vs = [.int i, .int j, .int c] ∧ c ≠ 0 ∧ c.natAbs < 2 ^ 20 ∧ Builtin.Range.small i j c = true ∧ Builtin.Range.rangeSize i j c = (n : Int) ∧ R (Its i c n) H1
end
/-! ### isinstance(x, c), c a type -/
end L2

namespace L2
open PySem PySem.Spec PyProof.Rows
theorem iteDT {c A B : Prop} [Decidable c] (h : c) (a : A) : if decide c = true then A else B := by rw [decide_eq_true h]; exact iteT a
theorem iteDF {c A B : Prop} [Decidable c] (h : ¬ c) (b : B) : if decide c = true then A else B := by rw [decide_eq_false h]; exact iteF b
/-! ### list.remove, list.count, by deep equality; list.insert -/
section
open AutoSeq1 (wpAny_loadPart')
open MeetsSeq SeqAt
end
section
variable {X : Cx}
/-- l.remove(x): the first one that is equal -/
def rRemD (K : PySem.W.Frag) : V → List V → Hp → VK → Prop := fun x vs H Q => ∃ l xs y d ds j, x = .ref l ∧ vs = [y] ∧ H l = some (.lst xs) ∧ Dp K H d y ∧ DpL K H ds xs ∧ depDL ds ≤ 100 ∧ ds[j]? = some d ∧ (∀ i, i < j → ds[i]? ≠ some d) ∧ Q .non (upd H l (.lst (xs.eraseIdx j)))
open Classical in
def rCountD (K : PySem.W.Frag) : V → List V → Hp → VK → Prop := fun x vs H Q => ∃ l xs y d ds, x = .ref l ∧ vs = [y] ∧ H l = some (.lst xs) ∧ Dp K H d y ∧ DpL K H ds xs ∧ depDL ds ≤ 100 ∧ Q (.int ((ds.countP fun e => eqD e d) : Nat)) H
open Classical in
open Classical in
def rInsert : V → List V → Hp → VK → Prop := fun x vs H Q => ∃ (l : Addr) (xs : List V) (i : Nat) (y : V), x = .ref l ∧ vs = [.int i, y] ∧ H l = some (.lst xs) ∧ i ≤ xs.length ∧ xs.length < sizeLine ∧ Q .non (upd H l (.lst (xs.take i ++ y :: xs.drop i)))
end
end L2

namespace L2
open PySem PySem.Spec PyProof.Rows
/-! ### for (i, x) in enumerate(list) -/
section
variable {X : Cx} {pins : List (Addr × Obj)} {σ : St} {H : Hp} {s : Shared} {h' : Heap}
end
/-- place and item of the list at a -/
def Ite (K : PySem.W.Frag) (a : Addr) : It :=
  ⟨fun i H => ∃ xs x, SqL K H a xs ∧ xs[i]? = some x, fun i H x H' => ∃ p y, x = .ref p ∧ H p = none ∧ H' = upd H p (.tup [.int (i : Nat), y]) ∧ ∀ xs, SqL K H a xs → xs[i]? = some y, fun i H => ∃ xs, SqL K H a xs ∧ xs.length ≤ i⟩
section
variable {X : Cx} {elts : List Expr} {k1 : Nat} {tp : Pos}
def iEnum (K : PySem.W.Frag) (ta : TA) : TI := fun σ H R => ta σ H fun vs H1 => ∃ a, vs = [.ref a] ∧ (∃ xs, SqL K H1 a xs) ∧ R (Ite K a) H1
end
end L2

namespace L2
open PySem PySem.Spec PyProof.Rows
/-! ### max(list of counts, default=0) -/
def mxk (val : Nat → Nat) : Nat → Nat
  | 0 => 0
  | j + 1 => max (mxk val j) (val j)
section
variable {prog : Program} {w : World} {A : Around} {I : Addr} {fp wr : List Addr} {n : Nat} {Pv : Nat → Value → Prop} {St : Nat → Heap → Prop}
/-- what the record of the best one holds behind j items -/
def MxAt (val : Nat → Nat) (S j : Nat) (h : Heap) : Prop := ∃ its c, h.get? S = some { cls := .type "list", dict := none, data := .seq its c, slots := #[] } ∧ ((j = 0 ∧ its = #[]) ∨ (0 < j ∧ ∃ t, its = #[.int (mxk val j : Nat) t, .int (mxk val j : Nat) t]))
end
section
variable {X : Cx} {a d : Expr} {ta : TA} {td : TE} {p kp pos : Pos}
def tMaxd (K : PySem.W.Frag) (ta : TA) (td : TE) : TE := fun σ H Q => ta σ H fun vs H1 => td σ H1 fun y H2 => ∃ (l : Addr) (ns : List Nat), vs = [.ref l] ∧ y = .int 0 ∧ SqL K H2 l (ns.map fun n => V.int (n : Nat)) ∧ Q (.int (YM.mxl ns : Nat)) H2
end
end L2

namespace L2
open PySem PySem.Spec PyProof.Rows
/-! ### a method's call with the cells known -/
def tMethG (X : Cx) (C : Addr) (m : Str) (sp : Sp) (ta : TE) (t : TA) : TE := fun σ H Q => ta σ H fun x H1 => ∃ a dx fs, x = .ref a ∧ H1 a = some (.ins C dx fs) ∧ fs.lookup m = none ∧
  t σ H1 fun vs H2 => ∃ R : V → Hp → Prop, (∀ Hf, Froz X σ H2 Hf → sp (x :: vs) Hf (fun v Hf' => R v (hid Hf' (CellOf X.env.cells))) E0) ∧ ∀ v H', R v H' → Q v H'
section
variable {X : Cx} {k : Nat} {C f : Addr} {fd : FuncData} {ps : List Str} {sp : Sp} {m : Str} {p pos apos : Pos} {o e : Expr} {es : List Expr} {ta : TE} {t : TA}
end
end L2

namespace L2
open PySem PySem.Spec PyProof.Rows
/-! ### exceptions of the text's own classes -/
/-- behind a call that raised: the exception flies over all but the frames -/
def CXE (P : Program) (w : World) : CXT := fun outer H s E e s' => ∃ (x C t : Addr) (B : Heap) (H' : Hp), e = .ref x ∧ s'.os = s.os ∧ AllBare s'.gens ∧ Heap.FlyingW B outer x (.ref C) (.ref t) s'.heap ∧
  (∀ h4 : Heap, B.StaysIn h4 → s'.heap.UpToSlots h4 → Un (frs outer) [] H H' s.heap h4 ∧ HOk P w H' h4) ∧ E e (some C) H'
/-- an exception that is made here goes where E says -/
def RaisesTo (X : Cx) (E : XK) : Prop := ∀ (pins : List (Addr × Obj)) (σ : St) (H : Hp) (s1 : Shared) (h' : Heap) (x C : Addr) (vs : List Value), Inv X pins σ H s1 → Heap.MadeExcOf s1.heap h' x (.ref C) vs → E (.ref x) (some C) H → X.xe (.ref x) { s1 with heap := h' }
theorem raises_cxOf {P : Program} {w : World} {K : PySem.W.Frag} {mg : Str → Option Value} {base : Heap} {N : List Str} {qual : Str} {scope : Scope} {f : Addr} {cd : Value} {A : Around} {outer : List Env} {s : Shared} {H : Hp} {E : XK} :
    RaisesTo (cxOf (CXE P w) P w K mg base N qual scope f cd A outer s H E) E := by
  intro pins σ H1 s1 h' x C vs I hx hE
  show wpAny (model P w) (A.deeper (envOfC qual scope s.heap.objs.size f cd)) (leaving (envOfC qual scope s.heap.objs.size f cd) (.ref x)) (fun _ s'' => CXE P w outer H s E (.ref x) s'') (fun e' s'' => CXE P w outer H s E e' s'') _
  have hl := I.stack
  have hin : ∀ env ∈ (envOfC qual scope s.heap.objs.size f cd :: outer), ∀ b, env.frame = some b → b ∈ frs (envOfC qual scope s.heap.objs.size f cd :: outer) := fun env he b hb => List.mem_filterMap.mpr ⟨env, he, hb⟩
  have sub := I.stkSub
  have hfree := I.stkFree
  generalize hfrs : frs (envOfC qual scope s.heap.objs.size f cd :: outer) = fr at hin
  have hkb : (PySem.W.hideAll s1.heap fr).StaysIn s1.heap := fun b o q => PySem.W.of_hideAll _ q
  have frD : ∀ b ∈ fr, ∃ o, s1.heap.get? b = some o ∧ ∀ vs, o.data ≠ .fields vs := fun b hb => by
    obtain ⟨_, o, h1, h2⟩ := hl.mem (b := b) (by rw [← hfrs] at hb; exact hb)
    exact ⟨o, h1, h2⟩
  refine wpAny_leaves_madeW (base := PySem.W.hideAll s1.heap fr) I.ok.frames rfl hkb (PySem.W.funFrames_hide hl hin) hx fun h2 t x1 _ _ x4 => ?_
  have up : s1.heap.UpToSlots h2 := (Heap.UpToSlots.of_keeps hx.keeps).trans x4
  refine ⟨x, C, t, PySem.W.hideAll s1.heap fr, H1, rfl, I.os, I.bare, x1, fun h4 st sm => ?_, hE⟩
  have up4 := up.trans sm
  have getB : ∀ b o, s1.heap.get? b = some o → b ∉ fr → h4.get? b = some o := fun b o e n => st b o (PySem.W.hideAll_get _ e n)
  have old : ∀ b o, s.heap.get? b = some o → b ∉ frs outer → b ∉ fr := fun b o e n z => by
    rw [← hfrs] at z
    rcases List.mem_cons.mp (sub b z) with y | y
    · have h1 := Heap.lt_size e
      have h2 : s.heap.objs.size ≤ b := by rw [y]; exact I.ok.above
      exact absurd (Nat.lt_of_lt_of_le h1 h2) (Nat.lt_irrefl _)
    · exact n y
  have nx : ∀ b : Addr, b ∉ (cxOf (CXE P w) P w K mg base N qual scope f cd A outer s H E).ex := fun b z => absurd (show b ∈ ([] : List Addr) from z) (by simp)
  refine ⟨⟨fun b o e n hb _ => getB b o (I.base.keep b o e n hb (nx b)) (old b o e hb), fun b o e n hb _ => ?_, fun b o e n _ => I.base.free b o e n (nx b), fun b o e _ => ?_, I.base.tups, I.base.frzs, I.base.tbls⟩, fun a u e => ?_⟩
  · obtain ⟨sl, e1⟩ := I.base.slot b o e n hb (nx b)
    have hm : b ∈ fr := by
      rw [← hfrs]
      unfold frs at hb ⊢
      rw [List.filterMap_cons]
      split
      · exact hb
      · exact List.mem_cons_of_mem _ hb
    obtain ⟨o', h1, h2⟩ := frD b hm
    rw [e1] at h1
    cases h1
    obtain ⟨sl', e2⟩ := up4 b _ e1 h2
    exact ⟨sl', e2⟩
  · obtain ⟨o', e1⟩ := I.base.there b o e (nx b)
    by_cases hm : b ∈ fr
    · obtain ⟨o2, h1, h2⟩ := frD b hm
      obtain ⟨sl', e2⟩ := up4 b _ h1 h2
      exact ⟨_, e2⟩
    · exact ⟨o', getB b o' e1 hm⟩
  · refine (I.hok a u e).stay (fun b v hb q => getB b v q fun hm => ?_) (fun _ q => q) fun _ _ q => q
    have hn : H1 b = none := hfree b (by show b ∈ frs (envOfC qual scope s.heap.objs.size f cd :: outer); rw [hfrs]; exact hm)
    rcases hb with rfl | hb
    · rw [hn] at e; cases e
    · rw [hn] at hb; cases hb
/-- raise C(..) -/
def tRaise (E : XK) (C : Addr) (t : TA) : TS := fun _ σ H => t σ H fun vs H1 => vs.length ≤ sizeLine ∧ ∀ x, E (.ref x) (some C) H1
section
variable {X : Cx} {E : XK} {n : Str} {C : Addr} {bm : List Value} {newId initId B : String} {np cpos pos hpos : Pos} {e : Expr} {es : List Expr} {t : TA}
end
/-! ### try .. except -/
abbrev Cx.tryC (X : Cx) (W : Value → Shared → Prop) (pn : List (Addr × Obj)) : Cx := { X with xe := W, pn := pn }
abbrev Cx.within (X : Cx) (x : Addr) : Cx := { X with A := X.A.mark (some (.ref x)), calm := false }
section
variable {X : Cx} {pins pins' : List (Addr × Obj)} {σ : St} {H : Hp} {s : Shared} {W : Value → Shared → Prop} {x : Addr}
theorem Inv.tryC (I : Inv X pins σ H s) : Inv (X.tryC W (X.pn ++ pins)) [] σ H s :=
  ⟨⟨I.ok.mod, I.ok.kind, I.ok.glob, I.ok.blt, I.ok.above, I.ok.inj, I.ok.has, I.ok.cab, I.ok.hd, I.ok.frames, I.ok.stk, I.ok.exf, I.ok.bs, I.ok.bsz, I.ok.noex, I.ok.exfs, I.ok.funs, I.ok.frf⟩, I.os, I.bare, I.base, I.loc, I.cell, I.free, I.freeC, fun p hp => I.pin p (by
    have hp : p ∈ (X.pn ++ pins) ++ [] := hp
    rw [List.append_nil] at hp
    exact hp), I.hok, I.len⟩
theorem Inv.untry (I : Inv (X.tryC W (X.pn ++ pins)) pins' σ H s) : Inv X pins σ H s :=
  ⟨⟨I.ok.mod, I.ok.kind, I.ok.glob, I.ok.blt, I.ok.above, I.ok.inj, I.ok.has, I.ok.cab, I.ok.hd, I.ok.frames, I.ok.stk, I.ok.exf, I.ok.bs, I.ok.bsz, I.ok.noex, I.ok.exfs, I.ok.funs, I.ok.frf⟩, I.os, I.bare, I.base, I.loc, I.cell, I.free, I.freeC, fun p hp => I.pin p (List.mem_append_left _ hp), I.hok, I.len⟩
theorem Inv.within (I : Inv X pins σ H s) (x : Addr) : Inv (X.within x) pins σ H s :=
  ⟨⟨I.ok.mod, I.ok.kind, I.ok.glob, I.ok.blt, I.ok.above, I.ok.inj, I.ok.has, I.ok.cab, fun z => absurd z Bool.false_ne_true, I.ok.frames, I.ok.stk, I.ok.exf, I.ok.bs, I.ok.bsz, I.ok.noex, I.ok.exfs, I.ok.funs, I.ok.frf⟩, I.os, I.bare, I.base, I.loc, I.cell, I.free, I.freeC, I.pin, I.hok, I.len⟩
theorem SP.untry {D : Ends} {f : Flow} {s' : Shared} (h : SP (X.tryC W (X.pn ++ pins)) pins' D f s') : SP X pins D f s' := by
  cases f with
  | next => obtain ⟨σ', H', I, q⟩ := h; exact ⟨σ', H', I.untry, q⟩
  | brk => obtain ⟨σ', H', I, q⟩ := h; exact ⟨σ', H', I.untry, q⟩
  | cont => obtain ⟨σ', H', I, q⟩ := h; exact ⟨σ', H', I.untry, q⟩
  | ret u => obtain ⟨v, σ', H', I, r, q⟩ := h; exact ⟨v, σ', H', I.untry, r, q⟩
end
/-- try: body; except C: suite -/
def tTry (E : XK) (C : Addr) (tb ts : TS) : TS := fun D σ H => tb D σ H ∧ ∀ x c H' σ', E (.ref x) c H' → c = some C ∧ ts D σ' H'
section
variable {X : Cx} {E : XK} {n : Str} {C L : Addr} {bm : List Value} {newId : String} {np pos hpos : Pos} {body suite : List Stmt} {b₀ : Stmt} {tb ts : TS}
end
/-! ### a def that may raise -/
theorem Fun.okX {P : Program} {w : World} {K : PySem.W.Frag} {mg : Str → Option Value} {base : Heap} {x qual : Str} {st : Stmt} {f : Addr} {fd : FuncData} {N ps : List Str} {k : Nat} {sp : Sp} (F : Fun K x qual st f fd) (S : FnScope N ps (defScope st)) (len : ∀ vs H Q E, sp vs H Q E → vs.length = ps.length)
    (hbody : ∀ (cdv : Value) (A : Around) (outer : List Env) (s : Shared) (H : Hp) (vs : List V) (Q : VK) (E : XK), Room k (A.deeper (envOfC qual (defScope st) s.heap.objs.size f cdv)) → sp vs H Q E →
      ∃ t, PSs (cxOf (CXE P w) P w K mg base N qual (defScope st) f cdv A outer s H E) (defBody st) t ∧ t { nx := fun _ H' => Q .non H', rt := Q } (start N vs) H) : FnOk P w K mg base (CXE P w) (k + 1) f fd ps sp := by
  obtain ⟨oc, od, kV, doc, pm, an, cdv, ct, osl, rfl, lk, hcd⟩ := F.ex
  exact fn_of lk hcd S len fun A outer s H vs Q E hr hsp => hbody cdv A outer s H vs Q E hr hsp
/-! ### own exception classes, over the base -/
theorem ns_keptC {h base : Heap} (k : KeptC h base) {a : Addr} {m : Str → Option Value} (x : h.Ns a m) : base.Ns a m := by
  obtain ⟨o, es, ep, e, d, r⟩ := x
  exact ⟨o, es, ep, k a o e (.inr ⟨es, ep, d⟩), d, r⟩
theorem tail_keptC {h base : Heap} (k : KeptC h base) {bmB tl : List Value} (T : OwnTail h bmB tl) : OwnTail base bmB tl := by
  induction T with
  | base => exact .base
  | own hA hN hi _ ih => exact .own (k _ _ hA (.inl ⟨_, rfl⟩)) (ns_keptC k hN) hi ih
theorem own_keptC {h base : Heap} (k : KeptC h base) {x : Str} {C : Addr} {bm : List Value} {newId : String} {mg : Str → Option Value} (O : OwnCls x C bm newId mg h) : OwnCls x C bm newId mg base :=
  let ⟨bm', N, nm, q, bs, hdct, sn, sub, ab, col, dd, k0, k1, k2, k3, k5, mN, hC, hN, hni, T⟩ := O.obj
  ⟨O.bound, bm', N, nm, q, bs, hdct, sn, sub, ab, col, dd, k0, k1, k2, k3, k5, mN, k _ _ hC (.inl ⟨_, rfl⟩), ns_keptC k hN, hni, tail_keptC k T⟩
/-- the walk, with the classes kept -/
theorem walk_ofZ {l : PySem.W.OpenLaw} {n k : Nat} {q : Program} {loose : List Str} {XP : (Str → Option Value) → Heap → Prop} {YP : World → Heap → Prop} {d : DefRec} {K : Params → PySem.W.Frag} {x : Str}
    (hn : l.most = some n) (hn2 : n ≤ sizeLine) (hdf : d.params.defaults = []) (hr : Room k callerA)
    (hY : ∀ (w : World) (h : Heap), YP w h → (K w.params).In h) (hKt : ∀ w : World, PySem.W.noTabs (K w.params) = true)
    (F : ∀ (w : World) (mean : ExcName → Option Value) (mg mb : Str → Option Value) (fa : Addr) (h : Heap), YP w h → Top q (PySem.W.looseW q loose) mean mg mb h → (K w.params).In h → mg d.name = some (.ref fa) →
      ∃ (fd : FuncData) (tabs : List (Addr × Addr)) (sp : Sp), PySem.W.TabsAt tabs h ∧ (∀ (s : Shared) (u : Value), BindsTo s fd ⟨[u], []⟩ [(x, u)]) ∧
        (∀ base : Heap, (K w.params).In base → base.Ns mainGlobals mg → BMain mg base → (∀ q ∈ tabs, PySem.W.CodeHd base q.1 q.2) → KeptC h base → FnOk l.prog w (K w.params) mg base CX0 k fa fd [x] sp) ∧
        ∀ (H : Hp) (a : Addr) (ns : List Int), ns.length ≤ n → (∀ q ∈ tabs, H q.2 = some (.tbl #[])) → SqF (K w.params) H a (ns.map V.int) → sp [.ref a] H (fun v _ => v = .bl true) E0) :
    PySem.W.WalkO q loose XP YP l.row.toRowW d [] (fun f vs => PySem.call f vs) := by
  refine Att.attach_call hn hdf fun w s₀ s₁ mg mb fa o pm cd doc a vs ns G Y ho hd hcd hmg hobj hints hlen hg => ?_
  have KX := hY w _ Y
  obtain ⟨fd, tabs, sp, hT, hb, hF, hsp⟩ := F w _ mg mb fa _ Y G.T KX hmg
  exact law_callT KX G.T.g G.T.b G.T.builtins G.T.nolimit hg hobj hints (Nat.le_trans hlen hn2) hr hT (hKt w) G.T.bmain hF hb fun H hO hS => hsp H a ns hlen hO hS
end L2

namespace L2
open PySem PySem.Spec PyProof.Rows
section
variable {X : Cx}
/-- == and != of two of one kind: plain, or deep -/
def rEqU (K : PySem.W.Frag) : R2 := fun x y H Q => rEq x y H Q ∨ rEqD K x y H Q
def rNeU (K : PySem.W.Frag) : R2 := fun x y H Q => rNe x y H Q ∨ rNeD K x y H Q
/-- a text with an int at its end -/
def tFInt (x : Str) (te : TE) : TE := fun σ H Q => te σ H fun v H1 => ∃ i : Int, v = .int i ∧ i.natAbs.log2 < 1920 ∧ ((Str.empty ++ x) ++ (toString i : Str)).length ≤ sizeLine ∧ ∀ y, Q (.str y) H1
end
section
variable {X : Cx} {K : PySem.W.Frag} {T : String} {name : Str} {id : String} {r : V → List V → Hp → VK → Prop} {o e : Expr} {es : List Expr} {apos cpos : Pos} {to : TE} {t : TA}
end
end L2

namespace L2
open PySem PySem.Spec PyProof.Rows PySem.Calls
/-! ### exceptions of the text's own classes, as objects -/
structure XCls (K : PySem.W.Frag) (C : Addr) : Prop where
  cls : (PySem.W.clsIn K C).isSome = true
  ga : PySem.W.findIn K (.ref C) "__getattribute__" = some (some (.builtin "BaseException.__getattribute__"))
  hk : PySem.W.findIn K (.ref C) "__getattr__" = some none
  fc : PySem.W.findIn K (.ref C) "__class__" = some (some (.builtin "object.__class__"))
  fg : PySem.W.specialIn K (.builtin "object.__class__") "__get__" = some (some (.builtin "getset_descriptor.__get__"))
  ft : PySem.W.takesIn K (.builtin "object.__class__") = some true
  mo : PySem.W.mroIn K C (.type "object") = some true
  mb : PySem.W.mroIn K C (.type "BaseException") = some true
  st : PySem.W.findIn K (.ref C) "__str__" = some (some (.builtin "BaseException.__str__"))
/-- an object of this class -/
def ExAt (h : Heap) (x C : Addr) : Prop := ∃ o, h.get? x = some o ∧ o.cls = .ref C
theorem ExAt.type {M : Model} {h : Heap} {x C : Addr} (e : ExAt h x C) : PySem.W.Looks M h (typeOf (.ref x)) (.ref C) := by
  obtain ⟨o, h1, h2⟩ := e
  exact h2 ▸ (PySem.W.Looks.ld h1).andThen .now
section
variable {prog : Program} {w : World} {A : Around} {E : Value → Shared → Prop} {s : Shared} {K : PySem.W.Frag} {x C : Addr} {ox : Obj}
open PySem.W in
theorem exc_ga_check {nameV : Value} {Q : Unit → Shared → Prop} (X : K.In s.heap) (Z : XCls K C) (I : ExAt s.heap x C) (hq : Q () s) :
    wpAny (model prog w) A (checkBuiltinCall "BaseException.__getattribute__" ⟨[.ref x, nameV], []⟩) Q E s := by
  have kd : builtinKind "BaseException.__getattribute__" = some .slot := by decide +kernel
  have hsp : splitId "BaseException.__getattribute__" = some ("BaseException", "__getattribute__") := by decide +kernel
  have ha := F.args_bexc_ga (.ref x) nameV
  have ty0 := I.type (M := model prog w)
  have L1 := looks_mroIn (M := model prog w) X Z.mb
  obtain ⟨hh, g, d, t, os⟩ := s
  simp only [checkBuiltinCall, kd, hsp]
  refine wpAny_bind ?_
  unfold isInstance
  refine wpAny_bind (ty0.at (L1.at ?_))
  repeat (first | wp_step)
  exact hq
open PySem.W Builtin Builtin.ObjectAttr Builtin.Getset_descriptor in
theorem exc_class_get {R : Result → Shared → Prop} {tp : Value} (X : K.In s.heap) (Z : XCls K C) (I : ExAt s.heap x C) (h : R (.ok (.ret (.ref C))) s) :
    codeAny (model prog w) A (.call (.builtin "getset_descriptor.__get__") ⟨[.builtin "object.__class__", .ref x, tp], []⟩) R s := by
  have ty0 := I.type (M := model prog w)
  have L1 := looks_mroIn (M := model prog w) X Z.mo
  obtain ⟨hh, g, d, t, os⟩ := s
  refine codeAny_call_builtin KF.slot_gs.plain KF.entry_gs ?_
  refine KF.slot_gs.check _ _ _ _ _ _ _ _ KF.type_class (KF.args_gs _ _ _) ?_
  unfold Builtin.«getset_descriptor.__get__»
  unfold descrGet
  rw [dga_obj]
  refine wpAny_bind (wpAny_pure ?_)
  unfold descrGetter descrCheckInstance
  unfold descrNameAndClass isInstance
  simp only [KF.owner_class]
  repeat lk
  refine ⟨Code.quiet_builtin _ (by decide +kernel), ?_⟩
  refine codeAny_builtin KF.entry_class ?_
  unfold Builtin.«object.__class__»
  unfold shownTypeOf
  repeat lk
  exact h
open PySem.W in
theorem exc_find {M : Model} (X : K.In s.heap) (Z : XCls K C) : Looks M s.heap (Builtin.ObjectAttr.find (.ref x) (.ref C) (Str.ofString "__class__")) (.bind (.builtin "getset_descriptor.__get__") (.builtin "object.__class__")) := by
  have L1 := looks_findIn (M := M) X Z.fc
  have L2 := looks_specialIn (M := M) X Z.fg
  have L3 := looks_takesIn (M := M) X Z.ft
  unfold Builtin.ObjectAttr.find
  refine L1.andThen ?_
  have L2' : Looks M s.heap (Builtin.ObjectAttr.getOf (some (.builtin "object.__class__"))) (some (.builtin "getset_descriptor.__get__")) := L2
  refine L2'.andThen ?_
  have L4 : Looks M s.heap (Builtin.ObjectAttr.dataDescriptor? (some (.builtin "object.__class__")) (some (.builtin "getset_descriptor.__get__"))) (some (.builtin "getset_descriptor.__get__", .builtin "object.__class__")) := L3.andThen .now
  exact L4.andThen (Looks.tag .now)
open PySem.W in
theorem exc_class {Q : Option Value → Shared → Prop} (X : K.In s.heap) (Z : XCls K C) (I : ExAt s.heap x C) (h : Q (some (.ref C)) { s with toks := s.toks + 1 }) :
    wpAny (model prog w) A (getAttr? (.ref x) "__class__") Q E s := by
  have ty0 := I.type (M := model prog w)
  have L1 := looks_findIn (M := model prog w) X Z.ga
  have L2 := looks_findIn (M := model prog w) X Z.hk
  have L3 := exc_find (M := model prog w) (x := x) X Z
  obtain ⟨hh, g, d, t, os⟩ := s
  have f3 := F.attr_ValueError.ga.bind (.ref x)
  unfold getAttr? getAttrBy?
  unfold getAttrBy
  refine wpAny_bind (wpAny_mkText (wpAny_bind ?_))
  refine wpAny_attempt (wpAny_holding (wpAny_bind (ty0.at (wpAny_bind (L1.at ?_)))))
  show wpAny _ _ (getAttrByItsOwn _ _ _ _ _ _) _ _ _
  unfold getAttrByItsOwn hookBefore
  unfold callGetattribute boundAndCalled
  refine wpAny_bind (L2.at ?_)
  refine wpAny_bind ?_
  refine wpAny_attempt (wpAny_holding ?_)
  show wpAny _ _ (bindSpecial _ _ >>= _) _ _ _
  refine wpAny_bind (wpAny_of_eq f3 ?_)
  refine wpAny_call (codeAny_call_builtin F.attr_ValueError.ga.plain F.entry_bexc_ga (exc_ga_check X Z I ?_))
  delta Builtin.«object.__getattribute__»
  refine wpAny_bind (wpAny_pure (wpAny_bind (wpAny_pure (wpAny_bind (ty0.at (wpAny_bind (L3.at ?_)))))))
  show wpAny _ _ (Builtin.ObjectAttr.bindTo _ _ _ _) _ _ _
  show wpAny _ _ (holding [_] (call _ _) >>= ret) _ _ _
  refine wpAny_bind (wpAny_holding (wpAny_call (exc_class_get X Z I ?_)))
  exact wpAny_pure (wpAny_pure (wpAny_pure h))
/-- isinstance of an own exception -/
theorem kitx_exc (Z : XCls K C) : PySem.W.KitX K (.ref x) (.ref C) (fun h => ExAt h x C) where
  ty := fun _ _ _ I => I.type
  it := fun _ _ X _ => by
    have hcD := Z.cls
    unfold PySem.W.clsIn at hcD
    split at hcD
    · rename_i c' d' cd' sl' ho
      intro A' Q' E' s' k q
      unfold isType loadHead
      exact wpAny_bind (wpAny_loadPart (k C _ (X C _ ho)) (wpAny_pure q))
    · cases hcD
  ne := fun _ tp _ _ _ _ X htp => by
    have hcD := Z.cls
    refine Bool.eq_false_iff.mpr (fun eqv => ?_)
    have e : C = tp := Value.ref.inj (beq_iff_eq.mp eqv)
    subst e
    unfold PySem.W.clsIn at hcD
    split at hcD
    · rename_i c' d' cd' sl' ho
      exact nomatch (X C _ ho).symm.trans htp
    · cases hcD
  ca := fun X I k => exc_class X Z I k
open PySem.W in
theorem exc_str_check {Q : Unit → Shared → Prop} (X : K.In s.heap) (Z : XCls K C) (I : ExAt s.heap x C) (hq : Q () s) :
    wpAny (model prog w) A (checkBuiltinCall "BaseException.__str__" ⟨[.ref x], []⟩) Q E s := by
  have kd : builtinKind "BaseException.__str__" = some .slot := by decide +kernel
  have hsp : splitId "BaseException.__str__" = some ("BaseException", "__str__") := by decide +kernel
  have ha := F.args_bexc_str (.ref x)
  have ty0 := I.type (M := model prog w)
  have L1 := looks_mroIn (M := model prog w) X Z.mb
  obtain ⟨hh, g, d, t, os⟩ := s
  simp only [checkBuiltinCall, kd, hsp]
  refine wpAny_bind ?_
  unfold isInstance
  refine wpAny_bind (ty0.at (L1.at ?_))
  repeat (first | wp_step)
  exact hq
open Builtin Builtin.Str Builtin.BaseException Builtin.Exceptions in
theorem exc_args {M : Model} {vs : Array Value} {t0 : Addr} {items : List Value} {Q : Value × List Value → Shared → Prop} (hx : s.heap.get? x = some ox) (hd : ox.data = .fields vs) (h0 : vs[0]? = some (.ref t0)) (ht : s.heap.TupAt t0 items) (hq : Q (.ref t0, items) s) :
    wpAny M A (bexcArgs (.ref x)) Q E s := by
  obtain ⟨otu, cap, hto, _, htd⟩ := ht
  unfold bexcArgs
  refine wpAny_bind (wpAny_field hx hd h0 (wpAny_bind (wpAny_seqItems hto htd ?_)))
  have e : (Value.ref t0, items.toArray.toList) = (Value.ref t0, items) := by simp
  rw [← e] at hq
  exact wpAny_pure hq
open PySem.W Builtin Builtin.Str Builtin.BaseException Builtin.Exceptions in
theorem exc_strOf {vs : Array Value} {t0 : Addr} {m : Str} {tk : Tok} {Q : Value → Shared → Prop} (hu : A.units < cLine) (X : K.In s.heap) (Z : XCls K C) (I : ExAt s.heap x C) (hx : s.heap.get? x = some ox) (hd : ox.data = .fields vs) (h0 : vs[0]? = some (.ref t0)) (ht : s.heap.TupAt t0 [.str m tk]) (hq : Q (.str m tk) s) :
    wpAny (model prog w) A (Builtin.Str.strOf (.ref x)) Q E s := by
  have ty0 := I.type (M := model prog w)
  have L1 := looks_findIn (M := model prog w) X Z.st
  have L4 := looks_mroIn (M := model prog w) X Z.mb
  have f3 := F.excStr_ValueError.str.bind (.ref x)
  unfold Builtin.Str.strOf
  show wpAny _ _ (cRoomFor _ _ >>= _) _ _ _
  refine wpAny_bind (wpAny_cRoomFor (what := "str") hu ?_)
  unfold callSpecial? specialOf
  refine wpAny_bind (wpAny_bind (wpAny_bind (ty0.at (L1.at ?_))))
  refine wpAny_holding (wpAny_bind (wpAny_of_eq f3 ?_))
  refine wpAny_bind (wpAny_call (codeAny_call_builtin F.excStr_ValueError.str.plain F.entry_bexc_str (exc_str_check X Z I ?_)))
  delta Builtin.«BaseException.__str__»
  refine wpAny_bind (wpAny_pure (wpAny_bind (exc_args hx hd h0 ht ?_)))
  repeat (first | wp_step)
  exact hq
theorem exc_str {vs : Array Value} {t0 : Addr} {m : Str} {tk : Tok} {Q : Value → Shared → Prop} (hu : A.units + 2 < cLine) (X : K.In s.heap) (Z : XCls K C) (hx : s.heap.get? x = some ox) (hc : ox.cls = .ref C) (hd : ox.data = .fields vs) (h0 : vs[0]? = some (.ref t0)) (ht : s.heap.TupAt t0 [.str m tk]) (h : Q (.str m tk) s) :
    wpAny (model prog w) A (call (.type "str") [.ref x]) Q E s :=
  callType_new (T := "str") F.called_str (by decide)
    (F.typeCall_str_1 _) (F.newCall_str_1 _) (fun o => F.args_object_init_2 o _) F.entry_str_new
    (meets_str_new (S := fun A' R s' => A'.units + 1 < cLine ∧ K.In s'.heap ∧ s'.heap.get? x = some ox ∧ s'.heap.TupAt t0 [.str m tk] ∧ R (.ok (.ret (.str m tk))) s')
      fun _ _ A' _ _ hq => exc_strOf (A := A'.in1) hq.1 hq.2.1 Z ⟨ox, hq.2.2.1, hc⟩ hq.2.2.1 hd h0 hq.2.2.2.1 hq.2.2.2.2)
    ⟨(show A.units + 1 + 1 < cLine from hu), X, hx, ht, typeIs_str _ _ _, h⟩
end
/-! ### made, shown, looked at -/
abbrev excO (C t : Addr) : Obj := { cls := .ref C, data := .fields #[.ref t, .none, .none, .none, .bool false, .none] }
abbrev tupO (us : List Value) : Obj := { cls := .type "tuple", data := .seq us.toArray }
theorem ok_there {P : Program} {w : World} {H : Hp} {h : Heap} {a : Addr} : ∀ {o : HO}, ObjOk P w H h a o → ∃ u, h.get? a = some u
  | .lst _, ⟨_, _, _, _, e⟩ => ⟨_, e⟩
  | .tup _, ⟨_, _, _, o, e, _⟩ => ⟨o, e⟩
  | .dK _, ⟨_, _, _, _, e⟩ => by obtain ⟨o, es, ep, h1, _⟩ := e; exact ⟨o, h1⟩
  | .dT _, ⟨_, _, _, _, o, _, _, e, _⟩ => ⟨o, e⟩
  | .set _ _, e => by obtain ⟨o, _, _, _, h1, _⟩ := e; exact ⟨_, h1⟩
  | .ins _ _ _, ⟨_, _, _, e, _⟩ => ⟨_, e⟩
  | .own _, e => e
  | .xd _, ⟨_, e, _⟩ => by obtain ⟨o, _, _, h1, _⟩ := e; exact ⟨_, h1⟩
  | .rng _ _, ⟨_, _, _, e⟩ => ⟨_, e⟩
  | .frz o _, ⟨e, _⟩ => ⟨o, e⟩
  | .tbl _, e => ⟨_, e⟩
  | .met _ _, e => ⟨_, e⟩
  | .ext _, ⟨_, e, _⟩ => e
theorem Inv.freeN {X : Cx} {pins : List (Addr × Obj)} {σ : List (Option V)} {H : Hp} {s : Shared} {a : Addr} (I : Inv X pins σ H s) (hn : s.heap.get? a = none) : H a = none := by
  cases q : H a with
  | none => rfl
  | some u =>
    obtain ⟨o, e⟩ := ok_there (I.hok a u q)
    rw [hn] at e; cases e
theorem Inv.laid2N {X : Cx} {pins : List (Addr × Obj)} {σ : List (Option V)} {H : Hp} {s : Shared} {h' : Heap} {a b : Addr} {o u : Obj} {t' : Nat} (I : Inv X pins σ H s) (k : ∀ b u, s.heap.get? b = some u → h'.get? b = some u) (ha : s.heap.get? a = none) (hb : s.heap.get? b = none) (hab : a ≠ b) (na : h'.get? a = some o) (nb : h'.get? b = some u) :
    Inv X pins σ (upd (upd H a (Fz o)) b (Fz u)) { s with heap := h', toks := t' } := by
  have hA := I.freeN ha
  have hB := I.freeN hb
  have old : ∀ c v, H c = some v → upd (upd H a (Fz o)) b (Fz u) c = some v := fun c v e => by rw [upd_ne (ne_of_none e hB), upd_ne (ne_of_none e hA)]; exact e
  refine I.un ⟨fun b u q _ _ _ => k b u q, fun b u q _ _ _ => ⟨u.slots, k b u q⟩, fun c v q n _ => ?_, fun b u q _ => ⟨u, k b u q⟩, fun c xs q => old _ _ q, fun c u xs q => old _ _ q, fun c ps q => ⟨#[], by rw [old _ _ q]; simp⟩⟩ fun c v e => ?_
  · rw [upd_ne (fun z => by rw [z, hb] at q; cases q), upd_ne (fun z => by rw [z, ha] at q; cases q)]; exact n
  · by_cases h1 : c = b
    · subst h1; rw [upd_same] at e; cases e; exact ⟨nb, _, nb⟩
    · rw [upd_ne h1] at e
      by_cases h2 : c = a
      · subst h2; rw [upd_same] at e; cases e; exact ⟨na, _, na⟩
      · rw [upd_ne h2] at e
        exact (I.hok c v e).stay (fun c v _ q => k c v q) (fun c q => old _ _ q) fun c xs q => old _ _ q
def tExc (C : Addr) (t : TA) : TE := fun σ H Q => t σ H fun vs H1 => vs.length ≤ sizeLine ∧ ∀ x t0 us, Vals vs us → H1 t0 = none → H1 x = none → t0 ≠ x → Q (.ref x) (upd (upd H1 t0 (Fz (tupO us))) x (Fz (excO C t0)))
section
variable {X : Cx} {n : Str} {C : Addr} {bm : List Value} {newId initId B : String} {np cpos : Pos} {e : Expr} {es : List Expr} {t : TA}
theorem pe_exc (O : OwnCls n C bm newId X.mg X.base) (FB : ExcBaseFacts B newId initId bm) (hg : Gl X n) (ha : PA X (e :: es) t)
    (hd : (n == ("__debug__" : Str)) = false := by decide) (he : starEach (e :: es) X.env = (false, eval e X.env) :: starEach es X.env := by rfl) (hpl : (backTo cpos (starEach es X.env)).any (·.1) = false := by rfl) :
    PE X (.Call (.Name n np) (e :: es) [] cpos) (tExc C t) := by
  intro pins s σ H Q I h
  obtain ⟨tl, _, _, _, _, _, _, _, _, _, _, _, _, _, _, _, mN, hC, hN, hni, T⟩ := O.obj
  refine wpAny_Call_Name_kw (ld_glob I hg O.bound ?_ hd)
  have hplain : (backTo cpos (starEach (e :: es) X.env)).any (·.1) = false := by rw [he]; show (false || (backTo cpos (starEach es X.env)).any (·.1)) = false; rw [hpl]; rfl
  have ha' := ha cpos pins s σ H _ I h
  rw [he] at ha' hplain ⊢
  unfold callWith
  refine wpAny_bind (wpAny_holding (Calls.evalArgs_plain (wpAny_mono ha' (fun us s2 ⟨vs, H2, I2, r, hl, q2⟩ => wpAny_bind (wpAny_standAt ?_)) fun _ _ y => y)))
  obtain ⟨hp, g, d, tk, os⟩ := s2
  simp only [hplain]
  refine wpAny_bind (wpAny_keeperOf_exc (I2.bk _ _ hC) ?_)
  refine wpAny_bind (wpAny_call_exc_subT (hrest := by rw [List.nil_append, ← r.length]; exact hl) FB (T.keeps I2.bk) (I2.bk _ _ hC) (hN.keeps I2.bk) hni fun h' x hm => wpAny_bind (wpAny_holding (wpAny_point (wpAny_pure ?_))))
  obtain ⟨t0, hx, htn, ht⟩ := hm.there
  have hne : t0 ≠ x := fun z => by
    rw [z, hx] at ht; cases ht
  exact ⟨.ref x, _, I2.laid2N (t' := tk) hm.keeps htn hm.new hne ht hx, rfl, q2 x t0 us r (I2.freeN htn) (I2.freeN hm.new) hne⟩
theorem call_strX {K : PySem.W.Frag} (hK : X.K = K) (hu : X.A.units + 150 < cLine) : CallR X (.type "str") (fun xs H Q => ∃ x C t0 m us, xs = [.ref x] ∧ H x = some (Fz (excO C t0)) ∧ H t0 = some (Fz (tupO us)) ∧ XCls K C ∧ Vals [.str m] us ∧ Q (.str m) H) := by
  intro pins s σ H xs us Q I r h
  obtain ⟨x, C, t0, m, vs, rfl, hx, ht, Z, rm, q⟩ := h
  obtain ⟨u, rfl, ru⟩ := r.one
  cases ru
  obtain ⟨v, rfl, tk, rfl⟩ := rm.one
  subst hK
  obtain ⟨h1, _⟩ := I.hok x _ hx
  obtain ⟨h2, _⟩ := I.hok t0 _ ht
  exact exc_str (ox := excO C t0) (t0 := t0) (by omega) I.kIn Z h1 rfl rfl rfl ⟨_, _, h2, rfl, rfl⟩ ⟨.str m, H, I, ⟨tk, rfl⟩, q⟩
/-- isinstance of an own exception -/
theorem call_isX {K : PySem.W.Frag} (hK : X.K = K) : CallR X (.builtin "isinstance") (fun xs H Q => ∃ x C o D b, xs = [.ref x, D] ∧ H x = some (Fz o) ∧ o.cls = .ref C ∧ XCls K C ∧ (∀ u, RelV D u → PySem.W.kitOne K (.ref C) u = some b) ∧ Q (.bl b) H) := by
  intro pins s σ H xs us Q I r h
  obtain ⟨x, C, o, D, b, rfl, hx, hc, Z, hk, q⟩ := h
  subst hK
  cases r with
  | cons r rr =>
    cases rr with
    | cons r' rr =>
      cases rr
      cases r
      obtain ⟨h1, _⟩ := I.hok x _ hx
      exact PySem.W.kia_one (kitx_exc Z) I.kIn ⟨o, h1, hc⟩ (hk _ r') (by intro z; cases z) fun tk => ⟨.bl b, H, I.tok tk, rfl, q⟩
end
end L2

namespace L2
open PySem PySem.Spec PyProof.Rows
/-! ### texts; range and list -/
theorem paired_of {α β : Type} {F : α → β → Prop} : ∀ {l₁ : List α} {l₂ : List β}, l₁.length = l₂.length → (∀ (i : Nat) x y, l₁[i]? = some x → l₂[i]? = some y → F x y) → Paired F l₁ l₂
  | [], [], _, _ => .nil
  | x :: xs, y :: ys, hl, h => .cons (h 0 x y rfl rfl) (paired_of (by simpa using hl) fun i a b ha hb => h (i + 1) a b ha hb)
  | [], _ :: _, hl, _ => by cases hl
  | _ :: _, [], hl, _ => by cases hl
section
variable {X : Cx}
theorem call_range1 : CallR X (.type "range") (fun xs H Q => ∃ j : Int, xs = [.int j] ∧ ∀ p, H p = none → Q (.ref p) (upd H p (.rng 0 j))) := by
  intro pins s σ H xs us Q I r h
  obtain ⟨j, rfl, q⟩ := h
  obtain ⟨u, rfl, t, rfl⟩ := r.one
  refine call_range_1 ?_
  refine ⟨.ref _, _, I.laid (t' := _) (o := .rng 0 j) (fun b u e => Heap.get?_push_of_some _ e) (Nat.le_refl _) ⟨_, _, _, Heap.get?_push_size _ rfl⟩, rfl, q _ (I.hok.fresh (Nat.le_refl _))⟩
theorem call_list_rng (hc : X.calm = true) : CallR X (.type "list") (fun xs H Q => ∃ (p : Addr) (n : Nat), xs = [.ref p] ∧ H p = some (.rng 0 n) ∧ n ≤ 1000 ∧ ∀ q, H q = none → Q (.ref q) (upd H q (.lst ((List.range n).map fun (i : Nat) => V.int i)))) := by
  intro pins s σ H xs us Q I r h
  obtain ⟨p, n, rfl, hp, hn, q⟩ := h
  obtain ⟨u, rfl, ru⟩ := r.one
  cases ru
  obtain ⟨t, u, v, e⟩ := I.hok p _ hp
  refine call_list_range (n := n) (I.ok.hd hc) e ?_ ?_ (by omega) fun h' tk acc c hk hl hi => ?_
  · exact small_one (by omega) (by omega) (by omega) (by omega)
  · rw [rangeSize_one]
    split <;> omega
  · refine ⟨.ref _, _, I.laid (t' := _) (o := .lst ((List.range n).map fun (i : Nat) => V.int i)) hk (Nat.le_refl _) ⟨?_, acc.toList, c, ?_, hl⟩, rfl, q _ (I.hok.fresh (Nat.le_refl _))⟩
    · rw [List.length_map, List.length_range]; exact Nat.le_trans hn (by decide)
    · obtain ⟨h1, h2⟩ := hi
      refine paired_of (by simp [h1]) fun i x y hx hy => ?_
      rw [List.getElem?_map] at hx
      obtain ⟨hi, hk⟩ := List.getElem?_eq_some_iff.mp hy
      have hin : i < n := by simp [h1] at hi; exact hi
      rw [List.getElem?_range hin] at hx
      cases hx
      obtain ⟨t, rfl⟩ := h2 i y (by simpa using hy)
      exact ⟨t, by simp⟩
theorem strs_are : ∀ {zs : List Str} {us : List Value}, Vals (zs.map V.str) us → StrsAre us zs
  | [], _, .nil => .nil
  | z :: zs, _, .cons a b => by
    obtain ⟨t, rfl⟩ := a
    exact .cons z t (strs_are b)
/-- ''.join of a list of texts -/
theorem mt_join : MtR X "str.join" (fun x vs H Q => ∃ z p zs, x = .str z ∧ vs = [.ref p] ∧ SqL X.K H p (zs.map V.str) ∧ z.length ≤ 16 ∧ (zs.map (·.length)).sum + zs.length ≤ 1048576 ∧ Q (.str (Txt.join z zs)) H) := by
  intro pins s σ H x xs v us Q I rx rs h
  obtain ⟨z, p, zs, rfl, rfl, hp, hz, hw, q⟩ := h
  obtain ⟨t, rfl⟩ := rx
  obtain ⟨u, rfl, ru⟩ := rs.one
  cases ru
  obtain ⟨its, r', pl, _⟩ := I.list hp
  refine join_listW pl.isList (ys := zs) ?_ hz hw fun t' k => ⟨.str _, H, I.tok k, ⟨t', rfl⟩, q⟩
  rw [List.toList_toArray]
  exact strs_are r'
/-- == of two lists of the same texts -/
theorem op_eqS (hu : X.A.units + 150 < cLine) : OpR X (compareOp .Eq) (fun x y H Q => ∃ (p q : Addr) (zs : List Str), x = .ref p ∧ y = .ref q ∧ SqL X.K H p (zs.map V.str) ∧ SqL X.K H q (zs.map V.str) ∧ Q (.bl true) H) := by
  intro pins s σ H x y u v Q I rx ry h
  obtain ⟨p, q, zs, rfl, rfl, h1, h2, k⟩ := h
  cases rx
  cases ry
  obtain ⟨i1, r1, l1, _⟩ := I.list h1
  obtain ⟨i2, r2, l2, _⟩ := I.list h2
  have n1 := r1.length
  have n2 := r2.length
  have hs : i1.toArray.size = i2.toArray.size := by simp; omega
  have key := SeqAt.RcAt.lists (A := X.A) (s := s) (e := fun _ => true) l1.isList l2.isList hs (by omega) fun j g1 g2 => by
    have a1 : i1[j]? = some i1.toArray[j] := by simp
    have a2 : i2[j]? = some i2.toArray[j] := by simp
    obtain ⟨v1, b1, c1⟩ := YO.Paired.getr r1 a1
    obtain ⟨v2, b2, c2⟩ := YO.Paired.getr r2 a2
    rw [b1] at b2
    cases b2
    rw [List.getElem?_map] at b1
    cases hz : zs[j]? with
    | none => rw [hz] at b1; cases b1
    | some z =>
      rw [hz] at b1
      cases b1
      obtain ⟨t, e1⟩ := c1
      obtain ⟨t', e2⟩ := c2
      rw [e1, e2]
      have := SeqAt.EqAt.str_str (A := X.A.in1) (s := s) z t z t'
      rw [beq_self_eq_true] at this
      exact this
  rw [show ((List.range i1.toArray.size).all fun _ => true) = true by simp] at key
  exact EqBoolInt.of_rc key ⟨.bl true, H, I, rfl, k⟩
end
end L2

namespace L2
open PySem PySem.Spec PyProof.Rows
/-! ### raise, with the exception known to be new -/
def tRaiseN (E : XK) (C : Addr) (t : TA) : TS := fun _ σ H => t σ H fun vs H1 => vs.length ≤ sizeLine ∧ ∀ x, H1 x = none → E (.ref x) (some C) H1
section
variable {X : Cx} {E : XK} {n : Str} {C : Addr} {bm : List Value} {newId initId B : String} {np cpos pos hpos : Pos} {e : Expr} {es : List Expr} {t : TA}
theorem ps_raiseN (R : RaisesTo X E) (O : OwnCls n C bm newId X.mg X.base) (FB : ExcBaseFacts B newId initId bm) (hg : Gl X n) (hc : X.calm = true) (ha : PA X (e :: es) t)
    (hd : (n == ("__debug__" : Str)) = false := by decide) (he : starEach (e :: es) X.env = (false, eval e X.env) :: starEach es X.env := by rfl) (hpl : (backTo cpos (starEach es X.env)).any (·.1) = false := by rfl) :
    PS X (.Raise (some (.Call (.Name n np) (e :: es) [] cpos)) none pos) (tRaiseN E C t) := by
  intro pins s σ H D I h
  obtain ⟨tl, N, nm, qn, bs, hdct, sn, sub, ab, col, dd, k0, k1, k2, k3, k5, mN, hC, hN, hni, T⟩ := O.obj
  have pl : (backTo cpos (starEach (e :: es) X.env)).any (·.1) = false := by
    rw [he]
    show (false || (backTo cpos (starEach es X.env)).any (·.1)) = false
    rw [hpl]; rfl
  refine wpAny_Raise_call_subT (nm := nm) (q := qn) (N := N) (bs := bs) (bm := tl) (C := C)
    (hdct := hdct) (sn := sn) (sub := sub) (ab := ab) (col := col) (dd := dd)
    (k0 := k0) (k1 := k1) (k2 := k2) (k3 := k3) (k5 := k5) FB (mN := mN) (T.hasType FB.hasBase) (I.ok.hd hc) pl hni (ld_glob I hg O.bound ⟨rfl, ?_⟩ hd)
  have ha' := ha cpos pins s σ H _ I h
  rw [he] at ha' ⊢
  exact Calls.evalArgs_plain (wpAny_mono ha' (fun us s2 ⟨vs, H2, I2, r, hl, q2⟩ => ⟨rfl, by rw [← r.length]; exact hl, I2.bk _ _ hC, hN.keeps I2.bk, T.keeps I2.bk, fun h' x hm => R pins σ H2 s2 h' x C us I2 hm (q2 x (I2.freeN hm.new))⟩) fun _ _ y => y)
end
/-! ### try .. except .. as -/
abbrev Cx.asC (X : Cx) (x : Addr) (pn : List (Addr × Obj)) : Cx := { X with A := X.A.mark (some (.ref x)), calm := false, pn := pn }
section
variable {X : Cx} {pins pins' : List (Addr × Obj)} {σ : St} {H : Hp} {s : Shared} {x : Addr}
theorem Inv.asC {o : Obj} (I : Inv X pins σ H s) (x : Addr) (h1 : s.heap.get? x = some o) (h2 : H x = none) (h3 : x ≠ X.env.locals) (h4 : x ∉ X.fs) (h5 : ∀ v, o.data ≠ .cell v) : Inv (X.asC x (X.pn ++ pins ++ [(x, o)])) [] σ H s :=
  ⟨⟨I.ok.mod, I.ok.kind, I.ok.glob, I.ok.blt, I.ok.above, I.ok.inj, I.ok.has, I.ok.cab, fun z => absurd z Bool.false_ne_true, I.ok.frames, I.ok.stk, I.ok.exf, I.ok.bs, I.ok.bsz, I.ok.noex, I.ok.exfs, I.ok.funs, I.ok.frf⟩, I.os, I.bare, I.base, I.loc, I.cell, I.free, I.freeC, fun p hp => by
    have hp : p ∈ (X.pn ++ pins ++ [(x, o)]) ++ [] := hp
    rw [List.append_nil] at hp
    rcases List.mem_append.mp hp with old | new
    · exact I.pin p old
    · cases List.mem_singleton.mp new
      exact ⟨h1, h2, h3, h4, h5⟩, I.hok, I.len⟩
theorem Inv.unasC {o : Obj} (hc : X.A.handled = none) (I : Inv (X.asC x (X.pn ++ pins ++ [(x, o)])) pins' σ H s) : Inv X pins σ H s :=
  ⟨⟨I.ok.mod, I.ok.kind, I.ok.glob, I.ok.blt, I.ok.above, I.ok.inj, I.ok.has, I.ok.cab, fun _ => hc, I.ok.frames, I.ok.stk, I.ok.exf, I.ok.bs, I.ok.bsz, I.ok.noex, I.ok.exfs, I.ok.funs, I.ok.frf⟩, I.os, I.bare, I.base, I.loc, I.cell, I.free, I.freeC, fun p hp => I.pin p (List.mem_append_left _ (List.mem_append_left _ hp)), I.hok, I.len⟩
/-- the locals are written, all forgotten -/
theorem Inv.blank {h' : Heap} {m : Str → Option Value} {t' : Nat} (I : Inv X pins σ H s) (hn : h'.Ns X.env.locals m) (hs : Heap.SameBut X.env.locals s.heap h') : Inv X pins (List.replicate X.N.length none) H { s with heap := h', toks := t' } := by
  have ab : ∀ b o, X.s₀.heap.get? b = some o → b ≠ X.env.locals := fun b o e => Nat.ne_of_lt (Nat.lt_of_lt_of_le (Heap.lt_size e) I.ok.above)
  refine ⟨I.ok, I.os, I.bare, ⟨fun b o e n hb hx => (hs.2 b (ab b o e)).trans (I.base.keep b o e n hb hx), fun b o e n hb hx => ?_, I.base.free, fun b o e hx => ?_, I.base.tups, I.base.frzs, I.base.tbls⟩, ⟨m, hn, fun j y v e1 e2 e3 => ?_⟩, fun y c e => ?_, I.free, I.freeC, fun p hp => ?_, fun b u e => ?_, List.length_replicate⟩
  · obtain ⟨sl, e1⟩ := I.base.slot b o e n hb hx
    exact ⟨sl, (hs.2 b (ab b o e)).trans e1⟩
  · obtain ⟨o', e1⟩ := I.base.there b o e hx
    exact ⟨o', (hs.2 b (ab b o e)).trans e1⟩
  · rw [List.getElem?_replicate] at e2
    split at e2 <;> cases e2
  · obtain ⟨v, z⟩ := I.cell y c e
    exact ⟨v, z.sameBut hs (I.cne y c e)⟩
  · obtain ⟨e, n, ne, nf, d⟩ := I.pin p hp
    exact ⟨(hs.2 p.1 ne).trans e, n, ne, nf, d⟩
  · refine (I.hok b u e).stay (fun c w hc q => (hs.2 c fun z => ?_).trans q) (fun _ q => q) fun _ _ q => q
    subst z
    rcases hc with rfl | hc
    · rw [I.free] at e; cases e
    · rw [I.free] at hc; cases hc
end
/-- try: body; except C as nm: suite, a suite that returns -/
def tTryAs (K : PySem.W.Frag) (E : XK) (i n : Nat) (D' : Addr) (tb : TS) (ts : Addr → Addr → TS) : TS := fun D σ H => tb D σ H ∧ ∀ (x : Addr) (c : Option Addr) (H' : Hp) (σ' : St), σ'.length = n → E (.ref x) c H' → ∃ C, c = some C ∧ H' x = none ∧ PySem.W.exmOne K (.ref C) (.ref D') = some true ∧
  ts x C { nx := fun _ _ => False, rt := D.rt, bk := fun _ _ => False, ct := fun _ _ => False } (σ'.set i (some (.ref x))) H'
section
variable {X : Cx} {E : XK} {n nm : Str} {C L : Addr} {i : Nat} {np pos hpos : Pos} {body suite : List Stmt} {b₀ : Stmt} {tb : TS} {ts : Addr → Addr → TS}
theorem ps_tryAs (hb : ∀ (W : Value → Shared → Prop) (pn : List (Addr × Obj)), Passes (CXE X.prog X.w) (X.tryC W pn) E → PSs (X.tryC W pn) body tb) (hm : X.mg n = some (.ref C)) (hg : Gl X n) (hc : X.calm = true)
    (hN : X.N.Nodup) (hi : X.N[i]? = some nm) (hk : X.env.scope.names.lookup nm = some .local) (hx0 : ∀ e s, ¬ X.xe e s)
    (hs : ∀ x C o pn, (x, o) ∈ pn → o.cls = .ref C → PSs (X.asC x pn) (b₀ :: suite) (ts x C)) (hst : X.stack = X.env :: X.outer) (hf : X.env.frame = some L) (hd : (n == ("__debug__" : Str)) = false := by decide) :
    PS X (.Try body [.ExceptHandler (some (.Name n np)) (some nm) (b₀ :: suite) hpos] [] [] pos) (tTryAs X.K E i X.N.length C tb ts) := by
  intro pins s σ H D I h
  obtain ⟨h1, h2⟩ := h
  refine wpAny_Try_except ?_
  have hP : Passes (CXE X.prog X.w) (X.tryC (fun e s' => ∃ (x C' t : Addr) (B : Heap) (σ' : St) (H' : Hp), e = .ref x ∧ Heap.FlyingW B X.stack x (.ref C') (.ref t) s'.heap ∧ (∀ h4 : Heap, B.StaysIn h4 → s'.heap.UpToSlots h4 → Inv X pins σ' H' { s' with heap := h4 }) ∧ E e (some C') H') (X.pn ++ pins)) E := by
    intro pins' σ' H' s0 e s' I' hC
    obtain ⟨x, C', t, B, H2, rfl, os, bare, fl, un, hE⟩ := hC
    obtain ⟨hh, g, d, tk, os'⟩ := s'
    obtain rfl : os' = s0.os := os
    refine ⟨x, C', t, B, σ', H2, rfl, fl, fun h4 st sm => ?_, hE⟩
    obtain ⟨u1, u2⟩ := un h4 st sm
    have I1 : Inv X pins σ' H' s0 := I'.untry
    have u3 : Un (frs X.stack) [] H' H2 s0.heap h4 := u1
    have J := I1.call (h' := h4) (g' := g) (d' := d) (t' := tk) (ch := []) u3 u2 bare (fun b z => absurd z (by simp))
    exact J
  refine wpAny_mono (hb _ _ hP [] s σ H D I.tryC h1) (fun fl s1 q => ?_) (fun e s1 hW => ?_)
  · have q := q.untry
    cases fl with
    | next => obtain ⟨σ', H', I', q⟩ := q; exact wpAny_execs_nil ⟨σ', H', I', q⟩
    | brk => exact q
    | cont => exact q
    | ret u => exact q
  · obtain ⟨x, C', t, B, σ', H', rfl, fl, inv, hE⟩ := hW
    obtain ⟨C1, hCC, hHx, hex, hts⟩ := h2 x _ H' σ' (inv _ fl.1 (Heap.UpToSlots.refl _)).len hE
    obtain rfl : C' = C1 := Option.some.inj hCC
    have hh := I.ok.hd hc
    rw [hst] at fl
    have hfr : X.A.frames = some (X.env :: X.outer) := by rw [← hst]; exact I.ok.frames
    refine wpAny_looks_onW hfr hf fl fun h4 hheld4 hsm4 => ?_
    refine wpAny_landsW hheld4 fun h5 hheld hsm5 => ?_
    have hsm := hsm4.trans hsm5
    have I5 := (inv h5 hheld.1 hsm).within x
    obtain ⟨ob, obAt, obCls⟩ := hheld.there
    refine wpAny_handleBy_cons (codeAny_handlers_test (ld_glob I5 hg hm ?_ hd)) (by intro q; cases q)
    have LT : PySem.W.Looks (model X.prog X.w) h5 (typeOf (.ref x)) (.ref C') := ExAt.type ⟨ob, obAt, obCls⟩
    refine (PySem.W.exm_one I5.kIn LT hex).at (codeAny_handlers_suite_as ?_)
    refine lands_againW hheld fun h6 hfl6 hsm6 => ?_
    have I6 := inv h6 hfl6.1 (hsm.trans hsm6)
    obtain ⟨oe, vs, hoe, hoc, hod, _⟩ := hfl6.first
    obtain ⟨m6, ⟨oL, esL, epL, hoL, hdL, _⟩, _⟩ := id I6.loc
    have n1 : x ≠ X.env.locals := fun z => by
      have e : h6.get? x = some oL := by rw [z]; exact hoL
      rw [hoe] at e; cases e
      rw [hod] at hdL; cases hdL
    have n2 : x ∉ X.fs := fun z => by
      obtain ⟨_, o, e1, e2⟩ := hfl6.2.2.1.mem (b := x) (by
        rw [List.filterMap_cons]
        split
        · exact z
        · exact List.mem_cons_of_mem _ z)
      have e : h6.get? x = some o := e1
      rw [hoe] at e; cases e
      exact e2 vs hod
    have I7 := I6.asC x hoe hHx n1 n2 (fun v z => by rw [hod] at z; cases z)
    refine store_ok2 (X := X.asC x (X.pn ++ pins ++ [(x, oe)])) I7 hN hi (.inl hk) (v := .ref x) rfl (fun s8 I8 _ => ?_) (.inr hk)
    refine wpAny_mono (hs x C' oe _ (List.mem_append_right _ (List.mem_singleton.mpr rfl)) hoc [] s8 _ H' _ I8 hts) (fun fl s9 q => ?_) fun e s9 z => absurd z (hx0 e s9)
    cases fl with
    | next => obtain ⟨_, _, _, q⟩ := q; exact q.elim
    | brk => obtain ⟨_, _, _, q⟩ := q; exact q.elim
    | cont => obtain ⟨_, _, _, q⟩ := q; exact q.elim
    | ret u =>
      obtain ⟨v, σ9, H9, I9, r9, q9⟩ := q
      have J := I9.unasC hh
      obtain ⟨m9, hm9, _⟩ := id J.loc
      show wpAny (model X.prog X.w) X.A (do bindName X.env nm Value.none; unbindBehindTheSuite X.env nm hpos) _ X.xe s9
      refine wpAny_nameGoes hk hm9 (by rw [J.ok.kind]; rfl) fun h' m' hn' hs' => ?_
      exact ⟨v, _, H9, J.blank hn' hs', r9, q9⟩
/-- isinstance of the exception that is held -/
theorem call_isP {K : PySem.W.Frag} {x C : Addr} {o : Obj} (hK : X.K = K) (hp : (x, o) ∈ X.pn) (hc : o.cls = .ref C) : CallR X (.builtin "isinstance") (fun xs H Q => ∃ D b, xs = [.ref x, D] ∧ XCls K C ∧ (∀ u, RelV D u → PySem.W.kitOne K (.ref C) u = some b) ∧ Q (.bl b) H) := by
  intro pins s σ H xs us Q I r h
  obtain ⟨D, b, rfl, Z, hk, q⟩ := h
  subst hK
  cases r with
  | cons r rr =>
    cases rr with
    | cons r' rr =>
      cases rr
      cases r
      exact PySem.W.kia_one (kitx_exc Z) I.kIn ⟨o, (I.pin (x, o) (List.mem_append_left _ hp)).1, hc⟩ (hk _ r') (by intro z; cases z) fun tk => ⟨.bl b, H, I.tok tk, rfl, q⟩
end
end L2

namespace L2
open PySem PySem.Spec PyProof.Rows
/-! ### a lambda without arguments that raises -/
structure FVX (P : Program) (w : World) (K : PySem.W.Frag) (mg : Str → Option Value) (base : Heap) (k : Nat) (f : Addr) (sp : Hp → XK → Prop) : Prop where
  run : ∀ (A : Around) (outer : List Env) (s : Shared) (H : Hp) (E : XK), Room k A → Env0 P w K mg base A outer s H → sp H E →
    PySem.W.FnAt f s.heap ∧ codeAny (model P w) A (.call (.ref f) ⟨[], []⟩) (CR (CXE P w) outer P w H s (fun _ _ => False) E) s
def tCallX (P : Program) (w : World) (K : PySem.W.Frag) (mg : Str → Option Value) (base : Heap) (E : XK) (k : Nat) (tf : TE) : TE := fun σ H _ => tf σ H fun v H1 => ∃ f sp, v = .ref f ∧ FVX P w K mg base k f sp ∧ sp H1 E
section
variable {X : Cx} {E : XK} {k : Nat} {x : Str} {p pos : Pos} {tf : TE}
theorem pe_callX0 {P : Program} {w : World} {K : PySem.W.Frag} {mg : Str → Option Value} {base : Heap} (hf : PE X (.Name x p) tf) (hr : Room k X.A) (hx : Passes (CXE X.prog X.w) X E) (h1 : X.prog = P := by rfl) (h2 : X.w = w := by rfl) (h3 : X.K = K := by rfl) (h4 : X.mg = mg := by rfl) (h5 : X.base = base := by rfl) :
    PE X (.Call (.Name x p) [] [] pos) (tCallX P w K mg base E k tf) := by
  subst h1 h2 h3 h4 h5
  intro pins s σ H Q I h
  refine wpAny_Call_Name_kw (thn (hf pins s σ H _ I h) fun v s1 ⟨y, H1, I1, r1, f, sp, ef, F, q⟩ => ?_)
  subst ef
  cases r1
  obtain ⟨h1, h2⟩ := F.run X.A X.stack s1 H1 E hr I1.env0 q
  refine PySem.W.callWith_of rfl PySem.W.keeps_F (evalArgs_nil3 ⟨h1, wpAny_call (codeAny_mono h2 fun r s' hq => ?_)⟩)
  cases r with
  | error e => exact hx pins σ H1 s1 e s' I1 hq
  | ok fl =>
    cases fl with
    | ret u => obtain ⟨_, _, _, _, _, _, _, z⟩ := hq; exact False.elim z
    | next => exact False.elim hq
    | brk => exact False.elim hq
    | cont => exact False.elim hq
end
noncomputable def cxLamX (P : Program) (w : World) (K : PySem.W.Frag) (mg : Str → Option Value) (base : Heap) (N : List Str) (qual : Str) (scope : Scope) (f : Addr) (cd : Value) (cl : List (Str × Addr)) (A : Around) (outer : List Env) (s : Shared) (H : Hp) (E : XK) : Cx :=
  { cxLam P w K mg base N qual scope f cd cl A outer s (hid H (CellOf cl)) with
    xe := fun e s' => wpAny (model P w) (A.deeper (PySem.W.envX qual scope s.heap.objs.size f cd cl)) (leaving (PySem.W.envX qual scope s.heap.objs.size f cd cl) e) (fun _ s'' => CXE P w outer H s E e s'') (fun e' s'' => CXE P w outer H s E e' s'') s' }
def EIn (H : Hp) (cl : List (Str × Addr)) (E : XK) : XK := fun e c H' => (∀ b, CellOf cl b → H' b = none) → (∀ x, e = .ref x → ¬ CellOf cl x) → E e c (unhid H H' (CellOf cl))
/-- what the caught cells are -/
structure Cells (cl : List (Str × Addr)) (H : Hp) (s : Shared) : Prop where
  at_ : ∀ x c, cl.lookup x = some c → ∃ o u, H c = some (Fz o) ∧ o.data = .cell (some u) ∧ s.heap.get? c = some o
section
variable {P : Program} {w : World} {K : PySem.W.Frag} {mg : Str → Option Value} {base : Heap} {N : List Str} {qual : Str} {scope : Scope} {f : Addr} {cdv : Value} {cl : List (Str × Addr)} {A : Around} {outer : List Env} {s s' : Shared} {H H' : Hp} {E : XK} {pins : List (Addr × Obj)} {σ : St}
theorem Cells.nfz (ce : Cells cl H s) : ∀ b o, H b = some o → (∀ o', o ≠ Fz o') → ¬ CellOf cl b := fun b o e hn z => by
  obtain ⟨x, hx⟩ := z
  obtain ⟨o', u, h1, _⟩ := ce.at_ x b hx
  rw [e] at h1
  exact hn o' (Option.some.inj h1)
theorem Cells.ncn (ce : Cells cl H s) : ∀ b, H b = none → ¬ CellOf cl b := fun b e z => by
  obtain ⟨x, hx⟩ := z
  obtain ⟨o', u, h1, _⟩ := ce.at_ x b hx
  rw [e] at h1; cases h1
/-- behind a lambda: the cells are seen again -/
theorem lam_back (ce : Cells cl H s) (frf : ∀ b ∈ frs outer, H b = none) (J : Inv (cxLamX P w K mg base N qual scope f cdv cl A outer s H E) pins σ H' s') :
    (∀ b, CellOf cl b → H' b = none) ∧ Un (frs outer) [] H (unhid H H' (CellOf cl)) s.heap s'.heap ∧ HOk P w (unhid H H' (CellOf cl)) s'.heap := by
  have un : Un (frs outer) [] (hid H (CellOf cl)) H' s.heap s'.heap := J.base
  have hn0 : ∀ b, H b = none → hid H (CellOf cl) b = none := fun b e => by rw [hid_out (ce.ncn b e)]; exact e
  have cnone : ∀ b, CellOf cl b → H' b = none := fun b hb => by
    obtain ⟨x, hx⟩ := id hb
    obtain ⟨o, _, _, _, h3⟩ := ce.at_ x b hx
    exact un.free b o h3 (hid_in hb) (by intro z; exact absurd (show b ∈ ([] : List Addr) from z) (by simp))
  have nof : ∀ b o, H' b = some o → ¬ CellOf cl b := fun b o e z => by rw [cnone b z] at e; cases e
  refine ⟨cnone, ⟨fun b o e n hb hx => un.keep b o e (hn0 b n) hb hx, fun b o e n hb hx => un.slot b o e (hn0 b n) hb hx, fun b o e n hx => ?_, un.there, fun b xs e => ?_, fun b o u' e => ?_, fun b ps' e => ?_⟩, fun a o e => ?_⟩
  · rw [unhid_out (ce.ncn b n)]
    exact un.free b o e (hn0 b n) hx
  · have hc := ce.nfz b _ e fun o' z => by cases z
    rw [unhid_out hc]
    exact un.tups b xs (by rw [hid_out hc]; exact e)
  · by_cases hc : CellOf cl b
    · rw [unhid_in hc]; exact e
    · rw [unhid_out hc]
      exact un.frzs b o u' (by rw [hid_out hc]; exact e)
  · have hc := ce.nfz b _ e fun o' z => by cases z
    rw [unhid_out hc]
    exact un.tbls b ps' (by rw [hid_out hc]; exact e)
  · by_cases hc : CellOf cl a
    · rw [unhid_in hc] at e
      obtain ⟨x, hx⟩ := id hc
      obtain ⟨o', u', h1, _, h3⟩ := ce.at_ x a hx
      rw [h1] at e; cases e
      have := un.keep a o' h3 (hid_in hc) (fun z => by rw [frf a z] at h1; cases h1) (by intro z; exact absurd (show a ∈ ([] : List Addr) from z) (by simp))
      exact ⟨this, ⟨_, this⟩⟩
    · rw [unhid_out hc] at e
      refine (J.hok a o e).stay (fun _ _ _ q => q) (fun b q => ?_) fun b xs q => ?_
      · rw [unhid_out (nof b _ q)]; exact q
      · rw [unhid_out (nof b _ q)]; exact q
theorem passes_lamX (ce : Cells cl H s) (frf : ∀ b ∈ frs outer, H b = none) : Passes (CXE P w) (cxLamX P w K mg base N qual scope f cdv cl A outer s H E) (EIn H cl E) := by
  intro pins σ H1 s1 e s2 I hC
  obtain ⟨x, C, t, B, H2, rfl, os, bare, fl, un, hE⟩ := hC
  obtain ⟨hh, g, d, tk, os'⟩ := s2
  obtain rfl : os' = s1.os := os
  have inv : ∀ h4 : Heap, B.StaysIn h4 → hh.UpToSlots h4 → Inv (cxLamX P w K mg base N qual scope f cdv cl A outer s H E) pins σ H2 { s1 with heap := h4, gens := g, drawn := d, toks := tk } := fun h4 st sm => by
    obtain ⟨u1, u2⟩ := un h4 st sm
    have J := I.call (h' := h4) (g' := g) (d' := d) (t' := tk) (ch := []) u1 u2 bare (fun b z => absurd z (by simp))
    exact J
  show wpAny (model P w) (A.deeper (PySem.W.envX qual scope s.heap.objs.size f cdv cl)) (leaving (PySem.W.envX qual scope s.heap.objs.size f cdv cl) (.ref x)) (fun _ s'' => CXE P w outer H s E (.ref x) s'') (fun e' s'' => CXE P w outer H s E e' s'') _
  have J0 := inv hh fl.1 (Heap.UpToSlots.refl _)
  obtain ⟨cn, _, ok0⟩ := lam_back ce frf J0
  have nx : ∀ y, Value.ref x = .ref y → ¬ CellOf cl y := fun y hy z => by
    cases hy
    obtain ⟨oe, vs, h1, _, h3, _⟩ := fl.first
    obtain ⟨nm, hn⟩ := id z
    obtain ⟨o, u, h4, h5, _⟩ := ce.at_ nm x hn
    obtain ⟨h6, _⟩ := ok0 x (Fz o) (by rw [unhid_in z]; exact h4)
    have h6 : hh.get? x = some o := h6
    have h1 : hh.get? x = some oe := h1
    rw [h1] at h6; cases h6
    rw [h3] at h5; cases h5
  refine wpAny_leaves_onW I.ok.frames rfl fl fun h' fl' sm => ?_
  refine ⟨x, C, t, B, unhid H H2 (CellOf cl), rfl, I.os, bare, fl', fun h4 st sm4 => ?_, hE cn nx⟩
  obtain ⟨_, a1, a2⟩ := lam_back ce frf (inv h4 st (Heap.UpToSlots.trans sm sm4))
  exact ⟨a1, a2⟩
end
theorem lam_fvX {P : Program} {w : World} {K : PySem.W.Frag} {mg : Str → Option Value} {base : Heap} {k : Nat} {f : Addr} {qual : Str} {params : Arguments} {body : Expr} {scope : Scope} {cl : List (Str × Addr)} {N : List Str} {fvs : List V} {spb : Hp → XK → Prop}
    (S : LamScope N [] scope) (inj : ∀ x y c, cl.lookup x = some c → cl.lookup y = some c → x = y) (has : ∀ x, scope.names.lookup x = some .free → ∃ c, cl.lookup x = some c) (hcells : ∀ x c, cl.lookup x = some c → x ∈ N)
    (hbind : ∀ (pm cdv ctv : Value), bindArgs (PySem.W.kla_fn "<lambda>" qual params body scope cl pm cdv ctv) ⟨[], []⟩ = pure [])
    (hbody : ∀ (cdv : Value) (A : Around) (outer : List Env) (s : Shared) (H : Hp) (E : XK), Room k (A.deeper (PySem.W.envX qual scope s.heap.objs.size f cdv cl)) → spb H E → CatchAt H cl N fvs → Passes (CXE P w) (cxLamX P w K mg base N qual scope f cdv cl A outer s H E) (EIn H cl E) →
      ∃ t, PE (cxLamX P w K mg base N qual scope f cdv cl A outer s H E) body t ∧ t (fvs.map some) (hid H (CellOf cl)) fun _ _ => False) :
    FVX P w K mg base (k + 1) f (fun H E => LamAt H f qual params body scope cl ∧ CatchAt H cl N fvs ∧ spb H E) := by
  refine ⟨fun A outer s H E hr e0 hsp => ?_⟩
  obtain ⟨⟨pm, c', ctv, oc, hF, hC, ci⟩, hca, hspb⟩ := hsp
  obtain ⟨hfo, _⟩ := e0.hok f _ hF
  obtain ⟨hco, _⟩ := e0.hok c' _ hC
  obtain ⟨cvs, ct, hd1, hd2⟩ := ci
  have hcode : s.heap.CodeRec (.ref c') qual := ⟨c', oc, cvs, ct, rfl, hco, hd1, hd2⟩
  refine ⟨⟨_, _, _, _, hfo⟩, ?_⟩
  have lim : s.heap.NoLimit := e0.mod.nolimit.keeps fun b o e => (e0.bs b o e).1
  have ce : Cells cl H s := ⟨fun x c e => by
    obtain ⟨i, hi⟩ := List.getElem?_of_mem (hcells x c e)
    have hlen := Paired.length hca
    obtain ⟨v, hv⟩ : ∃ v, fvs[i]? = some v := by
      have := (List.getElem?_eq_some_iff.mp hi).1
      exact ⟨fvs[i]'(by omega), by simp⟩
    obtain ⟨c2, e2, o, u, h1, h2, _⟩ := hca.get hi hv
    rw [e] at e2; cases e2
    exact ⟨o, u, h1, h2, (e0.hok c _ h1).1⟩⟩
  have hn0 : ∀ b, H b = none → hid H (CellOf cl) b = none := fun b e => by rw [hid_out (ce.ncn b e)]; exact e
  refine PySem.W.kla_callFunE hr.depth hfo rfl S.co S.gen rfl hcode ?_
  rw [hbind pm (.ref c') ctv]
  refine wpAny_pure (wpAny_newFunctionEnv S.nocell (fun y hy => absurd (show y ∈ ([] : List (Str × Value)) from hy) (by simp)) (fun h₁ hns hsb => ?_) S.kind)
  have hk₁ : ∀ b u, s.heap.get? b = some u → h₁.get? b = some u := fun b u e => hsb.extBut b u (Nat.ne_of_lt (Heap.lt_size e)) (Heap.get?_push_of_some _ e)
  refine ⟨lim.keeps hk₁, ?_⟩
  show codeAny _ _ (.expr body (PySem.W.envX qual scope s.heap.objs.size f (.ref c') cl)) _ _
  obtain ⟨t, ht, hq⟩ := hbody (.ref c') A outer s H E (hr.deeper _) hspb hca (passes_lamX ce e0.frf)
  have hok0 : HOk P w (hid H (CellOf cl)) h₁ := fun a o e => by
    have hc : ¬ CellOf cl a := fun z => by rw [hid_in z] at e; cases e
    rw [hid_out hc] at e
    refine (e0.hok a o e).stay (fun b u _ q => hk₁ b u q) (fun b q => ?_) fun b xs q => ?_
    · rw [hid_out (ce.nfz b _ q fun o' z => by cases z)]; exact q
    · rw [hid_out (ce.nfz b _ q fun o' z => by cases z)]; exact q
  have I : Inv (cxLamX P w K mg base N qual scope f (.ref c') cl A outer s H E) [] (fvs.map some) (hid H (CellOf cl)) { s with heap := h₁, toks := s.toks + ([] : List (Str × Value)).length } := by
    refine ⟨⟨e0.mod, S.kind, rfl, rfl, Nat.le_refl _, inj, fun x hx => ?_, fun _ _ z => (Bool.noConfusion z), fun _ => hr.hd, Around.frames_deeper e0.frames, .inr ⟨rfl, rfl⟩, fun b z => absurd (show b ∈ ([] : List Addr) from z) (by simp),
        fun b o e => ⟨(e0.bs b o e).1, hn0 b (e0.bs b o e).2⟩, e0.bsz, fun b _ _ z => absurd (show b ∈ ([] : List Addr) from z) (by simp), fun b z => absurd (show b ∈ ([] : List Addr) from z) (by simp), e0.funs, fun b hb => hn0 b (e0.frf b hb)⟩,
      rfl, e0.bare, Un.kept hk₁, ⟨_, hns, fun i x v e1 e2 e3 => ?_⟩, fun x c e => ?_, ?_, fun x c e => hid_in ⟨x, e⟩, fun p hp => absurd (show p ∈ ([] : List (Addr × Obj)) from hp) (by simp), hok0, ?_⟩
    · have hx : scope.names.lookup x = some .cell ∨ scope.names.lookup x = some .free := hx
      rcases hx with h | h
      · exact absurd rfl (S.nocell _ (PySem.mem_of_lookup h))
      · exact has x h
    · have e1 : N[i]? = some x := e1
      rw [List.getElem?_map] at e2
      obtain ⟨v', hv', rfl⟩ : ∃ v', fvs[i]? = some v' ∧ v' = v := by
        cases q : fvs[i]? with
        | none => rw [q] at e2; cases e2
        | some a => rw [q] at e2; exact ⟨a, rfl, Option.some.inj (Option.some.inj e2)⟩
      obtain ⟨c, hc, o, u, h1, h2, ru⟩ := hca.get e1 hv'
      exact ⟨u, ru, .inr ⟨.inr (S.fre x (by rw [List.length_nil, List.drop_zero]; exact List.mem_of_getElem? e1)), c, hc, ⟨o, hk₁ _ _ (e0.hok c _ h1).1, h2⟩⟩⟩
    · obtain ⟨o, u, _, h2, h3⟩ := ce.at_ x c e
      exact ⟨_, o, hk₁ _ _ h3, h2⟩
    · exact hn0 _ (e0.hok.fresh (Nat.le_refl _))
    · show (fvs.map some).length = N.length
      have hlen := Paired.length hca
      rw [List.length_map, ← hlen]
  refine PySem.W.kla_codeExpr (wpAny_mono (ht [] _ _ _ _ I hq) (fun u s' hs => ?_) fun _ _ z => z)
  obtain ⟨v, H', J, rv, q⟩ := hs
  exact q.elim
theorem yb_str : bootBuiltins "str" = some (.type "str") := by decide +kernel
theorem yb_ValueError : bootBuiltins "ValueError" = some (.type "ValueError") := by decide +kernel
end L2

namespace LW
open PySem PySem.Spec PyProof.Rows L2 YO
def top (i : Nat) : Stmt := PySem.Challenge.pw_yourorder_k10_refusals_apart.main.body.getD i (.Pass ⟨0, 0, 0, 0⟩)
abbrev s_pop : Stmt := top 6
abbrev s_lower : Stmt := top 15
abbrev s_count_in_front : Stmt := top 16
abbrev s_least : Stmt := top 20
abbrev s_ends : Stmt := top 21
abbrev s_nth : Stmt := top 22
abbrev s_Map___init__ : Stmt := inClass (top 18) 0
abbrev s_Map_get : Stmt := inClass (top 18) 3
abbrev s_Map_at : Stmt := inClass (top 18) 6
abbrev s_Map_rank : Stmt := inClass (top 18) 8
abbrev s_Map_is_like : Stmt := inClass (top 18) 10
abbrev s__law_cell : Stmt := top 24
abbrev s__law_drawn : Stmt := top 25
abbrev s__law_word : Stmt := top 26
abbrev s_law : Stmt := top 28
theorem sc_pop : FnScope ["heap", "order", "others"] ["heap", "order"] (defScope s_pop) := ⟨rfl, rfl, rfl, by decide +kernel, rfl, by decide +kernel, by decide +kernel⟩
theorem sc_lower : FnScope ["row", "key", "order"] ["row", "key", "order"] (defScope s_lower) := ⟨rfl, rfl, rfl, by decide +kernel, rfl, by decide +kernel, by decide +kernel⟩
theorem sc_count_in_front : FnScope ["row", "is_in_front", "low", "high", "middle"] ["row", "is_in_front"] (defScope s_count_in_front) := ⟨rfl, rfl, rfl, by decide +kernel, rfl, by decide +kernel, by decide +kernel⟩
theorem sc_least : FnScope ["row", "order", "told", "element"] ["row", "order"] (defScope s_least) := ⟨rfl, rfl, rfl, by decide +kernel, rfl, by decide +kernel, by decide +kernel⟩
theorem sc_ends : FnScope ["row", "order", "in_front", "behind", "k", "is_turned"] ["row", "order"] (defScope s_ends) := ⟨rfl, rfl, rfl, by decide +kernel, rfl, by decide +kernel, by decide +kernel⟩
theorem sc_nth : FnScope ["row", "k", "order"] ["row", "k", "order"] (defScope s_nth) := ⟨rfl, rfl, rfl, by decide +kernel, rfl, by decide +kernel, by decide +kernel⟩
theorem sc_Map___init__ : FnScope ["self", "order"] ["self", "order"] (defScope s_Map___init__) := ⟨rfl, rfl, rfl, by decide +kernel, rfl, by decide +kernel, by decide +kernel⟩
theorem sc_Map_get : FnScope ["self", "key", "place"] ["self", "key"] (defScope s_Map_get) := ⟨rfl, rfl, rfl, by decide +kernel, rfl, by decide +kernel, by decide +kernel⟩
theorem sc_Map_at : FnScope ["self", "place"] ["self", "place"] (defScope s_Map_at) := ⟨rfl, rfl, rfl, by decide +kernel, rfl, by decide +kernel, by decide +kernel⟩
theorem sc_Map_rank : FnScope ["self", "key", "order"] ["self", "key"] (defScope s_Map_rank) := ⟨rfl, rfl, rfl, by decide +kernel, rfl, by decide +kernel, by decide +kernel⟩
theorem sc_Map_is_like : FnScope ["self", "place", "key", "order"] ["self", "place", "key"] (defScope s_Map_is_like) := ⟨rfl, rfl, rfl, by decide +kernel, rfl, by decide +kernel, by decide +kernel⟩
theorem sc__law_cell : FnScope ["_law_script", "_law_k"] ["_law_script", "_law_k"] (defScope s__law_cell) := ⟨rfl, rfl, rfl, by decide +kernel, rfl, by decide +kernel, by decide +kernel⟩
theorem sc__law_drawn : FnScope ["_law_cell_here", "_law_k", "_law_more"] ["_law_cell_here", "_law_k"] (defScope s__law_drawn) := ⟨rfl, rfl, rfl, by decide +kernel, rfl, by decide +kernel, by decide +kernel⟩
theorem sc__law_word : FnScope ["_law_rule", "e"] ["_law_rule"] (defScope s__law_word) := ⟨rfl, rfl, rfl, by decide +kernel, rfl, by decide +kernel, by decide +kernel⟩
theorem sc_law : FnScope ["_law_script", "_law_words", "_law_asked", "_law_order", "_law_many", "_law_row", "_law_place"] ["_law_script"] (defScope s_law) := ⟨rfl, rfl, rfl, by decide +kernel, rfl, by decide +kernel, by decide +kernel⟩
structure Adr where
  C_Map : Addr
  X_NoElement : Addr
  X_NoPlace : Addr
  X_OrderError : Addr
  f_pop : Addr
  d_pop : FuncData
  f_lower : Addr
  d_lower : FuncData
  c_lower : Addr
  t_lower : Addr
  f_count_in_front : Addr
  d_count_in_front : FuncData
  f_least : Addr
  d_least : FuncData
  f_ends : Addr
  d_ends : FuncData
  c_ends : Addr
  t_ends : Addr
  f_nth : Addr
  d_nth : FuncData
  f_Map___init__ : Addr
  d_Map___init__ : FuncData
  f_Map_get : Addr
  d_Map_get : FuncData
  f_Map_at : Addr
  d_Map_at : FuncData
  f_Map_rank : Addr
  d_Map_rank : FuncData
  c_Map_rank : Addr
  t_Map_rank : Addr
  f_Map_is_like : Addr
  d_Map_is_like : FuncData
  f__law_cell : Addr
  d__law_cell : FuncData
  f__law_drawn : Addr
  d__law_drawn : FuncData
  f__law_word : Addr
  d__law_word : FuncData
  f_law : Addr
  d_law : FuncData
  c_law : Addr
  t_law : Addr
structure Txt (K : PySem.W.Frag) (mg : Str → Option Value) (A : Adr) : Prop where
  cl_Map : Cls K A.C_Map
  mgC_Map : mg "Map" = some (.ref A.C_Map)
  mk_Map : Mk K A.C_Map A.f_Map___init__
  n_Map_kept : NoAttr K A.C_Map "kept"
  n_Map_order : NoAttr K A.C_Map "order"
  mgX_NoElement : mg "NoElement" = some (.ref A.X_NoElement)
  mgX_NoPlace : mg "NoPlace" = some (.ref A.X_NoPlace)
  mgX_OrderError : mg "OrderError" = some (.ref A.X_OrderError)
  xc_NoElement : XCls K A.X_NoElement
  ex_NoElement : PySem.W.exmOne K (.ref A.X_NoElement) (.ref A.X_OrderError) = some true
  kv_NoElement : PySem.W.kitOne K (.ref A.X_NoElement) (.type "ValueError") = some true
  kt_NoElement_NoElement : PySem.W.kitOne K (.ref A.X_NoElement) (.ref A.X_NoElement) = some true
  kt_NoElement_NoPlace : PySem.W.kitOne K (.ref A.X_NoElement) (.ref A.X_NoPlace) = some false
  xc_NoPlace : XCls K A.X_NoPlace
  ex_NoPlace : PySem.W.exmOne K (.ref A.X_NoPlace) (.ref A.X_OrderError) = some true
  kv_NoPlace : PySem.W.kitOne K (.ref A.X_NoPlace) (.type "ValueError") = some true
  kt_NoPlace_NoElement : PySem.W.kitOne K (.ref A.X_NoPlace) (.ref A.X_NoElement) = some false
  kt_NoPlace_NoPlace : PySem.W.kitOne K (.ref A.X_NoPlace) (.ref A.X_NoPlace) = some true
  fn_pop : Fun K "pop" "pop" s_pop A.f_pop A.d_pop
  mg_pop : mg "pop" = some (.ref A.f_pop)
  b_pop : Binds K A.d_pop ["heap", "order"] []
  fn_lower : Fun K "lower" "lower" s_lower A.f_lower A.d_lower
  mg_lower : mg "lower" = some (.ref A.f_lower)
  b_lower : Binds K A.d_lower ["row", "key", "order"] []
  cd_lower : A.d_lower.code = .ref A.c_lower
  fn_count_in_front : Fun K "count_in_front" "count_in_front" s_count_in_front A.f_count_in_front A.d_count_in_front
  mg_count_in_front : mg "count_in_front" = some (.ref A.f_count_in_front)
  b_count_in_front : Binds K A.d_count_in_front ["row", "is_in_front"] []
  fn_least : Fun K "least" "least" s_least A.f_least A.d_least
  mg_least : mg "least" = some (.ref A.f_least)
  b_least : Binds K A.d_least ["row", "order"] []
  fn_ends : Fun K "ends" "ends" s_ends A.f_ends A.d_ends
  mg_ends : mg "ends" = some (.ref A.f_ends)
  b_ends : Binds K A.d_ends ["row", "order"] []
  cd_ends : A.d_ends.code = .ref A.c_ends
  fn_nth : Fun K "nth" "nth" s_nth A.f_nth A.d_nth
  mg_nth : mg "nth" = some (.ref A.f_nth)
  b_nth : Binds K A.d_nth ["row", "k", "order"] []
  fn_Map___init__ : Fun K "__init__" "Map.__init__" s_Map___init__ A.f_Map___init__ A.d_Map___init__
  m_Map___init__ : Meth K A.C_Map "__init__" A.f_Map___init__
  b_Map___init__ : Binds K A.d_Map___init__ ["self", "order"] []
  fn_Map_get : Fun K "get" "Map.get" s_Map_get A.f_Map_get A.d_Map_get
  m_Map_get : Meth K A.C_Map "get" A.f_Map_get
  b_Map_get : Binds K A.d_Map_get ["self", "key"] []
  fn_Map_at : Fun K "at" "Map.at" s_Map_at A.f_Map_at A.d_Map_at
  m_Map_at : Meth K A.C_Map "at" A.f_Map_at
  b_Map_at : Binds K A.d_Map_at ["self", "place"] []
  fn_Map_rank : Fun K "rank" "Map.rank" s_Map_rank A.f_Map_rank A.d_Map_rank
  m_Map_rank : Meth K A.C_Map "rank" A.f_Map_rank
  b_Map_rank : Binds K A.d_Map_rank ["self", "key"] []
  cd_Map_rank : A.d_Map_rank.code = .ref A.c_Map_rank
  fn_Map_is_like : Fun K "is_like" "Map.is_like" s_Map_is_like A.f_Map_is_like A.d_Map_is_like
  m_Map_is_like : Meth K A.C_Map "is_like" A.f_Map_is_like
  b_Map_is_like : Binds K A.d_Map_is_like ["self", "place", "key"] []
  fn__law_cell : Fun K "_law_cell" "_law_cell" s__law_cell A.f__law_cell A.d__law_cell
  mg__law_cell : mg "_law_cell" = some (.ref A.f__law_cell)
  b__law_cell : Binds K A.d__law_cell ["_law_script", "_law_k"] []
  fn__law_drawn : Fun K "_law_drawn" "_law_drawn" s__law_drawn A.f__law_drawn A.d__law_drawn
  mg__law_drawn : mg "_law_drawn" = some (.ref A.f__law_drawn)
  b__law_drawn : Binds K A.d__law_drawn ["_law_cell_here", "_law_k"] []
  fn__law_word : Fun K "_law_word" "_law_word" s__law_word A.f__law_word A.d__law_word
  mg__law_word : mg "_law_word" = some (.ref A.f__law_word)
  b__law_word : Binds K A.d__law_word ["_law_rule"] []
  fn_law : Fun K "law" "law" s_law A.f_law A.d_law
  mg_law : mg "law" = some (.ref A.f_law)
  b_law : Binds K A.d_law ["_law_script"] []
  cd_law : A.d_law.code = .ref A.c_law
  bt_law : ∀ (s : Shared) (u : Value), BindsTo s A.d_law ⟨[u], []⟩ [("_law_script", u)]
  bl_len : mg "len" = none
  bl_int : mg "int" = none
  bl_isinstance : mg "isinstance" = none
  bl_ValueError : mg "ValueError" = none
  bl_range : mg "range" = none
  bl_str : mg "str" = none
  bl_list : mg "list" = none
  ne_lower_ends : A.t_lower ≠ A.t_ends
  ne_lower_Map_rank : A.t_lower ≠ A.t_Map_rank
  ne_lower_law : A.t_lower ≠ A.t_law
  ne_ends_Map_rank : A.t_ends ≠ A.t_Map_rank
  ne_ends_law : A.t_ends ≠ A.t_law
  ne_Map_rank_law : A.t_Map_rank ≠ A.t_law
def tabs (A : Adr) : List (Addr × Addr) := [(A.c_lower, A.t_lower), (A.c_ends, A.t_ends), (A.c_Map_rank, A.t_Map_rank), (A.c_law, A.t_law)]
abbrev bmV : List Value := [.type "ValueError", .type "Exception", .type "BaseException", .type "object"]
structure Own (mg : Str → Option Value) (base : Heap) (A : Adr) : Prop where
  NoElement : OwnCls "NoElement" A.X_NoElement bmV "ValueError.__new__" mg base
  NoPlace : OwnCls "NoPlace" A.X_NoPlace bmV "ValueError.__new__" mg base
def spLaw (K : PySem.W.Frag) (A : Adr) : Sp := fun vs H Q _ => ∃ (a : Addr) (ns : List Int), vs = [.ref a] ∧ SqF K H a (ns.map V.int) ∧ ns.length ≤ 63 ∧ TabOk H A.t_lower (qL "lower") ∧ TabOk H A.t_ends (qL "ends") ∧ TabOk H A.t_Map_rank (qL "Map.rank") ∧ TabOk H A.t_law (qL "law") ∧ ∀ H', Q (.bl true) H'
/-! ### the law's cells -/
def small (e : Int × Int) : Prop := -(2 ^ 40) < e.1 ∧ e.1 < 2 ^ 40
def spCell (K : PySem.W.Frag) : Sp := fun vs H Q _ => ∃ (a : Addr) (ns : List Int) (k : Int), vs = [.ref a, .int k] ∧ SqL K H a (ns.map V.int) ∧ ns.length ≤ 63 ∧ 0 ≤ k ∧ ∀ H', Same H H' → Q (.int (cellF ns k)) H'
def spDrawn : Sp := fun vs H Q _ => ∃ c k : Int, vs = [.int c, .int k] ∧ Q (.int (drawnF c k)) H
section
variable {P : Program} {w : World} {K : PySem.W.Frag} {mg : Str → Option Value} {base : Heap} {A : Adr}
theorem ok__law_drawn (T : Txt K mg A) : FnOk P w K mg base CX0 1 A.f__law_drawn A.d__law_drawn ["_law_cell_here", "_law_k"] spDrawn := by
  refine T.fn__law_drawn.ok sc__law_drawn (fun vs H Q E h => ?_) (fun cdv Ar outer s H vs Q E hr h => ?_)
  · obtain ⟨c, k, rfl, _⟩ := h
    rfl
  · obtain ⟨c, k, rfl, q⟩ := h
    have nd := sc__law_drawn.nd
    refine ⟨_, (pss_cons (ps_set (i := 2) nd rfl (Or.inl rfl) (pe_op op_mod (pe_op op_add (pe_op op_mul (pv 0) pe_int) (pe_op op_mul (pe_op op_add (pv 1) pe_int) pe_int)) pe_int))
      (pss_one (ps_ret (pe_op op_mod (pe_op op_mulB (pv 2) (pv 2)) pe_int)))), ?_⟩
    refine ⟨_, rfl, ⟨_, _, rfl, rfl, .inr ⟨by omega, by omega⟩, ⟨_, rfl, ⟨_, _, rfl, rfl, ⟨_, _, rfl, rfl, .inr ⟨by omega, by omega⟩, ⟨_, _, rfl, rfl, ⟨_, _, rfl, rfl, by omega, ⟨_, rfl, ⟨_, rfl, ⟨_, _, rfl, rfl, ?mul, ⟨_, _, rfl, rfl, by omega, q⟩⟩⟩⟩⟩⟩⟩⟩⟩⟩⟩
    have h1 := Int.emod_nonneg (c * 6364136223846793005 + (k + 1) * 1442695040888963407) (show (340282366920938463463374607431768211507 : Int) ≠ 0 by decide)
    have h2 := Int.emod_lt_of_pos (c * 6364136223846793005 + (k + 1) * 1442695040888963407) (show (0 : Int) < 340282366920938463463374607431768211507 by decide)
    have h3 : (340282366920938463463374607431768211507 : Int) < 2 ^ 200 := by decide
    constructor <;> omega
theorem ok__law_cell (T : Txt K mg A) : FnOk P w K mg base CX0 1 A.f__law_cell A.d__law_cell ["_law_script", "_law_k"] (spCell K) := by
  refine T.fn__law_cell.ok sc__law_cell (fun vs H Q E h => ?_) (fun cdv Ar outer s H vs Q E hr h => ?_)
  · obtain ⟨a, ns, k, rfl, _⟩ := h
    rfl
  · obtain ⟨a, ns, k, rfl, hS, hl, hk, q⟩ := h
    have nd := sc__law_cell.nd
    have hu := units150 hr
    refine ⟨_, (pss_cons (ps_if (pt_cmpR (op_eqD hu) (pv 0) (pe_lst pa_nil) (nomark _)) (pss_one (ps_ret (pe_op op_mul (pv 1) pe_int))) pss_nil)
      (pss_one (ps_ret (pe_op op_add (pe_ix ix_list (pv 0) (pe_op op_mod (pv 1) (pe_callB call_len_seq (by rfl) T.bl_len YO.yb_len (pa_cons (pv 0) pa_nil))) (fun _ _ => rfl)) (pe_op op_mul (pe_op op_fdiv (pv 1) (pe_callB call_len_seq (by rfl) T.bl_len YO.yb_len (pa_cons (pv 0) pa_nil))) pe_int))))), ?_⟩
    refine ⟨_, rfl, ⟨Nat.zero_le _, fun p hp => ⟨.lst (ns.map Dd.int), .lst [], ⟨a, _, rfl, (Same.new hp).seq hS, dints⟩, ⟨p, [], rfl, SqL.of upd_same, trivial⟩, rfl, ?dep, ⟨_, rfl, ?_⟩⟩⟩⟩
    case dep =>
      show depDL (ns.map Dd.int) + 1 ≤ 100
      rw [dep_ints]
      decide
    have s1 : Same H (upd H p (.lst [])) := Same.new hp
    have hS1 : SqL K (upd H p (.lst [])) a (ns.map V.int) := s1.seq hS
    cases ns with
    | nil =>
      refine iteT ?_
      refine ⟨_, rfl, ⟨_, _, rfl, rfl, .inr ⟨by omega, by omega⟩, ?_⟩⟩
      exact q _ s1
    | cons n ns =>
      refine iteF ?_
      have hlen : (((n :: ns).map V.int).length : Int) = ((n :: ns).length : Int) := by rw [List.length_map]
      have hpos : (0 : Int) < ((n :: ns).length : Int) := by rw [List.length_cons]; omega
      have hm1 := Int.emod_nonneg k (Int.ne_of_gt hpos)
      have hm2 := Int.emod_lt_of_pos k hpos
      have hat : atI ((n :: ns).map V.int) (k % ((n :: ns).length : Int)) = some (.int ((n :: ns).getD (k % ((n :: ns).length : Int)).toNat 0)) := by
        have e1 : k % ((n :: ns).length : Int) = (((k % ((n :: ns).length : Int)).toNat : Nat) : Int) := by omega
        rw [e1]
        refine atI_nat ?_
        have hlt : (k % ((n :: ns).length : Int)).toNat < (n :: ns).length := by omega
        have e2 : (n :: ns)[(k % ((n :: ns).length : Int)).toNat]? = some (n :: ns)[(k % ((n :: ns).length : Int)).toNat] := List.getElem?_eq_getElem hlt
        simp only [Int.toNat_natCast]
        rw [List.getElem?_map, List.getD_eq_getElem?_getD, e2]
        rfl
      refine ⟨_, rfl, ⟨_, rfl, ⟨_, rfl, ⟨_, _, rfl, .inl hS1, ⟨_, _, rfl, rfl, ?m1, ⟨_, _, _, .int ((n :: ns).getD (k % ((n :: ns).length : Int)).toNat 0), rfl, rfl, hS1, ?at1, ⟨_, rfl, ⟨_, rfl, ⟨_, _, rfl, .inl hS1, ⟨_, _, rfl, rfl, ?d1, ⟨_, _, rfl, rfl, .inr ⟨by omega, by omega⟩, ⟨_, _, rfl, rfl, ?_⟩⟩⟩⟩⟩⟩⟩⟩⟩⟩⟩⟩
      case m1 => rw [hlen]; exact hpos
      case at1 => rw [hlen]; exact hat
      case d1 =>
        rw [hlen]
        exact ⟨hpos, by omega⟩
      rw [hlen]
      exact q _ s1
end

theorem tab_evo {H H1 : Hp} {tb : Addr} {qn : Str} (h : TabOk H tb qn) (hold : ∀ b o, H b = some o → b ≠ tb → H1 b = some o) : Evo (fun b => b = tb) H H1 := fun b o e q => by
  refine hold b o e fun z => ?_
  subst z
  rcases q with q | q
  · exact q rfl
  · obtain ⟨ps, h1, _⟩ := h
    rw [h1] at e; cases e
    exact q
theorem tab_ne {H : Hp} {t b : Addr} {q : Str} {xs : List V} (h : TabOk H t q) (e : H b = some (.lst xs)) : b ≠ t := fun z => by
  obtain ⟨ps, h1, _⟩ := h
  rw [z, h1] at e; cases e

/-! ### what stands still in the law: the script, the row, the table of its lambdas -/
structure LS (K : PySem.W.Frag) (A : Adr) (a : Addr) (ns : List Int) (r : Addr) (xs : List V) (es : List (Int × Int)) (H : Hp) : Prop where
  s : SqF K H a (ns.map V.int)
  r : H r = some (.lst xs)
  e : Els H xs es
  t : TabOk H A.t_law (qL "law")
theorem tabS {H H' : Hp} {t : Addr} {q : Str} (h : TabOk H t q) (s : Same H H') : TabOk H' t q := h.evo (M := fun _ => False) (Same.evo s) id
theorem lst_lam {H H' : Hp} {t p : Addr} {q : Str} {xs : List V} (h : H p = some (.lst xs)) (ht : TabOk H t q) (hold : ∀ b o, H b = some o → b ≠ t → H' b = some o) : H' p = some (.lst xs) := hold _ _ h (tab_ne ht h)

/-- what is known to the last bit stays -/
def Fk (H H' : Hp) : Prop := ∀ b o u, H b = some (.frz o u) → H' b = some (.frz o u)

/-! ### defs that refuse at once -/
theorem fit_row : ∀ n : Nat, n ≤ 200 → ((Str.empty ++ ("the row has no place " : Str)) ++ (toString ((n : Int) - 100) : Str)).length ≤ sizeLine := by
  have h : (List.range 201).all (fun n => decide (((Str.empty ++ ("the row has no place " : Str)) ++ (toString ((n : Int) - 100) : Str)).length ≤ sizeLine)) = true := by decide +kernel
  intro n hn
  exact of_decide_eq_true (List.all_eq_true.mp h n (List.mem_range.mpr (by omega)))
theorem fit_map : ∀ n : Nat, n ≤ 200 → ((Str.empty ++ ("the map has no place " : Str)) ++ (toString ((n : Int) - 100) : Str)).length ≤ sizeLine := by
  have h : (List.range 201).all (fun n => decide (((Str.empty ++ ("the map has no place " : Str)) ++ (toString ((n : Int) - 100) : Str)).length ≤ sizeLine)) = true := by decide +kernel
  intro n hn
  exact of_decide_eq_true (List.all_eq_true.mp h n (List.mem_range.mpr (by omega)))
theorem log_small {i : Int} (h1 : -100 ≤ i) (h2 : i ≤ 100) : i.natAbs.log2 < 1920 := by
  have h : i.natAbs ≤ 100 := by omega
  have : i.natAbs < 2 ^ 1920 := Nat.lt_of_le_of_lt h (by decide +kernel)
  by_cases h0 : i.natAbs = 0
  · rw [h0]; decide
  · exact (Nat.log2_lt h0).mpr this
def spNo1 (K : PySem.W.Frag) (C : Addr) : Sp := fun vs H _ E => ∃ (p : Addr) (f : V), vs = [.ref p, f] ∧ SqL K H p [] ∧ ∀ x, H x = none → E (.ref x) (some C) H
def spNoNth (K : PySem.W.Frag) (C : Addr) : Sp := fun vs H _ E => ∃ (p : Addr) (f : V) (pl : Int) (xs : List V), vs = [.ref p, .int pl, f] ∧ SqL K H p xs ∧ (pl < 0 ∨ (xs.length : Int) ≤ pl) ∧ -100 ≤ pl ∧ pl ≤ 100 ∧ ∀ x, H x = none → E (.ref x) (some C) H
section
variable {P : Program} {w : World} {K : PySem.W.Frag} {mg : Str → Option Value} {base : Heap} {A : Adr}
theorem ok_pop0 {k : Nat} (T : Txt K mg A) (OC : Own mg base A) : FnOk P w K mg base (CXE P w) (k + 1) A.f_pop A.d_pop ["heap", "order"] (spNo1 K A.X_NoElement) := by
  refine T.fn_pop.okX sc_pop (fun vs H Q E h => ?_) (fun cdv Ar outer s H vs Q E hr h => ?_)
  · obtain ⟨p, f, rfl, _⟩ := h
    rfl
  · obtain ⟨p, f, rfl, hS, q⟩ := h
    have nd := sc_pop.nd
    refine ⟨_, (pss_cons (ps_if (pt_cmpR op_eq (pe_callB call_len_seq (by rfl) T.bl_len YO.yb_len (pa_cons (pv 0) pa_nil)) pe_int (nomark _)) (pss_one (ps_raiseN raises_cxOf OC.NoElement PySem.F.excBase_ValueError rfl rfl (pa_cons pe_str pa_nil))) pss_nil) pss_never), ?_⟩
    refine ⟨_, rfl, ⟨_, _, rfl, .inl hS, ⟨rfl, ⟨_, rfl, ?_⟩⟩⟩⟩
    refine iteT ?_
    exact ⟨(by show 1 ≤ sizeLine; decide), q⟩
theorem ok_least0 {k : Nat} (T : Txt K mg A) (OC : Own mg base A) : FnOk P w K mg base (CXE P w) (k + 1) A.f_least A.d_least ["row", "order"] (spNo1 K A.X_NoElement) := by
  refine T.fn_least.okX sc_least (fun vs H Q E h => ?_) (fun cdv Ar outer s H vs Q E hr h => ?_)
  · obtain ⟨p, f, rfl, _⟩ := h
    rfl
  · obtain ⟨p, f, rfl, hS, q⟩ := h
    have nd := sc_least.nd
    refine ⟨_, (pss_cons (ps_if (pt_cmpR op_eq (pe_callB call_len_seq (by rfl) T.bl_len YO.yb_len (pa_cons (pv 0) pa_nil)) pe_int (nomark _)) (pss_one (ps_raiseN raises_cxOf OC.NoElement PySem.F.excBase_ValueError rfl rfl (pa_cons pe_str pa_nil))) pss_nil) pss_never), ?_⟩
    refine ⟨_, rfl, ⟨_, _, rfl, .inl hS, ⟨rfl, ⟨_, rfl, ?_⟩⟩⟩⟩
    refine iteT ?_
    exact ⟨(by show 1 ≤ sizeLine; decide), q⟩
theorem ok_ends0 {k : Nat} (T : Txt K mg A) (OC : Own mg base A) : FnOk P w K mg base (CXE P w) (k + 1) A.f_ends A.d_ends ["row", "order"] (spNo1 K A.X_NoElement) := by
  refine T.fn_ends.okX sc_ends (fun vs H Q E h => ?_) (fun cdv Ar outer s H vs Q E hr h => ?_)
  · obtain ⟨p, f, rfl, _⟩ := h
    rfl
  · obtain ⟨p, f, rfl, hS, q⟩ := h
    have nd := sc_ends.nd
    refine ⟨_, (pss_cons (ps_if (pt_cmpR op_eq (pe_callB call_len_seq (by rfl) T.bl_len YO.yb_len (pa_cons (pv 0) pa_nil)) pe_int (nomark _)) (pss_one (ps_raiseN raises_cxOf OC.NoElement PySem.F.excBase_ValueError rfl rfl (pa_cons pe_str pa_nil))) pss_nil) pss_never), ?_⟩
    refine ⟨_, rfl, ⟨_, _, rfl, .inl hS, ⟨rfl, ⟨_, rfl, ?_⟩⟩⟩⟩
    refine iteT ?_
    exact ⟨(by show 1 ≤ sizeLine; decide), q⟩
theorem ok_nth0 {k : Nat} (T : Txt K mg A) (OC : Own mg base A) : FnOk P w K mg base (CXE P w) (k + 1) A.f_nth A.d_nth ["row", "k", "order"] (spNoNth K A.X_NoPlace) := by
  refine T.fn_nth.okX sc_nth (fun vs H Q E h => ?_) (fun cdv Ar outer s H vs Q E hr h => ?_)
  · obtain ⟨p, f, pl, xs, rfl, _⟩ := h
    rfl
  · obtain ⟨p, f, pl, xs, rfl, hS, hpl, h1, h2, q⟩ := h
    have nd := sc_nth.nd
    have rs : ∃ i' : Int, V.int pl = V.int i' ∧ i'.natAbs.log2 < 1920 ∧ ((Str.empty ++ ("the row has no place " : Str)) ++ (toString i' : Str)).length ≤ sizeLine ∧ ∀ y : Str, ([V.str y] : List V).length ≤ sizeLine ∧ ∀ x, H x = none → E (.ref x) (some A.X_NoPlace) H := by
      have hf := fit_row (pl + 100).toNat (by omega)
      rw [Int.toNat_of_nonneg (by omega), show pl + 100 - 100 = pl by omega] at hf
      exact ⟨pl, rfl, log_small h1 h2, hf, fun y => ⟨(by show 1 ≤ sizeLine; decide), q⟩⟩
    refine ⟨_, (pss_cons (ps_if (PW.pt (pw_or (pt_cmpR op_lt (pv 1) pe_int (nomark _)) (pw_or1 (pt_cmpR op_ge (pv 1) (pe_callB call_len_seq (by rfl) T.bl_len YO.yb_len (pa_cons (pv 0) pa_nil)) (nomark _))))) (pss_one (ps_raiseN raises_cxOf OC.NoPlace PySem.F.excBase_ValueError rfl rfl (pa_cons pe_str pa_nil))) pss_nil) pss_never), ?_⟩
    refine ⟨_, rfl, ⟨_, _, rfl, rfl, ⟨_, rfl, ?_⟩⟩⟩
    refine iteD (fun hc => ?_) (fun hc => ?_)
    · first
      | exact ⟨_, rfl, rs⟩
      | exact ⟨(by show 1 ≤ sizeLine; decide), q⟩
    refine ⟨_, rfl, ⟨_, rfl, ⟨_, _, rfl, .inl hS, ⟨_, _, rfl, rfl, ⟨_, rfl, ?_⟩⟩⟩⟩⟩
    refine iteDT (by omega) ?_
    first
      | exact ⟨_, rfl, rs⟩
      | exact ⟨(by show 1 ≤ sizeLine; decide), q⟩
end
/-! ### a map that is empty -/
def mfl (f : V) (kl : Addr) : List (Str × V) := [("order", f), ("kept", V.ref kl)]
theorem mfl_order (f : V) (kl : Addr) : (mfl f kl).lookup ("order" : Str) = some f := by unfold mfl; rw [List.lookup_cons]; rfl
theorem ko : (("kept" : Str) == "order") = false := by decide +kernel
theorem mfl_kept (f : V) (kl : Addr) : (mfl f kl).lookup ("kept" : Str) = some (.ref kl) := by
  unfold mfl
  rw [List.lookup_cons, ko, List.lookup_cons]
  simp
theorem mfl_no (f : V) (kl : Addr) {m : Str} (h1 : (m == "order") = false) (h2 : (m == "kept") = false) : (mfl f kl).lookup m = none := by
  unfold mfl
  rw [List.lookup_cons, h1, List.lookup_cons, h2]
  rfl
theorem mfl_mk (f : V) (kl : Addr) : putF "kept" (.ref kl) (putF "order" f []) = mfl f kl := by
  show (if ("order" : Str) = "kept" then _ else _ :: _) = _
  rw [if_neg (by decide +kernel)]; rfl
structure Map0 (A : Adr) (H : Hp) (p : Addr) (f : V) (kl : Addr) : Prop where
  ins : ∃ dx, H p = some (.ins A.C_Map dx (mfl f kl))
  kept : H kl = some (.lst [])
def spMInit (A : Adr) : Sp := fun vs H Q _ => ∃ (p dx : Addr) (f : V), vs = [.ref p, f] ∧ H p = some (.ins A.C_Map dx []) ∧ ∀ kl H', H kl = none → Map0 A H' p f kl → (∀ b u, H b = some u → b ≠ p → H' b = some u) → Q .non H'
def spCif0 : Sp := fun vs H Q _ => ∃ (a : Addr) (f : V), vs = [.ref a, f] ∧ H a = some (.lst []) ∧ Q (.int 0) H
def spLower0 (A : Adr) : Sp := fun vs H Q _ => ∃ (a : Addr) (key f : V), vs = [.ref a, key, f] ∧ H a = some (.lst []) ∧ TabOk H A.t_lower (qL "lower") ∧ ∀ H', Evo (fun b => b = A.t_lower) H H' → Q (.int 0) H'
def spRank0 (A : Adr) : Sp := fun vs H Q _ => ∃ (p : Addr) (key f : V) (kl : Addr), vs = [.ref p, key] ∧ Map0 A H p f kl ∧ TabOk H A.t_lower (qL "lower") ∧ TabOk H A.t_Map_rank (qL "Map.rank") ∧ ∀ H', Evo (fun b => b = A.t_lower ∨ b = A.t_Map_rank) H H' → Q (.int 0) H'
def spLike0 (A : Adr) : Sp := fun vs H Q _ => ∃ (p : Addr) (key f : V) (kl : Addr), vs = [.ref p, .int 0, key] ∧ Map0 A H p f kl ∧ Q (.bl false) H
def spGet0 (A : Adr) : Sp := fun vs H _ E => ∃ (p : Addr) (key f : V) (kl : Addr), vs = [.ref p, key] ∧ Map0 A H p f kl ∧ TabOk H A.t_lower (qL "lower") ∧ TabOk H A.t_Map_rank (qL "Map.rank") ∧ ∀ x H', H' x = none → Evo (fun b => b = A.t_lower ∨ b = A.t_Map_rank) H H' → E (.ref x) (some A.X_NoElement) H'
def spAt0 (A : Adr) : Sp := fun vs H _ E => ∃ (p : Addr) (f : V) (kl : Addr) (i : Int), vs = [.ref p, .int i] ∧ Map0 A H p f kl ∧ -100 ≤ i ∧ i ≤ 100 ∧ ∀ x, H x = none → E (.ref x) (some A.X_NoPlace) H
section
variable {P : Program} {w : World} {K : PySem.W.Frag} {mg : Str → Option Value} {base : Heap} {A : Adr}
theorem ok_Map___init__ {k : Nat} (T : Txt K mg A) : FnOk P w K mg base CX0 (k + 1) A.f_Map___init__ A.d_Map___init__ ["self", "order"] (spMInit A) := by
  refine T.fn_Map___init__.ok sc_Map___init__ (fun vs H Q E h => ?_) (fun cdv Ar outer s H vs Q E hr h => ?_)
  · obtain ⟨p, dx, f, rfl, _⟩ := h
    rfl
  · obtain ⟨p, dx, f, rfl, hp, q⟩ := h
    have nd := sc_Map___init__.nd
    refine ⟨_, (pss_cons (ps_fld (pv 0) (pv 1) rfl)
      (pss_one (ps_fld (pv 0) (pe_lst pa_nil) rfl))), ?_⟩
    refine ⟨_, rfl, ⟨_, rfl, ⟨p, A.C_Map, dx, [], rfl, hp, T.cl_Map, T.n_Map_order, (by show 0 < 1000; decide), ?_⟩⟩⟩
    refine ⟨Nat.zero_le _, fun kl hkl => ⟨_, rfl, ⟨p, A.C_Map, dx, _, rfl, upd_old hkl upd_same, T.cl_Map, T.n_Map_kept, (by show 1 < 1000; decide), ?_⟩⟩⟩
    rw [mfl_mk]
    have npk : p ≠ kl := fun z => by rw [z, upd_same] at hkl; cases hkl
    have hkl0 : H kl = none := by rw [upd_ne npk.symm] at hkl; exact hkl
    refine q kl _ hkl0 ⟨⟨dx, upd_same⟩, by rw [upd_ne npk.symm, upd_same]⟩ fun b u e hb => ?_
    rw [upd_ne hb, upd_ne (ne_of_none e hkl0), upd_ne hb]; exact e
theorem ok_count0 {k : Nat} (T : Txt K mg A) : FnOk P w K mg base CX0 (k + 1) A.f_count_in_front A.d_count_in_front ["row", "is_in_front"] spCif0 := by
  refine T.fn_count_in_front.ok sc_count_in_front (fun vs H Q E h => ?_) (fun cdv Ar outer s H vs Q E hr h => ?_)
  · obtain ⟨a, f, rfl, _⟩ := h
    rfl
  · obtain ⟨a, f, rfl, ha, q⟩ := h
    have nd := sc_count_in_front.nd
    refine ⟨_, (pss_cons (ps_set (i := 2) nd rfl (Or.inl rfl) pe_int)
      (pss_cons (ps_set (i := 3) nd rfl (Or.inl rfl) (pe_callB call_len_seq (by rfl) T.bl_len YO.yb_len (pa_cons (pv 0) pa_nil)))
      (pss_cons (ps_while PassesOwn.never (pt_cmpR op_lt (pv 2) (pv 3) (nomark _)) (pss_cons (ps_set (i := 4) nd rfl (Or.inl rfl) (pe_op op_fdiv (pe_op op_add (pv 2) (pv 3)) pe_int))
      (pss_one (ps_if (pt_val (pe_callV (pv 1) (pa_cons (pe_ix ix_list (pv 0) (pv 4) (fun _ _ => rfl)) pa_nil))) (pss_one (ps_set (i := 2) nd rfl (Or.inl rfl) (pe_op op_add (pv 4) pe_int))) (pss_one (ps_set (i := 3) nd rfl (Or.inl rfl) (pv 4)))))))
      (pss_one (ps_ret (pv 2)))))), ?_⟩
    refine ⟨_, rfl, ⟨_, _, rfl, .inl (SqL.of ha), ?_⟩⟩
    refine ⟨fun m σ H' => σ = [some (.ref a), some f, some (.int 0), some (.int 0), none] ∧ m = 0 ∧ H' = H, ⟨0, rfl, rfl, rfl⟩, ?_⟩
    rintro m σ H' ⟨rfl, rfl, rfl⟩
    refine ⟨_, rfl, ⟨_, rfl, ⟨_, _, rfl, rfl, ⟨_, rfl, ?_⟩⟩⟩⟩
    refine iteDF (by omega) ?_
    exact ⟨_, rfl, q⟩
theorem ok_lower0 {k : Nat} (T : Txt K mg A) (CH : PySem.W.CodeHd base A.c_lower A.t_lower) (bm : BMain mg base) : FnOk P w K mg base CX0 (k + 2) A.f_lower A.d_lower ["row", "key", "order"] (spLower0 A) := by
  have G_count_in_front : FnOk P w K mg base CX0 (k + 1) A.f_count_in_front A.d_count_in_front _ spCif0 := ok_count0 T
  refine T.fn_lower.okC sc_lower (fun vs H Q E h => ?_) (fun cdv hcdv Ar outer s H vs Q E hr h => ?_)
  · obtain ⟨a, key, f, rfl, _⟩ := h
    rfl
  · obtain ⟨a, key, f, rfl, ha, hTab, q⟩ := h
    have nd := sc_lower.nd
    have hcd : cdv = .ref A.c_lower := hcdv.symm.trans T.cd_lower
    refine ⟨_, (pss_one (ps_ret (pe_callF G_count_in_front (hr.mono (by omega)) rfl T.mg_count_in_front T.fn_count_in_front.kp T.b_count_in_front (pa_cons (pv 0) (pa_cons (pe_lam hcd CH bm rfl) pa_nil))))), ?_⟩
    refine ⟨_, rfl, ⟨hTab, fun g H1 ok hgn hlam htab hold Hf Z => ?_⟩⟩
    have ev1 := tab_evo hTab hold
    have ha1 := ev1.lst ha (tab_ne hTab ha)
    exact ⟨a, .ref g, rfl, Z.to ha1, q _ (ev1.trans (Z.back Evo.refl))⟩
theorem ok_rank0 {k : Nat} (T : Txt K mg A) (CH1 : PySem.W.CodeHd base A.c_lower A.t_lower) (CH : PySem.W.CodeHd base A.c_Map_rank A.t_Map_rank) (bm : BMain mg base) : FnOk P w K mg base CX0 (k + 3) A.f_Map_rank A.d_Map_rank ["self", "key"] (spRank0 A) := by
  have G_lower : FnOk P w K mg base CX0 (k + 2) A.f_lower A.d_lower _ (spLower0 A) := ok_lower0 T CH1 bm
  refine T.fn_Map_rank.okC sc_Map_rank (fun vs H Q E h => ?_) (fun cdv hcdv Ar outer s H vs Q E hr h => ?_)
  · obtain ⟨p, key, f, kl, rfl, _⟩ := h
    rfl
  · obtain ⟨p, key, f, kl, rfl, ⟨⟨dx, hp⟩, hkl⟩, hT1, hT2, q⟩ := h
    have nd := sc_Map_rank.nd
    have hcd : cdv = .ref A.c_Map_rank := hcdv.symm.trans T.cd_Map_rank
    refine ⟨_, (pss_cons (ps_set (i := 2) nd rfl (Or.inr rfl) (pe_fld (pv 0) rfl))
      (pss_one (ps_ret (pe_callF G_lower (hr.mono (by omega)) rfl T.mg_lower T.fn_lower.kp T.b_lower (pa_cons (pe_fld (pv 0) rfl) (pa_cons (pv 1) (pa_cons (pe_lam hcd CH bm rfl) pa_nil))))))), ?_⟩
    refine ⟨_, rfl, ⟨p, _, dx, _, _, rfl, hp, T.cl_Map, T.n_Map_order, mfl_order _ _, ?_⟩⟩
    refine ⟨_, rfl, ⟨p, _, dx, _, _, rfl, hp, T.cl_Map, T.n_Map_kept, mfl_kept _ _, ⟨_, rfl, ⟨hT2, fun g H1 ok hgn hlam htab hold Hf Z => ?_⟩⟩⟩⟩
    have ev1 := tab_evo hT2 hold
    have hk1 := ev1.lst hkl (tab_ne hT2 hkl)
    have hTf1 : TabOk Hf A.t_lower (qL "lower") := tabS (hT1.evo ev1 (fun z => T.ne_lower_Map_rank z)) Z.same'
    exact ⟨kl, key, .ref g, rfl, Z.to hk1, hTf1, fun Hf' ev => q _ ((ev1.mono fun b z => .inr z).trans ((Z.back ev).mono fun b z => .inl z))⟩
theorem ok_like0 {k : Nat} (T : Txt K mg A) : FnOk P w K mg base CX0 (k + 1) A.f_Map_is_like A.d_Map_is_like ["self", "place", "key"] (spLike0 A) := by
  refine T.fn_Map_is_like.ok sc_Map_is_like (fun vs H Q E h => ?_) (fun cdv Ar outer s H vs Q E hr h => ?_)
  · obtain ⟨p, key, f, kl, rfl, _⟩ := h
    rfl
  · obtain ⟨p, key, f, kl, rfl, ⟨⟨dx, hp⟩, hkl⟩, q⟩ := h
    have nd := sc_Map_is_like.nd
    refine ⟨_, (pss_cons (ps_set (i := 3) nd rfl (Or.inl rfl) (pe_fld (pv 0) rfl))
      (pss_one (ps_ret (pe_and (pe_cmpR op_lt (pv 1) (pe_callB call_len_seq (by rfl) T.bl_len YO.yb_len (pa_cons (pe_fld (pv 0) rfl) pa_nil)) (nomark _)) (pe_one (pe_cmpR op_eq (pe_callV (pv 3) (pa_cons (pe_ix ix_tup (pe_ix ix_list (pe_fld (pv 0) rfl) (pv 1) (fun _ _ => rfl)) pe_int (fun _ _ => rfl)) (pa_cons (pv 2) pa_nil))) pe_int (nomark _))))))), ?_⟩
    refine ⟨_, rfl, ⟨p, _, dx, _, _, rfl, hp, T.cl_Map, T.n_Map_order, mfl_order _ _, ?_⟩⟩
    refine ⟨_, rfl, ⟨_, rfl, ⟨p, _, dx, _, _, rfl, hp, T.cl_Map, T.n_Map_kept, mfl_kept _ _, ⟨_, _, rfl, .inl (SqL.of hkl), ⟨_, _, rfl, rfl, ⟨_, rfl, ?_⟩⟩⟩⟩⟩⟩
    refine iteDF (by show ¬ (0 : Int) < ((0 : Nat) : Int); omega) ?_
    exact q
theorem ok_get0 {k : Nat} (T : Txt K mg A) (CH1 : PySem.W.CodeHd base A.c_lower A.t_lower) (CH : PySem.W.CodeHd base A.c_Map_rank A.t_Map_rank) (bm : BMain mg base) (OC : Own mg base A) : FnOk P w K mg base (CXE P w) (k + 4) A.f_Map_get A.d_Map_get ["self", "key"] (spGet0 A) := by
  have G_Map_rank : FnOk P w K mg base CX0 (k + 3) A.f_Map_rank A.d_Map_rank _ (spRank0 A) := ok_rank0 T CH1 CH bm
  have G_Map_is_like : FnOk P w K mg base CX0 (k + 1) A.f_Map_is_like A.d_Map_is_like _ (spLike0 A) := ok_like0 T
  refine T.fn_Map_get.okX sc_Map_get (fun vs H Q E h => ?_) (fun cdv Ar outer s H vs Q E hr h => ?_)
  · obtain ⟨p, key, f, kl, rfl, _⟩ := h
    rfl
  · obtain ⟨p, key, f, kl, rfl, ⟨⟨dx, hp⟩, hkl⟩, hT1, hT2, q⟩ := h
    have nd := sc_Map_get.nd
    refine ⟨_, (pss_cons (ps_set (i := 2) nd rfl (Or.inl rfl) (pe_meth (pv 0) T.cl_Map T.m_Map_rank G_Map_rank (hr.mono (by omega)) T.b_Map_rank .nil pass0 (pa_cons (pv 1) pa_nil)))
      (pss_cons (ps_if (pt_val (pe_meth (pv 0) T.cl_Map T.m_Map_is_like G_Map_is_like (hr.mono (by omega)) T.b_Map_is_like .nil pass0 (pa_cons (pv 2) (pa_cons (pv 1) pa_nil)))) (pss_one (ps_ret (pe_ix ix_tup (pe_ix ix_list (pe_fld (pv 0) rfl) (pv 2) (fun _ _ => rfl)) pe_int (fun _ _ => rfl)))) pss_nil)
      (pss_one (ps_raiseN raises_cxOf OC.NoElement PySem.F.excBase_ValueError rfl rfl (pa_cons pe_str pa_nil))))), ?_⟩
    refine ⟨_, rfl, p, dx, _, rfl, hp, mfl_no _ _ (by decide +kernel) (by decide +kernel), ⟨_, rfl, ?_⟩⟩
    refine ⟨p, key, f, kl, rfl, ⟨⟨dx, hp⟩, hkl⟩, hT1, hT2, fun H1 ev1 => ?_⟩
    have np : ¬ (p = A.t_lower ∨ p = A.t_Map_rank) := by
      rintro (z | z)
      · obtain ⟨ps, h2, _⟩ := hT1
        rw [← z, hp] at h2; cases h2
      · obtain ⟨ps, h2, _⟩ := hT2
        rw [← z, hp] at h2; cases h2
    have hp1 : H1 p = some (.ins A.C_Map dx (mfl f kl)) := ev1 _ _ hp (.inl np)
    have hk1 : H1 kl = some (.lst []) := ev1.lst hkl fun z => z.elim (tab_ne hT1 hkl) (tab_ne hT2 hkl)
    refine ⟨_, rfl, p, dx, _, rfl, hp1, mfl_no _ _ (by decide +kernel) (by decide +kernel), ⟨_, rfl, ⟨_, rfl, ?_⟩⟩⟩
    refine ⟨p, key, f, kl, rfl, ⟨⟨dx, hp1⟩, hk1⟩, ⟨_, rfl, ?_⟩⟩
    refine iteF ?_
    exact ⟨(by show 1 ≤ sizeLine; decide), fun x hx => q x H1 hx ev1⟩
theorem ok_at0 {k : Nat} (T : Txt K mg A) (OC : Own mg base A) : FnOk P w K mg base (CXE P w) (k + 1) A.f_Map_at A.d_Map_at ["self", "place"] (spAt0 A) := by
  refine T.fn_Map_at.okX sc_Map_at (fun vs H Q E h => ?_) (fun cdv Ar outer s H vs Q E hr h => ?_)
  · obtain ⟨p, f, kl, i, rfl, _⟩ := h
    rfl
  · obtain ⟨p, f, kl, i, rfl, ⟨⟨dx, hp⟩, hkl⟩, h1, h2, q⟩ := h
    have nd := sc_Map_at.nd
    have rs : ∃ i' : Int, V.int i = V.int i' ∧ i'.natAbs.log2 < 1920 ∧ ((Str.empty ++ ("the map has no place " : Str)) ++ (toString i' : Str)).length ≤ sizeLine ∧ ∀ y : Str, ([V.str y] : List V).length ≤ sizeLine ∧ ∀ x, H x = none → E (.ref x) (some A.X_NoPlace) H := by
      have hf := fit_map (i + 100).toNat (by omega)
      rw [Int.toNat_of_nonneg (by omega), show i + 100 - 100 = i by omega] at hf
      exact ⟨i, rfl, log_small h1 h2, hf, fun y => ⟨(by show 1 ≤ sizeLine; decide), q⟩⟩
    refine ⟨_, (pss_cons (ps_if (PW.pt (pw_or (pt_cmpR op_lt (pv 1) pe_int (nomark _)) (pw_or1 (pt_cmpR op_ge (pv 1) (pe_callB call_len_seq (by rfl) T.bl_len YO.yb_len (pa_cons (pe_fld (pv 0) rfl) pa_nil)) (nomark _))))) (pss_one (ps_raiseN raises_cxOf OC.NoPlace PySem.F.excBase_ValueError rfl rfl (pa_cons pe_str pa_nil))) pss_nil)
      (pss_one (ps_ret (pe_ix ix_list (pe_fld (pv 0) rfl) (pv 1) (fun _ _ => rfl))))), ?_⟩
    refine ⟨_, rfl, ⟨_, _, rfl, rfl, ⟨_, rfl, ?_⟩⟩⟩
    refine iteD (fun hc => ?_) (fun hc => ?_)
    · first
      | exact ⟨_, rfl, rs⟩
      | exact ⟨(by show 1 ≤ sizeLine; decide), q⟩
    refine ⟨_, rfl, ⟨_, rfl, ⟨p, _, dx, _, _, rfl, hp, T.cl_Map, T.n_Map_kept, mfl_kept _ _, ⟨_, _, rfl, .inl (SqL.of hkl), ⟨_, _, rfl, rfl, ⟨_, rfl, ?_⟩⟩⟩⟩⟩⟩
    refine iteDT (by show ((0 : Nat) : Int) ≤ i; omega) ?_
    first
      | exact ⟨_, rfl, rs⟩
      | exact ⟨(by show 1 ≤ sizeLine; decide), q⟩
end

/-! ### the word of a refusal -/
def wd (b : Bool) : Str := if b = true then "NoElement" else "NoPlace"
def xcl (A : Adr) (b : Bool) : Addr := if b = true then A.X_NoElement else A.X_NoPlace
def EW (A : Adr) (b : Bool) (Q : VK) : XK := fun e c H' => ∃ x, e = .ref x ∧ H' x = none ∧ c = some (xcl A b) ∧ ∀ H'', Same H' H'' → Q (.str (wd b)) H''
def spWord (P : Program) (w : World) (K : PySem.W.Frag) (mg : Str → Option Value) (base : Heap) (A : Adr) (k : Nat) : Sp := fun vs H Q _ => ∃ (f : Addr) (sp : Hp → XK → Prop) (b : Bool), vs = [.ref f] ∧ FVX P w K mg base k f sp ∧ sp H (EW A b Q)
section
variable {P : Program} {w : World} {K : PySem.W.Frag} {mg : Str → Option Value} {base : Heap} {A : Adr}
theorem kit_of {C : Addr} {y : Addr} {b : Bool} (h : PySem.W.kitOne K (.ref C) (.ref y) = some b) : ∀ u, RelV (.ref y) u → PySem.W.kitOne K (.ref C) u = some b := fun u r => by cases r; exact h
theorem kit_ty {C : Addr} {y : String} {b : Bool} (h : PySem.W.kitOne K (.ref C) (.type y) = some b) : ∀ u, RelV (.ty y) u → PySem.W.kitOne K (.ref C) u = some b := fun u r => by cases r; exact h
theorem ok__law_word {k : Nat} (T : Txt K mg A) : FnOk P w K mg base CX0 (k + 1) A.f__law_word A.d__law_word ["_law_rule"] (spWord P w K mg base A k) := by
  refine T.fn__law_word.ok sc__law_word (fun vs H Q E h => ?_) (fun cdv Ar outer s H vs Q E hr h => ?_)
  · obtain ⟨f, sp, b, rfl, _⟩ := h
    rfl
  · obtain ⟨f, sp, b, rfl, F, hsp⟩ := h
    have nd := sc__law_word.nd
    obtain ⟨EX, hEX⟩ : ∃ EX : XK, EX = EW A b Q := ⟨_, rfl⟩
    refine ⟨_, (pss_cons (ps_tryAs (E := EX) (i := 1) (fun W pn hP => (pss_one (ps_expr (pe_callX0 (P := P) (w := w) (K := K) (mg := mg) (base := base) (k := k) (pv 0) hr hP)))) T.mgX_OrderError rfl rfl nd rfl rfl (fun _ _ z => z) (fun x C o pn hp hcl => (pss_cons (ps_if (PW.pt (pw_or (pt_not (pt_val (pe_callB (call_isP (K := K) rfl hp hcl) (by rfl) T.bl_isinstance YO.yb_isinstance (pa_cons (pv 1) (pa_cons (pe_bltn (v := .ty "ValueError") rfl T.bl_ValueError yb_ValueError rfl) pa_nil))))) (pw_or1 (pt_cmpR op_eq (pe_callB (call_isP (K := K) rfl hp hcl) (by rfl) T.bl_isinstance YO.yb_isinstance (pa_cons (pv 1) (pa_cons (pe_glob (v := .ref A.X_NoElement) rfl T.mgX_NoElement rfl) pa_nil))) (pe_callB (call_isP (K := K) rfl hp hcl) (by rfl) T.bl_isinstance YO.yb_isinstance (pa_cons (pv 1) (pa_cons (pe_glob (v := .ref A.X_NoPlace) rfl T.mgX_NoPlace rfl) pa_nil))) (nomark _))))) (pss_one (ps_ret pe_str)) pss_nil)
      (pss_one (ps_ret (pe_ix (ix_listK (K := K)) (pe_lst (pa_cons pe_str (pa_cons pe_str pa_nil))) (pe_callTy call_int1 (by rfl) T.bl_int YO.yb_int (pa_cons (pe_callB (call_isP (K := K) rfl hp hcl) (by rfl) T.bl_isinstance YO.yb_isinstance (pa_cons (pv 1) (pa_cons (pe_glob (v := .ref A.X_NoElement) rfl T.mgX_NoElement rfl) pa_nil))) pa_nil)) (fun _ _ => rfl)))))) rfl rfl)
      (pss_one (ps_ret pe_str))), ?_⟩
    refine ⟨⟨_, rfl, ⟨f, sp, rfl, F, by rw [hEX]; exact hsp⟩⟩, fun x c H' σ' hσ hE => ?_⟩
    rw [hEX] at hE
    obtain ⟨x', hx', hn, rfl, q⟩ := hE
    cases hx'
    refine ⟨xcl A b, rfl, hn, ?_, ?_⟩
    · cases b
      · exact T.ex_NoPlace
      · exact T.ex_NoElement
    obtain ⟨o0, o1, rfl⟩ : ∃ o0 o1, σ' = [o0, o1] := by
      match σ', hσ with
      | [o0, o1], _ => exact ⟨o0, o1, rfl⟩
    have Z : XCls K (xcl A b) := by
      cases b
      · exact T.xc_NoPlace
      · exact T.xc_NoElement
    have kv : PySem.W.kitOne K (.ref (xcl A b)) (.type "ValueError") = some true := by
      cases b
      · exact T.kv_NoPlace
      · exact T.kv_NoElement
    have k1 : PySem.W.kitOne K (.ref (xcl A b)) (.ref A.X_NoElement) = some b := by
      cases b
      · exact T.kt_NoPlace_NoElement
      · exact T.kt_NoElement_NoElement
    have k2 : PySem.W.kitOne K (.ref (xcl A b)) (.ref A.X_NoPlace) = some (!b) := by
      cases b
      · exact T.kt_NoPlace_NoPlace
      · exact T.kt_NoElement_NoPlace
    refine ⟨_, rfl, ⟨_, _, rfl, Z, kit_ty kv, ⟨_, rfl, ?_⟩⟩⟩
    refine iteF ?_
    refine ⟨_, rfl, ⟨_, _, rfl, Z, kit_of k1, ⟨_, rfl, ⟨_, _, rfl, Z, kit_of k2, ⟨rfl, ⟨_, rfl, ?_⟩⟩⟩⟩⟩⟩
    have hne : decide (V.bl b = V.bl (!b)) = false := by cases b <;> rfl
    rw [hne]
    refine iteF ?_
    refine ⟨(by show 2 ≤ sizeLine; decide), fun p hp => ⟨_, rfl, ⟨_, _, rfl, Z, kit_of k1, ?_⟩⟩⟩
    refine .inr ⟨b, rfl, ⟨p, _, _, .str (wd b), rfl, rfl, SqL.of upd_same, ?_, q _ (Same.new hp)⟩⟩
    cases b
    · exact atI_nat (j := 0) (by rfl)
    · exact atI_nat (j := 1) (by rfl)
end

/-! ### a lambda of the law that refuses -/
theorem tab_hid {H H1 : Hp} {t : Addr} {q : Str} (h : TabOk H t q) (nz : ∀ b o, H b = some o → (∀ o' u, o = Fz o' → o'.data ≠ .cell (some u)) → H1 b = some o) : TabOk H1 t q := by
  obtain ⟨ps, h1, h2, h3⟩ := h
  refine ⟨ps, nz _ _ h1 (fun o' u z => by cases z), h2, fun pos cv e => ?_⟩
  obtain ⟨c, oc, e1, e2, e3⟩ := h3 pos cv e
  refine ⟨c, oc, e1, nz _ _ e2 fun o' u z y => ?_, e3⟩
  cases z
  obtain ⟨vs, t, e4, _⟩ := e3
  rw [e4] at y; cases y
theorem ein {H H1 : Hp} {cl : List (Str × Addr)} {E : XK} {M : Addr → Prop} {C x : Addr} (hsp : ∀ x H', H' x = none → Evo M H H' → E (.ref x) (some C) H') (hx : H1 x = none) (ev : Evo M (hid H (CellOf cl)) H1) : EIn H cl E (.ref x) (some C) H1 :=
  fun _ nx => hsp x _ (by rw [unhid_out (nx x rfl)]; exact hx) ev.unhid
section
variable {P : Program} {w : World} {K : PySem.W.Frag} {mg : Str → Option Value} {base : Heap} {A : Adr}
theorem word_R {X : Cx} {σ : L2.St} {H1 : Hp} {f : Addr} {k : Nat} {M : Addr → Prop} {Pre : Hp → Prop} {b : Bool} {N : List Str} {fvs : List V} {qual : Str} {params : Arguments} {body : Expr} {scope : Scope}
    (hlam : LamAt H1 f qual params body scope (closOf scope X.env)) (hfr : (scope.names.all fun y => y.2 != .free || X.env.scope.names.lookup y.1 == some .cell || X.env.scope.names.lookup y.1 == some .free) = true) (S : LamScope N [] scope) (hfree : ∀ y ∈ scope.names, y.2 = .free → y.1 ∈ N)
    (hbind : ∀ (pm cdv ctv : Value), bindArgs (PySem.W.kla_fn "<lambda>" qual params body scope (closOf scope X.env) pm cdv ctv) ⟨[], []⟩ = pure [])
    (hcat : Paired (fun (x : Str) (v : V) => ∃ i : Nat, X.N[i]? = some x ∧ σ[i]? = some (some v) ∧ scope.names.lookup x = some .free) N fvs)
    (hpre : ∀ Hf, Same H1 Hf → Pre Hf)
    (hbody : ∀ (cdv : Value) (Ar : Around) (outer : List Env) (s : Shared) (H : Hp) (E : XK), Room k (Ar.deeper (PySem.W.envX qual scope s.heap.objs.size f cdv (closOf scope X.env))) → Pre H → (∀ b o, H b = some o → (∀ o' u, o = Fz o' → o'.data ≠ .cell (some u)) → hid H (CellOf (closOf scope X.env)) b = some o) →
      (∀ x H', H' x = none → Evo M H H' → E (.ref x) (some (xcl A b)) H') → Passes (CXE P w) (cxLamX P w K mg base N qual scope f cdv (closOf scope X.env) Ar outer s H E) (EIn H (closOf scope X.env) E) →
      ∃ t, PE (cxLamX P w K mg base N qual scope f cdv (closOf scope X.env) Ar outer s H E) body t ∧ t (fvs.map some) (hid H (CellOf (closOf scope X.env))) fun _ _ => False) :
    ∃ R : V → Hp → Prop, (∀ Hf, Froz X σ H1 Hf → spWord P w K mg base A (k + 1) [.ref f] Hf (fun v Hf' => R v (hid Hf' (CellOf X.env.cells))) E0) ∧ ∀ v H', R v H' → v = .str (wd b) ∧ Evo M H1 H' := by
  refine ⟨fun v H' => v = .str (wd b) ∧ Evo M H1 H', fun Hf Z => ?_, fun _ _ h => h⟩
  have l : LamAt Hf f qual params body scope (closOf scope X.env) := by obtain ⟨pm, c, ctv, oc, h1, h2, h3⟩ := hlam; exact ⟨pm, c, ctv, oc, Z.to h1, Z.to h2, h3⟩
  have F := lam_fvX (P := P) (w := w) (K := K) (mg := mg) (base := base) (k := k) (f := f) (qual := qual) (params := params) (body := body) (scope := scope) (cl := closOf scope X.env) (N := N) (fvs := fvs) (spb := fun H E => Pre H ∧ ∀ x H', H' x = none → Evo M H H' → E (.ref x) (some (xcl A b)) H')
    S (clos_inj hfr Z.ok) clos_has (clos_cells hfr Z.ok hfree) hbind (fun cdv Ar outer s H E hr hsp hca hP => hbody cdv Ar outer s H E hr hsp.1 (fun b o e hn => by
      rw [hid_out ?_]
      · exact e
      · rintro ⟨x, hx⟩
        obtain ⟨i, hi⟩ := List.getElem?_of_mem (clos_cells hfr Z.ok hfree x b hx)
        have hlen := Paired.length hca
        obtain ⟨v, hv⟩ : ∃ v, fvs[i]? = some v := by
          have := (List.getElem?_eq_some_iff.mp hi).1
          exact ⟨fvs[i]'(by omega), by simp⟩
        obtain ⟨c2, e2, o2, u, h1, h2, _⟩ := hca.get hi hv
        rw [hx] at e2; cases e2
        rw [e] at h1
        exact hn o2 u (Option.some.inj h1) h2) hsp.2 hP)
  refine ⟨f, _, b, rfl, F, l, Z.caught hfr hcat, hpre Hf Z.same', fun x H' hx ev => ⟨x, rfl, hx, rfl, fun H'' s => ⟨rfl, Z.back (ev.same2 s)⟩⟩⟩
end

/-! ### the law -/
structure LT (A : Adr) (la r : Addr) (xs : List V) (H : Hp) : Prop where
  la : H la = some (.lst [])
  r : H r = some (.lst xs)
  t1 : TabOk H A.t_lower (qL "lower")
  t2 : TabOk H A.t_Map_rank (qL "Map.rank")
  t : TabOk H A.t_law (qL "law")
section
variable {A : Adr} {la r : Addr} {xs : List V} {H H' : Hp}
theorem LT.same (h : LT A la r xs H) (s : Same H H') : LT A la r xs H' := ⟨s _ _ h.la, s _ _ h.r, tabS h.t1 s, tabS h.t2 s, tabS h.t s⟩
theorem LT.lam {K : PySem.W.Frag} {mg : Str → Option Value} (T : Txt K mg A) (h : LT A la r xs H) (hold : ∀ b o, H b = some o → b ≠ A.t_law → H' b = some o) (ht : TabOk H' A.t_law (qL "law")) : LT A la r xs H' :=
  ⟨lst_lam h.la h.t hold, lst_lam h.r h.t hold, h.t1.evo (tab_evo h.t hold) T.ne_lower_law, h.t2.evo (tab_evo h.t hold) T.ne_Map_rank_law, ht⟩
theorem LT.put {wl : Addr} {zs zs' : List V} (h : LT A la r xs H) (hw : H wl = some (.lst zs)) (n1 : la ≠ wl) (n2 : r ≠ wl) : LT A la r xs (upd H wl (.lst zs')) := by
  have ev : Evo (fun b => b = wl) H (upd H wl (.lst zs')) := Evo.put hw rfl
  exact ⟨ev.lst h.la n1, ev.lst h.r n2, h.t1.evo ev (fun z => tab_ne h.t1 hw z.symm), h.t2.evo ev (fun z => tab_ne h.t2 hw z.symm), h.t.evo ev (fun z => tab_ne h.t hw z.symm)⟩
end
structure LT2 (A : Adr) (la r : Addr) (xs : List V) (H : Hp) : Prop where
  la : H la = some (.lst [])
  r : H r = some (.lst xs)
  t : TabOk H A.t_law (qL "law")
section
variable {A : Adr} {la r : Addr} {xs : List V} {H H' : Hp}
theorem LT2.same (h : LT2 A la r xs H) (s : Same H H') : LT2 A la r xs H' := ⟨s _ _ h.la, s _ _ h.r, tabS h.t s⟩
theorem LT2.lam {K : PySem.W.Frag} {mg : Str → Option Value} (_ : Txt K mg A) (h : LT2 A la r xs H) (hold : ∀ b o, H b = some o → b ≠ A.t_law → H' b = some o) (ht : TabOk H' A.t_law (qL "law")) : LT2 A la r xs H' :=
  ⟨lst_lam h.la h.t hold, lst_lam h.r h.t hold, ht⟩
theorem LT2.put {wl : Addr} {zs zs' : List V} (h : LT2 A la r xs H) (hw : H wl = some (.lst zs)) (n1 : la ≠ wl) (n2 : r ≠ wl) : LT2 A la r xs (upd H wl (.lst zs')) := by
  have ev : Evo (fun b => b = wl) H (upd H wl (.lst zs')) := Evo.put hw rfl
  exact ⟨ev.lst h.la n1, ev.lst h.r n2, h.t.evo ev (fun z => tab_ne h.t hw z.symm)⟩
end
theorem signs_fit : ("abc -'x" : Str).length ≤ sizeLine := by decide +kernel
theorem sep_fit : ("" : Str).length ≤ 16 := by decide +kernel
theorem sign_at : ∀ i : Int, 0 ≤ i → i < 7 → ∃ c, atI ("abc -'x" : Str).cps.toList i = some c := fun i h0 h1 => by
  obtain ⟨n, rfl⟩ : ∃ n : Nat, i = n := ⟨i.toNat, by omega⟩
  have h7 : ("abc -'x" : Str).cps.toList.length = 7 := by decide +kernel
  obtain ⟨c, hc⟩ := get_lt (l := ("abc -'x" : Str).cps.toList) (i := n) (by omega)
  exact ⟨c, atI_nat hc⟩
section
variable {P : Program} {w : World} {K : PySem.W.Frag} {mg : Str → Option Value} {base : Heap} {A : Adr}
theorem ok_law (T : Txt K mg A) (CHs : ∀ q ∈ tabs A, PySem.W.CodeHd base q.1 q.2) (bm : BMain mg base) (OC : Own mg base A) : FnOk P w K mg base CX0 14 A.f_law A.d_law ["_law_script"] (spLaw K A) := by
  have CH1 : PySem.W.CodeHd base A.c_lower A.t_lower := CHs (A.c_lower, A.t_lower) (by simp [tabs])
  have CH2 : PySem.W.CodeHd base A.c_Map_rank A.t_Map_rank := CHs (A.c_Map_rank, A.t_Map_rank) (by simp [tabs])
  have CH : PySem.W.CodeHd base A.c_law A.t_law := CHs (A.c_law, A.t_law) (by simp [tabs])
  have G__law_cell : FnOk P w K mg base CX0 1 A.f__law_cell A.d__law_cell _ (spCell K) := ok__law_cell T
  have G__law_drawn : FnOk P w K mg base CX0 1 A.f__law_drawn A.d__law_drawn _ spDrawn := ok__law_drawn T
  have G__law_word : FnOk P w K mg base CX0 10 A.f__law_word A.d__law_word _ (spWord P w K mg base A 9) := ok__law_word T
  have G_pop : FnOk P w K mg base (CXE P w) 4 A.f_pop A.d_pop _ (spNo1 K A.X_NoElement) := ok_pop0 T OC
  have G_least : FnOk P w K mg base (CXE P w) 4 A.f_least A.d_least _ (spNo1 K A.X_NoElement) := ok_least0 T OC
  have G_ends : FnOk P w K mg base (CXE P w) 4 A.f_ends A.d_ends _ (spNo1 K A.X_NoElement) := ok_ends0 T OC
  have G_nth : FnOk P w K mg base (CXE P w) 4 A.f_nth A.d_nth _ (spNoNth K A.X_NoPlace) := ok_nth0 T OC
  have G_Map___init__ : FnOk P w K mg base CX0 4 A.f_Map___init__ A.d_Map___init__ _ (spMInit A) := ok_Map___init__ T
  have G_Map_get : FnOk P w K mg base (CXE P w) 5 A.f_Map_get A.d_Map_get _ (spGet0 A) := ok_get0 T CH1 CH2 bm OC
  have G_Map_at : FnOk P w K mg base (CXE P w) 5 A.f_Map_at A.d_Map_at _ (spAt0 A) := ok_at0 T OC
  refine T.fn_law.okC sc_law (fun vs H Q E h => ?_) (fun cdv hcdv Ar outer s H vs Q E hr h => ?_)
  · obtain ⟨a, ns, rfl, _⟩ := h
    rfl
  · obtain ⟨a, ns, rfl, hS, hl, hT1, hTe, hT2, hTl, q⟩ := h
    have nd := sc_law.nd
    have hu := units150 hr
    have hcd : cdv = .ref A.c_law := hcdv.symm.trans T.cd_law
    refine ⟨_, (pss_cons (ps_set (i := 1) nd rfl (Or.inl rfl) (pe_bm PySem.F.plainAttrs_str PySem.F.slot_str_join PySem.F.type_str_join mt_join pe_str (pa_cons (pe_comp  ["_law_k", "_law_script"] [none, some 0] rfl ⟨rfl, rfl, rfl, rfl, ⟨⟨rfl, rfl⟩, trivial⟩⟩ (pi_range1 rfl T.bl_range (pa_cons (pe_op op_mod (pe_call G__law_cell (hr.mono (by omega)) rfl T.mg__law_cell T.fn__law_cell.kp T.b__law_cell .nil pass0 (pa_cons (pv 0) (pa_cons pe_int pa_nil))) pe_int) pa_nil)) (fun _ _ _ _ => (pg_name (i := 0) (show List.Nodup (["_law_k", "_law_script"] : List Str) by decide +kernel) rfl (Or.inl rfl))) (fun _ _ _ _ => pts_nil) (fun _ _ _ _ => (pe_ix ix_str pe_str (pe_op op_mod (pe_call G__law_drawn (hr.mono (by omega)) rfl T.mg__law_drawn T.fn__law_drawn.kp T.b__law_drawn .nil pass0 (pa_cons (pe_call G__law_cell (hr.mono (by omega)) rfl T.mg__law_cell T.fn__law_cell.kp T.b__law_cell .nil pass0 (pa_cons (pv 1) (pa_cons (pv 0) pa_nil))) (pa_cons (pv 0) pa_nil))) pe_int) (fun _ _ => rfl)))) pa_nil)))
      (pss_cons (ps_if (PW.pt (pw_or (pt_cmpR op_ne (pe_callTy (call_strX (K := K) rfl hu) (by rfl) T.bl_str yb_str (pa_cons (pe_exc OC.NoElement PySem.F.excBase_ValueError rfl (pa_cons (pv 1) pa_nil)) pa_nil)) (pv 1) (nomark _)) (pw_or1 (pt_cmpR op_ne (pe_callTy (call_strX (K := K) rfl hu) (by rfl) T.bl_str yb_str (pa_cons (pe_exc OC.NoPlace PySem.F.excBase_ValueError rfl (pa_cons (pv 1) pa_nil)) pa_nil)) (pv 1) (nomark _))))) (pss_one (ps_ret pe_bl)) pss_nil)
      (pss_cons (ps_if (PW.pt (pw_or (pt_val (pe_callB (call_isX (K := K) rfl) (by rfl) T.bl_isinstance YO.yb_isinstance (pa_cons (pe_exc OC.NoElement PySem.F.excBase_ValueError rfl (pa_cons (pv 1) pa_nil)) (pa_cons (pe_glob (v := .ref A.X_NoPlace) rfl T.mgX_NoPlace rfl) pa_nil)))) (pw_or1 (pt_val (pe_callB (call_isX (K := K) rfl) (by rfl) T.bl_isinstance YO.yb_isinstance (pa_cons (pe_exc OC.NoPlace PySem.F.excBase_ValueError rfl (pa_cons (pv 1) pa_nil)) (pa_cons (pe_glob (v := .ref A.X_NoElement) rfl T.mgX_NoElement rfl) pa_nil))))))) (pss_one (ps_ret pe_bl)) pss_nil)
      (pss_cons (ps_set (i := 2) nd rfl (Or.inr rfl) (pe_lst pa_nil))
      (pss_cons (ps_set (i := 3) nd rfl (Or.inr rfl) (pe_lam hcd CH bm rfl))
      (pss_cons (ps_set (i := 4) nd rfl (Or.inl rfl) (pe_op op_mod (pe_call G__law_cell (hr.mono (by omega)) rfl T.mg__law_cell T.fn__law_cell.kp T.b__law_cell .nil pass0 (pa_cons (pv 0) (pa_cons pe_int pa_nil))) pe_int))
      (pss_cons (ps_set (i := 5) nd rfl (Or.inr rfl) (pe_callTy (call_list_rng rfl) (by rfl) T.bl_list YO.yb_list (pa_cons (pe_callTy call_range1 (by rfl) T.bl_range boot_range (pa_cons (pv 4) pa_nil)) pa_nil)))
      (pss_cons (ps_set (i := 6) nd rfl (Or.inr rfl) (pe_ix ix_list (pe_lst (pa_cons (pe_op op_add (pv 4) (pe_op op_mod (pe_call G__law_cell (hr.mono (by omega)) rfl T.mg__law_cell T.fn__law_cell.kp T.b__law_cell .nil pass0 (pa_cons (pv 0) (pa_cons pe_int pa_nil))) pe_int)) (pa_cons (pe_op op_sub (pe_op op_sub pe_int pe_int) (pe_op op_mod (pe_call G__law_cell (hr.mono (by omega)) rfl T.mg__law_cell T.fn__law_cell.kp T.b__law_cell .nil pass0 (pa_cons (pv 0) (pa_cons pe_int pa_nil))) pe_int)) pa_nil))) (pe_op op_mod (pe_call G__law_cell (hr.mono (by omega)) rfl T.mg__law_cell T.fn__law_cell.kp T.b__law_cell .nil pass0 (pa_cons (pv 0) (pa_cons pe_int pa_nil))) pe_int) (fun _ _ => rfl)))
      (pss_cons (ps_set (i := 1) nd rfl (Or.inl rfl) (pe_lst (pa_cons (pe_callG G__law_word (hr.mono (by omega)) rfl T.mg__law_word T.fn__law_word.kp T.b__law_word (pa_cons (pe_lam hcd CH bm rfl) pa_nil)) pa_nil)))
      (pss_cons (ps_expr (pe_bm PySem.F.plainAttrs_list PySem.F.slot_list_append PySem.F.type_list_append mt_append (pv 1) (pa_cons (pe_callG G__law_word (hr.mono (by omega)) rfl T.mg__law_word T.fn__law_word.kp T.b__law_word (pa_cons (pe_lam hcd CH bm rfl) pa_nil)) pa_nil)))
      (pss_cons (ps_expr (pe_bm PySem.F.plainAttrs_list PySem.F.slot_list_append PySem.F.type_list_append mt_append (pv 1) (pa_cons (pe_callG G__law_word (hr.mono (by omega)) rfl T.mg__law_word T.fn__law_word.kp T.b__law_word (pa_cons (pe_lam hcd CH bm rfl) pa_nil)) pa_nil)))
      (pss_cons (ps_expr (pe_bm PySem.F.plainAttrs_list PySem.F.slot_list_append PySem.F.type_list_append mt_append (pv 1) (pa_cons (pe_callG G__law_word (hr.mono (by omega)) rfl T.mg__law_word T.fn__law_word.kp T.b__law_word (pa_cons (pe_lam hcd CH bm rfl) pa_nil)) pa_nil)))
      (pss_cons (ps_expr (pe_bm PySem.F.plainAttrs_list PySem.F.slot_list_append PySem.F.type_list_append mt_append (pv 1) (pa_cons (pe_callG G__law_word (hr.mono (by omega)) rfl T.mg__law_word T.fn__law_word.kp T.b__law_word (pa_cons (pe_lam hcd CH bm rfl) pa_nil)) pa_nil)))
      (pss_cons (ps_expr (pe_bm PySem.F.plainAttrs_list PySem.F.slot_list_append PySem.F.type_list_append mt_append (pv 1) (pa_cons (pe_callG G__law_word (hr.mono (by omega)) rfl T.mg__law_word T.fn__law_word.kp T.b__law_word (pa_cons (pe_lam hcd CH bm rfl) pa_nil)) pa_nil)))
      (pss_one (ps_ret (pe_and (pe_cmpR (op_eqS hu) (pv 1) (pe_op op_cat (pe_op op_rep (pe_lst (pa_cons pe_str pa_nil)) pe_int) (pe_op op_rep (pe_lst (pa_cons pe_str pa_nil)) pe_int)) (nomark _)) (pe_one (pe_cmpR (op_eqD hu) (pv 2) (pe_lst pa_nil) (nomark _)))))))))))))))))))), ?_⟩
    -- the words
    refine ⟨rfl, ?_⟩
    refine ⟨_, rfl, ⟨a, ns, 0, rfl, hS.sq, hl, by omega, fun H1 s1 => ⟨_, _, rfl, rfl, by omega, ?_⟩⟩⟩
    generalize cellF ns 0 = c0
    refine ⟨_, rfl, by omega, by omega, fun D hD => ?_⟩
    refine compS_range (lo := 0) (n := (c0 % 9).toNat) (fun i ys _ => ∃ zs : List Str, ys = zs.map V.str ∧ zs.length = i ∧ (zs.map (·.length)).sum = i) hD ⟨[], rfl, rfl, rfl⟩ ?_ ?_
    · rintro i ys H' hi hyD hyl sm ⟨zs, rfl, hz1, hz2⟩
      have hd := drawnF_nn (cellF ns (0 + (i : Int))) (0 + (i : Int))
      refine ⟨rfl, ⟨_, rfl, ⟨_, rfl, ⟨a, ns, _, rfl, (hS.same (s1.trans sm)).sq, hl, by omega, fun H2 s2 => ⟨_, rfl, ⟨_, _, rfl, ⟨_, _, rfl, rfl, by omega, ?_⟩⟩⟩⟩⟩⟩⟩
      obtain ⟨c, hc⟩ := sign_at (drawnF (cellF ns (0 + (i : Int))) (0 + (i : Int)) % 7) (by omega) (by omega)
      refine ⟨_, _, c, rfl, rfl, signs_fit, hc, ?_⟩
      refine ci_put hD hi (by omega) hyD hyl sm s2 fun H'' _ => ⟨zs ++ [⟨#[c]⟩], by rw [List.map_append]; rfl, by rw [List.length_append, hz1]; rfl, ?_⟩
      rw [List.map_append, List.sum_append, hz2]; rfl
    rintro ys H2 hyD s2 ⟨zs, rfl, hz1, hz2⟩
    have hfit : (zs.map (·.length)).sum + zs.length ≤ 1048576 := by omega
    refine ⟨Str.ofString "", D, zs, rfl, rfl, SqL.of hyD, sep_fit, hfit, ?_⟩
    have s03 := s1.trans s2
    generalize hW : Txt.join (Str.ofString "") zs = W
    clear hW hfit hz1 hz2 hyD
    unfold gName
    dsimp only
    -- str of both
    refine seq_via (I := fun σ H' => Same H H' ∧ σ = [some (V.ref a), some (V.str W), none, none, none, none, none]) (fun N hN => ?_) ?_
    · refine ⟨_, rfl, ⟨(by show 1 ≤ sizeLine; decide), fun x t0 us hv ht hx hne => ⟨x, A.X_NoElement, t0, W, us, rfl, upd_same, (by rw [upd_ne hne, upd_same]), T.xc_NoElement, hv, ⟨_, rfl, ⟨rfl, ⟨_, rfl, ?_⟩⟩⟩⟩⟩⟩
      have s3 : Same H2 (upd (upd H2 t0 (Fz (tupO us))) x (Fz (excO A.X_NoElement t0))) := fun b o e => by rw [upd_ne (ne_of_none e hx), upd_ne (ne_of_none e ht)]; exact e
      generalize upd (upd H2 t0 (Fz (tupO us))) x (Fz (excO A.X_NoElement t0)) = H4 at s3
      refine iteNS rfl ?_
      refine ⟨_, rfl, ⟨(by show 1 ≤ sizeLine; decide), fun x t0 us hv ht hx hne => ⟨x, A.X_NoPlace, t0, W, us, rfl, upd_same, (by rw [upd_ne hne, upd_same]), T.xc_NoPlace, hv, ⟨_, rfl, ⟨rfl, ⟨_, rfl, ?_⟩⟩⟩⟩⟩⟩
      have s4 : Same H4 (upd (upd H4 t0 (Fz (tupO us))) x (Fz (excO A.X_NoPlace t0))) := fun b o e => by rw [upd_ne (ne_of_none e hx), upd_ne (ne_of_none e ht)]; exact e
      refine iteNS rfl ?_
      exact hN _ _ ⟨s03.trans (s3.trans s4), rfl⟩
    rintro σ H4 ⟨s04, rfl⟩
    refine seq_via (I := fun σ H' => Same H H' ∧ σ = [some (V.ref a), some (V.str W), none, none, none, none, none]) (fun N hN => ?_) ?_
    · refine ⟨_, rfl, ⟨(by show 1 ≤ sizeLine; decide), fun x t0 us hv ht hx hne => ⟨x, A.X_NoElement, _, _, false, rfl, upd_same, rfl, T.xc_NoElement, kit_of T.kt_NoElement_NoPlace, ⟨_, rfl, ?_⟩⟩⟩⟩
      have s3 : Same H4 (upd (upd H4 t0 (Fz (tupO us))) x (Fz (excO A.X_NoElement t0))) := fun b o e => by rw [upd_ne (ne_of_none e hx), upd_ne (ne_of_none e ht)]; exact e
      generalize upd (upd H4 t0 (Fz (tupO us))) x (Fz (excO A.X_NoElement t0)) = H5 at s3
      refine iteF ?_
      refine ⟨_, rfl, ⟨(by show 1 ≤ sizeLine; decide), fun x t0 us hv ht hx hne => ⟨x, A.X_NoPlace, _, _, false, rfl, upd_same, rfl, T.xc_NoPlace, kit_of T.kt_NoPlace_NoElement, ⟨_, rfl, ?_⟩⟩⟩⟩
      have s4 : Same H5 (upd (upd H5 t0 (Fz (tupO us))) x (Fz (excO A.X_NoPlace t0))) := fun b o e => by rw [upd_ne (ne_of_none e hx), upd_ne (ne_of_none e ht)]; exact e
      refine iteF ?_
      exact hN _ _ ⟨s04.trans (s3.trans s4), rfl⟩
    rintro σ H5 ⟨s05, rfl⟩
    -- asked, order, many, row, place
    refine ⟨Nat.zero_le _, fun la hla => ?_⟩
    have sl := Same.new (o := .lst []) hla
    have hla6 : (upd H5 la (.lst [])) la = some (.lst []) := upd_same
    have s06 := s05.trans sl
    generalize upd H5 la (.lst []) = H6 at sl hla6 s06
    have hT6 := tabS hTl s06
    refine ⟨hT6, fun fo H7 ok hfn hlam htab hold => ?_⟩
    have ev7 : Evo (fun b => b = A.t_law) H6 H7 := tab_evo hT6 hold
    have hla7 := lst_lam hla6 hT6 hold
    have hS7 : SqF K H7 a (ns.map V.int) := (hS.same s06).evo ev7
    have t17 : TabOk H7 A.t_lower (qL "lower") := (tabS hT1 s06).evo ev7 T.ne_lower_law
    have t27 : TabOk H7 A.t_Map_rank (qL "Map.rank") := (tabS hT2 s06).evo ev7 T.ne_Map_rank_law
    refine ⟨_, rfl, ⟨a, ns, 1, rfl, hS7.sq, hl, by omega, fun H8 s8 => ⟨_, _, rfl, rfl, by omega, ?_⟩⟩⟩
    have hm0 : 0 ≤ cellF ns 1 % 5 := by omega
    have hm1 : cellF ns 1 % 5 < 5 := by omega
    dsimp only
    generalize cellF ns 1 % 5 = m at hm0 hm1 ⊢
    obtain ⟨n, rfl⟩ : ∃ n : Nat, m = n := ⟨m.toNat, by omega⟩
    refine ⟨_, rfl, ⟨n, rfl, fun p hp => ⟨p, n, rfl, upd_same, by omega, fun r hr9 => ?_⟩⟩⟩
    have s9 : Same H8 (upd (upd H8 p (.rng 0 n)) r (.lst ((List.range n).map fun (i : Nat) => V.int i))) := (Same.new hp).trans (Same.new hr9)
    have hr9' : (upd (upd H8 p (.rng 0 n)) r (.lst ((List.range n).map fun (i : Nat) => V.int i))) r = _ := upd_same
    have lxs : ((List.range n).map fun (i : Nat) => V.int i).length = n := by rw [List.length_map, List.length_range]
    generalize ((List.range n).map fun (i : Nat) => V.int i) = xs at s9 hr9' lxs
    generalize upd (upd H8 p (.rng 0 n)) r (.lst xs) = H9 at s9 hr9'
    have s79 := s8.trans s9
    have nrl : la ≠ r := fun z => by
      have h1 := s8 _ _ hla7
      have h2 : upd H8 p (.rng 0 n) la = some (.lst []) := Same.new hp _ _ h1
      rw [z] at h2
      rw [h2] at hr9; cases hr9
    refine ⟨_, rfl, ⟨_, rfl, ⟨a, ns, 2, rfl, (hS7.same s79).sq, hl, by omega, fun H10 s10 => ⟨_, _, rfl, rfl, by omega, ⟨_, _, rfl, rfl, ?_⟩⟩⟩⟩⟩
    refine ⟨_, _, rfl, rfl, ⟨_, rfl, ⟨a, ns, 2, rfl, (hS7.same (s79.trans s10)).sq, hl, by omega, fun H11 s11 => ⟨_, _, rfl, rfl, by omega, ⟨_, _, rfl, rfl, ?_⟩⟩⟩⟩⟩
    refine ⟨(by show 2 ≤ sizeLine; decide), fun p2 hp2 => ?_⟩
    have s12 := Same.new (o := .lst [V.int ((n : Int) + cellF ns 2 % 9), V.int (0 - 1 - cellF ns 2 % 9)]) hp2
    have s712 := ((s79.trans s10).trans s11).trans s12
    refine ⟨_, rfl, ⟨a, ns, 3, rfl, (hS7.same s712).sq, hl, by omega, fun H13 s13 => ⟨_, _, rfl, rfl, by omega, ?_⟩⟩⟩
    obtain ⟨pl, hat, hpl, hp0, hp1⟩ : ∃ pl : Int, atI [V.int ((n : Int) + cellF ns 2 % 9), V.int (0 - 1 - cellF ns 2 % 9)] (cellF ns 3 % 2) = some (.int pl) ∧ (pl < 0 ∨ (n : Int) ≤ pl) ∧ -100 ≤ pl ∧ pl ≤ 100 := by
      rcases (show cellF ns 3 % 2 = 0 ∨ cellF ns 3 % 2 = 1 by omega) with h | h
      · rw [h]; exact ⟨_, atI_nat (j := 0) (by rfl), .inr (by omega), by omega, by omega⟩
      · rw [h]; exact ⟨_, atI_nat (j := 1) (by rfl), .inl (by omega), by omega, by omega⟩
    refine ⟨_, _, _, _, rfl, rfl, SqL.of (s13 _ _ upd_same), hat, ?_⟩
    have s713 := s712.trans s13
    have lt : LT A la r xs H13 := ⟨s713 _ _ hla7, s13 _ _ (s12 _ _ (s11 _ _ (s10 _ _ hr9'))), tabS t17 s713, tabS t27 s713, tabS htab s713⟩
    clear s713 s712 hS7 hS hla7 t17 t27 hat
    dsimp only
    -- word 0
    refine seq_via (I := fun σ H' => ∃ wl, LT A la r xs H' ∧ H' wl = some (.lst [V.str (wd true)]) ∧ la ≠ wl ∧ r ≠ wl ∧ σ = [some (V.ref a), some (V.ref wl), some (V.ref la), some (V.ref fo), some (V.int n), some (V.ref r), some (V.int pl)]) (fun N hN => ?_) ?_
    · have lt0 := lt
      refine ⟨lt0.t, fun f H15 ok hfn hlam htab hold => ?_⟩
      have lt := lt0.lam T hold htab
      refine use_call (word_R (P := P) (w := w) (K := K) (mg := mg) (base := base) (A := A) (k := 8) (M := (fun _ => False)) (Pre := (fun _ => True)) (b := true) (N := ["_law_order"]) (fvs := [.ref fo]) hlam rfl ⟨rfl, rfl, rfl, by decide +kernel, rfl, by decide +kernel, by decide +kernel, by decide +kernel⟩ (by decide +kernel) (fun _ _ _ => rfl) (.cons ⟨3, rfl, rfl, rfl⟩ .nil) (fun _ _ => trivial)
      (fun cdv Ar outer s H E hr hpre nz hE hP => ⟨_, pe_call G_pop (hr.mono (by omega)) rfl T.mg_pop T.fn_pop.kp T.b_pop .nil hP (pa_cons (pe_lst pa_nil) (pa_cons (pv 0) pa_nil)), ⟨Nat.zero_le _, fun p hp => ⟨_, rfl, ⟨p, _, rfl, SqL.of upd_same, fun x hx => ein hE hx (Evo.new hp)⟩⟩⟩⟩)) ?_
      rintro v H16 ⟨rfl, ev⟩
      have s16 := Evo.same ev
      have lt16 := lt.same s16
      refine ⟨(by show 1 ≤ sizeLine; decide), fun wl hwl => ?_⟩
      exact hN _ _ ⟨wl, lt16.same (Same.new hwl), upd_same, ne_of_none lt16.la hwl, ne_of_none lt16.r hwl, rfl⟩
    rintro σ H20 ⟨wl, lt0, hwl, nlw, nrw, rfl⟩
    -- word 1
    refine seq_via (I := fun σ H' => ∃ wl, LT A la r xs H' ∧ H' wl = some (.lst [V.str (wd true), V.str (wd true)]) ∧ la ≠ wl ∧ r ≠ wl ∧ σ = [some (V.ref a), some (V.ref wl), some (V.ref la), some (V.ref fo), some (V.int n), some (V.ref r), some (V.int pl)]) (fun N hN => ?_) ?_
    · refine ⟨_, rfl, ⟨.inl ⟨rfl, _, SqL.of hwl⟩, ⟨lt0.t, fun f H15 ok hfn hlam htab hold => ?_⟩⟩⟩
      have lt := lt0.lam T hold htab
      have hwl := lst_lam hwl lt0.t hold
      refine use_call (word_R (P := P) (w := w) (K := K) (mg := mg) (base := base) (A := A) (k := 8) (M := (fun _ => False)) (Pre := (fun _ => True)) (b := true) (N := ["_law_order"]) (fvs := [.ref fo]) hlam rfl ⟨rfl, rfl, rfl, by decide +kernel, rfl, by decide +kernel, by decide +kernel, by decide +kernel⟩ (by decide +kernel) (fun _ _ _ => rfl) (.cons ⟨3, rfl, rfl, rfl⟩ .nil) (fun _ _ => trivial)
      (fun cdv Ar outer s H E hr hpre nz hE hP => ⟨_, pe_call G_least (hr.mono (by omega)) rfl T.mg_least T.fn_least.kp T.b_least .nil hP (pa_cons (pe_lst pa_nil) (pa_cons (pv 0) pa_nil)), ⟨Nat.zero_le _, fun p hp => ⟨_, rfl, ⟨p, _, rfl, SqL.of upd_same, fun x hx => ein hE hx (Evo.new hp)⟩⟩⟩⟩)) ?_
      rintro v H16 ⟨rfl, ev⟩
      have s16 := Evo.same ev
      have lt16 := lt.same s16
      have hwl := s16 _ _ hwl
      refine ⟨_, _, _, rfl, rfl, hwl, (by show 1 < sizeLine; decide), ?_⟩
      exact hN _ _ ⟨wl, lt16.put hwl nlw nrw, upd_same, nlw, nrw, rfl⟩
    rintro σ H21 ⟨wl, lt0, hwl, nlw, nrw, rfl⟩
    -- word 2
    refine seq_via (I := fun σ H' => ∃ wl, LT A la r xs H' ∧ H' wl = some (.lst [V.str (wd true), V.str (wd true), V.str (wd true)]) ∧ la ≠ wl ∧ r ≠ wl ∧ σ = [some (V.ref a), some (V.ref wl), some (V.ref la), some (V.ref fo), some (V.int n), some (V.ref r), some (V.int pl)]) (fun N hN => ?_) ?_
    · refine ⟨_, rfl, ⟨.inl ⟨rfl, _, SqL.of hwl⟩, ⟨lt0.t, fun f H15 ok hfn hlam htab hold => ?_⟩⟩⟩
      have lt := lt0.lam T hold htab
      have hwl := lst_lam hwl lt0.t hold
      refine use_call (word_R (P := P) (w := w) (K := K) (mg := mg) (base := base) (A := A) (k := 8) (M := (fun _ => False)) (Pre := (fun _ => True)) (b := true) (N := ["_law_order"]) (fvs := [.ref fo]) hlam rfl ⟨rfl, rfl, rfl, by decide +kernel, rfl, by decide +kernel, by decide +kernel, by decide +kernel⟩ (by decide +kernel) (fun _ _ _ => rfl) (.cons ⟨3, rfl, rfl, rfl⟩ .nil) (fun _ _ => trivial)
      (fun cdv Ar outer s H E hr hpre nz hE hP => ⟨_, pe_call G_ends (hr.mono (by omega)) rfl T.mg_ends T.fn_ends.kp T.b_ends .nil hP (pa_cons (pe_lst pa_nil) (pa_cons (pv 0) pa_nil)), ⟨Nat.zero_le _, fun p hp => ⟨_, rfl, ⟨p, _, rfl, SqL.of upd_same, fun x hx => ein hE hx (Evo.new hp)⟩⟩⟩⟩)) ?_
      rintro v H16 ⟨rfl, ev⟩
      have s16 := Evo.same ev
      have lt16 := lt.same s16
      have hwl := s16 _ _ hwl
      refine ⟨_, _, _, rfl, rfl, hwl, (by show 2 < sizeLine; decide), ?_⟩
      exact hN _ _ ⟨wl, lt16.put hwl nlw nrw, upd_same, nlw, nrw, rfl⟩
    rintro σ H22 ⟨wl, lt0, hwl, nlw, nrw, rfl⟩
    -- word 3
    refine seq_via (I := fun σ H' => ∃ wl, LT2 A la r xs H' ∧ H' wl = some (.lst [V.str (wd true), V.str (wd true), V.str (wd true), V.str (wd true)]) ∧ la ≠ wl ∧ r ≠ wl ∧ σ = [some (V.ref a), some (V.ref wl), some (V.ref la), some (V.ref fo), some (V.int n), some (V.ref r), some (V.int pl)]) (fun N hN => ?_) ?_
    · refine ⟨_, rfl, ⟨.inl ⟨rfl, _, SqL.of hwl⟩, ⟨lt0.t, fun f H15 ok hfn hlam htab hold => ?_⟩⟩⟩
      have lt := lt0.lam T hold htab
      have hwl := lst_lam hwl lt0.t hold
      refine use_call (word_R (P := P) (w := w) (K := K) (mg := mg) (base := base) (A := A) (k := 8) (M := (fun b => b = A.t_lower ∨ b = A.t_Map_rank)) (Pre := (fun H => TabOk H A.t_lower (qL "lower") ∧ TabOk H A.t_Map_rank (qL "Map.rank"))) (b := true) (N := ["_law_order"]) (fvs := [.ref fo]) hlam rfl ⟨rfl, rfl, rfl, by decide +kernel, rfl, by decide +kernel, by decide +kernel, by decide +kernel⟩ (by decide +kernel) (fun _ _ _ => rfl) (.cons ⟨3, rfl, rfl, rfl⟩ .nil) (fun Hf s => ⟨tabS lt.t1 s, tabS lt.t2 s⟩)
      (fun cdv Ar outer s H E hr hpre nz hE hP => ⟨_, pe_meth (pe_make T.mk_Map G_Map___init__ (hr.mono (by omega)) rfl T.mgC_Map T.b_Map___init__ .nil pass0 (pa_cons (pv 0) pa_nil)) T.cl_Map T.m_Map_get G_Map_get (hr.mono (by omega)) T.b_Map_get .nil hP (pa_cons pe_int pa_nil), (by
        refine ⟨_, rfl, fun x dx nx ndx nex => ⟨x, dx, .ref fo, rfl, upd_same, fun kl H1 hk1 hm kp => ⟨rfl, ?_⟩⟩⟩
        have s1 : Same (hid H (CellOf _)) H1 := fun b u e => kp b u (by rw [upd_ne (ne_of_none e nx), upd_ne (ne_of_none e ndx)]; exact e) (ne_of_none e nx)
        obtain ⟨dx1, hi⟩ := hm.ins
        exact ⟨x, dx1, _, rfl, hi, mfl_no _ _ (by decide +kernel) (by decide +kernel), ⟨x, _, _, kl, rfl, hm, tabS (tab_hid hpre.1 nz) s1, tabS (tab_hid hpre.2 nz) s1, fun y H' hy ev => ein hE hy ((Same.evo s1).trans ev)⟩⟩)⟩)) ?_
      rintro v H16 ⟨rfl, ev⟩
      have nl : ∀ {q : Addr} {ys : List V}, H15 q = some (.lst ys) → ¬ (q = A.t_lower ∨ q = A.t_Map_rank) := fun e z => z.elim (tab_ne lt.t1 e) (tab_ne lt.t2 e)
      have lt16 : LT2 A la r xs H16 := ⟨ev.lst lt.la (nl lt.la), ev.lst lt.r (nl lt.r), lt.t.evo ev fun z => z.elim T.ne_lower_law.symm T.ne_Map_rank_law.symm⟩
      have hwl := ev.lst hwl (nl hwl)
      refine ⟨_, _, _, rfl, rfl, hwl, (by show 3 < sizeLine; decide), ?_⟩
      exact hN _ _ ⟨wl, lt16.put hwl nlw nrw, upd_same, nlw, nrw, rfl⟩
    rintro σ H23 ⟨wl, lt0, hwl, nlw, nrw, rfl⟩
    -- word 4
    refine seq_via (I := fun σ H' => ∃ wl, LT2 A la r xs H' ∧ H' wl = some (.lst [V.str (wd true), V.str (wd true), V.str (wd true), V.str (wd true), V.str (wd false)]) ∧ la ≠ wl ∧ r ≠ wl ∧ σ = [some (V.ref a), some (V.ref wl), some (V.ref la), some (V.ref fo), some (V.int n), some (V.ref r), some (V.int pl)]) (fun N hN => ?_) ?_
    · refine ⟨_, rfl, ⟨.inl ⟨rfl, _, SqL.of hwl⟩, ⟨lt0.t, fun f H15 ok hfn hlam htab hold => ?_⟩⟩⟩
      have lt := lt0.lam T hold htab
      have hwl := lst_lam hwl lt0.t hold
      refine use_call (word_R (P := P) (w := w) (K := K) (mg := mg) (base := base) (A := A) (k := 8) (M := (fun _ => False)) (Pre := (fun H => H r = some (.lst xs))) (b := false) (N := ["_law_row", "_law_place", "_law_order"]) (fvs := [.ref r, .int pl, .ref fo]) hlam rfl ⟨rfl, rfl, rfl, by decide +kernel, rfl, by decide +kernel, by decide +kernel, by decide +kernel⟩ (by decide +kernel) (fun _ _ _ => rfl) (.cons ⟨5, rfl, rfl, rfl⟩ (.cons ⟨6, rfl, rfl, rfl⟩ (.cons ⟨3, rfl, rfl, rfl⟩ .nil))) (fun Hf s => s _ _ lt.r)
      (fun cdv Ar outer s H E hr hpre nz hE hP => ⟨_, pe_call G_nth (hr.mono (by omega)) rfl T.mg_nth T.fn_nth.kp T.b_nth .nil hP (pa_cons (pv 0) (pa_cons (pv 1) (pa_cons (pv 2) pa_nil))), ⟨_, rfl, ⟨_, rfl, ⟨_, rfl, ⟨r, _, pl, xs, rfl, SqL.of (nz _ _ hpre (fun o' u z => by cases z)), by rw [lxs]; exact hpl, hp0, hp1, fun x hx => ein hE hx Evo.refl⟩⟩⟩⟩⟩)) ?_
      rintro v H16 ⟨rfl, ev⟩
      have s16 := Evo.same ev
      have lt16 := lt.same s16
      have hwl := s16 _ _ hwl
      refine ⟨_, _, _, rfl, rfl, hwl, (by show 4 < sizeLine; decide), ?_⟩
      exact hN _ _ ⟨wl, lt16.put hwl nlw nrw, upd_same, nlw, nrw, rfl⟩
    rintro σ H24 ⟨wl, lt0, hwl, nlw, nrw, rfl⟩
    -- word 5
    refine seq_via (I := fun σ H' => ∃ wl, LT2 A la r xs H' ∧ H' wl = some (.lst [V.str (wd true), V.str (wd true), V.str (wd true), V.str (wd true), V.str (wd false), V.str (wd false)]) ∧ la ≠ wl ∧ r ≠ wl ∧ σ = [some (V.ref a), some (V.ref wl), some (V.ref la), some (V.ref fo), some (V.int n), some (V.ref r), some (V.int pl)]) (fun N hN => ?_) ?_
    · refine ⟨_, rfl, ⟨.inl ⟨rfl, _, SqL.of hwl⟩, ⟨lt0.t, fun f H15 ok hfn hlam htab hold => ?_⟩⟩⟩
      have lt := lt0.lam T hold htab
      have hwl := lst_lam hwl lt0.t hold
      refine use_call (word_R (P := P) (w := w) (K := K) (mg := mg) (base := base) (A := A) (k := 8) (M := (fun _ => False)) (Pre := (fun _ => True)) (b := false) (N := ["_law_order", "_law_place"]) (fvs := [.ref fo, .int pl]) hlam rfl ⟨rfl, rfl, rfl, by decide +kernel, rfl, by decide +kernel, by decide +kernel, by decide +kernel⟩ (by decide +kernel) (fun _ _ _ => rfl) (.cons ⟨3, rfl, rfl, rfl⟩ (.cons ⟨6, rfl, rfl, rfl⟩ .nil)) (fun _ _ => trivial)
      (fun cdv Ar outer s H E hr hpre nz hE hP => ⟨_, pe_meth (pe_make T.mk_Map G_Map___init__ (hr.mono (by omega)) rfl T.mgC_Map T.b_Map___init__ .nil pass0 (pa_cons (pv 0) pa_nil)) T.cl_Map T.m_Map_at G_Map_at (hr.mono (by omega)) T.b_Map_at .nil hP (pa_cons (pv 1) pa_nil), (by
        refine ⟨_, rfl, fun x dx nx ndx nex => ⟨x, dx, .ref fo, rfl, upd_same, fun kl H1 hk1 hm kp => ⟨rfl, ?_⟩⟩⟩
        have s1 : Same (hid H (CellOf _)) H1 := fun b u e => kp b u (by rw [upd_ne (ne_of_none e nx), upd_ne (ne_of_none e ndx)]; exact e) (ne_of_none e nx)
        obtain ⟨dx1, hi⟩ := hm.ins
        exact ⟨x, dx1, _, rfl, hi, mfl_no _ _ (by decide +kernel) (by decide +kernel), ⟨_, rfl, ⟨x, _, kl, pl, rfl, hm, hp0, hp1, fun y hy => ein hE hy (Same.evo s1)⟩⟩⟩)⟩)) ?_
      rintro v H16 ⟨rfl, ev⟩
      have s16 := Evo.same ev
      have lt16 := lt.same s16
      have hwl := s16 _ _ hwl
      refine ⟨_, _, _, rfl, rfl, hwl, (by show 5 < sizeLine; decide), ?_⟩
      exact hN _ _ ⟨wl, lt16.put hwl nlw nrw, upd_same, nlw, nrw, rfl⟩
    rintro σ H25 ⟨wl, lt0, hwl, nlw, nrw, rfl⟩
    -- all of them
    refine ⟨_, rfl, ⟨(by show 1 ≤ sizeLine; decide), fun p1 hp1 => ⟨p1, 4, _, rfl, rfl, upd_same, by omega, by omega, (by show 4 ≤ sizeLine; decide), fun p2 hp2 => ?_⟩⟩⟩
    have s1' := (Same.new hp1).trans (Same.new (o := .lst (List.replicate (4 : Int).toNat [V.str "NoElement"]).flatten) hp2)
    have h2 : (upd (upd H25 p1 (.lst [V.str "NoElement"])) p2 (.lst (List.replicate (4 : Int).toNat [V.str "NoElement"]).flatten)) p2 = some (.lst [V.str (wd true), V.str (wd true), V.str (wd true), V.str (wd true)]) := upd_same
    generalize upd (upd H25 p1 (.lst [V.str "NoElement"])) p2 (.lst (List.replicate (4 : Int).toNat [V.str "NoElement"]).flatten) = H26 at s1' h2
    refine ⟨(by show 1 ≤ sizeLine; decide), fun p3 hp3 => ⟨p3, 2, _, rfl, rfl, upd_same, by omega, by omega, (by show 2 ≤ sizeLine; decide), fun p4 hp4 => ?_⟩⟩
    have s2' := (Same.new hp3).trans (Same.new (o := .lst (List.replicate (2 : Int).toNat [V.str "NoPlace"]).flatten) hp4)
    have h4 : (upd (upd H26 p3 (.lst [V.str "NoPlace"])) p4 (.lst (List.replicate (2 : Int).toNat [V.str "NoPlace"]).flatten)) p4 = some (.lst [V.str (wd false), V.str (wd false)]) := upd_same
    generalize upd (upd H26 p3 (.lst [V.str "NoPlace"])) p4 (.lst (List.replicate (2 : Int).toNat [V.str "NoPlace"]).flatten) = H27 at s2' h4
    refine ⟨p2, p4, _, _, rfl, rfl, s2' _ _ h2, h4, (by show 6 ≤ sizeLine; decide), fun p5 hp5 => ?_⟩
    have s3' := Same.new (o := .lst [V.str (wd true), V.str (wd true), V.str (wd true), V.str (wd true), V.str (wd false), V.str (wd false)]) hp5
    have hwl' := s3' _ _ (s2' _ _ (s1' _ _ hwl))
    refine ⟨wl, p5, [wd true, wd true, wd true, wd true, wd false, wd false], rfl, rfl, SqL.of hwl', SqL.of upd_same, ⟨_, rfl, ?_⟩⟩
    refine iteT ?_
    have hla' := s3' _ _ (s2' _ _ (s1' _ _ lt0.la))
    refine ⟨_, rfl, ⟨Nat.zero_le _, fun p6 hp6 => ?_⟩⟩
    have s6 := Same.new (o := .lst []) hp6
    exact ⟨.lst [], .lst [], ⟨la, [], rfl, SqL.of (s6 _ _ hla'), trivial⟩, ⟨p6, [], rfl, SqL.of upd_same, trivial⟩, rfl, (by show 1 ≤ 100; decide), q _⟩
end

theorem txt_mk {q : Program} {loose : List Str} {mean : ExcName → Option Value} {K : PySem.W.Frag} {h : Heap} {mg mb : Str → Option Value} {C_Map X_NoElement X_NoPlace X_OrderError f_pop f_lower c_lower t_lower f_count_in_front f_least f_ends c_ends t_ends f_nth f_Map___init__ f_Map_get f_Map_at f_Map_rank c_Map_rank t_Map_rank f_Map_is_like f__law_cell f__law_drawn f__law_word f_law c_law t_law : Addr}
    {od_pop an_pop : Option Addr} {sl_pop : Array (Option Value)} {oc_pop kV_pop dc_pop pm_pop ct_pop cd_pop : Value}
    {od_lower an_lower : Option Addr} {sl_lower : Array (Option Value)} {oc_lower kV_lower dc_lower pm_lower ct_lower : Value}
    {o2_lower : Value} {o3_lower : Option Addr} {vs_lower : Array Value} {o4_lower : Array (Option Value)} {r_lower : DefRec}
    {od_count_in_front an_count_in_front : Option Addr} {sl_count_in_front : Array (Option Value)} {oc_count_in_front kV_count_in_front dc_count_in_front pm_count_in_front ct_count_in_front cd_count_in_front : Value}
    {od_least an_least : Option Addr} {sl_least : Array (Option Value)} {oc_least kV_least dc_least pm_least ct_least cd_least : Value}
    {od_ends an_ends : Option Addr} {sl_ends : Array (Option Value)} {oc_ends kV_ends dc_ends pm_ends ct_ends : Value}
    {o2_ends : Value} {o3_ends : Option Addr} {vs_ends : Array Value} {o4_ends : Array (Option Value)} {r_ends : DefRec}
    {od_nth an_nth : Option Addr} {sl_nth : Array (Option Value)} {oc_nth kV_nth dc_nth pm_nth ct_nth cd_nth : Value}
    {od_Map___init__ an_Map___init__ : Option Addr} {sl_Map___init__ : Array (Option Value)} {oc_Map___init__ kV_Map___init__ dc_Map___init__ pm_Map___init__ ct_Map___init__ cd_Map___init__ : Value}
    {od_Map_get an_Map_get : Option Addr} {sl_Map_get : Array (Option Value)} {oc_Map_get kV_Map_get dc_Map_get pm_Map_get ct_Map_get cd_Map_get : Value}
    {od_Map_at an_Map_at : Option Addr} {sl_Map_at : Array (Option Value)} {oc_Map_at kV_Map_at dc_Map_at pm_Map_at ct_Map_at cd_Map_at : Value}
    {od_Map_rank an_Map_rank : Option Addr} {sl_Map_rank : Array (Option Value)} {oc_Map_rank kV_Map_rank dc_Map_rank pm_Map_rank ct_Map_rank : Value}
    {o2_Map_rank : Value} {o3_Map_rank : Option Addr} {vs_Map_rank : Array Value} {o4_Map_rank : Array (Option Value)}
    {od_Map_is_like an_Map_is_like : Option Addr} {sl_Map_is_like : Array (Option Value)} {oc_Map_is_like kV_Map_is_like dc_Map_is_like pm_Map_is_like ct_Map_is_like cd_Map_is_like : Value}
    {od__law_cell an__law_cell : Option Addr} {sl__law_cell : Array (Option Value)} {oc__law_cell kV__law_cell dc__law_cell pm__law_cell ct__law_cell cd__law_cell : Value}
    {od__law_drawn an__law_drawn : Option Addr} {sl__law_drawn : Array (Option Value)} {oc__law_drawn kV__law_drawn dc__law_drawn pm__law_drawn ct__law_drawn cd__law_drawn : Value}
    {od__law_word an__law_word : Option Addr} {sl__law_word : Array (Option Value)} {oc__law_word kV__law_word dc__law_word pm__law_word ct__law_word cd__law_word : Value}
    {od_law an_law : Option Addr} {sl_law : Array (Option Value)} {oc_law kV_law dc_law pm_law ct_law : Value}
    {o2_law : Value} {o3_law : Option Addr} {vs_law : Array Value} {o4_law : Array (Option Value)} {r_law : DefRec}
    (T0 : Top q loose mean mg mb h) (X : K.In h)
    (aC_Map : PySem.W.nsIn K mainGlobals "Map" = some (some (.ref C_Map))) (pg_Map : PySem.W.plainGet K C_Map Str.empty = true) (hd_Map : PySem.W.hasDictIn K C_Map = true) (po_Map : PySem.W.plainOver K C_Map = true) (sa_Map : PySem.W.findIn K (.ref C_Map) "__setattr__" = some (some (.builtin "object.__setattr__"))) (mk_Map : PySem.W.makesIn K C_Map = true) (kc_Map : PySem.W.keepIn K (.ref C_Map) = true)
    (nA_Map_kept : PySem.W.findIn K (.ref C_Map) "kept" = some none)
    (nA_Map_order : PySem.W.findIn K (.ref C_Map) "order" = some none)
    (aX_NoElement : PySem.W.nsIn K mainGlobals "NoElement" = some (some (.ref X_NoElement)))
    (aX_NoPlace : PySem.W.nsIn K mainGlobals "NoPlace" = some (some (.ref X_NoPlace)))
    (aX_OrderError : PySem.W.nsIn K mainGlobals "OrderError" = some (some (.ref X_OrderError)))
    (xc_NoElement : XCls K X_NoElement)
    (ex_NoElement : PySem.W.exmOne K (.ref X_NoElement) (.ref X_OrderError) = some true)
    (kv_NoElement : PySem.W.kitOne K (.ref X_NoElement) (.type "ValueError") = some true)
    (kt_NoElement_NoElement : PySem.W.kitOne K (.ref X_NoElement) (.ref X_NoElement) = some true)
    (kt_NoElement_NoPlace : PySem.W.kitOne K (.ref X_NoElement) (.ref X_NoPlace) = some false)
    (xc_NoPlace : XCls K X_NoPlace)
    (ex_NoPlace : PySem.W.exmOne K (.ref X_NoPlace) (.ref X_OrderError) = some true)
    (kv_NoPlace : PySem.W.kitOne K (.ref X_NoPlace) (.type "ValueError") = some true)
    (kt_NoPlace_NoElement : PySem.W.kitOne K (.ref X_NoPlace) (.ref X_NoElement) = some false)
    (kt_NoPlace_NoPlace : PySem.W.kitOne K (.ref X_NoPlace) (.ref X_NoPlace) = some true)
    (a_pop : PySem.W.nsIn K mainGlobals "pop" = some (some (.ref f_pop))) (l_pop : K.lookup f_pop = some ⟨oc_pop, od_pop, .func (PySem.W.fnOf "pop" "pop" (defArgs s_pop) (defBody s_pop) (defScope s_pop) .none kV_pop dc_pop pm_pop an_pop cd_pop ct_pop), sl_pop⟩) (e_pop : PySem.W.codeIn K cd_pop "pop" = true) (k_pop : PySem.W.keepIn K (.ref f_pop) = true)
    (a_lower : PySem.W.nsIn K mainGlobals "lower" = some (some (.ref f_lower))) (l_lower : K.lookup f_lower = some ⟨oc_lower, od_lower, .func (PySem.W.fnOf "lower" "lower" (defArgs s_lower) (defBody s_lower) (defScope s_lower) .none kV_lower dc_lower pm_lower an_lower (.ref c_lower) ct_lower), sl_lower⟩) (e_lower : PySem.W.codeIn K (.ref c_lower) "lower" = true) (k_lower : PySem.W.keepIn K (.ref f_lower) = true)
    (g_lower : K.lookup c_lower = some ⟨o2_lower, o3_lower, .fields vs_lower, o4_lower⟩) (v_lower : vs_lower[11]? = some (.ref t_lower)) (w_lower : (recsOf q).find? (fun e => e.name == ("lower" : Str)) = some r_lower)
    (a_count_in_front : PySem.W.nsIn K mainGlobals "count_in_front" = some (some (.ref f_count_in_front))) (l_count_in_front : K.lookup f_count_in_front = some ⟨oc_count_in_front, od_count_in_front, .func (PySem.W.fnOf "count_in_front" "count_in_front" (defArgs s_count_in_front) (defBody s_count_in_front) (defScope s_count_in_front) .none kV_count_in_front dc_count_in_front pm_count_in_front an_count_in_front cd_count_in_front ct_count_in_front), sl_count_in_front⟩) (e_count_in_front : PySem.W.codeIn K cd_count_in_front "count_in_front" = true) (k_count_in_front : PySem.W.keepIn K (.ref f_count_in_front) = true)
    (a_least : PySem.W.nsIn K mainGlobals "least" = some (some (.ref f_least))) (l_least : K.lookup f_least = some ⟨oc_least, od_least, .func (PySem.W.fnOf "least" "least" (defArgs s_least) (defBody s_least) (defScope s_least) .none kV_least dc_least pm_least an_least cd_least ct_least), sl_least⟩) (e_least : PySem.W.codeIn K cd_least "least" = true) (k_least : PySem.W.keepIn K (.ref f_least) = true)
    (a_ends : PySem.W.nsIn K mainGlobals "ends" = some (some (.ref f_ends))) (l_ends : K.lookup f_ends = some ⟨oc_ends, od_ends, .func (PySem.W.fnOf "ends" "ends" (defArgs s_ends) (defBody s_ends) (defScope s_ends) .none kV_ends dc_ends pm_ends an_ends (.ref c_ends) ct_ends), sl_ends⟩) (e_ends : PySem.W.codeIn K (.ref c_ends) "ends" = true) (k_ends : PySem.W.keepIn K (.ref f_ends) = true)
    (g_ends : K.lookup c_ends = some ⟨o2_ends, o3_ends, .fields vs_ends, o4_ends⟩) (v_ends : vs_ends[11]? = some (.ref t_ends)) (w_ends : (recsOf q).find? (fun e => e.name == ("ends" : Str)) = some r_ends)
    (a_nth : PySem.W.nsIn K mainGlobals "nth" = some (some (.ref f_nth))) (l_nth : K.lookup f_nth = some ⟨oc_nth, od_nth, .func (PySem.W.fnOf "nth" "nth" (defArgs s_nth) (defBody s_nth) (defScope s_nth) .none kV_nth dc_nth pm_nth an_nth cd_nth ct_nth), sl_nth⟩) (e_nth : PySem.W.codeIn K cd_nth "nth" = true) (k_nth : PySem.W.keepIn K (.ref f_nth) = true)
    (a_Map___init__ : PySem.W.findIn K (.ref C_Map) "__init__" = some (some (.ref f_Map___init__))) (i_Map___init__ : PySem.W.isFn K (.ref f_Map___init__) = true) (l_Map___init__ : K.lookup f_Map___init__ = some ⟨oc_Map___init__, od_Map___init__, .func (PySem.W.fnOf "__init__" "Map.__init__" (defArgs s_Map___init__) (defBody s_Map___init__) (defScope s_Map___init__) .none kV_Map___init__ dc_Map___init__ pm_Map___init__ an_Map___init__ cd_Map___init__ ct_Map___init__), sl_Map___init__⟩) (e_Map___init__ : PySem.W.codeIn K cd_Map___init__ "Map.__init__" = true) (k_Map___init__ : PySem.W.keepIn K (.ref f_Map___init__) = true)
    (a_Map_get : PySem.W.findIn K (.ref C_Map) "get" = some (some (.ref f_Map_get))) (i_Map_get : PySem.W.isFn K (.ref f_Map_get) = true) (l_Map_get : K.lookup f_Map_get = some ⟨oc_Map_get, od_Map_get, .func (PySem.W.fnOf "get" "Map.get" (defArgs s_Map_get) (defBody s_Map_get) (defScope s_Map_get) .none kV_Map_get dc_Map_get pm_Map_get an_Map_get cd_Map_get ct_Map_get), sl_Map_get⟩) (e_Map_get : PySem.W.codeIn K cd_Map_get "Map.get" = true) (k_Map_get : PySem.W.keepIn K (.ref f_Map_get) = true)
    (a_Map_at : PySem.W.findIn K (.ref C_Map) "at" = some (some (.ref f_Map_at))) (i_Map_at : PySem.W.isFn K (.ref f_Map_at) = true) (l_Map_at : K.lookup f_Map_at = some ⟨oc_Map_at, od_Map_at, .func (PySem.W.fnOf "at" "Map.at" (defArgs s_Map_at) (defBody s_Map_at) (defScope s_Map_at) .none kV_Map_at dc_Map_at pm_Map_at an_Map_at cd_Map_at ct_Map_at), sl_Map_at⟩) (e_Map_at : PySem.W.codeIn K cd_Map_at "Map.at" = true) (k_Map_at : PySem.W.keepIn K (.ref f_Map_at) = true)
    (a_Map_rank : PySem.W.findIn K (.ref C_Map) "rank" = some (some (.ref f_Map_rank))) (i_Map_rank : PySem.W.isFn K (.ref f_Map_rank) = true) (l_Map_rank : K.lookup f_Map_rank = some ⟨oc_Map_rank, od_Map_rank, .func (PySem.W.fnOf "rank" "Map.rank" (defArgs s_Map_rank) (defBody s_Map_rank) (defScope s_Map_rank) .none kV_Map_rank dc_Map_rank pm_Map_rank an_Map_rank (.ref c_Map_rank) ct_Map_rank), sl_Map_rank⟩) (e_Map_rank : PySem.W.codeIn K (.ref c_Map_rank) "Map.rank" = true) (k_Map_rank : PySem.W.keepIn K (.ref f_Map_rank) = true)
    (g_Map_rank : K.lookup c_Map_rank = some ⟨o2_Map_rank, o3_Map_rank, .fields vs_Map_rank, o4_Map_rank⟩) (v_Map_rank : vs_Map_rank[11]? = some (.ref t_Map_rank)) (q_Map_rank : PySem.W.codeHdIn K c_Map_rank t_Map_rank = true) (y_Map_rank : h.get? t_Map_rank = some (PySem.W.tabObj #[]))
    (a_Map_is_like : PySem.W.findIn K (.ref C_Map) "is_like" = some (some (.ref f_Map_is_like))) (i_Map_is_like : PySem.W.isFn K (.ref f_Map_is_like) = true) (l_Map_is_like : K.lookup f_Map_is_like = some ⟨oc_Map_is_like, od_Map_is_like, .func (PySem.W.fnOf "is_like" "Map.is_like" (defArgs s_Map_is_like) (defBody s_Map_is_like) (defScope s_Map_is_like) .none kV_Map_is_like dc_Map_is_like pm_Map_is_like an_Map_is_like cd_Map_is_like ct_Map_is_like), sl_Map_is_like⟩) (e_Map_is_like : PySem.W.codeIn K cd_Map_is_like "Map.is_like" = true) (k_Map_is_like : PySem.W.keepIn K (.ref f_Map_is_like) = true)
    (a__law_cell : PySem.W.nsIn K mainGlobals "_law_cell" = some (some (.ref f__law_cell))) (l__law_cell : K.lookup f__law_cell = some ⟨oc__law_cell, od__law_cell, .func (PySem.W.fnOf "_law_cell" "_law_cell" (defArgs s__law_cell) (defBody s__law_cell) (defScope s__law_cell) .none kV__law_cell dc__law_cell pm__law_cell an__law_cell cd__law_cell ct__law_cell), sl__law_cell⟩) (e__law_cell : PySem.W.codeIn K cd__law_cell "_law_cell" = true) (k__law_cell : PySem.W.keepIn K (.ref f__law_cell) = true)
    (a__law_drawn : PySem.W.nsIn K mainGlobals "_law_drawn" = some (some (.ref f__law_drawn))) (l__law_drawn : K.lookup f__law_drawn = some ⟨oc__law_drawn, od__law_drawn, .func (PySem.W.fnOf "_law_drawn" "_law_drawn" (defArgs s__law_drawn) (defBody s__law_drawn) (defScope s__law_drawn) .none kV__law_drawn dc__law_drawn pm__law_drawn an__law_drawn cd__law_drawn ct__law_drawn), sl__law_drawn⟩) (e__law_drawn : PySem.W.codeIn K cd__law_drawn "_law_drawn" = true) (k__law_drawn : PySem.W.keepIn K (.ref f__law_drawn) = true)
    (a__law_word : PySem.W.nsIn K mainGlobals "_law_word" = some (some (.ref f__law_word))) (l__law_word : K.lookup f__law_word = some ⟨oc__law_word, od__law_word, .func (PySem.W.fnOf "_law_word" "_law_word" (defArgs s__law_word) (defBody s__law_word) (defScope s__law_word) .none kV__law_word dc__law_word pm__law_word an__law_word cd__law_word ct__law_word), sl__law_word⟩) (e__law_word : PySem.W.codeIn K cd__law_word "_law_word" = true) (k__law_word : PySem.W.keepIn K (.ref f__law_word) = true)
    (a_law : PySem.W.nsIn K mainGlobals "law" = some (some (.ref f_law))) (l_law : K.lookup f_law = some ⟨oc_law, od_law, .func (PySem.W.fnOf "law" "law" (defArgs s_law) (defBody s_law) (defScope s_law) .none kV_law dc_law pm_law an_law (.ref c_law) ct_law), sl_law⟩) (e_law : PySem.W.codeIn K (.ref c_law) "law" = true) (k_law : PySem.W.keepIn K (.ref f_law) = true)
    (g_law : K.lookup c_law = some ⟨o2_law, o3_law, .fields vs_law, o4_law⟩) (v_law : vs_law[11]? = some (.ref t_law)) (w_law : (recsOf q).find? (fun e => e.name == ("law" : Str)) = some r_law)
    (z_len : PySem.W.nsIn K mainGlobals "len" = some none)
    (z_int : PySem.W.nsIn K mainGlobals "int" = some none)
    (z_isinstance : PySem.W.nsIn K mainGlobals "isinstance" = some none)
    (z_ValueError : PySem.W.nsIn K mainGlobals "ValueError" = some none)
    (z_range : PySem.W.nsIn K mainGlobals "range" = some none)
    (z_str : PySem.W.nsIn K mainGlobals "str" = some none)
    (z_list : PySem.W.nsIn K mainGlobals "list" = some none)
    (n_lower_ends : t_lower ≠ t_ends)
    (n_lower_Map_rank : t_lower ≠ t_Map_rank)
    (n_lower_law : t_lower ≠ t_law)
    (n_ends_Map_rank : t_ends ≠ t_Map_rank)
    (n_ends_law : t_ends ≠ t_law)
    (n_Map_rank_law : t_Map_rank ≠ t_law)
    (xs_NoElement : specOf q "NoElement" = some ("ValueError.__new__", bmV))
    (xs_NoPlace : specOf q "NoPlace" = some ("ValueError.__new__", bmV))
    : ∃ A, Txt K mg A ∧ PySem.W.TabsAt (tabs A) h ∧ Own mg h A := by
  obtain ⟨Y_NoElement, O_NoElement, _⟩ := T0.ownAt xs_NoElement
  have m_NoElement := PySem.W.mg_of X T0.g aX_NoElement
  rw [O_NoElement.own.bound] at m_NoElement; cases m_NoElement
  obtain ⟨Y_NoPlace, O_NoPlace, _⟩ := T0.ownAt xs_NoPlace
  have m_NoPlace := PySem.W.mg_of X T0.g aX_NoPlace
  rw [O_NoPlace.own.bound] at m_NoPlace; cases m_NoPlace
  have F_pop := fun_mk (st := s_pop) l_pop e_pop k_pop
  have F_lower := fun_mk (st := s_lower) l_lower e_lower k_lower
  have F_count_in_front := fun_mk (st := s_count_in_front) l_count_in_front e_count_in_front k_count_in_front
  have F_least := fun_mk (st := s_least) l_least e_least k_least
  have F_ends := fun_mk (st := s_ends) l_ends e_ends k_ends
  have F_nth := fun_mk (st := s_nth) l_nth e_nth k_nth
  have F_Map___init__ := fun_mk (st := s_Map___init__) l_Map___init__ e_Map___init__ k_Map___init__
  have F_Map_get := fun_mk (st := s_Map_get) l_Map_get e_Map_get k_Map_get
  have F_Map_at := fun_mk (st := s_Map_at) l_Map_at e_Map_at k_Map_at
  have F_Map_rank := fun_mk (st := s_Map_rank) l_Map_rank e_Map_rank k_Map_rank
  have F_Map_is_like := fun_mk (st := s_Map_is_like) l_Map_is_like e_Map_is_like k_Map_is_like
  have F__law_cell := fun_mk (st := s__law_cell) l__law_cell e__law_cell k__law_cell
  have F__law_drawn := fun_mk (st := s__law_drawn) l__law_drawn e__law_drawn k__law_drawn
  have F__law_word := fun_mk (st := s__law_word) l__law_word e__law_word k__law_word
  have F_law := fun_mk (st := s_law) l_law e_law k_law
  refine ⟨⟨C_Map, X_NoElement, X_NoPlace, X_OrderError, f_pop, PySem.W.fnOf "pop" "pop" (defArgs s_pop) (defBody s_pop) (defScope s_pop) .none kV_pop dc_pop pm_pop an_pop cd_pop ct_pop, f_lower, PySem.W.fnOf "lower" "lower" (defArgs s_lower) (defBody s_lower) (defScope s_lower) .none kV_lower dc_lower pm_lower an_lower (.ref c_lower) ct_lower, c_lower, t_lower, f_count_in_front, PySem.W.fnOf "count_in_front" "count_in_front" (defArgs s_count_in_front) (defBody s_count_in_front) (defScope s_count_in_front) .none kV_count_in_front dc_count_in_front pm_count_in_front an_count_in_front cd_count_in_front ct_count_in_front, f_least, PySem.W.fnOf "least" "least" (defArgs s_least) (defBody s_least) (defScope s_least) .none kV_least dc_least pm_least an_least cd_least ct_least, f_ends, PySem.W.fnOf "ends" "ends" (defArgs s_ends) (defBody s_ends) (defScope s_ends) .none kV_ends dc_ends pm_ends an_ends (.ref c_ends) ct_ends, c_ends, t_ends, f_nth, PySem.W.fnOf "nth" "nth" (defArgs s_nth) (defBody s_nth) (defScope s_nth) .none kV_nth dc_nth pm_nth an_nth cd_nth ct_nth, f_Map___init__, PySem.W.fnOf "__init__" "Map.__init__" (defArgs s_Map___init__) (defBody s_Map___init__) (defScope s_Map___init__) .none kV_Map___init__ dc_Map___init__ pm_Map___init__ an_Map___init__ cd_Map___init__ ct_Map___init__, f_Map_get, PySem.W.fnOf "get" "Map.get" (defArgs s_Map_get) (defBody s_Map_get) (defScope s_Map_get) .none kV_Map_get dc_Map_get pm_Map_get an_Map_get cd_Map_get ct_Map_get, f_Map_at, PySem.W.fnOf "at" "Map.at" (defArgs s_Map_at) (defBody s_Map_at) (defScope s_Map_at) .none kV_Map_at dc_Map_at pm_Map_at an_Map_at cd_Map_at ct_Map_at, f_Map_rank, PySem.W.fnOf "rank" "Map.rank" (defArgs s_Map_rank) (defBody s_Map_rank) (defScope s_Map_rank) .none kV_Map_rank dc_Map_rank pm_Map_rank an_Map_rank (.ref c_Map_rank) ct_Map_rank, c_Map_rank, t_Map_rank, f_Map_is_like, PySem.W.fnOf "is_like" "Map.is_like" (defArgs s_Map_is_like) (defBody s_Map_is_like) (defScope s_Map_is_like) .none kV_Map_is_like dc_Map_is_like pm_Map_is_like an_Map_is_like cd_Map_is_like ct_Map_is_like, f__law_cell, PySem.W.fnOf "_law_cell" "_law_cell" (defArgs s__law_cell) (defBody s__law_cell) (defScope s__law_cell) .none kV__law_cell dc__law_cell pm__law_cell an__law_cell cd__law_cell ct__law_cell, f__law_drawn, PySem.W.fnOf "_law_drawn" "_law_drawn" (defArgs s__law_drawn) (defBody s__law_drawn) (defScope s__law_drawn) .none kV__law_drawn dc__law_drawn pm__law_drawn an__law_drawn cd__law_drawn ct__law_drawn, f__law_word, PySem.W.fnOf "_law_word" "_law_word" (defArgs s__law_word) (defBody s__law_word) (defScope s__law_word) .none kV__law_word dc__law_word pm__law_word an__law_word cd__law_word ct__law_word, f_law, PySem.W.fnOf "law" "law" (defArgs s_law) (defBody s_law) (defScope s_law) .none kV_law dc_law pm_law an_law (.ref c_law) ct_law, c_law, t_law⟩, ⟨?x0, ?x1, ?x2, ?x3, ?x4, ?x5, ?x6, ?x7, ?x8, ?x9, ?x10, ?x11, ?x12, ?x13, ?x14, ?x15, ?x16, ?x17, ?x18, ?x19, ?x20, ?x21, ?x22, ?x23, ?x24, ?x25, ?x26, ?x27, ?x28, ?x29, ?x30, ?x31, ?x32, ?x33, ?x34, ?x35, ?x36, ?x37, ?x38, ?x39, ?x40, ?x41, ?x42, ?x43, ?x44, ?x45, ?x46, ?x47, ?x48, ?x49, ?x50, ?x51, ?x52, ?x53, ?x54, ?x55, ?x56, ?x57, ?x58, ?x59, ?x60, ?x61, ?x62, ?x63, ?x64, ?x65, ?x66, ?x67, ?x68, ?x69, ?x70, ?x71, ?x72, ?x73, ?x74, ?x75, ?x76, ?x77, ?x78, ?x79, ?x80⟩, ?_, ⟨O_NoElement.own, O_NoPlace.own⟩⟩
  · exact ⟨pg_Map, hd_Map, po_Map, sa_Map⟩
  · exact PySem.W.mg_of X T0.g aC_Map
  · exact ⟨mk_Map, a_Map___init__, i_Map___init__, kc_Map⟩
  · exact nA_Map_kept
  · exact nA_Map_order
  · exact PySem.W.mg_of X T0.g aX_NoElement
  · exact PySem.W.mg_of X T0.g aX_NoPlace
  · exact PySem.W.mg_of X T0.g aX_OrderError
  · exact xc_NoElement
  · exact ex_NoElement
  · exact kv_NoElement
  · exact kt_NoElement_NoElement
  · exact kt_NoElement_NoPlace
  · exact xc_NoPlace
  · exact ex_NoPlace
  · exact kv_NoPlace
  · exact kt_NoPlace_NoElement
  · exact kt_NoPlace_NoPlace
  · exact F_pop
  · exact PySem.W.mg_of X T0.g a_pop
  · exact F_pop.binds (ps := ["heap", "order"]) fun _ _ _ _ _ _ us hl => match us, hl with | [_, _], _ => rfl
  · exact F_lower
  · exact PySem.W.mg_of X T0.g a_lower
  · exact F_lower.binds (ps := ["row", "key", "order"]) fun _ _ _ _ _ _ us hl => match us, hl with | [_, _, _], _ => rfl
  · rfl
  · exact F_count_in_front
  · exact PySem.W.mg_of X T0.g a_count_in_front
  · exact F_count_in_front.binds (ps := ["row", "is_in_front"]) fun _ _ _ _ _ _ us hl => match us, hl with | [_, _], _ => rfl
  · exact F_least
  · exact PySem.W.mg_of X T0.g a_least
  · exact F_least.binds (ps := ["row", "order"]) fun _ _ _ _ _ _ us hl => match us, hl with | [_, _], _ => rfl
  · exact F_ends
  · exact PySem.W.mg_of X T0.g a_ends
  · exact F_ends.binds (ps := ["row", "order"]) fun _ _ _ _ _ _ us hl => match us, hl with | [_, _], _ => rfl
  · rfl
  · exact F_nth
  · exact PySem.W.mg_of X T0.g a_nth
  · exact F_nth.binds (ps := ["row", "k", "order"]) fun _ _ _ _ _ _ us hl => match us, hl with | [_, _, _], _ => rfl
  · exact F_Map___init__
  · exact ⟨a_Map___init__, i_Map___init__, k_Map___init__⟩
  · exact F_Map___init__.binds (ps := ["self", "order"]) fun _ _ _ _ _ _ us hl => match us, hl with | [_, _], _ => rfl
  · exact F_Map_get
  · exact ⟨a_Map_get, i_Map_get, k_Map_get⟩
  · exact F_Map_get.binds (ps := ["self", "key"]) fun _ _ _ _ _ _ us hl => match us, hl with | [_, _], _ => rfl
  · exact F_Map_at
  · exact ⟨a_Map_at, i_Map_at, k_Map_at⟩
  · exact F_Map_at.binds (ps := ["self", "place"]) fun _ _ _ _ _ _ us hl => match us, hl with | [_, _], _ => rfl
  · exact F_Map_rank
  · exact ⟨a_Map_rank, i_Map_rank, k_Map_rank⟩
  · exact F_Map_rank.binds (ps := ["self", "key"]) fun _ _ _ _ _ _ us hl => match us, hl with | [_, _], _ => rfl
  · rfl
  · exact F_Map_is_like
  · exact ⟨a_Map_is_like, i_Map_is_like, k_Map_is_like⟩
  · exact F_Map_is_like.binds (ps := ["self", "place", "key"]) fun _ _ _ _ _ _ us hl => match us, hl with | [_, _, _], _ => rfl
  · exact F__law_cell
  · exact PySem.W.mg_of X T0.g a__law_cell
  · exact F__law_cell.binds (ps := ["_law_script", "_law_k"]) fun _ _ _ _ _ _ us hl => match us, hl with | [_, _], _ => rfl
  · exact F__law_drawn
  · exact PySem.W.mg_of X T0.g a__law_drawn
  · exact F__law_drawn.binds (ps := ["_law_cell_here", "_law_k"]) fun _ _ _ _ _ _ us hl => match us, hl with | [_, _], _ => rfl
  · exact F__law_word
  · exact PySem.W.mg_of X T0.g a__law_word
  · exact F__law_word.binds (ps := ["_law_rule"]) fun _ _ _ _ _ _ us hl => match us, hl with | [_], _ => rfl
  · exact F_law
  · exact PySem.W.mg_of X T0.g a_law
  · exact F_law.binds (ps := ["_law_script"]) fun _ _ _ _ _ _ us hl => match us, hl with | [_], _ => rfl
  · rfl
  · exact fun s v => .of_eq rfl
  · exact PySem.W.mg_none_of X T0.g z_len
  · exact PySem.W.mg_none_of X T0.g z_int
  · exact PySem.W.mg_none_of X T0.g z_isinstance
  · exact PySem.W.mg_none_of X T0.g z_ValueError
  · exact PySem.W.mg_none_of X T0.g z_range
  · exact PySem.W.mg_none_of X T0.g z_str
  · exact PySem.W.mg_none_of X T0.g z_list
  · exact n_lower_ends
  · exact n_lower_Map_rank
  · exact n_lower_law
  · exact n_ends_Map_rank
  · exact n_ends_law
  · exact n_Map_rank_law
  · intro p hp
    simp only [tabs, List.mem_cons, List.not_mem_nil, or_false] at hp
    rcases hp with rfl | rfl | rfl | rfl
    · exact PySem.W.tab_of T0 X w_lower (tab_at a_lower l_lower rfl g_lower v_lower)
    · exact PySem.W.tab_of T0 X w_ends (tab_at a_ends l_ends rfl g_ends v_ends)
    · exact ⟨PySem.W.codeHd_of_K X q_Map_rank, y_Map_rank⟩
    · exact PySem.W.tab_of T0 X w_law (tab_at a_law l_law rfl g_law v_law)
theorem walk {l : PySem.W.OpenLaw} {q : Program} {loose : List Str} {XP : (Str → Option Value) → Heap → Prop} {YP : World → Heap → Prop} {d : DefRec} {K : Params → PySem.W.Frag} {ts : List Addr} (hn : l.most = some 63) (hdf : d.params.defaults = []) (hnm : d.name = "law")
    (hY : ∀ (w : World) (h : Heap), YP w h → (K w.params).In h) (hT8 : ∀ (w : World) (h : Heap), YP w h → ∀ P ∈ ts, h.get? P = some (PySem.W.tabObj #[])) (hKt : ∀ w : World, PySem.W.noTabs (K w.params) = true)
    (F : ∀ (w : World) (mean : ExcName → Option Value) (mg mb : Str → Option Value) (h : Heap), Top q (PySem.W.looseW q loose) mean mg mb h → (K w.params).In h → (∀ P ∈ ts, h.get? P = some (PySem.W.tabObj #[])) → ∃ A, Txt (K w.params) mg A ∧ PySem.W.TabsAt (tabs A) h ∧ Own mg h A) :
    PySem.W.WalkO q loose XP YP l.row.toRowW d [] (fun f vs => PySem.call f vs) := by
  refine L2.walk_ofZ (n := 63) (k := 14) (x := "_law_script") hn (by decide) hdf ⟨rfl, by decide, by decide⟩ hY hKt fun w mean mg mb fa h Y T0 KX hmg => ?_
  obtain ⟨A, T, hT, OC⟩ := F w mean mg mb h T0 KX (hT8 w h Y)
  rw [hnm] at hmg
  have e := hmg.symm.trans T.mg_law
  cases e
  exact ⟨A.d_law, tabs A, spLaw (K w.params) A, hT, T.bt_law, fun base _ _ bm CH kc => ok_law T CH bm ⟨own_keptC kc OC.NoElement, own_keptC kc OC.NoPlace⟩, fun H a ns hl hO hS => ⟨a, ns, rfl, hS, hl, TabOk.nil (hO (A.c_lower, A.t_lower) (by simp [tabs])), TabOk.nil (hO (A.c_ends, A.t_ends) (by simp [tabs])), TabOk.nil (hO (A.c_Map_rank, A.t_Map_rank) (by simp [tabs])), TabOk.nil (hO (A.c_law, A.t_law) (by simp [tabs])), fun _ => rfl⟩⟩
end LW
open PySem PySem.W PyProof.Rows
set_option maxRecDepth 100000 in
set_option maxHeartbeats 0 in
theorem PySem.Challenge.cw_yourorder_k10_refusals_apart_holds : PySem.Challenge.rw_yourorder_k10_refusals_apart.Holds := by
  w_on; o_law; k_head; (case hw => w_witness2)
  k_fill
  refine LW.walk (l := PySem.Challenge.rw_yourorder_k10_refusals_apart) rfl rfl rfl (fun w h Y => PySem.W.km_in_of Y) (fun w h Y => PySem.W.km_tabs_of Y) (fun w => ?K) ?F
  case K => kernel_rfl
  case F =>
    intro w mean mg mb h T0 KX hT8
    refine' LW.txt_mk T0 KX ?aC_Map ?pg_Map ?hd_Map ?po_Map ?sa_Map ?mk_Map ?kc_Map ?nA_Map_kept ?nA_Map_order ?aX_NoElement ?aX_NoPlace ?aX_OrderError ?xc_NoElement ?ex_NoElement ?kv_NoElement ?kt_NoElement_NoElement ?kt_NoElement_NoPlace ?xc_NoPlace ?ex_NoPlace ?kv_NoPlace ?kt_NoPlace_NoElement ?kt_NoPlace_NoPlace ?a_pop ?l_pop ?e_pop ?k_pop ?a_lower ?l_lower ?e_lower ?k_lower ?g_lower ?v_lower ?w_lower ?a_count_in_front ?l_count_in_front ?e_count_in_front ?k_count_in_front ?a_least ?l_least ?e_least ?k_least ?a_ends ?l_ends ?e_ends ?k_ends ?g_ends ?v_ends ?w_ends ?a_nth ?l_nth ?e_nth ?k_nth ?a_Map___init__ ?i_Map___init__ ?l_Map___init__ ?e_Map___init__ ?k_Map___init__ ?a_Map_get ?i_Map_get ?l_Map_get ?e_Map_get ?k_Map_get ?a_Map_at ?i_Map_at ?l_Map_at ?e_Map_at ?k_Map_at ?a_Map_rank ?i_Map_rank ?l_Map_rank ?e_Map_rank ?k_Map_rank ?g_Map_rank ?v_Map_rank ?q_Map_rank ?y_Map_rank ?a_Map_is_like ?i_Map_is_like ?l_Map_is_like ?e_Map_is_like ?k_Map_is_like ?a__law_cell ?l__law_cell ?e__law_cell ?k__law_cell ?a__law_drawn ?l__law_drawn ?e__law_drawn ?k__law_drawn ?a__law_word ?l__law_word ?e__law_word ?k__law_word ?a_law ?l_law ?e_law ?k_law ?g_law ?v_law ?w_law ?z_len ?z_int ?z_isinstance ?z_ValueError ?z_range ?z_str ?z_list ?n_lower_ends ?n_lower_Map_rank ?n_lower_law ?n_ends_Map_rank ?n_ends_law ?n_Map_rank_law ?xs_NoElement ?xs_NoPlace
    (case aC_Map => k_is); (case pg_Map => k_is); (case hd_Map => k_is); (case po_Map => k_is); (case sa_Map => k_is); (case mk_Map => k_is); (case kc_Map => k_is); (case nA_Map_kept => k_is); (case nA_Map_order => k_is)
    (case aX_NoElement => k_is)
    (case aX_NoPlace => k_is)
    (case aX_OrderError => k_is)
    (case xc_NoElement => exact ⟨by kernel_rfl, by k_is, by k_is, by k_is, by kernel_rfl, by kernel_rfl, by kernel_rfl, by kernel_rfl, by k_is⟩)
    (case ex_NoElement => kernel_rfl)
    (case kv_NoElement => kernel_rfl)
    (case kt_NoElement_NoElement => kernel_rfl)
    (case kt_NoElement_NoPlace => kernel_rfl)
    (case xc_NoPlace => exact ⟨by kernel_rfl, by k_is, by k_is, by k_is, by kernel_rfl, by kernel_rfl, by kernel_rfl, by kernel_rfl, by k_is⟩)
    (case ex_NoPlace => kernel_rfl)
    (case kv_NoPlace => kernel_rfl)
    (case kt_NoPlace_NoElement => kernel_rfl)
    (case kt_NoPlace_NoPlace => kernel_rfl)
    (case a_pop => k_is); (case l_pop => k_is); (case e_pop => k_is); (case k_pop => k_is)
    (case a_lower => k_is); (case l_lower => k_is); (case e_lower => k_is); (case k_lower => k_is); (case g_lower => k_is); (case v_lower => rfl); (case w_lower => rfl)
    (case a_count_in_front => k_is); (case l_count_in_front => k_is); (case e_count_in_front => k_is); (case k_count_in_front => k_is)
    (case a_least => k_is); (case l_least => k_is); (case e_least => k_is); (case k_least => k_is)
    (case a_ends => k_is); (case l_ends => k_is); (case e_ends => k_is); (case k_ends => k_is); (case g_ends => k_is); (case v_ends => rfl); (case w_ends => rfl)
    (case a_nth => k_is); (case l_nth => k_is); (case e_nth => k_is); (case k_nth => k_is)
    (case a_Map___init__ => k_is); (case i_Map___init__ => k_is); (case l_Map___init__ => k_is); (case e_Map___init__ => k_is); (case k_Map___init__ => k_is)
    (case a_Map_get => k_is); (case i_Map_get => k_is); (case l_Map_get => k_is); (case e_Map_get => k_is); (case k_Map_get => k_is)
    (case a_Map_at => k_is); (case i_Map_at => k_is); (case l_Map_at => k_is); (case e_Map_at => k_is); (case k_Map_at => k_is)
    (case a_Map_rank => k_is); (case i_Map_rank => k_is); (case l_Map_rank => k_is); (case e_Map_rank => k_is); (case k_Map_rank => k_is); (case g_Map_rank => k_is); (case v_Map_rank => rfl); (case q_Map_rank => kernel_rfl); (case y_Map_rank => exact hT8 _ (by k_mem))
    (case a_Map_is_like => k_is); (case i_Map_is_like => k_is); (case l_Map_is_like => k_is); (case e_Map_is_like => k_is); (case k_Map_is_like => k_is)
    (case a__law_cell => k_is); (case l__law_cell => k_is); (case e__law_cell => k_is); (case k__law_cell => k_is)
    (case a__law_drawn => k_is); (case l__law_drawn => k_is); (case e__law_drawn => k_is); (case k__law_drawn => k_is)
    (case a__law_word => k_is); (case l__law_word => k_is); (case e__law_word => k_is); (case k__law_word => k_is)
    (case a_law => k_is); (case l_law => k_is); (case e_law => k_is); (case k_law => k_is); (case g_law => k_is); (case v_law => rfl); (case w_law => rfl)
    (case z_len => k_is); (case z_int => k_is); (case z_isinstance => k_is); (case z_ValueError => k_is); (case z_range => k_is); (case z_str => k_is); (case z_list => k_is)
    (case xs_NoElement => kernel_rfl)
    (case xs_NoPlace => kernel_rfl)
    (case n_lower_ends => decide); (case n_lower_Map_rank => decide); (case n_lower_law => decide); (case n_ends_Map_rank => decide); (case n_ends_law => decide); (case n_Map_rank_law => decide)
